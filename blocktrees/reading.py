"""Reading a text as a document, with the errors of the kinds 7 to 9, or as edits."""

from blocktrees.errors import EditsError, NotationError
from blocktrees.expressions import read_expressions
from blocktrees.nodes import Node
from blocktrees.shapes import block_shape, edit_shape, inline_shape, part_shape
from blocktrees.texts import is_letter_or_digit

LONGEST_LABEL = 40
HIGHEST_LEVEL = 6
ALIGNMENTS = ("none", "left", "center", "right")


def read_document(data):
    return [read_block(expression) for expression in read_expressions(data)]


def read_edits(data):
    try:
        return [read_edit(expression) for expression in read_expressions(data)]
    except NotationError:
        raise EditsError() from None


def is_label(text):
    if not 1 <= len(text) <= LONGEST_LABEL:
        return False
    return all([is_label_byte(byte) for byte in text])


def is_label_byte(byte):
    return is_letter_or_digit(byte) or byte in (ord("-"), ord("_"), ord("."), ord(":"))


# "" for an expression that isn't a list with a symbol at its beginning.
def list_symbol(expression):
    if expression.kind != "list" or not expression.value:
        return ""
    first = expression.value[0]
    return first.value if first.kind == "symbol" else ""


def read_block(expression):
    return read_shaped(expression, block_shape(list_symbol(expression)))


def read_edit(expression):
    return read_shaped(expression, edit_shape(list_symbol(expression)))


def read_inline(expression):
    if expression.kind == "string":
        return expression.value
    return read_shaped(expression, inline_shape(list_symbol(expression)))


def read_shaped(expression, shape):
    if shape is None:
        raise NotationError(7, expression.position)
    arguments = expression.value[1:]
    if not shape.allows_number(len(arguments)):
        raise NotationError(8, expression.position)
    if shape.begins_with_integer() and arguments[0].kind != "integer":
        raise NotationError(8, expression.position)
    return read_list(expression, shape)


def read_list(expression, shape):
    arguments = expression.value[1:]
    head = [read_argument(kind, argument) for kind, argument in zip(shape.leading, arguments)]
    rest = arguments[len(head):]
    if shape.following == "row":
        columns = len(head[-1].children)
        children = [read_row(argument, columns) for argument in rest]
    else:
        children = [read_argument(shape.following, argument) for argument in rest]
    return Node(list_symbol(expression), head, children, shape.following)


def read_argument(kind, expression):
    if kind == "block":
        return read_block(expression)
    if kind == "inline":
        return read_inline(expression)
    if kind == "inlines":
        return Node("", [], [read_inline(part) for part in expression.value], "inline")
    if kind in ("text", "identifier", "label"):
        return read_string(kind, expression)
    if kind == "level":
        return read_level(expression)
    if kind == "number":
        return expression.value
    if kind == "alignment":
        return read_alignment(expression)
    return read_part(kind, expression)


def read_string(kind, expression):
    if expression.kind != "string":
        raise NotationError(8, expression.position)
    text = expression.value
    if kind == "text" or is_label(text) or (kind == "identifier" and len(text) == 0):
        return text
    raise NotationError(9, expression.position)


def is_level(number):
    return 1 <= number <= HIGHEST_LEVEL


def read_level(expression):
    if not is_level(expression.value):
        raise NotationError(9, expression.position)
    return expression.value


def read_alignment(expression):
    if expression.kind != "symbol":
        raise NotationError(8, expression.position)
    if expression.value not in ALIGNMENTS:
        raise NotationError(9, expression.position)
    return expression.value


def read_part(symbol, expression):
    require_part(symbol, expression)
    part = read_list(expression, part_shape(symbol))
    if symbol == "align" and not part.children:
        raise NotationError(8, expression.position)
    return part


def require_part(symbol, expression):
    if list_symbol(expression) != symbol:
        raise NotationError(8, expression.position)
    if symbol == "term" and not begins_with_list(expression.value[1:]):
        raise NotationError(8, expression.position)


def begins_with_list(arguments):
    return len(arguments) > 0 and arguments[0].kind == "list"


def read_row(expression, columns):
    require_part("row", expression)
    if len(expression.value) - 1 != columns:
        raise NotationError(9, expression.position)
    return read_part("row", expression)
