"""Reading a text as expressions, with the errors of the kinds 1 to 6."""

from blocktrees.errors import NotationError
from blocktrees.texts import encoded, is_digit, is_lowercase, is_space, sequence_length
from blocktrees.texts import LINE_FEED, SPACE, TAB

DEEPEST_NESTING = 16
MOST_DIGITS = 6
LARGEST_CODE = 0x10FFFF
LETTERS = "abcdefghijklmnopqrstuvwxyz"
DIGITS = "0123456789"


# The kinds are "list" (the value is a list of expressions), "string" (a tuple
# of bytes), "integer" and "symbol" (a text).
class Expression:
    def __init__(self, kind, value, position):
        self.kind = kind
        self.value = value
        self.position = position


def is_symbol_byte(byte):
    return is_lowercase(byte) or is_digit(byte) or byte == ord("-")


def symbol_sign(byte):
    if is_lowercase(byte):
        return LETTERS[byte - ord("a")]
    if is_digit(byte):
        return DIGITS[byte - ord("0")]
    return "-"


def hex_value(byte):
    if is_digit(byte):
        return byte - ord("0")
    return byte - ord("a") + 10


def is_hex_digit(byte):
    return is_digit(byte) or ord("a") <= byte <= ord("f")


def is_code_point(code):
    return code <= LARGEST_CODE and not 0xD800 <= code <= 0xDFFF


class Reader:
    def __init__(self, data):
        self.data = list(data)
        self.position = 0
        # The expressions outside of all lists, then those of each open list.
        self.levels = [[]]

    def read_all(self):
        self.skip_blanks()
        while self.position < len(self.data):
            self.read_next()
            self.skip_blanks()
        if len(self.levels) > 1:
            raise NotationError(1, len(self.data))
        return self.levels[0]

    def skip_blanks(self):
        in_comment = False
        while self.position < len(self.data):
            byte = self.data[self.position]
            if byte == ord(";"):
                in_comment = True
            elif byte == LINE_FEED:
                in_comment = False
            elif not in_comment and not is_space(byte):
                return
            self.position += 1

    def read_next(self):
        byte = self.data[self.position]
        if byte == ord("("):
            self.begin_list()
        elif byte == ord(")"):
            self.end_list()
        elif byte == ord("\""):
            self.read_string()
        elif is_digit(byte):
            self.read_integer()
        elif is_lowercase(byte):
            self.read_symbol()
        else:
            raise NotationError(2, self.position)

    def add_expression(self, kind, value, position):
        self.levels[-1].append(Expression(kind, value, position))

    def begin_list(self):
        if len(self.levels) > DEEPEST_NESTING:
            raise NotationError(6, self.position)
        parts = []
        self.add_expression("list", parts, self.position)
        self.levels.append(parts)
        self.position += 1

    def end_list(self):
        if len(self.levels) == 1:
            raise NotationError(2, self.position)
        self.levels.pop()
        self.position += 1

    def read_integer(self):
        start = self.position
        digits = self.take_while(is_digit)
        if len(digits) > MOST_DIGITS or (len(digits) > 1 and digits[0] == ord("0")):
            raise NotationError(5, start)
        value = 0
        for digit in digits:
            value = value * 10 + digit - ord("0")
        self.add_expression("integer", value, start)

    def read_symbol(self):
        start = self.position
        signs = [symbol_sign(byte) for byte in self.take_while(is_symbol_byte)]
        self.add_expression("symbol", "".join(signs), start)

    def take_while(self, fits):
        start = self.position
        while self.position < len(self.data) and fits(self.data[self.position]):
            self.position += 1
        return self.data[start:self.position]

    def read_string(self):
        start = self.position
        self.position += 1
        content = []
        while self.string_byte() != ord("\""):
            if self.string_byte() == ord("\\"):
                content.extend(self.read_escape())
            else:
                content.extend(self.read_character())
        self.position += 1
        self.add_expression("string", tuple(content), start)

    def string_byte(self):
        if self.position == len(self.data):
            raise NotationError(1, len(self.data))
        return self.data[self.position]

    def read_character(self):
        start = self.position
        if self.data[start] < SPACE:
            raise NotationError(2, start)
        length = sequence_length(self.data, start)
        if length == 0:
            raise NotationError(4, start)
        self.position += length
        return self.data[start:self.position]

    def read_escape(self):
        start = self.position
        self.position += 1
        byte = self.string_byte()
        self.position += 1
        if byte in (ord("\""), ord("\\")):
            return [byte]
        if byte == ord("n"):
            return [LINE_FEED]
        if byte == ord("t"):
            return [TAB]
        if byte == ord("u"):
            return encoded(self.read_code_point(start))
        raise NotationError(3, start)

    def read_code_point(self, backslash):
        has_opening = self.skip_sign("{")
        digits = self.take_while(is_hex_digit)
        has_closing = self.skip_sign("}")
        if not (has_opening and has_closing and 1 <= len(digits) <= MOST_DIGITS):
            raise NotationError(3, backslash)
        code = 0
        for digit in digits:
            code = code * 16 + hex_value(digit)
        if not is_code_point(code):
            raise NotationError(3, backslash)
        return code

    def skip_sign(self, sign):
        if self.data[self.position:self.position + 1] != [ord(sign)]:
            return False
        self.position += 1
        return True


def read_expressions(data):
    return Reader(data).read_all()
