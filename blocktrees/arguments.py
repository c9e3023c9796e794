"""Reading what is handed in beside notations and paths."""

from blocktrees.errors import ChoiceError, EncodingError
from blocktrees.reading import is_label
from blocktrees.shapes import BLOCKS, STYLES
from blocktrees.texts import ascii_bytes, is_utf8

MOST_LEVELS = 5


def read_text(text):
    if not is_utf8(text):
        raise EncodingError()
    return tuple(text)


def read_label(text):
    label = read_text(text)
    if not is_label(label):
        raise ChoiceError()
    return label


def read_kind(text):
    return read_symbol(text, list(BLOCKS))


def read_style(text):
    return read_symbol(text, list(STYLES))


def read_symbol(text, symbols):
    content = list(read_text(text))
    for symbol in symbols:
        if ascii_bytes(symbol) == content:
            return symbol
    raise ChoiceError()


# The number that is added to each level.
def read_shift(up, amount):
    if up > 1 or amount > MOST_LEVELS:
        raise ChoiceError()
    return -amount if up == 1 else amount
