"""Reading what is handed in beside notations and paths."""

from blocktrees.errors import ChoiceError, EncodingError
from blocktrees.shapes import BLOCKS
from blocktrees.texts import ascii_bytes, is_utf8

MOST_LEVELS = 5


def read_text(text):
    if not is_utf8(text):
        raise EncodingError()
    return text


def read_kind(text):
    read_text(text)
    for symbol in BLOCKS:
        if ascii_bytes(symbol) == text:
            return symbol
    raise ChoiceError()


# The number that is added to each level.
def read_shift(up, amount):
    if up > 1 or amount > MOST_LEVELS:
        raise ChoiceError()
    return -amount if up == 1 else amount
