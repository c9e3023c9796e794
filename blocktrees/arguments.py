"""Reading the texts that are handed in beside notations."""

from blocktrees.errors import ChoiceError, EncodingError
from blocktrees.shapes import BLOCKS
from blocktrees.texts import ascii_bytes, is_utf8


def read_text(text):
    if not is_utf8(text):
        raise EncodingError()
    return text


def read_kind(text):
    read_text(text)
    for symbol in BLOCKS:
        if ascii_bytes(symbol) == text:
            return symbol
    raise ChoiceError()
