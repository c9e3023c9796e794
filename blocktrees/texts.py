"""Texts. Each text is held as the bytes of its UTF-8, since that is how it comes and goes."""

SPACE = 32
TAB = 9
LINE_FEED = 10
CARRIAGE_RETURN = 13


def ascii_bytes(text):
    return [ord(sign) for sign in text]


def is_space(byte):
    return byte in (SPACE, TAB, LINE_FEED, CARRIAGE_RETURN)


def is_lowercase(byte):
    return ord("a") <= byte <= ord("z")


def is_uppercase(byte):
    return ord("A") <= byte <= ord("Z")


def is_digit(byte):
    return ord("0") <= byte <= ord("9")


def is_letter_or_digit(byte):
    return is_lowercase(byte) or is_uppercase(byte) or is_digit(byte)


def is_continuation(byte):
    return 0x80 <= byte <= 0xBF


def announced_length(first):
    # 0xC0, 0xC1 and the bytes from 0xF5 on could only begin overlong forms
    # and code points that are too great.
    if first < 0x80:
        return 1
    if 0xC2 <= first <= 0xDF:
        return 2
    if 0xE0 <= first <= 0xEF:
        return 3
    if 0xF0 <= first <= 0xF4:
        return 4
    return 0


def second_byte_fits(first, second):
    # The other first bytes allow every continuation byte; these ones would
    # also allow overlong forms, surrogates and code points above U+10FFFF.
    if first == 0xE0:
        return second >= 0xA0
    if first == 0xED:
        return second <= 0x9F
    if first == 0xF0:
        return second >= 0x90
    if first == 0xF4:
        return second <= 0x8F
    return True


# The answer 0 means that no valid sequence stands there.
def sequence_length(data, start):
    length = announced_length(data[start])
    rest = data[start + 1:start + length]
    if len(rest) < length - 1:
        return 0
    for byte in rest:
        if not is_continuation(byte):
            return 0
    if rest and not second_byte_fits(data[start], rest[0]):
        return 0
    return length


def is_utf8(data):
    position = 0
    while position < len(data):
        length = sequence_length(data, position)
        if length == 0:
            return False
        position += length
    return True


def encoded(code):
    if code < 0x80:
        return [code]
    if code < 0x800:
        return [0xC0 + (code >> 6), continuation(code)]
    if code < 0x10000:
        return [0xE0 + (code >> 12), continuation(code >> 6), continuation(code)]
    return [0xF0 + (code >> 18), continuation(code >> 12), continuation(code >> 6), continuation(code)]


def continuation(code):
    return 0x80 + code % 64


# White space and words, in turn.
def pieces(text):
    found = []
    for byte in text:
        if found and is_space(found[-1][-1]) == is_space(byte):
            found[-1].append(byte)
        else:
            found.append([byte])
    return found


def words(text):
    return [piece for piece in pieces(text) if not is_space(piece[0])]


def joined(texts, separator):
    whole = []
    for place, text in enumerate(texts):
        if place > 0:
            whole.extend(separator)
        whole.extend(text)
    return whole
