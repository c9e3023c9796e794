"""Slugs, from which identifiers are made."""

from blocktrees.texts import ascii_bytes, is_letter_or_digit, is_uppercase, joined, SPACE, words

LONGEST_SLUG = 30


def slug_of(text):
    spaced = [SPACE if byte in (ord("-"), ord("_")) else byte for byte in text]
    parts = [slug_word(word) for word in words(spaced)]
    slug_text = joined([part for part in parts if part], ascii_bytes("-"))[:LONGEST_SLUG]
    return slug_text if slug_text else ascii_bytes("section")


def slug_word(word):
    return [lower_byte(byte) for byte in word if is_letter_or_digit(byte)]


def lower_byte(byte):
    return byte + ord("a") - ord("A") if is_uppercase(byte) else byte
