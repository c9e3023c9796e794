"""The canonical notation."""

from blocktrees.nodes import Node
from blocktrees.texts import ascii_bytes, joined, LINE_FEED, SPACE, TAB

HEX_DIGITS = "0123456789abcdef"


def write_nodes(nodes):
    return joined([write_list(node) for node in nodes], [LINE_FEED])


def write_list(node):
    parts = [write_part(part) for part in node.head + node.children]
    if node.symbol:
        parts.insert(0, ascii_bytes(node.symbol))
    return ascii_bytes("(") + joined(parts, [SPACE]) + ascii_bytes(")")


def write_part(part):
    if isinstance(part, Node):
        return write_list(part)
    if isinstance(part, tuple):
        return write_string(part)
    return ascii_bytes(str(part))


def write_string(text):
    written = ascii_bytes("\"")
    for byte in text:
        written.extend(write_byte(byte))
    return written + ascii_bytes("\"")


def write_byte(byte):
    if byte in (ord("\""), ord("\\")):
        return [ord("\\"), byte]
    if byte == LINE_FEED:
        return ascii_bytes("\\n")
    if byte == TAB:
        return ascii_bytes("\\t")
    if byte < SPACE:
        return ascii_bytes("\\u{" + short_hex(byte) + "}")
    return [byte]


def short_hex(number):
    if number < 16:
        return HEX_DIGITS[number]
    return HEX_DIGITS[number // 16] + HEX_DIGITS[number % 16]
