"""Changing the levels of headings."""

from blocktrees.errors import MisfitError
from blocktrees.nodes import changed_parts
from blocktrees.reading import is_level


def with_shifted_headings(shift, blocks):
    return changed_parts(blocks, lambda node: shifted(shift, node))


def shifted(shift, node):
    if node.symbol != "heading":
        return node
    level = node.head[0] + shift
    if not is_level(level):
        raise MisfitError()
    return node.with_head([level] + node.head[1:])
