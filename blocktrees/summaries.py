"""What is told of a whole document: its counts and its outline."""

from blocktrees.nodes import headings, inner_blocks, leaf, walk
from blocktrees.plain import blocks_text, inlines_text
from blocktrees.runs import normal_inlines
from blocktrees.texts import is_continuation, is_space, words


def count_all(blocks):
    text = blocks_text(blocks)
    parts = len(walk(blocks, inner_blocks))
    return [len(blocks), parts, len(words(text)), count_characters(text), len(headings(blocks))]


def count_characters(text):
    # Each character has one byte that continues no other one.
    return len([byte for byte in text if not is_space(byte) and not is_continuation(byte)])


def outline_nodes(blocks):
    return [outline_node(heading) for heading in headings(blocks)]


def outline_node(heading):
    text = inlines_text(normal_inlines(heading.children))
    return leaf("heading", heading.head + [tuple(text)])
