"""Changing the inline forms of a document, wherever they stand."""

from blocktrees.errors import ChoiceError
from blocktrees.nodes import changed_parts, Node


# change gives back the list that is put in the place of an inline form.
def with_changed_inlines(change, blocks):
    return changed_parts(blocks, lambda node: with_own_inlines_changed(change, node))


def with_own_inlines_changed(change, node):
    if node.holds != "inline":
        return node
    children = []
    for inline in node.children:
        children.extend(change(inline))
    return node.with_children(children)


def with_replaced_text(old, new, blocks):
    if len(old) == 0:
        raise ChoiceError()
    return with_changed_inlines(lambda inline: [replaced(old, new, inline)], blocks)


# Bytes are compared: no character of UTF-8 begins within another one.
def replaced(old, new, inline):
    if isinstance(inline, Node):
        return inline
    text = []
    place = 0
    while place < len(inline):
        if inline[place:place + len(old)] == old:
            text.extend(new)
            place += len(old)
        else:
            text.append(inline[place])
            place += 1
    return tuple(text)


def without_style(style, blocks):
    return with_changed_inlines(lambda inline: unstyled(style, inline), blocks)


def unstyled(style, inline):
    if isinstance(inline, Node) and inline.symbol == style:
        return inline.children
    return [inline]
