"""Renaming the labels of a document."""

from blocktrees.errors import TakenError
from blocktrees.labels import label_of, with_label
from blocktrees.nodes import changed_parts, inner_nodes, walk


def with_renamed_label(old, new, blocks):
    if new != old and has_label(new, blocks):
        raise TakenError()
    return changed_parts(blocks, lambda node: renamed(old, new, node))


def has_label(label, blocks):
    return any([label_of(node) == label for node in walk(blocks, inner_nodes)])


def renamed(old, new, node):
    return with_label(node, new) if label_of(node) == old else node
