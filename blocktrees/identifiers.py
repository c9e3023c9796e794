"""Making identifiers for the headings that have none."""

from blocktrees.labels import identifiers_of, label_of, with_label
from blocktrees.nodes import changed_parts, inner_blocks, walk
from blocktrees.plain import inlines_text
from blocktrees.slugs import slug_of
from blocktrees.texts import ascii_bytes


class Identifiers:
    def __init__(self, identifiers):
        self.taken = {}
        for identifier in identifiers:
            self.taken[identifier] = True

    def take_free(self, text):
        slug_text = slug_of(text)
        identifier = tuple(slug_text)
        number = 1
        while identifier in self.taken:
            number += 1
            identifier = tuple(slug_text + ascii_bytes("-" + str(number)))
        self.taken[identifier] = True
        return identifier

    def identified(self, node):
        if node.symbol != "heading" or label_of(node):
            return node
        return with_label(node, self.take_free(inlines_text(node.children)))


def identified_blocks(blocks):
    # Also those further behind are in use from the beginning.
    known = Identifiers(identifiers_of(walk(blocks, inner_blocks)))
    return changed_parts(blocks, lambda node: known.identified(node))
