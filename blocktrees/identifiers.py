"""Making identifiers for the headings that have none."""

from blocktrees.labels import identifiers_of
from blocktrees.nodes import changed_nodes, inner_blocks, walk
from blocktrees.plain import inlines_text
from blocktrees.slugs import slug_of
from blocktrees.texts import ascii_bytes


class Identifiers:
    def __init__(self, identifiers):
        self.taken = {}
        for identifier in identifiers:
            self.taken[identifier] = True

    def take_free(self, text):
        slug_text = slug_of(text)
        identifier = tuple(slug_text)
        number = 1
        while identifier in self.taken:
            number += 1
            identifier = tuple(slug_text + ascii_bytes("-" + str(number)))
        self.taken[identifier] = True
        return identifier

    def identified(self, node):
        if node.symbol != "heading" or node.head[1]:
            return node
        identifier = self.take_free(inlines_text(node.children))
        return node.with_head([node.head[0], identifier])


def identified_blocks(blocks):
    # Also those further behind are in use from the beginning.
    known = Identifiers(identifiers_of(walk(blocks, inner_blocks)))
    return changed_nodes(blocks, lambda node: known.identified(node))
