"""Documents: a document is a list of nodes, one for each block."""


# A list of the notation. symbol: "" for a list that has none (the term of a
# term list). head: its arguments that stand once. children: its repeated
# arguments. holds: the kind of these ("block", "inline", "item", ..), "" for
# none. A text is a tuple of bytes, a symbol that is an argument a text of
# Python, a level or a start a whole number.
class Node:
    def __init__(self, symbol, head, children, holds):
        self.symbol = symbol
        self.head = head
        self.children = children
        self.holds = holds

    def with_head(self, head):
        return Node(self.symbol, head, self.children, self.holds)

    def with_children(self, children):
        return Node(self.symbol, self.head, children, self.holds)


def leaf(symbol, head):
    return Node(symbol, head, [], "")


def inner_nodes(node):
    return [part for part in node.head + node.children if isinstance(part, Node)]


# The blocks, items and entries that stand right within one of these.
def inner_blocks(node):
    if node.holds in ("block", "item", "term"):
        return node.children
    return []


# All nodes in the order of the notation, at any depth.
def walk(nodes, inner):
    found = []
    waiting = list(reversed(nodes))
    while waiting:
        node = waiting.pop()
        found.append(node)
        waiting.extend(list(reversed(inner(node))))
    return found


def headings(blocks):
    return [node for node in walk(blocks, inner_blocks) if node.symbol == "heading"]


# The nodes among these parts, and all nodes within them, changed one by one
# from left to right. What stands within a node is changed ahead of it, so that
# change is handed a node whose parts are changed ones.
def changed_parts(parts, change):
    return [changed_part(part, change) for part in parts]


def changed_part(part, change):
    if not isinstance(part, Node):
        return part
    head = changed_parts(part.head, change)
    children = changed_parts(part.children, change)
    return change(Node(part.symbol, head, children, part.holds))
