"""The normal form of a list of blocks."""

from blocktrees.nodes import Node
from blocktrees.runs import normal_inlines


def normal_blocks(blocks):
    normal = []
    for block in blocks:
        for remaining in normal_block(block):
            append_joined(normal, remaining)
    return normal


# A list, since a block may vanish or leave its blocks in its place.
def normal_block(block):
    normal = with_normal_lists(block)
    if normal.symbol in ("para", "quote", "group") and not normal.children:
        return []
    if normal.symbol == "group" and not normal.head[0].children:
        return normal.children
    return [normal]


def with_normal_lists(node):
    head = [with_normal_lists(part) if isinstance(part, Node) else part for part in node.head]
    return Node(node.symbol, head, normal_children(node), node.holds)


def normal_children(node):
    if node.holds == "inline":
        return normal_inlines(node.children)
    if node.holds == "block":
        return normal_blocks(node.children)
    if node.holds in ("item", "term", "row", "cell"):
        return [with_normal_lists(child) for child in node.children]
    return node.children


def append_joined(blocks, block):
    if blocks and are_joined(blocks[-1], block):
        blocks[-1] = join_two(blocks[-1], block)
    else:
        blocks.append(block)


def are_joined(first, second):
    if first.symbol != second.symbol:
        return False
    if first.symbol == "numbers":
        return second.head[0] == first.head[0] + len(first.children)
    return first.symbol in ("quote", "bullets")


def join_two(first, second):
    children = list(first.children)
    for child in second.children:
        # Only blocks are joined where they meet, items are not.
        if first.symbol == "quote":
            append_joined(children, child)
        else:
            children.append(child)
    return first.with_children(children)
