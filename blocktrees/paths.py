"""The parts of a document: the lists of blocks in it, and the paths that lead there.

A path is a list of indices: that of a block, that of one of its lists, that
of a block in this list, and so on.
"""

from blocktrees.errors import NestingError, NowhereError
from blocktrees.expressions import DEEPEST_NESTING
from blocktrees.nodes import inner_nodes


def lists_of(block):
    if block.holds == "block":
        return [block.children]
    if block.holds in ("item", "term"):
        return [part.children for part in block.children]
    return []


def with_lists(block, lists):
    if block.holds == "block":
        return block.with_children(lists[0])
    return block.with_children([part.with_children(inner) for part, inner in zip(block.children, lists)])


# The paths of all blocks with this symbol, at any depth; start leads to the
# list that these blocks are.
def paths_of(symbol, blocks, start):
    found = []
    for index, block in enumerate(blocks):
        path = start + [index]
        if block.symbol == symbol:
            found.append(path)
        for place, inner in enumerate(lists_of(block)):
            found.extend(paths_of(symbol, inner, path + [place]))
    return found


def part_at(index, parts):
    if index >= len(parts):
        raise NowhereError()
    return parts[index]


def require_odd(path):
    if len(path) % 2 == 0:
        raise NowhereError()


def block_of(path, blocks):
    require_odd(path)
    block = part_at(path[0], blocks)
    for step in range(1, len(path), 2):
        block = part_at(path[step + 1], part_at(path[step], lists_of(block)))
    return block


def spliced(count, path, inserted, blocks):
    require_odd(path)
    changed = spliced_list(count, path, inserted, blocks)
    if nesting(changed) > DEEPEST_NESTING:
        raise NestingError()
    return changed


def spliced_list(count, path, inserted, blocks):
    first = path[0]
    if len(path) == 1:
        if first + count > len(blocks):
            raise NowhereError()
        return blocks[:first] + inserted + blocks[first + count:]
    block = part_at(first, blocks)
    lists = lists_of(block)
    inner = part_at(path[1], lists)
    lists[path[1]] = spliced_list(count, path[2:], inserted, inner)
    return blocks[:first] + [with_lists(block, lists)] + blocks[first + 1:]


def nesting(nodes):
    return max([1 + nesting(inner_nodes(node)) for node in nodes], default=0)
