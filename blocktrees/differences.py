"""The difference of two documents, and performing edits."""

from blocktrees.errors import MisfitError
from blocktrees.nodes import leaf, Node
from blocktrees.writing import write_list


# A block, and the symbol of the edit that it is kept, removed or inserted by.
class Step:
    def __init__(self, symbol, block):
        self.symbol = symbol
        self.block = block


def difference_edits(first, second):
    return joined_edits(steps_between(first, second))


def steps_between(first, second):
    old = [write_list(block) for block in first]
    new = [write_list(block) for block in second]
    lengths = common_lengths(old, new)
    steps = []
    here = 0
    there = 0
    while here < len(old) and there < len(new):
        if old[here] == new[there]:
            steps.append(Step("keep", first[here]))
            here += 1
            there += 1
        elif lengths[here + 1][there] >= lengths[here][there + 1]:
            steps.append(Step("remove", first[here]))
            here += 1
        else:
            steps.append(Step("insert", second[there]))
            there += 1
    removed = [Step("remove", block) for block in first[here:]]
    return steps + removed + [Step("insert", block) for block in second[there:]]


# lengths[here][there] is that of the longest common subsequence of what is old
# from here on and what is new from there on.
def common_lengths(old, new):
    lengths = [[0] * (len(new) + 1) for here in range(len(old) + 1)]
    for here in range(len(old) - 1, -1, -1):
        for there in range(len(new) - 1, -1, -1):
            if old[here] == new[there]:
                lengths[here][there] = lengths[here + 1][there + 1] + 1
            else:
                lengths[here][there] = max(lengths[here + 1][there], lengths[here][there + 1])
    return lengths


def joined_edits(steps):
    edits = []
    start = 0
    while start < len(steps):
        end = start + 1
        while end < len(steps) and steps[end].symbol == steps[start].symbol:
            end += 1
        edits.append(edit_of(steps[start].symbol, [step.block for step in steps[start:end]]))
        start = end
    return edits


def edit_of(symbol, blocks):
    if symbol == "insert":
        return Node(symbol, [], blocks, "block")
    return leaf(symbol, [len(blocks)])


def patched(edits, blocks):
    changed = []
    place = 0
    for edit in edits:
        if edit.symbol == "insert":
            changed.extend(edit.children)
        else:
            end = place + edit.head[0]
            if end > len(blocks):
                raise MisfitError()
            if edit.symbol == "keep":
                changed.extend(blocks[place:end])
            place = end
    if place < len(blocks):
        raise MisfitError()
    return changed
