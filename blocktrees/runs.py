"""The normal form of a list of inline forms."""

from blocktrees.nodes import leaf
from blocktrees.shapes import STYLES
from blocktrees.texts import is_space, pieces, SPACE


# content: a text (of a word or of white space) or a node. wrappers: the nodes
# around it, the outermost one first; their children don't count.
class Run:
    def __init__(self, content, wrappers):
        self.content = content
        self.wrappers = wrappers

    def is_text(self):
        return isinstance(self.content, tuple)

    def is_break(self):
        return not self.is_text() and self.content.symbol == "break"

    def is_in_gap(self):
        return self.is_break() or (self.is_text() and is_space(self.content[0]))

    def unwrapped(self):
        return Run(self.content, self.wrappers[1:])


def normal_inlines(inlines):
    return build_inlines(replace_gaps(divide(inlines, [])))


def divide(inlines, wrappers):
    runs = []
    for inline in inlines:
        if isinstance(inline, tuple):
            runs.extend([Run(tuple(piece), wrappers) for piece in pieces(inline)])
        elif is_wrapping(inline.symbol):
            runs.extend(divide(inline.children, add_wrapper(wrappers, inline)))
        elif inline.symbol == "image":
            runs.append(Run(inline.with_children(normal_inlines(inline.children)), wrappers))
        else:
            runs.append(Run(inline, wrappers))
    return runs


def is_wrapping(symbol):
    return symbol in STYLES or symbol in ("link", "span")


def add_wrapper(wrappers, node):
    if is_left_out(node, wrappers):
        return wrappers
    return wrappers + [node]


def is_left_out(node, wrappers):
    if node.symbol == "span":
        return len(span_classes(node)) == 0
    return any([wrapper.symbol == node.symbol for wrapper in wrappers])


def span_classes(span):
    return span.head[0].children


def are_equal(first, second):
    if first.symbol != second.symbol:
        return False
    if first.symbol == "span":
        return span_classes(first) == span_classes(second)
    return first.head == second.head


def replace_gaps(runs):
    replaced = []
    gap = []
    for run in runs:
        if run.is_in_gap():
            gap.append(run)
        else:
            # A gap at the beginning has no run before it; one at the end
            # never gets here.
            if replaced:
                replaced.extend(gap_runs(gap, replaced[-1], run))
            replaced.append(run)
            gap = []
    return replaced


def gap_runs(gap, before, after):
    wrappers = common_wrappers(before.wrappers, after.wrappers)
    breaks = [Run(leaf("break", []), wrappers) for run in gap if run.is_break()]
    if gap and not breaks:
        return [Run((SPACE,), wrappers)]
    return breaks


def common_wrappers(first, second):
    common = []
    for wrapper, other in zip(first, second):
        if not are_equal(wrapper, other):
            break
        common.append(wrapper)
    return common


def build_inlines(runs):
    inlines = []
    start = 0
    while start < len(runs):
        end = group_end(runs, start)
        inlines.append(build_group(runs[start:end]))
        start = end
    return inlines


def group_end(runs, start):
    end = start + 1
    while end < len(runs) and are_grouped(runs[start], runs[end]):
        end += 1
    return end


def are_grouped(first, second):
    if first.wrappers and second.wrappers:
        return are_equal(first.wrappers[0], second.wrappers[0])
    if first.wrappers or second.wrappers:
        return False
    return first.is_text() and second.is_text()


def build_group(runs):
    first = runs[0]
    if first.wrappers:
        return first.wrappers[0].with_children(build_inlines([run.unwrapped() for run in runs]))
    if not first.is_text():
        return first.content
    text = []
    for run in runs:
        text.extend(run.content)
    return tuple(text)
