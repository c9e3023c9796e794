"""The labels of a document, and the problems with them and with headings."""

from blocktrees.nodes import headings, inner_nodes, leaf, walk
from blocktrees.plain import inlines_text
from blocktrees.texts import words

# Where the label, or the identifier, stands in the head of what has one.
# What a code block has is a language.
LABEL_PLACES = {"heading": 1, "formula": 0, "table": 0, "figure": 0, "note": 0, "noteref": 0, "ref": 0}
IDENTIFIED = ("heading", "formula", "table", "figure")


# The empty text for none.
def label_of(node):
    return node.head[LABEL_PLACES[node.symbol]] if node.symbol in LABEL_PLACES else ()


def with_label(node, label):
    head = list(node.head)
    head[LABEL_PLACES[node.symbol]] = label
    return node.with_head(head)


def identifiers_of(nodes):
    labels = [label_of(node) for node in nodes if node.symbol in IDENTIFIED]
    return [label for label in labels if label]


def labels_of(symbol, nodes):
    return [label_of(node) for node in nodes if node.symbol == symbol]


def problem_nodes(blocks):
    return label_problems(walk(blocks, inner_nodes)) + heading_problems(headings(blocks))


def label_problems(nodes):
    identifiers = identifiers_of(nodes)
    references = labels_of("ref", nodes)
    notes = labels_of("note", nodes)
    note_references = labels_of("noteref", nodes)
    return (leaves("repeated-id", repeated(identifiers))
            + leaves("unknown-ref", missing(references, identifiers))
            + leaves("repeated-note", repeated(notes))
            + leaves("unknown-note", missing(note_references, notes))
            + leaves("unused-note", missing(notes, note_references)))


def leaves(symbol, values):
    return [leaf(symbol, [value]) for value in values]


def once_each(labels):
    found = {}
    for label in labels:
        found[label] = True
    return list(found)


def repeated(labels):
    return [label for label in once_each(labels) if labels.count(label) > 1]


def missing(labels, known):
    return [label for label in once_each(labels) if label not in known]


def heading_problems(found):
    empty = [heading.head[0] for heading in found if is_empty(heading)]
    return leaves("empty-heading", empty) + leaves("skipped-level", skipped_levels(found))


def is_empty(heading):
    return len(words(inlines_text(heading.children))) == 0


def skipped_levels(found):
    skipped = []
    before = 0
    for heading in found:
        level = heading.head[0]
        if level > before + 1:
            skipped.append(level)
        before = level
    return skipped
