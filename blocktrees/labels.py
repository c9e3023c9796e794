"""The problems of a document with labels and headings."""

from blocktrees.nodes import headings, inner_nodes, leaf, walk
from blocktrees.plain import inlines_text
from blocktrees.texts import words


def problem_nodes(blocks):
    return label_problems(walk(blocks, inner_nodes)) + heading_problems(headings(blocks))


def label_problems(nodes):
    identifiers = identifiers_of(nodes)
    references = labels_of("ref", nodes)
    notes = labels_of("note", nodes)
    note_references = labels_of("noteref", nodes)
    return (leaves("repeated-id", repeated(identifiers))
            + leaves("unknown-ref", missing(references, identifiers))
            + leaves("repeated-note", repeated(notes))
            + leaves("unknown-note", missing(note_references, notes))
            + leaves("unused-note", missing(notes, note_references)))


def leaves(symbol, values):
    return [leaf(symbol, [value]) for value in values]


def identifiers_of(nodes):
    identifiers = [identifier_of(node) for node in nodes]
    return [identifier for identifier in identifiers if identifier]


# The empty text for none; what a code block has is a language.
def identifier_of(node):
    if node.symbol == "heading":
        return node.head[1]
    if node.symbol in ("formula", "table", "figure"):
        return node.head[0]
    return ()


def labels_of(symbol, nodes):
    return [node.head[0] for node in nodes if node.symbol == symbol]


def once_each(labels):
    found = {}
    for label in labels:
        found[label] = True
    return list(found)


def repeated(labels):
    return [label for label in once_each(labels) if labels.count(label) > 1]


def missing(labels, known):
    return [label for label in once_each(labels) if label not in known]


def heading_problems(found):
    empty = [heading.head[0] for heading in found if is_empty(heading)]
    return leaves("empty-heading", empty) + leaves("skipped-level", skipped_levels(found))


def is_empty(heading):
    return len(words(inlines_text(heading.children))) == 0


def skipped_levels(found):
    skipped = []
    before = 0
    for heading in found:
        level = heading.head[0]
        if level > before + 1:
            skipped.append(level)
        before = level
    return skipped
