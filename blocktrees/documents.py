"""The operations on documents."""

from blocktrees.errors import NotationError
from blocktrees.normal import normal_blocks
from blocktrees.plain import blocks_text
from blocktrees.reading import read_document
from blocktrees.writing import write_nodes


def with_length(data):
    return [len(data)] + data


# -20: the tree isn't the notation of a document.
def answer(tree, operation):
    try:
        blocks = read_document(tree)
    except NotationError:
        return [-20]
    return operation(blocks)


def answer_text(tree, operation):
    return answer(tree, lambda blocks: with_length(operation(blocks)))


def check(tree):
    try:
        blocks = read_document(tree)
    except NotationError as error:
        return [error.kind, error.position]
    return [0, len(blocks)]


def canonical(tree):
    return answer_text(tree, write_nodes)


def normalize(tree):
    return answer_text(tree, lambda blocks: write_nodes(normal_blocks(blocks)))


def plain_text(tree):
    return answer_text(tree, blocks_text)
