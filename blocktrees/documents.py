"""The operations on documents."""

from blocktrees.errors import NotationError
from blocktrees.labels import problem_nodes
from blocktrees.normal import normal_blocks
from blocktrees.plain import blocks_text
from blocktrees.reading import read_document
from blocktrees.slugs import slug_of
from blocktrees.summaries import count_all, outline_nodes
from blocktrees.texts import is_utf8
from blocktrees.writing import write_nodes


def with_length(data):
    return [len(data)] + data


# -20: the tree isn't the notation of a document.
def answer(tree, operation):
    try:
        blocks = read_document(tree)
    except NotationError:
        return [-20]
    return operation(blocks)


def answer_text(tree, operation):
    return answer(tree, lambda blocks: with_length(operation(blocks)))


def check(tree):
    try:
        blocks = read_document(tree)
    except NotationError as error:
        return [error.kind, error.position]
    return [0, len(blocks)]


def canonical(tree):
    return answer_text(tree, write_nodes)


def normalize(tree):
    return answer_text(tree, lambda blocks: write_nodes(normal_blocks(blocks)))


def plain_text(tree):
    return answer_text(tree, blocks_text)


def counts(tree):
    return answer(tree, count_all)


def outline(tree):
    return answer_text(tree, lambda blocks: write_nodes(outline_nodes(blocks)))


def problems(tree):
    return answer_text(tree, lambda blocks: write_nodes(problem_nodes(blocks)))


def slug(text):
    if not is_utf8(text):
        return [-24]
    return with_length(slug_of(text))
