"""The operations on documents.

What is handed in is read in the order of the parameters, since the answer is
the code of the first thing that must be refused.
"""

from blocktrees.arguments import read_kind, read_label, read_shift, read_style, read_text
from blocktrees.differences import difference_edits, patched
from blocktrees.errors import NotationError, Refusal
from blocktrees.identifiers import identified_blocks
from blocktrees.inlines import with_replaced_text, without_style
from blocktrees.labels import problem_nodes
from blocktrees.levels import with_shifted_headings
from blocktrees.normal import normal_blocks
from blocktrees.paths import block_of, paths_of, spliced
from blocktrees.plain import blocks_text
from blocktrees.reading import read_document, read_edits
from blocktrees.renaming import with_renamed_label
from blocktrees.sectioning import section_blocks, sections_of, with_moved_section
from blocktrees.slugs import slug_of
from blocktrees.summaries import count_all, outline_nodes
from blocktrees.writing import write_list, write_nodes


def answer(operation):
    try:
        return operation()
    except Refusal as refusal:
        return [refusal.code]


def answer_text(operation):
    return answer(lambda: with_length(operation()))


def with_length(data):
    return [len(data)] + data


def check(tree):
    try:
        blocks = read_document(tree)
    except NotationError as error:
        return [error.kind, error.position]
    return [0, len(blocks)]


def canonical(tree):
    return answer_text(lambda: write_nodes(read_document(tree)))


def normalize(tree):
    return answer_text(lambda: write_nodes(normal_blocks(read_document(tree))))


def plain_text(tree):
    return answer_text(lambda: blocks_text(read_document(tree)))


def counts(tree):
    return answer(lambda: count_all(read_document(tree)))


def outline(tree):
    return answer_text(lambda: write_nodes(outline_nodes(read_document(tree))))


def problems(tree):
    return answer_text(lambda: write_nodes(problem_nodes(read_document(tree))))


def slug(text):
    return answer_text(lambda: slug_of(read_text(text)))


def identify(tree):
    return answer_text(lambda: write_nodes(identified_blocks(read_document(tree))))


def find(kind, tree):
    return answer(lambda: with_each_length(paths_of(read_kind(kind), read_document(tree), [])))


def with_each_length(paths):
    numbers = [len(paths)]
    for path in paths:
        numbers.extend(with_length(path))
    return numbers


def block_at(path, tree):
    return answer_text(lambda: write_list(block_of(path, read_document(tree))))


def splice(count, path, blocks, tree):
    return answer_text(lambda: write_nodes(spliced(count, path, read_document(blocks), read_document(tree))))


def sections(tree):
    return answer(lambda: section_numbers(sections_of(read_document(tree))))


def section_numbers(found):
    numbers = [len(found)]
    for section in found:
        numbers.extend([section.level, section.start, section.end - section.start])
    return numbers


def extract_section(index, tree):
    return answer_text(lambda: write_nodes(section_blocks(index, read_document(tree))))


def move_section(index, target, tree):
    return answer_text(lambda: write_nodes(with_moved_section(index, target, read_document(tree))))


def shift_headings(up, amount, tree):
    return answer_text(lambda: write_nodes(with_shifted_headings(read_shift(up, amount), read_document(tree))))


def replace_text(old, new, tree):
    return answer_text(lambda: write_nodes(with_replaced_text(read_text(old), read_text(new), read_document(tree))))


def remove_style(style, tree):
    return answer_text(lambda: write_nodes(without_style(read_style(style), read_document(tree))))


def rename_label(old, new, tree):
    return answer_text(lambda: write_nodes(with_renamed_label(read_label(old), read_label(new), read_document(tree))))


def difference(first, second):
    return answer_text(lambda: write_nodes(difference_edits(read_document(first), read_document(second))))


def patch(edits, tree):
    return answer_text(lambda: write_nodes(patched(read_edits(edits), read_document(tree))))
