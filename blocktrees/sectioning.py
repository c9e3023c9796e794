"""The sections of a document: a heading with the blocks up to the next one of at most its level."""

from blocktrees.errors import MisfitError, NowhereError


# start and end are indices in the document; the block at the end is the first
# one that doesn't belong to the section.
class Section:
    def __init__(self, level, start, end):
        self.level = level
        self.start = start
        self.end = end


def sections_of(blocks):
    return [section_from(start, blocks) for start, block in enumerate(blocks) if block.symbol == "heading"]


def section_from(start, blocks):
    level = blocks[start].head[0]
    end = start + 1
    while end < len(blocks) and not begins_next(blocks[end], level):
        end += 1
    return Section(level, start, end)


def begins_next(block, level):
    return block.symbol == "heading" and block.head[0] <= level


def section_of(index, blocks):
    found = sections_of(blocks)
    if index >= len(found):
        raise NowhereError()
    return found[index]


def section_blocks(index, blocks):
    section = section_of(index, blocks)
    return blocks[section.start:section.end]


def with_moved_section(index, target, blocks):
    section = section_of(index, blocks)
    if target > len(blocks) or section.start < target < section.end:
        raise MisfitError()
    moved = blocks[section.start:section.end]
    if target <= section.start:
        return blocks[:target] + moved + blocks[target:section.start] + blocks[section.end:]
    return blocks[:section.start] + blocks[section.end:target] + moved + blocks[target:]
