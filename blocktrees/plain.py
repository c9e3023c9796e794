"""The plain text."""

from blocktrees.texts import ascii_bytes, joined, LINE_FEED, TAB


def inlines_text(inlines):
    return joined([inline_text(inline) for inline in inlines], [])


def inline_text(inline):
    if isinstance(inline, tuple):
        return list(inline)
    if inline.symbol in ("code", "math", "ref"):
        return list(inline.head[0])
    if inline.symbol == "break":
        return [LINE_FEED]
    if inline.symbol == "noteref":
        return []
    if inline.symbol == "cite":
        return joined(inline.children, ascii_bytes(", "))
    return inlines_text(inline.children)


def blocks_text(blocks):
    return joined([block_text(block) for block in blocks], [])


# Items and entries are taken here, too.
def block_text(block):
    if block.symbol in ("code", "formula"):
        return list(block.head[1]) + [LINE_FEED]
    if block.symbol == "table":
        return table_text(block)
    if block.symbol == "term":
        return inlines_text(block.head[0].children) + [LINE_FEED] + blocks_text(block.children)
    if block.holds == "inline":
        return inlines_text(block.children) + [LINE_FEED]
    return blocks_text(block.children)


def table_text(table):
    lines = [row_text(row) for row in table.children]
    caption = table.head[1].children
    if caption:
        lines.insert(0, inlines_text(caption) + [LINE_FEED])
    return joined(lines, [])


def row_text(row):
    return joined([inlines_text(cell.children) for cell in row.children], [TAB]) + [LINE_FEED]
