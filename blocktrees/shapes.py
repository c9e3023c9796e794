"""The arguments of each list of the notation.

A word with * stands for any number of arguments of its kind, one with + for
one or more; such a word is the last one. "text", "identifier" and "label" are
strings, "level" and "number" are integers, "inlines" is a list of inline forms
without a symbol, and "caption", "align", "class", "item", "term", "row" and
"cell" are lists with this symbol.
"""

BLOCKS = {
    "para": ("inline*",),
    "heading": ("level", "identifier", "inline*"),
    "code": ("identifier", "text"),
    "formula": ("identifier", "text"),
    "rule": (),
    "quote": ("block*",),
    "bullets": ("item+",),
    "numbers": ("number", "item+"),
    "terms": ("term+",),
    "table": ("identifier", "caption", "align", "row+"),
    "figure": ("identifier", "text", "inline*"),
    "group": ("class", "block*"),
    "note": ("label", "block*"),
}

INLINES = {
    "code": ("text",),
    "math": ("text",),
    "break": (),
    "noteref": ("label",),
    "ref": ("label",),
    "cite": ("label+",),
    "emph": ("inline*",),
    "strong": ("inline*",),
    "strike": ("inline*",),
    "super": ("inline*",),
    "sub": ("inline*",),
    "caps": ("inline*",),
    "link": ("text", "inline*"),
    "image": ("text", "inline*"),
    "span": ("class", "inline*"),
}

# In the order of the styles.
STYLES = ("emph", "strong", "strike", "super", "sub", "caps")

PARTS = {
    "item": ("block*",),
    "term": ("inlines", "block*"),
    "caption": ("inline*",),
    "align": ("alignment*",),
    "row": ("cell*",),
    "cell": ("inline*",),
    "class": ("label*",),
}

EDITS = {
    "keep": ("number",),
    "remove": ("number",),
    "insert": ("block*",),
}


# leading: the kinds of the arguments that stand once. following: the kind of
# those that are repeated, "" if none are. least: the smallest number of
# arguments.
class Shape:
    def __init__(self, words):
        self.leading = []
        self.following = ""
        self.least = 0
        for word in words:
            if word[-1] not in "*+":
                self.leading.append(word)
            else:
                self.following = word[:-1]
            if word[-1] != "*":
                self.least += 1

    def allows_number(self, number):
        return number == self.least or (number > self.least and self.following != "")

    def begins_with_integer(self):
        return len(self.leading) > 0 and self.leading[0] in ("level", "number")


# None: no block has this symbol.
def block_shape(symbol):
    return Shape(BLOCKS[symbol]) if symbol in BLOCKS else None


def inline_shape(symbol):
    return Shape(INLINES[symbol]) if symbol in INLINES else None


def part_shape(symbol):
    return Shape(PARTS[symbol])


# None: no edit has this symbol.
def edit_shape(symbol):
    return Shape(EDITS[symbol]) if symbol in EDITS else None
