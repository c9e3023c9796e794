"""What the tests share: calls of the operations, and documents made by a seeded generator."""

import random

from blocktrees import documents

LONGEST = 600


class FrozenList(list):
    """A list that can't be changed, not even for a while."""

    def refuse(self, *args, **kwargs):
        raise AssertionError("what was handed in was changed")

    append = clear = extend = insert = pop = remove = reverse = sort = refuse
    __setitem__ = __delitem__ = __iadd__ = __imul__ = refuse


def to_list(text):
    return list(text if isinstance(text, bytes) else text.encode("utf-8"))


def call(name, *texts):
    """The answer of an operation to texts, which it must leave as they are."""
    lists = [to_list(text) for text in texts]
    for data in lists:
        assert len(data) <= LONGEST, f"{len(data)} bytes: no request is as long as this"
    operation = getattr(documents, name)
    frozen = [FrozenList(data) for data in lists]
    answer = operation(*frozen)
    assert frozen == lists, "what was handed in was changed"
    assert operation(*[list(data) for data in lists]) == answer, "a second call answers something else"
    assert type(answer) is list and all(type(number) is int for number in answer), answer
    return answer


def call_text(name, *texts):
    """The text that an operation answers, or its error code."""
    answer = call(name, *texts)
    if answer[0] < 0:
        assert len(answer) == 1, answer
        return answer[0]
    assert answer[0] == len(answer) - 1, answer
    return bytes(answer[1:]).decode("utf-8")


def nested(depth, inner="", outer="quote"):
    """So many lists within one another, with something in the innermost one."""
    return f"({outer} " * (depth - 1) + f"({outer}{inner}" + ")" * depth


# A text of each kind of error, and others that are no notation of a document.
NO_DOCUMENTS = [
    '(para "a"', '(para "a', ")", "(para \x7f)", '(para "\\x")', b'(para "\xff")', '(heading 07 "")',
    nested(17), "()", '"a"', "para", "1", "(item)", "(para (para))", "(rule 1)", '(heading 7 "" "x")',
    '(rule) (note "")', '(table "" (caption) (align left) (row))',
]


class Generator:
    """Makes notations of documents."""

    def __init__(self, seed, images=True):
        self.random = random.Random(seed)
        self.images = images

    def pick(self, *choices):
        return self.random.choice(choices)

    def some(self, make, depth, least=0, most=3):
        return "".join(" " + make(depth) for _ in range(self.random.randint(least, most)))

    def text(self, depth=0):
        parts = ["a", "b1", " ", " ", "\\n", "\\t", "\\u{d}", "-", "\u00e9", "\u20ac", '\\"', "", "\\u{a0}"]
        return '"' + "".join(self.pick(*parts) for _ in range(self.random.randint(0, 4))) + '"'

    def label(self, depth=0):
        return self.pick('"a"', '"b"', '"c"')

    def identifier(self):
        return self.pick('""', '""', '"a"', '"b"', '"c"')

    def classes(self):
        return f"(class{self.some(self.label, 0, most=2)})"

    def inline(self, depth):
        names = ["text"] * 4 + ["code", "math", "break", "break", "noteref", "ref", "cite"]
        if depth > 0:
            names += ["emph", "emph", "strong", "strike", "super", "sub", "caps", "link", "span", "span"]
            names += ["image"] if self.images else []
        name = self.pick(*names)
        inner = self.some(self.inline, depth - 1) if depth > 0 else ""
        if name == "text":
            return self.text()
        if name in ("code", "math"):
            return f"({name} {self.text()})"
        if name == "break":
            return "(break)"
        if name in ("noteref", "ref"):
            return f"({name} {self.label()})"
        if name == "cite":
            return f"(cite{self.some(self.label, 0, least=1)})"
        if name in ("link", "image"):
            return f'({name} {self.pick(self.text(), self.label())}{inner})'
        if name == "span":
            return f"(span {self.classes()}{inner})"
        return f"({name}{inner})"

    def item(self, depth):
        return f"(item{self.some(self.block, depth - 1)})"

    def term(self, depth):
        return f"(term ({self.some(self.inline, depth)}){self.some(self.block, depth - 1)})"

    def table(self, depth):
        columns = self.random.randint(1, 2)
        alignments = self.some(lambda _: self.pick("none", "left", "center", "right"), 0, columns, columns)

        def cell(depth):
            return f"(cell{self.some(self.inline, depth)})"

        def row(depth):
            return f"(row{self.some(cell, depth, columns, columns)})"

        caption = self.some(self.inline, depth)
        return f"(table {self.identifier()} (caption{caption}) (align{alignments}){self.some(row, depth, 1, 2)})"

    def block(self, depth):
        inlines = self.some(self.inline, depth)
        name = self.pick("para", "para", "heading", "code", "formula", "rule", "figure", "quote", "quote",
                         "bullets", "bullets", "numbers", "numbers", "terms", "table", "group", "group", "note")
        if name == "para" or depth <= 0:
            return f"(para{inlines})"
        if name == "heading":
            return f"(heading {self.random.randint(1, 6)} {self.identifier()}{inlines})"
        if name in ("code", "formula"):
            return f"({name} {self.identifier()} {self.text()})"
        if name == "rule":
            return "(rule)"
        if name == "figure":
            return f"(figure {self.identifier()} {self.text()}{inlines})"
        if name == "quote":
            return f"(quote{self.some(self.block, depth - 1)})"
        if name == "bullets":
            return f"(bullets{self.some(self.item, depth, least=1)})"
        if name == "numbers":
            return f"(numbers {self.random.randint(0, 4)}{self.some(self.item, depth, least=1)})"
        if name == "terms":
            return f"(terms{self.some(self.term, depth, least=1)})"
        if name == "table":
            return self.table(depth)
        if name == "group":
            return f"(group {self.classes()}{self.some(self.block, depth - 1)})"
        return f"(note {self.label()}{self.some(self.block, depth - 1)})"

    def document(self):
        while True:
            text = self.some(self.block, self.random.randint(1, 3), most=5)
            if len(text.encode("utf-8")) <= LONGEST:
                return text


def some_documents(number, images=True):
    generator = Generator(number, images)
    return [generator.document() for _ in range(number)]
