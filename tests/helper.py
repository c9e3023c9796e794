"""What the tests share: calls of the operations, documents made by a seeded generator, and a second reader."""

import random
import re

from blocktrees import documents

# The operations and the names of their parameters.
PARAMETERS = {
    "check": ["tree"], "canonical": ["tree"], "normalize": ["tree"], "plain_text": ["tree"], "counts": ["tree"],
    "outline": ["tree"], "problems": ["tree"], "slug": ["text"], "identify": ["tree"], "find": ["kind", "tree"],
    "block_at": ["path", "tree"], "splice": ["count", "path", "blocks", "tree"], "sections": ["tree"],
    "extract_section": ["index", "tree"], "move_section": ["index", "target", "tree"],
    "shift_headings": ["up", "amount", "tree"], "replace_text": ["old", "new", "tree"], "remove_style": ["style", "tree"],
    "rename_label": ["old", "new", "tree"], "difference": ["first", "second"], "patch": ["edits", "tree"],
}
# Those that are told of a document alone.
OF_A_TREE = [operation for operation, names in PARAMETERS.items() if names == ["tree"]]

LONGEST = 600
LONGEST_PATH = 20
LARGEST = 4294967295


class FrozenList(list):
    """A list that can't be changed, not even for a while."""

    def refuse(self, *args, **kwargs):
        raise AssertionError("what was handed in was changed")

    append = clear = extend = insert = pop = remove = reverse = sort = refuse
    __setitem__ = __delitem__ = __iadd__ = __imul__ = refuse


class Untouched(list):
    """A list that must not be looked at."""

    def refuse(self, *args):
        raise AssertionError("this was looked at too early")

    __iter__ = __len__ = __getitem__ = __contains__ = __eq__ = refuse


def to_list(text):
    return list(text if isinstance(text, bytes) else text.encode("utf-8"))


def to_argument(argument):
    """What is handed in for a text, for a path (a list), or for a whole number."""
    if isinstance(argument, int):
        assert 0 <= argument <= LARGEST
        return argument
    if isinstance(argument, list):
        assert len(argument) <= LONGEST_PATH and all(0 <= index <= LARGEST for index in argument)
        return argument
    data = to_list(argument)
    assert len(data) <= LONGEST, f"{len(data)} bytes: no request is as long as this"
    return data


def fresh(values, kind):
    return [kind(value) if isinstance(value, list) else value for value in values]


def call(name, *arguments):
    """The answer of an operation to its arguments, which it must leave as they are."""
    values = [to_argument(argument) for argument in arguments]
    operation = getattr(documents, name)
    frozen = fresh(values, FrozenList)
    answer = operation(*frozen)
    assert frozen == values, "what was handed in was changed"
    assert operation(*fresh(values, list)) == answer, "a second call answers something else"
    assert type(answer) is list and all(type(number) is int for number in answer), answer
    assert min(answer) >= 0 or (len(answer) == 1 and name != "check"), answer
    return answer


def call_text(name, *arguments):
    """The text that an operation answers, or its error code."""
    answer = call(name, *arguments)
    if answer[0] < 0:
        assert len(answer) == 1, answer
        return answer[0]
    assert answer[0] == len(answer) - 1, answer
    return bytes(answer[1:]).decode("utf-8")


def nested(depth, inner="", outer="quote"):
    """So many lists within one another, with something in the innermost one."""
    return f"({outer} " * (depth - 1) + f"({outer}{inner}" + ")" * depth


# A text of each kind of error, and others that are no notation of a document.
NO_DOCUMENTS = [
    '(para "a"', '(para "a', ")", "(para \x7f)", '(para "\\x")', b'(para "\xff")', '(heading 07 "")',
    nested(17), "()", '"a"', "para", "1", "(item)", "(para (para))", "(rule 1)", '(heading 7 "" "x")',
    '(rule) (note "")', '(table "" (caption) (align left) (row))',
]

# What is no UTF-8.
NO_TEXTS = [b"\xff", b"para\x80", b"\xc3", b"\xe2\x82", b"\xed\xa0\x80", b"\xf4\x90\x80\x80", b"a" * 599 + b"\xc3"]

# Blocks with a place for inline forms.
INLINE_PLACES = [
    "(para {})", '(heading 1 "" "x" {})', '(figure "" "" {})', "(para (emph {}))", "(para (strong (strike {})))",
    "(para (super {}))", "(para (sub {}))", "(para (caps {}))", '(para (link "" {}))', '(para (image "" {}))',
    "(para (span (class) {}))", "(terms (term ({})))", "(terms (term () (para {})))",
    '(table "" (caption {}) (align left) (row (cell)))', '(table "" (caption) (align left) (row (cell {})))',
    '(table "" (caption) (align left right) (row (cell) (cell)) (row (cell) (cell {})))', "(quote (para {}))",
    "(bullets (item) (item (para {})))", "(numbers 1 (item (para {})))", '(group (class "k") (para {}))',
]

STYLES = ["emph", "strong", "strike", "super", "sub", "caps"]


def parsed(canonical):
    """The expressions of a canonical notation: a list for each list, all else as it is written."""
    levels = [[]]
    for token in re.findall(r'"(?:[^"\\]|\\.)*"|[()]|[^\s()"]+', canonical):
        if token == "(":
            levels.append([])
        elif token == ")":
            whole = levels.pop()
            levels[-1].append(whole)
        else:
            levels[-1].append(token)
    assert len(levels) == 1
    return levels[0]


def written(expressions, separator="\n"):
    """The canonical notation of expressions."""
    return separator.join(each if isinstance(each, str) else f"({written(each, ' ')})" for each in expressions)


def depth_of(expressions):
    return max([1 + depth_of(each) for each in expressions if isinstance(each, list)], default=0)


def places_of(block):
    """The lists of a parsed block: for each, the list that holds its blocks, and the place of the first one there."""
    if block[0] in ("quote", "group", "note"):
        return [(block, 1 if block[0] == "quote" else 2)]
    if block[0] in ("bullets", "numbers", "terms"):
        first = 2 if block[0] == "numbers" else 1
        return [(part, 2 if block[0] == "terms" else 1) for part in block[first:]]
    return []


def blocks_with_paths(holder, first=0, start=()):
    """All blocks of a parsed document with their paths, in the order of the notation."""
    for index, block in enumerate(holder[first:]):
        path = [*start, index]
        yield path, block
        for number, (inner, place) in enumerate(places_of(block)):
            yield from blocks_with_paths(inner, place, [*path, number])


def all_expressions(expressions):
    """All lists among these expressions, at any depth, in the order of the notation."""
    for each in expressions:
        if isinstance(each, list):
            yield each
            yield from all_expressions(each)


def inline_lists(document):
    """The lists of inline forms in a parsed document: for each, what holds it, and the place of the first one there."""
    firsts = {"para": 1, "heading": 3, "figure": 3, "caption": 1, "cell": 1, "link": 2, "image": 2, "span": 2}
    firsts.update({style: 1 for style in STYLES})
    for each in all_expressions(document):
        if each and each[0] == "term":
            yield each[1], 0
        elif each and isinstance(each[0], str) and each[0] in firsts:
            yield each, firsts[each[0]]


def performed(edits, canonical):
    """What edits in canonical notation make of a document, or None if they don't fit."""
    rest, changed = parsed(canonical), []
    for symbol, *arguments in parsed(edits):
        if symbol == "insert":
            changed += arguments
        else:
            number = int(arguments[0])
            if number > len(rest):
                return None
            changed += rest[:number] if symbol == "keep" else []
            rest = rest[number:]
    return None if rest else written(changed)


def unquoted(string):
    """The text of a string of a canonical notation."""
    short = {"n": "\n", "t": "\t"}
    return re.sub(r"\\(?:u\{(\w+)\}|(.))", lambda found: chr(int(found[1], 16)) if found[1] else
                  short.get(found[2], found[2]), string[1:-1])


def quoted(text):
    short = {"\n": "\\n", "\t": "\\t", '"': '\\"', "\\": "\\\\"}
    return '"' + "".join(short.get(c) or (f"\\u{{{ord(c):x}}}" if c < " " else c) for c in text) + '"'


class Generator:
    """Makes notations of documents."""

    def __init__(self, seed, images=True):
        self.random = random.Random(seed)
        self.images = images

    def pick(self, *choices):
        return self.random.choice(choices)

    def some(self, make, depth, least=0, most=3):
        return "".join(" " + make(depth) for _ in range(self.random.randint(least, most)))

    def text(self, depth=0):
        parts = ["a", "b1", " ", " ", "\\n", "\\t", "\\u{d}", "-", "\u00e9", "\u20ac", '\\"', "", "\\u{a0}"]
        return '"' + "".join(self.pick(*parts) for _ in range(self.random.randint(0, 4))) + '"'

    def label(self, depth=0):
        return self.pick('"a"', '"b"', '"c"')

    def identifier(self):
        return self.pick('""', '""', '"a"', '"b"', '"c"')

    def classes(self):
        return f"(class{self.some(self.label, 0, most=2)})"

    def inline(self, depth):
        names = ["text"] * 4 + ["code", "math", "break", "break", "noteref", "ref", "cite"]
        if depth > 0:
            names += ["emph", "emph", "strong", "strike", "super", "sub", "caps", "link", "span", "span"]
            names += ["image"] if self.images else []
        name = self.pick(*names)
        inner = self.some(self.inline, depth - 1) if depth > 0 else ""
        if name == "text":
            return self.text()
        if name in ("code", "math"):
            return f"({name} {self.text()})"
        if name == "break":
            return "(break)"
        if name in ("noteref", "ref"):
            return f"({name} {self.label()})"
        if name == "cite":
            return f"(cite{self.some(self.label, 0, least=1)})"
        if name in ("link", "image"):
            return f'({name} {self.pick(self.text(), self.label())}{inner})'
        if name == "span":
            return f"(span {self.classes()}{inner})"
        return f"({name}{inner})"

    def item(self, depth):
        return f"(item{self.some(self.block, depth - 1)})"

    def term(self, depth):
        return f"(term ({self.some(self.inline, depth)}){self.some(self.block, depth - 1)})"

    def table(self, depth):
        columns = self.random.randint(1, 2)
        alignments = self.some(lambda _: self.pick("none", "left", "center", "right"), 0, columns, columns)

        def cell(depth):
            return f"(cell{self.some(self.inline, depth)})"

        def row(depth):
            return f"(row{self.some(cell, depth, columns, columns)})"

        caption = self.some(self.inline, depth)
        return f"(table {self.identifier()} (caption{caption}) (align{alignments}){self.some(row, depth, 1, 2)})"

    def block(self, depth):
        inlines = self.some(self.inline, depth)
        name = self.pick("para", "para", "heading", "code", "formula", "rule", "figure", "quote", "quote",
                         "bullets", "bullets", "numbers", "numbers", "terms", "table", "group", "group", "note")
        if name == "para" or depth <= 0:
            return f"(para{inlines})"
        if name == "heading":
            return f"(heading {self.random.randint(1, 6)} {self.identifier()}{inlines})"
        if name in ("code", "formula"):
            return f"({name} {self.identifier()} {self.text()})"
        if name == "rule":
            return "(rule)"
        if name == "figure":
            return f"(figure {self.identifier()} {self.text()}{inlines})"
        if name == "quote":
            return f"(quote{self.some(self.block, depth - 1)})"
        if name == "bullets":
            return f"(bullets{self.some(self.item, depth, least=1)})"
        if name == "numbers":
            return f"(numbers {self.random.randint(0, 4)}{self.some(self.item, depth, least=1)})"
        if name == "terms":
            return f"(terms{self.some(self.term, depth, least=1)})"
        if name == "table":
            return self.table(depth)
        if name == "group":
            return f"(group {self.classes()}{self.some(self.block, depth - 1)})"
        return f"(note {self.label()}{self.some(self.block, depth - 1)})"

    def document(self):
        while True:
            text = self.some(self.block, self.random.randint(1, 3), most=5)
            if len(text.encode("utf-8")) <= LONGEST:
                return text


def some_documents(number, images=True):
    generator = Generator(number, images)
    return [generator.document() for _ in range(number)]


def some_canonical(number):
    """Canonical notations, each no longer than a request."""
    texts = [call_text("canonical", text) for text in some_documents(number)]
    return [text for text in texts if len(text.encode("utf-8")) <= LONGEST]
