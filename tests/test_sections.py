import itertools
import unittest

from helper import call, nested, NO_DOCUMENTS, parsed, some_canonical

# Lists of blocks in which a heading begins no section of the document.
PLACES = [
    "(quote {})", '(note "n" {})', "(group (class) {})", '(group (class "k") {})', "(bullets (item {}))",
    "(numbers 1 (item) (item {}))", "(terms (term () {}))", "(quote (bullets (item (rule) {})))",
]


def heading(level):
    return f'(heading {level} "" "x")'


def document(*levels):
    """Headings of these levels, and rules for the level 0."""
    return "".join(heading(level) if level else "(rule)" for level in levels)


class SectionsTest(unittest.TestCase):
    def assert_sections(self, text, *sections):
        with self.subTest(text=text):
            self.assertEqual(call("sections", text), [len(sections), *itertools.chain(*sections)])

    def test_none(self):
        for text in ["", "(rule)", '(para "a") (rule) (quote)', "; (heading 1)", '(para "(heading 1)") (code "heading" "")',
                     '(table "" (caption) (align left) (row (cell "x")))']:
            self.assert_sections(text)

    def test_one(self):
        for level in range(1, 7):
            self.assert_sections(document(level), (level, 0, 1))
            self.assert_sections(document(level, 0, 0), (level, 0, 3))
            self.assert_sections(document(0, 0, level), (level, 2, 1))
            self.assert_sections(document(0, level, 0, 0, 0), (level, 1, 4))
        self.assert_sections('(heading 2 "id") (quote (rule) (rule)) (bullets (item) (item (rule)))', (2, 0, 3))

    def test_one_after_another(self):
        self.assert_sections(document(1, 0, 1, 1, 0, 0), (1, 0, 2), (1, 2, 1), (1, 3, 3))
        self.assert_sections(document(0, 4, 4, 0), (4, 1, 1), (4, 2, 2))

    def test_sections_within_sections(self):
        self.assert_sections(document(1, 0, 2, 0, 2, 1, 0), (1, 0, 5), (2, 2, 2), (2, 4, 1), (1, 5, 2))
        self.assert_sections(document(1, 2, 3, 4, 5, 6, 0),
                             (1, 0, 7), (2, 1, 6), (3, 2, 5), (4, 3, 4), (5, 4, 3), (6, 5, 2))

    def test_levels_that_go_down(self):
        self.assert_sections(document(6, 5, 4, 3, 2, 1), (6, 0, 1), (5, 1, 1), (4, 2, 1), (3, 3, 1), (2, 4, 1), (1, 5, 1))
        self.assert_sections(document(3, 0, 2, 3, 0), (3, 0, 2), (2, 2, 3), (3, 3, 2))

    def test_levels_that_change_by_more(self):
        self.assert_sections(document(1, 4, 0, 6, 2, 0, 5, 3, 1, 0),
                             (1, 0, 8), (4, 1, 3), (6, 3, 1), (2, 4, 4), (5, 6, 1), (3, 7, 1), (1, 8, 2))
        self.assert_sections(document(2, 6, 4, 0, 6, 1, 3), (2, 0, 5), (6, 1, 1), (4, 2, 3), (6, 4, 1), (1, 5, 2), (3, 6, 1))

    def test_all_short_documents(self):
        for length in range(6):
            for levels in itertools.product((0, 1, 2, 5), repeat=length):
                self.assert_sections(document(*levels), *sections_of(levels))

    def test_headings_inside_other_blocks(self):
        for place in PLACES:
            inner = place.replace("{}", '(heading 1 "" "a") (rule)')
            self.assert_sections(inner)
            self.assert_sections(f"{inner} {inner}")
            self.assert_sections(f"{inner} {heading(2)} {inner} {inner} {heading(3)} {heading(2)} {inner}",
                                 (2, 1, 4), (3, 4, 1), (2, 5, 2))

    def test_agrees_with_a_second_reader(self):
        for text in some_canonical(200):
            levels = [int(block[1]) if block[0] == "heading" else 0 for block in parsed(text)]
            self.assert_sections(text, *sections_of(levels))

    def test_no_document(self):
        for text in NO_DOCUMENTS:
            with self.subTest(text=text):
                self.assertEqual(call("sections", text), [-20])

    def test_longest(self):
        self.assert_sections('(heading 1"")' * 46, *[(1, index, 1) for index in range(46)])
        self.assert_sections('(heading 1"")' * 23 + '(heading 2"")' * 23,
                             *[(1, index, 1) for index in range(22)], (1, 22, 24), *[(2, index, 1) for index in range(23, 46)])
        self.assert_sections('(heading 6"")' + "(rule)" * 97, (6, 0, 98))
        self.assert_sections("(rule)" * 97 + '(heading 6"")', (6, 97, 1))

    def test_deepest(self):
        deep = nested(15, '(heading 1 "" "a")')
        self.assert_sections(deep)
        self.assert_sections('(heading 3 "" ' + nested(15, "", "emph") + ")" + deep + "(rule)", (3, 0, 3))


def sections_of(levels):
    found = []
    for index, level in enumerate(levels):
        if level > 0:
            ends = [end for end in range(index + 1, len(levels)) if 0 < levels[end] <= level]
            found.append((level, index, min(ends + [len(levels)]) - index))
    return found


if __name__ == "__main__":
    unittest.main()
