import re
import unittest

from blocktrees import documents
from helper import call, call_text, LARGEST, nested, NO_DOCUMENTS, some_canonical, Untouched

PLACES = [
    "{}", "(rule)\n{}", "(quote {})", '(note "n" {})', "(group (class) {})", '(group (class "k") {})',
    "(bullets (item) (item {}))", "(numbers 1 (item (rule) {}))", "(terms (term ()) (term () {}))",
    '(terms (term ("x") (rule) {}))', '(quote (bullets (item (terms (term () (note "n" {}))))))',
]


def heading(level):
    return f'(heading {level} "k" "1" (emph "x"))'


class ShiftHeadingsTest(unittest.TestCase):
    def assert_shifted(self, up, amount, text, expected):
        with self.subTest(up=up, amount=amount, text=text):
            self.assertEqual(call_text("shift_headings", up, amount, text), expected)

    def assert_error(self, code, up, amount, text):
        with self.subTest(up=up, amount=amount, text=text):
            self.assertEqual(call("shift_headings", up, amount, text), [code])

    def test_answer(self):
        expected = '(heading 3 "" "\u20ac")'
        self.assertEqual(call("shift_headings", 0, 2, '(heading 1 "" "\u20ac")'), [20] + list(expected.encode("utf-8")))

    def test_canonical_notation(self):
        self.assert_shifted(1, 1, '(para"a");no\n(heading 2"k";\n"\\u{61}"(emph"b"))', '(para "a")\n(heading 1 "k" "a" (emph "b"))')

    def test_every_level_and_amount(self):
        for place in PLACES:
            for level in range(1, 7):
                text = place.replace("{}", heading(level))
                for amount in range(6):
                    self.assert_level(level + amount, 0, amount, text, place)
                    self.assert_level(level - amount, 1, amount, text, place)

    def assert_level(self, level, up, amount, text, place):
        if 1 <= level <= 6:
            self.assert_shifted(up, amount, text, place.replace("{}", heading(level)))
        else:
            self.assert_error(-33, up, amount, text)

    def test_all_headings(self):
        def headings(first, second):
            return "\n".join(place.replace("{}", f'(heading {first} "") (heading {second} "")') for place in PLACES[2:])

        text = headings(2, 3)
        for up, amount, first, second in [(0, 0, 2, 3), (0, 1, 3, 4), (0, 2, 4, 5), (0, 3, 5, 6), (1, 0, 2, 3), (1, 1, 1, 2)]:
            self.assert_shifted(up, amount, text, headings(first, second))
        self.assert_error(-33, 0, 4, text)
        self.assert_error(-33, 1, 2, text)

    def test_one_level_outside_is_enough(self):
        for place in PLACES:
            for text in [place.replace("{}", heading(6)) + heading(1), heading(1) + place.replace("{}", heading(6))]:
                for up in (0, 1):
                    self.assert_shifted(up, 0, text, call_text("canonical", text))
                    for amount in range(1, 6):
                        self.assert_error(-33, up, amount, text)

    def test_levels_that_would_be_0_and_7(self):
        self.assert_error(-33, 1, 1, '(heading 1 "" "a")')
        self.assert_error(-33, 0, 1, '(heading 6 "" "a")')
        self.assert_error(-33, 1, 5, '(heading 5 "" "a")')
        self.assert_error(-33, 0, 5, '(heading 2 "" "a")')
        self.assert_shifted(1, 5, '(heading 6 "" "a")', '(heading 1 "" "a")')
        self.assert_shifted(0, 5, '(heading 1 "" "a")', '(heading 6 "" "a")')

    def test_no_heading(self):
        for text in ["", '(para "(heading 1)")', '(code "heading" "1")', "(numbers 1 (item (rule)))", "(quote (rule))",
                     '(figure "a" "1" "b")', '(table "1" (caption) (align left) (row (cell "1")))']:
            for up in (0, 1):
                for amount in range(6):
                    self.assert_shifted(up, amount, text, text)

    def test_numbers_of_lists_are_no_levels(self):
        self.assert_shifted(0, 3, '(numbers 1 (item (heading 1 "" "a"))) (numbers 6 (item))',
                            '(numbers 1 (item (heading 4 "" "a")))\n(numbers 6 (item))')

    def test_up_and_amount_beyond_their_limits(self):
        for text in ["", heading(1), heading(6), "(rule)", *NO_DOCUMENTS]:
            for up in [2, 3, 600, LARGEST]:
                for amount in [0, 1, 5, 6, LARGEST]:
                    self.assert_error(-22, up, amount, text)
            for up in (0, 1):
                for amount in [6, 7, 600, LARGEST]:
                    self.assert_error(-22, up, amount, text)

    def test_up_and_amount_are_checked_before_the_tree(self):
        for up, amount in [(2, 0), (0, 6), (1, 6), (2, 6)]:
            self.assertEqual(documents.shift_headings(up, amount, Untouched()), [-22])
        with self.assertRaises(AssertionError):
            documents.shift_headings(1, 5, Untouched())

    def test_no_document(self):
        for text in NO_DOCUMENTS:
            for up in (0, 1):
                for amount in range(6):
                    self.assert_error(-20, up, amount, text)
        self.assert_error(-20, 0, 5, '(heading 6 "" "a") (')

    def test_agrees_with_the_levels_of_the_outline(self):
        for text in some_canonical(300):
            levels = levels_of(text)
            for up, change in ((0, 1), (1, -1)):
                for amount in (1, 2):
                    shifted = call_text("shift_headings", up, amount, text)
                    expected = [level + change * amount for level in levels]
                    with self.subTest(text=text, up=up, amount=amount):
                        if all(1 <= level <= 6 for level in expected):
                            self.assertEqual(levels_of(shifted), expected)
                            self.assertEqual(call_text("shift_headings", 1 - up, amount, shifted), text)
                        else:
                            self.assertEqual(shifted, -33)

    def test_longest(self):
        self.assert_shifted(0, 5, '(heading 1"")' * 46, "\n".join(['(heading 6 "")'] * 46))
        self.assert_error(-33, 0, 5, '(heading 1"")' * 45 + '(heading 2"")')
        self.assert_shifted(1, 2, '(heading 3 "" "' + "b" * 583 + '")', '(heading 1 "" "' + "b" * 583 + '")')

    def test_deepest(self):
        self.assert_shifted(0, 1, nested(15, ' (heading 1 "" "a")'), nested(15, ' (heading 2 "" "a")'))
        self.assert_error(-33, 1, 1, nested(15, ' (heading 1 "" "a")'))
        content = nested(15, ' "a"', "emph")
        self.assert_shifted(1, 3, f'(heading 6 "" {content})', f'(heading 3 "" {content})')


def levels_of(text):
    return [int(level) for level in re.findall(r"^\(heading (\d)", call_text("outline", text), re.MULTILINE)]


if __name__ == "__main__":
    unittest.main()
