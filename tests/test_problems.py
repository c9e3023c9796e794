import unittest

from helper import call, call_text, INLINE_PLACES, nested, NO_DOCUMENTS

BLOCK_PLACES = [
    "{}", "(quote {})", "(bullets (item) (item (rule) {}))", "(numbers 1 (item {}))", "(terms (term () {}))",
    "(group (class) {})", '(group (class "k") {})', "(quote (quote {}))",
]


class ProblemsTest(unittest.TestCase):
    def assert_problems(self, text, *expected):
        with self.subTest(text=text):
            self.assertEqual(call_text("problems", text), "\n".join(expected))

    def test_example(self):
        self.assert_problems('(heading 2 "" "A") (para (ref "x") (noteref "n"))',
                             '(unknown-ref "x")', '(unknown-note "n")', '(skipped-level 2)')

    def test_no_problems(self):
        for text in ["", "; none", "(rule)", '(heading 1 "a" "A") (heading 2 "b" "B") (para (ref "a") (ref "b") (ref "a"))',
                     '(note "n") (para (noteref "n") (noteref "n"))', '(heading 1 "" "A") (heading 1 "" "A")',
                     '(para (cite "x" "x")) (code "x" "") (code "x" "")']:
            self.assertEqual(call("problems", text), [0])

    def test_length_counts_bytes(self):
        self.assertEqual(call("problems", '(note "n")'), [17] + list(b'(unused-note "n")'))

    def test_identifiers(self):
        for block in ['(heading 1 "{}" "A")', '(formula "{}" "")', '(figure "{}" "")',
                      '(table "{}" (caption) (align left) (row (cell)))']:
            for place in BLOCK_PLACES + ['(note "n" {} (para (noteref "n")))']:
                named = place.replace("{}", block.replace("{}", "x"))
                self.assert_problems(named)
                self.assert_problems(f'{named} (para (ref "x"))')
                self.assert_problems(f'(para (ref "x")) {named}')
                self.assert_problems(f'{named} (figure "x" "")', '(repeated-id "x")')
                self.assert_problems(f'(figure "x" "") {named}', '(repeated-id "x")')
                unnamed = place.replace("{}", block.replace("{}", ""))
                self.assert_problems(f"{unnamed} {unnamed}".replace('(note "n"', "(quote").replace('(noteref "n")', ""))

    def test_what_is_no_identifier(self):
        for text in ['(code "x" "")', '(group (class "x"))', '(para (span (class "x")))', '(para (cite "x"))',
                     '(para (link "x"))', '(figure "" "x")', '(para (code "x"))', '(para "x")']:
            self.assert_problems(f'{text} {text} (para (ref "x"))', '(unknown-ref "x")')
        self.assert_problems('(note "x") (para (ref "x") (noteref "x"))', '(unknown-ref "x")')

    def test_repeated_id(self):
        self.assert_problems('(figure "a" "") (figure "a" "") (figure "a" "") (figure "b" "")', '(repeated-id "a")')
        self.assert_problems('(figure "c" "") (figure "b" "") (figure "a" "") (figure "a" "") (figure "b" "")',
                             '(repeated-id "b")', '(repeated-id "a")')
        self.assert_problems('(figure "a" "") (figure "A" "") (figure "a-" "")')

    def test_unknown_ref(self):
        for place in INLINE_PLACES:
            self.assert_problems(place.replace("{}", '(ref "x")'), '(unknown-ref "x")')
            self.assert_problems(place.replace("{}", '(ref "x")') + '(figure "x" "")')
        self.assert_problems('(para (ref "b") (ref "a") (ref "k") (ref "b")) (figure "k" "") (para (ref "c") (ref "a"))',
                             '(unknown-ref "b")', '(unknown-ref "a")', '(unknown-ref "c")')

    def test_repeated_note(self):
        for place in BLOCK_PLACES:
            self.assert_problems(place.replace("{}", '(note "x")') + '(note "x") (para (noteref "x"))',
                                 '(repeated-note "x")')
        self.assert_problems('(para (noteref "a") (noteref "b")) (note "b") (note "a" (note "b")) (note "a") (note "a")',
                             '(repeated-note "b")', '(repeated-note "a")')
        self.assert_problems('(note "a") (para (noteref "a")) (figure "a" "")')

    def test_unknown_note(self):
        for place in INLINE_PLACES:
            self.assert_problems(place.replace("{}", '(noteref "x")'), '(unknown-note "x")')
            self.assert_problems(place.replace("{}", '(noteref "x")') + '(note "x")')
        self.assert_problems('(para (noteref "b") (noteref "a") (noteref "b")) (figure "a" "") (para (noteref "c"))',
                             '(unknown-note "b")', '(unknown-note "a")', '(unknown-note "c")')

    def test_unused_note(self):
        for place in BLOCK_PLACES:
            self.assert_problems(place.replace("{}", '(note "x")'), '(unused-note "x")')
            self.assert_problems(place.replace("{}", '(note "x" (para (noteref "x")))'))
        self.assert_problems('(note "b") (note "a") (note "c") (para (noteref "a") (ref "c")) (figure "c" "")',
                             '(unused-note "b")', '(unused-note "c")')
        self.assert_problems('(note "a") (note "a")', '(repeated-note "a")', '(unused-note "a")')

    def test_empty_heading(self):
        for content in ["", '""', '" "', '"\\t\\n\\u{d}"', "(break)", "(emph)", '(emph " ")', '(noteref "n")', '(code " ")',
                        '(link "u")', '(image "t" " ")', '(span (class "k"))', '(math "") (break)']:
            for place in BLOCK_PLACES:
                self.assert_problems(place.replace("{}", f'(heading 1 "" {content})') + '(quote (note "n"))'
                                     + '(para (noteref "n"))', "(empty-heading 1)")
        for content in ['"a"', '(code "a")', '(math "x")', '(cite "k")', '(emph (strong "a"))', '(image "t" "a")',
                        '"\\u{0}"', '"\u00a0"', '"\\u{b}"', '(ref "k")']:
            self.assert_problems(f'(heading 1 "k" {content})')
        self.assert_problems('(heading 1 "") (heading 2 "" "a") (heading 2 "") (heading 1 "" " ") (heading 1 "")',
                             "(empty-heading 1)", "(empty-heading 2)", "(empty-heading 1)", "(empty-heading 1)")

    def test_skipped_level(self):
        for level in range(2, 7):
            self.assert_problems(f'(heading {level} "" "a")', f"(skipped-level {level})")
        for levels, *skipped in [((1, 2, 3, 4, 5, 6),), ((1, 1, 2, 2, 1, 2),), ((1, 2, 3, 1, 2),), ((1, 3), 3),
                                 ((1, 3, 4), 3), ((1, 3, 5), 3, 5), ((2, 1, 3), 2, 3), ((1, 2, 6, 1, 6), 6, 6),
                                 ((6, 6, 5, 1), 6), ((1, 4, 3, 2, 4, 4), 4, 4)]:
            self.assert_problems(" ".join(f'(heading {level} "" "a")' for level in levels),
                                 *[f"(skipped-level {level})" for level in skipped])

    def test_skipped_levels_at_any_depth(self):
        for place in BLOCK_PLACES:
            self.assert_problems('(heading 1 "" "a")' + place.replace("{}", '(heading 3 "" "a")') + '(heading 4 "" "a")',
                                 "(skipped-level 3)")
            self.assert_problems('(heading 1 "" "a")' + place.replace("{}", '(heading 2 "" "a")') + '(heading 3 "" "a")')

    def test_order_of_kinds(self):
        self.assert_problems(
            '(heading 3 "") (note "u") (para (noteref "w") (ref "v")) (note "u") (figure "y" "") (figure "y" "")'
            '(para (ref "t") (noteref "s")) (figure "z" "") (formula "z" "") (note "r") (note "r") (heading 5 "" " ")',
            '(repeated-id "y")', '(repeated-id "z")', '(unknown-ref "v")', '(unknown-ref "t")', '(repeated-note "u")',
            '(repeated-note "r")', '(unknown-note "w")', '(unknown-note "s")', '(unused-note "u")', '(unused-note "r")',
            "(empty-heading 3)", "(empty-heading 5)", "(skipped-level 3)", "(skipped-level 5)")

    def test_order_of_the_notation(self):
        self.assert_problems(
            '(heading 1 "a" (ref "1")) (terms (term ((ref "2")) (para (ref "3")) (formula "b" "")) (term ((ref "4"))))'
            '(table "c" (caption (ref "5")) (align left) (row (cell (ref "6") (emph (ref "7")) (ref "8"))))'
            '(figure "c" "" (ref "9")) (formula "b" "") (figure "a" "" (ref "1"))',
            '(repeated-id "a")', '(repeated-id "b")', '(repeated-id "c")',
            *[f'(unknown-ref "{number}")' for number in range(1, 10)])

    def test_the_first_occurrence_is_one_of_the_same_kind(self):
        self.assert_problems('(para (ref "b")) (figure "a" "") (figure "b" "") (figure "b" "") (figure "a" "")',
                             '(repeated-id "a")', '(repeated-id "b")')

    def test_no_document(self):
        for text in NO_DOCUMENTS:
            with self.subTest(text=text):
                self.assertEqual(call("problems", text), [-20])

    def test_longest(self):
        self.assert_problems('(heading 6"")' * 46, *["(empty-heading 6)"] * 46, "(skipped-level 6)")
        label = "x" * 40
        self.assert_problems(f'(note"{label}")' * 12, f'(repeated-note "{label}")', f'(unused-note "{label}")')
        labels = [f"{first}{second}" for first in "abcdefg" for second in "abcdefg"]
        self.assert_problems("(para" + "".join(f'(ref"{label}")' for label in labels) + ")",
                             *[f'(unknown-ref "{label}")' for label in labels])

    def test_deepest(self):
        self.assert_problems(nested(15, '(heading 2 "")'), "(empty-heading 2)", "(skipped-level 2)")
        self.assert_problems("(para " + nested(14, '(ref "x")', "emph") + ")", '(unknown-ref "x")')
        self.assert_problems("".join(f'(note "{label}" ' for label in "abcdefghijklmnop") + ")" * 16,
                             *[f'(unused-note "{label}")' for label in "abcdefghijklmnop"])


if __name__ == "__main__":
    unittest.main()
