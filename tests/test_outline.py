import unittest

from helper import call, call_text, nested, NO_DOCUMENTS, some_documents


class OutlineTest(unittest.TestCase):
    def assert_outline(self, text, *expected):
        with self.subTest(text=text):
            self.assertEqual(call_text("outline", text), "\n".join(expected))

    def test_example(self):
        self.assert_outline('(heading 1 "" "A") (heading 2 "b" (emph "B") " c")',
                            '(heading 1 "" "A")', '(heading 2 "b" "B c")')

    def test_no_heading(self):
        for text in ["", '(para "a")', '(quote (rule)) (note "n") (code "heading" "x")', "; (heading 1)"]:
            self.assertEqual(call("outline", text), [0])

    def test_length_counts_bytes(self):
        expected = '(heading 1 "" "\u20ac")'
        self.assertEqual(call("outline", '(heading 1 "" "\u20ac")'), [20] + list(expected.encode("utf-8")))

    def test_every_level(self):
        self.assert_outline(" ".join(f'(heading {level} "" "x")' for level in range(1, 7)),
                            *[f'(heading {level} "" "x")' for level in range(1, 7)])

    def test_identifiers(self):
        self.assert_outline('(heading 3 "a-Z_0.:" "x") (heading 3 "" "x") (heading 3 "\\u{61}" "x")',
                            '(heading 3 "a-Z_0.:" "x")', '(heading 3 "" "x")', '(heading 3 "a" "x")')

    def test_headings_at_any_depth(self):
        self.assert_outline(
            '(quote (heading 1 "" "a") (quote (heading 2 "" "b"))) (heading 3 "" "c")'
            '(bullets (item (para "no") (heading 4 "d" "d")) (item (heading 5 "" "e")))'
            '(numbers 1 (item (heading 6 "" "f"))) (terms (term ("no") (heading 1 "" "g")) (term () (heading 1 "" "h")))'
            '(group (class) (heading 2 "" "i")) (group (class "k") (heading 2 "" "j")) (note "n" (heading 2 "" "k"))',
            '(heading 1 "" "a")', '(heading 2 "" "b")', '(heading 3 "" "c")', '(heading 4 "d" "d")', '(heading 5 "" "e")',
            '(heading 6 "" "f")', '(heading 1 "" "g")', '(heading 1 "" "h")', '(heading 2 "" "i")', '(heading 2 "" "j")',
            '(heading 2 "" "k")')

    def test_plain_text_of_the_content(self):
        for content, expected in [
                ("", ""), ('""', ""), ('"a" "b"', "ab"), ('(emph "a") (strong "b" (code "c"))', "abc"),
                ('(math "x")', "x"), ('"a" (noteref "n")', "a"), ('(ref "r")', "r"), ('(cite "k" "l")', "k, l"),
                ('(link "u" "a")', "a"), ('(image "t" "a")', "a"), ('(span (class "k") "a")', "a")]:
            self.assert_outline(f'(heading 1 "" {content})', f'(heading 1 "" "{expected}")')

    def test_text_of_the_normal_form(self):
        for content, expected in [
                ('" a  b\\t\\n c "', "a b c"), ('" "', ""), ("(break)", ""), ('(break) "a" (break)', "a"),
                ('"a " (break) " b"', "a\\nb"), ('"a" (break) " " (break) "b"', "a\\n\\nb"),
                ('"a " (emph " b ") " c"', "a b c"), ('(code " a ") " "', " a "), ('(code " a  b ")', " a  b "),
                ('"a " (noteref "n") " b"', "a  b"), ('"a" (image "t" " b ")', "ab"), ('"a\\u{d}b"', "a b"),
                ('(emph (emph " a") " ") (link "u")', "a")]:
            self.assert_outline(f'(heading 1 "" {content})', f'(heading 1 "" "{expected}")')

    def test_text_that_must_be_escaped(self):
        self.assert_outline('(heading 1 "" "\\"a\\\\" (code "\\n\\t\\u{0}\\u{1f}\\u{7f}") "\\u{e9}\u20ac")',
                            '(heading 1 "" "\\"a\\\\\\n\\t\\u{0}\\u{1f}\x7f\u00e9\u20ac")')

    def test_outline_of_an_outline(self):
        for text in some_documents(200):
            outline = call_text("outline", text)
            if len(outline.encode("utf-8")) <= 600:
                with self.subTest(text=text):
                    self.assertEqual(call("check", outline), [0, call("counts", text)[4]])
                    self.assertEqual(call_text("canonical", outline), outline)

    def test_no_document(self):
        for text in NO_DOCUMENTS:
            with self.subTest(text=text):
                self.assertEqual(call("outline", text), [-20])

    def test_longest(self):
        self.assert_outline('(heading 1"")' * 46, *['(heading 1 "" "")'] * 46)
        self.assert_outline('(heading 1 "" "' + "a" * 583 + '")', '(heading 1 "" "' + "a" * 583 + '")')

    def test_deepest(self):
        self.assert_outline(nested(15, '(heading 1 "" "a")'), '(heading 1 "" "a")')
        self.assert_outline('(heading 1 "" ' + nested(15, '" a"', "emph") + ")", '(heading 1 "" "a")')


if __name__ == "__main__":
    unittest.main()
