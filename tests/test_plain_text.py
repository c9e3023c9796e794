import unittest

from helper import call, call_text, nested, NO_DOCUMENTS


class PlainTextTest(unittest.TestCase):
    def assert_plain(self, text, expected):
        with self.subTest(text=text):
            self.assertEqual(call_text("plain_text", text), expected)

    def test_example(self):
        self.assert_plain('(heading 1 "" "T") (bullets (item (para "a" (break) "b")))', "T\na\nb\n")

    def test_length_counts_bytes(self):
        self.assertEqual(call("plain_text", '(para "\u20ac")'), [4, 0xE2, 0x82, 0xAC, 10])

    def test_inlines(self):
        for inline, expected in [
                ('""', ""), ('"a"', "a"), ('" a \\n\\t\\u{0}\\"\\\\\u00e9"', ' a \n\t\0"\\\u00e9'), ('"a" "b"', "ab"),
                ('(code " a ")', " a "), ('(math "x^2")', "x^2"), ("(break)", "\n"), ('(noteref "n")', ""),
                ('(ref "r")', "r"), ('(cite "k")', "k"), ('(cite "k" "l" "m")', "k, l, m"), ("(emph)", ""),
                ('(emph "a" (break) "b")', "a\nb"), ('(strong "a")', "a"), ('(strike "a")', "a"), ('(super "a")', "a"),
                ('(sub "a")', "a"), ('(caps "a")', "a"), ('(link "u" "a" (emph "b"))', "ab"), ('(link "u")', ""),
                ('(image "t" "a" (code "b"))', "ab"), ('(image "t")', ""), ('(span (class "k") "a" (ref "r"))', "ar"),
                ('(emph (strong (link "u" (span (class) (image "t" "deep")))))', "deep")]:
            self.assert_plain(f"(para {inline})", expected + "\n")
            self.assert_plain(f'(heading 1 "h" "x" {inline} "y")', "x" + expected + "y\n")

    def test_blocks(self):
        for block, expected in [
                ("(para)", "\n"), ('(para "a")', "a\n"), ('(heading 2 "h")', "\n"), ('(heading 2 "h" "a")', "a\n"),
                ('(code "c" "x\\n y\\n")', "x\n y\n\n"), ('(code "c" "")', "\n"), ('(formula "f" "x")', "x\n"),
                ("(rule)", ""), ("(quote)", ""), ('(quote (para "a") (rule) (para "b"))', "a\nb\n"),
                ("(bullets (item))", ""), ('(bullets (item (para "a")) (item) (item (para "b") (para "c")))', "a\nb\nc\n"),
                ('(numbers 5 (item (para "a")) (item (para "b")))', "a\nb\n"), ("(terms (term ()))", "\n"),
                ('(terms (term ("a" (emph "b")) (para "c") (para "d")) (term ("e")) (term () (para "f")))',
                 "ab\nc\nd\ne\n\nf\n"),
                ('(figure "f" "t" "a" (break))', "a\n\n"), ('(figure "f" "t")', "\n"),
                ('(group (class "k") (para "a") (para "b"))', "a\nb\n"), ("(group (class))", ""),
                ('(note "n" (para "a"))', "a\n"), ('(note "n")', "")]:
            self.assert_plain(block, expected)
            self.assert_plain(f'(para "<") {block} (para ">")', "<\n" + expected + ">\n")
            self.assert_plain(f"(quote (note \"n\" {block} {block}))", expected * 2)

    def test_tables(self):
        self.assert_plain('(table "t" (caption) (align left) (row (cell)))', "\n")
        self.assert_plain('(table "t" (caption "") (align left) (row (cell)))', "\n\n")
        self.assert_plain('(table "t" (caption (emph)) (align left) (row (cell "a")))', "\na\n")
        self.assert_plain('(table "t" (caption "c" (break)) (align left right none)'
                          ' (row (cell "a" (emph "b")) (cell) (cell "c")) (row (cell) (cell (break)) (cell)))',
                          "c\n\nab\t\tc\n\t\n\t\n")

    def test_white_space_stays(self):
        self.assert_plain('(para "  a  " (emph " ") "\\t") (para " ")', "  a   \t\n \n")

    def test_no_blocks(self):
        self.assertEqual(call("plain_text", ""), [0])
        self.assertEqual(call("plain_text", "; a comment"), [0])

    def test_no_document(self):
        for text in NO_DOCUMENTS:
            with self.subTest(text=text):
                self.assertEqual(call("plain_text", text), [-20])

    def test_longest(self):
        self.assert_plain('(para "' + "a" * 591 + '")', "a" * 591 + "\n")
        self.assert_plain("(para)" * 100, "\n" * 100)
        self.assert_plain("(para" + "(break)" * 84 + ")", "\n" * 85)
        self.assert_plain("(para (cite" + '"abc"' * 117 + "))", ", ".join(["abc"] * 117) + "\n")

    def test_deepest(self):
        self.assert_plain(nested(16), "")
        self.assert_plain(nested(15, '(para "a")'), "a\n")
        self.assert_plain("(para " + nested(15, '"x"', "emph") + ")", "x\n")


if __name__ == "__main__":
    unittest.main()
