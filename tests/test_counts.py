import unittest

from helper import call, call_text, nested, NO_DOCUMENTS, some_documents


class CountsTest(unittest.TestCase):
    def assert_counts(self, text, *expected):
        """Blocks, parts, words, characters, headings."""
        with self.subTest(text=text):
            self.assertEqual(call("counts", text), list(expected))

    def test_no_blocks(self):
        self.assert_counts("", 0, 0, 0, 0, 0)
        self.assert_counts("; a comment", 0, 0, 0, 0, 0)

    def test_every_kind_of_block(self):
        for block, *expected in [
                ("(para)", 1, 1, 0, 0, 0), ('(para "ab c")', 1, 1, 2, 3, 0), ('(heading 1 "id" "ab")', 1, 1, 1, 2, 1),
                ('(heading 6 "")', 1, 1, 0, 0, 1), ('(code "lang" "a b\\nc")', 1, 1, 3, 3, 0),
                ('(formula "id" "x^2 + y")', 1, 1, 3, 5, 0), ("(rule)", 1, 1, 0, 0, 0), ("(quote)", 1, 1, 0, 0, 0),
                ('(quote (para "a") (rule))', 1, 3, 1, 1, 0), ("(bullets (item))", 1, 2, 0, 0, 0),
                ('(bullets (item (para "a") (para "b")) (item) (item (rule)))', 1, 7, 2, 2, 0),
                ("(numbers 7 (item))", 1, 2, 0, 0, 0), ('(numbers 7 (item (para "a")) (item))', 1, 4, 1, 1, 0),
                ("(terms (term ()))", 1, 2, 0, 0, 0),
                ('(terms (term ("a b") (para "c") (rule)) (term ("d")))', 1, 5, 4, 4, 0),
                ('(table "id" (caption "cap") (align left none) (row (cell "a") (cell "b")) (row (cell "c") (cell)))',
                 1, 1, 4, 6, 0),
                ('(table "id" (caption) (align left) (row (cell)))', 1, 1, 0, 0, 0),
                ('(figure "id" "target" "a")', 1, 1, 1, 1, 0), ("(group (class))", 1, 1, 0, 0, 0),
                ('(group (class "k") (para "a") (rule))', 1, 3, 1, 1, 0), ('(note "n")', 1, 1, 0, 0, 0),
                ('(note "n" (para "a"))', 1, 2, 1, 1, 0)]:
            self.assert_counts(block, *expected)
            self.assert_counts(f"{block} {block}", *[2 * number for number in expected])
            inner = [1] + [expected[1] + 1] + expected[2:]
            self.assert_counts(f"(quote {block})", *inner)
            self.assert_counts(f'(group (class "k") {block})', *inner)
            self.assert_counts(f"(bullets (item {block}))", inner[0], inner[1] + 1, *inner[2:])
            self.assert_counts(f"(terms (term () {block}))", inner[0], inner[1] + 1, *inner[2:])

    def test_code_within_text_is_no_block(self):
        self.assert_counts('(para (code "a b") (code "c"))', 1, 1, 2, 3, 0)
        self.assert_counts('(table "" (caption (code "a")) (align left) (row (cell (code "b"))))', 1, 1, 2, 2, 0)

    def test_inlines(self):
        self.assert_counts('(para "a" (break) "b" (emph "c" (strong " d")) (noteref "n") (cite "k" "l"))', 1, 1, 4, 7, 0)
        self.assert_counts('(para (math "x y") (ref "r") (link "u" " a") (image "t" "b") (span (class "k") " c"))',
                           1, 1, 4, 6, 0)
        self.assert_counts('(para "a" (emph "b") "" (sub "c"))', 1, 1, 1, 3, 0)

    def test_every_kind_of_white_space(self):
        for blank in [" ", "\\t", "\\n", "\\u{d}", " \\t\\n\\u{d} "]:
            self.assert_counts(f'(para "a{blank}b")', 1, 1, 2, 2, 0)
            self.assert_counts(f'(para "{blank}ab{blank}")', 1, 1, 1, 2, 0)
            self.assert_counts(f'(para "{blank}")', 1, 1, 0, 0, 0)
            self.assert_counts(f'(para "\u20ac{blank}\u00e9\U0001f600{blank}x")', 1, 1, 3, 4, 0)

    def test_other_characters_are_no_white_space(self):
        for other in ["\\u{0}", "\\u{b}", "\\u{c}", "\\u{1f}", "\x7f", "\\u{85}", "\u00a0", "\u2003", "\u2028", "\u3000"]:
            self.assert_counts(f'(para "a{other}b")', 1, 1, 1, 3, 0)
            self.assert_counts(f'(para "{other}")', 1, 1, 1, 1, 0)

    def test_characters_of_several_bytes(self):
        for character in ["\u0080", "\u07ff", "\u0800", "\u20ac", "\uffff", "\U00010000", "\U0010ffff"]:
            self.assert_counts(f'(para "{character}")', 1, 1, 1, 1, 0)
            self.assert_counts(f'(para "a{character}{character} {character}")', 1, 1, 2, 4, 0)

    def test_headings_at_any_depth(self):
        self.assert_counts('(heading 1 "") (quote (heading 2 "" "a") (bullets (item (heading 3 "" "b"))))'
                           '(terms (term () (heading 1 ""))) (note "n" (group (class) (heading 1 "")))',
                           4, 12, 2, 2, 5)

    def test_words_of_blocks_do_not_meet(self):
        self.assert_counts('(para "a") (para "b")', 2, 2, 2, 2, 0)
        self.assert_counts('(table "" (caption "a") (align none none) (row (cell "b") (cell "c")))', 1, 1, 3, 3, 0)

    def test_words_and_characters_are_those_of_the_plain_text(self):
        for text in some_documents(200):
            with self.subTest(text=text):
                plain = call_text("plain_text", text)
                for blank in "\t\n\r":
                    plain = plain.replace(blank, " ")
                words = [word for word in plain.split(" ") if word]
                self.assertEqual(call("counts", text)[2:4], [len(words), sum(len(word) for word in words)])

    def test_no_document(self):
        for text in NO_DOCUMENTS:
            with self.subTest(text=text):
                self.assertEqual(call("counts", text), [-20])

    def test_longest(self):
        self.assert_counts("(rule)" * 100, 100, 100, 0, 0, 0)
        self.assert_counts('(para "' + "a " * 295 + '")', 1, 1, 295, 295, 0)
        self.assert_counts('(para "' + "\u20ac" * 197 + '")', 1, 1, 1, 197, 0)
        self.assert_counts("(bullets" + "(item)" * 98 + ")", 1, 99, 0, 0, 0)
        self.assert_counts('(heading 1"")' * 46, 46, 46, 0, 0, 46)

    def test_deepest(self):
        self.assert_counts(nested(16), 1, 16, 0, 0, 0)
        self.assert_counts(nested(15, '(heading 1 "" "a b")'), 1, 16, 2, 2, 1)
        self.assert_counts("(bullets (item " * 7 + '(para (emph "a"))' + "))" * 7, 1, 15, 1, 1, 0)


if __name__ == "__main__":
    unittest.main()
