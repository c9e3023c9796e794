import unittest

from blocktrees import documents
from helper import call, call_text, INLINE_PLACES, inline_lists, LONGEST, nested, NO_DOCUMENTS, NO_TEXTS, parsed, quoted
from helper import some_canonical, to_list, unquoted, Untouched, written


class ReplaceTextTest(unittest.TestCase):
    def assert_replaced(self, old, new, text, expected):
        with self.subTest(old=old, new=new, text=text):
            self.assertEqual(call_text("replace_text", old, new, text), expected)

    def assert_text(self, old, new, text, expected):
        """Of the text of a text form."""
        self.assert_replaced(old, new, f"(para {quoted(text)})", f"(para {quoted(expected)})")

    def assert_error(self, code, old, new, text):
        with self.subTest(old=old, new=new, text=text):
            self.assertEqual(call("replace_text", old, new, text), [code])

    def test_answer(self):
        expected = '(para "\u20ac")'
        self.assertEqual(call("replace_text", "a", "\u20ac", '(para "a")'), [12] + list(expected.encode("utf-8")))
        self.assertEqual(call("replace_text", "a", "b", ""), [0])

    def test_canonical_notation(self):
        self.assert_replaced("a", "b", '(para"\\u{61}"(emph"a"));a\n(rule)', '(para "b" (emph "b"))\n(rule)')
        self.assert_replaced("x", "b", '(para"\\u{61}"(emph"a"));x\n(rule)', '(para "a" (emph "a"))\n(rule)')

    def test_every_place(self):
        for place in INLINE_PLACES:
            for inline in ["{}", "(emph {})", '(link "u" {})', '(image "t" {})', '(span (class "k") {})', "(strong (caps {}))"]:
                text = place.replace("{}", inline)
                self.assert_replaced("ab", "c", text.replace("{}", '"xabyab" "ab"'), text.replace("{}", '"xcyc" "c"'))

    def test_all_texts(self):
        text = "\n".join(place.replace("{}", '"a" (emph "ba" (strong "a"))') for place in INLINE_PLACES[:12])
        self.assert_replaced("a", "xy", text, text.replace('a"', 'xy"'))

    def test_what_is_no_text(self):
        for text in ['(para (code "a"))', '(para (math "a"))', '(para (ref "a"))', '(para (noteref "a"))', '(para (cite "a" "a"))',
                     '(para (link "a"))', '(para (image "a"))', '(para (span (class "a" "a")))', '(heading 1 "a")',
                     '(code "a" "a")', '(formula "a" "a")', '(figure "a" "a")', '(note "a")', '(group (class "a"))',
                     '(table "a" (caption) (align left) (row (cell)))', "(para (emph) (caps (break)))", "(bullets (item))"]:
            self.assert_replaced("a", "b", text, text)
            self.assert_replaced(text, "b", text, text)
        self.assert_replaced("para", "b", '(para "paras")', '(para "bs")')
        self.assert_replaced("1", "2", '(heading 1 "" "1") (numbers 1 (item))', '(heading 1 "" "2")\n(numbers 1 (item))')

    def test_occurrences_that_could_overlap(self):
        self.assert_text("aa", "b", "aaa", "ba")
        self.assert_text("aa", "b", "aaaa", "bb")
        self.assert_text("aa", "b", "aaaaa", "bba")
        self.assert_text("aba", "x", "ababa", "xba")
        self.assert_text("aba", "x", "aababab", "axbab")
        self.assert_text("aab", "x", "aaab", "ax")
        self.assert_text("abab", "", "abababab", "")

    def test_what_was_put_there_is_not_replaced(self):
        self.assert_text("a", "aa", "aba", "aabaa")
        self.assert_text("a", "bab", "aa", "babbab")
        self.assert_text("ab", "", "aabb", "ab")
        self.assert_text("ab", "a", "abb", "ab")
        self.assert_text("ab", "b", "aab", "ab")

    def test_old_and_new(self):
        self.assert_text("a", "a", "abca", "abca")
        self.assert_text("abc", "x", "abc", "x")
        self.assert_text("abc", "x", "ab", "ab")
        self.assert_text("abc", "x", "abab", "abab")
        self.assert_text("a", "A", "aAa", "AAA")
        self.assert_text("A", "x", "a", "a")
        self.assert_text("ab", "ba", "ababab", "bababa")
        self.assert_text(" ", "_", " a  b ", "_a__b_")

    def test_empty_new(self):
        self.assert_text("a", "", "abca", "bc")
        self.assert_text("bc", "", "abcd", "ad")

    def test_texts_that_become_empty(self):
        self.assert_text("a", "", "a", "")
        self.assert_text("a", "", "aaa", "")
        self.assert_replaced("ab", "", '(para "ab") (heading 1 "" (emph "abab") "" "x")',
                             '(para "")\n(heading 1 "" (emph "") "" "x")')

    def test_empty_texts(self):
        self.assert_replaced("a", "b", '(para "") (para) (para (emph ""))', '(para "")\n(para)\n(para (emph ""))')

    def test_characters_of_every_length(self):
        samples = ["a", "\u00e9", "\u20ac", "\U0001f600"]
        for old in samples:
            for new in ["", *samples]:
                self.assert_text(old, new, "x".join(samples), "x".join(new if each == old else each for each in samples))
        for old, text in [("\u00e9", "\u00e8\u0169\u2069"), ("\u20ac", "\u20ad\u10ac\u20ec"), ("\U0001f600", "\U0001f601\U0001e600"),
                          ("\u0080", "\u00c0\u0800\u8080"), ("i", "\u00e9\u2069")]:
            self.assert_text(old, "x", text, text)

    def test_characters_that_are_escaped(self):
        for old in ["\n", "\t", '"', "\\", "\r", "\0", "\x1f", "\x7f", "\\n", '\\"', "\\u{d}"]:
            self.assert_text(old, "x", f"a{old}b{old}", "axbx")
            self.assert_text("x", old, "axbx", f"a{old}b{old}")
        self.assert_text("n", "m", "\n\\n", "\n\\m")
        self.assert_text("u{d}", "x", "\r\\u{d}", "\r\\x")
        self.assert_text("\\", "/", 'a"\n\t\r', 'a"\n\t\r')

    def test_no_occurrences_over_the_end_of_a_text(self):
        for text in ['(para "a" "b")', '(para "a" (emph "b"))', '(para (emph "a") "b")', '(para (emph "a" (strong "b")))',
                     '(para "a" (code "b"))', '(para "a")\n(para "b")', '(terms (term ("a" "b")) (term ("a")) (term ("b")))',
                     '(table "" (caption "a" "b") (align left none) (row (cell "a") (cell "b")) (row (cell "b") (cell)))',
                     '(para "a" "" "b")', '(para "a" (emph) "b")']:
            self.assert_replaced("ab", "x", text, text)
        self.assert_replaced("a\nb", "x", '(para "a" (break) "b" "a\\nb")', '(para "a" (break) "b" "x")')
        self.assert_replaced('a" "b', "x", '(para "a" "b" "a\\" \\"b")', '(para "a" "b" "x")')

    def test_texts_are_not_joined(self):
        self.assert_replaced("a", "", '(para "xa" "ay" (emph "a") "a" "z")', '(para "x" "y" (emph "") "" "z")')

    def test_no_text(self):
        for text in NO_TEXTS:
            for other in ["a", ""]:
                for tree in ["(rule)", *NO_DOCUMENTS]:
                    self.assert_error(-24, text, other, tree)
                    self.assert_error(-24, other, text, tree)
            self.assert_error(-24, text, text, "(rule)")

    def test_no_document(self):
        for tree in NO_DOCUMENTS:
            for old, new in [("a", "b"), ("a", ""), ("", "b"), ("", ""), ("a", "a")]:
                self.assert_error(-20, old, new, tree)

    def test_empty_old(self):
        for tree in ["", "(rule)", "(para)", '(para "")', '(para "a")']:
            for new in ["", "a", "\u20ac"]:
                self.assert_error(-22, "", new, tree)

    def test_parameters_are_checked_in_their_order(self):
        self.assertEqual(documents.replace_text([0xFF], Untouched(), Untouched()), [-24])
        self.assertEqual(documents.replace_text([], [0xFF], Untouched()), [-24])
        self.assertEqual(documents.replace_text([], [], to_list("(")), [-20])
        with self.assertRaises(AssertionError):
            documents.replace_text([], [], Untouched())

    def test_agrees_with_a_second_reader(self):
        pairs = [("a", "b"), ("a", "aa"), (" ", ""), ("b1", "\u20ac"), ("\u00e9", "\n"), ('"', "\\"), ("\n", "\r"), ("aa", "x"),
                 ("a-", "\t"), ("1 ", " 1")]
        for text in some_canonical(150):
            for old, new in pairs:
                self.assert_replaced(old, new, text, replaced_by_model(old, new, text))

    def test_longest(self):
        new = "\u20ac" * 200
        self.assert_text("a", new, "a" * 591, new * 591)
        self.assert_text("a", '"' * LONGEST, "a" * 591, '"' * 591 * LONGEST)
        self.assert_text("a" * 591, new, "a" * 591, new)
        self.assert_text("a" * 592, new, "a" * 591, "a" * 591)
        self.assert_text("a" * LONGEST, "", "a" * 591, "a" * 591)
        self.assert_text("a" * 295 + "b", "x", "a" * 591, "a" * 591)
        self.assert_replaced("a", "b", "(para" + '"a"' * 198 + ")", "(para" + ' "b"' * 198 + ")")

    def test_deepest(self):
        self.assert_replaced("a", "b", nested(15, ' (para "a")'), nested(15, ' (para "b")'))
        self.assert_replaced("a", "b", f'(para {nested(15, chr(32) + quoted("a"), "emph")})',
                             f'(para {nested(15, chr(32) + quoted("b"), "emph")})')


def replaced_by_model(old, new, text):
    document = parsed(text)
    for holder, first in inline_lists(document):
        for place in range(first, len(holder)):
            if isinstance(holder[place], str):
                holder[place] = quoted(unquoted(holder[place]).replace(old, new))
    return written(document)


if __name__ == "__main__":
    unittest.main()
