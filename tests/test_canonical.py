import unittest

from helper import call, call_text, nested, NO_DOCUMENTS, some_documents


class CanonicalTest(unittest.TestCase):
    def assert_canonical(self, text, expected):
        with self.subTest(text=text):
            self.assertEqual(call_text("canonical", text), expected)
            self.assertEqual(call_text("canonical", expected), expected)

    def test_example(self):
        self.assert_canonical('(para "a"(emph"b"))(rule);end', '(para "a" (emph "b"))\n(rule)')

    def test_length_counts_bytes(self):
        self.assertEqual(call("canonical", '(para "\u00e9")'), [11] + list('(para "\u00e9")'.encode("utf-8")))

    def test_no_blocks(self):
        for text in ["", " \n", "; (rule)"]:
            self.assertEqual(call("canonical", text), [0])

    def test_every_form(self):
        for block in ['(para)', '(para "")', '(para "a" "" "b")', '(heading 3 "" "a" (break))', '(heading 1 "x")',
                      '(code "c" "x\\ny")', '(code "" "")', '(formula "f" "x^2")', '(rule)', '(quote)',
                      '(quote (para) (rule))', '(bullets (item))', '(bullets (item (para) (rule)) (item))',
                      '(numbers 0 (item) (item (para "a")))', '(numbers 999999 (item))', '(terms (term ()))',
                      '(terms (term ("a" (emph "b")) (para) (rule)) (term () (para)))',
                      '(table "" (caption) (align none left center right) (row (cell) (cell) (cell) (cell "a")))',
                      '(table "t" (caption "a" (emph)) (align left) (row (cell "b" "c")) (row (cell)))',
                      '(figure "" "")', '(figure "f" "a.png" "b" (break))', '(group (class))', '(group (class) (para))',
                      '(group (class "a" "b") (para) (rule))', '(note "n")', '(note "n" (para) (rule))']:
            self.assert_canonical(block, block)
        for inline in ['"a"', '(code "a")', '(math "a")', '(break)', '(noteref "a")', '(ref "a")', '(cite "a")',
                       '(cite "a" "b")', '(emph)', '(emph "a" "b")', '(strong "a")', '(strike "a")', '(super "a")',
                       '(sub "a")', '(caps "a")', '(link "")', '(link "a" "b" (emph))', '(image "a")',
                       '(image "a" "b" "c")', '(span (class))', '(span (class "a" "b") "c" (code "d"))']:
            self.assert_canonical(f"(para {inline})", f"(para {inline})")

    def test_blanks_and_comments(self):
        for blank in [" ", "\n", "\r\t", " ;)\"\n "]:
            text = '{}({}terms{}({}term{}({}"a"{}({}emph{}){}){}({}para{}){}){}){}({}numbers{}0{}({}item{}){}){}'
            self.assert_canonical(text.replace("{}", blank), '(terms (term ("a" (emph)) (para)))\n(numbers 0 (item))')

    def test_escape_sequences(self):
        self.assert_canonical('(para "\\"\\\\\\n\\t")', '(para "\\"\\\\\\n\\t")')
        self.assert_canonical('(para "\\u{22}\\u{5c}\\u{a}\\u{9}\\u{00000a}")', '(para "\\"\\\\\\n\\t\\n")')
        self.assert_canonical('(para "\\u{0}\\u{1}\\u{08}\\u{0b}\\u{c}\\u{d}\\u{f}\\u{10}\\u{1a}\\u{00001f}")',
                              '(para "\\u{0}\\u{1}\\u{8}\\u{b}\\u{c}\\u{d}\\u{f}\\u{10}\\u{1a}\\u{1f}")')

    def test_other_characters_stand_as_they_are(self):
        self.assert_canonical('(para "\\u{20}\\u{41}\\u{7e}\\u{7f}\\u{80}\\u{7ff}\\u{800}\\u{d7ff}")',
                              '(para " A~\x7f\x80\u07ff\u0800\ud7ff")')
        self.assert_canonical('(para "\\u{e000}\\u{ffff}\\u{10000}\\u{fffff}\\u{100000}\\u{10ffff}")',
                              '(para "\ue000\uffff\U00010000\U000fffff\U00100000\U0010ffff")')
        self.assert_canonical('(para "\\u{e9}\\u{5a5}\\u{20ac}\\u{a5a5}\\u{1f600}\\u{9a5c3}\\u{10a5c3}")',
                              '(para "\u00e9\u05a5\u20ac\ua5a5\U0001f600\U0009a5c3\U0010a5c3")')
        self.assert_canonical("(para \"();'#\u00e4\u20ac\U0001f600\")", "(para \"();'#\u00e4\u20ac\U0001f600\")")

    def test_escapes_in_labels_and_targets(self):
        self.assert_canonical('(figure "\\u{61}" "\\u{a}b\\"" (link "\\\\"))', '(figure "a" "\\nb\\"" (link "\\\\"))')

    def test_no_document(self):
        for text in NO_DOCUMENTS:
            with self.subTest(text=text):
                self.assertEqual(call("canonical", text), [-20])

    def test_generated_documents(self):
        for text in some_documents(200):
            expected = call_text("canonical", text)
            if len(expected.encode("utf-8")) <= 600:
                self.assert_canonical(text, expected)
                self.assertEqual(call("check", expected), call("check", text))

    def test_longest(self):
        self.assert_canonical('(para "' + "a" * 591 + '")', '(para "' + "a" * 591 + '")')
        self.assertEqual(call_text("canonical", "(rule)" * 100), "\n".join(["(rule)"] * 100))
        self.assertEqual(call_text("canonical", "(para" + '""' * 297 + ")"), "(para" + ' ""' * 297 + ")")

    def test_deepest(self):
        self.assert_canonical(nested(16), nested(16))
        self.assert_canonical("(para " + nested(15, ' "x"', "emph") + ")", "(para " + nested(15, ' "x"', "emph") + ")")
        self.assertEqual(call("canonical", nested(17)), [-20])


if __name__ == "__main__":
    unittest.main()
