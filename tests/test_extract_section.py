import unittest

from helper import call, call_text, LARGEST, nested, NO_DOCUMENTS, parsed, some_canonical, written

HEADINGS = [f'(heading {level} "" "h{level}")' for level in range(1, 7)]


class ExtractSectionTest(unittest.TestCase):
    def assert_section(self, index, text, *blocks):
        with self.subTest(index=index, text=text):
            self.assertEqual(call_text("extract_section", index, text), "\n".join(blocks))

    def assert_error(self, code, index, text):
        with self.subTest(index=index, text=text):
            self.assertEqual(call("extract_section", index, text), [code])

    def test_answer(self):
        expected = '(heading 1 "" "\u20ac")\n(rule)'
        self.assertEqual(call("extract_section", 0, '(quote) (heading 1 "" "\u20ac") (rule)'),
                         [27] + list(expected.encode("utf-8")))

    def test_canonical_notation(self):
        self.assert_section(0, '(rule);no\n(heading 2"k";\n"\\u{61}"(emph"b"))\t(para"c")(heading 1"")',
                            '(heading 2 "k" "a" (emph "b"))', '(para "c")')

    def test_one(self):
        for heading in HEADINGS:
            self.assert_section(0, heading, heading)
            self.assert_section(0, f"(rule) (quote) {heading}", heading)
            self.assert_section(0, f"(rule) {heading} (quote) (rule)", heading, "(quote)", "(rule)")

    def test_one_after_another(self):
        first, second, third = '(heading 3 "" "a")', '(heading 3 "" "b")', '(heading 3 "" "c")'
        text = f"(quote) {first} (rule) {second} {third} (code \"\" \"x\") (rule)"
        self.assert_section(0, text, first, "(rule)")
        self.assert_section(1, text, second)
        self.assert_section(2, text, third, '(code "" "x")', "(rule)")
        self.assert_error(-2, 3, text)

    def test_sections_within_sections(self):
        text = "(rule) ".join(HEADINGS) + "(quote)"
        for index in range(6):
            blocks = [HEADINGS[index]]
            for heading in HEADINGS[index + 1:]:
                blocks += ["(rule)", heading]
            self.assert_section(index, text, *blocks, "(quote)")

    def test_levels_that_go_up_and_down(self):
        one, two, three, four, five, six = HEADINGS
        text = one + four + "(rule)" + six + two + "(quote)" + five + three + one + "(para)"
        self.assert_section(0, text, one, four, "(rule)", six, two, "(quote)", five, three)
        self.assert_section(1, text, four, "(rule)", six)
        self.assert_section(2, text, six)
        self.assert_section(3, text, two, "(quote)", five, three)
        self.assert_section(4, text, five)
        self.assert_section(5, text, three)
        self.assert_section(6, text, one, "(para)")
        self.assert_error(-2, 7, text)

    def test_headings_inside_other_blocks(self):
        inner = f'(quote {HEADINGS[0]}) (bullets (item {HEADINGS[0]})) (note "n" (rule) {HEADINGS[0]})'
        text = f"{inner} {HEADINGS[1]} {inner} {HEADINGS[1]}"
        self.assert_section(0, text, HEADINGS[1], *inner.replace(") (bul", ")\n(bul").replace(") (no", ")\n(no").split("\n"))
        self.assert_section(1, text, HEADINGS[1])
        self.assert_error(-2, 2, text)
        self.assert_error(-2, 0, inner)

    def test_index_is_too_great(self):
        for number in range(4):
            text = "(rule)" + '(heading 1 "" "a") (rule)' * number
            for index in [number, number + 1, number + 2, 600, LARGEST - 1, LARGEST]:
                self.assert_error(-2, index, text)
        self.assert_error(-2, 0, "")
        self.assert_error(-2, LARGEST, "")

    def test_agrees_with_sections(self):
        for text in some_canonical(200):
            answer = call("sections", text)
            blocks = [written([block]) for block in parsed(text)]
            for index in range(answer[0]):
                start, number = answer[3 * index + 2], answer[3 * index + 3]
                self.assert_section(index, text, *blocks[start:start + number])
            self.assert_error(-2, answer[0], text)

    def test_no_document(self):
        for text in NO_DOCUMENTS:
            for index in [0, 1, LARGEST]:
                self.assert_error(-20, index, text)

    def test_longest(self):
        text = '(heading 1"")' * 46
        for index in range(46):
            self.assert_section(index, text, '(heading 1 "")')
        self.assert_error(-2, 46, text)
        self.assert_section(0, '(heading 6"")' + "(rule)" * 97, '(heading 6 "")', *["(rule)"] * 97)

    def test_deepest(self):
        heading = '(heading 3 "" ' + nested(15, "", "emph") + ")"
        self.assert_section(0, f"(rule) {heading} {nested(16)} {heading}", heading, nested(16))


if __name__ == "__main__":
    unittest.main()
