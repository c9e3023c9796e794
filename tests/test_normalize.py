import unittest

from helper import call, call_text, nested, NO_DOCUMENTS, some_documents


class NormalizeTest(unittest.TestCase):
    def assert_normal(self, text, expected):
        with self.subTest(text=text):
            self.assertEqual(call_text("normalize", text), expected)
            self.assertEqual(call_text("normalize", expected), expected)

    def assert_inlines(self, text, expected):
        self.assert_normal(f'(heading 1 "" {text})', f'(heading 1 "" {expected})' if expected else '(heading 1 "")')


class InlineTest(NormalizeTest):
    def test_example(self):
        self.assert_normal(
            '(para " a  b" (emph " c ") (strong "d") (strong " e")) (quote) (quote (para "x")) (quote (para "y"))',
            '(para "a b " (emph "c") " " (strong "d e"))\n(quote (para "x") (para "y"))')

    def test_texts_become_one(self):
        self.assert_inlines('"a" "b"', '"ab"')
        self.assert_inlines('"a" "" "b "  "c" "d"', '"ab cd"')
        self.assert_inlines('"a" (emph) "b"', '"ab"')

    def test_every_kind_of_white_space(self):
        self.assert_inlines('"a\\u{20}b\\tc\\nd\\u{d}e \\t\\n\\u{d} f"', '"a b c d e f"')
        self.assert_inlines('"a " " " "\\t" " b"', '"a b"')
        self.assert_inlines('"\\u{b}a\\u{c}\\u{a0}b\\u{2003}"', '"\\u{b}a\\u{c}\u00a0b\u2003"')

    def test_gaps_at_the_ends(self):
        self.assert_inlines('" a "', '"a"')
        self.assert_inlines('(break) "a" (break)', '"a"')
        self.assert_inlines('" " (break) (emph " " (break) "a" (break)) (strong " ") " "', '(emph "a")')
        self.assert_inlines('" "', "")
        self.assert_inlines('(break)', "")
        self.assert_inlines('"" (emph (break) " ")', "")

    def test_gaps_with_spaces(self):
        self.assert_inlines('"a" (emph " b")', '"a " (emph "b")')
        self.assert_inlines('(emph "a ") "b"', '(emph "a") " b"')
        self.assert_inlines('(emph "a ") (strong " b")', '(emph "a") " " (strong "b")')
        self.assert_inlines('(emph "a ") " " (emph "b")', '(emph "a b")')
        self.assert_inlines('"a" (emph " ") "b"', '"a b"')
        self.assert_inlines('(emph "a" (strong " ") "b")', '(emph "a b")')
        self.assert_inlines('(emph (strong "a")) " " (emph (sub "b"))', '(emph (strong "a") " " (sub "b"))')
        self.assert_inlines('(emph (strong "a")) " " (strong (emph "b"))', '(emph (strong "a")) " " (strong (emph "b"))')

    def test_gaps_with_line_breaks(self):
        self.assert_inlines('"a " (break) " b"', '"a" (break) "b"')
        self.assert_inlines('"a" (break) " " (break) "b"', '"a" (break) (break) "b"')
        self.assert_inlines('"a" (emph (break)) "b"', '"a" (break) "b"')
        self.assert_inlines('(emph "a" (break)) " " (strong (break) "b")', '(emph "a") (break) (break) (strong "b")')
        self.assert_inlines('(emph "a") (break) (emph "b")', '(emph "a" (break) "b")')
        self.assert_inlines('(emph "a") (strong (break) " ") (emph "b")', '(emph "a" (break) "b")')

    def test_gaps_beside_other_runs(self):
        self.assert_inlines('(code " a ") " " (math " b ")', '(code " a ") " " (math " b ")')
        self.assert_inlines('" " (code "") " "', '(code "")')
        self.assert_inlines('(noteref "a") " \\n" (ref "b") (break) " " (cite "c" "d")',
                            '(noteref "a") " " (ref "b") (break) (cite "c" "d")')
        self.assert_inlines('" " (image "t") " "', '(image "t")')

    def test_other_runs_are_not_joined(self):
        for run in ['(code "a")', '(math "a")', '(noteref "a")', '(ref "a")', '(cite "a")', '(image "a")']:
            self.assert_inlines(f"{run} {run}", f"{run} {run}")
            self.assert_inlines(f'"a" {run} "b"', f'"a" {run} "b"')

    def test_wrappers_that_are_joined(self):
        for name in ["emph", "strong", "strike", "super", "sub", "caps", 'link "u"', 'span (class "k" "l")']:
            self.assert_inlines(f'({name} "a") ({name} "b")', f'({name} "ab")')
            self.assert_inlines(f'({name} "a") "" ({name}) ({name} (code "b"))', f'({name} "a" (code "b"))')
            self.assert_inlines(f'({name} "a") "x" ({name} "b")', f'({name} "a") "x" ({name} "b")')

    def test_wrappers_that_differ(self):
        self.assert_inlines('(emph "a") (strong "b") (sub "c") (super "d")',
                            '(emph "a") (strong "b") (sub "c") (super "d")')
        self.assert_inlines('(link "u" "a") (link "v" "b")', '(link "u" "a") (link "v" "b")')
        self.assert_inlines('(link "" "a") (link "v" "b")', '(link "" "a") (link "v" "b")')
        self.assert_inlines('(link "u" "a") (span (class "u") "b")', '(link "u" "a") (span (class "u") "b")')
        self.assert_inlines('(span (class "k" "l") "a") (span (class "l" "k") "b")',
                            '(span (class "k" "l") "a") (span (class "l" "k") "b")')
        self.assert_inlines('(span (class "k") "a") (span (class "k" "l") "b")',
                            '(span (class "k") "a") (span (class "k" "l") "b")')

    def test_wrappers_at_several_levels(self):
        self.assert_inlines('(emph (strong "a")) (emph (strong "b") "c")', '(emph (strong "ab") "c")')
        self.assert_inlines('(emph "a" (strong "b")) (emph (strong "c") "d")', '(emph "a" (strong "bc") "d")')
        self.assert_inlines('(strong (emph "a")) (emph (strong "b"))', '(strong (emph "a")) (emph (strong "b"))')
        self.assert_inlines('(link "u" (emph "a ")) (link "u" (emph "b"))', '(link "u" (emph "a b"))')

    def test_same_style_within_itself(self):
        for name in ["emph", "strong", "strike", "super", "sub", "caps"]:
            self.assert_inlines(f'({name} "a" ({name} "b") "c")', f'({name} "abc")')
            self.assert_inlines(f'({name} (link "u" ({name} "b")))', f'({name} (link "u" "b"))')
            self.assert_inlines(f'({name} (span (class "k") (math "x") ({name} ({name} "b"))))',
                                f'({name} (span (class "k") (math "x") "b"))')
        self.assert_inlines('(emph (strong (emph "a") "b"))', '(emph (strong "ab"))')

    def test_links_in_links(self):
        self.assert_inlines('(link "u" "a" (link "v" "b") "c")', '(link "u" "abc")')
        self.assert_inlines('(link "u" (emph (link "u" "b")))', '(link "u" (emph "b"))')
        self.assert_inlines('(link "u" (link "v"))', "")

    def test_spans(self):
        self.assert_inlines('(span (class) "a" (emph "b"))', '"a" (emph "b")')
        self.assert_inlines('(emph (span (class) "a")) (emph "b")', '(emph "ab")')
        self.assert_inlines('(span (class "k") (span (class "k") "a"))', '(span (class "k") (span (class "k") "a"))')
        self.assert_inlines('(span (class "k") (span (class) "a") "b")', '(span (class "k") "ab")')
        self.assert_inlines('(span (class))', "")

    def test_images(self):
        self.assert_inlines('(image "t")', '(image "t")')
        self.assert_inlines('(image "t" " a " (emph) (break))', '(image "t" "a")')
        self.assert_inlines('(image "t") (image "t")', '(image "t") (image "t")')
        self.assert_inlines('(emph (image "t" (emph "a " " b")))', '(emph (image "t" (emph "a b")))')
        self.assert_inlines('(link "u" (image "t" (link "v" "a")))', '(link "u" (image "t" (link "v" "a")))')
        self.assert_inlines('(emph "a") (emph (image "t" (image "s" " ")))', '(emph "a" (image "t" (image "s")))')

    def test_empty_wrappers_vanish(self):
        for name in ["emph", "strong", "strike", "super", "sub", "caps", 'link "u"', 'span (class "k")']:
            self.assert_inlines(f"({name})", "")
            self.assert_inlines(f'"a " ({name}) " b"', '"a b"')
            self.assert_inlines(f'({name} "" (emph ""))', "")

    def test_words_of_several_wrappers(self):
        self.assert_inlines('"a" (emph "b") "c"', '"a" (emph "b") "c"')
        self.assert_inlines('(emph "a") (emph "") "" (emph "b ") "c"', '(emph "ab") " c"')

    def test_texts_with_escapes(self):
        self.assert_inlines('"\\"\\\\ \\n \\u{1}\u00e9 \u20ac"', '"\\"\\\\ \\u{1}\u00e9 \u20ac"')


class BlockTest(NormalizeTest):
    def test_every_list_of_inlines(self):
        self.assert_normal('(para " a ")', '(para "a")')
        self.assert_normal('(heading 2 "h" " a ")', '(heading 2 "h" "a")')
        self.assert_normal('(figure "f" " t " " a ")', '(figure "f" " t " "a")')
        self.assert_normal('(terms (term (" a " (emph)) (para " b ")) (term (" ")))',
                           '(terms (term ("a") (para "b")) (term ()))')
        self.assert_normal('(table "t" (caption " a ") (align left none) (row (cell " b") (cell (emph))) (row (cell) (cell "c ")))',
                           '(table "t" (caption "a") (align left none) (row (cell "b") (cell)) (row (cell) (cell "c")))')
        self.assert_normal('(table "" (caption "") (align right) (row (cell)))',
                           '(table "" (caption) (align right) (row (cell)))')

    def test_every_list_of_blocks(self):
        inner = '(para) (group (class) (para " a ")) (quote) (bullets (item)) (bullets (item))'
        normal = '(para "a") (bullets (item) (item))'
        for frame in ["(quote {})", "(bullets (item {}) (item {}))", "(numbers 7 (item {}) (item {}))",
                      "(terms (term () {}) (term () {}))", '(group (class "k") {})', '(note "n" {})']:
            self.assert_normal(frame.replace("{}", inner), frame.replace("{}", normal))

    def test_blocks_that_stay_as_they_are(self):
        for block in ['(code "" " a  b ")', '(formula "" " a  b ")', '(rule)', '(heading 1 "")', '(figure "" "")',
                      '(bullets (item))', '(numbers 1 (item))', '(terms (term ()))', '(note "n")',
                      '(table "" (caption) (align left) (row (cell)))', '(group (class "a") (rule))']:
            self.assert_normal(block, block)
            self.assert_normal(f'{block} (para "x") {block}', f'{block}\n(para "x")\n{block}')

    def test_no_joining_of_others(self):
        for block in ['(para "a")', '(code "" "a")', '(heading 1 "")', '(rule)', '(terms (term ()))', '(note "n")',
                      '(group (class "a") (rule))', '(formula "" "")', '(figure "" "")',
                      '(table "" (caption) (align left) (row (cell)))']:
            self.assert_normal(f"{block} {block}", f"{block}\n{block}")

    def test_paragraphs_that_vanish(self):
        for text in ["(para)", '(para "")', '(para " ")', "(para (break))", "(para (emph))", '(para (link "u" " "))']:
            self.assert_normal(text, "")
            self.assert_normal(f"(rule) {text} (rule)", "(rule)\n(rule)")
        self.assert_normal('(para (image "t"))', '(para (image "t"))')
        self.assert_normal('(para (code ""))', '(para (code ""))')
        self.assert_normal('(para (noteref "n"))', '(para (noteref "n"))')

    def test_quotes_and_groups_that_vanish(self):
        for text in ["(quote)", "(quote (para))", "(quote (quote) (group (class)))", "(group (class))",
                     '(group (class "k"))', '(group (class "k") (para " "))', '(group (class "k") (quote (para)))',
                     "(group (class) (para (emph)))"]:
            self.assert_normal(text, "")
            self.assert_normal(f"(rule) {text} (rule)", "(rule)\n(rule)")

    def test_groups(self):
        self.assert_normal('(group (class) (para "a") (rule))', '(para "a")\n(rule)')
        self.assert_normal('(group (class) (group (class) (rule)) (group (class "k") (rule)))',
                           '(rule)\n(group (class "k") (rule))')
        self.assert_normal('(quote (rule)) (group (class) (quote (rule)) (bullets (item))) (bullets (item))',
                           '(quote (rule) (rule))\n(bullets (item) (item))')

    def test_quotes_are_joined(self):
        self.assert_normal('(quote (rule)) (quote (para "a")) (quote (rule))', '(quote (rule) (para "a") (rule))')
        self.assert_normal('(quote (rule)) (para "a") (quote (rule))', '(quote (rule))\n(para "a")\n(quote (rule))')
        self.assert_normal('(quote (rule)) (para) (quote) (quote (rule))', '(quote (rule) (rule))')

    def test_quotes_are_joined_where_they_meet(self):
        self.assert_normal('(quote (bullets (item))) (quote (bullets (item (rule))) (rule))',
                           '(quote (bullets (item) (item (rule))) (rule))')
        self.assert_normal('(quote (quote (quote (rule)))) (quote (quote (quote (rule)) (rule)))',
                           '(quote (quote (quote (rule) (rule)) (rule)))')
        self.assert_normal('(quote (numbers 1 (item))) (quote (numbers 2 (item))) (quote (numbers 3 (item)))',
                           '(quote (numbers 1 (item) (item) (item)))')
        self.assert_normal('(quote (numbers 1 (item))) (quote (numbers 3 (item)))',
                           '(quote (numbers 1 (item)) (numbers 3 (item)))')

    def test_bullet_lists_are_joined(self):
        self.assert_normal('(bullets (item (rule))) (bullets (item) (item)) (bullets (item (para "a")))',
                           '(bullets (item (rule)) (item) (item) (item (para "a")))')
        self.assert_normal('(bullets (item (quote (rule)))) (bullets (item (quote (rule))))',
                           '(bullets (item (quote (rule))) (item (quote (rule))))')
        self.assert_normal('(bullets (item)) (numbers 1 (item)) (bullets (item))',
                           '(bullets (item))\n(numbers 1 (item))\n(bullets (item))')

    def test_numbered_lists_that_go_on(self):
        self.assert_normal('(numbers 1 (item) (item)) (numbers 3 (item (rule)))',
                           '(numbers 1 (item) (item) (item (rule)))')
        self.assert_normal('(numbers 0 (item)) (numbers 1 (item)) (para) (numbers 2 (item) (item))',
                           '(numbers 0 (item) (item) (item) (item))')
        self.assert_normal('(numbers 999998 (item)) (numbers 999999 (item) (item))',
                           '(numbers 999998 (item) (item) (item))')

    def test_numbered_lists_that_do_not_go_on(self):
        for start in [0, 1, 2, 4, 5, 999999]:
            text = f"(numbers 1 (item) (item)) (numbers {start} (item))"
            self.assert_normal(text, text.replace(") (n", ")\n(n"))
        self.assert_normal('(numbers 1 (item)) (numbers 3 (item)) (numbers 4 (item)) (numbers 2 (item))',
                           '(numbers 1 (item))\n(numbers 3 (item) (item))\n(numbers 2 (item))')

    def test_no_document(self):
        for text in NO_DOCUMENTS:
            with self.subTest(text=text):
                self.assertEqual(call("normalize", text), [-20])

    def test_no_blocks(self):
        self.assertEqual(call("normalize", ""), [0])
        self.assertEqual(call("normalize", "(para) ; nothing"), [0])


class PropertyTest(NormalizeTest):
    def test_normal_form_of_a_normal_form(self):
        for text in some_documents(500):
            normal = call_text("normalize", text)
            self.assert_normal(text, normal)
            self.assertEqual(call_text("canonical", normal), normal)

    def test_same_words_without_images(self):
        for text in some_documents(400, images=False):
            with self.subTest(text=text):
                plain = [call_text("plain_text", each) for each in (text, call_text("normalize", text))]
                words = ["".join(c if c not in " \t\n\r" else " " for c in each).split(" ") for each in plain]
                self.assertEqual([w for w in words[0] if w], [w for w in words[1] if w])

    def test_longest(self):
        self.assert_normal('(para "' + "a " * 295 + '")', '(para "' + "a " * 294 + 'a")')
        self.assert_normal("(para" + '""' * 297 + ")", "")
        self.assert_normal('(para' + '"a"' * 198 + ")", '(para "' + "a" * 198 + '")')
        self.assertEqual(call_text("normalize", "(rule)" * 100), "\n".join(["(rule)"] * 100))
        self.assert_normal("(quote(rule))" * 46, "(quote" + " (rule)" * 46 + ")")
        self.assertEqual(call_text("normalize", "(bullets(item))" * 40), "(bullets" + " (item)" * 40 + ")")
        self.assert_normal('(para "' + " " * 591 + '")', "")
        self.assertEqual(call_text("normalize", '(para "a"' + "(break)" * 83 + '"b")'),
                         '(para "a"' + " (break)" * 83 + ' "b")')

    def test_deepest(self):
        self.assert_normal(nested(16), "")
        self.assert_normal(nested(15, " (rule)"), nested(15, " (rule)"))
        self.assert_normal("(para " + nested(15, ' "x"', "emph") + ")", '(para (emph "x"))')
        spans = '(span (class "a") ' * 14
        self.assert_normal(f'(para {spans}"x"' + ")" * 15, f'(para {spans}"x"' + ")" * 15)
        self.assert_normal(nested(15, " (rule)") * 2, "(quote " * 14 + "(quote (rule) (rule))" + ")" * 14)
        images = '(image "t" ' * 14
        self.assert_normal(f'(para {images} (emph " ")' + ")" * 15, '(para ' + images[:-1] + ")" * 15)


if __name__ == "__main__":
    unittest.main()
