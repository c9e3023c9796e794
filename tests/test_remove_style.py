import unittest

from blocktrees import documents
from helper import call, call_text, INLINE_PLACES, inline_lists, nested, NO_DOCUMENTS, NO_TEXTS, parsed, some_canonical
from helper import STYLES, to_list, Untouched, written

NO_STYLES = [
    "", " ", "e", "emp", "emphs", "emph ", " emph", "Emph", "EMPH", "emph\0", "emph\n", "(emph)", '"emph"', "emphasis",
    "superscript", "subscript", "small caps", "link", "image", "span", "code", "math", "break", "ref", "noteref", "cite", "para",
    "quote", "class", "text", "1", "-", "\u00e9", "x" * 600, "\u20ac" * 200,
]


class RemoveStyleTest(unittest.TestCase):
    def assert_removed(self, style, text, expected):
        with self.subTest(style=style, text=text):
            self.assertEqual(call_text("remove_style", style, text), expected)

    def assert_inlines(self, style, text, expected):
        """In every place where inline forms stand; what stands there must not have the style."""
        for place in INLINE_PLACES:
            if f"({style} " not in place:
                self.assert_removed(style, place.replace("{}", text), place.replace("{}", expected))

    def assert_error(self, code, style, text):
        with self.subTest(style=style, text=text):
            self.assertEqual(call("remove_style", style, text), [code])

    def test_answer(self):
        self.assertEqual(call("remove_style", "emph", '(para (emph "\u20ac"))'), [12] + list('(para "\u20ac")'.encode("utf-8")))
        self.assertEqual(call("remove_style", "emph", ""), [0])

    def test_canonical_notation(self):
        self.assert_removed("emph", '(para"\\u{61}"(emph"b"));no\n(rule)', '(para "a" "b")\n(rule)')

    def test_every_style_in_every_place(self):
        for style in STYLES:
            self.assert_inlines(style, f'"a" ({style} "b" (code "c")) "d"', '"a" "b" (code "c") "d"')
            self.assert_inlines(style, f'({style} "b") ({style} "c")', '"b" "c"')

    def test_places_that_have_the_style(self):
        for style in STYLES:
            for place in INLINE_PLACES:
                if f"({style} " in place:
                    text = place.replace("{}", '"a"')
                    start = text.index(f"({style} ")
                    self.assert_removed(style, text, (text[:start] + text[start + len(style) + 2:]).replace(")", "", 1))

    def test_every_style_within_every_other(self):
        for style in STYLES:
            for other in [*STYLES, 'link "u"', 'image "t"', 'span (class "k")', "span (class)"]:
                if other != style:
                    self.assert_inlines(style, f'({other} "a" ({style} "b") "c")', f'({other} "a" "b" "c")')
                    self.assert_inlines(style, f'({style} "a" ({other} "b") "c")', f'"a" ({other} "b") "c"')
                    self.assert_inlines(style, f'({style} ({other} ({style} "b")))', f'({other} "b")')
                    self.assert_inlines(style, f'({other} ({style} ({other} "b")))', f'({other} ({other} "b"))')
                    self.assert_inlines(style, f'({other} "a" ({other}))', f'({other} "a" ({other}))')

    def test_same_style_within_itself(self):
        for style in STYLES:
            self.assert_inlines(style, f'({style} "a" ({style} "b" ({style} "c") "d") "e")', '"a" "b" "c" "d" "e"')
            self.assert_removed(style, f'(para ({style} ({style} ({style}))))', "(para)")

    def test_empty_lists(self):
        for style in STYLES:
            for before, after in [("(para {})", "(para)"), ("(terms (term ({})))", "(terms (term ()))"),
                                  ("(para (link \"u\" {}))", "(para (link \"u\"))")]:
                self.assert_removed(style, before.replace("{}", f"({style})"), after)
                self.assert_removed(style, before.replace("{}", f"({style} ({style}) ({style}))"), after)
            self.assert_inlines(style, f'"a" ({style}) "b"', '"a" "b"')

    def test_neighbouring_texts_stay_apart(self):
        self.assert_inlines("emph", '"a " (emph " b") "" (emph "") "c"', '"a " " b" "" "" "c"')
        self.assert_inlines("caps", '(strong "a") (caps (strong "b")) (strong "c")', '(strong "a") (strong "b") (strong "c")')
        self.assert_inlines("sub", '(sub (break) "a" (break))', '(break) "a" (break)')

    def test_all_at_once(self):
        for places in [INLINE_PLACES[4:12], INLINE_PLACES[12:]]:
            text = "\n".join(place.replace("{}", '(emph "a" (emph "b"))') for place in places)
            self.assert_removed("emph", text, text.replace('(emph "a" (emph "b"))', '"a" "b"'))

    def test_other_blocks_and_inlines_stay(self):
        for text in ['(code "emph" "(emph)")', '(formula "emph" "x")', '(para "emph" (code "emph") (math "emph"))', "(rule)",
                     '(para (link "emph" "a") (image "emph") (span (class "emph")))', '(group (class "emph"))', '(note "emph")',
                     '(para (ref "emph") (noteref "emph") (cite "emph"))', '(heading 1 "emph")', "(quote)", "(para)",
                     '(table "emph" (caption) (align left) (row (cell)))', '(figure "emph" "emph")',
                     '(bullets (item) (item (para "")))']:
            for style in STYLES:
                self.assert_removed(style, text, text)

    def test_no_style(self):
        for style in NO_STYLES:
            for text in ["(para (emph))", *NO_DOCUMENTS]:
                self.assert_error(-22, style, text)

    def test_style_that_is_no_text(self):
        for style in NO_TEXTS:
            for text in ["(para (emph))", *NO_DOCUMENTS]:
                self.assert_error(-24, style, text)

    def test_no_document(self):
        for text in NO_DOCUMENTS:
            for style in STYLES:
                self.assert_error(-20, style, text)

    def test_style_is_checked_before_the_tree(self):
        self.assertEqual(documents.remove_style(to_list("emphasis"), Untouched()), [-22])
        self.assertEqual(documents.remove_style([0xFF], Untouched()), [-24])
        with self.assertRaises(AssertionError):
            documents.remove_style(to_list("emph"), Untouched())

    def test_agrees_with_a_second_reader(self):
        for text in some_canonical(200):
            for style in STYLES:
                self.assert_removed(style, text, removed_by_model(style, text))

    def test_all_but_the_style_stays(self):
        for text in some_canonical(201):
            for style in STYLES:
                with self.subTest(style=style, text=text):
                    removed = call_text("remove_style", style, text)
                    self.assertEqual(call("counts", removed), call("counts", text))
                    self.assertEqual(call_text("remove_style", style, removed), removed)

    def test_longest(self):
        self.assert_removed("emph", "(para" + "(emph)" * 99 + ")", "(para)")
        self.assert_removed("sub", "(para" + '(sub"")' * 84 + ")", "(para" + ' ""' * 84 + ")")
        self.assert_removed("caps", '(para (caps "' + "b" * 583 + '"))', '(para "' + "b" * 583 + '")')

    def test_deepest(self):
        content = nested(15, ' "x"', "emph")
        self.assert_removed("emph", f"(para {content})", '(para "x")')
        self.assert_removed("strong", f"(para {content})", f"(para {content})")
        mixed = "(emph (strong " * 7 + '(emph "x")' + "))" * 7
        self.assert_removed("emph", f"(para {mixed})", "(para " + "(strong " * 7 + '"x"' + ")" * 8)
        self.assert_removed("sub", nested(14, ' (para (sub "a"))'), nested(14, ' (para "a")'))


def removed_by_model(style, text):
    document = parsed(text)
    while remove_one(style, document):
        pass
    return written(document)


def remove_one(style, document):
    for holder, first in inline_lists(document):
        for place in range(first, len(holder)):
            if holder[place][0] == style:
                holder[place:place + 1] = holder[place][1:]
                return True
    return False


if __name__ == "__main__":
    unittest.main()
