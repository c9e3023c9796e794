import unittest

from blocktrees import documents
from helper import blocks_with_paths, call, nested, NO_DOCUMENTS, NO_TEXTS, parsed, some_canonical, to_list, Untouched

# A block of each kind.
BLOCKS = {
    "para": '(para "a")', "heading": '(heading 1 "" "a")', "code": '(code "" "a")', "formula": '(formula "" "a")',
    "rule": "(rule)", "quote": "(quote)", "bullets": "(bullets (item))", "numbers": "(numbers 1 (item))",
    "terms": '(terms (term ("a")))', "table": '(table "" (caption) (align left) (row (cell)))',
    "figure": '(figure "" "")', "group": '(group (class "a"))', "note": '(note "a")',
}
NO_KINDS = [
    "", " ", "p", "par", "paras", "para ", " para", "Para", "PARA", "para\0", "para\n", "(para)", '"para"', "paragraph",
    "item", "term", "row", "cell", "caption", "align", "class", "emph", "strong", "math", "break", "noteref", "ref",
    "cite", "link", "image", "span", "text", "block", "keep", "rules", "rul", "not", "1", "-", "\u00e9", "p\u00e4ra",
    "x" * 600, "\u20ac" * 200,
]


def symbol_at(path, text):
    return [block[0] for other, block in blocks_with_paths(parsed(text)) if other == path][0]


class FindTest(unittest.TestCase):
    def assert_paths(self, kind, text, *paths):
        with self.subTest(kind=kind, text=text):
            expected = [len(paths)]
            for path in paths:
                expected += [len(path), *path]
            self.assertEqual(call("find", kind, text), expected)

    def test_example(self):
        self.assertEqual(call("find", "para", '(quote (para "x")) (para)'), [2, 3, 0, 0, 0, 1, 1])

    def test_every_kind(self):
        document = " ".join(BLOCKS.values())
        for index, kind in enumerate(BLOCKS):
            self.assert_paths(kind, BLOCKS[kind], [0])
            self.assert_paths(kind, document, [index])
            others = " ".join(text for other, text in BLOCKS.items() if other != kind)
            self.assert_paths(kind, others)
            self.assert_paths(kind, "")
            self.assert_paths(kind, "; " + BLOCKS[kind])

    def test_every_kind_in_every_list(self):
        for place, path in [
                ("(quote (code) {})", [0, 0, 1]), ('(note "n" (code) {})', [0, 0, 1]),
                ("(group (class) (code) {})", [0, 0, 1]), ('(group (class "k" "l") {})', [0, 0, 0]),
                ("(bullets (item {}) (item))", [0, 0, 0]), ("(bullets (item) (item) (item {}))", [0, 2, 0]),
                ("(numbers 7 (item {}))", [0, 0, 0]), ("(numbers 0 (item (code)) (item (code) {}))", [0, 1, 1]),
                ("(terms (term () {}))", [0, 0, 0]), ('(terms (term ("a" "b")) (term ("c" "d") {}))', [0, 1, 0]),
                ("(code) (bullets (item) (item (quote (code) {})))", [1, 1, 0, 0, 1])]:
            for kind, block in BLOCKS.items():
                other = '(para "x")' if kind == "code" else '(code "" "x")'
                text = place.replace("(code)", other).replace("{}", block)
                outer = [path[:length] for length in range(1, len(path), 2)]
                self.assert_paths(kind, text, *[each for each in outer if symbol_at(each, text) == kind], path)

    def test_order_of_the_notation(self):
        self.assert_paths("quote", "(quote (quote) (quote (quote))) (rule) (quote)",
                          [0], [0, 0, 0], [0, 0, 1], [0, 0, 1, 0, 0], [2])
        self.assert_paths("para", '(para) (bullets (item (para) (para)) (item (para))) (terms (term () (para))) (para)',
                          [0], [1, 0, 0], [1, 0, 1], [1, 1, 0], [2, 0, 0], [3])
        self.assert_paths("bullets", "(bullets (item (bullets (item) (item (bullets (item))))) (item)) (bullets (item))",
                          [0], [0, 0, 0], [0, 0, 0, 1, 0], [1])

    def test_inline_code_is_no_code(self):
        self.assert_paths("code", '(para (code "x") (emph (code "x"))) (terms (term ((code "x"))))')
        self.assert_paths("code", '(para (code "x")) (code "x" "")', [1])

    def test_texts_and_comments_are_no_blocks(self):
        self.assert_paths("rule", '(para "(rule)" (code "(rule)")) ; (rule)\n (code "rule" "(rule)") (note "rule" (rule))',
                          [2, 0, 0])

    def test_great_indices(self):
        self.assert_paths("note", "(para)" * 80 + '(note "a")', [80])
        self.assert_paths("rule", "(bullets" + "(item)" * 60 + "(item(para)(para)(rule)))", [0, 60, 2])

    def test_agrees_with_a_second_reader(self):
        for text in some_canonical(150):
            expected = {kind: [] for kind in BLOCKS}
            for path, block in blocks_with_paths(parsed(text)):
                expected[block[0]].append(path)
            for kind in BLOCKS:
                self.assert_paths(kind, text, *expected[kind])

    def test_no_kind(self):
        for kind in NO_KINDS:
            with self.subTest(kind=kind):
                self.assertEqual(call("find", kind, "(para)"), [-22])
                self.assertEqual(call("find", kind, "(para"), [-22])

    def test_kind_that_is_no_text(self):
        for kind in NO_TEXTS:
            with self.subTest(kind=kind):
                self.assertEqual(call("find", kind, "(para)"), [-24])
                self.assertEqual(call("find", kind, "(para"), [-24])

    def test_kind_is_checked_before_the_tree(self):
        self.assertEqual(documents.find(to_list("item"), Untouched()), [-22])
        self.assertEqual(documents.find([0xFF], Untouched()), [-24])
        with self.assertRaises(AssertionError):
            documents.find(to_list("para"), Untouched())

    def test_no_document(self):
        for text in NO_DOCUMENTS:
            for kind in BLOCKS:
                with self.subTest(kind=kind, text=text):
                    self.assertEqual(call("find", kind, text), [-20])

    def test_longest(self):
        self.assert_paths("rule", "(rule)" * 100, *[[index] for index in range(100)])
        self.assert_paths("para", "(para)" * 99 + ";     ", *[[index] for index in range(99)])

    def test_deepest(self):
        self.assert_paths("quote", nested(16), *[[0] * length for length in range(1, 32, 2)])
        self.assert_paths("rule", nested(15, "(rule)(rule)"), [0] * 31, [0] * 30 + [1])
        self.assert_paths("rule", "(bullets(item" * 7 + "(quote(rule))" + "))" * 7, [0] * 17)


if __name__ == "__main__":
    unittest.main()
