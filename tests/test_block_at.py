import unittest

from helper import blocks_with_paths, call, call_text, LARGEST, nested, NO_DOCUMENTS, parsed, places_of, some_canonical
from helper import written

WITHOUT_LISTS = ['(para "a" (emph "b"))', '(heading 1 "" "a" "b")', '(code "a" "b")', '(formula "a" "b")', "(rule)",
                 '(table "" (caption "a") (align left) (row (cell "b")))', '(figure "" "a" "b" "c")']


class BlockAtTest(unittest.TestCase):
    def assert_block(self, path, text, expected):
        with self.subTest(path=path, text=text):
            self.assertEqual(call_text("block_at", path, text), expected)

    def assert_nowhere(self, text, *paths):
        for path in paths:
            with self.subTest(path=path, text=text):
                self.assertEqual(call("block_at", path, text), [-2])

    def test_answer(self):
        self.assertEqual(call("block_at", [1], '(rule) (para "\u20ac")'), [12] + list('(para "\u20ac")'.encode("utf-8")))

    def test_blocks_of_the_document(self):
        text = '(para "a") (quote (rule)) (rule)'
        self.assert_block([0], text, '(para "a")')
        self.assert_block([1], text, "(quote (rule))")
        self.assert_block([2], text, "(rule)")

    def test_canonical_notation(self):
        self.assert_block([1], '(rule);no\n\t(para"\\u{61}"(emph"b"))', '(para "a" (emph "b"))')
        self.assert_block([0, 0, 0], '(note "n";\n(note\t"\\u{6d}" ( quote ) ) )', '(note "m" (quote))')

    def test_through_each_list(self):
        for text, *parts in [
                ('(quote (para "a") (para "b"))', ([0, 0, 0], "a"), ([0, 0, 1], "b")),
                ('(group (class "k" "l") (para "a") (para "b"))', ([0, 0, 0], "a"), ([0, 0, 1], "b")),
                ('(group (class) (para "a"))', ([0, 0, 0], "a")),
                ('(note "n" (para "a") (para "b"))', ([0, 0, 0], "a"), ([0, 0, 1], "b")),
                ('(bullets (item (para "a") (para "b")) (item) (item (para "c")))',
                 ([0, 0, 0], "a"), ([0, 0, 1], "b"), ([0, 2, 0], "c")),
                ('(numbers 9 (item) (item (para "a")) (item (para "b") (para "c")))',
                 ([0, 1, 0], "a"), ([0, 2, 0], "b"), ([0, 2, 1], "c")),
                ('(terms (term ("x" "y") (para "a")) (term () (para "b") (para "c")))',
                 ([0, 0, 0], "a"), ([0, 1, 0], "b"), ([0, 1, 1], "c"))]:
            for path, name in parts:
                self.assert_block(path, text, f'(para "{name}")')
                self.assert_block([2] + path[1:], f"(rule) (quote) {text} (rule)", f'(para "{name}")')

    def test_every_odd_length(self):
        text = "(quote (rule) " * 9 + "(quote (rule) (code \"\" \"x\"))" + ")" * 9
        for number in range(1, 10):
            path = [0] + [0, 1] * number
            expected = "(quote (rule) " * (9 - number) + '(quote (rule) (code "" "x"))' + ")" * (9 - number)
            self.assert_block(path, text, expected)
            self.assert_block(path[:-1] + [0], text, "(rule)")
            self.assert_nowhere(text, path[:-1] + [2], path[:-2] + [1, 0])

    def test_empty_path(self):
        for text in ["", "(rule)", "(quote (rule))"]:
            self.assert_nowhere(text, [])

    def test_even_length(self):
        text = "(quote " * 10 + ")" * 10
        for length in range(0, 21, 2):
            self.assert_nowhere(text, [0] * length)
        self.assert_nowhere("(bullets (item (rule)) (item (rule)))", [0, 0], [0, 1], [0, 2], [1, 0])
        self.assert_nowhere("", [0, 0])

    def test_indices_that_are_too_great(self):
        for great in [3, 4, 1000, LARGEST - 1, LARGEST]:
            self.assert_nowhere("(rule) (quote (rule)) (rule)", [great], [great, 0, 0], [1, great, 0], [1, 0, great])
            self.assert_nowhere("(bullets (item (rule)) (item (rule) (rule) (quote (rule))) (item))",
                                [0, great, 0], [0, 1, great], [great, 1, 0], [0, 1, 2, 0, great], [0, 1, 2, great, 0],
                                [0, 1, great, 0, 0], [0, great, 2, 0, 0], [great, 1, 2, 0, 0])
        self.assert_nowhere("", [0], [0, 0, 0], [LARGEST])
        self.assert_nowhere("(rule)", [1])
        for block in ["(quote (rule) (rule))", '(note "n" (rule) (rule))', '(group (class "k" "l") (rule) (rule))']:
            self.assert_nowhere(block, [1], [0, 1, 0], [0, 0, 2])
        self.assert_nowhere("(bullets (item (rule)) (item))", [0, 2, 0], [0, 0, 1], [0, 1, 0])
        self.assert_nowhere("(numbers 5 (item (rule)) (item))", [0, 2, 0], [0, 0, 1], [0, 1, 0])
        self.assert_nowhere('(terms (term ("a" "b") (rule)) (term ("a" "b")))', [0, 2, 0], [0, 0, 1], [0, 1, 0])

    def test_empty_lists(self):
        for block in ["(quote)", '(note "n")', '(group (class "k"))', "(bullets (item))", "(numbers 1 (item))",
                      '(terms (term ("a")))']:
            self.assert_block([0], block, block)
            self.assert_nowhere(block, [0, 0, 0], [0, 1, 0], [0, 0, 0, 0, 0])

    def test_blocks_without_lists(self):
        for block in WITHOUT_LISTS:
            self.assert_block([0], block, block)
            self.assert_block([0, 0, 0], f"(quote {block})", block)
            self.assert_nowhere(block, [0, 0, 0], [0, 1, 0], [0, 0, 1], [0, 3, 0], [0, 0, 0, 0, 0])
            self.assert_nowhere(f"(quote {block})", [0, 0, 0, 0, 0], [0, 0, 0, 1, 0])

    def test_agrees_with_a_second_reader(self):
        for text in some_canonical(100):
            blocks = parsed(text)
            known = list(blocks_with_paths(blocks))
            for path, block in known:
                self.assert_block(path, text, written([block]))
                self.assert_nowhere(text, path + [len(places_of(block)), 0])
                if path[:-1] + [path[-1] + 1] not in [other for other, _ in known]:
                    self.assert_nowhere(text, path[:-1] + [path[-1] + 1])
            self.assert_nowhere(text, [len(blocks)])

    def test_found_paths(self):
        for text in some_canonical(50):
            for kind in ("para", "quote", "bullets", "terms", "table"):
                answer = call("find", kind, text)
                rest = answer[1:]
                for _ in range(answer[0]):
                    path = rest[1:1 + rest[0]]
                    rest = rest[1 + rest[0]:]
                    with self.subTest(text=text, path=path):
                        self.assertRegex(call_text("block_at", path, text), rf"\A\({kind}\b")
                self.assertEqual(rest, [])

    def test_no_document(self):
        for text in NO_DOCUMENTS:
            for path in ([], [0], [0, 0], [0, 0, 0], [LARGEST], [LARGEST] * 20):
                with self.subTest(text=text, path=path):
                    self.assertEqual(call("block_at", path, text), [-20])

    def test_longest(self):
        self.assert_block([99], "(rule)" * 100, "(rule)")
        self.assert_nowhere("(rule)" * 100, [100], [0] * 20)
        self.assert_block([0], '(para "' + "a" * 591 + '")', '(para "' + "a" * 591 + '")')
        self.assert_block([0], "(para" + '""' * 297 + ")", "(para" + ' ""' * 297 + ")")

    def test_deepest(self):
        self.assert_block([0], nested(16), nested(16))
        self.assert_block([0] * 19, nested(16), nested(7))
        self.assert_block([0, 0, 0], "(quote (para " + nested(14, "", "emph") + "))", "(para " + nested(14, "", "emph") + ")")
        self.assert_nowhere(nested(16), [0] * 20, [0] * 18 + [1])


if __name__ == "__main__":
    unittest.main()
