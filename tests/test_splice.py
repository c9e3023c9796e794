import unittest

from blocktrees import documents
from helper import blocks_with_paths, call, call_text, depth_of, LARGEST, nested, NO_DOCUMENTS, parsed, places_of
from helper import some_canonical, to_list, Untouched, written

# A list of blocks in each kind of block that has lists: the notation around
# it, its place in the path, and the number of lists around the blocks in it.
LISTS = [
    ("(quote{})", 0, 1), ('(note "n"{})', 0, 1), ('(group (class "k" "l"){})', 0, 1), ("(group (class){})", 0, 1),
    ("(bullets (item{}))", 0, 2), ("(bullets (item) (item (rule)) (item{}) (item))", 2, 2),
    ("(numbers 7 (item{}) (item))", 0, 2), ("(numbers 0 (item (rule)) (item{}))", 1, 2),
    ('(terms (term ("x" "y"){}))', 0, 2), ('(terms (term () (rule)) (term ("x"){}) (term ("z")))', 1, 2),
]
PARAS = [f'(para "{letter}")' for letter in "abcd"]


def in_list(place, blocks):
    return place.replace("{}", "".join(" " + block for block in blocks))


class SpliceTest(unittest.TestCase):
    def assert_spliced(self, count, path, blocks, tree, expected):
        with self.subTest(count=count, path=path, blocks=blocks, tree=tree):
            self.assertEqual(call_text("splice", count, path, blocks, tree), expected)

    def assert_error(self, code, count, path, blocks, tree):
        with self.subTest(count=count, path=path, blocks=blocks, tree=tree):
            self.assertEqual(call("splice", count, path, blocks, tree), [code])

    def test_example(self):
        self.assert_spliced(1, [0, 0, 1], "(rule)", '(quote (para "x") (para "y"))', '(quote (para "x") (rule))')

    def test_answer(self):
        self.assertEqual(call("splice", 0, [1], '(para "\u20ac")', "(rule)"),
                         [19] + list('(rule)\n(para "\u20ac")'.encode("utf-8")))
        self.assertEqual(call("splice", 1, [0], "", "(rule)"), [0])
        self.assertEqual(call("splice", 0, [0], "", ""), [0])

    def test_canonical_notation(self):
        self.assert_spliced(0, [1], '(para"\\u{61}");no', '(rule);no\n(para"b"(emph"c"))',
                            '(rule)\n(para "a")\n(para "b" (emph "c"))')

    def test_every_range_of_the_document(self):
        for inserted in [[], ["(rule)"], ["(rule)", '(code "" "x")', "(quote (rule))"]]:
            for first in range(5):
                for last in range(first, 5):
                    self.assert_spliced(last - first, [first], "".join(inserted), "".join(PARAS),
                                        "\n".join(PARAS[:first] + inserted + PARAS[last:]))

    def test_every_range_of_each_list(self):
        for place, number, _ in LISTS:
            tree = in_list(place, PARAS)
            for inserted in [[], ["(rule)"], ["(rule)", '(quote (code "" "x"))']]:
                for first in range(5):
                    for last in range(first, 5):
                        blocks = PARAS[:first] + inserted + PARAS[last:]
                        self.assert_spliced(last - first, [0, number, first], " ".join(inserted), tree, in_list(place, blocks))
                        self.assert_spliced(last - first, [1, number, first], " ".join(inserted), f"(rule){tree}(quote)",
                                            f"(rule)\n{in_list(place, blocks)}\n(quote)")

    def test_empty_lists(self):
        for place, number, _ in LISTS:
            empty = in_list(place, [])
            self.assert_spliced(0, [0, number, 0], "(rule) (rule)", empty, in_list(place, ["(rule)", "(rule)"]))
            self.assert_spliced(0, [0, number, 0], "", empty, empty)
            self.assert_error(-2, 1, [0, number, 0], "", empty)
            self.assert_error(-2, 0, [0, number, 1], "", empty)
        self.assert_spliced(0, [0], "(rule) (rule)", "", "(rule)\n(rule)")
        self.assert_error(-2, 1, [0], "", "")
        self.assert_error(-2, 0, [1], "", "")

    def test_lists_deep_inside(self):
        for place, number, _ in LISTS:
            for outer, other, _ in LISTS:
                tree = in_list(outer, ["(rule)", in_list(place, PARAS), "(rule)"])
                self.assert_spliced(2, [0, other, 1, number, 1], "(quote)", tree, in_list(
                    outer, ["(rule)", in_list(place, [PARAS[0], "(quote)", PARAS[3]]), "(rule)"]))

    def test_other_lists_are_as_they_were(self):
        self.assert_spliced(1, [0, 1, 0], '(para "c")', '(terms (term ("a" (emph "b")) (rule)) (term ("c") (rule)))',
                            '(terms (term ("a" (emph "b")) (rule)) (term ("c") (para "c")))')
        self.assert_spliced(1, [0, 0, 0], "", '(numbers 999999 (item (rule)) (item (rule)))',
                            "(numbers 999999 (item) (item (rule)))")

    def test_nothing_is_joined_or_left_out(self):
        self.assert_spliced(0, [1], "(quote) (para)", "(quote) (quote)", "(quote)\n(quote)\n(para)\n(quote)")
        self.assert_spliced(0, [0, 0, 0], "(group (class))", '(quote (para " a "))', '(quote (group (class)) (para " a "))')

    def test_too_many_blocks(self):
        for place, number, _ in LISTS:
            tree = in_list(place, PARAS)
            for first in range(5):
                for count in [5 - first, 6 - first, 100, LARGEST]:
                    self.assert_error(-2, count, [0, number, first], "(rule)", tree)
                    self.assert_error(-2, count, [0, number, first], "", f"{tree} (rule) (rule) (rule) (rule) (rule)")
        for first in range(5):
            for count in [5 - first, 6 - first, 100, LARGEST]:
                self.assert_error(-2, count, [first], "(rule) (rule)", "".join(PARAS))

    def test_last_index_is_too_great(self):
        for place, number, _ in LISTS:
            for great in [5, 6, 1000, LARGEST]:
                for count in [0, 1, LARGEST]:
                    self.assert_error(-2, count, [0, number, great], "(rule)", in_list(place, PARAS))
                    self.assert_error(-2, count, [great], "(rule)", "".join(PARAS))

    def test_other_index_is_too_great(self):
        for place, number, _ in LISTS:
            tree = in_list(place, PARAS)
            lists = len(places_of(parsed(tree)[0]))
            for great in [1000, LARGEST]:
                self.assert_error(-2, 0, [great, number, 0], "(rule)", tree)
                self.assert_error(-2, 0, [0, great, 0], "(rule)", tree)
            self.assert_error(-2, 0, [1, number, 0], "(rule)", tree)
            self.assert_error(-2, 0, [1, number, 0], "", tree)
            self.assert_error(-2, 0, [0, lists, 0], "(rule)", tree)
            self.assert_error(-2, 0, [0, number, 4, 0, 0], "(rule)", tree)
            self.assert_error(-2, 0, [0, number, 0, 0, 0], "(rule)", tree)

    def test_length_of_the_path(self):
        tree = nested(10)
        for length in range(0, 21, 2):
            for count in [0, 1]:
                self.assert_error(-2, count, [0] * length, "", tree)
                self.assert_error(-2, count, [0] * length, "(rule)", tree)
        for length in range(1, 20, 2):
            number = length // 2
            self.assert_spliced(0, [0] * length, "(rule)", tree,
                                ("(rule)\n" + nested(10)) if number == 0 else
                                "(quote " * number + ("(rule) " + nested(10 - number)) + ")" * number)
            self.assert_spliced(1, [0] * length, "(rule)", tree, "(quote " * number + "(rule)" + ")" * number)
        for tree in ["", "(rule)"]:
            self.assert_error(-2, 0, [], "(rule)", tree)
            self.assert_error(-2, 0, [0, 0], "(rule)", tree)

    def test_blocks_without_lists(self):
        for block in ['(para "a" (emph "b"))', '(heading 1 "" "a" "b")', '(code "a" "b")', '(formula "a" "b")', "(rule)",
                      '(table "" (caption "a") (align left) (row (cell "b")))', '(figure "" "a" "b" "c")']:
            self.assert_error(-2, 0, [0, 0, 0], "(rule)", block)
            self.assert_error(-2, 0, [0, 1, 0], "", block)
            self.assert_error(-2, 0, [0, 2, 0], "", block)
            self.assert_spliced(1, [0], block, block, block)

    def test_nesting(self):
        for place, number, around in LISTS:
            tree = in_list(place, ["(rule)"])
            for inner, deepest in [
                    (nested(15 - around), nested(16 - around)),
                    (nested(15 - around) + "(rule)", nested(15 - around) + "(quote " + nested(15 - around) + ")"),
                    ("(para " + nested(14 - around, "", "emph") + ")", "(para " + nested(15 - around, "", "emph") + ")")]:
                for blocks in [inner, deepest]:
                    self.assertLess(depth_of(parsed(blocks)) + around, 17)
                    self.assert_spliced(0, [0, number, 1], blocks, tree, in_list(place, ["(rule)", *as_list(blocks)]))
                    self.assert_spliced(1, [0, number, 0], blocks, tree, in_list(place, as_list(blocks)))
                for blocks in [f"(quote {deepest})", f'(rule) (note "n" {deepest}) (rule)', f"(bullets (item {inner}))"]:
                    self.assert_error(-28, 0, [0, number, 1], blocks, tree)
                    self.assert_error(-28, 1, [0, number, 0], blocks, tree)

    def test_nesting_of_every_list(self):
        # Each of these blocks is as deep as the number behind it.
        for block, deep in [("(rule)", 1), ("(para (break))", 2), ('(para (span (class "a")))', 3), ("(group (class))", 2),
                            ("(bullets (item))", 2), ("(bullets (item (rule)))", 3), ("(numbers 1 (item))", 2),
                            ("(terms (term ()))", 3), ("(terms (term () (rule)))", 3), ("(terms (term ((break))))", 4),
                            ('(table "" (caption) (align left) (row (cell)))', 3), ('(figure "" "" (break))', 2),
                            ('(table "" (caption (emph (emph (break)))) (align left) (row (cell)))', 5),
                            ('(table "" (caption) (align left) (row (cell (break))))', 4), ('(heading 1 "" (cite "a"))', 2),
                            ('(para (link "u" (image "t" (code "x"))))', 4), ('(note "n" (quote))', 2)]:
            self.assertEqual(depth_of(parsed(block)), deep)
            for around in range(8, 10):
                outer, rest = nested(around), 16 - around - deep
                path = [0] * (2 * around + 1)
                self.assert_spliced(0, path, nest(block, rest), outer, nest(block, rest + around))
                self.assert_error(-28, 0, path, nest(block, rest + 1), outer)

    def test_nesting_of_what_is_removed(self):
        self.assert_spliced(1, [0], nested(16), nested(16), nested(16))
        self.assert_spliced(1, [0, 0, 0], "(rule)", nested(16), "(quote (rule))")
        self.assert_spliced(1, [0, 0, 0], nested(15), nested(16), nested(16))
        self.assert_error(-28, 1, [0, 0, 0], nested(16), nested(16))
        self.assert_error(-28, 0, [0, 0, 0], nested(16), "(quote)")
        self.assert_spliced(0, [0], nested(16), nested(16), nested(16) + "\n" + nested(16))

    def test_nested_too_deeply_after_leading_nowhere(self):
        for path in [[], [0, 0], [1, 0, 0], [0, 1, 0], [0, 0, 2], [0, 0, 0, 0, 0], [0] * 20]:
            self.assert_error(-2, 0, path, nested(16), "(quote (rule))")
        for count in [2, LARGEST]:
            self.assert_error(-2, count, [0, 0, 0], nested(16), "(quote (rule))")
        self.assert_error(-28, 1, [0, 0, 0], nested(16), "(quote (rule))")

    def test_no_document(self):
        for text in NO_DOCUMENTS:
            for other in ["(quote (rule))", "", nested(16)]:
                for count, path in [(0, [0]), (0, []), (LARGEST, [LARGEST] * 20), (0, [0, 0, 0])]:
                    self.assert_error(-20, count, path, text, other)
                    self.assert_error(-20, count, path, other, text)
            self.assert_error(-20, 0, [0], text, text)

    def test_blocks_are_checked_before_the_tree(self):
        for text in NO_DOCUMENTS:
            with self.subTest(text=text):
                self.assertEqual(documents.splice(0, [0], to_list(text), Untouched()), [-20])
        with self.assertRaises(AssertionError):
            documents.splice(0, [0], to_list("(rule)"), Untouched())

    def test_inserted_blocks_are_at_the_path(self):
        for tree, blocks in zip(some_canonical(80), some_canonical(81)):
            document, inserted = parsed(tree), parsed(blocks)
            paths = [path for path, _ in blocks_with_paths(document)]
            for path in paths + [[len(document)]]:
                answer = call_text("splice", 0, path, blocks, tree)
                if answer == -28 or len(answer.encode("utf-8")) > 600 or len(path) > 20:
                    continue
                for number, block in enumerate(inserted):
                    with self.subTest(tree=tree, blocks=blocks, path=path):
                        self.assertEqual(call_text("block_at", path[:-1] + [path[-1] + number], answer), written([block]))

    def test_agrees_with_a_second_reader(self):
        for tree, blocks in zip(some_canonical(50), some_canonical(51)):
            for path, holder, first in list(all_lists(parsed(tree))):
                for index in range(len(holder) - first + 2):
                    for count in range(3):
                        whole = [*path, index]
                        expected = spliced_by_model(count, whole, blocks, tree)
                        with self.subTest(count=count, path=whole, blocks=blocks, tree=tree):
                            self.assertEqual(call_text("splice", count, whole, blocks, tree), expected)

    def test_longest(self):
        self.assert_spliced(0, [100], "(para)" * 100, "(rule)" * 100, "\n".join(["(rule)"] * 100 + ["(para)"] * 100))
        self.assert_spliced(98, [1], "(para)" * 100, "(rule)" * 100, "\n".join(["(rule)"] + ["(para)"] * 100 + ["(rule)"]))
        self.assert_error(-2, 100, [1], "(para)" * 100, "(rule)" * 100)

    def test_deepest(self):
        tree = nested(16)
        self.assert_spliced(0, [0] * 19, nested(7), tree, "(quote " * 9 + nested(7) + " " + nested(7) + ")" * 9)
        self.assert_error(-28, 0, [0] * 19, nested(8), tree)
        self.assert_error(-28, 0, [0] * 19, nested(16), tree)


def as_list(blocks):
    return [written([block]) for block in parsed(blocks)]


def nest(block, number):
    return "(quote " * number + block + ")" * number


def all_lists(document):
    """The path of each list of blocks, what holds it, and the place of its first block there."""
    yield [], document, 0
    for path, block in blocks_with_paths(document):
        for number, (holder, first) in enumerate(places_of(block)):
            yield [*path, number], holder, first


def spliced_by_model(count, path, blocks, tree):
    document = parsed(tree)
    holder, first = [(holder, first) for start, holder, first in all_lists(document) if start == path[:-1]][0]
    start = first + path[-1]
    if start + count > len(holder):
        return -2
    holder[start:start + count] = parsed(blocks)
    return -28 if depth_of(document) > 16 else written(document)


if __name__ == "__main__":
    unittest.main()
