import functools
import itertools
import random
import unittest

from blocktrees import documents
from helper import call, call_text, LONGEST, nested, NO_DOCUMENTS, parsed, performed, some_canonical, to_list, Untouched, written

A, B, C, D = ['(para "a")', "(rule)", '(code "" "c")', "(quote (rule))"]


@functools.cache
def common_length(first, second):
    """The length of the longest common subsequence of two tuples."""
    if not first or not second:
        return 0
    if first[0] == second[0]:
        return 1 + common_length(first[1:], second[1:])
    return max(common_length(first[1:], second), common_length(first, second[1:]))


def most_in_common(first, second):
    """The same, by trying all subsequences."""
    def subsequences(blocks):
        return {each for size in range(len(blocks) + 1) for each in itertools.combinations(blocks, size)}
    return max(len(each) for each in subsequences(first) & subsequences(second))


def difference_by_model(first, second):
    steps = []
    while first or second:
        if first and second and first[0] == second[0]:
            steps.append(("keep", first[0]))
            first, second = first[1:], second[1:]
        elif not second or (first and common_length(first[1:], second) >= common_length(first, second[1:])):
            steps.append(("remove", first[0]))
            first = first[1:]
        else:
            steps.append(("insert", second[0]))
            second = second[1:]
    edits = []
    for symbol, group in itertools.groupby(steps, lambda step: step[0]):
        blocks = [block for _, block in group]
        edits.append(f"(insert {' '.join(blocks)})" if symbol == "insert" else f"({symbol} {len(blocks)})")
    return "\n".join(edits)


def number_kept(edits):
    return sum(int(edit[1]) for edit in parsed(edits) if edit[0] == "keep")


class DifferenceTest(unittest.TestCase):
    def assert_difference(self, first, second, *expected):
        with self.subTest(first=first, second=second):
            self.assertEqual(call_text("difference", first, second), "\n".join(expected))

    def assert_between(self, first, second, *expected):
        """The difference of documents that are told as lists of blocks."""
        self.assert_difference("".join(first), "\n".join(second), *expected)

    def test_example(self):
        self.assert_difference('(para "a") (para "b")', '(para "b") (rule)', "(remove 1)", "(keep 1)", "(insert (rule))")

    def test_answer(self):
        expected = '(insert (para "\u20ac"))'
        self.assertEqual(call("difference", "", '(para "\u20ac")'), [21] + list(expected.encode("utf-8")))
        self.assertEqual(call("difference", "", ""), [0])

    def test_equal_documents(self):
        for blocks in [[A], [A, B], [A, A, A], [A, B, C, D], [D] * 12]:
            self.assert_between(blocks, blocks, f"(keep {len(blocks)})")

    def test_empty_documents(self):
        self.assert_difference("", "; nothing")
        for blocks in [[A], [A, B], [A, A, A], [A, B, C, D], [D] * 12]:
            self.assert_between(blocks, [], f"(remove {len(blocks)})")
            self.assert_between([], blocks, f"(insert {' '.join(blocks)})")

    def test_nothing_in_common(self):
        self.assert_between([A], [B], "(remove 1)", f"(insert {B})")
        self.assert_between([A, B], [C, D, C], "(remove 2)", f"(insert {C} {D} {C})")

    def test_the_first_length_is_greater(self):
        self.assert_between([A, B, C], [B, C, A], "(remove 1)", "(keep 2)", f"(insert {A})")
        self.assert_between([A, B], [B], "(remove 1)", "(keep 1)")

    def test_the_second_length_is_greater(self):
        self.assert_between([C, A, B], [A, B, C], "(remove 1)", "(keep 2)", f"(insert {C})")
        self.assert_between([B, C], [A, B, C], f"(insert {A})", "(keep 2)")
        self.assert_between([B, A, C], [A, B, D, C, A, C], f"(insert {A})", "(keep 1)", f"(insert {D} {C})", "(keep 2)")

    def test_the_lengths_are_the_same(self):
        self.assert_between([A, B], [B, A], "(remove 1)", "(keep 1)", f"(insert {A})")
        self.assert_between([A, C], [B, C], "(remove 1)", f"(insert {B})", "(keep 1)")
        self.assert_between([A, B, C], [C, B, A], "(remove 2)", "(keep 1)", f"(insert {B} {A})")

    def test_one_of_them_is_at_its_end(self):
        self.assert_between([A, B, C], [A], "(keep 1)", "(remove 2)")
        self.assert_between([A], [A, B, C], "(keep 1)", f"(insert {B} {C})")
        self.assert_between([A, B, C], [C], "(remove 2)", "(keep 1)")
        self.assert_between([C], [A, B, C], f"(insert {A} {B})", "(keep 1)")

    def test_blocks_that_occur_more_than_once(self):
        self.assert_between([A, A], [A], "(keep 1)", "(remove 1)")
        self.assert_between([A], [A, A], "(keep 1)", f"(insert {A})")
        self.assert_between([A, B, A], [A, A], "(keep 1)", "(remove 1)", "(keep 1)")
        self.assert_between([A, A], [A, B, A], "(keep 1)", f"(insert {B})", "(keep 1)")
        self.assert_between([A, B, A, B], [B, A, B, A], "(remove 1)", "(keep 3)", f"(insert {A})")

    def test_edits_that_are_joined(self):
        self.assert_between([A, B, C, D], [A, B], "(keep 2)", "(remove 2)")
        self.assert_between([A, B, C], [D, D], "(remove 3)", f"(insert {D} {D})")
        self.assert_between([A, B, C, A, B], [C, C, D], "(remove 2)", "(keep 1)", "(remove 2)", f"(insert {C} {D})")

    def test_the_same_block_written_otherwise(self):
        self.assert_difference('(para"a"); x\n( rule )', '(para "\\u{61}")(rule)', "(keep 2)")
        self.assert_difference('(para "\\u{a}")', '(para "\\n")', "(keep 1)")
        self.assert_difference("", '(para"\\u{61}"(emph"b"));', '(insert (para "a" (emph "b")))')

    def test_blocks_that_differ(self):
        for first, second in [
                ('(para "ab")', '(para "a" "b")'), ('(para "a")', '(para "a" "")'), ("(quote)", "(quote (para))"),
                ('(para "a")', '(para "A")'), ("(numbers 1 (item))", "(numbers 2 (item))"), ('(code "" "a")', '(formula "" "a")'),
                ('(heading 1 "" "a")', '(heading 2 "" "a")'), ('(para (emph "a"))', '(para (strong "a"))'),
                ("(bullets (item) (item))", "(bullets (item))"), ('(para "(rule)")', "(rule)"), ('(note "a")', '(note "b")'),
                ("(group (class))", '(group (class "a"))'), ('(para "a b")', '(para "a  b")')]:
            self.assert_difference(first, second, "(remove 1)", f"(insert {second})")
            self.assert_difference(second, first, "(remove 1)", f"(insert {first})")

    def test_blocks_inside_others_are_not_compared(self):
        self.assert_difference(f"(quote {A} {B})", f"(quote {A})", "(remove 1)", f"(insert (quote {A}))")
        self.assert_difference(f"(quote {A})", A, "(remove 1)", f"(insert {A})")

    def test_all_short_documents(self):
        for kinds, longest in [((A, B, C), 3), ((A, B), 5)]:
            texts = [each for size in range(longest + 1) for each in itertools.product(kinds, repeat=size)]
            for first, second in itertools.product(texts, texts):
                answer = call_text("difference", "".join(first), "".join(second))
                with self.subTest(first=first, second=second):
                    self.assertEqual(answer, difference_by_model(first, second))
                    self.assertEqual(performed(answer, "\n".join(first)), "\n".join(second))
                    self.assertEqual(number_kept(answer), most_in_common(first, second))

    def test_generated_documents(self):
        drawn = random.Random(20)
        texts = [parsed(text) for text in some_canonical(60)]
        pool = [written([block]) for document in texts for block in document][:20]
        for _ in range(150):
            blocks = drawn.sample(pool, drawn.randint(1, 6))
            first, second = [tuple(drawn.choices(blocks, k=drawn.randint(0, 9))) for _ in range(2)]
            if max(len("\n".join(each).encode("utf-8")) for each in (first, second)) <= LONGEST:
                answer = call_text("difference", "\n".join(first), "\n".join(second))
                with self.subTest(first=first, second=second):
                    self.assertEqual(answer, difference_by_model(first, second))
                    self.assertEqual(performed(answer, "\n".join(first)), "\n".join(second))
                    self.assertEqual(number_kept(answer), common_length(first, second))

    def test_no_document(self):
        for text in NO_DOCUMENTS:
            for other in ["", "(rule)", text]:
                with self.subTest(text=text, other=other):
                    self.assertEqual(call("difference", text, other), [-20])
                    self.assertEqual(call("difference", other, text), [-20])

    def test_first_is_checked_before_second(self):
        for text in NO_DOCUMENTS:
            self.assertEqual(documents.difference(to_list(text), Untouched()), [-20])
        with self.assertRaises(AssertionError):
            documents.difference([], Untouched())

    def test_longest(self):
        rules, paras = "(rule)" * 100, "(para)" * 100
        self.assert_difference(rules, rules, "(keep 100)")
        self.assert_difference(rules, paras, "(remove 100)", "(insert" + " (para)" * 100 + ")")
        self.assert_difference(rules, "", "(remove 100)")
        self.assert_difference("", rules, "(insert" + " (rule)" * 100 + ")")
        self.assert_difference("(rule)(para)" * 50, "(para)(rule)" * 50, "(remove 1)", "(keep 99)", "(insert (rule))")

    def test_longest_drawn(self):
        drawn = random.Random(21)
        for _ in range(8):
            first, second = [tuple(drawn.choices(["(rule)", "(para)"], k=100)) for _ in range(2)]
            answer = call_text("difference", "".join(first), "".join(second))
            with self.subTest(first=first, second=second):
                self.assertEqual(answer, difference_by_model(first, second))
                self.assertEqual(performed(answer, "\n".join(first)), "\n".join(second))

    def test_deepest(self):
        deep, other = nested(16), "(para " + nested(15, "", "emph") + ")"
        self.assert_difference(deep, deep, "(keep 1)")
        self.assert_difference(deep, other, "(remove 1)", f"(insert {other})")
        self.assert_difference("(rule)", f"{deep}(rule){other}", f"(insert {deep})", "(keep 1)", f"(insert {other})")


if __name__ == "__main__":
    unittest.main()
