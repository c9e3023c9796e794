import itertools
import random
import unittest

from blocktrees import documents
from helper import call, call_text, LONGEST, nested, NO_DOCUMENTS, performed, some_canonical, to_list, Untouched

PARAS = [f'(para "{letter}")' for letter in "abcde"]
# None of these is a sequence of edits.
NO_EDITS = [
    # no sequence of expressions
    "(keep 1", "(keep", "(", ")", "(keep 1))", "(keep 01)", "(keep 00)", "(keep 1000000)", "(keep -1)", "(keep 1.5)", "(Keep 1)",
    '(insert (para "a)', '(insert (para "\\x"))', b'(insert (para "\xff"))', b"\xff", "(insert (para \x7f))", "(keep 1) (",
    "(" * 17, "(insert " + nested(16) + ")", '(insert (para "\n"))',
    # no lists, or none with the symbol of an edit
    "keep", "1", '"keep"', "keep 1", "()", "(())", "(1)", '("keep" 1)', "((keep) 1)", "(1 keep)", "((keep 1))", "(rule)",
    '(para "a")', "(keeps 1)", "(kee 1)", "(replace 1)", "(edit)", "(move 1)", "(none)", "(item)", "(quote (keep 1))",
    # wrong numbers
    "(keep)", "(remove)", "(keep 1 2)", "(remove 1 1)", "(keep 1 (rule))", "(remove (rule))", "(keep (1))", "(keep ())",
    '(keep "1")', '(remove "1")', "(keep n)", "(remove one)", '(keep "")', "(keep insert)", '(keep 1 "a")', '(remove "a" 1)',
    # no blocks to insert
    "(insert 1)", '(insert "a")', "(insert rule)", "(insert ())", "(insert (item))", '(insert (emph "a"))', "(insert (keep 1))",
    "(insert (insert (rule)))", "(insert (rule) 1)", "(insert (rule) (rules))", '(insert (heading 7 "" "a"))', "(insert (heading 1))",
    '(insert (note ""))', "(insert (para (rule)))", "(insert (rule 1))", '(insert (code "a b" ""))', "(insert (bullets))",
    '(insert (table "" (caption) (align left) (row)))',
]


class PatchTest(unittest.TestCase):
    def assert_patched(self, edits, text, expected):
        with self.subTest(edits=edits, text=text):
            self.assertEqual(call_text("patch", edits, text), expected)

    def assert_blocks(self, edits, blocks, expected):
        self.assert_patched(edits, "".join(blocks), "\n".join(expected))

    def assert_error(self, code, edits, text):
        with self.subTest(edits=edits, text=text):
            self.assertEqual(call("patch", edits, text), [code])

    def test_example(self):
        self.assert_error(-33, "(keep 2)", "(rule)")

    def test_answer(self):
        self.assertEqual(call("patch", '(insert (para "\u20ac"))', ""), [12] + list('(para "\u20ac")'.encode("utf-8")))
        self.assertEqual(call("patch", "(remove 1)", "(rule)"), [0])

    def test_canonical_notation(self):
        self.assert_patched(';no\n( keep 1)(insert(para"\\u{61}"(emph"b")))\t;', '(code"""\\u{62}");no\n',
                            '(code "" "b")\n(para "a" (emph "b"))')

    def test_no_edits(self):
        for edits in ["", " \n", "; (keep 1)"]:
            self.assert_patched(edits, "", "")
            self.assert_patched(edits, "; nothing", "")
            for text in ["(rule)", "(para) (para)", nested(16)]:
                self.assert_error(-33, edits, text)

    def test_keep(self):
        for number in range(6):
            self.assert_blocks(f"(keep {number})", PARAS[:number], PARAS[:number])
            self.assert_blocks("(keep 1)" * number, PARAS[:number], PARAS[:number])
            for other in range(6):
                if other != number:
                    self.assert_error(-33, f"(keep {other})", "".join(PARAS[:number]))

    def test_remove(self):
        for number in range(6):
            self.assert_blocks(f"(remove {number})", PARAS[:number], [])
            self.assert_blocks("(remove 1)" * number, PARAS[:number], [])
            for other in range(6):
                if other != number:
                    self.assert_error(-33, f"(remove {other})", "".join(PARAS[:number]))

    def test_insert(self):
        for number in range(6):
            self.assert_blocks(f"(insert {' '.join(PARAS[:number])})", [], PARAS[:number])
            self.assert_blocks("".join(f"(insert {para})" for para in PARAS[:number]), [], PARAS[:number])
            self.assert_error(-33, f"(insert {' '.join(PARAS[:number])})", "(rule)")

    def test_one_after_another(self):
        self.assert_blocks("(keep 2) (remove 3)", PARAS, PARAS[:2])
        self.assert_blocks("(remove 3) (keep 2)", PARAS, PARAS[3:])
        self.assert_blocks("(keep 1) (insert (rule)) (keep 4)", PARAS, [PARAS[0], "(rule)", *PARAS[1:]])
        self.assert_blocks("(insert (rule)) (keep 5)", PARAS, ["(rule)", *PARAS])
        self.assert_blocks("(keep 5) (insert (rule))", PARAS, [*PARAS, "(rule)"])
        self.assert_blocks("(remove 5) (insert (rule))", PARAS, ["(rule)"])
        self.assert_blocks("(insert (rule)) (remove 5)", PARAS, ["(rule)"])
        self.assert_blocks("(remove 1) (insert (rule) (quote)) (keep 2) (remove 1) (keep 1)", PARAS,
                           ["(rule)", "(quote)", *PARAS[1:3], PARAS[4]])

    def test_same_kind_in_a_row(self):
        self.assert_blocks("(keep 1) (keep 2) (remove 1) (remove 1)", PARAS, PARAS[:3])
        self.assert_blocks("(insert (rule)) (insert) (insert (quote) (para)) (keep 5)", PARAS, ["(rule)", "(quote)", "(para)", *PARAS])

    def test_numbers_that_are_0(self):
        for edits in ["(keep 0)", "(remove 0)", "(keep 0) (remove 0)", "(insert)", "(insert) (keep 0) (insert)"]:
            self.assert_patched(edits, "", "")
            self.assert_blocks(f"{edits} (keep 5)", PARAS, PARAS)
            self.assert_blocks(f"(keep 2) {edits} (keep 3)", PARAS, PARAS)
            self.assert_blocks(f"(keep 5) {edits}", PARAS, PARAS)
            self.assert_error(-33, edits, "(rule)")

    def test_numbers_that_are_too_great(self):
        for symbol in ["keep", "remove"]:
            for number in [6, 7, 100, 600, 999999]:
                self.assert_error(-33, f"({symbol} {number})", "".join(PARAS))
                self.assert_error(-33, f"(insert (rule)) ({symbol} {number})", "".join(PARAS))
                self.assert_error(-33, f"({symbol} {number}) (insert (rule))", "".join(PARAS))
                self.assert_error(-33, f"(keep 1) ({symbol} {number - 1})", "".join(PARAS))
                self.assert_error(-33, f"({symbol} {number}) (keep 1)", "".join(PARAS))
                self.assert_error(-33, f"(remove 3) (insert (rule)) (keep 2) ({symbol} {number - 5})", "".join(PARAS))
            self.assert_error(-33, f"({symbol} 1)", "")
            self.assert_error(-33, f"(insert (rule)) ({symbol} 1)", "")
            self.assert_error(-33, f"({symbol} 1) (insert (rule))", "")

    def test_blocks_that_remain(self):
        for edits in ["(keep 4)", "(remove 4)", "(keep 1) (remove 3)", "(insert (rule) (rule))", "(keep 2) (insert (rule)) (remove 2)",
                      "(keep 0)", "(keep 4) (insert (para))"]:
            self.assert_error(-33, edits, "".join(PARAS))

    def test_blocks_inside_others_do_not_count(self):
        self.assert_patched("(keep 1)", "(quote (rule) (rule))", "(quote (rule) (rule))")
        self.assert_error(-33, "(keep 2)", "(quote (rule))")
        self.assert_patched("(remove 1) (insert (quote (rule)))", "(bullets (item (rule)) (item))", "(quote (rule))")

    def test_every_block(self):
        for block in ['(para "a" (emph "b"))', '(heading 1 "" "a")', '(code "" "a")', '(formula "a" "b")', "(rule)", "(quote (rule))",
                      "(bullets (item) (item (rule)))", "(numbers 7 (item))", '(terms (term ("a") (rule)))', '(note "n" (rule))',
                      '(table "" (caption) (align left) (row (cell "b")))', '(figure "" "a" "b")', '(group (class "k") (rule))']:
            self.assert_patched(f"(insert {block}) (keep 1)", "(rule)", f"{block}\n(rule)")
            self.assert_patched(f"(keep 1) (insert {block}) (remove 1)", f"{block} (rule)", f"{block}\n{block}")

    def test_nothing_is_joined_or_left_out(self):
        self.assert_patched("(keep 1) (insert (quote) (para))", "(quote)", "(quote)\n(quote)\n(para)")

    def test_every_sequence_of_edits(self):
        edits = [f"({symbol} {number})" for symbol in ("keep", "remove") for number in range(3)]
        edits += ["(insert)", "(insert (quote))", "(insert (para) (quote))"]
        for size in range(4):
            for sequence in itertools.product(edits, repeat=size):
                for blocks in [[], ["(rule)"], ["(rule)", '(note "a")', "(para)"]]:
                    expected = performed("\n".join(sequence), "\n".join(blocks))
                    self.assert_patched(" ".join(sequence), " ".join(blocks), -33 if expected is None else expected)

    def test_what_is_no_sequence_of_edits(self):
        for edits in NO_EDITS:
            for text in ["", "(rule)", "(quote) (quote)"]:
                self.assert_error(-29, edits, text)

    def test_one_wrong_edit_is_enough(self):
        for edits in NO_EDITS:
            for place in [b"(keep 1) {}", b"(keep 9)\n{}", b"{} (keep 1)", b"(insert (rule)){}(remove 1)"]:
                self.assert_error(-29, place.replace(b"{}", bytes(to_list(edits))), "(rule)")

    def test_no_document(self):
        for text in NO_DOCUMENTS:
            for edits in ["", "(keep 1)", "(keep 9)", "(remove 1)", "(insert (rule))"]:
                self.assert_error(-20, edits, text)
            self.assert_error(-29, text, "(rule)")

    def test_edits_come_before_the_tree(self):
        for text in NO_DOCUMENTS:
            for edits in NO_EDITS:
                self.assert_error(-29, edits, text)
        for edits in NO_EDITS:
            with self.subTest(edits=edits):
                self.assertEqual(documents.patch(to_list(edits), Untouched()), [-29])
        with self.assertRaises(AssertionError):
            documents.patch(to_list("(keep 9)"), Untouched())

    def test_difference_is_performed(self):
        drawn = random.Random(22)
        texts = [text.split("\n") for text in some_canonical(120)]
        pool = sorted({block for text in texts for block in text if block})
        for _ in range(200):
            blocks = drawn.sample(pool, drawn.randint(1, 6))
            first, second = ["\n".join(drawn.choices(blocks, k=drawn.randint(0, 9))) for _ in range(2)]
            self.assert_performed(first, second)
        for first, second in zip(some_canonical(60), some_canonical(61)):
            self.assert_performed(first, second)

    def assert_performed(self, first, second):
        """The difference makes the second document of the first one; only texts no longer than a request are taken."""
        if max(len(text.encode("utf-8")) for text in (first, second)) <= LONGEST:
            edits = call_text("difference", first, second)
            if len(edits.encode("utf-8")) <= LONGEST:
                self.assert_patched(edits, first, second)

    def test_difference_of_all_short_documents(self):
        texts = ["\n".join(each) for size in range(5) for each in itertools.product(["(rule)", '(code "" "a")'], repeat=size)]
        for first, second in itertools.product(texts, texts):
            self.assert_performed(first, second)

    def test_longest(self):
        rules = "(rule)" * 100
        self.assert_patched("(keep 100)", rules, "\n".join(["(rule)"] * 100))
        self.assert_patched("(keep 1)" * 73 + "(keep 27)", rules, "\n".join(["(rule)"] * 100))
        self.assert_patched("(remove 1)" * 59 + "(keep 41)", rules, "\n".join(["(rule)"] * 41))
        self.assert_patched("(insert" + "(para)" * 98 + ")", "", "\n".join(["(para)"] * 98))
        self.assert_patched("(insert" + "(para)" * 97 + ")(keep 100)", rules, "\n".join(["(para)"] * 97 + ["(rule)"] * 100))
        self.assert_patched('(insert(para"' + "a" * 584 + '"))', "", '(para "' + "a" * 584 + '")')
        for edits in ["(keep 99)", "(keep 101)", "(keep 1)" * 75, "(keep 1)" * 73 + "(keep 26)", "(keep 1)" * 73 + "(keep 28)"]:
            self.assert_error(-33, edits, rules)
        self.assert_error(-29, "(keep 1)" * 74 + "(keep 1", rules)

    def test_deepest(self):
        for block in [nested(15), "(para " + nested(14, "", "emph") + ")", "(bullets (item " * 7 + "(rule)" + "))" * 7]:
            self.assert_patched(f"(insert {block})", "", block)
            self.assert_patched(f"(keep 1) (insert {block})", nested(16), f"{nested(16)}\n{block}")
        for block in [nested(16), "(para " + nested(15, "", "emph") + ")", "(bullets (item " * 7 + "(quote (rule))" + "))" * 7]:
            self.assert_error(-29, f"(insert {block})", "")
        self.assert_patched("(remove 1) (keep 1)", nested(16) * 2, nested(16))


if __name__ == "__main__":
    unittest.main()
