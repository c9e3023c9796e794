import unittest

from blocktrees import documents
from helper import all_expressions, call, call_text, INLINE_PLACES, LARGEST, LONGEST, nested, NO_DOCUMENTS, NO_TEXTS, parsed
from helper import some_canonical, to_list, Untouched, written

# Whatever has a label that is renamed.
LABELED_BLOCKS = ['(heading 2 "{}" "a")', '(formula "{}" "a")', '(figure "{}" "a" "b")', '(note "{}" (rule))',
                  '(table "{}" (caption "a") (align left) (row (cell "b")))']
LABELED = LABELED_BLOCKS + [place.replace("{}", f'({symbol} "{{}}")') for place in INLINE_PLACES for symbol in ("ref", "noteref")]
BLOCK_PLACES = ["(quote {})", '(note "n" {})', '(group (class "k") {})', "(bullets (item) (item (rule) {}))",
                "(numbers 1 (item {}))", '(terms (term ("x") {}))', "(quote (bullets (item (group (class) {}))))"]
# Here are no labels that are renamed, though they may look like one.
UNLABELED = ['(code "{}" "a")', '(para (cite "{}" "{}"))', '(group (class "{}" "{}"))', '(para (span (class "{}") "a"))',
             '(para "{}" (code "{}") (math "{}"))', '(para (link "{}" "a") (image "{}"))', '(figure "" "{}" "{}")',
             '(code "" "{}")', '(formula "" "{}")', '(heading 1 "" "{}")', "(rule)"]
NO_LABELS = ["", " ", "a ", " a", "a b", "a\n", "\0", "a/b", "a,b", "a+b", "\u00e9", "a\u20ac", "\U0001f600", '"a"', "(a)", "a\x7f",
             "@", "[", "`", "{", "x" * 41, "x" * 600, "\u20ac" * 200]


class RenameLabelTest(unittest.TestCase):
    def assert_renamed(self, old, new, text, expected):
        with self.subTest(old=old, new=new, text=text):
            self.assertEqual(call_text("rename_label", old, new, text), expected)

    def assert_error(self, code, old, new, text):
        with self.subTest(old=old, new=new, text=text):
            self.assertEqual(call("rename_label", old, new, text), [code])

    def test_answer(self):
        expected = '(para (ref "b") "\u20ac")'
        self.assertEqual(call("rename_label", "a", "b", '(para (ref "a") "\u20ac")'), [22] + list(expected.encode("utf-8")))
        self.assertEqual(call("rename_label", "a", "b", ""), [0])

    def test_canonical_notation(self):
        self.assert_renamed("a", "b", '(para(ref"\\u{61}"));a\n(note"a";\n)', '(para (ref "b"))\n(note "b")')

    def test_every_place(self):
        for text in LABELED:
            self.assert_renamed("x", "y-2", text.replace("{}", "x"), text.replace("{}", "y-2"))
            self.assert_renamed("x", "y-2", text.replace("{}", "z"), text.replace("{}", "z"))

    def test_every_block_at_any_depth(self):
        for place in BLOCK_PLACES:
            for block in LABELED_BLOCKS:
                text = place.replace("{}", block)
                self.assert_renamed("x", "y", text.replace('"{}"', '"x"'), text.replace('"{}"', '"y"'))

    def test_all_at_once(self):
        for texts in [LABELED[:15], LABELED[15:27], LABELED[27:38], LABELED[38:]]:
            text = "\n".join(texts)
            self.assert_renamed("u", "v", text.replace("{}", "u"), text.replace("{}", "v"))

    def test_notes_and_identifiers_alike(self):
        self.assert_renamed("a", "b", '(heading 1 "a") (note "a") (para (ref "a") (noteref "a") (ref "c") (noteref "c"))',
                            '(heading 1 "b")\n(note "b")\n(para (ref "b") (noteref "b") (ref "c") (noteref "c"))')

    def test_what_stays(self):
        for text in UNLABELED:
            self.assert_renamed("x", "y", text.replace("{}", "x"), text.replace("{}", "x"))
            self.assert_renamed("x", "y", text.replace("{}", "y"), text.replace("{}", "y"))
            block = text.replace("{}", "x")
            self.assert_renamed("x", "y", f'{block}\n(para (ref "x"))', f'{block}\n(para (ref "y"))')

    def test_blocks_without_identifiers(self):
        text = '(heading 1 "")\n(code "" "")\n(formula "" "")\n(figure "" "")\n(table "" (caption) (align left) (row (cell)))'
        self.assert_renamed("a", "b", text, text)

    def test_whole_labels(self):
        for other in ["ab", "ba", "A", "a-", "a.", "aa", "-a", "a-2"]:
            for place in LABELED[:7]:
                text = place.replace("{}", other)
                self.assert_renamed("a", "z", text, text)
                self.assert_renamed(other, "a", text, place.replace("{}", "a"))

    def test_new_is_old(self):
        for text in LABELED:
            same = text.replace("{}", "x")
            self.assert_renamed("x", "x", same, same)
            self.assert_renamed("y", "y", same, same)
        self.assert_renamed("x", "x", '(para(ref"x"))', '(para (ref "x"))')

    def test_new_is_in_use(self):
        for text in LABELED:
            used = text.replace("{}", "new")
            self.assert_error(-17, "old", "new", used)
            self.assert_error(-17, "old", "new", '(heading 1 "old")' + used)
            self.assert_error(-17, "old", "new", used + '(para (ref "old"))')
            self.assert_error(-17, "old", "new", nested(8, used))
        for place in BLOCK_PLACES:
            for block in LABELED_BLOCKS:
                self.assert_error(-17, "old", "new", place.replace("{}", block).replace('"{}"', '"new"'))

    def test_old_occurs_nowhere(self):
        for text in ["(rule)", '(heading 1 "b" "a")', '(para (ref "b") (noteref "c"))', '(note "b")']:
            self.assert_renamed("a", "z", text, text)

    def test_lengths_of_labels(self):
        short, long = "y", "x" * 40
        for place in LABELED[:7]:
            self.assert_renamed(short, long, place.replace("{}", short), place.replace("{}", long))
            self.assert_renamed(long, short, place.replace("{}", long), place.replace("{}", short))
        for sign in "aZ09-_.:":
            self.assert_renamed(sign, "b" + sign, f'(note "{sign}")', f'(note "b{sign}")')

    def test_no_label(self):
        for label in NO_LABELS:
            for tree in ["", '(note "a")', *NO_DOCUMENTS[:3]]:
                self.assert_error(-22, label, "a", tree)
                self.assert_error(-22, "a", label, tree)
                self.assert_error(-22, label, label, tree)

    def test_label_that_is_no_text(self):
        for text in NO_TEXTS:
            for tree in ["", '(note "a")', *NO_DOCUMENTS[:3]]:
                self.assert_error(-24, text, "a", tree)
                self.assert_error(-24, "a", text, tree)
                self.assert_error(-24, text, text, tree)

    def test_old_is_checked_completely_before_new(self):
        for text in NO_TEXTS:
            for label in NO_LABELS:
                self.assert_error(-22, label, text, "(rule)")
                self.assert_error(-24, text, label, "(rule)")

    def test_no_document(self):
        for text in NO_DOCUMENTS:
            self.assert_error(-20, "a", "b", text)
            self.assert_error(-20, "a", "a", text)
            self.assert_error(-20, "a", "b", f'(note "b") {text}')

    def test_parameters_are_checked_in_their_order(self):
        self.assertEqual(documents.rename_label([0xFF], Untouched(), Untouched()), [-24])
        self.assertEqual(documents.rename_label([], Untouched(), Untouched()), [-22])
        self.assertEqual(documents.rename_label(to_list("a"), [0xFF], Untouched()), [-24])
        self.assertEqual(documents.rename_label(to_list("a"), [], Untouched()), [-22])
        with self.assertRaises(AssertionError):
            documents.rename_label(to_list("a"), to_list("a"), Untouched())

    def test_agrees_with_a_second_reader(self):
        for text in some_canonical(200):
            for old in "abz":
                for new in "acz":
                    self.assert_renamed(old, new, text, renamed_by_model(old, new, text))

    def test_renaming_back(self):
        for text in some_canonical(201):
            for old in "abcz":
                renamed = call_text("rename_label", old, "new", text)
                if len(renamed.encode("utf-8")) <= LONGEST:
                    self.assert_renamed("new", old, renamed, text)

    def test_longest(self):
        label = "x" * 40
        self.assert_renamed("a", label, "(para" + '(ref"a")' * 74 + ")", "(para" + f' (ref "{label}")' * 74 + ")")
        self.assert_renamed(label, "a", f'(note"{label}")' * 12, "\n".join(['(note "a")'] * 12))
        self.assert_error(-17, "a", "b", "(para" + '(ref"a")' * 73 + '(ref"b"))')
        self.assert_renamed("a", "b", '(code"a""")' * 54, "\n".join(['(code "a" "")'] * 54))

    def test_deepest(self):
        notes = "".join(f'(note "{letter}" ' for letter in "abcdefghijklmn") + '(note "o" (heading 1 "p")' + ")" * 15
        for letter in "abcdefghijklmnop":
            self.assert_renamed(letter, "new", notes, notes.replace(f'"{letter}"', '"new"'))
            self.assert_error(-17, "z", letter, notes)
        content = nested(14, ' (noteref "a")', "emph")
        self.assert_renamed("a", str(LARGEST), f"(para {content})", f"(para {content})".replace("a\"", f"{LARGEST}\""))


def renamed_by_model(old, new, text):
    document = parsed(text)
    places = {"heading": 2, "formula": 1, "table": 1, "figure": 1, "note": 1, "ref": 1, "noteref": 1}
    labeled = [(each, places[each[0]]) for each in all_expressions(document)
               if each and isinstance(each[0], str) and each[0] in places]
    if new != old and f'"{new}"' in [each[place] for each, place in labeled]:
        return -17
    for each, place in labeled:
        if each[place] == f'"{old}"':
            each[place] = f'"{new}"'
    return written(document)


if __name__ == "__main__":
    unittest.main()
