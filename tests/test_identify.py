import re
import unittest

from helper import blocks_with_paths, call, call_text, LONGEST, nested, NO_DOCUMENTS, parsed, some_canonical, some_documents
from helper import written

PLACES = [
    "{}", "(quote {})", '(note "n" {})', "(group (class) {})", '(group (class "k") {})', "(bullets (item) (item {}))",
    "(numbers 1 (item (rule) {}))", "(terms (term () {}))", '(terms (term ("x")) (term () (rule) {}))',
    '(quote (bullets (item (terms (term () (note "n" {}))))))',
]


def headings(*pairs):
    return "\n".join(f'(heading 1 "{identifier}" "{text}")' for identifier, text in pairs)


class IdentifyTest(unittest.TestCase):
    def assert_identified(self, text, expected):
        with self.subTest(text=text):
            self.assertEqual(call_text("identify", text), expected)

    def assert_made(self, texts, *identifiers):
        """The identifiers of headings with these texts."""
        self.assert_identified(headings(*[("", text) for text in texts]), headings(*zip(identifiers, texts)))

    def assert_identifier(self, content, identifier):
        self.assert_identified(f'(heading 3 "" {content})', f'(heading 3 "{identifier}" {content})')

    def test_example(self):
        self.assert_identified('(heading 1 "" "A") (heading 1 "" "a")', '(heading 1 "a" "A")\n(heading 1 "a-2" "a")')

    def test_answer(self):
        expected = '(heading 1 "a" "a\u20ac")'
        self.assertEqual(call("identify", '(heading 1 "" "a\u20ac")'), [22] + list(expected.encode("utf-8")))

    def test_no_heading(self):
        self.assertEqual(call("identify", ""), [0])
        for text in ['(para "a")', '(figure "" "a" "b")', '(formula "" "a")', '(code "" "heading")', "(quote (rule))",
                     '(table "" (caption "a") (align left) (row (cell)))', '(note "n" (para (span (class "a"))))']:
            self.assert_identified(text, text)

    def test_canonical_notation(self):
        self.assert_identified('(heading 1"";\n"\\u{62}"(emph"c")) (rule)', '(heading 1 "bc" "b" (emph "c"))\n(rule)')

    def test_slugs(self):
        self.assert_made(["A b", "Gr\u00f6\u00dfe & Zahl_2", "--x  y--"], "a-b", "gre-zahl-2", "x-y")

    def test_plain_text_of_the_content(self):
        for content, identifier in [
                ('"a" "b"', "ab"), ('"a" " " "b"', "a-b"), ('"a" (break) "b"', "a-b"), ('(emph "a") (strong "b" (code "c"))', "abc"),
                ('(math "x y")', "x-y"), ('"a" (noteref "n") "b"', "ab"), ('(ref "r.1")', "r1"), ('(cite "k" "l")', "k-l"),
                ('(link "u" "a")', "a"), ('(image "t" "a")', "a"), ('"a" (image "t" " b ") "c"', "a-b-c"),
                ('(span (class "k") "a")', "a"), ('(code " a\\n\\tb ")', "a-b"), ('(super "a") (sub (caps (strike "b")))', "ab")]:
            self.assert_identifier(content, identifier)

    def test_section(self):
        for content in ['""', '" "', "(break)", "(emph)", '(noteref "n")', '"\u00e9 !"', '(image "t")', '"-_-"']:
            self.assert_identifier(content, "section")
        self.assert_identified('(heading 1 "")', '(heading 1 "section")')
        self.assert_made(["!", "Section", "?", "section 2", ""],
                         "section", "section-2", "section-3", "section-2-2", "section-4")

    def test_levels_are_kept(self):
        for level in range(1, 7):
            self.assert_identified(f'(heading {level} "" "a")', f'(heading {level} "a" "a")')

    def test_headings_that_have_an_identifier(self):
        self.assert_identified('(heading 1 "x" "a") (heading 2 "Y.:_" "a")', '(heading 1 "x" "a")\n(heading 2 "Y.:_" "a")')
        self.assert_identified(headings(("a", "b"), ("a", "c")), headings(("a", "b"), ("a", "c")))
        self.assert_identified(headings(("b", "a"), ("", "a"), ("", "b")), headings(("b", "a"), ("a", "a"), ("b-2", "b")))
        self.assert_identified(headings(("", "a"), ("a", "b")), headings(("a-2", "a"), ("a", "b")))
        self.assert_identified(headings(("A", "a"), ("", "a")), headings(("A", "a"), ("a", "a")))

    def test_identifiers_of_every_block_are_in_use(self):
        for block in ['(heading 2 "a" "x")', '(formula "a" "")', '(figure "a" "")',
                      '(table "a" (caption) (align left) (row (cell)))']:
            for place in PLACES:
                other = place.replace("{}", block)
                self.assert_identified(f'{other}(heading 1 "" "a")', f'{other}\n(heading 1 "a-2" "a")')
                self.assert_identified(f'(heading 1 "" "a"){other}', f'(heading 1 "a-2" "a")\n{other}')

    def test_what_is_no_identifier(self):
        for other in ['(code "a" "")', '(note "a")', '(group (class "a"))', '(para (ref "a"))', '(para (noteref "a"))',
                      '(para (cite "a"))', '(para (span (class "a")))', '(para (link "a"))', '(figure "" "a")', '(para "a")',
                      '(formula "" "a")', '(figure "A" "")']:
            self.assert_identified(f'{other}(heading 1 "" "a")', f'{other}\n(heading 1 "a" "a")')
            self.assert_identified(f'(heading 1 "" "a"){other}', f'(heading 1 "a" "a")\n{other}')

    def test_numbers_that_are_in_use(self):
        for used, expected in [
                (["a"], "a-2"), (["a-2"], "a"), (["a", "a-2"], "a-3"), (["a", "a-3"], "a-2"), (["a-2", "a", "a-3"], "a-4"),
                (["a", "a-2", "a-4"], "a-3"), (["a", "a-1"], "a-2"), (["a", "a-02"], "a-2"), (["a", "a2"], "a-2"),
                (["a"] + [f"a-{number}" for number in range(2, 10)], "a-10"),
                (["a"] + [f"a-{number}" for number in range(2, 20)], "a-20")]:
            figures = "\n".join(f'(figure "{identifier}" "")' for identifier in used)
            self.assert_identified(f'{figures}(heading 1 "" "a")', f'{figures}\n(heading 1 "{expected}" "a")')
            self.assert_identified(f'(heading 1 "" "a"){figures}', f'(heading 1 "{expected}" "a")\n{figures}')

    def test_identifiers_that_were_made_before(self):
        self.assert_made(["a", "a", "a"], "a", "a-2", "a-3")
        self.assert_made(["a", "a", "a 2"], "a", "a-2", "a-2-2")
        self.assert_made(["a", "a 2", "a"], "a", "a-2", "a-3")
        self.assert_made(["a 2", "a", "a", "a-2"], "a-2", "a", "a-3", "a-2-2")
        self.assert_made(["a", "b", "A", "B", "a!"], "a", "b", "a-2", "b-2", "a-3")
        self.assert_identified(headings(("", "a"), ("a-2", "x"), ("", "a"), ("a", "y"), ("", "a")),
                               headings(("a-3", "a"), ("a-2", "x"), ("a-4", "a"), ("a", "y"), ("a-5", "a")))

    def test_headings_at_any_depth(self):
        for place in PLACES:
            text = place.replace("{}", '(heading 1 "" "a")')
            made = place.replace("{}", '(heading 1 "a" "a")')
            self.assert_identified(text, made)
            later = '(heading 1 "a-2" "a")'
            self.assert_identified(f'{text} (heading 1 "" "a")', f"{made}\n{later}")
            self.assert_identified(f'(heading 1 "" "a") {text}', '(heading 1 "a" "a")\n' + place.replace("{}", later))

    def test_order_of_the_notation(self):
        heading = '(heading 1 "" "x")'
        text = (f"(quote {heading} (quote {heading})) {heading} (bullets (item {heading} {heading}) (item {heading}))"
                f"(numbers 1 (item {heading})) (terms (term () {heading}) (term () {heading}))"
                f'(group (class) {heading}) (note "n" {heading} (heading 1 "k" "x")) {heading}')
        answer = call_text("identify", text)
        self.assertEqual(re.findall(r'\(heading 1 "([^"]*)"', answer),
                         ["x"] + [f"x-{number}" for number in range(2, 12)] + ["k", "x-12"])
        bare = re.sub(r'"x(-\d+)?" "x"', '"" "x"', answer)
        self.assertEqual(bare, call_text("canonical", text))

    def test_slugs_of_30_characters(self):
        for text, slug in [("a" * 30, "a" * 30), ("a" * 31, "a" * 30), ("a" * 29 + " b", "a" * 29 + "-"),
                           ("a" * 28 + "-bc", "a" * 28 + "-b")]:
            self.assert_made([text, text, text], slug, slug + "-2", slug + "-3")
        self.assert_made(["a" * 30, "a" * 29 + "b", "a" * 40], "a" * 30, "a" * 29 + "b", "a" * 30 + "-2")
        label = "a" * 30 + "-2"
        self.assert_identified(headings((label, "x"), ("", "a" * 30), ("", "a" * 30)),
                               headings((label, "x"), ("a" * 30, "a" * 30), ("a" * 30 + "-3", "a" * 30)))

    def test_doing_it_again_changes_nothing(self):
        for text in some_documents(300):
            identified = call_text("identify", text)
            if len(identified.encode("utf-8")) <= LONGEST:
                self.assert_identified(identified, identified)

    def test_no_identifier_is_repeated_that_was_not_before(self):
        for text in some_documents(301):
            identified = call_text("identify", text)
            if len(identified.encode("utf-8")) <= LONGEST:
                with self.subTest(text=text):
                    self.assertEqual(repeated(identified), repeated(text))
                    self.assertNotRegex(identified, r'\(heading \d ""')
                    self.assertEqual(call("plain_text", identified), call("plain_text", text))

    def test_agrees_with_a_second_reader(self):
        for text in some_canonical(302):
            self.assert_identified(text, identified_by_model(text))

    def test_no_document(self):
        for text in NO_DOCUMENTS:
            with self.subTest(text=text):
                self.assertEqual(call("identify", text), [-20])

    def test_longest(self):
        names = ["section"] + [f"section-{number}" for number in range(2, 47)]
        self.assert_identified('(heading 1"")' * 46, "\n".join(f'(heading 1 "{name}")' for name in names))
        self.assert_identified('(heading 1 "" "' + "b" * 583 + '")', f'(heading 1 "{"b" * 30}" "{"b" * 583}")')
        used = "x" * 40
        self.assert_identified(f'(heading 1 "" "{used}")' + f'(figure"{used}""")' * 10,
                               f'(heading 1 "{"x" * 30}" "{used}")' + f'\n(figure "{used}" "")' * 10)

    def test_deepest(self):
        self.assert_identified(nested(15, ' (heading 1 "" "a")'), nested(15, ' (heading 1 "a" "a")'))
        content = nested(15, ' "a"', "emph")
        self.assert_identified(f'(heading 1 "" {content})', f'(heading 1 "a" {content})')
        self.assert_identified("(bullets (item " * 7 + '(heading 1 "" "a")' + "))" * 7,
                               "(bullets (item " * 7 + '(heading 1 "a" "a")' + "))" * 7)


def repeated(text):
    return [line for line in call_text("problems", text).split("\n") if line.startswith("(repeated-id")]


def identified_by_model(text):
    document = parsed(text)
    blocks = [block for _, block in blocks_with_paths(document)]
    used = [block[2] for block in blocks if block[0] == "heading"]
    used += [block[1] for block in blocks if block[0] in ("formula", "table", "figure")]
    for block in blocks:
        if block[0] == "heading" and block[2] == '""':
            content = written([["para", *block[3:]]])
            slug = call_text("slug", call_text("plain_text", content))
            names = [f'"{slug}"'] + [f'"{slug}-{number}"' for number in range(2, len(used) + 3)]
            block[2] = [name for name in names if name not in used][0]
            used.append(block[2])
    return written(document)


if __name__ == "__main__":
    unittest.main()
