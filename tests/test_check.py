import unittest

from helper import call, nested, NO_DOCUMENTS, some_documents, to_list


def split_marked(marked):
    """A text without the mark ^, and the number of bytes before the mark."""
    data = bytes(to_list(marked))
    position = data.index(b"^")
    return data[:position] + data[position + 1:], position


class CheckTest(unittest.TestCase):
    def assert_blocks(self, number, *texts):
        for text in texts:
            with self.subTest(text=text):
                self.assertEqual(call("check", text), [0, number])

    def assert_error(self, kind, *marked_texts):
        for marked in marked_texts:
            with self.subTest(marked=marked):
                text, position = split_marked(marked)
                self.assertEqual(call("check", text), [kind, position])

    def assert_inline_error(self, kind, *marked_texts):
        """In every place where an inline form may stand."""
        places = [
            "(para {})", '(heading 1 "" "x" {})', '(figure "" "" {})', "(para (emph {}))", '(para (link "" {}))',
            '(para (image "" "x" {}))', "(para (span (class) {}))", "(terms (term ({})))",
            '(table "" (caption {}) (align left) (row (cell)))', '(table "" (caption) (align left) (row (cell {})))',
        ]
        for place in places:
            before, after = [part.encode("utf-8") for part in place.split("{}")]
            for marked in marked_texts:
                self.assert_error(kind, before + bytes(to_list(marked)) + after)

    def assert_block_error(self, kind, *marked_texts):
        """In every place where a block may stand."""
        places = [
            "{}", "(rule) {}", "(quote {})", "(bullets (item) (item {}))", "(numbers 1 (item (rule) {}))",
            "(terms (term () {}))", '(group (class "a") {})', '(note "a" {})', "(quote (quote (rule) {}))",
        ]
        for place in places:
            for marked in marked_texts:
                self.assert_error(kind, place.replace("{}", marked))


class ValidTest(CheckTest):
    def test_examples(self):
        self.assertEqual(call("check", '(para "a"'), [1, 9])
        self.assertEqual(call("check", '(heading 7 "" "x")'), [9, 9])

    def test_no_blocks(self):
        self.assert_blocks(0, "", " ", "\n\r\t ", ";", "; comment", "; a\n ; b\n", b"; \xff\x00(")

    def test_blocks(self):
        self.assert_blocks(
            1, "(para)", '(para "")', '(para "a" "b")', '(heading 1 "")', '(heading 6 "a" "b" (emph))',
            '(code "" "")', '(code "c" "x")', '(formula "" "")', '(formula "a" "x")', "(rule)", "(quote)",
            "(quote (para) (rule))", "(bullets (item))", "(bullets (item (rule) (para)) (item))",
            "(numbers 0 (item))", "(numbers 999999 (item) (item (para)))", "(terms (term ()))",
            '(terms (term ("a" (emph)) (para) (rule)) (term ()))',
            '(table "" (caption) (align left) (row (cell)))',
            '(table "a" (caption "b" (break)) (align none left center right)'
            ' (row (cell) (cell "c") (cell) (cell)) (row (cell) (cell) (cell) (cell (emph "a") "b")))',
            '(figure "" "")', '(figure "a" "b" "c" (break))', "(group (class))", '(group (class "a" "b") (para))',
            '(note "a")', '(note "a" (para) (note "b"))')

    def test_number_of_blocks_counts_no_inner_ones(self):
        self.assert_blocks(3, "(rule)(quote (rule) (rule))(para)")

    def test_inlines(self):
        for inline in ['""', '"a"', '(code "")', '(math "x")', "(break)", '(noteref "a")', '(ref "a")', '(cite "a")',
                       '(cite "a" "b" "c")', "(emph)", '(strong "a")', '(strike "a")', '(super "a" "b")', "(sub (break))",
                       '(caps "a")', '(link "")', '(link "a" "b")', '(image "")', '(image "a" "b" (image "c"))',
                       "(span (class))", '(span (class "a" "b") "c" (emph))']:
            self.assert_blocks(1, f"(para {inline})", f"(para (emph {inline} {inline}))")

    def test_blanks_and_comments_wherever_they_may_stand(self):
        for blank in [" ", "\t", "\n", "\r", " \t\r\n ", ";\n", "; a (\"\n", ";;\n\n", "; a\n;b\n "]:
            text = '{}({}heading{}1{}"a"{}"b"{}({}emph{}"c"{}){}){}(rule){}'.replace("{}", blank)
            self.assert_blocks(2, text)
        self.assert_blocks(1, b"(para ; \xff\xc3 \x00\x01 ) \"\n)", "(rule) ; the end")

    def test_no_blanks_where_none_are_necessary(self):
        self.assert_blocks(2, '(heading 1"a""b"(emph"c")"d")(rule)', '(table""(caption)(align left)(row(cell)))(rule)',
                           '(numbers 1(item))(rule)')

    def test_a_comment_ends_only_at_a_line_feed(self):
        self.assert_error(1, "(para ; a\r)^")

    def test_an_integer_ends_before_a_letter(self):
        self.assert_error(8, '(heading 1^a "x")')
        self.assert_error(7, "(rule)^1a")

    def test_strings(self):
        self.assert_blocks(
            1, '(para "\\"\\\\\\n\\t")', '(para "\\u{0}\\u{41}\\u{10ffff}\\u{d7ff}\\u{e000}\\u{00000a}\\u{0bcdef}")',
            '(para "();\x7f")', '(para "\u0080\u07ff\u0800\ud7ff\ue000\uffff")',
            '(para "\U00010000\U0010ffff")')

    def test_labels(self):
        for label in ["a", "Z", "0", "-", "_", ".", ":", "aZ0-_.:", "x" * 40]:
            self.assert_blocks(1, f'(note "{label}")', f'(heading 1 "{label}")', f'(para (cite "{label}"))')

    def test_generated_documents(self):
        for text in some_documents(300):
            with self.subTest(text=text):
                self.assertEqual(call("check", text)[0], 0)

    def test_longest(self):
        self.assert_blocks(100, "(rule)" * 100)
        self.assert_blocks(0, " " * 600, ";" * 600)
        self.assert_blocks(1, '(para "' + "a" * 591 + '")', '(para "' + "\u20ac" * 197 + '")')
        self.assert_blocks(1, "(para" + " " * 594 + ")", '(para "' + "\\n" * 295 + '")', "(para" + '""' * 297 + ")")

    def test_deepest(self):
        self.assert_blocks(1, nested(16), nested(15, "(para)"), "(para " + nested(15, outer="emph") + ")")
        self.assert_blocks(1, nested(6, " (bullets (item (terms (term () (table \"\" (caption) (align left)"
                                        " (row (cell (emph (emph (emph))))))))))"))
        self.assert_blocks(30, nested(16) + "(para)" * 29)
        self.assert_blocks(2, nested(16) + nested(16))


class ReadingErrorTest(CheckTest):
    def test_end_within_a_list(self):
        self.assert_error(1, "(^", "(para^", '(para "a"^', "((^", "(quote (rule)^", "(para ^", "(para ; a)^",
                          "(heading 1^", "(quote (rule)) (^", nested(16)[:-1] + "^")

    def test_end_within_a_string(self):
        self.assert_error(1, '"^', '"a^', '(para "a)^', '(para "\\"^', '(para "\\\\^', '(para "a\\u{41}^',
                          '(para "\u20ac^')

    def test_end_behind_a_backslash(self):
        self.assert_error(1, '"\\^', '(para "a\\^', '(para "\\\\\\^')

    def test_unexpected_bytes(self):
        self.assert_error(2, "^)", "(rule)^)", "(rule) ^)(", "^A", "(^Para)", "(para^A)", "(para^_)", "^-", "(heading ^-1",
                          "(heading 1^.5", "^'", "^[", "^{", "^\\", "^,", "(para ^\\n)", "; a\n^#", '(para "a" ^+)',
                          b"^\x00", b"^\x0b", b"^\x0c", b"(para ^\x1f)", b"^\x7f", b"^\x80", b"(para ^\xc3\xa9)",
                          b"^\xff", b"^\xef\xbb\xbf(rule)", b"(para^\xc2\xa0)")

    def test_control_characters_in_strings(self):
        for byte in range(32):
            self.assert_error(2, b'(para "a^' + bytes([byte]) + b'")', b'(para "^' + bytes([byte]))

    def test_invalid_escape_sequences(self):
        for escape in ["\\x", "\\N", "\\T", "\\r", "\\0", "\\ ", "\\'", "\\a", "\\\n", "\\(", "\\;", "\\U{41}", "\\u41",
                       "\\u(41)", "\\u{}", "\\u{g}", "\\u{A}", "\\u{4 1}", "\\u{ 41}", "\\u{-1}", "\\u{0000041}",
                       "\\u{1234567}", "\\u{110000}", "\\u{ffffff}", "\\u{d800}", "\\u{dbff}", "\\u{dc00}",
                       "\\u{dfff}", "\\u{00dfff}"]:
            self.assert_error(3, f'(para "a^{escape}b")', f'"^{escape}')
        self.assert_error(3, b'"a^\\\xff"', b'"^\\\xc3\xa9"')

    def test_incomplete_escape_sequences(self):
        for escape in ["\\u", "\\u{", "\\u{4", "\\u{41", "\\u{000041", "\\u{10ffff"]:
            self.assert_error(3, f'(para "a^{escape}', f'(para "a^{escape}")', f'"\\\\^{escape} }}"')

    def test_invalid_utf8_in_strings(self):
        for sequence in [b"\x80", b"\xbf", b"\xc0\x80", b"\xc1\xbf", b"\xc3", b"\xc3a", b"\xc3\xc3", b"\xdf\x7f", b"\xdf\xc0",
                         b"\xe0\x80\x80", b"\xe0\x9f\xbf", b"\xe2\x82", b"\xe2\x82a", b"\xe2a\x82", b"\xe2\xc2\x80",
                         b"\xed\xa0\x80", b"\xed\xbf\xbf", b"\xed\xaf\xbf", b"\xf0\x80\x80\x80", b"\xf0\x8f\xbf\xbf",
                         b"\xf0\x9f\x98", b"\xf0\x9f\x98a", b"\xf0\x9fa\x80", b"\xf0a\x98\x80", b"\xf4\x90\x80\x80",
                         b"\xf5\x80\x80\x80", b"\xf8\x88\x80\x80\x80", b"\xfe", b"\xff"]:
            self.assert_error(4, b'(para "a\xc3\xa9^' + sequence + b'")', b'"^' + sequence + b'"')

    def test_utf8_that_the_end_cuts_off(self):
        for sequence in [b"\xc3", b"\xe2", b"\xe2\x82", b"\xf0", b"\xf0\x9f", b"\xf0\x9f\x98", b"\x80", b"\xff"]:
            self.assert_error(4, b'(para "a^' + sequence, b'"^' + sequence)

    def test_utf8_agrees_with_python(self):
        for first in range(0x80, 0x100):
            for second in (0x7f, 0x80, 0x8f, 0x90, 0x9f, 0xa0, 0xbf, 0xc0):
                for rest in (b"", b"\x80", b"\xbf\x80"):
                    sequence = bytes([first, second]) + rest
                    try:
                        sequence.decode("utf-8")
                        expected = 0
                    except UnicodeDecodeError:
                        expected = 4
                    with self.subTest(sequence=sequence):
                        self.assertEqual(call("check", b'(para "' + sequence + b'")')[0], expected)

    def test_integers(self):
        self.assert_error(5, "^1234567", "^01", "^00", "^000000", "(numbers ^1000000 (item))", "(heading ^01 \"\")",
                          "^9999999999", "(para ^007)", "^0123456789", "(rule) ^00")
        self.assert_error(7, "^0", "^999999", "^100000")

    def test_lists_that_are_nested_too_deeply(self):
        self.assert_error(6, "(" * 16 + "^(", "(" * 16 + "^" + "(" * 100, "(" * 16 + "^" + "(" * 584)
        self.assert_error(6, "(quote " * 16 + "^(rule)" + ")" * 16, "(rule)" + "(" * 16 + " \n^()")
        self.assert_error(6, "(" * 10 + ")" * 5 + "(" * 11 + "^(")
        self.assert_error(1, "(" * 16 + "^")
        self.assert_error(7, "^" + "(" * 16 + ")" * 16)

    def test_the_first_reading_error_counts(self):
        self.assert_error(2, "(para ^A 01", '(^A "\\x" 01 "')
        self.assert_error(3, '(para "^\\x" ) )', b'"^\\x\xff')
        self.assert_error(4, b'"^\xff\\x')
        self.assert_error(5, '(heading ^07 "\\x"')
        self.assert_error(6, "(" * 16 + "^(A")

    def test_reading_errors_come_before_the_others(self):
        self.assert_error(1, '(nothing) (heading 9) (para (para)^')
        self.assert_error(2, '(nothing) ^)', '(heading 9 "" 5) ^X')
        self.assert_error(3, 'para (rule 1) (para "^\\q")')
        self.assert_error(4, b'"a" (cite) (para "^\xff")')
        self.assert_error(5, '(heading 0 "") ^00')
        self.assert_error(6, "1 " + "(" * 16 + "^(")


class NoBlockOrInlineTest(CheckTest):
    def test_no_block(self):
        self.assert_block_error(
            7, '^"a"', "^1", "^para", "^()", "^(())", "^((para))", '^("para")', "^(1)", "^(item)", "^(term ())", "^(row)",
            "^(cell)", "^(caption)", "^(align left)", "^(class)", "^(emph)", "^(break)", '^(math "a")', '^(ref "a")',
            '^(noteref "a")', '^(cite "a")', '^(link "a")', '^(image "a")', "^(span (class))", "^(strong)", "^(strike)",
            "^(super)", "^(sub)", "^(caps)", "^(paras)", "^(par)", "^(keep 1)", "^(list)", "^(none)")

    def test_no_inline(self):
        self.assert_inline_error(
            7, "^1", "^emph", "^()", "^((emph))", '^("a")', "^(1)", "^(para)", '^(heading 1 "")', '^(formula "" "")',
            "^(rule)", "^(quote)", "^(bullets (item))", "^(numbers 1 (item))", "^(terms (term ()))",
            '^(table "" (caption) (align left) (row (cell)))', '^(figure "" "")', "^(group (class))", '^(note "a")',
            "^(item)", "^(cell)", "^(class)", "^(caption)", "^(emphs)", "^left")

    def test_symbols_with_digits_and_hyphens(self):
        self.assert_block_error(7, "^a-b", "^para-", "^(para-1)", "^(h1)", "^(para- 1)", "^x0123456789-", "^(a--b)")
        self.assert_inline_error(7, "^a-b", "^(emph-)", "^(emph2 1)")
        self.assert_error(9, '(table "" (caption) (align ^left-1) (row))', '(table "" (caption) (align ^l0) (row))')

    def test_the_symbol_comes_before_the_arguments(self):
        self.assert_error(7, '^(nothing "a" (para) 1)', "^(item (heading 9))")


class ArgumentTest(CheckTest):
    def test_number_of_arguments_of_blocks(self):
        self.assert_block_error(
            8, "^(heading)", "^(heading 1)", '^(heading "a")', "^(code)", '^(code "a")', '^(code "a" "b" "c")',
            "^(formula)", '^(formula "a")', '^(formula "a" "b" "c")', "^(rule 1)", '^(rule "a" "b")', "^(rule (para))",
            "^(bullets)", "^(numbers)", "^(numbers 1)", "^(numbers (item))", "^(terms)", "^(table)", '^(table "")',
            '^(table "" (caption))', '^(table "" (caption) (align left))', '^(table "" (caption) (row (cell)))',
            "^(figure)", '^(figure "a")', "^(group)", "^(note)")

    def test_number_of_arguments_of_inlines(self):
        self.assert_inline_error(
            8, "^(code)", '^(code "a" "b")', "^(math)", '^(math "a" "b")', "^(break 1)", '^(break "a")', "^(noteref)",
            '^(noteref "a" "b")', "^(ref)", '^(ref "a" "b")', "^(cite)", "^(link)", "^(image)", "^(span)")

    def test_the_number_of_arguments_comes_before_them(self):
        self.assert_error(8, "^(code 1)", "^(code (x) 2 3)", "^(heading 9)", '^(table 1 2 3)', "(para ^(ref 1 2))",
                          "(para ^(code 1 (x)))")

    def test_no_integer(self):
        self.assert_block_error(
            8, '^(heading "1" "")', '^(heading "" 1)', '^(heading one "")', '^(heading (rule) "" "x")',
            '^(heading () 5 (para))', '^(numbers "1" (item))', "^(numbers (item) (item))", "^(numbers one (item))",
            "^(numbers (item) 1)")

    def test_no_string(self):
        for other in ["1", "a", "()", "(emph)", '("a")', "(class)"]:
            self.assert_block_error(
                8, f"(heading 1 ^{other})", f'(heading 1 ^{other} "a")', f'(code ^{other} "a")', f'(code "a" ^{other})',
                f'(formula ^{other} "a")', f'(formula "a" ^{other})', f'(figure ^{other} "a")', f'(figure "a" ^{other})',
                f'(figure "a" ^{other} "b")', f'(table ^{other} (caption) (align left) (row (cell)))',
                f"(note ^{other})", f"(note ^{other} (para))", f"(group (class ^{other}))",
                f'(group (class "a" ^{other}) (para))')
            self.assert_inline_error(
                8, f"(code ^{other})", f"(math ^{other})", f"(noteref ^{other})", f"(ref ^{other})", f"(cite ^{other})",
                f'(cite "a" ^{other} "b")', f"(link ^{other})", f'(link ^{other} "a")', f"(image ^{other})",
                f"(span (class ^{other}))", f'(span (class "a" ^{other}) "b")')

    def test_no_list_with_the_right_symbol(self):
        for other in ["1", "a", '"a"', "()", "(para)", "(items)", "((item))", '("item")']:
            self.assert_block_error(
                8, f"(bullets ^{other})", f"(bullets (item) ^{other})", f"(numbers 1 ^{other})",
                f"(numbers 1 (item) ^{other} (item))", f"(terms ^{other})", f"(terms (term ()) ^{other})",
                f'(table "" ^{other} (align left) (row (cell)))', f'(table "" (caption) ^{other} (row (cell)))',
                f'(table "" (caption) (align left) ^{other})', f'(table "" (caption) (align left) (row (cell)) ^{other})',
                f'(table "" (caption) (align left) (row ^{other}))', f"(group ^{other})", f"(group ^{other} (para))",
                f'(table "" (caption) (align left right) (row (cell) ^{other}))')
            self.assert_inline_error(8, f"(span ^{other})", f'(span ^{other} "a")')
        self.assert_block_error(
            8, "(bullets ^(term ()))", "(terms ^(item))", '(table "" ^(align left) (caption) (row (cell)))',
            '(table "" (caption) (align left) ^(cell))', '(table "" (caption) (align left) (row ^(row)))')

    def test_term_without_a_list(self):
        self.assert_block_error(8, "(terms ^(term))", '(terms ^(term "a"))', "(terms ^(term 1 (para)))",
                                "(terms (term ()) ^(term a))", '(terms ^(term "a" ()))')
        self.assert_error(7, "(terms (term () ^()))", "(terms (term (^emph)))", '(terms (term ("a") ^"b"))')

    def test_alignments(self):
        self.assert_block_error(
            8, '(table "" (caption) ^(align) (row))', '(table "" (caption) ^(align) (row (cell)))',
            '(table "" (caption) (align ^"left") (row (cell)))', '(table "" (caption) (align ^1) (row (cell)))',
            '(table "" (caption) (align left ^(left)) (row (cell)))', '(table "" (caption) ^align (row (cell)))')
        self.assert_block_error(
            9, '(table "" (caption) (align ^top) (row (cell)))', '(table "" (caption) (align none ^lefts) (row))',
            '(table "" (caption) (align left ^centre "a") (row))', '(table "" (caption) (align ^align) (row (cell)))')


class RangeTest(CheckTest):
    def test_level(self):
        self.assert_block_error(9, '(heading ^0 "")', '(heading ^7 "" "x")', '(heading ^999999 "a b" 1)',
                                "(heading ^10 5 (para))")

    def test_no_label(self):
        wrong = ["", " ", "a b", "a\\n", "a/b", "a,b", "\u00e9", "a\u00e9", "x" * 41, "\\u{0}", "a\\\"", "(", "@", "[", "`",
                 "{", "/", ";"]
        for label in wrong:
            self.assert_error(9, f'(note ^"{label}")', f'(group (class ^"{label}"))', f'(group (class "a" ^"{label}"))')
            for place in ['(noteref ^"{}")', '(ref ^"{}")', '(cite ^"{}")', '(cite "a" ^"{}")', '(span (class ^"{}"))',
                          '(span (class "a" ^"{}") "b")']:
                self.assert_error(9, "(para " + place.replace("{}", label) + ")")

    def test_no_identifier(self):
        for label in [" ", "a b", "\u00e9", "x" * 41, "a\\t", "+"]:
            self.assert_error(9, f'(heading 1 ^"{label}")', f'(code ^"{label}" "")', f'(formula ^"{label}" "a")',
                              f'(figure ^"{label}" "a")', f'(table ^"{label}" (caption) (align left) (row (cell)))')

    def test_labels_of_characters_behind_escapes(self):
        self.assert_blocks(1, '(note "\\u{61}")')

    def test_number_of_cells(self):
        for row in ["(row)", "(row (cell))", "(row (cell) (cell) (cell))", "(row 1 2 3)", "(row 1)"]:
            self.assert_error(9, f'(table "" (caption) (align left right) ^{row})',
                              f'(table "" (caption) (align left right) (row (cell) (cell)) ^{row})')
        self.assert_error(8, '(table "" (caption) (align left right) (row (cell) ^1))')


class OrderTest(CheckTest):
    def test_from_left_to_right(self):
        self.assert_error(7, "(para ^(x)) (heading 9)", '(para ^1 (ref ""))', '^1 (heading 9)')
        self.assert_error(8, "^(heading) (x)", '(para "a" ^(cite) (x))', '(rule) ^(rule 1) "a"')
        self.assert_error(9, '(heading ^7 "a b")', '(heading ^7 5)', '(note ^"" 1)', '(para (ref ^"") (x))')
        self.assert_error(9, '(heading 1 ^"a b" 1)', '(code ^"a b" 1)', '(figure ^"a b" 1)')
        self.assert_error(8, '(heading 1 ^5 1)', '(code "a" ^1)', '(figure ^1 2)')

    def test_each_argument_completely(self):
        self.assert_error(7, '(bullets (item ^1) 2)', '(table "" (caption ^1) (align) (row))',
                          '(terms (term (^1)) (term))', '(quote (quote ^1) (heading 9))')
        self.assert_error(9, '(group (class ^"") 1)', '(table ^"a b" (x) (align) (row))')
        self.assert_error(9, '(table "" (caption) (align ^x) 1)', '(table "" (caption) (align left) ^(row) 1)')
        self.assert_error(8, '(table "" (caption) ^(align) 1)', '(table "" (caption) (align left) (row ^1) (row))')
        self.assert_error(7, '(table "" (caption) (align left) (row (cell ^1)) (row))')

    def test_errors_deep_inside(self):
        self.assert_error(7, "(quote " * 15 + "^(x)" + ")" * 15, "(para " + "(emph " * 15 + "^1" + ")" * 16)
        self.assert_error(9, '(note "a" (bullets (item (para "x" (emph (cite "k" ^"a b"))))))')

    def test_longest_with_an_error_at_the_end(self):
        self.assert_error(7, "(rule)" * 99 + "^abcdef")
        self.assert_error(2, "(rule)" * 99 + "     ^)")
        self.assert_error(1, '(para "' + "a" * 593 + "^")

    def test_no_document_of_the_list_is_one(self):
        for text in NO_DOCUMENTS:
            with self.subTest(text=text):
                self.assertIn(call("check", text)[0], range(1, 10))


if __name__ == "__main__":
    unittest.main()
