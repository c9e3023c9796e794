import unittest

from helper import call, call_text


class SlugTest(unittest.TestCase):
    def assert_slug(self, text, expected):
        with self.subTest(text=text):
            self.assertEqual(call_text("slug", text), expected)

    def test_example(self):
        self.assert_slug("Gr\u00f6\u00dfe & Zahl_2", "gre-zahl-2")

    def test_answer(self):
        self.assertEqual(call("slug", "A b"), [3, ord("a"), ord("-"), ord("b")])

    def test_letters_and_digits(self):
        self.assert_slug("ABCDEFGHIJKLMNOPQRSTUVWXYZ", "abcdefghijklmnopqrstuvwxyz")
        self.assert_slug("abcdefghijklmnopqrstuvwxyz", "abcdefghijklmnopqrstuvwxyz")
        self.assert_slug("0123456789", "0123456789")
        self.assert_slug("aBc DeF", "abc-def")

    def test_words(self):
        for separator in [" ", "\t", "\n", "\r", "-", "_", "  ", " - ", "_-\t\r\n", "--", " & ", "-.-"]:
            self.assert_slug(f"a{separator}b", "a-b")
            self.assert_slug(f"{separator}a{separator}b{separator}", "a-b")

    def test_removed_characters(self):
        self.assert_slug("a.b,c:d;e!f?g'h\"i(j)k[l]m{n}o", "abcdefghijklmno")
        self.assert_slug("a/b\\c@d`e^f~g#h$i%j&k*l+m=n<o>p|q", "abcdefghijklmnopq")
        self.assert_slug("a\u00e9b\u20acc\U0001f600d\u00a0e\u2003f\u0130g\u212ah", "abcdefgh")
        self.assert_slug("a\0b\x0bc\x0cd\x1fe\x7ff\u0085g\u2028h", "abcdefgh")
        self.assert_slug("1.2 3,4", "12-34")

    def test_empty_words_are_left_out(self):
        self.assert_slug("a & b", "a-b")
        self.assert_slug("! a \u00e9 ... b ?", "a-b")
        self.assert_slug("a-\u00df-b", "a-b")

    def test_nothing_left(self):
        for text in ["", " ", "\t\r\n", "-", "_", "--__", "\u00e9", "!?", " & ", "\0", "\u20ac \u20ac"]:
            self.assert_slug(text, "section")

    def test_first_30_characters(self):
        self.assert_slug("a" * 29, "a" * 29)
        self.assert_slug("a" * 30, "a" * 30)
        self.assert_slug("a" * 31, "a" * 30)
        self.assert_slug("a" * 29 + " b", "a" * 29 + "-")
        self.assert_slug("a" * 28 + " bc", "a" * 28 + "-b")
        self.assert_slug("a" * 30 + " b", "a" * 30)
        self.assert_slug("\u00e9" * 40 + "b" * 40, "b" * 30)
        self.assert_slug("a " * 40, "a-" * 15)
        self.assert_slug(" " * 40 + "b", "b")

    def test_longest(self):
        self.assert_slug("a" * 600, "a" * 30)
        self.assert_slug(" " * 600, "section")
        self.assert_slug("\u20ac" * 200, "section")
        self.assert_slug("-" * 599 + "Z", "z")

    def test_invalid_utf8(self):
        for sequence in [b"\x80", b"\xbf", b"\xc0\x80", b"\xc1\xbf", b"\xc3", b"\xc3a", b"\xe0\x9f\xbf", b"\xe2\x82",
                         b"\xe2\x82a", b"\xed\xa0\x80", b"\xed\xbf\xbf", b"\xf0\x8f\xbf\xbf", b"\xf0\x9f\x98",
                         b"\xf4\x90\x80\x80", b"\xf5\x80\x80\x80", b"\xfe", b"\xff"]:
            for text in [sequence, b"a " + sequence, sequence + b" b", b"\xc3\xa9" + sequence, b"a" * 596 + sequence[:4]]:
                with self.subTest(text=text):
                    self.assertEqual(call("slug", text), [-24])

    def test_utf8_agrees_with_python(self):
        for first in range(0x80, 0x100):
            for second in (0x7f, 0x80, 0x8f, 0x90, 0x9f, 0xa0, 0xbf, 0xc0):
                for rest in (b"", b"\x80", b"\xbf\x80"):
                    text = bytes([first, second]) + rest
                    try:
                        text.decode("utf-8")
                        expected = "section"
                    except UnicodeDecodeError:
                        expected = -24
                    self.assert_slug(text, expected)


if __name__ == "__main__":
    unittest.main()
