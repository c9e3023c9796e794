import itertools
import unittest

from helper import call, call_text, LARGEST, LONGEST, nested, NO_DOCUMENTS, parsed, some_canonical, written


def marked(*levels):
    """Headings of these levels, and paragraphs for the level 0; each block with its index in it."""
    return [f'(heading {level} "" "{index}")' if level else f'(para "{index}")' for index, level in enumerate(levels)]


def end_of(start, levels):
    ends = [end for end in range(start + 1, len(levels)) if 0 < levels[end] <= levels[start]]
    return min(ends + [len(levels)])


class MoveSectionTest(unittest.TestCase):
    def assert_moved(self, index, target, text, *blocks):
        with self.subTest(index=index, target=target, text=text):
            self.assertEqual(call_text("move_section", index, target, text), "\n".join(blocks))

    def assert_error(self, code, index, target, text):
        with self.subTest(index=index, target=target, text=text):
            self.assertEqual(call("move_section", index, target, text), [code])

    def assert_order(self, index, target, levels, *order):
        blocks = marked(*levels)
        self.assert_moved(index, target, "".join(blocks), *[blocks[place] for place in order])

    def test_example(self):
        self.assert_moved(1, 0, '(heading 1 "" "A") (heading 1 "" "B") (para "b")',
                          '(heading 1 "" "B")', '(para "b")', '(heading 1 "" "A")')

    def test_answer(self):
        expected = '(heading 1 "" "\u20ac")\n(rule)'
        self.assertEqual(call("move_section", 0, 0, '(rule) (heading 1 "" "\u20ac")'),
                         [27] + list(expected.encode("utf-8")))

    def test_canonical_notation(self):
        self.assert_moved(0, 0, '(para"a");no\n(heading 2"k";\n"\\u{61}"(emph"b"))', '(heading 2 "k" "a" (emph "b"))', '(para "a")')

    def test_every_target(self):
        # A heading with two paragraphs from 2 on, with others ahead of it and behind.
        levels = (0, 3, 2, 0, 0, 1, 0)
        self.assert_order(1, 0, levels, 2, 3, 4, 0, 1, 5, 6)
        self.assert_order(1, 1, levels, 0, 2, 3, 4, 1, 5, 6)
        self.assert_order(1, 2, levels, 0, 1, 2, 3, 4, 5, 6)
        self.assert_error(-33, 1, 3, "".join(marked(*levels)))
        self.assert_error(-33, 1, 4, "".join(marked(*levels)))
        self.assert_order(1, 5, levels, 0, 1, 2, 3, 4, 5, 6)
        self.assert_order(1, 6, levels, 0, 1, 5, 2, 3, 4, 6)
        self.assert_order(1, 7, levels, 0, 1, 5, 6, 2, 3, 4)
        for target in [8, 9, 600, LARGEST - 1, LARGEST]:
            self.assert_error(-33, 1, target, "".join(marked(*levels)))

    def test_sections_that_hold_sections(self):
        levels = (1, 0, 2, 0, 3, 2, 1, 0)
        self.assert_order(0, 8, levels, 6, 7, 0, 1, 2, 3, 4, 5)
        self.assert_order(0, 7, levels, 6, 0, 1, 2, 3, 4, 5, 7)
        self.assert_order(1, 0, levels, 2, 3, 4, 0, 1, 5, 6, 7)
        self.assert_order(1, 6, levels, 0, 1, 5, 2, 3, 4, 6, 7)
        self.assert_order(2, 2, levels, 0, 1, 4, 2, 3, 5, 6, 7)
        self.assert_order(4, 0, levels, 6, 7, 0, 1, 2, 3, 4, 5)
        for target in range(1, 6):
            self.assert_error(-33, 0, target, "".join(marked(*levels)))
        for target in (3, 4):
            self.assert_error(-33, 1, target, "".join(marked(*levels)))
        self.assert_error(-33, 4, 7, "".join(marked(*levels)))

    def test_only_section(self):
        text = '(heading 4 "" "a") (rule)'
        self.assert_moved(0, 0, text, '(heading 4 "" "a")', "(rule)")
        self.assert_error(-33, 0, 1, text)
        self.assert_moved(0, 2, text, '(heading 4 "" "a")', "(rule)")
        self.assert_error(-33, 0, 3, text)

    def test_all_short_documents(self):
        for length in range(6):
            for levels in itertools.product((0, 1, 2), repeat=length):
                starts = [index for index, level in enumerate(levels) if level]
                for index, start in enumerate(starts):
                    self.assert_every_target(index, start, levels)
                self.assert_error(-2, len(starts), 0, "".join(marked(*levels)))

    def assert_every_target(self, index, start, levels):
        end = end_of(start, levels)
        section = list(range(start, end))
        for target in range(len(levels) + 2):
            if target in section[1:] or target > len(levels):
                self.assert_error(-33, index, target, "".join(marked(*levels)))
                continue
            before = [place for place in range(target) if place not in section]
            behind = [place for place in range(target, len(levels)) if place not in section]
            self.assert_order(index, target, levels, *before, *section, *behind)

    def test_headings_inside_other_blocks(self):
        quote = '(quote (heading 1 "" "q"))'
        text = f'{quote} (heading 2 "" "a") {quote} (rule) (heading 2 "" "b") {quote}'
        self.assert_moved(0, 0, text, '(heading 2 "" "a")', quote, "(rule)", quote, '(heading 2 "" "b")', quote)
        self.assert_moved(1, 1, text, quote, '(heading 2 "" "b")', quote, '(heading 2 "" "a")', quote, "(rule)")
        self.assert_error(-33, 0, 2, text)
        self.assert_error(-2, 2, 0, text)
        self.assert_error(-2, 0, 0, quote)

    def test_section_does_not_exist(self):
        for number in range(4):
            text = "(rule)" + '(heading 1 "" "a") (rule)' * number
            for index in [number, number + 1, 600, LARGEST - 1, LARGEST]:
                for target in [0, 1, 2, 100, LARGEST]:
                    self.assert_error(-2, index, target, text)
        self.assert_error(-2, 0, 0, "")

    def test_no_document(self):
        for text in NO_DOCUMENTS:
            for index, target in [(0, 0), (0, LARGEST), (LARGEST, 0), (LARGEST, LARGEST)]:
                self.assert_error(-20, index, target, text)

    def test_all_blocks_are_kept(self):
        for text in some_canonical(200):
            blocks = [written([block]) for block in parsed(text)]
            for index in range(call("sections", text)[0]):
                section = call_text("extract_section", index, text)
                for target in range(len(blocks) + 1):
                    moved = call_text("move_section", index, target, text)
                    if moved != -33:
                        with self.subTest(text=text, index=index, target=target):
                            self.assertEqual(sorted(moved.split("\n")), sorted(blocks))
                            self.assertIn(section, moved)

    def test_longest(self):
        blocks = [f'(heading 1"{index:02}")' for index in range(40)]
        written_blocks = [block.replace("ing 1", "ing 1 ") for block in blocks]
        self.assertEqual(len("".join(blocks)), LONGEST)
        self.assert_moved(39, 0, "".join(blocks), written_blocks[39], *written_blocks[:39])
        self.assert_moved(0, 40, "".join(blocks), *written_blocks[1:], written_blocks[0])
        self.assert_error(-33, 0, 41, "".join(blocks))
        self.assert_error(-2, 40, 41, "".join(blocks))

    def test_deepest(self):
        heading = '(heading 3 "" ' + nested(15, "", "emph") + ")"
        self.assert_moved(0, 0, f"(rule) {heading} {nested(16)}", heading, nested(16), "(rule)")


if __name__ == "__main__":
    unittest.main()
