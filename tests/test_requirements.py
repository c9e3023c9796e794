"""The requirements on all operations together, held over many documents."""

import random
import re
import unittest

from helper import all_expressions, blocks_with_paths, call, call_text, LONGEST, LONGEST_PATH, OF_A_TREE, parsed, performed
from helper import quoted, some_canonical, some_documents, unquoted, written

KINDS = "para heading code formula rule quote bullets numbers terms table figure group note".split()


def fits(text):
    return isinstance(text, str) and len(text.encode("utf-8")) <= LONGEST


def words(text):
    return re.split("[ \t\n\r]+", call_text("plain_text", text).strip(" \t\n\r"))


def as_read(expressions):
    """With each string as the text that it stands for."""
    return [as_read(each) if isinstance(each, list) else quoted(unquoted(each)) if each[0] == '"' else each
            for each in expressions]


def repeated_identifiers(text):
    return re.findall(r'\(repeated-id "(.*)"\)', call_text("problems", text))


class RequirementsTest(unittest.TestCase):
    def test_1_reading_the_canonical_notation_gives_the_document(self):
        for text in some_documents(400):
            canonical = call_text("canonical", text)
            with self.subTest(text=text):
                self.assertEqual(parsed(canonical), as_read(parsed(text)))
                if fits(canonical):
                    self.assertEqual(call_text("canonical", canonical), canonical)
                    for operation in OF_A_TREE:
                        self.assertEqual(call(operation, canonical), call(operation, text))

    def test_1_what_is_answered_is_canonical(self):
        for text in some_documents(401):
            answers = [call_text(operation, text) for operation in ("normalize", "identify")]
            answers += [call_text("replace_text", "a", 'x"\n', text), call_text("remove_style", "emph", text)]
            answers += [call_text("rename_label", "a", "z", text), call_text("splice", 0, [0], text, text)]
            edits = f"(keep {call('check', text)[1]})(insert(quote))"
            answers += [call_text("shift_headings", 0, 0, text), call_text("patch", edits, text)]
            for answer in answers:
                if fits(answer):
                    with self.subTest(text=text):
                        self.assertEqual(call_text("canonical", answer), answer)

    def test_2_normal_form(self):
        for text in some_documents(402):
            normal = call_text("normalize", text)
            if fits(normal):
                with self.subTest(text=text):
                    self.assertEqual(call_text("normalize", normal), normal)

    def test_2_words_without_images(self):
        for text in some_documents(403, images=False):
            normal = call_text("normalize", text)
            if fits(normal):
                with self.subTest(text=text):
                    self.assertEqual(words(normal), words(text))

    def test_3_identifiers(self):
        for text in some_documents(404):
            identified = call_text("identify", text)
            if fits(identified):
                with self.subTest(text=text):
                    self.assertNotRegex(call_text("outline", identified), r'\(heading \d ""')
                    self.assertEqual(repeated_identifiers(identified), repeated_identifiers(text))
                    self.assertEqual(call_text("identify", identified), identified)

    def test_4_found_paths(self):
        for text in some_canonical(200):
            found = {}
            for kind in KINDS:
                for path in paths_in(call("find", kind, text)):
                    found[tuple(path)] = kind
                    with self.subTest(text=text, path=path):
                        self.assertTrue(call_text("block_at", path, text)[1:].startswith(kind))
            with self.subTest(text=text):
                self.assertEqual(found, {tuple(path): block[0] for path, block in blocks_with_paths(parsed(text))})

    def test_4_inserted_blocks(self):
        drawn = random.Random(40)
        for text, blocks in zip(some_canonical(200), some_canonical(201)):
            path = drawn.choice([path for path, _ in blocks_with_paths(parsed(text))] or [[0]])
            spliced = call_text("splice", 0, path, blocks, text)
            if fits(spliced) and len(path) <= LONGEST_PATH:
                for number, block in enumerate(parsed(blocks)):
                    with self.subTest(text=text, blocks=blocks, path=path, number=number):
                        self.assertEqual(call_text("block_at", path[:-1] + [path[-1] + number], spliced), written([block]))

    def test_5_differences(self):
        drawn = random.Random(41)
        for text in some_canonical(202):
            first = [written([block]) for block in parsed(text)]
            second = drawn.sample(first, len(first)) + drawn.choices(["(rule)"] + first, k=2)
            other = "\n".join(second)
            if fits(other):
                edits = call_text("difference", text, other)
                with self.subTest(first=first, second=second):
                    self.assertEqual(performed(edits, text), other)
                    kept = [int(edit[1]) for edit in parsed(edits) if edit[0] == "keep"]
                    self.assertEqual(sum(kept), most_in_common(first, second))
                    if fits(edits):
                        self.assertEqual(call_text("patch", edits, text), other)

    def test_6_sections(self):
        for text in some_canonical(203):
            number = call("sections", text)[0]
            blocks = sorted(written([block]) for block in parsed(text))
            for index in range(number):
                for target in range(len(blocks) + 1):
                    moved = call_text("move_section", index, target, text)
                    if moved != -33:
                        with self.subTest(text=text, index=index, target=target):
                            self.assertEqual(sorted(written([block]) for block in parsed(moved)), blocks)

    def test_7_labels(self):
        for text in some_canonical(204):
            labels = {string[1:-1] for each in all_expressions(parsed(text)) for string in each if isinstance(string, str)}
            for label in sorted(labels & {"a", "b", "c"}):
                renamed = call_text("rename_label", label, "new-1", text)
                if fits(renamed):
                    with self.subTest(text=text, label=label):
                        self.assertEqual(call_text("rename_label", "new-1", label, renamed), text)


def paths_in(answer):
    """The paths that find answers, which are as many as it tells."""
    paths, place = [], 1
    while place < len(answer):
        paths.append(answer[place + 1:place + 1 + answer[place]])
        place += 1 + answer[place]
    assert len(paths) == answer[0] and place == len(answer)
    return paths


def most_in_common(first, second):
    """The length of the longest common subsequence."""
    row = [0] * (len(second) + 1)
    for block in first:
        above, row = row, [0]
        for place, other in enumerate(second):
            row.append(above[place] + 1 if other == block else max(above[place + 1], row[place]))
    return row[-1]


if __name__ == "__main__":
    unittest.main()
