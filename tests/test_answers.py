"""What all operations have in common: their names, the form of their answers, and that they keep and print nothing."""

import contextlib
import importlib
import inspect
import io
import itertools
import random
import sys
import unittest

from blocktrees import documents
from helper import call, call_text, LARGEST, LONGEST, LONGEST_PATH, nested, PARAMETERS, some_canonical, STYLES, to_argument

DEEP_BLOCKS = [
    nested(16), nested(15, " (para)"), "(para " + nested(15, "", "emph") + ")", "(bullets (item " * 7 + "(quote (rule))" + "))" * 7,
    "(numbers 1 (item " * 8 + "))" * 8, "(terms (term () " * 7 + "(quote (rule))" + "))" * 7,
    '(group (class "a") ' * 14 + '(heading 1 "" (emph))' + ")" * 14,
    "".join(f'(note "{letter}" ' for letter in "abcdefghijklmnop") + ")" * 16,
    '(table "" (caption ' + nested(14, ' "a"', "strong") + ') (align left) (row (cell ' + nested(13, ' "b"', "sub") + ")))",
    '(heading 1 "" ' + '(link "u" ' * 15 + '"a"' + ")" * 16, '(figure "" "" ' + '(span (class "k") ' * 14 + '"a"' + ")" * 15,
]
LONG_TREES = [
    "(rule)" * 100, "(para)" * 100, "(rule)(para)" * 50, "(quote)(para)" * 46, '(heading 1"")' * 46, '(note"a")' * 66,
    "(bullets" + "(item)" * 98 + ")", '(para"' + "a" * 592 + '")', '(para"' + "a " * 296 + '")', "(para" + '"a"' * 198 + ")",
    "(para" + "(emph)" * 99 + ")", '(para "' + "\u20ac" * 197 + '")', '(para"' + "\\u{1}" * 118 + '")', "(para" + '(ref"a")' * 74 + ")",
    '(table""(caption)(align left)' + "(row(cell))" * 51 + ")", "(para" + "(break)" * 84 + ")", " " * LONGEST, ";" * LONGEST,
    nested(16) + "(para)" * 74, "(" * LONGEST, ")" * LONGEST, '"' * LONGEST, '"' + "a" * 599, "\\" * LONGEST, b"\xff" * LONGEST,
    "1" * LONGEST, "a" * LONGEST,
]


class AnswersTest(unittest.TestCase):
    def test_names_and_parameters(self):
        for operation, parameters in PARAMETERS.items():
            signature = inspect.signature(getattr(documents, operation))
            self.assertEqual(list(signature.parameters), parameters)
            self.assertTrue(all(each.default is each.empty for each in signature.parameters.values()))

    def assert_form(self, operation, answer):
        if answer[0] < 0:
            self.assertEqual(len(answer), 1)
        elif operation in ("check", "counts"):
            self.assertEqual(len(answer), 2 if operation == "check" else 5)
        elif operation == "sections":
            self.assertEqual(len(answer), 1 + 3 * answer[0])
        elif operation == "find":
            place = 1
            for _ in range(answer[0]):
                self.assertEqual(answer[place] % 2, 1)
                place += 1 + answer[place]
            self.assertEqual(len(answer), place)
        else:
            self.assertEqual(len(answer), 1 + answer[0])
            bytes(answer[1:]).decode("utf-8")

    def test_form_of_the_answers(self):
        for operation, values in drawn_calls(50, 2000):
            with self.subTest(operation=operation, values=values):
                self.assert_form(operation, call(operation, *values))

    def test_nothing_is_printed(self):
        with contextlib.redirect_stdout(io.StringIO()) as out, contextlib.redirect_stderr(io.StringIO()) as err:
            for operation, values in drawn_calls(51, 300):
                call(operation, *values)
        self.assertEqual(out.getvalue() + err.getvalue(), "")

    def test_nothing_is_kept(self):
        calls = drawn_calls(52, 600)
        answers = [call(operation, *values) for operation, values in calls]
        for order in (range(len(calls) - 1, -1, -1), random.Random(53).sample(range(len(calls)), len(calls))):
            for number in order:
                operation, values = calls[number]
                with self.subTest(operation=operation, values=values):
                    self.assertEqual(call(operation, *values), answers[number])
        for (operation, values), answer in list(zip(calls, answers))[:100]:
            with self.subTest(operation=operation, values=values):
                self.assertEqual(first_answer(operation, values), answer)

    def test_answers_do_not_share_anything(self):
        for operation, values in drawn_calls(54, 300):
            arguments = [to_argument(value) for value in values]
            answer = getattr(documents, operation)(*arguments)
            expected = list(answer)
            answer.append(-1)
            with self.subTest(operation=operation, values=values):
                self.assertEqual(getattr(documents, operation)(*arguments), expected)

    def test_longest(self):
        for operation in PARAMETERS:
            for tree in LONG_TREES:
                for values in limit_values(operation, tree, LONG_TREES):
                    with self.subTest(operation=operation, values=values):
                        self.assert_form(operation, call(operation, *values))

    def test_deepest(self):
        limit = sys.getrecursionlimit()
        # Well below what Python allows, and whatever runs the tests takes some of it.
        sys.setrecursionlimit(500)
        try:
            for operation in PARAMETERS:
                for tree in DEEP_BLOCKS:
                    self.assertEqual(call("check", tree), [0, 1])
                    for values in limit_values(operation, tree, DEEP_BLOCKS):
                        with self.subTest(operation=operation, values=values):
                            self.assert_form(operation, call(operation, *values))
        finally:
            sys.setrecursionlimit(limit)

    def test_answers_longer_than_a_request(self):
        self.assertEqual(len(call_text("replace_text", "a", "b" * LONGEST, '(para "' + "a" * 591 + '")')), 9 + 591 * LONGEST)
        self.assertEqual(len(call_text("splice", 0, [50], "(para)" * 100, "(rule)" * 100)), 1399)
        self.assertEqual(call("find", "quote", nested(16))[-31:], [0] * 31)


def first_answer(operation, values):
    """The answer of a package that has only just been imported."""
    kept = {name: sys.modules.pop(name) for name in list(sys.modules) if name.split(".")[0] == "blocktrees"}
    try:
        return getattr(importlib.import_module("blocktrees.documents"), operation)(*[to_argument(value) for value in values])
    finally:
        sys.modules.update(kept)


def drawn_calls(seed, number):
    """So many operations with what is handed in for each parameter."""
    drawn = random.Random(seed)
    trees = some_canonical(seed) + ["", "(rule)", '(heading 1 "" "a")' * 3, "(para", "(x)"]
    texts = ["", "a", "b", "b1", " ", "\u20ac", '"', "x" * 40, "x" * 41, b"\xff"]
    edits = ["", "(keep 1)", "(remove 2)", "(insert (para)) (keep 1) (remove 1)", "(keep 0) (keep 3)", "(keep)"]
    choices = {
        "tree": trees, "blocks": trees, "first": trees, "second": trees, "text": texts, "old": texts, "new": texts, "edits": edits,
        "kind": ["para", "heading", "quote", "bullets", "x"], "style": STYLES + ["x"], "up": [0, 1, 2], "amount": [0, 1, 2, 6],
        "path": [[], [0], [1], [0, 0, 0], [0, 0, 1], [1, 0, 0], [0] * LONGEST_PATH, [LARGEST]], "count": [0, 0, 1, 2, LARGEST],
        "index": [0, 1, LARGEST], "target": [0, 1, 2, 3, LARGEST],
    }
    calls = []
    for _ in range(number):
        operation = drawn.choice(list(PARAMETERS))
        calls.append((operation, [drawn.choice(choices[each]) for each in PARAMETERS[operation]]))
    return calls


def limit_values(operation, tree, trees):
    """What is handed in beside a tree at the limits: for each other parameter what is at its limits, too."""
    choices = {
        "tree": [tree], "text": [tree], "first": [tree], "second": [tree] + trees[:5], "blocks": trees[:3],
        "old": ["a", "a" * 40, "a" * LONGEST, ""], "new": ["b", "\u20ac" * 200],
        "kind": ["para", "x" * LONGEST], "style": ["emph", "x" * LONGEST],
        "path": [[0], [0] * 19, [LARGEST] * LONGEST_PATH], "count": [0, 1, LARGEST],
        "edits": ["(keep 1)" * 75, "(keep 100)", f"(insert {nested(15)})", tree],
        "index": [0, 45, LARGEST], "target": [0, 100, LARGEST], "up": [0, 1, LARGEST], "amount": [0, 5, LARGEST],
    }
    return itertools.product(*[choices[each] for each in PARAMETERS[operation]])


if __name__ == "__main__":
    unittest.main()
