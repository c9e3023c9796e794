"""Which error each operation answers, and which of several comes first."""

import itertools
import random
import unittest

from helper import call, LARGEST, LONGEST, nested, NO_DOCUMENTS, NO_TEXTS, OF_A_TREE, PARAMETERS, some_canonical, to_list

TREES = ["", '(heading 1 "a" "b") (quote (para (emph "a") (ref "b")))']
NO_TREES = {-20: NO_DOCUMENTS[:3] + NO_DOCUMENTS[-2:]}
NO_UTF8 = {-24: NO_TEXTS[:2]}

# What can be handed in for each parameter: what is let in, and then what is refused, by the code.
VALUES = {
    "tree": (TREES, NO_TREES), "blocks": (TREES, NO_TREES), "first": (TREES, NO_TREES), "second": (TREES, NO_TREES),
    "text": (["", "a"], NO_UTF8), "old": (["", "b"], NO_UTF8), "new": (["", "c"], NO_UTF8),
    "kind": (["para", "note"], {**NO_UTF8, -22: ["", "item", "x" * 600]}),
    "style": (["emph", "caps"], {**NO_UTF8, -22: ["", "emphasis", "x" * 600]}),
    "label": (["b", "x" * 40], {**NO_UTF8, -22: ["", "x" * 41, "a b"]}),
    "edits": (["", "(keep 2)"], {-29: ["(keep)", "(keep 1", "(rule)", ")"]}),
    "up": ([0, 1], {-22: [2, LARGEST]}), "amount": ([0, 5], {-22: [6, LARGEST]}),
    "path": ([[], [0], [1, 0, 0], [LARGEST] * 20], {}), "count": ([0, 1, LARGEST], {}), "index": ([0, 1, LARGEST], {}),
    "target": ([0, 2, LARGEST], {}),
}

# The errors of the operations themselves, where all parameters are let in.
OWN_ERRORS = [
    ("block_at", -2, [[], "(rule)"]), ("block_at", -2, [[0, 0], "(quote (rule))"]), ("block_at", -2, [[1], "(rule)"]),
    ("splice", -2, [0, [], "(rule)", "(rule)"]), ("splice", -2, [2, [0], "(rule)", "(rule)"]),
    ("splice", -2, [2, [0, 0, 0], nested(16), "(quote (rule))"]), ("splice", -28, [1, [0, 0, 0], nested(16), "(quote (rule))"]),
    ("extract_section", -2, [0, "(rule)"]), ("extract_section", -2, [1, '(heading 1 "")']),
    ("move_section", -2, [0, 0, "(rule)"]), ("move_section", -2, [1, 3, '(heading 1 "") (rule)']),
    ("move_section", -33, [0, 3, '(heading 1 "") (rule)']), ("move_section", -33, [0, 1, '(heading 1 "") (rule)']),
    ("shift_headings", -33, [0, 1, '(heading 6 "")']), ("shift_headings", -33, [1, 5, '(heading 5 "")']),
    ("replace_text", -22, ["", "a", '(para "a")']), ("replace_text", -22, ["", "", ""]),
    ("rename_label", -17, ["a", "b", '(note "b")']), ("rename_label", -17, ["b", "a", '(heading 1 "a" (ref "b"))']),
    ("patch", -33, ["(keep 2)", "(rule)"]), ("patch", -33, ["", "(rule)"]),
]


def value_name(operation, parameter):
    return "label" if operation == "rename_label" and parameter != "tree" else parameter


def refused(operation, parameter):
    """What is refused for this parameter, with the codes."""
    by_code = VALUES[value_name(operation, parameter)][1]
    return [(value, code) for code, values in by_code.items() for value in values]


def codes_of(operation):
    """All codes that the operation can answer."""
    own = {code for name, code, _ in OWN_ERRORS if name == operation}
    return own.union(*[VALUES[value_name(operation, each)][1] for each in PARAMETERS[operation]])


class ErrorsTest(unittest.TestCase):
    def assert_code(self, code, operation, values):
        with self.subTest(operation=operation, values=values):
            self.assertEqual(call(operation, *values), [code])

    def test_the_first_parameter_that_is_refused_counts(self):
        for operation, parameters in PARAMETERS.items():
            if operation != "check":
                choices = [[(value, 0) for value in VALUES[value_name(operation, each)][0]] + refused(operation, each)
                           for each in parameters]
                for choice in itertools.product(*choices):
                    codes = [code for _, code in choice if code]
                    if codes:
                        self.assert_code(codes[0], operation, [value for value, _ in choice])

    def test_errors_of_the_operations(self):
        for operation, code, values in OWN_ERRORS:
            self.assert_code(code, operation, values)

    def test_parameters_come_before_the_errors_of_the_operations(self):
        for operation, _, values in OWN_ERRORS:
            for place, parameter in enumerate(PARAMETERS[operation]):
                for value, code in refused(operation, parameter):
                    self.assert_code(code, operation, values[:place] + [value] + values[place + 1:])

    def test_check_has_no_errors(self):
        for text in NO_DOCUMENTS:
            with self.subTest(text=text):
                self.assertEqual(len(call("check", text)), 2)

    def test_what_is_let_in_is_not_refused(self):
        for operation, parameters in PARAMETERS.items():
            own = {code for name, code, _ in OWN_ERRORS if name == operation}
            for values in itertools.product(*[VALUES[value_name(operation, each)][0] for each in parameters]):
                with self.subTest(operation=operation, values=values):
                    answer = call(operation, *values)
                    self.assertTrue(answer[0] >= 0 or answer[0] in own, answer)

    def test_no_other_errors(self):
        drawn = random.Random(30)
        documents = [to_list(text) for text in some_canonical(60)]
        for number in range(2000):
            broken = [bytes(damaged(drawn, drawn.choice(documents))) for _ in range(2)]
            operation = drawn.choice(list(PARAMETERS))
            values = [drawn_value(drawn, value_name(operation, each), broken) for each in PARAMETERS[operation]]
            answer = call(operation, *values)
            with self.subTest(operation=operation, values=values):
                self.assertTrue(answer[0] >= 0 or answer[0] in codes_of(operation), answer)

    def test_what_is_no_document_is_told_by_check(self):
        drawn = random.Random(31)
        for document in [to_list(text) for text in some_canonical(150)]:
            text = bytes(damaged(drawn, document))
            kind, position = call("check", text)
            with self.subTest(text=text):
                self.assertLessEqual(position, len(text))
                for operation in OF_A_TREE:
                    answer = call(operation, text)
                    if operation != "check" and kind > 0:
                        self.assertEqual(answer, [-20])
                    else:
                        self.assertGreaterEqual(answer[0], 0)


def damaged(drawn, data):
    """The bytes of a notation with some of them left out, written again, or replaced; now and then as they are."""
    damaged = list(data)
    for _ in range(drawn.randint(0, 2)):
        start = drawn.randint(0, len(damaged))
        end = min(start + drawn.randint(0, 3), len(damaged))
        damaged[start:end] = drawn.choice([[], damaged[start:end] * 2, to_list(drawn.choice('()"\\;a1 ')), [drawn.randint(0, 255)]])
    return damaged[:LONGEST]


def drawn_value(drawn, name, broken):
    good, bad = VALUES[name]
    if name in ("tree", "blocks", "first", "second", "edits"):
        good = good + broken
    return drawn.choice(good + [value for values in bad.values() for value in values])


if __name__ == "__main__":
    unittest.main()
