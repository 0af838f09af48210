"""Promise [23]: where a text leaves the grammar, for changes at every place of a text."""

import unittest

from callwarrant.errors import BadText
from callwarrant.forms import is_expression, is_module
from callwarrant.reading import parse, parse_expression
from tests.helper import FULL_TEXT, PAINT_TEXT, Recogniser, RESERVED, told_misfit, told_tokens

# A token of each kind, and texts that are no tokens.
OTHERS = tuple(RESERVED) + tuple("(){}:,=.+-*") + ("x", "Any", "3", "aB", "00", "65536", "?", "\t")
BODIES = (
    "let x = if next then new m.C(1, y) else new m.D() in x.(m.C.f) * (1 + 1) - m.g(1, x)",
    "if (if x then y else 1) + 2 then m.f(let x = 1 in x, y.(m.C.f).(m.D.g)) else (((3)))",
    "new m.C((x), (1 - 2) * 3, m.f(m.g(x)).(m.C.f))",
)


def changed_texts(text):
    """The text with each token left out, doubled, replaced or with another one beside it."""
    tokens = told_tokens(text)[:-1]
    for _, token, at in tokens:
        before, behind = text[:at], text[at + len(token):]
        yield before + behind
        yield before + token + " " + token + behind
        for other in OTHERS:
            yield before + " " + other + " " + behind
            yield before + " " + other + " " + token + behind


def cut_texts(text):
    """The text, cut off at each place."""
    for at in range(len(text) + 1):
        yield text[:at]
        yield text[:at] + "\t" + text[at:]


class Positions(unittest.TestCase):

    def check(self, texts, read, test, start):
        recogniser = Recogniser(start)
        told = {True: 0, False: 0}
        for text in texts:
            at = told_misfit(recogniser, text)
            try:
                made = read(text)
            except BadText as error:
                self.assertEqual(error.at, 0 if at is None else at, text)
                told[False] += 1
            else:
                self.assertIsNone(at, text)
                self.assertTrue(test(made), text)
                told[True] += 1
        return told

    def test_changes_of_modules(self):
        for text in (PAINT_TEXT, FULL_TEXT):
            told = self.check(changed_texts(text), parse, is_module, "MODULE")
            self.assertTrue(told[True] > 20 and told[False] > 1000)

    def test_changes_of_expressions(self):
        for text in BODIES:
            told = self.check(changed_texts(text), parse_expression, is_expression, "EXPR")
            self.assertTrue(told[True] > 20 and told[False] > 1000)

    def test_two_changes_of_an_expression(self):
        for text in list(changed_texts("m.f(x, 1).(m.C.f) + if"))[::3]:
            self.check(list(changed_texts(text))[::7], parse_expression, is_expression, "EXPR")

    def test_cuts(self):
        for text in (PAINT_TEXT, FULL_TEXT):
            self.check(cut_texts(text), parse, is_module, "MODULE")
        for text in BODIES:
            self.check(cut_texts(text), parse_expression, is_expression, "EXPR")

    def test_all_short_rows_of_tokens(self):
        tokens = ("x", "A", "1", "if", "new", "next", "let", "(", ")", ".", ",", "+", "*", "=", "?")
        rows = [""]
        for _ in range(4):
            rows = rows + [row + " " + token for row in rows for token in tokens if len(row) < 8]
        self.check(sorted(set(rows)), parse_expression, is_expression, "EXPR")
