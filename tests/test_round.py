"""Promise [15]: from modules to texts and back, and from texts to modules and back."""

import unittest
from random import Random

from callwarrant.errors import BadText
from callwarrant.printing import printed, printed_expression
from callwarrant.reading import parse, parse_expression
from tests.helper import FORMS, FULL, FULL_TEXT, PAINT, PAINT_TEXT, as_lists, is_plain
from tests.helper import some_fitting_expression, some_module, told_tokens
from tests.test_printing import PLACES, SAMPLES


def bare(text):
    """The text without spaces, line feeds and parentheses."""
    return "".join(letter for letter in text if letter not in " \n()")


class Round(unittest.TestCase):

    def expression(self, value):
        text = printed_expression(value)
        self.assertEqual(parse_expression(text), value)
        self.assertTrue(is_plain(parse_expression(text)))

    def test_each_form(self):
        for value in FORMS + (FULL,):
            self.expression(value)
            module = ("m", (), (), (), (("m.g", (("x", "m.C"),), value),))
            self.assertEqual(parse(printed(module)), module)

    def test_each_form_at_two_places(self):
        for outer, _, _ in PLACES:
            for inner, _, _ in PLACES:
                for value, _ in SAMPLES:
                    self.expression(outer(inner(value)))

    def test_some_expressions(self):
        source = Random(15)
        for _ in range(600):
            self.expression(some_fitting_expression(source))

    def test_some_modules(self):
        source = Random(16)
        for module in [PAINT] + [some_module(source) for _ in range(100)]:
            self.assertEqual(parse(printed(module)), module)
            self.assertEqual(parse(printed(as_lists(module))), module)

    def test_texts(self):
        for text in (PAINT_TEXT, FULL_TEXT, "module m{}"):
            self.assertEqual(bare(printed(parse(text))), bare(text))
        self.assertEqual(printed(parse(PAINT_TEXT)), PAINT_TEXT)

    def test_texts_with_other_blanks_and_parentheses(self):
        source = Random(17)
        for _ in range(100):
            module = some_module(source)
            text = self.spread(source, printed(module))
            self.assertEqual(parse(text), module)
            self.assertEqual(printed(parse(text)), printed(module))
            self.assertEqual(bare(printed(parse(text))), bare(text))

    def spread(self, source, text):
        """The text with any blanks between tokens and parentheses around integers and next."""
        made = ""
        inside = False
        for kind, token, _ in told_tokens(text)[:-1]:
            inside = kind == "=" or inside and kind not in ("method", "}")
            if inside and kind in ("INTEGER", "next"):
                many = source.randrange(3)
                token = "(" * many + token + ")" * many
            made += source.choice((" ", "\n", "  \n ")) + token
        return made

    def test_what_is_printed_twice_is_the_same(self):
        source = Random(18)
        for _ in range(50):
            text = printed(some_module(source))
            self.assertEqual(printed(parse(text)), text)

    def test_texts_that_tell_nothing(self):
        for text in (PAINT_TEXT + "}", PAINT_TEXT[:-2], PAINT_TEXT[1:], ""):
            with self.assertRaises(BadText):
                parse(text)
