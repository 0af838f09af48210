"""Promise [18]: names, class words, class names and generic names, in forms and in texts."""

import unittest

from callwarrant.errors import BadText
from callwarrant.forms import is_expression, is_module
from callwarrant.reading import parse, parse_expression
from tests.helper import ODD, ONE, RESERVED, told_class_name, told_generic_name, told_name
from tests.helper import told_word

GOOD_NAMES = ("a", "z", "abcdefghijkl", "name", "int", "base", "modules", "nex", "ope", "elses")
BAD_NAMES = (
    "", "abcdefghijklm", "A", "Ab", "aB", "a1", "1", "a_", "_a", "a b", " a", "a ", "a\n", "a.b",
    "a-b",
)
GOOD_WORDS = ("A", "Z", "Abcdefghijkl", "Int", "Module")
BAD_WORDS = (
    "", "a", "ab", "AB", "ABc", "Abcdefghijklm", "A1", "A ", " A", "A\n", "Ab_", "aB", "A.b",
)


def module_with_class(word):
    return ("m", (), ((word, "open", False, ("base.Any",), ()),), (), ())


class Words(unittest.TestCase):

    def test_names(self):
        for name in GOOD_NAMES:
            self.assertTrue(is_expression(("name", name)), name)
            self.assertTrue(is_module((name, (), (), (), ())), name)
            self.assertEqual(parse_expression(name), ("name", name))
            self.assertEqual(parse("module " + name + " { }")[0], name)
        for name in BAD_NAMES + tuple(RESERVED):
            self.assertFalse(is_expression(("name", name)), name)
            self.assertFalse(is_module((name, (), (), (), ())), name)

    def test_reserved_words_are_no_names_in_texts(self):
        self.assertEqual(len(RESERVED), 18)
        for word in RESERVED:
            with self.assertRaises(BadText) as caught:
                parse("module " + word + " { }")
            self.assertEqual(caught.exception.at, 7)

    def test_class_words(self):
        for word in GOOD_WORDS:
            self.assertTrue(is_module(module_with_class(word)), word)
            text = "module m { open class " + word + " extends base.Any { } }"
            self.assertEqual(parse(text), module_with_class(word))
        for word in BAD_WORDS + tuple(RESERVED):
            self.assertFalse(is_module(module_with_class(word)), word)

    def test_class_names_and_generic_names(self):
        for module in GOOD_NAMES + BAD_NAMES + tuple(RESERVED):
            for word in GOOD_WORDS + BAD_WORDS + GOOD_NAMES + ("next", "class", "in"):
                name = module + "." + word
                self.assertEqual(is_expression(("new", name, ())), told_class_name(name), name)
                self.assertEqual(is_expression(("call", name, (ONE,))), told_generic_name(name))

    def test_dots(self):
        for name in ("aB", "a.", ".B", ".", "..", "a..B", "a.B.", ".a.B", "a.B.C", "a .B", "a. B"):
            self.assertFalse(is_expression(("new", name, ())), name)
        for name in ("ab", "a.", ".b", ".", "a..b", "a.b.", ".a.b", "a.b.c", "a .b", "a. b"):
            self.assertFalse(is_expression(("call", name, (ONE,))), name)

    def test_odd_values(self):
        for value in ODD:
            self.assertIs(is_expression(("name", value)), told_name(value))
            self.assertIs(is_module(module_with_class(value)), told_word(value))
            self.assertIs(is_expression(("new", value, [])), told_class_name(value))
            self.assertIs(is_expression(("call", value, [ONE])), told_generic_name(value))
