"""Promises [16] and [19] to [21]: what modules and expressions are."""

import unittest
from random import Random

from callwarrant.forms import is_expression, is_module
from tests.helper import FORMS, FULL, ODD, ONE, PAINT, as_lists, as_tuples, changes
from tests.helper import some_expression, some_module, told_expression, told_module

CLASS = ("C", "open", False, ("base.Any",), ())
GENERIC = ("g", ("base.Any",), 1, "base.Int")
METHOD = ("m.g", (("x", "base.Any"),), ONE)


def with_class(at, value):
    made = CLASS[:at] + (value,) + CLASS[at + 1:]
    return ("m", (), (made,), (), ())


def with_generic(takes, by):
    return ("m", (), (), (("g", takes, by, "base.Int"),), ())


def with_method(at, value):
    made = METHOD[:at] + (value,) + METHOD[at + 1:]
    return ("m", (), (), (), (made,))


def chain(levels):
    """An expression of so many levels."""
    made = ONE
    for _ in range(levels - 1):
        made = ("new", "a.B", (made,))
    return made


def wide(many):
    """An expression of so many expressions, of at most four levels."""
    if many <= 13:
        return ("new", "a.B", (ONE,) * (many - 1)) if many > 1 else ONE
    share, rest = divmod(many - 1, 12)
    return ("new", "a.B", tuple(wide(share + (at < rest)) for at in range(12)))


class Modules(unittest.TestCase):

    def check(self, value, expected):
        self.assertIs(is_module(value), expected, value)
        self.assertIs(is_module(as_lists(value)), expected, value)

    def test_ordinary(self):
        self.check(PAINT, True)
        self.check(("m", (), (), (), ()), True)
        self.check(("base", (), (CLASS,), (GENERIC,), (METHOD,)), True)

    def test_names_need_not_exist_nor_differ(self):
        self.check(("m", ("m", "m"), (CLASS, CLASS), (GENERIC, GENERIC), (METHOD, METHOD)), True)
        self.check(with_class(3, ("x.Y", "x.Y")), True)
        self.check(with_class(4, (("f", "x.Y"), ("f", "x.Y"))), True)
        self.check(with_method(1, (("x", "x.Y"), ("x", "x.Y"))), True)

    def test_numbers_of_parts(self):
        for many in range(0, 15):
            self.check(("m", ("a",) * many, (), (), ()), many <= 4)
            self.check(("m", (), (CLASS,) * many, (), ()), many <= 6)
            self.check(("m", (), (), (GENERIC,) * many, ()), many <= 3)
            self.check(("m", (), (), (), (METHOD,) * many), many <= 8)
            self.check(with_class(3, ("base.Any",) * many), 1 <= many <= 12)
            self.check(with_class(4, (("f", "base.Int"),) * many), many <= 3)
            self.check(with_generic(("base.Any",) * many, 1), 1 <= many <= 3)
            self.check(with_method(1, (("x", "base.Any"),) * many), 1 <= many <= 3)

    def test_owner_positions(self):
        for many in range(1, 4):
            for by in range(-1, 6):
                self.check(with_generic(("base.Any",) * many, by), 1 <= by <= many)
            for by in (True, False, None, "1", (1,), [1]):
                self.check(with_generic(("base.Any",) * many, by), False)

    def test_kinds_and_abstract(self):
        for kind in ("open", "sealed"):
            self.check(with_class(1, kind), True)
        for kind in ("abstract", "Open", "open ", "", None, True, ("open",), 0):
            self.check(with_class(1, kind), False)
        for abstract in (True, False):
            self.check(with_class(2, abstract), True)
        for abstract in (0, 1, None, "", "abstract", (), (True,)):
            self.check(with_class(2, abstract), False)

    def test_strings_are_no_sequences(self):
        for at in range(1, 5):
            self.check(("m", (), (), (), ())[:at] + ("",) + ((),) * (4 - at), False)
        self.check(("m", "ab", (), (), ()), False)
        self.check(with_class(4, ""), False)
        self.check("mabcd", False)

    def test_bodies(self):
        for body in FORMS + (FULL, chain(7), wide(60)):
            self.check(with_method(2, body), True)
        for body in (chain(8), wide(61), None, 1, "next", (), ("next", 1), ("name", "in")):
            self.check(with_method(2, body), False)

    def test_every_change(self):
        for value in changes(PAINT, ODD):
            self.check(value, told_module(value))

    def test_odd_values(self):
        for value in ODD:
            self.check(value, False)
        for many in range(0, 9):
            self.check((PAINT * 2)[:many], many == 5)

    def test_some_modules(self):
        source = Random(19)
        for _ in range(200):
            self.check(some_module(source), True)

    def test_argument_stays(self):
        value = as_lists(PAINT)
        is_module(value=value)
        self.assertEqual(value, as_lists(PAINT))
        self.assertEqual(as_tuples(value), PAINT)


class Expressions(unittest.TestCase):

    def check(self, value, expected):
        self.assertIs(is_expression(value), expected, value)
        self.assertIs(is_expression(as_lists(value)), expected, value)

    def test_each_form(self):
        for value in FORMS + (FULL,):
            self.check(value, True)

    def test_integers(self):
        for number in (0, 1, 9, 65534, 65535):
            self.check(("int", number), True)
        for number in (-1, 65536, 10 ** 30, -10 ** 30, True, False, None, "0", (0,)):
            self.check(("int", number), False)

    def test_numbers_of_arguments(self):
        for many in range(0, 15):
            self.check(("new", "a.B", (ONE,) * many), many <= 12)
            self.check(("call", "a.b", (ONE,) * many), 1 <= many <= 3)

    def test_numbers_of_expressions(self):
        for many in range(1, 200):
            self.check(wide(many), many <= 60)
        five = ("add", ("add", ONE, ONE), ("add", ONE, ONE))
        self.check(("new", "a.B", (five,) * 8 + (ONE,) * 3), True)
        self.check(("new", "a.B", (five,) * 8 + (ONE,) * 4), False)

    def test_levels(self):
        for levels in range(1, 30):
            self.check(chain(levels), levels <= 7)
        for form in FORMS[5:]:
            for levels in (5, 6, 7):
                parts = tuple(chain(levels) if part == ONE else part for part in form)
                self.assertIs(is_expression(parts), told_expression(parts))

    def test_levels_count_in_every_part(self):
        deep, deeper = chain(6), chain(7)
        for made in (
            lambda e: ("add", e, ONE), lambda e: ("sub", ONE, e), lambda e: ("mul", e, ONE),
            lambda e: ("if", e, ONE, ONE), lambda e: ("if", ONE, e, ONE),
            lambda e: ("if", ONE, ONE, e), lambda e: ("let", "x", e, ONE),
            lambda e: ("let", "x", ONE, e), lambda e: ("field", e, "a.B", "f"),
            lambda e: ("call", "a.b", (ONE, ONE, e)), lambda e: ("new", "a.B", (ONE,) * 11 + (e,)),
        ):
            self.check(made(deep), True)
            self.check(made(deeper), False)

    def test_wide_values_are_refused(self):
        made = ONE
        for _ in range(6):
            made = ("new", "a.B", (made,) * 12)
        self.assertIs(is_expression(made), False)

    def test_every_change(self):
        for form in FORMS + (FULL,):
            for value in changes(form, ODD):
                self.check(value, told_expression(value))

    def test_lengths(self):
        for form in FORMS:
            for many in range(0, 6):
                value = (form + (ONE,) * 6)[:many]
                self.check(value, told_expression(value))

    def test_words_that_are_no_forms(self):
        for word in ("straight", "object", "Int", "int ", "", "nxt", None, True, 0, ("int",), ["int"]):
            for rest in ((), (1,), (ONE,), (ONE, ONE), ("a.B", ())):
                self.check((word,) + rest, False)

    def test_odd_values(self):
        for value in ODD:
            self.check(value, told_expression(value))

    def test_some_expressions(self):
        source = Random(20)
        seen = set()
        for _ in range(3000):
            value = some_expression(source, source.randrange(1, 9))
            seen.add(told_expression(value))
            self.check(value, told_expression(value))
        self.assertEqual(seen, {True, False})

    def test_argument_stays_and_by_name(self):
        value = as_lists(FULL)
        self.assertIs(is_expression(value=value), True)
        self.assertEqual(value, as_lists(FULL))
