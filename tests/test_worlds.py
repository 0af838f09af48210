"""Promises [16], [26] and [27]: worlds and views."""

import unittest
from itertools import permutations
from random import Random

from callwarrant.errors import BadValue, NoModule
from callwarrant.worlds import is_lawful, is_world, view
from tests.helper import ODD, PAINT, Told, as_lists, changes, is_plain, lawful_world, told_world

NAMES = tuple("abcdefghijklmnop")


def bare(name, *uses):
    """A module that declares nothing."""
    return (name, uses, (), (), ())


def ring(many):
    """Modules that use one another in a circle."""
    return tuple(bare(NAMES[at], NAMES[at - 1 if at else many - 1]) for at in range(many))


def row(many):
    """Modules each of which uses the one before it."""
    return tuple(bare(NAMES[at], *NAMES[max(0, at - 1):at]) for at in range(many))


DIAMOND = (bare("d", "b", "c"), bare("b", "a"), bare("c", "a"), bare("a"), bare("e"))


class Worlds(unittest.TestCase):

    def check(self, value, expected):
        self.assertIs(is_world(value), expected, value)
        self.assertIs(is_world(as_lists(value)), expected, value)
        self.assertIs(is_world(value=value), expected, value)
        if expected:
            self.assertIs(is_lawful(value), True)
        else:
            self.assertIs(is_lawful(value), False)
            for name in ("a", "base", None):
                with self.assertRaises(BadValue) as caught:
                    view(value, name)
                self.assertEqual(caught.exception.at, 0)

    def test_numbers_of_modules(self):
        for many in range(0, 16):
            self.check(tuple(bare(name) for name in NAMES[:many]), many <= 12)
            self.check(row(many), many <= 12)

    def test_names_are_different(self):
        self.check((bare("a"), bare("a")), False)
        self.check((bare("a"), bare("b"), bare("a", "b")), False)
        self.check((bare("a"), bare("aa"), bare("aaa")), True)

    def test_base_is_no_module(self):
        self.check((bare("base"),), False)
        self.check((bare("a"), bare("base")), False)
        self.check((bare("a", "base"),), False)
        self.check((bare("a", "base"), bare("base")), False)
        self.check((bare("b"), bare("a", "b", "base")), False)

    def test_uses_are_modules(self):
        self.check((bare("a", "b"),), False)
        self.check((bare("a", "b"), bare("c")), False)
        self.check((bare("c"), bare("a", "c", "b")), False)
        self.check((bare("a", "b"), bare("b")), True)

    def test_no_use_twice(self):
        self.check((bare("a", "b", "b"), bare("b")), False)
        self.check((bare("a", "b", "c", "b"), bare("b"), bare("c")), False)
        self.check((bare("a", "b", "c"), bare("b"), bare("c", "b")), True)

    def test_no_module_uses_itself(self):
        for many in range(1, 13):
            self.check(ring(many), False)
            self.check(ring(many) + (bare("z"),), False)
        self.check((bare("z"),) + ring(3), False)
        self.check((bare("z", "a"),) + ring(2), False)
        self.check((bare("a", "b", "c"), bare("b", "c"), bare("c", "a")), False)

    def test_several_ways_to_a_module_are_no_circle(self):
        self.check(DIAMOND, True)
        self.check((bare("a", "b", "c"), bare("b", "c"), bare("c")), True)

    def test_any_sequence(self):
        for modules in permutations(DIAMOND[:4]):
            self.check(modules, True)
            self.assertEqual(view(modules, "d"), ("a", "b", "base", "c", "d"))
        for modules in permutations((bare("z"),) + ring(3)):
            self.check(modules, False)

    def test_lists_within_tuples_and_tuples_within_lists(self):
        module = ["a", [], ([["C"][0], "open", False, ["base.Any"], ()],), [], ()]
        self.check([tuple(module)], True)
        self.check((module,), True)

    def test_numbers_are_no_truths(self):
        for abstract, expected in ((True, True), (1, False), (False, True), (0, False), (True, True)):
            module = ("a", (), (("C", "open", abstract, ("base.Any",), ()),), (), ())
            self.check((module,), expected)

    def test_values_that_are_no_worlds(self):
        for value in ODD:
            self.check(value, value in ((), []) and not isinstance(value, str))
            self.check((value,), False)
            self.check((bare("a"), value), False)
        self.check(PAINT, False)
        self.check((PAINT,), False)
        self.check(((bare("a"),),), False)
        self.check("abc", False)

    def test_every_change(self):
        told = {True: 0, False: 0}
        for value in changes(DIAMOND, ("a", "b", "base", "z", (), None, bare("f"))):
            expected = told_world(value)
            told[expected] += 1
            self.assertIs(is_world(value), expected, value)
        self.assertTrue(min(told.values()) > 10)

    def test_is_world_though_not_lawful(self):
        module = ("a", (), (("C", "open", False, ("x.Y",), ()),), (), ())
        self.assertIs(is_world((module,)), True)
        self.assertIs(is_lawful((module,)), False)

    def test_argument_stays(self):
        value = as_lists(DIAMOND)
        is_world(value)
        is_lawful(value)
        view(value, "d")
        self.assertEqual(value, as_lists(DIAMOND))


class Views(unittest.TestCase):

    def test_each_module(self):
        told = {
            "a": ("a", "base"), "b": ("a", "b", "base"), "c": ("a", "base", "c"),
            "d": ("a", "b", "base", "c", "d"), "e": ("base", "e"),
        }
        for name, expected in told.items():
            for world in (DIAMOND, as_lists(DIAMOND)):
                self.assertEqual(view(world, name), expected)
                self.assertEqual(view(world=world, name=name), expected)
                self.assertTrue(is_plain(view(world, name)))

    def test_names_before_and_behind_base(self):
        world = (bare("m", "az", "bz"), bare("az"), bare("bz"))
        self.assertEqual(view(world, "m"), ("az", "base", "bz", "m"))

    def test_the_farthest(self):
        world = row(12)
        for at in range(12):
            self.assertEqual(view(world, NAMES[at]), tuple(sorted(NAMES[:at + 1] + ("base",))))

    def test_no_module(self):
        for name in ("base", "z", "", "A", "d ", "d\n", 0, 1, True, None, (), [], ["d"], ("d",),
                     [[]], 10 ** 30, "x" * 200000):
            for world in (DIAMOND, (), as_lists(DIAMOND)):
                with self.assertRaises(NoModule) as caught:
                    view(world, name)
                self.assertIs(caught.exception.name, name)

    def test_world_that_is_not_lawful(self):
        module = ("a", (), (("C", "open", False, ("x.Y", "a.C"), ()),), (), ())
        self.assertEqual(view((module,), "a"), ("a", "base"))

    def test_same_in_every_sequence_and_in_greater_worlds(self):
        source = Random(27)
        for _ in range(30):
            world = lawful_world(source, "abcdefghijkl"[:source.randint(1, 12)], 0, 0, 0)
            told = Told(world)
            for module in world:
                name = module[0]
                found = view(world, name)
                self.assertEqual(found, tuple(sorted(told.view(name))))
                self.assertEqual(view(world[::-1], name), found)
                part = tuple(one for one in world if one[0] in found)
                self.assertEqual(view(part, name), found)
