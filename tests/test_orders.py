"""Promises [14] and [31]: the order of classes."""

import unittest
from random import Random

from callwarrant.errors import BadValue
from callwarrant.orders import above, class_names, concrete, fields_of, under
from callwarrant.reading import parse
from tests.helper import Told, as_lists, is_plain, lawful_world

# Over three modules; p.Deep extends several classes on several ways, z.Low one of a far module.
WORLD = tuple(parse(text) for text in (
    """module p uses m {
      open class Deep extends m.Right, m.Left, z.Low { b: base.Int, a: p.Deep }
      sealed abstract class Idea extends p.Deep { }
      sealed class Fact extends p.Idea, base.Any { last: base.Any }
    }""",
    """module m uses z {
      open abstract class Top extends base.Any { t: base.Int }
      open class Left extends m.Top { z: base.Int, a: m.Top, t: base.Int }
      open abstract class Right extends m.Top, z.Low { }
    }""",
    """module z {
      open class Low extends base.Any { y: base.Int, x: z.Lower }
      sealed class Lower extends z.Low { }
    }""",
))
EVERY = (
    "base.Any", "base.Int", "m.Left", "m.Right", "m.Top", "p.Deep", "p.Fact", "p.Idea", "z.Low",
    "z.Lower",
)
ABOVE = {
    "base.Any": ("base.Any",),
    "base.Int": ("base.Any", "base.Int"),
    "m.Top": ("base.Any", "m.Top"),
    "m.Left": ("base.Any", "m.Left", "m.Top"),
    "m.Right": ("base.Any", "m.Right", "m.Top", "z.Low"),
    "p.Deep": ("base.Any", "m.Left", "m.Right", "m.Top", "p.Deep", "z.Low"),
    "p.Idea": ("base.Any", "m.Left", "m.Right", "m.Top", "p.Deep", "p.Idea", "z.Low"),
    "p.Fact": ("base.Any", "m.Left", "m.Right", "m.Top", "p.Deep", "p.Fact", "p.Idea", "z.Low"),
    "z.Low": ("base.Any", "z.Low"),
    "z.Lower": ("base.Any", "z.Low", "z.Lower"),
}
TOP = (("m.Top", "t"),)
LOW = (("z.Low", "y"), ("z.Low", "x"))
LEFT = (("m.Left", "z"), ("m.Left", "a"), ("m.Left", "t"))
DEEP = LEFT + TOP + (("p.Deep", "b"), ("p.Deep", "a")) + LOW
FIELDS = {
    "base.Any": (), "base.Int": (), "m.Top": TOP, "m.Left": LEFT + TOP, "m.Right": TOP + LOW,
    "p.Deep": DEEP, "p.Idea": DEEP, "p.Fact": DEEP[:6] + (("p.Fact", "last"),) + LOW,
    "z.Low": LOW, "z.Lower": LOW,
}
CONCRETE = {
    "base.Any": ("base.Int", "m.Left", "p.Deep", "p.Fact", "z.Low", "z.Lower"),
    "base.Int": ("base.Int",), "m.Top": ("m.Left", "p.Deep", "p.Fact"),
    "m.Left": ("m.Left", "p.Deep", "p.Fact"), "m.Right": ("p.Deep", "p.Fact"),
    "p.Deep": ("p.Deep", "p.Fact"), "p.Idea": ("p.Fact",), "p.Fact": ("p.Fact",),
    "z.Low": ("p.Deep", "p.Fact", "z.Low", "z.Lower"), "z.Lower": ("z.Lower",),
}
ALIKE = (WORLD, as_lists(WORLD), WORLD[::-1], (WORLD[1], WORLD[2], WORLD[0]))


class Orders(unittest.TestCase):

    def test_class_names(self):
        for world in ALIKE:
            self.assertEqual(class_names(world), EVERY)
        self.assertEqual(class_names(world=WORLD[1:]), EVERY[:5] + EVERY[8:])
        self.assertEqual(class_names(()), ("base.Any", "base.Int"))
        self.assertEqual(class_names([]), ("base.Any", "base.Int"))

    def test_under(self):
        for world in ALIKE:
            for one in EVERY:
                for other in EVERY:
                    self.assertIs(under(world, one, other), other in ABOVE[one])
        self.assertIs(under(world=WORLD, other="base.Any", one="p.Fact"), True)

    def test_every_class_is_under_itself_and_any(self):
        for one in EVERY:
            self.assertIs(under(WORLD, one, one), True)
            self.assertIs(under(WORLD, one, "base.Any"), True)
            self.assertIs(under(WORLD, "base.Any", one), one == "base.Any")
            self.assertIs(under(WORLD, one, "base.Int"), one == "base.Int")

    def test_above(self):
        for world in ALIKE:
            for one in EVERY:
                self.assertEqual(above(world, one), ABOVE[one])
        self.assertEqual(above(world=WORLD, one="z.Low"), ABOVE["z.Low"])

    def test_fields_of(self):
        for world in ALIKE:
            for one in EVERY:
                self.assertEqual(fields_of(world, one), FIELDS[one])
        self.assertEqual(fields_of(world=WORLD, one="m.Left"), FIELDS["m.Left"])

    def test_concrete(self):
        for world in ALIKE:
            for one in EVERY:
                self.assertEqual(concrete(world, one), CONCRETE[one])
        self.assertEqual(concrete(world=WORLD, one="m.Top"), CONCRETE["m.Top"])
        self.assertEqual(concrete(WORLD[2:], "z.Low"), ("z.Low", "z.Lower"))
        self.assertEqual(concrete((), "base.Any"), ("base.Int",))

    def test_a_class_with_no_concrete_one_under_it(self):
        world = (parse("module a { open abstract class C extends base.Any { } }"),)
        self.assertEqual(concrete(world, "a.C"), ())
        self.assertEqual(above(world, "a.C"), ("a.C", "base.Any"))

    def test_plain_tuples(self):
        for world in ALIKE:
            for made in (class_names(world), above(world, "p.Fact"), fields_of(world, "p.Fact"),
                         concrete(world, "base.Any")):
                self.assertTrue(is_plain(made))

    def test_in_greater_worlds(self):
        for world in (WORLD[1:], WORLD[2:], ()):
            for one in class_names(world):
                self.assertEqual(above(world, one), ABOVE[one])
                self.assertEqual(fields_of(world, one), FIELDS[one])
                for other in class_names(world):
                    self.assertIs(under(world, one, other), under(WORLD, one, other))

    def test_no_class(self):
        odd = (
            "p.None", "none.Deep", "Deep", "p", "base.None", "", "p.Deep ", "p.deep", None, True, False,
            0, 1, (), [], ["p.Deep"], ("p.Deep",), [[]], 10 ** 30, "x" * 200000,
        )
        for value in odd:
            for ask in (above, fields_of, concrete):
                self.bad(1, ask, WORLD, value)
            self.bad(1, under, WORLD, value, "p.Deep")
            self.bad(2, under, WORLD, "p.Deep", value)
            self.bad(1, under, WORLD, value, value)
        self.bad(1, above, WORLD[1:], "p.Deep")
        self.bad(2, under, WORLD[1:], "m.Top", "p.Deep")

    def test_no_lawful_world(self):
        for world in (WORLD[:2], WORLD[0], None, 1, "p", (WORLD[2], WORLD[2]), WORLD[:2] + (None,)):
            for one in ("p.Deep", "none.None", None):
                for ask in (above, fields_of, concrete):
                    self.bad(0, ask, world, one)
                self.bad(0, under, world, one, one)
            self.bad(0, class_names, world)

    def bad(self, at, ask, *arguments):
        with self.assertRaises(BadValue) as caught:
            ask(*arguments)
        self.assertEqual(caught.exception.at, at)

    def test_truths_are_no_numbers(self):
        # A world asked ahead of and behind another one that is equal to it in Python's sense.
        def with_abstract(value):
            return (("a", (), (("C", "open", value, ("base.Any",), ()),), (), ()),)

        for truth, number in ((True, 1), (False, 0)):
            self.assertEqual(with_abstract(truth), with_abstract(number))
            for _ in range(2):
                for world in (with_abstract(number), as_lists(with_abstract(number))):
                    self.bad(0, class_names, world)
                    self.bad(0, concrete, world, "a.C")
                found = concrete(with_abstract(truth), "a.C")
                self.assertEqual(found, () if truth else ("a.C",))

    def test_later_changes_have_no_effect(self):
        world = as_lists(WORLD)
        found = (class_names(world), above(world, "p.Fact"), fields_of(world, "p.Fact"))
        self.assertEqual(world, as_lists(WORLD))
        world[0][2][2][4].append(["more", "base.Int"])
        world[0][2][2][3] = ["base.Any"]
        self.assertEqual(found, (EVERY, ABOVE["p.Fact"], FIELDS["p.Fact"]))
        self.assertEqual(above(world, "p.Fact"), ("base.Any", "p.Fact"))
        self.assertEqual(fields_of(world, "p.Fact"), (("p.Fact", "last"), ("p.Fact", "more")))

    def test_some_worlds(self):
        source = Random(31)
        for _ in range(20):
            world = lawful_world(source, "mkjn"[:source.randint(1, 4)], 6, 0, 0)
            told = Told(world)
            names = tuple(sorted(told.classes))
            self.assertEqual(class_names(world), names)
            for one in names:
                self.assertEqual(above(world, one), told.above(one))
                self.assertEqual(concrete(world, one), told.concrete(one))
                self.assertEqual(fields_of(world, one), tuple(row[:2] for row in told.fields(one)))
                for other in names:
                    self.assertIs(under(world, one, other), told.under(one, other))
