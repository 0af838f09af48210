"""Promises [8] and [42] to [44]: groups, what tells classes apart, and tables."""

import unittest
from itertools import product
from random import Random

from callwarrant.calls import chain
from callwarrant.errors import BadValue, NoBest
from callwarrant.reading import parse
from callwarrant.tables import groups, table, tells_apart
from tests.helper import ODD, Told, as_lists, is_plain, lawful_world, told_alike, told_outcomes
from tests.test_closing import SHAPES

DOT, SHAPE = "shapes.Dot", "shapes.Shape"
KIT = parse("""module kit {
  open abstract class Tool extends base.Any { }
  sealed class Saw extends kit.Tool { }
  sealed class Axe extends kit.Tool { }
  sealed class Pin extends base.Any { }
  sealed abstract class None extends kit.Tool { }
  generic use(kit.Tool, base.Any) by 1 gives base.Int
  generic one(base.Any) by 1 gives base.Int
  generic barred(kit.None, base.Any, kit.Tool) by 2 gives base.Int
  method kit.use(t: kit.Tool, a: base.Any) = 0
  method kit.use(t: kit.Saw, a: base.Any) = next
  method kit.use(t: kit.Axe, a: kit.Pin) = next
  method kit.one(a: kit.Saw) = 1
  method kit.one(a: base.Int) = next
  method kit.barred(a: kit.None, b: kit.Pin, c: kit.Saw) = 1
}""")
YARD = parse("""module yard uses kit {
  sealed class Jig extends kit.Tool { }
  generic idle(kit.Tool, kit.Pin) by 2 gives base.Int
  generic x(base.Any, base.Any, base.Any) by 3 gives base.Int
  method yard.x(a: kit.Tool, b: base.Any, c: base.Any) = 1
  method yard.x(a: base.Any, b: kit.Tool, c: base.Int) = 1
}""")
WORLD = (YARD, KIT)


class Tables(unittest.TestCase):

    def bad(self, at, ask, *arguments):
        with self.assertRaises(BadValue) as caught:
            ask(*arguments)
        self.assertEqual(caught.exception.at, at)

    def outcome(self, world, generic, classes):
        try:
            return chain(world, generic, classes)
        except NoBest as error:
            return error.word

    def check(self, world, generic):
        """All that [42] to [44] ask of groups, tells_apart and table; returns the table."""
        told = Told(world)
        outcomes = told_outcomes(world, generic)
        found = table(world, generic)
        self.assertTrue(is_plain(found))
        parts, cells = found
        takes = told.generics[generic][1]
        self.assertEqual(len(parts), len(takes))
        for at, (part, take) in enumerate(zip(parts, takes)):
            self.assertEqual(groups(world, generic, at + 1), part)
            self.assertTrue(is_plain(groups(world, generic, at + 1)))
            self.assertEqual(sorted(one for group in part for one in group), list(told.concrete(take)))
            self.assertEqual(list(part), sorted(part))
            self.assertTrue(all(group and list(group) == sorted(group) for group in part))
            for first, second in product(part, part):
                for one, other in product(first, second):
                    alike = told_alike(told, outcomes, generic, at, one, other)
                    self.assertIs(alike, first == second)
                    call = tells_apart(world, generic, at + 1, one, other)
                    if alike:
                        self.assertIsNone(call)
                    else:
                        self.assertTrue(is_plain(call))
                        self.assertEqual(call[at], one)
                        self.assertNotEqual(outcomes[call], outcomes[call[:at] + (other,) + call[at + 1:]])
        indices = [cell[0] for cell in cells]
        self.assertEqual(indices, list(product(*[range(len(part)) for part in parts])))
        for at, outcome in cells:
            for classes in product(*[part[index] for part, index in zip(parts, at)]):
                self.assertEqual(outcomes[classes], outcome)
        self.assertEqual(sum(1 for _ in outcomes), sum(
            len(list(product(*[part[index] for part, index in zip(parts, at)]))) for at in indices))
        return found


class ByHand(Tables):

    def test_of_the_overview(self):
        parts, cells = self.check((SHAPES,), "shapes.meet")
        self.assertEqual(parts, (((DOT,), (SHAPE,)),) * 2)
        self.assertEqual(cells, (
            ((0, 0), "many"), ((0, 1), (("shapes", 1),)), ((1, 0), (("shapes", 2),)), ((1, 1), (("shapes", 0),))))
        self.assertEqual(groups(position=2, generic="shapes.meet", world=[as_lists(SHAPES)]), ((DOT,), (SHAPE,)))
        self.assertEqual(table(generic="shapes.meet", world=[SHAPES]), (parts, cells))
        call = tells_apart(other=SHAPE, one=DOT, position=2, generic="shapes.meet", world=(SHAPES,))
        self.assertIn(call, ((DOT, DOT), (SHAPE, DOT)))

    def test_chains_are_told_apart(self):
        # Axe with Pin goes on to the same method that Jig begins with: their chains differ.
        parts, cells = self.check(WORLD, "kit.use")
        self.assertEqual(parts[0], (("kit.Axe",), ("kit.Saw",), ("yard.Jig",)))
        self.assertEqual(parts[1], (("base.Int", "kit.Axe", "kit.Saw", "yard.Jig"), ("kit.Pin",)))
        self.assertEqual(dict(cells)[0, 1], (("kit", 2), ("kit", 0)))
        self.assertEqual(dict(cells)[1, 0], (("kit", 1), ("kit", 0)))

    def test_one_position(self):
        parts, cells = self.check(WORLD, "kit.one")
        # A chain that breaks off is no better than none at its beginning.
        self.assertEqual(parts, ((("base.Int", "kit.Axe", "kit.Pin", "yard.Jig"), ("kit.Saw",)),))
        self.assertEqual(cells, (((0,), "none"), ((1,), (("kit", 3),))))

    def test_three_positions(self):
        parts, cells = self.check(WORLD, "yard.x")
        tools = ("kit.Axe", "kit.Saw", "yard.Jig")
        self.assertEqual(parts, (
            (("base.Int", "kit.Pin"), tools), (("base.Int", "kit.Pin"), tools),
            (("base.Int",), tools[:1] + ("kit.Pin",) + tools[1:])))
        self.assertEqual(len(cells), 8)
        self.assertEqual(dict(cells)[1, 1, 0], "many")
        self.assertEqual(dict(cells)[0, 0, 0], "none")

    def test_no_method(self):
        parts, cells = self.check(WORLD, "yard.idle")
        self.assertEqual(parts, ((("kit.Axe", "kit.Saw", "yard.Jig"),), (("kit.Pin",),)))
        self.assertEqual(cells, (((0, 0), "none"),))

    def test_no_call(self):
        for world in (WORLD, (KIT,)):
            parts, cells = self.check(world, "kit.barred")
            self.assertEqual((parts[0], cells), ((), ()))
            self.assertEqual([len(part) for part in parts], [0, 1, 1])
            self.assertIsNone(tells_apart(world, "kit.barred", 2, "base.Int", "kit.Pin"))
            self.bad(3, tells_apart, world, "kit.barred", 1, "kit.None", "kit.None")

    def test_the_world_counts(self):
        self.assertEqual(groups((KIT,), "kit.use", 1), (("kit.Axe",), ("kit.Saw",)))
        more = parse("""module more uses kit {
          sealed class A extends kit.Tool { }
          sealed class B extends kit.Tool { }
          method kit.use(t: more.B, a: base.Int) = next
        }""")
        parts, _ = self.check((more, YARD, KIT), "kit.use")
        self.assertEqual(parts[0], (("kit.Axe",), ("kit.Saw",), ("more.A", "yard.Jig"), ("more.B",)))
        self.assertEqual(parts[1], (
            ("base.Int",), ("kit.Axe", "kit.Saw", "more.A", "more.B", "yard.Jig"), ("kit.Pin",)))


class Errors(Tables):

    def test_in_their_order(self):
        unlawful = parse("module m { open class A extends none.B { } }")
        for ask, more in ((groups, (1,)), (tells_apart, (1, DOT, DOT)), (table, ())):
            for world in (None, (unlawful,), (SHAPES, SHAPES), SHAPES, "shapes"):
                self.bad(0, ask, world, None, *[None for _ in more])
            for value in ODD + ("shapes.Dot", "shapes.none", "base.Int", ["shapes.meet"]):
                self.bad(1, ask, (SHAPES,), value, *more)
                self.bad(1, ask, (SHAPES,), value, *[None for _ in more])
        for ask, more in ((groups, ()), (tells_apart, (DOT, DOT)), (tells_apart, (None, None))):
            for value in (0, 3, -1, True, False, None, "1", (), [1], (1,), 10 ** 30, -10 ** 30, "shapes.Dot"):
                self.bad(2, ask, (SHAPES,), "shapes.meet", value, *more)
        for value in ODD + ("shapes.None", "shapes.meet", "base.Int", "base.Any", [DOT], (DOT,), "Dot"):
            for position in (1, 2):
                self.bad(3, tells_apart, (SHAPES,), "shapes.meet", position, value, DOT)
                self.bad(3, tells_apart, (SHAPES,), "shapes.meet", position, value, None)
                self.bad(4, tells_apart, (SHAPES,), "shapes.meet", position, DOT, value)

    def test_classes_that_cannot_stand(self):
        # Abstract classes, and those that are not under the take.
        for position, value in ((1, "kit.Tool"), (1, "kit.None"), (1, "base.Int"), (2, "kit.Tool"), (2, "base.Any")):
            self.bad(3, tells_apart, WORLD, "kit.use", position, value, value)
            self.bad(4, tells_apart, WORLD, "kit.use", position, "kit.Saw", value)
        self.assertIsNone(tells_apart(WORLD, "kit.use", 2, "base.Int", "base.Int"))
        self.bad(3, tells_apart, (KIT,), "kit.use", 1, "yard.Jig", "kit.Saw")
        for position in (1, 2, 3):
            groups(WORLD, "yard.x", position)
        self.bad(2, groups, WORLD, "yard.x", 4)
        self.bad(2, groups, WORLD, "kit.one", 2)


class Trials(Tables):

    def test_some_worlds(self):
        source = Random(42)
        count = {}
        for _ in range(45):
            world = lawful_world(source, "mkjn"[:source.randint(1, 4)], 3, 2, 5)
            told = Told(world)
            for generic in told.generics:
                if len(list(told.calls(generic))) <= 130:
                    parts, cells = self.check(world, generic)
                    for _, outcome in cells:
                        key = outcome if type(outcome) is str else len(outcome)
                        count[key] = count.get(key, 0) + 1
        for key in ("none", "many", 1, 2):
            self.assertGreater(count[key], 5, count)
        self.assertGreater(sum(count.values()), 150)


def great_world():
    """A world with 1,452 calls of a generic with three positions."""
    one = parse("""module a {
      open class A extends base.Any { }
      open class B extends a.A { }
      sealed class C extends a.A { }
      sealed class D extends a.A, a.B { }
      sealed class E extends a.B { }
      sealed class F extends a.A { }
      generic g(a.A, a.A, base.Any) by 1 gives base.Int
      method a.g(x: a.A, y: a.A, z: base.Any) = 0
      method a.g(x: a.B, y: a.A, z: a.A) = next
      method a.g(x: a.A, y: a.B, z: a.A) = 1
      method a.g(x: a.C, y: a.D, z: base.Int) = next
      method a.g(x: a.D, y: a.D, z: a.D) = next
      method a.g(x: a.E, y: a.A, z: a.F) = 1
      method a.g(x: a.F, y: a.F, z: a.F) = 1
    }""")
    two = parse("""module b uses a {
      sealed class A extends a.A { }
      sealed class B extends a.B { }
      open class C extends a.A, a.B { }
      sealed class D extends b.C { }
      sealed class E extends b.C { }
      method a.g(x: b.A, y: b.A, z: b.A) = 1
      method a.g(x: b.B, y: b.C, z: base.Int) = next
      method a.g(x: b.C, y: a.A, z: base.Any) = 1
      method a.g(x: b.D, y: a.C, z: base.Any) = next
    }""")
    return (one, two)


class Greatest(Tables):

    def test_many_calls(self):
        world = great_world()
        outcomes = told_outcomes(world, "a.g")
        self.assertEqual(len(outcomes), 1452)
        parts, cells = table(world, "a.g")
        self.assertGreater(len(cells), 200)
        for at, part in enumerate(parts):
            self.assertEqual(groups(world, "a.g", at + 1), part)
            for first, second in product(part, part):
                call = tells_apart(world, "a.g", at + 1, first[0], second[-1])
                self.assertIs(call is None, first == second)
                if call is not None:
                    other = call[:at] + (second[-1],) + call[at + 1:]
                    self.assertNotEqual(outcomes[call], outcomes[other])
        for at, outcome in cells:
            for classes in product(*[part[index] for part, index in zip(parts, at)]):
                self.assertEqual(outcomes[classes], outcome)

    def test_many_classes_at_one_position(self):
        names = "abcdefghijkl"
        world = tuple(
            (name, ("a",) if name != "a" else (), tuple(
                (word, "open", False, ("a.A",) if (name, word) != ("a", "A") else ("base.Any",), ())
                for word in "ABCDEF"),
             (("g", ("base.Any",), 1, "base.Int"),) if name == "a" else (), tuple(
                ("a.g", (("x", name + "." + word),), ("next",) if word == "A" else ("int", 1)) for word in "ABCDE"))
            for name in names)
        part = groups(world, "a.g", 1)
        # All chains of an A and an F break off, as that of base.Int; the others are all different.
        self.assertEqual(len(part), 49)
        self.assertEqual(sum(map(len, part)), 73)
        self.check(world[:3], "a.g")
