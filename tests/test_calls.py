"""Promises [5], [32] and [33]: methods, calls, and which methods run."""

import unittest
from random import Random

from callwarrant.calls import applicable, best, chain, methods_of
from callwarrant.errors import BadValue, NoBest
from callwarrant.reading import parse
from tests.helper import Told, as_lists, is_plain, lawful_world

SHAPES = parse("""module shapes {
  open class Shape extends base.Any { }
  sealed class Dot extends shapes.Shape { }
  generic meet(shapes.Shape, shapes.Shape) by 1 gives base.Int
  method shapes.meet(a: shapes.Shape, b: shapes.Shape) = 0
  method shapes.meet(a: shapes.Dot, b: shapes.Shape) = 1
  method shapes.meet(a: shapes.Shape, b: shapes.Dot) = 2
}""")
DOT, SHAPE = "shapes.Dot", "shapes.Shape"

# Modules whose names are not in the sequence of their methods.
KIT = parse("""module kit {
  open abstract class Tool extends base.Any { }
  open class Saw extends kit.Tool { }
  open class Nail extends base.Any { }
  generic use(kit.Tool, base.Any, base.Any) by 1 gives base.Int
  generic name(kit.Tool) by 1 gives base.Any
  generic idle(base.Any) by 1 gives base.Int
  method kit.use(t: kit.Tool, a: base.Any, b: base.Any) = 0
  method kit.name(t: kit.Tool) = 1
  method kit.use(t: kit.Saw, a: kit.Nail, b: kit.Nail) = next + next
  method kit.use(t: kit.Tool, a: kit.Nail, b: base.Any) = let x = 1 in if x then x + next else 2
}""")
CASE = parse("""module case uses kit {
  sealed class Jig extends kit.Saw { }
  sealed class Pin extends kit.Nail { }
  method kit.use(t: case.Jig, a: base.Any, b: base.Any) = 3
  method kit.use(t: case.Jig, a: case.Pin, b: base.Int) = kit.use(t, a, next)
  method kit.name(t: case.Jig) = next
}""")
YARD = parse("""module yard uses case {
  sealed class Axe extends kit.Tool { }
  sealed class Bolt extends kit.Nail { }
  method kit.use(t: yard.Axe, a: yard.Bolt, b: base.Any) = 4
}""")
WORLD = (YARD, KIT, CASE)


class Asked(unittest.TestCase):

    def outcome(self, ask, *arguments):
        try:
            return ask(*arguments)
        except NoBest as error:
            return error.word

    def bad(self, at, ask, *arguments):
        with self.assertRaises(BadValue) as caught:
            ask(*arguments)
        self.assertEqual(caught.exception.at, at)


class Methods(Asked):

    def test_of_several_modules_ascending(self):
        told = {
            "kit.use": (
                (("case", 0), ("case.Jig", "base.Any", "base.Any")),
                (("case", 1), ("case.Jig", "case.Pin", "base.Int")),
                (("kit", 0), ("kit.Tool", "base.Any", "base.Any")),
                (("kit", 2), ("kit.Saw", "kit.Nail", "kit.Nail")),
                (("kit", 3), ("kit.Tool", "kit.Nail", "base.Any")),
                (("yard", 0), ("yard.Axe", "yard.Bolt", "base.Any")),
            ),
            "kit.name": ((("case", 2), ("case.Jig",)), (("kit", 1), ("kit.Tool",))),
            "kit.idle": (),
        }
        for generic, expected in told.items():
            for world in (WORLD, as_lists(WORLD), WORLD[::-1]):
                self.assertEqual(methods_of(world, generic), expected)
                self.assertTrue(is_plain(methods_of(world, generic)))
        self.assertEqual(methods_of(generic="kit.name", world=(KIT,)), told["kit.name"][1:])

    def test_no_generic(self):
        for value in ("kit.none", "none.use", "use", "kit", "kit.Saw", "case.use", "base.use", "", None,
                      True, 0, 1, (), [], ["kit.use"], ("kit.use",), [[]], 10 ** 30, "x" * 200000):
            for world in (WORLD, as_lists(WORLD)):
                self.bad(1, methods_of, world, value)
                for ask in (applicable, best, chain):
                    self.bad(1, ask, world, value, ("case.Jig",))
                    self.bad(1, ask, world, value, None)

    def test_no_lawful_world(self):
        for world in (WORLD[:2], KIT, None, 1, "kit", (KIT, KIT), (KIT, KIT[:4]), (parse(
                "module m { generic g(m.A) by 1 gives m.A }"),)):
            for generic in ("kit.use", "none.none", None):
                self.bad(0, methods_of, world, generic)
                for ask in (applicable, best, chain):
                    self.bad(0, ask, world, generic, None)


class Calls(Asked):

    def check(self, world, generic, classes, methods, first, run):
        """The answers to a call: applicable methods, the best one, the chain."""
        for one in (world, as_lists(world), world[::-1]):
            for asked in (classes, list(classes)):
                self.assertEqual(applicable(one, generic, asked), methods)
                self.assertEqual(self.outcome(best, one, generic, asked), first)
                self.assertEqual(self.outcome(chain, one, generic, asked), run)
        told = Told(world)
        self.assertEqual(told.applicable(generic, classes), methods)
        self.assertEqual(told.best(generic, classes), first)
        self.assertEqual(told.chain(generic, classes), run)

    def test_of_the_overview(self):
        world = (SHAPES,)
        at = [("shapes", number) for number in range(3)]
        self.check(world, "shapes.meet", (SHAPE, SHAPE), (at[0],), at[0], (at[0],))
        self.check(world, "shapes.meet", (DOT, SHAPE), (at[0], at[1]), at[1], (at[1],))
        self.check(world, "shapes.meet", (SHAPE, DOT), (at[0], at[2]), at[2], (at[2],))
        self.check(world, "shapes.meet", (DOT, DOT), tuple(at), "many", "many")
        with self.assertRaises(NoBest) as caught:
            best((SHAPES,), "shapes.meet", (DOT, DOT))
        self.assertEqual(str(caught.exception), "many")

    def test_by_names(self):
        found = best(classes=(DOT, SHAPE), world=(SHAPES,), generic="shapes.meet")
        self.assertEqual(found, ("shapes", 1))
        self.assertEqual(chain(classes=[DOT, SHAPE], world=[SHAPES], generic="shapes.meet"), (found,))
        self.assertEqual(
            applicable(classes=[DOT, SHAPE], world=[SHAPES], generic="shapes.meet"), (("shapes", 0), found))

    def test_of_three_positions_and_several_modules(self):
        kit, case, yard = ("kit", 0), ("case", 0), ("yard", 0)
        nails, nail, jig = ("kit", 2), ("kit", 3), ("case", 1)
        for classes, methods, first, run in (
            (("kit.Saw", "base.Int", "base.Int"), (kit,), kit, (kit,)),
            (("kit.Saw", "kit.Nail", "base.Int"), (kit, nail), nail, (nail, kit)),
            (("kit.Saw", "kit.Nail", "kit.Nail"), (kit, nails, nail), nails, (nails, nail, kit)),
            (("kit.Saw", "case.Pin", "yard.Bolt"), (kit, nails, nail), nails, (nails, nail, kit)),
            (("case.Jig", "base.Int", "kit.Nail"), (case, kit), case, (case,)),
            (("case.Jig", "kit.Nail", "base.Int"), (case, kit, nail), "many", "many"),
            (("case.Jig", "kit.Nail", "kit.Nail"), (case, kit, nails, nail), "many", "many"),
            (("case.Jig", "case.Pin", "base.Int"), (case, jig, kit, nail), jig, "many"),
            (("yard.Axe", "yard.Bolt", "yard.Bolt"), (kit, nail, yard), yard, (yard,)),
            (("yard.Axe", "case.Pin", "yard.Bolt"), (kit, nail), nail, (nail, kit)),
        ):
            self.check(WORLD, "kit.use", classes, methods, first, run)

    def test_no_applicable_method(self):
        self.check(WORLD, "kit.idle", ("base.Int",), (), "none", "none")
        self.check(WORLD, "kit.idle", ("case.Jig",), (), "none", "none")
        world = (parse("""module m {
          open class A extends base.Any { }
          sealed class B extends m.A { }
          generic g(base.Any) by 1 gives base.Int
          method m.g(a: m.B) = next
        }"""),)
        self.check(world, "m.g", ("m.A",), (), "none", "none")
        self.check(world, "m.g", ("m.B",), (("m", 0),), ("m", 0), "none")

    def test_plain_tuples(self):
        call = (as_lists(WORLD), "kit.use", ["kit.Saw", "kit.Nail", "kit.Nail"])
        for ask in (applicable, best, chain):
            self.assertTrue(is_plain(ask(*call)))

    def test_next_anywhere_in_a_body(self):
        bodies = (
            ("next", True), ("next + next", True), ("1", False), ("m.g(next)", True), ("m.g(1)", False),
            ("new m.B(1, next).(m.A.x)", True), ("new m.B(1, 2).(m.A.x)", False),
            ("(if 1 then 2 else next) + 1", True), ("if next then 1 else 1", True),
            ("if 1 then next else 1", True), ("let nexta = next in 1", True), ("let x = 1 in next", True),
            ("let x = 1 in let y = x in y * (2 - (3 + (4 * next)))", True), ("m.g(m.g(m.g(next - 1)))", True),
            ("let nexta = 1 in nexta", False),
        )
        for body, goes_on in bodies:
            world = (parse("""module m {
              open class A extends base.Any { x: base.Int, y: base.Int }
              open class B extends m.A { }
              generic g(base.Any) by 1 gives base.Int
              method m.g(a: m.B) = %s
              method m.g(a: m.A) = 1
            }""" % body),)
            run = (("m", 0), ("m", 1)) if goes_on else (("m", 0),)
            self.check(world, "m.g", ("m.B",), (("m", 0), ("m", 1)), ("m", 0), run)

    def test_a_long_chain(self):
        for last, end in (("1", True), ("next", False)):
            classes = "".join(
                "open class %s extends %s { }\n" % (word, up) for word, up in zip(
                    "ABCDEF", ("base.Any", "m.A", "m.B", "m.C", "m.D", "m.E")))
            methods = "".join("method m.g(a: m.%s) = next\n" % word for word in "CFAEBD")
            world = (parse("module m {\n%sgeneric g(base.Any) by 1 gives base.Int\n%s%s}" % (
                classes, methods, "method m.g(a: base.Any) = %s\n" % last)),)
            run = tuple(("m", "CFAEBD".index(word)) for word in "FEDCBA") + (("m", 6),)
            every = tuple(("m", number) for number in range(7))
            self.check(world, "m.g", ("m.F",), every, ("m", 1), run if end else "none")
            self.check(world, "m.g", ("base.Int",), (("m", 6),), ("m", 6), (("m", 6),) if end else "none")

    def test_next_with_several(self):
        world = (parse("""module m {
          open class A extends base.Any { }
          open class B extends base.Any { }
          sealed class C extends m.A, m.B { }
          generic g(base.Any) by 1 gives base.Int
          method m.g(a: m.C) = next
          method m.g(a: m.B) = 1
          method m.g(a: m.A) = 2
          method m.g(a: base.Any) = 3
        }"""),)
        every = tuple(("m", number) for number in range(4))
        self.check(world, "m.g", ("m.C",), every, ("m", 0), "many")
        self.check(world, "m.g", ("m.B",), (("m", 1), ("m", 3)), ("m", 1), (("m", 1),))

    def test_what_is_no_call(self):
        jig, nail = "case.Jig", "kit.Nail"
        for value in (
            None, True, 0, "", "case.Jig", (), [], (jig,), (jig, nail), (jig, nail, nail, nail),
            ("kit.Tool", nail, nail), (jig, "base.Any", nail), (jig, nail, "base.Any"),
            (nail, nail, nail), ("base.Int", nail, nail), ("none.Jig", nail, nail), (jig, "kit.None", nail),
            (jig, nail, "Nail"), (jig, nail, None), (jig, nail, True), (jig, nail, 0), (jig, nail, ()),
            (jig, nail, [nail]), ([jig], nail, nail), ((jig, nail, nail),), (jig, nail, "kit.use"),
            [[[]]], "abc", (jig, nail, "x" * 200000),
        ):
            for ask in (applicable, best, chain):
                self.bad(2, ask, WORLD, "kit.use", value)
        # Classes of modules that are not in the world.
        self.bad(2, best, (KIT, CASE), "kit.use", ("yard.Axe", nail, nail))

    def test_some_worlds(self):
        source = Random(33)
        count = {}
        for _ in range(60):
            world = lawful_world(source, "mkjn"[:source.randint(1, 4)], 3, 2, 5, source.choice((0, 0, 3)))
            told = Told(world)
            for generic in told.generics:
                self.assertEqual(methods_of(world, generic), told.methods_of(generic))
                calls = list(told.calls(generic))
                for classes in source.sample(calls, min(6, len(calls))):
                    self.assertEqual(applicable(world, generic, classes), told.applicable(generic, classes))
                    self.assertEqual(
                        self.outcome(best, world, generic, classes), told.best(generic, classes))
                    run = told.chain(generic, classes)
                    self.assertEqual(self.outcome(chain, world, generic, classes), run)
                    key = run if type(run) is str else len(run)
                    count[key] = count.get(key, 0) + 1
        for key in ("none", "many", 1, 2):
            self.assertGreater(count[key], 2, count)

    def test_same_in_greater_worlds(self):
        source = Random(5)
        for _ in range(15):
            world = lawful_world(source, "mkjn", 3, 2, 4)
            for many in range(1, 4):
                names = Told(world).view("mkjn"[many - 1])
                part = tuple(module for module in world if module[0] in names)
                told = Told(part)
                for generic in told.generics:
                    calls = list(told.calls(generic))
                    for classes in source.sample(calls, min(4, len(calls))):
                        for ask in (best, chain):
                            self.assertEqual(
                                self.outcome(ask, part, generic, classes),
                                self.outcome(ask, world, generic, classes))
