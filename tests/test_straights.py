"""Promises [6], [7], [45] and [46]: sites, straight calls and bends."""

import unittest
from random import Random

from callwarrant.calls import best
from callwarrant.errors import BadValue, NoBest, NoModule
from callwarrant.reading import parse
from callwarrant.straights import bend, sites, straight
from callwarrant.worlds import is_lawful
from tests.helper import (
    ODD, Occurring, Told, as_lists, can_occur, is_plain, lawful_world, strange_world, told_sites,
    view_of)
from tests.test_closing import ROW

KIT = parse("""module kit {
  open class Tool extends base.Any { part: kit.Saw, size: base.Int }
  sealed class Saw extends base.Any { size: base.Int }
  sealed class Pin extends base.Any { }
  generic use(base.Any, base.Any) by 1 gives base.Int
  generic make(base.Any) by 1 gives kit.Saw
  generic two(kit.Tool, kit.Pin) by 2 gives base.Any
  method kit.use(a: base.Any, b: base.Any) = 0
  method kit.use(a: kit.Saw, b: base.Any) = 1
  method kit.use(a: kit.Saw, b: kit.Tool) = 2
  method kit.make(a: base.Any) = new kit.Saw(kit.use(kit.make(a), 1))
  method kit.two(a: kit.Tool, b: kit.Pin) =
    let a = kit.make(b) in if kit.use(a, a) then kit.two(new kit.Tool(a, 1), b)
    else kit.use(kit.make(kit.make(1)).(kit.Saw.size), kit.use(b, a) + 1 * kit.use(1, 2))
}""")
WORLD = (KIT,)


class Sites(unittest.TestCase):

    def outcome(self, world, generic, classes):
        try:
            return best(world, generic, classes)
        except NoBest as error:
            return error.word

    def check_sites(self, world, name):
        found = sites(world, name)
        self.assertEqual(found, told_sites(world, name))
        self.assertTrue(is_plain(found))
        for one in (as_lists(world), view_of(world, name), world[::-1]):
            self.assertEqual(sites(one, name), found)
        return found

    def check_site(self, world, name, told, site):
        """The answers for a site, held against the trial of all sets of open classes."""
        number, path, generic, classes = site
        viewed = view_of(world, name)
        occurring = Occurring(told, Told(viewed).view(name), generic, classes)
        found = straight(world, name, number, path)
        self.assertEqual(found, occurring.straight(), site)
        self.assertTrue(found is None or is_plain(found))
        bent = bend(world, name, number, path)
        for one in (viewed, as_lists(world)):
            self.assertEqual(straight(one, name, number, list(path)), found)
        if found is not None or not occurring.calls:
            self.assertIsNone(bent)
        else:
            self.check_bend(viewed, site, bent, occurring)
        return found, bent, occurring

    def check_bend(self, viewed, site, bent, occurring):
        """All that [46] asks of a bend."""
        _, _, generic, classes = site
        self.assertTrue(is_plain(bent))
        self.assertEqual(len(bent), 2)
        outcomes = []
        for modules, call in bent:
            self.assertLessEqual(len(modules), 1)
            for module in modules:
                self.assertNotIn(module[0], [one[0] for one in viewed] + ["base"])
            both = viewed + modules
            self.assertIs(is_lawful(both), True)
            told = Told(both)
            self.assertIn(call, list(can_occur(told, classes)))
            found = self.outcome(both, generic, call)
            self.assertEqual(found, told.best(generic, call))
            outcomes.append(found if type(found) is tuple else None)
        if occurring.has_best():
            self.assertNotEqual(outcomes[0], outcomes[1])
        else:
            self.assertEqual(outcomes, [None, None])


class ByHand(Sites):

    def test_sites_in_their_order(self):
        self.assertEqual(self.check_sites(WORLD, "kit"), (
            (3, (0,), "kit.use", ("kit.Saw", "base.Int")),
            (3, (0, 0), "kit.make", ("base.Any",)),
            (4, (0,), "kit.make", ("kit.Pin",)),
            (4, (1, 0), "kit.use", ("kit.Saw", "kit.Saw")),
            (4, (1, 1), "kit.two", ("kit.Tool", "kit.Pin")),
            (4, (1, 2), "kit.use", ("base.Int", "base.Int")),
            (4, (1, 2, 0, 0), "kit.make", ("kit.Saw",)),
            (4, (1, 2, 0, 0, 0), "kit.make", ("base.Int",)),
            (4, (1, 2, 1, 0), "kit.use", ("kit.Pin", "kit.Saw")),
            (4, (1, 2, 1, 1, 1), "kit.use", ("base.Int", "base.Int")),
        ))
        self.assertEqual(sites(name="kit", world=[KIT]), sites(WORLD, "kit"))
        self.assertEqual(sites((parse("module m { }"),), "m"), ())

    def test_straight_and_bent(self):
        told = Told(strange_world(WORLD, "kit"))
        found = [self.check_site(WORLD, "kit", told, site)[0] for site in sites(WORLD, "kit")]
        make, use, two = ("kit", 3), ("kit", 0), ("kit", 4)
        self.assertEqual(found, [("kit", 1), None, make, ("kit", 1), two, use, make, make, use, use])
        self.assertEqual(straight(path=[0], method=3, name="kit", world=[KIT]), ("kit", 1))
        self.assertIsNone(bend(path=[0], method=3, name="kit", world=[KIT]))

    def site(self, classes, methods, call, more=""):
        """The answers for the call alone in a module's last method."""
        world = (parse("""module m {
          %s
          generic g(%s) by 1 gives base.Int
          generic h(%s) by 1 gives base.Int
          %s
          method m.h(%s) = m.g(%s)
        }""" % ((classes,) + call[:2] + (methods, call[2], call[3]))),)
        site = sites(world, "m")[-1]
        return self.check_site(world, "m", Told(strange_world(world, "m")), site)

    def test_owner_classes(self):
        # Where a class of another module may stand at the owner position, a method may be added.
        for kind, expected in (
            ("open", None), ("sealed", ("m", 0)), ("open abstract", None), ("sealed abstract", None),
        ):
            found, bent, occurring = self.site(
                "%s class A extends base.Any { }" % kind, "method m.g(x: m.A) = 1", ("m.A", "m.A", "x: m.A", "x"))
            self.assertEqual(found, expected)
            if kind.startswith("open"):
                methods = [modules[0][4] for modules, _ in bent]
                self.assertEqual(sorted(map(len, methods)), [0, 1])
            self.assertEqual(bool(occurring.calls), kind != "sealed abstract")
        # At another position a class of another module may stand, and chooses as the others do.
        for method, expected in (("x: m.A, y: m.B", ("m", 0)), ("x: m.A, y: m.C", None)):
            found, _, _ = self.site(
                "sealed class A extends base.Any { } open class B extends base.Any { } open class C extends m.B { }",
                "method m.g(%s) = 1" % method, ("m.A, m.B", "m.A, m.B", "x: m.A, y: m.B", "x, y"))
            self.assertEqual(found, expected)

    def test_base_any(self):
        # It is open: a module that knows nothing else may extend it.
        for by in (1, 2):
            world = (parse("""module m {
              generic g(base.Any, base.Int) by %d gives base.Int
              method m.g(x: base.Any, n: base.Int) = m.g(x, n)
            }""" % by),)
            site = sites(world, "m")[0]
            found, bent, _ = self.check_site(world, "m", Told(strange_world(world, "m")), site)
            self.assertEqual(found, None if by == 1 else ("m", 0))
            self.assertEqual(bent is None, by == 2)

    def test_where_no_call_occurs(self):
        classes = "sealed abstract class A extends base.Any { } sealed class B extends base.Any { }"
        for call in (("m.A", "m.A", "x: m.A", "x"), ("m.B, m.A", "m.B, m.A", "x: m.B, y: m.A", "x, y"),
                     ("m.A, m.B", "m.A, m.B", "x: m.A, y: m.B", "x, y"),
                     ("base.Any, m.A", "base.Any, m.A", "x: base.Any, y: m.A", "x, y")):
            found, bent, occurring = self.site(classes, "", call)
            self.assertEqual((found, bent, occurring.calls), (None, None, []))

    def test_no_best_method(self):
        classes = "sealed class A extends base.Any { } sealed class B extends base.Any { }"
        call = ("m.A, base.Any", "m.A, m.B", "x: m.A, y: m.B", "x, y")
        found, bent, occurring = self.site(classes, "", call)
        self.assertFalse(occurring.has_best())
        self.assertEqual(found, None)
        self.assertEqual(len(bent), 2)
        # Some calls have one, others have none.
        call = ("m.A, base.Any", "m.A, base.Any", "x: m.A, y: base.Any", "x, y")
        found, bent, occurring = self.site(classes, "method m.g(x: m.A, y: m.B) = 1", call)
        self.assertTrue(occurring.has_best())
        self.assertEqual(found, None)

    def test_two_methods_meet_in_a_class_of_another_module(self):
        classes = """sealed class A extends base.Any { }
          open class B extends base.Any { }
          %s class C extends base.Any { }"""
        methods = """method m.g(x: m.A, y: base.Any) = 1
          method m.g(x: m.A, y: m.C) = 1"""
        call = ("m.A, base.Any", "m.A, m.B", "x: m.A, y: m.B", "x, y")
        found, _, _ = self.site(classes % "sealed", methods, call)
        self.assertEqual(found, ("m", 0))
        found, bent, _ = self.site(classes % "open", methods, call)
        self.assertIsNone(found)
        parents = [sorted(told[3]) for modules, _ in bent for module in modules for told in module[2]]
        self.assertIn(["m.B", "m.C"], parents)

    def test_concrete_classes_under_the_type(self):
        classes = """sealed abstract class A extends base.Any { }
          sealed class B extends m.A { }
          sealed class C extends m.A { }"""
        call = ("m.A", "m.A", "x: m.A", "x")
        for methods, expected in (
            ("method m.g(x: m.A) = 1", ("m", 0)), ("method m.g(x: m.B) = 1", None),
            ("method m.g(x: m.B) = 1 method m.g(x: m.C) = 1", None),
            ("method m.g(x: m.B) = 1 method m.g(x: m.A) = 1", None),
            ("method m.g(x: m.A) = next", ("m", 0)), ("", None),
        ):
            found, bent, _ = self.site(classes, methods, call)
            self.assertEqual(found, expected)
            if expected is None:
                self.assertEqual([modules for modules, _ in bent], [(), ()])

    def test_same_in_greater_worlds(self):
        text = """module s uses kit {
          sealed class A extends kit.Tool { }
          sealed class B extends kit.Tool { }
          method kit.use(a: s.A, b: base.Any) = 1
          method kit.make(a: s.A) = next
        }"""
        greater = (parse(text), KIT, parse("module u { open class A extends base.Any { } }"))
        self.assertEqual(sites(greater, "kit"), sites(WORLD, "kit"))
        for number, path, _, _ in sites(WORLD, "kit"):
            self.assertEqual(straight(greater, "kit", number, path), straight(WORLD, "kit", number, path))
            bent = bend(WORLD, "kit", number, path)
            self.assertEqual(bend(greater, "kit", number, path), bent)


class Errors(Sites):

    def bad(self, at, ask, *arguments):
        with self.assertRaises(BadValue) as caught:
            ask(*arguments)
        self.assertEqual(caught.exception.at, at)

    def test_worlds_and_modules(self):
        unlawful = parse("module m { open class A extends none.B { } }")
        for ask, more in ((sites, ()), (straight, (None, None)), (bend, (None, None))):
            for world in (None, (unlawful,), (KIT, KIT), KIT, (KIT, unlawful)):
                self.bad(0, ask, world, "none", *more)
            for name in ("base", "none", None, 0, True, (), ["kit"]):
                with self.assertRaises(NoModule) as caught:
                    ask(WORLD, name, *more)
                self.assertIs(caught.exception.name, name)
            self.bad(1, ask, ROW, "g", *more)
        self.assertEqual(sites(ROW, "f"), ())

    def test_numbers_and_paths(self):
        for ask in (straight, bend):
            for number in (-1, 5, 8, True, False, None, "3", (3,), [], 10 ** 30, -10 ** 30, ("kit", 3)):
                self.bad(2, ask, WORLD, "kit", number, (0,))
                self.bad(2, ask, WORLD, "kit", number, None)
            self.bad(2, ask, ROW, "f", 0, ())
            for path in ODD + ((1,), (0, 1), (0, 0, 0), (0, 0, 0, 0), (-1,), (False,), ("0",), ((0,),), [[0]], (0, True),
                               (0, None), "0", 0, (10 ** 30,), (0, -1), (0,) * 10000, {}, (0, 0, -1), ((),)):
                self.bad(3, ask, WORLD, "kit", 3, path)
            # Expressions that are no call, and parts of such as have none.
            for path in ((), (1,), (1, 2, 0), (1, 2, 1), (1, 2, 1, 1), (1, 2, 1, 1, 0), (1, 3), (2,), (1, 0, 2), (1, 1, 0, 2),
                         (1, 1, 0, 0, 0), (1, 2, 1, 1, 1, 0, 0)):
                self.bad(3, ask, WORLD, "kit", 4, path)
            self.bad(3, ask, WORLD, "kit", 0, ())
            self.bad(3, ask, WORLD, "kit", 0, (0,))


class Trials(Sites):

    def test_some_modules(self):
        source = Random(45)
        count = {}
        while sum(count.values()) < 700:
            names = "mkj"[:source.randint(1, 3)]
            world = lawful_world(source, names, source.randint(1, 4), 2, 6, source.choice((2, 3, 4)), 2)
            for name in names:
                found = self.check_sites(world, name)
                if not found:
                    continue
                told = Told(strange_world(world, name))
                if len(told.classes) > 60:
                    continue
                for site in source.sample(found, min(8, len(found))):
                    answer, bent, occurring = self.check_site(world, name, told, site)
                    if answer:
                        # The modules of the world beside the view have methods of their own.
                        whole = Told(world)
                        for call in can_occur(whole, site[3]):
                            self.assertEqual(whole.best(site[2], call), answer)
                    key = "straight" if answer else "nothing" if bent is None else (
                        "method" if occurring.strange_owner else len({len(modules) for modules, _ in bent}) * 10 + max(
                            len(modules) for modules, _ in bent))
                    count[key] = count.get(key, 0) + 1
        self.assertTrue(len(count) > 4 and min(count["straight"], count["nothing"], count["method"]) > 20, count)

    def test_three_positions(self):
        source = Random(46)
        tried = 0
        while tried < 150:
            world = lawful_world(source, "mk"[:source.randint(1, 2)], 3, 2, 7, 3)
            for module in world:
                found = [site for site in self.check_sites(world, module[0]) if len(site[3]) == 3]
                told = Told(strange_world(world, module[0]))
                if len(told.classes) < 16:
                    for site in found[:4]:
                        self.check_site(world, module[0], told, site)
                        tried += 1
