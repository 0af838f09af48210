"""Promises [1] to [4] and [34] to [38]: who answers, closed modules, breaches."""

import unittest
from itertools import combinations
from math import prod
from random import Random

from callwarrant.calls import chain
from callwarrant.closing import answers, breach, is_closed
from callwarrant.errors import BadValue, NoBest, NoModule
from callwarrant.reading import parse
from callwarrant.worlds import is_lawful, view
from tests.helper import Told, as_lists, is_plain, lawful_world, strange_world, told_closed, view_of

SHAPES_TEXT = """module shapes {
  open class Shape extends base.Any { }
  sealed class Dot extends shapes.Shape { }
  generic meet(shapes.Shape, shapes.Shape) by 1 gives base.Int
  method shapes.meet(a: shapes.Shape, b: shapes.Shape) = 0
  method shapes.meet(a: shapes.Dot, b: shapes.Shape) = 1
  method shapes.meet(a: shapes.Shape, b: shapes.Dot) = 2
%s}"""
SHAPES = parse(SHAPES_TEXT % "")
CLOSED_SHAPES = parse(SHAPES_TEXT % "  method shapes.meet(a: shapes.Dot, b: shapes.Dot) = 3\n")
# A module of the greatest numbers of modules that are looked at, and one more.
ROW = tuple(
    (name, tuple("abcdefgh"[max(0, at - 1):at]), (("K", "open", False, ("base.Any",), ()),), (), ())
    for at, name in enumerate("abcdefgh"))


class Closing(unittest.TestCase):

    def closed(self, world, name, expected=True):
        """Checks a module by the trial of all sets of open classes; returns the breach."""
        self.assertIs(told_closed(world, name), expected)
        viewed = view_of(world, name)
        for one in (world, as_lists(world), world[::-1], viewed):
            self.assertIs(is_closed(one, name), expected)
        found = breach(world, name)
        if expected:
            self.assertIsNone(found)
        else:
            self.check_breach(world, name, found)
        for one in (as_lists(world), viewed, world[::-1]):
            self.assertEqual(breach(one, name) is None, expected)
        return found

    def open(self, world, name):
        return self.closed(world, name, False)

    def check_breach(self, world, name, found):
        """All that [37] and [38] ask of a breach."""
        self.assertTrue(is_plain(found))
        modules, generic, classes = found
        viewed = view_of(world, name)
        self.assertLessEqual(len(modules), 2)
        self.assertLessEqual(sum(len(module[2]) for module in modules), 3)
        names = [module[0] for module in modules]
        self.assertEqual(len(set(names) | set(view(world, name))), len(names) + len(view(world, name)))
        for module in modules:
            self.assertEqual(module[3:], ((), ()))
            for told in module[2]:
                self.assertLessEqual(len(told[3]), 2)
        both = viewed + modules
        self.assertIs(is_lawful(both), True, both)
        self.assertIn(generic, Told(viewed).generics)
        self.assertEqual(answers(both, generic, classes), name)
        with self.assertRaises(NoBest):
            chain(both, generic, classes)
        self.assertEqual(Told(both).answers(generic, classes), name)
        self.assertIn(Told(both).chain(generic, classes), ("none", "many"))

    def bad(self, error, at, ask, *arguments):
        with self.assertRaises(error) as caught:
            ask(*arguments)
        if error is NoModule:
            self.assertIs(caught.exception.name, at)
        else:
            self.assertEqual(caught.exception.at, at)


class Answers(Closing):

    WORLD = tuple(parse(text) for text in (
        """module g {
          open class A extends base.Any { }
          generic f(base.Any, base.Any) by 2 gives base.Int
          generic h(base.Any) by 1 gives base.Int
        }""",
        "module knows uses g { open class B extends g.A { } sealed abstract class N extends base.Any { } }",
        "module far uses knows { sealed class C extends knows.B { } }",
        """module apart {
          open class D extends base.Any { }
          generic own(base.Any) by 1 gives base.Int
        }""",
        "module both uses apart, far { sealed class E extends apart.D, knows.B { } }",
    ))

    def test_who_answers(self):
        # The module of the owner class if it knows the generic's module, otherwise the latter.
        told = {
            "base.Int": ("g", "apart"), "g.A": ("g", "apart"), "knows.B": ("knows", "apart"),
            "far.C": ("far", "apart"), "apart.D": ("g", "apart"), "both.E": ("both", "both"),
        }
        for world in (self.WORLD, as_lists(self.WORLD), self.WORLD[::-1]):
            for owner, (first, second) in told.items():
                for other in told:
                    self.assertEqual(answers(world, "g.f", (other, owner)), first)
                self.assertEqual(answers(world, "g.h", [owner]), first)
                self.assertEqual(answers(world, "apart.own", (owner,)), second)
        self.assertEqual(answers(classes=("far.C",), generic="g.h", world=self.WORLD), "far")

    def test_no_generic_and_no_call(self):
        for value in ("g.none", "g", "none.f", "g.A", "knows.f", "", None, True, 0, (), ["g.f"], ("g.f",)):
            for classes in (("g.A", "g.A"), None):
                self.bad(BadValue, 1, answers, self.WORLD, value, classes)
        for value in (None, True, 0, "", "g.A", (), ("g.A",), ("g.A",) * 3, ("base.Any", "g.A"),
                      ("g.A", "base.Any"), ("knows.N", "g.A"), ("g.A", "none.A"), ("g.A", "g.None"),
                      ("g.A", None), ("g.A", True), ("g.A", ["g.A"]), (("g.A", "g.A"),), [[]]):
            self.bad(BadValue, 2, answers, self.WORLD, "g.f", value)
        for world in (self.WORLD[1:], None, SHAPES, (SHAPES, SHAPES)):
            self.bad(BadValue, 0, answers, world, "g.f", ("g.A", "g.A"))
            self.bad(BadValue, 0, answers, world, None, None)

    def test_in_views_of_any_size(self):
        world = ROW + (parse("module z { generic f(base.Any) by 1 gives base.Int }"),)
        for name in "abcdefgh":
            self.assertEqual(answers(world, "z.f", (name + ".K",)), "z")
        world = tuple(
            module[:3] + ((("f", ("base.Any",), 1, "base.Int"),) if module[0] == "a" else (),) + module[4:]
            for module in ROW)
        for name in "abcdefgh":
            self.assertEqual(answers(world, "a.f", (name + ".K",)), name)

    def test_some_worlds(self):
        source = Random(34)
        for _ in range(25):
            world = lawful_world(source, "mkjn"[:source.randint(1, 4)], 3, 2, 2)
            told = Told(world)
            for generic in told.generics:
                calls = list(told.calls(generic))
                for classes in source.sample(calls, min(8, len(calls))):
                    self.assertEqual(answers(world, generic, classes), told.answers(generic, classes))


class Modules(Closing):

    def test_of_the_overview(self):
        found = self.open((SHAPES,), "shapes")
        self.assertEqual(found, ((), "shapes.meet", ("shapes.Dot", "shapes.Dot")))
        self.closed((CLOSED_SHAPES,), "shapes")
        self.assertIs(is_closed(name="shapes", world=[SHAPES]), False)
        self.assertEqual(breach(name="shapes", world=[SHAPES]), found)

    def test_modules_without_calls(self):
        self.closed((parse("module m { }"),), "m")
        self.closed((parse("module m { open class A extends base.Any { } }"),), "m")
        self.closed((parse("""module m {
          sealed abstract class A extends base.Any { }
          generic g(m.A) by 1 gives base.Int
        }"""),), "m")

    def test_generics_without_methods(self):
        self.open((parse("module m { generic g(base.Any) by 1 gives base.Int }"),), "m")
        self.open((parse("module m { generic g(base.Int) by 1 gives base.Int }"),), "m")
        # A module that knows the generic answers for its own classes, and for them alone.
        world = (
            parse("""module g {
              open abstract class A extends base.Any { }
              generic g(g.A) by 1 gives base.Int
            }"""),
            parse("module m uses g { sealed class B extends g.A { } }"),
            parse("module n uses g { sealed abstract class B extends g.A { } }"),
            parse("module o uses g { sealed class B extends base.Any { } }"),
        )
        self.assertEqual(self.open(world, "m"), ((), "g.g", ("m.B",)))
        for name in "gno":
            self.closed(world, name)

    def test_a_class_of_a_module_that_knows_the_generic_is_not_its_affair(self):
        # Own open classes can be extended only by modules that know the generic.
        world = (parse("""module m {
          open abstract class A extends base.Any { }
          sealed class B extends m.A { }
          generic g(m.A) by 1 gives base.Int
          method m.g(a: m.B) = 1
        }"""),)
        self.closed(world, "m")
        world = world + (parse("module n uses m { sealed class C extends m.A { } }"),)
        self.closed(world, "m")
        self.open(world, "n")

    def test_sealed_and_open_classes_as_takes(self):
        for kind, expected in (
            ("sealed", False), ("open", False), ("sealed abstract", True), ("open abstract", False),
        ):
            # At another position than the owner's, outside classes of open ones may stand.
            world = (parse("""module m {
              %s class A extends base.Any { }
              sealed class O extends base.Any { }
              generic g(m.O, m.A) by 1 gives base.Int
            }""" % kind),)
            self.closed(world, "m", expected)
        for kind, methods, expected in (
            ("sealed", "", False), ("sealed", "method m.g(o: m.O, a: m.B) = 1", True),
            ("open", "method m.g(o: m.O, a: m.B) = 1", False),
            ("open", "method m.g(o: m.O, a: m.A) = next method m.g(o: m.O, a: m.B) = 1", False),
            ("open", "method m.g(o: m.O, a: m.A) = 2 method m.g(o: m.O, a: m.B) = next", True),
        ):
            self.closed((parse("""module m {
              %s abstract class A extends base.Any { }
              sealed class B extends m.A { }
              sealed class O extends base.Any { }
              generic g(m.O, m.A) by 1 gives base.Int
              %s
            }""" % (kind, methods)),), "m", expected)

    def test_two_open_classes_meet_in_another_module(self):
        text = """module m {
          open class A extends base.Any { }
          %s class B extends base.Any { }
          %s class C extends %s { }
          sealed class O extends base.Any { }
          generic g(m.O, base.Any) by 1 gives base.Int
          method m.g(o: m.O, a: base.Any) = 0
          method m.g(o: m.O, a: m.A) = 1
          method m.g(o: m.O, a: m.B) = 2
        }"""
        for kind, other, parents, expected in (
            ("sealed", "sealed", "base.Any", True), ("open", "sealed", "base.Any", False),
            ("sealed", "sealed", "m.B, m.A", False), ("sealed", "sealed abstract", "m.B, m.A", True),
            ("sealed", "open abstract", "m.B, m.A", False), ("sealed", "open abstract", "m.A", True),
            ("sealed", "open", "m.B", False), ("sealed abstract", "open abstract", "m.B", False),
        ):
            self.closed((parse(text % (kind, other, parents)),), "m", expected)
        found = self.open((parse(text % ("open", "sealed", "base.Any")),), "m")
        (module,), generic, classes = found
        self.assertEqual(module[1:3][0], ("m",))
        self.assertEqual(sorted(module[2][0][3]), ["m.A", "m.B"])
        self.assertEqual((generic, classes[0]), ("m.g", "m.O"))

    def test_three_open_classes_are_told_by_two(self):
        text = """module m {
          open class A extends base.Any { }
          open class B extends base.Any { }
          open class C extends base.Any { }
          sealed class O extends base.Any { }
          generic g(m.O, base.Any) by 1 gives base.Int
          method m.g(o: m.O, a: base.Any) = 0
          %s
        }"""
        methods = ["method m.g(o: m.O, a: m.%s) = 1" % word for word in "ABC"]
        for many in range(4):
            for row in combinations(methods, many):
                self.closed((parse(text % " ".join(row)),), "m", many < 2)

    def test_owner_classes_of_others(self):
        # Outside classes that do not know the generic may extend open classes that are not own.
        k = """module k {
          open class A extends base.Any { }
          %s class B extends base.Any { }
        }"""
        m = """module m uses k {
          open class M extends k.A, k.B { }
          generic g(base.Any) by 1 gives base.Int
          method m.g(a: base.Any) = 0
          method m.g(a: k.A) = 1
          method m.g(a: k.B) = 2
          method m.g(a: m.M) = 3
        }"""
        found = self.open((parse(k % "open"), parse(m)), "m")
        (module,), _, _ = found
        self.assertEqual((module[1], sorted(module[2][0][3])), (("k",), ["k.A", "k.B"]))
        world = (parse(k % "sealed"), parse(m.replace("k.A, k.B", "k.A")))
        self.closed(world, "m")
        self.closed(world, "k")
        # Own open classes are not extended by modules that do not know the generic.
        world = (parse("""module m {
          open class A extends base.Any { }
          open class B extends base.Any { }
          generic g(base.Any) by 1 gives base.Int
          method m.g(a: base.Any) = 0
          method m.g(a: m.A) = 1
          method m.g(a: m.B) = 2
        }"""),)
        self.closed(world, "m")

    def test_a_breach_of_two_modules_and_three_classes(self):
        k = """module k {
          open class A extends base.Any { }
          open class B extends base.Any { }
        }"""
        m = """module m uses k {
          open abstract class C extends base.Any { }
          open abstract class D extends base.Any { }
          open abstract class E extends base.Any { }
          open abstract class F extends base.Any { }
          generic g(base.Any, base.Any, base.Any) by 2 gives base.Int
          method m.g(a: base.Any, o: base.Any, b: base.Any) = 0
          method m.g(a: m.C, o: k.A, b: m.E) = 1
          method m.g(a: m.D, o: k.B, b: m.F) = 2
          %s
        }"""
        modules, generic, classes = self.open((parse(k), parse(m % "")), "m")
        self.assertEqual([len(module[2]) for module in modules], [1, 2])
        self.assertEqual([module[1] for module in modules], [("k",), ("m",)])
        self.closed((parse(k), parse(m % "".join(
            "method m.g(a: m.%s, o: k.%s, b: m.%s) = 3\n" % (a, o, b)
            for a, o, b in (("C", "B", "F"), ("D", "A", "F"), ("D", "B", "E"))))), "m", False)
        comparable = (m % "").replace("(a: m.D, o: k.B, b: m.F)", "(a: m.C, o: k.A, b: base.Any)")
        self.closed((parse(k), parse(comparable)), "m")

    def test_next_in_chains(self):
        text = """module m {
          open class A extends base.Any { }
          open class B extends base.Any { }
          sealed class O extends m.A, m.B { }
          generic g(m.O, base.Any) by 1 gives base.Int
          method m.g(o: m.O, a: base.Any) = %s
          method m.g(o: m.O, a: m.A) = %s
          method m.g(o: m.O, a: m.O) = %s
          %s
        }"""
        other = "method m.g(o: m.O, a: m.B) = 4"
        for bodies, more, expected in (
            (("1", "2", "3"), "", True), (("1", "next", "next"), "", True),
            (("next", "2", "3"), "", False), (("1", "2", "next"), "", True),
            (("next", "next", "next"), "", False), (("1", "2", "3"), other, False),
        ):
            self.closed((parse(text % (bodies + (more,))),), "m", expected)
        # With A and B sealed no class but O is under both; its next then finds two.
        sealed = text.replace("open", "sealed")
        self.closed((parse(sealed % ("1", "2", "3", other)),), "m")
        self.closed((parse(sealed % ("1", "2", "next", other)),), "m", False)
        self.closed((parse(sealed % ("1", "next", "next", other)),), "m", False)

    def test_other_modules_methods_count(self):
        g = parse("""module g {
          open abstract class A extends base.Any { }
          open class B extends base.Any { }
          open class C extends base.Any { }
          generic g(g.A, base.Any) by 1 gives base.Int
          method g.g(a: g.A, b: base.Any) = 0
        }""")
        k = parse("""module k uses g {
          open class K extends g.A { }
          method g.g(a: k.K, b: g.B) = 1
        }""")
        m = """module m uses k {
          sealed class M extends k.K { }
          method g.g(a: m.M, b: %s) = 2
        }"""
        for word, expected in (("base.Any", False), ("g.B", True), ("g.C", False)):
            world = (g, k, parse(m % word))
            self.closed(world, "m", expected)
            self.closed(world, "k")
            self.closed(world, "g")

    def test_names_of_outside_modules(self):
        # The names of the modules of a breach are free in the view.
        texts = [
            "module %s { open class K extends base.Any { } }" % name for name in "abc"]
        world = tuple(map(parse, texts)) + (parse("""module d uses a, b, c {
          generic g(base.Any, base.Any) by 1 gives base.Int
          method d.g(a: a.K, b: base.Any) = 1
          method d.g(a: base.Any, b: b.K) = 1
          method d.g(a: base.Any, b: base.Any) = 1
        }"""),)
        self.open(world, "d")

    def test_no_module(self):
        for name in ("base", "none", "", "Shapes", 0, 1, True, None, (), [], ["shapes"], ("shapes",), [[]]):
            for ask in (is_closed, breach):
                self.bad(NoModule, name, ask, (SHAPES,), name)
                self.bad(NoModule, name, ask, (), name)

    def test_no_lawful_world(self):
        unlawful = parse("module m { open class A extends none.B { } }")
        for world in (None, 1, "shapes", SHAPES, (SHAPES, SHAPES), (SHAPES, unlawful), (unlawful,)):
            for name in ("shapes", "m", None):
                for ask in (is_closed, breach):
                    self.bad(BadValue, 0, ask, world, name)

    def test_views_that_are_not_looked_at(self):
        for at, name in enumerate("abcdefgh"):
            self.assertEqual(len(view(ROW, name)), at + 2)
            if at < 6:
                self.assertIs(is_closed(ROW, name), True)
                self.assertIsNone(breach(ROW, name))
            else:
                self.bad(BadValue, 1, is_closed, ROW, name)
                self.bad(BadValue, 1, breach, as_lists(ROW), name)
        self.bad(NoModule, "z", is_closed, ROW, "z")


class Trials(Closing):

    def size(self, world, name):
        """The number of the calls of the trial of all sets of open classes."""
        told = Told(strange_world(world, name))
        return sum(prod(len(told.concrete(one)) for one in made[1]) for made in told.generics.values())

    def check(self, world, name, count):
        expected = told_closed(world, name)
        self.assertIs(is_closed(world, name), expected, (world, name))
        found = breach(world, name)
        self.assertEqual(found is None, expected)
        key = "closed"
        if found is not None:
            self.check_breach(world, name, found)
            both = view_of(world, name) + found[0]
            key = Told(both).chain(*found[1:]), len(found[0]), sum(len(module[2]) for module in found[0])
        count[key] = count.get(key, 0) + 1

    def test_some_modules(self):
        source = Random(37)
        count = {}
        for _ in range(250):
            names = "mkj"[:source.randint(1, 3)]
            world = lawful_world(
                source, names, source.randint(1, 4), source.randint(1, 2), source.randint(1, 6))
            for name in names:
                if self.size(world, name) < 3000:
                    self.check(world, name, count)
        self.assertTrue(count["closed"] > 100 and len(count) > 5, count)

    def test_changes_of_some_modules(self):
        # A method left out, with next or without.
        source = Random(38)
        count = {}
        for _ in range(60):
            names = "mk"[:source.randint(1, 2)]
            world = lawful_world(source, names, 4, 1, 5)
            name = names[-1]
            if self.size(world, name) > 2000:
                continue
            main = [module for module in world if module[0] == name][0]
            for at, (generic, params, _) in enumerate(main[4]):
                for row in ((), ((generic, params, ("next",)),), ((generic, params, ("int", 1)),)):
                    changed = main[:4] + (main[4][:at] + row + main[4][at + 1:],)
                    other = tuple(changed if module[0] == name else module for module in world)
                    if Told(other).lawful():
                        self.check(other, name, count)
        self.assertTrue(count["closed"] > 100 and len(count) > 4, count)

    def test_the_trial_itself_is_lawful(self):
        # What is tried are calls of lawful worlds, and the package chooses as the trial does.
        source = Random(39)
        tried = 0
        while tried < 12:
            world = lawful_world(source, "mk", 2, 1, 3)
            strange = strange_world(world, "k")
            if len(strange) > 12 or any(len(module[1]) > 4 for module in strange):
                continue
            tried += 1
            self.assertIs(is_lawful(strange), True)
            told = Told(strange)
            for generic in told.generics:
                calls = list(told.calls(generic))
                for classes in source.sample(calls, min(10, len(calls))):
                    self.assertEqual(answers(strange, generic, classes), told.answers(generic, classes))
                    run = told.chain(generic, classes)
                    try:
                        found = chain(strange, generic, classes)
                    except NoBest as error:
                        found = error.word
                    self.assertEqual(found, run)

    def test_calls_that_are_not_good_are_answered_by_modules_that_are_not_closed(self):
        source = Random(4)
        count = {True: 0, False: 0}
        for _ in range(60):
            world = lawful_world(source, "mkjn"[:source.randint(1, 4)], 3, 1, 3)
            told = Told(world)
            closed = [module[0] for module in world if is_closed(world, module[0])]
            for name in closed:
                self.assertEqual(told.bad_calls(name), [])
            for generic in told.generics:
                for classes in told.calls(generic):
                    if type(told.chain(generic, classes)) is str:
                        self.assertNotIn(told.answers(generic, classes), closed)
            count[len(closed) == len(world)] += 1
        self.assertTrue(min(count.values()) > 5, count)

    def test_same_in_greater_worlds(self):
        source = Random(3)
        for _ in range(40):
            world = lawful_world(source, "mkjn", 3, 1, 3)
            for module in world:
                name = module[0]
                viewed = view_of(world, name)
                expected = is_closed(viewed, name)
                for one in (world, world[::-1], strange_world(world, name)[:12]):
                    if is_lawful(one):
                        self.assertIs(is_closed(one, name), expected)
                        self.assertEqual(breach(one, name), breach(viewed, name))
