"""Promises [4], [10] to [12] and [54] to [57]: links, and runs in worlds of closed modules."""

import unittest
from random import Random

from callwarrant.calls import best, chain
from callwarrant.closing import is_closed
from callwarrant.coding import code_of, run_codes
from callwarrant.errors import (
    BadValue, CallError, InUse, MissingUse, NoModule, NotClosed, Spent, TakenName, Unlawful)
from callwarrant.links import Link
from callwarrant.reading import parse, parse_expression
from callwarrant.running import class_of, run
from callwarrant.types import type_of
from callwarrant.worlds import fault, is_lawful, view
from tests.helper import (
    ODD, Told, Whole, as_lists, as_tuples, has_type, is_plain, lawful_body, lawful_world,
    outcome_of, told_module)
from tests.test_closing import CLOSED_SHAPES, SHAPES

DOT, SHAPE = "shapes.Dot", "shapes.Shape"
LINES = parse("""module lines uses shapes {
  sealed class Line extends shapes.Shape { from: shapes.Shape }
  generic length(lines.Line) by 1 gives base.Int
  method lines.length(x: lines.Line) = shapes.meet(x.(lines.Line.from), x)
  method shapes.meet(a: lines.Line, b: shapes.Shape) = next + 20
  method shapes.meet(a: lines.Line, b: shapes.Dot) = 30
}""")
APART = parse("module apart { open class Thing extends base.Any { } }")
ERRORS = {
    BadValue: ("at",), TakenName: ("name",), MissingUse: ("name",), Unlawful: ("rule", "at"), NotClosed: ("name",),
    NoModule: ("name",), InUse: ("name",),
}


def linked(*modules):
    link = Link()
    for module in modules:
        link.load(module)
    return link


def in_order(modules):
    """The modules, each behind those that it uses."""
    row = []
    while len(row) < len(modules):
        names = [module[0] for module in row]
        row.extend(
            module for module in modules if module not in row and all(name in names for name in module[1]))
    return row


def told_error(ask, *arguments):
    """The error of a call and what it keeps, or None."""
    try:
        ask(*arguments)
    except CallError as error:
        return (type(error),) + tuple(getattr(error, name) for name in ERRORS[type(error)])
    return None


class Links(unittest.TestCase):

    def refused(self, link, expected, ask, *arguments):
        """Checks that a call raises what is expected and changes nothing."""
        before = link.world()
        self.assertEqual(told_error(ask, *arguments), expected)
        self.assertEqual(link.world(), before)
        self.assertEqual(link, linked(*in_order(before)))

    def check(self, link, modules):
        """Checks all that a link returns that has these modules."""
        modules = tuple(sorted(as_tuples(modules)))
        self.assertEqual(link.world(), modules)
        self.assertTrue(is_plain(link.world()))
        self.assertEqual(link.names(), tuple(module[0] for module in modules))
        self.assertTrue(is_plain(link.names()))
        self.assertEqual(len(link), len(modules))
        self.assertIs(type(len(link)), int)
        self.assertIs(is_lawful(link.world()), True)
        fresh = linked(*in_order(modules))
        self.assertTrue(link == fresh and fresh == link and not link != fresh)
        for name in link.names():
            self.assertIs(name in link, True)
            self.assertIs(is_closed(modules, name), True)
            self.assertEqual(link.code(name), code_of(modules, name))
            self.assertTrue(is_plain(link.code(name)))
        for value in ODD + ("base", "none"):
            if value not in link.names():
                self.assertIs(value in link, False)
                self.assertEqual(told_error(link.code, value), (NoModule, value))

    def check_calls(self, source, link):
        """Checks what a link chooses and runs; the calls are those of its world."""
        world = link.world()
        told = Whole(world)
        codes = [(name, link.code(name)) for name in link.names()]
        for generic in told.generics:
            calls = list(told.calls(generic))
            for classes in source.sample(calls, min(len(calls), 6)):
                found = link.choose(generic, classes)
                self.assertEqual(found, told.best(generic, classes))
                self.assertEqual(found, best(world, generic, list(classes)))
                self.assertIs(type(told.chain(generic, classes)), tuple)
        for _ in range(12):
            made = lawful_body(source, told, "base", "none", {}, source.choice(sorted(told.classes)), 4)
            if has_type(told, made):
                for fuel in (5000, source.randrange(40)):
                    found = outcome_of(link.run, made, fuel)
                    self.assertEqual(found, outcome_of(run, world, made, fuel))
                    self.assertEqual(found, outcome_of(run_codes, world, codes, made, fuel)[:2])
                    self.assertNotEqual(found[0], "Stuck")
                    if found[0] != "Spent":
                        self.assertTrue(told.under(class_of(found[0]), type_of(world, made)))


class Loading(Links):

    def test_of_the_document(self):
        link = Link()
        self.check(link, ())
        self.assertIsNone(link.load(CLOSED_SHAPES))
        self.check(link, (CLOSED_SHAPES,))
        self.assertIsNone(link.load(module=as_lists(LINES)))
        self.check(link, (LINES, CLOSED_SHAPES))
        self.assertEqual(link.names(), ("lines", "shapes"))
        self.assertEqual(link.choose("shapes.meet", ("lines.Line", SHAPE)), ("lines", 1))
        self.assertEqual(link.choose(classes=["lines.Line", DOT], generic="shapes.meet"), ("lines", 2))
        expression = parse_expression("lines.length(new lines.Line(new lines.Line(new shapes.Dot())))")
        self.assertEqual(link.run(expression, 100), run(link.world(), expression, 100))
        self.assertEqual(link.run(fuel=100, expression=as_lists(expression)), (20, 12))
        self.assertEqual(link.code(name="lines"), code_of((LINES, CLOSED_SHAPES), "lines"))
        self.assertIsNone(link.unload(name="lines"))
        self.check(link, (CLOSED_SHAPES,))
        self.assertIsNone(link.unload("shapes"))
        self.check(link, ())
        self.assertEqual(link, Link())

    def test_what_is_no_module(self):
        link = linked(CLOSED_SHAPES)
        for value in ODD + (LINES[:4], LINES + ((),), [CLOSED_SHAPES], ("1",) + LINES[1:], LINES[:1] + (None,) + LINES[2:],
                            ("base", ("none", "none"), (), ()), parse_expression("1")):
            self.refused(link, (BadValue, 0), link.load, value)

    def test_names_that_are_taken(self):
        link = linked(CLOSED_SHAPES)
        for module in (CLOSED_SHAPES, SHAPES, ("shapes", (), (), (), ()), ("shapes", ("none", "none"), (), (), ()),
                       ("shapes", ("shapes",), (("A", "open", True, ("none.A",), ()),), (), ())):
            self.refused(link, (TakenName, "shapes"), link.load, module)
        for module in (("base", (), (), (), ()), ("base", ("none",), (), (), ()), ["base", [], [], [], []]):
            self.refused(link, (TakenName, "base"), link.load, module)

    def test_uses_that_are_missing(self):
        link = linked(CLOSED_SHAPES)
        broken = (("A", "open", True, ("none.A",), ()),)
        for uses, name in (
            (("none",), "none"), (("none", "nil"), "none"), (("nil", "none"), "nil"), (("shapes", "none"), "none"),
            (("none", "shapes", "none"), "none"), (("shapes", "shapes", "none"), "none"), (("base",), "base"),
            (("shapes", "base"), "base"), (("lines",), "lines"), (("shapes", "lines", "shapes"), "lines"),
        ):
            for rest in (((), (), ()), (broken, (), ())):
                self.refused(link, (MissingUse, name), link.load, ("lines", uses) + rest)
        self.refused(Link(), (MissingUse, "shapes"), Link().load, LINES)

    def test_uses_that_are_told_twice(self):
        link = linked(CLOSED_SHAPES, APART)
        for uses in (("shapes", "shapes"), ("apart", "shapes", "apart"), ["shapes", "shapes", "shapes", "shapes"]):
            for classes in ((), (("A", "open", True, ("none.A",), ()),)):
                self.refused(link, (Unlawful, "uses", 0), link.load, ("lines", uses, classes, (), ()))

    def test_the_thirteenth_module(self):
        link = Link()
        names = "abcdefghijkl"
        for name in names:
            link.load((name, (), (), (), ()))
        self.assertEqual(len(link), 12)
        for more in (("m", (), (), (), ()), ("m", ("a",), (("A", "open", True, ("none.A",), ()),), (), ())):
            self.refused(link, (Unlawful, "uses", 0), link.load, more)
        self.refused(link, (TakenName, "a"), link.load, ("a", (), (), (), ()))
        self.refused(link, (MissingUse, "n"), link.load, ("m", ("n",), (), (), ()))
        link.unload("c")
        link.load(("m", ("a",), (), (), ()))
        self.assertEqual(link.names(), tuple("abdefghijklm"))

    def test_a_view_of_seven(self):
        link = Link()
        for at, name in enumerate("abcdef"):
            link.load((name, tuple("abcdef"[max(0, at - 1):at]), (), (), ()))
        for uses in (("f",), ("f", "a"), ("a", "b", "c", "f")):
            self.refused(link, (Unlawful, "uses", 0), link.load, ("g", uses, (), (), ()))
            # The bounds come before the rules.
            broken = (("A", "open", True, ("none.A",), ()),)
            self.refused(link, (Unlawful, "uses", 0), link.load, ("g", uses, broken, (), ()))
        link.load(("g", ("e",), (), (), ()))
        self.assertEqual(len(view(link.world(), "g")), 7)
        link.load(("h", ("a", "b"), (), (), ()))
        self.refused(link, (Unlawful, "uses", 0), link.load, ("i", ("g", "f"), (), (), ()))
        link.load(("i", ("h", "c"), (), (), ()))

    def test_each_rule(self):
        link = linked(CLOSED_SHAPES, APART)
        for text, rule, at in (
            ("open class A extends base.Any { } open class A extends base.Any { }", "class", 1),
            ("open class A extends base.Any { } sealed class B extends shapes.Dot { }", "parent", 1),
            ("open class A extends apart.Thing { }", "parent", 0),
            ("open class A extends base.Any { f: base.Int, f: base.Int }", "field", 0),
            ("open class A extends base.Any { f: m.B }", "field", 0),
            ("generic g(base.Any) by 1 gives m.A", "generic", 0),
            ("generic g(base.Any) by 1 gives base.Int generic g(base.Any) by 1 gives base.Int", "generic", 1),
            ("method shapes.meet(a: shapes.Dot, b: shapes.Dot) = 1", "method", 0),
            ("generic g(base.Any) by 1 gives base.Int method m.g(x: base.Any) = 1 method m.g(x: base.Int) = x + y", "body", 1),
            # A method that has its fault behind one that makes the module not closed.
            ("generic g(base.Any) by 1 gives base.Int method m.g(x: base.Int) = 1 method m.g(x: base.Int) = 2", "method", 1),
        ):
            module = parse("module m uses shapes { %s }" % text)
            self.refused(link, (Unlawful, rule, at), link.load, module)
            self.assertEqual(fault(link.world() + (module,), "m"), (rule, at))

    def test_not_closed(self):
        link = Link()
        self.refused(link, (NotClosed, "shapes"), link.load, SHAPES)
        link.load(CLOSED_SHAPES)
        self.refused(link, (NotClosed, "m"), link.load, parse("module m { generic g(base.Any) by 1 gives base.Int }"))
        bad = parse("""module lines uses shapes {
          sealed class Line extends shapes.Shape { }
          method shapes.meet(a: lines.Line, b: shapes.Shape) = 1
        }""")
        self.refused(link, (NotClosed, "lines"), link.load, bad)
        link.load(LINES)
        self.check(link, (LINES, CLOSED_SHAPES))

    def test_nothing_of_a_refused_module_stays(self):
        link = linked(CLOSED_SHAPES)
        bad = parse("""module lines uses shapes {
          sealed class Line extends shapes.Shape { }
          generic g(base.Any) by 1 gives base.Int
          method shapes.meet(a: lines.Line, b: shapes.Shape) = 1
        }""")
        self.refused(link, (NotClosed, "lines"), link.load, bad)
        self.assertEqual(told_error(link.choose, "lines.g", ("base.Int",)), (BadValue, 0))
        self.assertEqual(told_error(link.choose, "shapes.meet", ("lines.Line", DOT)), (BadValue, 1))
        self.assertEqual(told_error(link.run, ("new", "lines.Line", ()), 9), (BadValue, 0))
        self.assertEqual(told_error(link.code, "lines"), (NoModule, "lines"))


class Unloading(Links):

    def test_no_module(self):
        link = linked(CLOSED_SHAPES, LINES)
        for value in ODD + ("base", "none", ["lines"], ("lines",), "Lines", CLOSED_SHAPES):
            self.refused(link, (NoModule, value), link.unload, value)
        with self.assertRaises(NoModule) as caught:
            link.unload(value)
        self.assertIs(caught.exception.name, value)

    def test_in_use(self):
        link = linked(("b", (), (), (), ()), ("d", ("b",), (), (), ()), ("c", ("d", "b"), (), (), ()), ("a", ("c",), (), (), ()))
        self.refused(link, (InUse, "c"), link.unload, "b")
        self.refused(link, (InUse, "c"), link.unload, "d")
        self.refused(link, (InUse, "a"), link.unload, "c")
        link.unload("a")
        link.unload("c")
        # d alone uses b now.
        self.refused(link, (InUse, "d"), link.unload, "b")
        link.unload("d")
        link.unload("b")
        self.assertEqual(link, Link())

    def test_nothing_of_an_unloaded_module_stays(self):
        link = linked(CLOSED_SHAPES, LINES)
        link.unload("lines")
        self.assertEqual(told_error(link.choose, "lines.length", (DOT,)), (BadValue, 0))
        self.assertEqual(told_error(link.choose, "shapes.meet", ("lines.Line", DOT)), (BadValue, 1))
        self.assertEqual(told_error(link.run, parse_expression("lines.length(1)"), 9), (BadValue, 0))
        other = parse("module lines { sealed class Line extends base.Any { } }")
        link.load(other)
        self.check(link, (CLOSED_SHAPES, other))
        self.assertEqual(link.run(parse_expression("new lines.Line()"), 1)[0], ("object", "lines.Line", ()))


class Asking(Links):

    def bad(self, at, ask, *arguments):
        self.assertEqual(told_error(ask, *arguments), (BadValue, at))

    def test_choose(self):
        link = linked(CLOSED_SHAPES, LINES)
        for value in ODD + ("shapes.none", "shapes.Dot", ["shapes.meet"]):
            self.bad(0, link.choose, value, (DOT, DOT))
            self.bad(0, link.choose, value, None)
        for value in ODD + ((DOT,), (DOT,) * 3, (DOT, "base.Any"), ("base.Int", DOT), (DOT, None), ((DOT, DOT),), "ab"):
            self.bad(1, link.choose, "shapes.meet", value)

    def test_run(self):
        link = linked(CLOSED_SHAPES, LINES)
        for value in ODD + (("name", "x"), ("next",), ("new", "lines.Line", ())):
            if value != ("int", 1):
                self.bad(0, link.run, value, 5000)
                self.bad(0, link.run, value, None)
        for fuel in (-1, 5001, True, False, None, "1", (), [1], 10 ** 30):
            self.bad(1, link.run, ("int", 1), fuel)
        for fuel, expected in ((0, ("Spent", "steps")), (1, (1, 1)), (5000, (1, 1))):
            self.assertEqual(outcome_of(link.run, ("int", 1), fuel), expected)
        loop = parse("module m { generic g(base.Any) by 1 gives base.Any method m.g(x: base.Any) = m.g(x) }")
        link.load(loop)
        with self.assertRaises(Spent) as caught:
            link.run(parse_expression("m.g(1)"), 5000)
        self.assertEqual(caught.exception.word, "calls")

    def test_equality_and_membership(self):
        one, other = linked(CLOSED_SHAPES, APART), linked(APART, as_lists(CLOSED_SHAPES))
        self.assertIs(one == other, True)
        self.assertIs(one != other, False)
        other.unload("apart")
        self.assertIs(one == other, False)
        self.assertIs(one != other, True)
        shorter = linked(CLOSED_SHAPES[:4] + (CLOSED_SHAPES[4][:1],))
        self.assertEqual(len(shorter), len(other))
        self.assertNotEqual(shorter, other)
        self.assertEqual(Link(), Link())
        for value in ODD + (one.world(), [CLOSED_SHAPES], "shapes", {}):
            self.assertIs(one == value, False)
            self.assertIs(value == one, False)
            self.assertIs(one != value, True)
            self.assertIs(Link() == value, False)
        for value in ODD + ("base", "lines", CLOSED_SHAPES, ["shapes"], ("shapes",), [[]], one, {}):
            self.assertIs(value in one, False)
        self.assertIs("shapes" in one, True)
        self.assertIs("apart" in one and "apart" not in other, True)
        self.assertEqual((len(one), len(other), len(Link())), (2, 1, 0))

    def test_what_is_passed_changes_later(self):
        module = as_lists(CLOSED_SHAPES)
        link = linked(module)
        link.load(as_lists(LINES))
        before, code = link.world(), link.code("shapes")
        module[4].pop()
        module[2][0][1] = "sealed"
        module[3][0][1].append("base.Int")
        module[0] = "other"
        self.assertEqual(link.world(), before)
        self.assertEqual(link.code("shapes"), code)
        self.assertEqual(link.choose("shapes.meet", (DOT, DOT)), ("shapes", 3))
        self.check(link, (CLOSED_SHAPES, LINES))
        # What is passed stays as it is.
        module = as_lists(LINES)
        linked(CLOSED_SHAPES).load(module)
        self.assertEqual(module, as_lists(LINES))


class Copies(Links):

    def test_copies_change_apart(self):
        link = linked(CLOSED_SHAPES)
        copy = link.copy()
        self.assertIs(type(copy), Link)
        self.assertEqual(copy, link)
        copy.load(LINES)
        self.check(link, (CLOSED_SHAPES,))
        self.check(copy, (CLOSED_SHAPES, LINES))
        again = copy.copy()
        copy.unload("lines")
        self.check(again, (CLOSED_SHAPES, LINES))
        self.assertEqual(link, copy)
        link.load(APART)
        self.check(copy, (CLOSED_SHAPES,))
        self.assertEqual(told_error(again.unload, "shapes"), (InUse, "lines"))
        self.assertEqual(told_error(copy.choose, "shapes.meet", ("lines.Line", DOT)), (BadValue, 1))
        self.assertEqual(again.choose("shapes.meet", ("lines.Line", DOT)), ("lines", 2))
        copy.unload("shapes")
        self.check(copy, ())
        self.check(link, (CLOSED_SHAPES, APART))
        self.check(again, (CLOSED_SHAPES, LINES))


class Trials(Links):

    def expected(self, modules, module):
        """What a load of a module of lawful form and with uses once each raises; the link has these modules."""
        name, uses = module[:2]
        there = {one[0] for one in modules}
        if name in there or name == "base":
            return (TakenName, name)
        for used in uses:
            if used not in there:
                return (MissingUse, used)
        world = tuple(modules) + (module,)
        if len(world) > 12 or len(Told(world).view(name)) > 7:
            return (Unlawful, "uses", 0)
        found = Told(world).fault(name)
        if found:
            return (Unlawful,) + found
        return None if is_closed(world, name) else (NotClosed, name)

    def test_drawn_steps(self):
        source = Random(57)
        count = {}
        for _ in range(30):
            pool = []
            for _ in range(4):
                pool.extend(lawful_world(source, "mkjno", 3, 2, 4, source.choice((0, 0, 3)), 2))
            pool.extend([CLOSED_SHAPES, LINES, SHAPES, APART, ("base", (), (), (), ())])
            links = [Link()]
            modules = [[]]
            chosen = {}
            for _ in range(60):
                at = source.randrange(len(links))
                link, there = links[at], modules[at]
                step = source.random()
                if step < 0.6:
                    module = source.choice(pool)
                    self.assertTrue(told_module(module))
                    expected = self.expected(there, module)
                    found = told_error(link.load, source.choice((module, as_lists(module))))
                    self.assertEqual(found, expected)
                    if expected is None:
                        there.append(module)
                elif step < 0.9:
                    name = source.choice(["base"] + [module[0] for module in pool])
                    users = sorted(module[0] for module in there if name in module[1])
                    expected = (NoModule, name) if name not in [one[0] for one in there] else (
                        (InUse, users[0]) if users else None)
                    self.assertEqual(told_error(link.unload, name), expected)
                    if expected is None:
                        there[:] = [module for module in there if module[0] != name]
                elif len(links) < 4:
                    links.append(link.copy())
                    modules.append(list(there))
                key = expected[0].__name__ if step < 0.9 and expected else "done"
                count[key] = count.get(key, 0) + 1
                for one, row in zip(links, modules):
                    self.assertEqual(one.world(), tuple(sorted(row)))
                self.check(link, tuple(there))
                self.check_calls(source, link)
                # A call whose classes and generic stay chooses as before.
                told = Told(there)
                for generic in told.generics:
                    for classes in list(told.calls(generic))[:5]:
                        owners = {one.split(".")[0] for one in classes} | {generic.split(".")[0]}
                        views = set().union(*(told.view(owner) for owner in owners))
                        parts = tuple(sorted(module for module in there if module[0] in views))
                        key = (parts, generic, classes)
                        found = link.choose(generic, classes)
                        self.assertEqual(chosen.setdefault(key, found), found)
                        self.assertEqual(chain(link.world(), generic, classes)[0], found)
        for key in ("done", "TakenName", "MissingUse", "Unlawful", "NotClosed", "NoModule", "InUse"):
            self.assertGreater(count.get(key, 0), 3, count)
