"""Promises [9] and [41]: trees for closed modules, and walks through trees."""

import unittest
from random import Random

from callwarrant.calls import chain
from callwarrant.checking import tree_holds
from callwarrant.closing import answers, is_closed
from callwarrant.errors import BadValue, NoModule, NotClosed
from callwarrant.reading import parse
from callwarrant.trees import tree, walk
from callwarrant.worlds import is_lawful
from tests.helper import (
    ODD, Forest, Told, as_lists, is_plain, lawful_world, strange_world, view_of, walked)
from tests.test_checking import HAND, closed_modules
from tests.test_closing import CLOSED_SHAPES, ROW, SHAPES
from tests.test_greatest import paint_methods, paint_world

WORLD = (CLOSED_SHAPES,)
DOT, SHAPE = "shapes.Dot", "shapes.Shape"


class Trees(unittest.TestCase):

    def check_tree(self, world, name):
        """The tree of a closed module, held by tree_holds in the world and in its view."""
        text = tree(world, name)
        self.assertIs(type(text), str)
        for one in (world, view_of(world, name), as_lists(world)[::-1]):
            self.assertIs(tree_holds(one, name, text), True)
        self.assertEqual(tree(view_of(world, name), name), text)
        return text

    def check_walks(self, source, world, name, text, most=40):
        """Walks of calls of the world for which the module answers; returns how many."""
        told = Told(world)
        calls = [
            (generic, classes) for generic in told.generics for classes in told.calls(generic)
            if told.answers(generic, classes) == name]
        for generic, classes in source.sample(calls, min(most, len(calls))):
            found = walk(world, name, text, generic, classes)
            self.assertTrue(is_plain(found))
            self.assertEqual(found[0], told.chain(generic, classes))
            self.assertEqual(found[0], chain(world, generic, classes))
            self.assertEqual(found, walked(told, text, name, generic, classes))
        return len(calls)


class ByHand(Trees):

    def test_of_the_overview(self):
        self.check_tree(WORLD, "shapes")
        self.assertIs(tree_holds(WORLD, "shapes", tree(name="shapes", world=[CLOSED_SHAPES])), True)
        with self.assertRaises(NotClosed) as caught:
            tree((SHAPES,), "shapes")
        self.assertEqual(caught.exception.name, "shapes")
        for classes, found in (
            ((DOT, DOT), ((("shapes", 3),), 1)), ((DOT, SHAPE), ((("shapes", 1),), 1)),
            ((SHAPE, DOT), ((("shapes", 2),), 1)), ([SHAPE, SHAPE], ((("shapes", 0),), 1)),
        ):
            for world in (WORLD, as_lists(WORLD)):
                self.assertEqual(walk(world, "shapes", HAND, "shapes.meet", classes), found)
        self.assertEqual(
            walk(classes=(DOT, DOT), generic="shapes.meet", text=HAND, name="shapes", world=WORLD), ((("shapes", 3),), 1))

    def test_tests_doubled_and_in_another_order(self):
        k = parse("""module k {
          open class A extends base.Any { }
          open class B extends k.A { }
          sealed class C extends base.Any { }
          generic g(base.Any, base.Any) by 1 gives base.Int
          method k.g(a: base.Any, b: base.Any) = 1
          method k.g(a: k.A, b: base.Any) = next
          method k.g(a: k.A, b: k.B) = next
          method k.g(a: k.B, b: k.B) = next
          method k.g(a: k.B, b: base.Any) = next
        }""")
        strange = parse("""module s uses k {
          sealed class D extends k.B { }
          sealed class E extends base.Any { }
        }""")
        others = parse("module u { sealed class F extends base.Any { } }")
        head = "for k.g k.A\n%sfor k.g k.B\n%sfor k.g k.C\n%sfor k.g others\nuse k:0\n"
        plain = head % (
            "under 2 k.B\nuse k:2 k:1 k:0\nuse k:1 k:0\n", "under 2 k.B\nuse k:3 k:4 k:2 k:1 k:0\nuse k:4 k:1 k:0\n",
            "use k:0\n")
        self.assertFalse(is_closed((k,), "k"))
        with self.assertRaises(BadValue) as caught:
            walk((k,), "k", plain, "k.g", ("k.A", "k.A"))
        self.assertEqual(caught.exception.at, 2)
        # Without its last method the module is closed.
        k = k[:4] + (k[4][:4],)
        first = "under 2 k.B\nuse k:2 k:1 k:0\nuse k:1 k:0\n"
        rest = "under 2 k.B\nuse k:3 k:2 k:1 k:0\nuse k:1 k:0\n"
        for text, numbers in (
            (head % (first, rest, "use k:0\n"), (1, 1, 0)),
            (head % ("under 2 k.A\n" + first + "use k:1 k:0\n", rest, "use k:0\n"), (2, 1, 0)),
            (head % (first, "under 2 base.Any\nunder 2 base.Any\n" + rest + "never\nnever\n", "use k:0\n"), (1, 3, 0)),
            (head % (first, rest, "under 2 k.C\nuse k:0\nunder 1 k.C\nunder 2 base.Int\nuse k:0\nuse k:0\nnever\n"),
             (1, 1, 3)),
        ):
            for world in ((k,), (k, strange, others)):
                self.assertIs(tree_holds(world, "k", text), True)
                for owner, many, run in (("k.A", numbers[0], (2, 1, 0)), ("k.B", numbers[1], (3, 2, 1, 0))):
                    for other in ("k.B", "s.D")[:len(world)]:
                        found = walk(world, "k", text, "k.g", (owner, other))
                        self.assertEqual(found, (tuple(("k", number) for number in run), many))
                found = walk(world, "k", text, "k.g", ("k.C", "base.Int"))
                self.assertEqual(found, ((("k", 0),), numbers[2]))
                found = walk(world, "k", text, "k.g", ("base.Int", "k.B"))
                self.assertEqual(found, ((("k", 0),), 0))
        world = (k, strange, others)
        self.assertEqual(walk(world, "k", text, "k.g", ("u.F", "s.E")), ((("k", 0),), 0))
        self.assertEqual(answers(world, "k.g", ("s.D", "k.A")), "s")

    def test_modules_without_cases(self):
        for text in ("module m { }", "module m { sealed class A extends base.Any { } }"):
            self.assertEqual(tree((parse(text),), "m"), "")
            with self.assertRaises(BadValue) as caught:
                walk((parse(text),), "m", "", "m.g", ())
            self.assertEqual(caught.exception.at, 3)


    def test_trees_are_small(self):
        # Tests of the sealed class of each pair come before those of the open one, wherever it stands.
        words = "ABCDEF"
        one = "".join("%s class %s extends base.Any { }\n" % ("sealed open".split()[number % 2], word)
                      for number, word in enumerate(words))
        world = (parse("module a { %s }" % one), parse("module b { %s }" % one), parse("""module m uses a, b {
          sealed class O extends base.Any { }
          generic g(base.Any, m.O, base.Any) by 2 gives base.Int
          method m.g(x: base.Any, o: m.O, y: base.Any) = 0
          %s
        }""" % "".join("method m.g(x: %s, o: m.O, y: %s) = 1\n" % pair for pair in (
            ("a.A", "b.B"), ("a.C", "b.D"), ("a.E", "b.F"), ("a.B", "b.A"), ("a.D", "b.C"), ("a.F", "b.E")))))
        text = self.check_tree(world, "m")
        self.assertEqual(text.count("\n"), 28)
        self.check_walks(Random(1), world, "m", text)


class Errors(Trees):

    def bad(self, at, ask, *arguments):
        with self.assertRaises(BadValue) as caught:
            ask(*arguments)
        self.assertEqual(caught.exception.at, at)

    def test_worlds_and_modules(self):
        unlawful = parse("module m { open class A extends none.B { } }")
        for world in (None, (unlawful,), (CLOSED_SHAPES, CLOSED_SHAPES), CLOSED_SHAPES, (CLOSED_SHAPES, unlawful)):
            self.bad(0, tree, world, "none")
            self.bad(0, walk, world, "none", None, None, None)
        for name in ("base", "none", None, 0, True, (), ["shapes"]):
            for ask, more in ((tree, ()), (walk, (HAND, "shapes.meet", (DOT, DOT))), (walk, (None,) * 3)):
                with self.assertRaises(NoModule) as caught:
                    ask(WORLD, name, *more)
                self.assertIs(caught.exception.name, name)
        self.bad(1, tree, ROW, "g")
        self.bad(1, walk, ROW, "g", None, None, None)
        self.assertEqual(tree(ROW, "f"), "")
        # Views that are not looked at come before what is not closed.
        world = ROW[:7] + (("h", ("g",), (), (("p", ("base.Any",), 1, "base.Int"),), ()),)
        self.bad(1, tree, world, "h")
        with self.assertRaises(NotClosed):
            tree((("h", (), (), (("p", ("base.Any",), 1, "base.Int"),), ()),), "h")

    def test_walks(self):
        other = parse("module other uses shapes { sealed class Ring extends shapes.Shape { } }")
        apart = parse("module apart { generic own(base.Any) by 1 gives base.Int }")
        world = (CLOSED_SHAPES, other, apart)
        for text in ODD + (HAND[:-1], HAND + "\n", HAND[1:], [HAND]):
            self.bad(2, walk, world, "shapes", text, "shapes.none", None)
        for generic in ("shapes.none", "none.meet", "meet", "shapes.Dot", "", None, True, 0, (), ["shapes.meet"]):
            self.bad(3, walk, world, "shapes", HAND, generic, (DOT, DOT))
            self.bad(3, walk, world, "shapes", HAND, generic, None)
        for classes in ((DOT,), (DOT, DOT, DOT), (DOT, "base.Int"), ("base.Any", DOT), (DOT, None), "ab", None, 1, (),
                        (DOT, "none.Ring"), ("other.Ring", DOT), (DOT, [DOT]), ((DOT, DOT),), True):
            self.bad(4, walk, world, "shapes", HAND, "shapes.meet", classes)
        # A generic of the world that the module does not know.
        self.bad(4, walk, world, "shapes", HAND, "apart.own", (DOT,))
        text = tree(world, "other")
        self.bad(4, walk, world, "other", text, "shapes.meet", (DOT, "other.Ring"))
        self.bad(2, walk, world, "shapes", text, "shapes.meet", (DOT, "other.Ring"))
        self.assertEqual(walk(world, "other", text, "shapes.meet", ("other.Ring", DOT))[0], (("shapes", 2),))
        self.assertEqual(walk(world, "shapes", HAND, "shapes.meet", (DOT, "other.Ring")), ((("shapes", 1),), 1))


class Trials(Trees):

    def test_all_closed_modules(self):
        source = Random(9)
        count = {"closed": 0, "open": 0, "walks": 0}
        modules = closed_modules(source, 1500)
        while min(count["closed"] - 120, count["open"]) < 30:
            world, name = next(modules)
            if not is_closed(world, name):
                with self.assertRaises(NotClosed) as caught:
                    tree(world, name)
                self.assertEqual(caught.exception.name, name)
                count["open"] += 1
                continue
            text = self.check_tree(world, name)
            self.assertIsNone(Forest(world, name).misfit(text))
            count["closed"] += 1
            count["walks"] += self.check_walks(source, world, name, text, 4)
        self.assertGreater(count["walks"], 300)

    def test_every_call_in_greater_worlds(self):
        # The trees of drawn tests in worlds with a class for every set of open classes.
        source = Random(10)
        walks = greater = 0
        modules = closed_modules(source, 400)
        while greater < 40:
            world, name = next(modules)
            strange = strange_world(world, name)
            if not is_closed(world, name) or len(strange) > 12 or not is_lawful(strange):
                continue
            for text in (tree(world, name), Forest(world, name).drawn(source, 60)):
                if text:
                    for one in (view_of(world, name), world, strange):
                        walks += self.check_walks(source, one, name, text, 25)
                    greater += 1
        self.assertGreater(walks, 400)

    def test_great_views(self):
        source = Random(41)
        world = paint_world(paint_methods("OWN"))
        for name in "abcdef":
            text = self.check_tree(world, name)
            self.assertLess(text.count("\n"), 1000)
            self.check_walks(source, world, name, text, 12)
        self.assertGreater(tree(world, "f").count("use"), 20)

    def test_worlds_of_many_modules(self):
        source = Random(42)
        closed = 0
        while closed < 25:
            world = lawful_world(source, "mkjnol", 4, 2, 5)
            for name in "mkjnol":
                if is_closed(world, name):
                    text = self.check_tree(world, name)
                    if len(text) > 300:
                        closed += 1
                        self.check_walks(source, world, name, text, 5)
