"""Promises [9], [39] and [40]: trees that hold, and the first line that is wrong."""

import unittest
from random import Random

from callwarrant.checking import tree_holds
from callwarrant.closing import is_closed
from callwarrant.errors import BadTree, BadValue, NoModule
from callwarrant.reading import parse
from callwarrant.trees import tree
from tests.helper import ODD, Forest, Told, as_lists, lawful_world, strange_world
from tests.test_closing import CLOSED_SHAPES, ROW, SHAPES

HAND = """for shapes.meet shapes.Dot
under 2 shapes.Dot
use shapes:3
use shapes:1
for shapes.meet shapes.Shape
under 2 shapes.Dot
use shapes:2
use shapes:0
for shapes.meet others
never
"""


def few_calls(world, name, most):
    """Whether the world of all sets of open classes has few calls."""
    told = Told(strange_world(world, name))
    many = 0
    for _, takes, _, _ in told.generics.values():
        product = 1
        for take in takes:
            product *= len(told.concrete(take))
        many += product
    return many <= most


def closed_modules(source, most):
    """Pairs of drawn worlds and the names of modules, closed or not, with few calls."""
    while True:
        names = "mkj"[:source.randint(1, 3)]
        world = lawful_world(source, names, source.randint(1, 4), source.randint(1, 2), source.randint(1, 6))
        for name in names:
            if few_calls(world, name, most):
                yield world, name


class Checking(unittest.TestCase):

    def wrong(self, at, world, name, text):
        with self.assertRaises(BadTree) as caught:
            tree_holds(world, name, text)
        self.assertEqual(caught.exception.at, at, text)
        self.assertIs(type(caught.exception.at), int)

    def judged(self, world, name, text):
        try:
            self.assertIs(tree_holds(world, name, text), True)
        except BadTree as error:
            return error.at
        return None


class ByHand(Checking):

    WORLD = (CLOSED_SHAPES,)

    def lines(self, *rows, name="shapes", world=None):
        return (world or self.WORLD), name, "".join(row + "\n" for row in rows)

    def test_a_right_tree(self):
        for world in (self.WORLD, as_lists(self.WORLD), list(self.WORLD)):
            self.assertIs(tree_holds(world, "shapes", HAND), True)
        self.assertIs(tree_holds(text=HAND, name="shapes", world=self.WORLD), True)

    def test_every_line_left_out_doubled_exchanged(self):
        forest = Forest(self.WORLD, "shapes")
        self.assertIsNone(forest.misfit(HAND))
        lines = HAND.split("\n")[:-1]
        for at in range(len(lines)):
            rows = [lines[:at] + lines[at + 1:], lines[:at + 1] + lines[at:], lines[:at]]
            rows += [lines[:at] + [one] + lines[at + 1:] for one in lines + ["", " ", "x", "use", "under"]]
            for other in range(at):
                changed = list(lines)
                changed[at], changed[other] = lines[other], lines[at]
                rows.append(changed)
            for row in rows:
                text = "".join(line + "\n" for line in row)
                expected = forest.misfit(text)
                self.assertEqual(self.judged(self.WORLD, "shapes", text), expected, text)
                if row != lines:
                    self.assertIsNotNone(expected)

    def test_every_character_left_out_doubled_changed(self):
        forest = Forest(self.WORLD, "shapes")
        for at in range(len(HAND)):
            for more in ("", HAND[at] * 2, "0", " ", "\n", "1", "A", "s", ":", HAND[at] + " ", "0" + HAND[at]):
                text = HAND[:at] + more + HAND[at + 1:]
                if text != HAND:
                    expected = HAND[:at].count("\n")
                    found = self.judged(self.WORLD, "shapes", text)
                    self.assertEqual(found, forest.misfit(text), text)
                    self.assertGreaterEqual(found, expected)

    def test_the_end(self):
        many = HAND.count("\n")
        self.wrong(many, self.WORLD, "shapes", HAND + "\n")
        self.wrong(many, self.WORLD, "shapes", HAND + "never\n")
        self.wrong(many, self.WORLD, "shapes", HAND + HAND)
        self.wrong(many, self.WORLD, "shapes", HAND + "x")
        self.wrong(many, self.WORLD, "shapes", HAND + " ")
        self.wrong(many - 1, self.WORLD, "shapes", HAND[:-1])
        self.wrong(many - 1, self.WORLD, "shapes", HAND[:-1] + " \n")
        self.wrong(0, self.WORLD, "shapes", "")
        self.wrong(0, self.WORLD, "shapes", "\n")
        self.wrong(0, self.WORLD, "shapes", "for shapes.meet shapes.Dot")
        self.wrong(1, self.WORLD, "shapes", "for shapes.meet shapes.Dot\n")
        self.wrong(1, self.WORLD, "shapes", "for shapes.meet shapes.Dot\nunder 2 shapes.Dot")
        self.wrong(2, self.WORLD, "shapes", "for shapes.meet shapes.Dot\nunder 2 shapes.Dot\n")
        self.wrong(2, self.WORLD, "shapes", "for shapes.meet shapes.Dot\nunder 2 shapes.Dot\nuse shapes:3")

    def test_modules_without_cases(self):
        for text in ("module m { }", "module m { sealed class A extends base.Any { } }"):
            world = (parse(text),)
            self.assertIs(tree_holds(world, "m", ""), True)
            self.wrong(0, world, "m", "\n")
            self.wrong(0, world, "m", "x")
            self.wrong(0, world, "m", "never\n")
            self.wrong(0, world, "m", None)

    def test_other_values(self):
        for value in ODD:
            self.wrong(0, self.WORLD, "shapes", value)
        for value in ([HAND], (HAND,), HAND.split("\n"), 10 ** 30, [[]]):
            self.wrong(0, self.WORLD, "shapes", value)

    def test_never_and_use_where_none_is(self):
        lines = HAND.split("\n")[:-1]
        for at in (2, 3, 6, 7):
            rows = lines[:at] + ["never"] + lines[at + 1:]
            self.wrong(at, *self.lines(*rows))
        self.wrong(9, *self.lines(*lines[:9], "use shapes:0"))
        # A test that no call passes.
        world, name, text = self.lines(*lines[:1], "under 1 base.Int", "never", *lines[1:])
        self.assertIs(tree_holds(world, name, text), True)
        self.wrong(2, *self.lines(*lines[:1], "under 1 base.Int", "use shapes:1", *lines[1:]))
        self.wrong(2, *self.lines(*lines[:1], "under 1 base.Any", "never", *lines[1:]))
        # Behind a test that all calls pass.
        rows = lines[:1] + ["under 1 base.Any"] + lines[1:4] + ["never"] + lines[4:]
        self.assertIs(tree_holds(*self.lines(*rows)), True)
        rows[5] = "use shapes:1"
        self.wrong(5, *self.lines(*rows))
        # Tests where no call is left.
        rows = lines[:9] + ["under 1 shapes.Dot", "never", "under 2 base.Int", "never", "never"]
        self.assertIs(tree_holds(*self.lines(*rows)), True)

    def test_tests_that_tell_nothing(self):
        lines = HAND.split("\n")[:-1]
        for test in ("under 1 shapes.Dot", "under 1 shapes.Shape", "under 2 base.Any", "under 2 shapes.Shape"):
            rows = lines[:1] + [test] + lines[1:4] + ["never"] + lines[4:]
            self.assertIs(tree_holds(*self.lines(*rows)), True)
        rows = lines[:2] + ["under 2 shapes.Dot"] + lines[2:3] + ["never"] + lines[3:]
        self.assertIs(tree_holds(*self.lines(*rows)), True)
        rows = lines[:3] + ["under 2 shapes.Dot", "never"] + lines[3:]
        self.assertIs(tree_holds(*self.lines(*rows)), True)

    def test_forms_of_tests_and_references(self):
        lines = HAND.split("\n")[:-1]
        for row in ("under 0 shapes.Dot", "under 3 shapes.Dot", "under 02 shapes.Dot", "under 2  shapes.Dot",
                    "under 2 shapes.Dot ", " under 2 shapes.Dot", "under 2 shapes.None", "under 2 none.Dot",
                    "under 2 Dot", "under two shapes.Dot", "under 2", "under", "under 2 shapes.Dot 1",
                    "under +2 shapes.Dot", "under -1 shapes.Dot", "Under 2 shapes.Dot", "under 2 shapes.dot",
                    "under 2\tshapes.Dot", "under 2 shapes.meet", "under 22 shapes.Dot", "under  2 shapes.Dot"):
            self.wrong(1, *self.lines(lines[0], row, *lines[2:]))
        for row in ("use shapes:03", "use shapes:4", "use shapes: 3", "use shapes :3", "use shapes.3",
                    "use  shapes:3", "use shapes:3 ", "use", "use ", "use shapes:3 shapes:3", "use none:3",
                    "use shapes:3 shapes:1", "use shapes:-1", "use :3", "use 3", "use shapes", "shapes:3",
                    "use shapes:", "use shapes:0", "use shapes:1", "Use shapes:3", "use shapes:+3",
                    "use Shapes:3", "use shapes:3,shapes:1", "use shapes:0 shapes:3", "used shapes:3"):
            self.wrong(2, *self.lines(*lines[:2], row, *lines[3:]))
        for row in ("for shapes.meet shapes.Dot ", "for  shapes.meet shapes.Dot", "for shapes.meet",
                    "for shapes.meet Dot", "for shapes.meet shapes.Shape", "for shapes.meet others", "for",
                    "For shapes.meet shapes.Dot", "for shapes.meet shapes.Dot shapes.Shape", "never"):
            self.wrong(0, *self.lines(row, *lines[1:]))
        for row in ("never ", " never", "Never", "never never", "nevermind", "", "for shapes.meet others"):
            self.wrong(9, *self.lines(*lines[:9], row))

    def test_no_tree_for_a_module_that_is_not_closed(self):
        lines = HAND.split("\n")[:-1]
        for row in ("never", "use shapes:0", "use shapes:1", "use shapes:2", "use shapes:1 shapes:2",
                    "use shapes:0 shapes:1 shapes:2", "use shapes:3"):
            self.wrong(2, *self.lines(*lines[:2], row, *lines[3:], world=(SHAPES,)))
        # The other lines are right up to there.
        self.wrong(2, (SHAPES,), "shapes", HAND)

    def test_chains(self):
        world = (parse("""module m {
          open class A extends base.Any { }
          open class B extends m.A { }
          sealed class O extends m.B { }
          generic g(m.A, base.Any) by 1 gives base.Int
          method m.g(a: m.B, b: base.Any) = next
          method m.g(a: m.A, b: base.Any) = 1
          method m.g(a: m.O, b: base.Any) = next
        }"""),)
        right = ("for m.g m.A", "use m:1", "for m.g m.B", "use m:0 m:1", "for m.g m.O", "use m:2 m:0 m:1",
                 "for m.g others", "never")
        self.assertIs(tree_holds(*self.lines(*right, name="m", world=world)), True)
        for at, row in ((3, "use m:0"), (3, "use m:1 m:0"), (3, "use m:1"), (3, "use m:0 m:1 m:1"), (5, "use m:2"),
                        (5, "use m:2 m:0"), (5, "use m:2 m:1 m:0"), (5, "use m:2 m:1"), (5, "use m:0 m:1"),
                        (5, "use m:2 m:0 m:1 m:3"), (5, "use m:2 m:2 m:0 m:1")):
            rows = right[:at] + (row,) + right[at + 1:]
            self.wrong(at, *self.lines(*rows, name="m", world=world))

    def test_two_hundred_tests(self):
        lines = HAND.split("\n")[:-1]
        for many in (199, 200, 201):
            tests = ["under 1 base.Any"] * (many - 1)
            rows = lines[:1] + tests + lines[1:4] + ["never"] * (many - 1) + lines[4:]
            if many <= 200:
                self.assertIs(tree_holds(*self.lines(*rows)), True)
            else:
                self.wrong(201, *self.lines(*rows))
            # On the other side of the tests.
            tests = ["under 1 base.Int", "never"] * (many - 1)
            rows = lines[:1] + tests + lines[1:]
            if many <= 200:
                self.assertIs(tree_holds(*self.lines(*rows)), True)
            else:
                self.wrong(401, *self.lines(*rows))

    def test_tests_on_both_sides(self):
        # 200 tests on each of many ways.
        lines = HAND.split("\n")[:-1]
        side = ["under 1 base.Int", "never"] * 199
        rows = lines[:2] + side + lines[2:3] + side + lines[3:]
        self.assertIs(tree_holds(*self.lines(*rows)), True)

    def test_classes_and_methods_of_the_view_alone(self):
        other = parse("module other uses shapes { sealed class Ring extends shapes.Shape { } }")
        apart = parse("module apart { open class Thing extends base.Any { } }")
        world = (CLOSED_SHAPES, other, apart)
        self.assertIs(tree_holds(world, "shapes", HAND), True)
        lines = HAND.split("\n")[:-1]
        for one in ("other.Ring", "apart.Thing"):
            rows = lines[:1] + ["under 1 " + one, "never"] + lines[1:]
            self.wrong(1, *self.lines(*rows, world=world))
        text = tree(world, "other")
        self.assertTrue(text.startswith("for shapes.meet other.Ring\n"))
        self.assertNotIn("others", text)
        self.assertIs(tree_holds(world, "other", text), True)
        self.wrong(0, world, "other", HAND)

    def test_the_sequence_of_generics_and_cases(self):
        world = (parse("""module b {
          sealed class B extends base.Any { }
          sealed abstract class C extends base.Any { }
          sealed class A extends base.Any { }
          generic q(base.Any) by 1 gives base.Int
          generic p(base.Any, b.A) by 2 gives base.Int
          method b.q(x: base.Any) = 1
          method b.p(x: base.Any, y: b.A) = 1
        }"""), parse("""module a uses b {
          sealed class D extends base.Any { }
          generic z(base.Any) by 1 gives base.Int
          method a.z(x: base.Any) = 1
        }"""))
        rows = ["for b.p b.A", "use b:1", "for b.p others", "never", "for b.q b.A", "use b:0", "for b.q b.B", "use b:0",
                "for b.q others", "use b:0"]
        self.assertIs(tree_holds(*self.lines(*rows, name="b", world=world)), True)
        rows = ["for a.z a.D", "use a:0", "for a.z others", "use a:0", "for b.q a.D", "use b:0"]
        self.assertIs(tree_holds(*self.lines(*rows, name="a", world=world)), True)
        self.assertEqual(tree(world, "a"), "\n".join(rows) + "\n")

    def test_strange_classes_count(self):
        # A class of a module that nobody here knows may extend two open classes.
        world = (parse("""module k {
          open class A extends base.Any { }
          open class B extends base.Any { }
        }"""), parse("""module m uses k {
          sealed class O extends base.Any { }
          generic g(m.O, base.Any) by 1 gives base.Int
          method m.g(o: m.O, a: base.Any) = 1
          method m.g(o: m.O, a: k.A) = 1
        }"""))
        rows = ["for m.g m.O", "under 2 k.B", "use m:0", "under 2 k.A", "use m:1", "use m:0", "for m.g others", "never"]
        self.wrong(2, *self.lines(*rows, name="m", world=world))
        rows = ["for m.g m.O", "under 2 k.B", "under 2 k.A", "use m:1", "use m:0", "under 2 k.A", "use m:1", "use m:0",
                "for m.g others", "never"]
        self.assertIs(tree_holds(*self.lines(*rows, name="m", world=world)), True)

    def test_owner_classes_of_modules_that_do_not_know_the_generic(self):
        world = (parse("""module k {
          open class A extends base.Any { }
          sealed class S extends k.A { }
        }"""), parse("""module m uses k {
          open class B extends k.A { }
          open class C extends base.Any { }
          generic g(k.A) by 1 gives base.Int
          method m.g(a: k.A) = 1
          method m.g(a: m.B) = 1
          method m.g(a: k.S) = 1
        }"""))
        rows = ["for m.g m.B", "use m:1", "for m.g others", "under 1 k.S", "use m:2", "under 1 m.B", "never", "under 1 m.C",
                "never", "use m:0"]
        self.assertIs(tree_holds(*self.lines(*rows, name="m", world=world)), True)
        rows[6] = "use m:1"
        self.wrong(6, *self.lines(*rows, name="m", world=world))


class Errors(Checking):

    def test_in_their_order(self):
        unlawful = parse("module m { open class A extends none.B { } }")
        for world in (None, (unlawful,), (CLOSED_SHAPES, CLOSED_SHAPES), CLOSED_SHAPES):
            with self.assertRaises(BadValue) as caught:
                tree_holds(world, "none", None)
            self.assertEqual(caught.exception.at, 0)
        for name in ("base", "none", None, 0, True, (), ["shapes"]):
            with self.assertRaises(NoModule) as caught:
                tree_holds((CLOSED_SHAPES,), name, None)
            self.assertIs(caught.exception.name, name)
        for text in ("", None, HAND):
            with self.assertRaises(BadValue) as caught:
                tree_holds(ROW, "g", text)
            self.assertEqual(caught.exception.at, 1)
        self.assertIs(tree_holds(ROW, "f", ""), True)


class Trials(Checking):

    def test_drawn_trees(self):
        # Right trees of drawn tests, and their changes.
        source = Random(40)
        count = {"right": 0, "wrong": 0, "again right": 0}
        modules = closed_modules(source, 700)
        while count["right"] < 60:
            world, name = next(modules)
            forest = Forest(world, name)
            text = forest.drawn(source, 60) if is_closed(world, name) else None
            if not text:
                continue
            self.assertIs(tree_holds(world, name, text), True)
            count["right"] += 1
            lines = text.split("\n")[:-1]
            words = sorted({word for line in lines for word in line.split(" ")} | set(forest.view.classes))
            for _ in range(12):
                at = source.randrange(len(lines))
                row = lines[at].split(" ")
                row[source.randrange(len(row))] = source.choice(words)
                changed = source.choice((
                    lines[:at] + [" ".join(row)] + lines[at + 1:], lines[:at] + lines[at + 1:],
                    lines[:at] + [source.choice(lines)] + lines[at + 1:], lines[:at + 1] + lines[at:]))
                told = "".join(line + "\n" for line in changed)
                expected = forest.misfit(told)
                self.assertEqual(self.judged(world, name, told), expected, told)
                count["again right" if expected is None else "wrong"] += 1
        self.assertTrue(count["wrong"] > 300 and count["again right"] > 20, count)

    def test_modules_that_are_not_closed(self):
        # As many lines as the trial of all calls accepts, and no more.
        source = Random(41)
        tried = 0
        modules = closed_modules(source, 400)
        while tried < 60:
            world, name = next(modules)
            if is_closed(world, name):
                continue
            tried += 1
            forest = Forest(world, name)
            lines = []
            while True:
                at = self.judged(world, name, "".join(lines))
                self.assertEqual(at, forest.misfit("".join(lines)))
                self.assertIsNotNone(at)
                if at < len(lines) or len(lines) > 40:
                    break
                heads = [head + "\n" for head in forest.cases if head + "\n" not in lines]
                leaves = ["never\n"] + [
                    forest.leaf([call]) or "use m:0\n" for calls in forest.cases.values() for call in calls[:3]]
                tests = ["under 1 %s\n" % one for one in sorted(forest.view.classes)]
                for line in heads[:1] + leaves + source.sample(tests, 2):
                    if self.judged(world, name, "".join(lines) + line) != at:
                        lines.append(line)
                        break
                else:
                    break
        self.assertGreater(tried, 50)
