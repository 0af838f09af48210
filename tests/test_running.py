"""Promises [12], [49] and [50]: values and runs."""

import unittest
from random import Random

from callwarrant.errors import BadValue, Spent, Stuck
from callwarrant.reading import parse, parse_expression
from callwarrant.running import class_of, run, shown
from callwarrant.types import type_of
from tests.helper import (
    ODD, Runner, Told, Whole, as_lists, has_type, is_plain, lawful_body, lawful_world, outcome_of,
    value_class, weight)

KIT = parse("""module kit {
  open class Tool extends base.Any { size: base.Int, part: base.Any }
  sealed class Saw extends kit.Tool { edge: kit.Tool }
  sealed class Pin extends base.Any { }
  generic use(base.Any, base.Any) by 1 gives base.Any
  generic down(base.Int) by 1 gives base.Int
  generic tower(base.Any, base.Int) by 1 gives base.Any
  method kit.use(a: base.Any, b: base.Any) = 7
  method kit.use(a: kit.Tool, b: base.Any) = next
  method kit.use(a: kit.Saw, b: kit.Pin) = new kit.Tool(3, next)
  method kit.use(a: base.Any, b: kit.Saw) = a
  method kit.down(n: base.Int) = if n then 1 + kit.down(n - 1) else 0
  method kit.tower(x: base.Any, n: base.Int) = if n then kit.tower(new kit.Tool(n, x), n - 1) else x
}""")
YARD = parse("""module yard uses kit {
  sealed class A extends base.Any { }
  sealed class B extends base.Any { }
  generic none(base.Any) by 1 gives base.Int
  generic loop(base.Any) by 1 gives base.Int
  method yard.none(x: yard.A) = next
  method yard.loop(x: base.Any) = yard.loop(x)
  method yard.loop(x: yard.A) = next
  method kit.use(a: yard.B, b: base.Any) = kit.use(b, a)
}""")
WORLD = (YARD, KIT)
PIN, TOOL = ("object", "kit.Pin", ()), ("object", "kit.Tool", (1, 2))


class Runs(unittest.TestCase):

    def bad(self, at, ask, *arguments):
        with self.assertRaises(BadValue) as caught:
            ask(*arguments)
        self.assertEqual(caught.exception.at, at, arguments)

    def ran(self, text, value, steps, world=WORLD):
        """Checks a run, with any fuel, of the expression that the text tells."""
        expression = parse_expression(text) if type(text) is str else text
        for one in (expression, as_lists(expression)):
            for place in (world, as_lists(world), world[::-1]):
                found = run(place, one, 5000)
                self.assertEqual(found, (value, steps))
                self.assertTrue(is_plain(found))
        self.assertEqual(run(fuel=steps, expression=expression, world=world), (value, steps))
        for fuel in {0, 1, steps - 1, steps // 2} - {steps}:
            self.stopped(expression, "steps", fuel, world)
        self.assertEqual(Runner(world, 5000).outcome(expression)[:2], (value, steps))
        self.assertEqual(value_class(value), class_of(value))

    def stopped(self, text, word, fuel=5000, world=WORLD, error=Spent):
        expression = parse_expression(text) if type(text) is str else text
        with self.assertRaises(error) as caught:
            run(world, expression, fuel)
        self.assertEqual(caught.exception.word, word)
        self.assertEqual(Runner(world, fuel).outcome(expression), (error.__name__, word))


class Kinds(Runs):

    def test_integers_and_signs(self):
        for text, value, steps in (
            ("0", 0, 1), ("65535", 65535, 1), ("1 + 2", 3, 3), ("65535 + 1", 0, 3), ("65535 + 65535", 65534, 3),
            ("0 - 1", 65535, 3), ("3 - 5", 65534, 3), ("5 - 3", 2, 3), ("256 * 256", 0, 3), ("65535 * 65535", 1, 3),
            ("300 * 300", 24464, 3), ("1 + 2 * 3 - 4", 3, 7), ("0 - 65535", 1, 3),
        ):
            self.ran(text, value, steps)
            self.ran(text, value, steps, ())

    def test_if_and_let(self):
        for text, value, steps in (
            ("if 1 then 2 else 3", 2, 3), ("if 0 then 2 else 3", 3, 3), ("if 65535 then 2 else 3", 2, 3),
            ("if 65535 + 1 then 2 else 3", 3, 5), ("if 0 then kit.down(9) else 1", 1, 3), ("let x = 1 in x", 1, 3),
            ("let x = 1 in x + x", 2, 5), ("let x = 1 in let x = x + 1 in x * x", 4, 9),
            ("let x = 1 in (let x = 2 in x) + x", 3, 7), ("let x = kit.down(0) in 5", 5, 7),
            ("let x = (let x = 3 in x) in x", 3, 5), ("let x = 1 in let y = 2 in x - y", 65535, 7),
        ):
            self.ran(text, value, steps)

    def test_objects(self):
        self.ran("new kit.Pin()", PIN, 1)
        self.ran("new kit.Tool(1, 2)", TOOL, 3)
        self.ran("new kit.Tool(1 + 2, new kit.Pin())", ("object", "kit.Tool", (3, PIN)), 5)
        # The fields of kit.Saw stand before those of kit.Tool.
        saw = "new kit.Saw(new kit.Tool(1, 2), 3, 4)"
        self.ran(saw, ("object", "kit.Saw", (TOOL, 3, 4)), 6)
        self.ran(saw + ".(kit.Saw.edge)", TOOL, 7)
        self.ran(saw + ".(kit.Tool.size)", 3, 7)
        self.ran(saw + ".(kit.Tool.part)", 4, 7)
        self.ran(saw + ".(kit.Saw.edge).(kit.Tool.part)", 2, 8)
        self.ran("let x = new kit.Pin() in new kit.Tool(1, x)", ("object", "kit.Tool", (1, PIN)), 5)

    def test_calls_and_next(self):
        for text, value, steps in (
            ("kit.use(1, 2)", 7, 4), ("kit.use(new kit.Tool(1, 2), 3)", 7, 7), ("kit.use(new kit.Pin(), 2)", 7, 4),
            ("kit.use(1, new kit.Saw(new kit.Tool(1, 2), 3, 4))", 1, 9), ("kit.use(new yard.B(), 1)", 7, 7),
            ("kit.down(0)", 0, 5), ("kit.down(1)", 1, 13), ("kit.down(3)", 3, 29), ("kit.down(kit.down(2))", 2, 41),
            ("kit.tower(9, 0)", 9, 6),
        ):
            self.ran(text, value, steps)
        saw = "new kit.Saw(new kit.Tool(1, 2), 3, 4)"
        self.ran("kit.use(%s, new kit.Pin())" % saw, ("object", "kit.Tool", (3, 7)), 13)
        self.ran("kit.tower(9, 2)", ("object", "kit.Tool", (1, ("object", "kit.Tool", (2, 9)))), 24)

    def test_classes_of_values_count(self):
        # A param's class is no matter: the class of the value chooses.
        world = (parse("""module m {
          open class A extends base.Any { }
          sealed class B extends m.A { }
          generic g(m.A) by 1 gives base.Int
          generic h(m.A) by 1 gives base.Int
          method m.g(x: m.A) = 1
          method m.g(x: m.B) = next + 10
          method m.h(x: m.A) = m.g(x) + m.g(new m.A())
        }"""),)
        self.ran("m.h(new m.B())", 12, 12, world)
        self.ran("m.h(new m.A())", 2, 9, world)

    def test_next_twice_and_in_arguments(self):
        world = (parse("""module m {
          open class A extends base.Any { }
          sealed class B extends m.A { }
          generic g(base.Any, base.Int) by 1 gives base.Int
          method m.g(x: base.Any, n: base.Int) = n
          method m.g(x: m.A, n: base.Int) = let n = 5 in next + next * n
          method m.g(x: m.B, n: base.Int) = m.g(new m.A(), next)
        }"""),)
        # next has the same arguments, whatever the names stand for.
        self.ran("m.g(new m.A(), 2)", 12, 12, world)
        self.ran("m.g(new m.B(), 1)", 36, 24, world)


class Bounds(Runs):

    def test_fuel(self):
        self.stopped("1", "steps", 0)
        self.ran("1", 1, 1)
        self.stopped("yard.loop(1)", "steps", 20)
        self.stopped("yard.loop(1)", "calls", 5000)
        self.stopped("1 + 1", "steps", 2)

    def test_the_steps_of_a_stop_in_the_middle(self):
        # Each evaluation takes its step before its parts are evaluated.
        for fuel in range(13):
            self.stopped("kit.use(new kit.Saw(new kit.Tool(1, 2), 3, 4), new kit.Pin()) ", "steps", fuel)

    def test_five_thousand_steps(self):
        world = (parse("""module m {
          generic g(base.Int) by 1 gives base.Int
          generic h(base.Int) by 1 gives base.Int
          method m.g(n: base.Int) = if n then m.g(n - 1) + m.g(n - 1) else 1
          method m.h(n: base.Int) = m.h(n) + 1
        }"""),)
        self.ran("m.g(8)", 256, 3575, world)
        self.stopped("m.g(9)", "steps", 5000, world)
        self.assertEqual(Runner(world, 10 ** 6).outcome(parse_expression("m.g(9)"))[:2], (512, 7159))
        self.ran("m.g(8) + 1 + 1", 258, 3579, world)

    def rows(self, many, start="1"):
        """The text of an object of so many levels around the start."""
        text = start
        for _ in range(many // 50):
            text = "m.row(25, %s)" % text
        rest = many - many // 50 * 50
        text = "m.row(%d, %s)" % (rest // 2, text)
        return "new m.Q(%s)" % text if many & 1 else text

    def test_size(self):
        world = (parse("""module m {
          sealed class Q extends base.Any { a: base.Any }
          sealed class P extends base.Any { a: base.Any, b: base.Any }
          sealed class N extends base.Any { }
          generic row(base.Int, base.Any) by 1 gives base.Any
          method m.row(n: base.Int, x: base.Any) = if n then m.row(n - 1, new m.Q(new m.Q(x))) else x
        }"""),)
        for text, size in (
            (self.rows(199), 200), (self.rows(200), None), (self.rows(199, "new m.N()"), 200),
            (self.rows(200, "new m.N()"), None), ("new m.Q(%s)" % self.rows(198), 200),
            ("new m.Q(%s)" % self.rows(199), None),
            # What occurs twice counts twice.
            ("let x = %s in new m.P(x, x)" % self.rows(98), 199), ("let x = %s in new m.P(x, x)" % self.rows(99), None),
            ("let x = %s in new m.Q(new m.P(x, x))" % self.rows(98), 200),
            ("let x = %s in new m.P(new m.Q(x), new m.Q(x))" % self.rows(98), None),
            ("let x = %s in new m.P(x, %s)" % (self.rows(98), self.rows(99)), 200),
            ("let x = %s in new m.P(x, %s)" % (self.rows(98), self.rows(100)), None),
            ("let x = %s in new m.Q(x).(m.Q.a)" % self.rows(199), None),
        ):
            expression = parse_expression(text)
            if size is None:
                self.stopped(expression, "size", 5000, world)
            else:
                value, steps = run(world, expression, 5000)
                self.assertEqual(weight(value), size)
                self.assertEqual(Runner(world, 5000).outcome(expression)[:2], (value, steps))
                self.assertEqual(shown(value).count("("), size - shown(value).count("1"))

    def test_thirty_bodies(self):
        # 30 bodies may be evaluated within one another, however they were entered.
        self.ran("kit.down(29)", 29, 237)
        self.stopped("kit.down(30)", "calls")
        self.ran("let x = kit.down(29) in kit.down(x)", 29, 475)
        self.ran("1 + kit.down(29)", 30, 239)
        classes = "".join(
            "open class %s extends %s { }\n" % (word, up) for word, up in zip("ABCDEF", ("base.Any", "m.A", "m.B", "m.C", "m.D", "m.E")))
        methods = "".join("method m.g(x: m.%s, n: base.Int) = next\n" % word for word in "ABCDEF")
        world = (parse("""module m {
          %s
          generic g(base.Any, base.Int) by 1 gives base.Int
          method m.g(x: base.Any, n: base.Int) = if n then m.g(new m.F(), n - 1) else 1
          %s
        }""" % (classes, methods)),)
        # Each round has seven bodies, of which six are entered by next.
        self.ran("m.g(new m.B(), 0)", 1, 8, world)
        self.ran("m.g(new m.B(), 3)", 1, 8 + 3 * 13, world)
        self.ran("m.g(new m.F(), 3)", 1, 12 + 3 * 13, world)
        self.ran("m.g(new m.A(), 4)", 1, 7 + 4 * 13, world)
        self.stopped("m.g(new m.B(), 4)", "calls", 5000, world)
        self.stopped("m.g(new m.F(), 4)", "calls", 5000, world)

    def test_what_comes_first(self):
        # Steps, then bodies, then methods: each where the other could come, too.
        world = (parse("""module m {
          sealed class A extends base.Any { }
          generic g(base.Int, base.Any) by 1 gives base.Int
          generic none(base.Any) by 1 gives base.Int
          method m.g(n: base.Int, x: base.Any) = if n then m.g(n - 1, x) else m.none(x)
        }"""),)
        self.stopped("m.g(28, 1)", "none", 5000, world, Stuck)
        self.stopped("m.g(29, 1)", "calls", 5000, world, Spent)
        for many, word, error in ((28, "none", Stuck), (29, "calls", Spent)):
            expression = parse_expression("m.g(%d, 1)" % many)
            runner = Runner(world, 5000)
            runner.outcome(expression)
            self.stopped(expression, word, runner.steps, world, error)
            self.stopped(expression, "steps", runner.steps - 1, world)
        # An object that is too great, and the step of its last part.
        expression = parse_expression("m.none(m.none(1 + 1))")
        self.stopped(expression, "none", 5, world, Stuck)
        self.stopped(expression, "steps", 4, world)

    def test_stuck(self):
        self.stopped("yard.none(1)", "none", 5000, WORLD, Stuck)
        self.stopped("yard.none(new yard.A())", "none", 5000, WORLD, Stuck)
        self.stopped("yard.none(new yard.A())", "none", 3, WORLD, Stuck)
        self.stopped("yard.none(new yard.A())", "steps", 2, WORLD)
        world = (parse("""module m {
          open class A extends base.Any { }
          open class B extends base.Any { }
          sealed class C extends m.A, m.B { }
          sealed class D extends m.C { }
          generic g(base.Any) by 1 gives base.Int
          method m.g(x: m.A) = 1
          method m.g(x: m.B) = 2
          method m.g(x: m.D) = next
        }"""),)
        self.ran("m.g(new m.A()) + m.g(new m.B())", 3, 7, world)
        self.stopped("m.g(new m.C())", "many", 5000, world, Stuck)
        self.stopped("m.g(new m.D())", "many", 5000, world, Stuck)
        self.stopped("m.g(3)", "none", 5000, world, Stuck)
        # Not evaluated, it does not stop a run.
        self.ran("if 1 then 1 else m.g(3)", 1, 3, world)

    def test_the_sequence_of_evaluation(self):
        # Of two that stop, the one that is evaluated first stops the run.
        none, many = "m.none(1)", "m.many(new m.C())"
        world = (parse("""module m {
          open class A extends base.Any { }
          open class B extends base.Any { }
          sealed class C extends m.A, m.B { }
          generic none(base.Any) by 1 gives base.Int
          generic many(base.Any) by 1 gives base.Int
          generic two(base.Any, base.Any) by 1 gives base.Int
          method m.many(x: m.A) = 1
          method m.many(x: m.B) = 2
        }"""), parse("""module n uses m {
          sealed class P extends base.Any { a: base.Int, b: base.Int, c: base.Int }
        }"""))
        for form in ("%s + %s", "%s - %s", "%s * %s", "m.two(%s, %s)", "new n.P(%s, %s, 1)", "new n.P(1, %s, %s)",
                     "if %s then %s else 1", "let x = %s in %s", "if 0 then 1 else m.two(%s, %s)",
                     "new n.P(%s, 1, 1).(n.P.a) + %s"):
            self.stopped(form % (none, many), "none", 5000, world, Stuck)
            self.stopped(form % (many, none), "many", 5000, world, Stuck)


class Values(Runs):

    def test_classes(self):
        for value, expected in (
            (0, "base.Int"), (65535, "base.Int"), (PIN, "kit.Pin"), (TOOL, "kit.Tool"), (["object", "kit.Pin", []], "kit.Pin"),
            (("object", "kit.Saw", (TOOL, 3, PIN)), "kit.Saw"),
        ):
            self.assertEqual(class_of(value), expected)
            self.assertEqual(class_of(value=value), expected)

    def test_shown(self):
        for value, expected in (
            (0, "0"), (65535, "65535"), (PIN, "kit.Pin()"), (TOOL, "kit.Tool(1, 2)"), (("object", "paint.Brush", (3,)), "paint.Brush(3)"),
            (("object", "kit.Saw", (TOOL, 3, PIN)), "kit.Saw(kit.Tool(1, 2), 3, kit.Pin())"),
            (["object", "kit.Saw", [as_lists(TOOL), 30, ["object", "kit.Tool", [as_lists(PIN), TOOL]]]],
             "kit.Saw(kit.Tool(1, 2), 30, kit.Tool(kit.Pin(), kit.Tool(1, 2)))"),
        ):
            self.assertEqual(shown(value), expected)
            self.assertEqual(shown(value=value), expected)

    def test_a_deep_value(self):
        value = 5
        for _ in range(199):
            value = ("object", "m.Q", (value,))
        self.assertEqual(shown(value), "m.Q(" * 199 + "5" + ")" * 199)


class Errors(Runs):

    def test_in_their_order(self):
        unlawful = parse("module m { open class A extends none.B { } }")
        one = ("int", 1)
        for world in (None, (unlawful,), (KIT, KIT), KIT, WORLD[:1], "kit"):
            self.bad(0, run, world, None, None)
            self.bad(0, run, world, one, 1)
        for value in ODD + (("name", "x"), ("next",), ("new", "kit.Pin", (one,)), ("call", "kit.none", (one,)), ("add", one, (
                "new", "kit.Pin", ()))):
            if value != ("int", 1):
                self.bad(1, run, WORLD, value, 5000)
                self.bad(1, run, WORLD, value, None)
        for fuel in (-1, 5001, True, False, None, "1", (), [1], 10 ** 30, -10 ** 30, ("int", 1)):
            self.bad(2, run, WORLD, one, fuel)
        self.stopped(one, "steps", 0)


class Trials(Runs):

    def test_drawn_runs(self):
        source = Random(49)
        count = {}
        while sum(count.values()) < 9000:
            world = lawful_world(source, "mkj"[:source.randint(1, 3)], 4, 2, 8, source.choice((2, 3, 4)), 2)
            told = Whole(world)
            for _ in range(100):
                due = source.choice(sorted(told.classes))
                made = lawful_body(source, told, "base", "none", {}, due, source.randint(2, 6))
                if not has_type(told, made):
                    continue
                for fuel in (5000, source.randrange(30), source.randrange(300)):
                    runner = Runner(world, fuel)
                    expected = runner.outcome(made)
                    found = outcome_of(run, world, made, fuel)
                    self.assertEqual(found, expected[:2])
                    key = found if type(found[0]) is str else "value"
                    count[key] = count.get(key, 0) + 1
                    if key == "value":
                        self.assertTrue(told.under(class_of(found[0]), type_of(world, made)))
                        self.assertTrue(is_plain(found))
                        self.assertEqual(outcome_of(run, world, made, found[1]), found)
                        self.assertEqual(outcome_of(run, world, made, found[1] - 1), ("Spent", "steps"))
                    elif key[0] == "Stuck":
                        # Just at a call that is not good.
                        self.assertTrue(any(
                            type(Told(world).chain(generic, classes)) is str
                            for generic in told.generics for classes in told.calls(generic)))
        for key in ("value", ("Spent", "steps"), ("Spent", "calls"), ("Stuck", "none"), ("Stuck", "many")):
            self.assertGreater(count.get(key, 0), 5, count)
