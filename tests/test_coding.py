"""Promises [3], [11] and [51] to [53]: code for a module alone, and runs of such codes."""

import unittest
from random import Random

from callwarrant.coding import code_of, run_codes, straight_count
from callwarrant.errors import BadValue, NoModule, Spent, Stuck
from callwarrant.reading import parse, parse_expression
from callwarrant.running import run
from callwarrant.straights import sites, straight
from tests.helper import (
    ODD, Runner, Whole, as_lists, has_type, is_plain, lawful_body, lawful_world, outcome_of,
    parts_at, view_of)
from tests.test_closing import ROW
from tests.test_running import KIT as RUN_KIT
from tests.test_running import YARD as RUN_YARD

KIT = parse("""module kit {
  open class Tool extends base.Any { }
  sealed class Saw extends kit.Tool { }
  generic use(kit.Tool) by 1 gives base.Int
  generic sum(base.Int, base.Any) by 1 gives base.Int
  method kit.use(t: kit.Tool) = 1
  method kit.use(t: kit.Saw) = kit.sum(next, t) + kit.sum(kit.use(t), new kit.Tool())
  method kit.sum(a: base.Int, b: base.Any) = if a then kit.sum(a - 1, kit.sum(0, b)) + 1 else 0
}""")
YARD = parse("""module yard uses kit {
  sealed class Axe extends kit.Tool { }
  method kit.use(t: yard.Axe) = kit.sum(kit.use(t) * 0, kit.use(new kit.Saw())) + kit.use(new kit.Tool())
}""")
WORLD = (YARD, KIT)
SUM = ("kit", 2)


def codes_of(world):
    return tuple((module[0], code_of(world, module[0])) for module in world)


class Codes(unittest.TestCase):

    def bad(self, at, ask, *arguments):
        with self.assertRaises(BadValue) as caught:
            ask(*arguments)
        self.assertEqual(caught.exception.at, at, arguments)

    def check_code(self, world, name):
        """A code: the bodies, but for the straight sites; the same in the view alone."""
        code = code_of(world, name)
        self.assertTrue(is_plain(code))
        self.assertEqual(code, code_of(view_of(world, name), name))
        self.assertEqual(code, code_of(as_lists(world)[::-1], name))
        (module,) = [one for one in world if one[0] == name]
        straights = {
            (number, path): straight(world, name, number, path) for number, path, _, _ in sites(world, name)}
        self.assertEqual(code, tuple(
            self.coded(number, (), method[2], straights) for number, method in enumerate(module[4])))
        self.assertEqual(straight_count(code), sum(1 for one in straights.values() if one))
        self.assertEqual(straight_count(as_lists(code)), straight_count(code))
        return code

    def coded(self, number, path, expression, straights):
        word = expression[0]
        parts = tuple(
            self.coded(number, path + (at,), part, straights) for at, part in enumerate(parts_at(expression)))
        if word == "call" and straights[number, path]:
            return ("straight", straights[number, path], parts)
        if word in ("new", "call"):
            return tuple(expression[:2]) + (parts,)
        if word == "field":
            return ("field", parts[0]) + tuple(expression[2:])
        if word == "let":
            return tuple(expression[:2]) + parts
        return (word,) + (parts or tuple(expression[1:]))

    def ran(self, text, value, steps, choices, world=WORLD):
        expression = parse_expression(text) if type(text) is str else text
        codes = codes_of(world)
        for one in (codes, codes[::-1], as_lists(codes), [list(pair) for pair in codes]):
            found = run_codes(world, one, expression, 5000)
            self.assertEqual(found, (value, steps, choices))
            self.assertTrue(is_plain(found))
        self.assertEqual(run(world, expression, 5000), (value, steps))
        self.assertEqual(Runner(world, 5000, codes).outcome(expression), (value, steps, choices))


class ByHand(Codes):

    def test_codes(self):
        name = ("name", "t")
        self.assertEqual(self.check_code(WORLD, "kit"), (
            ("int", 1),
            ("add", ("straight", SUM, (("next",), name)), (
                "straight", SUM, (("straight", ("kit", 1), (name,)), ("new", "kit.Tool", ())))),
            ("if", ("name", "a"), ("add", ("straight", SUM, (
                ("sub", ("name", "a"), ("int", 1)), ("straight", SUM, (("int", 0), ("name", "b"))))), ("int", 1)), ("int", 0)),
        ))
        self.assertEqual(self.check_code(WORLD, "yard"), (
            ("add", ("straight", SUM, (
                ("mul", ("straight", ("yard", 0), (name,)), ("int", 0)), ("straight", ("kit", 1), (("new", "kit.Saw", ()),)))),
             ("call", "kit.use", (("new", "kit.Tool", ()),))),
        ))
        self.assertEqual(code_of(name="kit", world=[KIT]), code_of(WORLD, "kit"))
        self.assertEqual([straight_count(code) for _, code in codes_of(WORLD)], [3, 5])
        self.assertEqual(straight_count(()), 0)
        self.assertEqual(straight_count(code=code_of(WORLD, "kit")), 5)
        self.assertEqual(code_of((parse("module m { }"),), "m"), ())

    def test_runs_and_their_choices(self):
        self.ran("1 + 2", 3, 3, 0)
        self.ran("kit.use(new kit.Tool())", 1, 3, 1)
        self.ran("kit.use(new kit.Tool()) + kit.use(new kit.Tool())", 2, 7, 2)
        self.ran("kit.sum(0, 5)", 0, 6, 1)
        # The calls in kit.sum are straight: no method is chosen but the first one's.
        self.ran("kit.sum(2, 5)", 2, 34, 1)
        self.ran("kit.sum(2, 5)", 2, 34, 1, (KIT,))
        self.ran("5", 5, 1, 0, ())

    def test_a_class_of_the_world(self):
        # A method that another module added is chosen as in run, also where codes do not know of it.
        axe = parse("""module axe uses kit {
          sealed class Axe extends kit.Tool { }
          method kit.use(t: axe.Axe) = next + 5
        }""")
        pit = parse("""module pit uses kit {
          generic two(kit.Tool) by 1 gives base.Int
          method pit.two(t: kit.Tool) = kit.use(t) + kit.sum(0, t)
        }""")
        world = (axe, KIT, pit)
        self.ran("pit.two(new axe.Axe())", 6, 15, 2, world)
        self.ran("pit.two(new kit.Tool())", 1, 12, 2, world)
        self.assertEqual(code_of(world, "pit"), code_of((pit, KIT), "pit"))

    def test_codes_made_in_other_worlds(self):
        codes = [("kit", code_of([KIT], "kit")), ["yard", as_lists(code_of(WORLD, "yard"))]]
        other = parse("module other uses kit { sealed class Ax extends kit.Tool { } }")
        self.assertEqual(code_of(WORLD + (other,), "kit"), codes[0][1])
        expression = parse_expression("kit.use(new yard.Axe())")
        world = WORLD + (other,)
        for fuel in (0, 1, 2, 9, 50, 300, 5000):
            found = outcome_of(run_codes, world, codes + [("other", ())], expression, fuel)
            self.assertEqual(found[:2], outcome_of(run, world, expression, fuel))
            found = outcome_of(run_codes, WORLD, tuple(codes), expression, fuel)
            self.assertEqual(found[:2], outcome_of(run, WORLD, expression, fuel))

    def test_next_behind_a_straight(self):
        # The next method is that of the call's arguments, whose classes the code's maker may not know.
        one = parse("""module one {
          open class A extends base.Any { }
          sealed class B extends base.Any { }
          generic g(one.B, base.Any) by 1 gives base.Int
          generic h(one.A) by 1 gives base.Int
          method one.g(x: one.B, y: base.Any) = 1
          method one.g(x: one.B, y: one.A) = next + 10
          method one.h(x: one.A) = one.g(new one.B(), x)
        }""")
        two = parse("module two uses one { sealed class C extends one.A { } }")
        world = (one, two)
        self.assertEqual(straight_count(self.check_code(world, "one")), 1)
        self.ran("one.h(new two.C())", 11, 9, 1, world)
        self.ran("one.g(new one.B(), 1)", 1, 4, 1, world)

    def test_spent_and_stuck(self):
        world = (RUN_YARD, RUN_KIT)
        codes = codes_of(world)
        self.assertGreater(sum(straight_count(code) for _, code in codes), 0)
        for text, error, word in (
            ("kit.down(30)", Spent, "calls"), ("yard.loop(1)", Spent, "calls"), ("yard.none(1)", Stuck, "none"),
            ("yard.none(new yard.A())", Stuck, "none"),
        ):
            expression = parse_expression(text)
            for ask, more in ((run_codes, (codes,)), (run, ())):
                with self.assertRaises(error) as caught:
                    ask(world, *more, expression, 5000)
                self.assertEqual(caught.exception.word, word)
        with self.assertRaises(Spent) as caught:
            run_codes(expression=("int", 1), fuel=0, codes=codes, world=world)
        self.assertEqual(caught.exception.word, "steps")
        self.assertEqual(run_codes(world, codes, parse_expression("kit.down(29)"), 237), (29, 237, 1))


class Errors(Codes):

    def test_codes(self):
        unlawful = parse("module m { open class A extends none.B { } }")
        for world in (None, (unlawful,), (KIT, KIT), KIT, WORLD[:1]):
            self.bad(0, code_of, world, "none")
            self.bad(0, run_codes, world, None, None, None)
        for name in ("base", "none", None, 0, True, (), ["kit"]):
            with self.assertRaises(NoModule) as caught:
                code_of(WORLD, name)
            self.assertIs(caught.exception.name, name)
        self.bad(1, code_of, ROW, "g")
        self.assertEqual(code_of(ROW, "f"), ())

    def test_runs(self):
        kit, yard = code_of(WORLD, "kit"), code_of(WORLD, "yard")
        right = (("kit", kit), ("yard", yard))
        one = ("int", 1)
        for codes in ODD + (
            right[:1], right[1:], right + right[:1], right[:1] * 2, (("kit", kit), ("yard", kit)), right + (("base", ()),),
            (("kit", kit[:2]), ("yard", yard)), (("kit", kit + kit[:1]), ("yard", yard)), (("yard", kit), ("kit", yard)),
            (("kit", kit), ("none", yard)), (("kit", kit), (None, yard)), (("kit", kit), (["yard"], yard)),
            (("kit", kit), ("yard",)), (("kit", kit), ("yard", yard, ())), (("kit", kit), "yard"), (("kit", kit), None),
            (("kit", kit), ("yard", "x")), (("kit", kit), ("yard", None)), (("kit", "abc"), ("yard", yard)), (kit, yard),
            ("kit", kit), [right], (("kit", kit), ("yard", ())), (right,), (("kit", kit), (True, yard)), (("kit", kit), 1),
        ):
            self.bad(1, run_codes, WORLD, codes, one, 1)
            self.bad(1, run_codes, WORLD, codes, None, None)
        for value in ODD + (("name", "x"), ("next",), ("straight", ("kit", 0), (("int", 1),)), ("new", "kit.Tool", (one,))):
            if value != one:
                self.bad(2, run_codes, WORLD, right, value, 5000)
                self.bad(2, run_codes, WORLD, right, value, None)
        for fuel in (-1, 5001, True, False, None, "1", (), [1], 10 ** 30, -10 ** 30):
            self.bad(3, run_codes, WORLD, right, one, fuel)
        self.bad(1, run_codes, (), None, one, 1)
        self.assertEqual(run_codes((), [], one, 1), (1, 1, 0))


class Trials(Codes):

    def test_drawn_worlds(self):
        source = Random(52)
        count = {}
        straights = 0
        while sum(count.values()) < 2500 or straights < 300:
            world = lawful_world(source, "mkj"[:source.randint(1, 3)], 4, 2, 8, source.choice((2, 3, 4)), 2)
            codes = [(module[0], self.check_code(world, module[0])) for module in world]
            straights += sum(straight_count(code) for _, code in codes)
            source.shuffle(codes)
            told = Whole(world)
            for _ in range(40):
                made = lawful_body(
                    source, told, "base", "none", {}, source.choice(sorted(told.classes)), source.randint(2, 6))
                if not has_type(told, made):
                    continue
                for fuel in (5000, source.randrange(60)):
                    found = outcome_of(run_codes, world, codes, made, fuel)
                    self.assertEqual(found, Runner(world, fuel, codes).outcome(made))
                    self.assertEqual(found[:2], outcome_of(run, world, made, fuel))
                    key = found if type(found[0]) is str else min(found[2], 3)
                    count[key] = count.get(key, 0) + 1
        for key in (0, 1, 2, 3, ("Spent", "steps"), ("Stuck", "none")):
            self.assertGreater(count.get(key, 0), 5, count)
