"""Promises [47] and [48]: the types of parts of bodies, and of expressions by themselves."""

import unittest
from random import Random

from callwarrant.errors import BadValue, NoModule
from callwarrant.reading import parse, parse_expression
from callwarrant.types import type_at, type_of
from tests.helper import (
    ODD, Broken, Told, Whole, as_lists, body_spots, lawful_body, lawful_world, sum_of)
from tests.test_closing import ROW

KIT = parse("""module kit {
  open class Tool extends base.Any { size: base.Int, part: kit.Saw }
  open class Saw extends base.Any { size: base.Int }
  sealed class Axe extends kit.Tool { edge: base.Any }
  open abstract class None extends base.Any { }
  sealed class Pair extends kit.Tool, kit.Saw { }
  generic use(base.Any) by 1 gives base.Any
  generic make(kit.Tool, base.Int) by 1 gives kit.Tool
  method kit.use(x: base.Any) = let y = 1 in let y = new kit.Saw(y) in let z = y.(kit.Saw.size) in y
  method kit.use(x: kit.Axe) = if 1 then x else if 0 then next else kit.make(x, x.(kit.Tool.size))
  method kit.make(x: kit.Tool, n: base.Int) =
    let x = (let x = x.(kit.Tool.part) in x.(kit.Saw.size)) in kit.make(new kit.Axe(next, x, new kit.Saw(n)), x + n * 2 - 1)
}""")
YARD = parse("""module yard uses kit {
  sealed class Jig extends kit.Tool { kind: yard.Jig }
  generic own(yard.Jig) by 1 gives yard.Jig
  method yard.own(x: yard.Jig) = x.(yard.Jig.kind)
}""")
WORLD = (YARD, KIT)


class Types(unittest.TestCase):

    def bad(self, at, ask, *arguments):
        with self.assertRaises(BadValue) as caught:
            ask(*arguments)
        self.assertEqual(caught.exception.at, at, arguments)

    def told(self, text, expected, world=WORLD):
        """Checks the type of the expression that the text tells; None for what has none."""
        expression = parse_expression(text) if type(text) is str else text
        for one in (expression, as_lists(expression)):
            if expected is None:
                self.bad(1, type_of, world, one)
            else:
                self.assertEqual(type_of(world, one), expected)
                self.assertEqual(type_of(expression=one, world=as_lists(world)), expected)


class Parts(Types):

    def test_by_hand(self):
        tool, saw = "kit.Tool", "kit.Saw"
        for number, types in (
            (0, {(): saw, (0,): "base.Int", (1,): saw, (1, 0): saw, (1, 0, 0): "base.Int", (1, 1): saw,
                 (1, 1, 0): "base.Int", (1, 1, 0, 0): saw, (1, 1, 1): saw}),
            (1, {(): "base.Any", (0,): "base.Int", (1,): "kit.Axe", (2,): "base.Any", (2, 0): "base.Int",
                 (2, 1): "base.Any", (2, 2): tool, (2, 2, 0): "kit.Axe", (2, 2, 1): "base.Int", (2, 2, 1, 0): "kit.Axe"}),
            (2, {(): tool, (0,): "base.Int", (0, 0): saw, (0, 0, 0): tool, (0, 1): "base.Int", (0, 1, 0): saw,
                 (1,): tool, (1, 0): "kit.Axe", (1, 0, 0): tool, (1, 0, 1): "base.Int", (1, 0, 2): saw,
                 (1, 0, 2, 0): "base.Int", (1, 1): "base.Int", (1, 1, 0): "base.Int", (1, 1, 0, 1, 0): "base.Int"}),
        ):
            for path, expected in types.items():
                self.assertEqual(type_at(WORLD, "kit", number, path), expected, (number, path))
        self.assertEqual(type_at(WORLD, "yard", 0, ()), "yard.Jig")
        self.assertEqual(type_at(WORLD, "yard", 0, (0,)), "yard.Jig")
        self.assertEqual(type_at(path=[0], method=0, name="yard", world=as_lists(WORLD)), "yard.Jig")

    def test_views_of_any_size(self):
        world = ROW[:7] + (("h", ("g",), (), (("p", ("base.Any",), 1, "a.K"),), (
            ("h.p", (("x", "base.Any"),), ("new", "a.K", ())),)),)
        self.assertEqual(type_at(world, "h", 0, ()), "a.K")

    def test_errors(self):
        unlawful = parse("module m { open class A extends none.B { } }")
        for world in (None, (unlawful,), (KIT, KIT), KIT):
            self.bad(0, type_at, world, "none", None, None)
            self.bad(0, type_of, world, None)
        for name in ("base", "none", None, 0, True, (), ["kit"]):
            with self.assertRaises(NoModule) as caught:
                type_at(WORLD, name, None, None)
            self.assertIs(caught.exception.name, name)
        for number in (-1, 3, True, False, None, "0", (0,), [], 10 ** 30, -10 ** 30):
            self.bad(2, type_at, WORLD, "kit", number, ())
            self.bad(2, type_at, WORLD, "kit", number, None)
        self.bad(2, type_at, WORLD, "yard", 1, ())
        for path in tuple(one for one in ODD if one not in ((), [])) + (
            (2,), (-1,), (True,), (False,), (None,), ("0",), (0, 0), (1, 2), ((),), [[]], (1, 1, 1, 0), (0,) * 10000, 0, "0",
        ):
            self.bad(3, type_at, WORLD, "kit", 0, path)
        self.bad(3, type_at, WORLD, "kit", 1, (3,))
        self.bad(3, type_at, WORLD, "kit", 1, (2, 1, 0))

    def test_every_part_of_drawn_bodies(self):
        source = Random(47)
        parts = 0
        while parts < 4000:
            world = lawful_world(source, "mkj"[:source.randint(1, 3)], 4, 2, 5, source.choice((3, 4, 5)))
            told = Told(world)
            for module in world:
                for number in range(len(module[4])):
                    for path, _, expected in body_spots(told, module[0], number):
                        self.assertEqual(type_at(world, module[0], number, path), expected)
                        parts += 1


class Expressions(Types):

    def test_of_each_kind(self):
        for text, expected in (
            ("1", "base.Int"), ("x", None), ("next", None), ("1 + 2", "base.Int"), ("1 - 2 * 3", "base.Int"),
            ("new kit.Saw(1)", "kit.Saw"), ("new kit.Saw(1).(kit.Saw.size)", "base.Int"),
            ("1 + new kit.Saw(1)", None), ("new kit.Saw(1) * 1", None), ("kit.use(1)", "base.Any"),
            ("kit.use(new kit.Saw(1))", "base.Any"), ("kit.use(1) + 1", None), ("kit.use(1, 2)", None),
            ("kit.none(1)", None), ("none.use(1)", None), ("base.use(1)", None), ("kit.make(1, 2)", None),
            ("kit.use(x)", None), ("kit.use(next)", None), ("1 + next", None), ("let x = next in 1", None),
            ("if next then 1 else 1", None), ("new kit.Saw(next)", None),
        ):
            self.told(text, expected)
        self.told("new yard.Jig(1, new kit.Saw(1), 1)", None)
        self.told("new yard.Jig(1, new kit.Saw(1))", None)
        self.told("yard.own(new kit.Tool(1, new kit.Saw(1)))", None)

    def test_new(self):
        for text, expected in (
            ("new kit.Tool(1, new kit.Saw(2))", "kit.Tool"), ("new kit.Tool(1)", None), ("new kit.Tool()", None),
            ("new kit.Tool(1, new kit.Saw(2), 3)", None), ("new kit.Tool(new kit.Saw(2), 1)", None),
            ("new kit.Axe(1, 2, new kit.Saw(3))", "kit.Axe"), ("new kit.Axe(new kit.Saw(0), 2, new kit.Saw(3))", "kit.Axe"),
            ("new kit.None()", None), ("new base.Int()", None), ("new base.Int(1)", None), ("new base.Any()", None),
            ("new kit.Bolt()", None), ("new none.Saw(1)", None), ("new kit.Saw(kit.use(1))", None),
            # Fields of two parents: those of the lesser name first.
            ("new kit.Pair(1, 2, new kit.Saw(3))", "kit.Pair"), ("new kit.Pair(1, new kit.Saw(3), 2)", None),
        ):
            self.told(text, expected)

    def test_fields(self):
        pair = "new kit.Pair(1, 2, new kit.Saw(3))"
        for text, expected in (
            (pair + ".(kit.Tool.size)", "base.Int"), (pair + ".(kit.Saw.size)", "base.Int"),
            (pair + ".(kit.Tool.part)", "kit.Saw"), (pair + ".(kit.Pair.size)", None), (pair + ".(kit.Saw.part)", None),
            # A field is named with the class that declares it, not with one under it.
            ("new kit.Axe(1, 2, new kit.Saw(3)).(kit.Axe.size)", None),
            ("new kit.Axe(1, 2, new kit.Saw(3)).(kit.Axe.edge)", "base.Any"),
            ("new kit.Axe(1, 2, new kit.Saw(3)).(kit.Tool.part).(kit.Saw.size)", "base.Int"),
            ("new kit.Saw(1).(kit.Tool.size)", None), ("1.(kit.Saw.size)", None), ("new kit.Saw(1).(kit.None.size)", None),
            ("new kit.Saw(1).(none.Saw.size)", None), ("new kit.Saw(1).(kit.Saw.none)", None), ("x.(kit.Saw.size)", None),
        ):
            self.told(text, expected)

    def test_if(self):
        saw, axe, pair = "new kit.Saw(1)", "new kit.Axe(1, 2, new kit.Saw(3))", "new kit.Pair(1, 2, new kit.Saw(3))"
        tool = "new kit.Tool(1, new kit.Saw(3))"
        for test, one, other, expected in (
            ("1", "2", "3", "base.Int"), ("1", axe, tool, "kit.Tool"), ("1", tool, axe, "kit.Tool"),
            ("1", pair, saw, "kit.Saw"), ("1", saw, pair, "kit.Saw"), ("1", axe, pair, None), ("1", saw, tool, None),
            ("1", "1", "kit.use(1)", "base.Any"), ("1", "kit.use(1)", axe, "base.Any"), ("1", "1", saw, None),
            (saw, "1", "1", None), ("kit.use(1)", "1", "1", None), ("x", "1", "1", None), ("1", "x", "1", None),
            ("1", "1", "x", None), ("1", axe, axe, "kit.Axe"),
        ):
            self.told("if %s then %s else %s" % (test, one, other), expected)

    def test_lets(self):
        for text, expected in (
            ("let x = 1 in x", "base.Int"), ("let x = new kit.Saw(1) in x", "kit.Saw"), ("let x = x in x", None),
            ("let x = 1 in let x = new kit.Saw(x) in x", "kit.Saw"), ("let x = 1 in y", None),
            ("let x = 1 in (let x = new kit.Saw(2) in x).(kit.Saw.size) + x", "base.Int"),
            ("let x = new kit.Saw(2) in (let x = 1 in x) + x", None), ("let x = (let y = 1 in y) in y", None),
            ("let x = (let y = new kit.Saw(1) in y) in x", "kit.Saw"), ("(let x = 1 in x) + x", None),
            ("let x = y in 1", None), ("let x = 1 + new kit.Saw(1) in 1", None), ("let x = 1 in kit.use(x)", "base.Any"),
            ("let x = new kit.Saw(1) in if x.(kit.Saw.size) then x else x", "kit.Saw"),
        ):
            self.told(text, expected)

    def test_all_modules_are_known(self):
        apart = parse("module apart { sealed class A extends base.Any { } generic g(apart.A) by 1 gives apart.A }")
        world = (apart, KIT)
        for text, expected in (("apart.g(new apart.A())", "apart.A"), ("kit.use(new apart.A())", "base.Any")):
            self.told(text, expected, world)
            self.told(text, None)
        self.told("1", "base.Int", ())
        self.told("let x = 1 in x + 1", "base.Int", ())

    def test_what_is_no_expression(self):
        for value in ODD:
            if value not in (("int", 1),):
                self.bad(1, type_of, WORLD, value)
        self.told(("add", ("int", 1), ("int", True)), None)
        self.told(("new", "kit.Saw", (("int", 65536),)), None)
        self.told(sum_of(59, ("int", 1)), "base.Int")
        self.told(sum_of(61, ("int", 1)), None)
        self.told(("add", sum_of(59, ("int", 1)), ("int", 1)), None)
        deep = ("int", 1)
        for levels in range(2, 9):
            deep = ("let", "x", ("int", 1), deep)
            self.told(deep, "base.Int" if levels <= 7 else None)

    def test_drawn_expressions(self):
        source = Random(48)
        count = {None: 0, "right": 0}
        while min(count.values()) < 300:
            world = lawful_world(source, "mkj"[:source.randint(1, 3)], 4, 2, 3)
            told = Whole(world)
            for _ in range(30):
                due = source.choice(sorted(told.classes))
                made = lawful_body(source, told, "base", "none", {}, due, source.randint(1, 5))
                if made is None:
                    continue
                # A part of one expression in the place of a part of another one.
                other = lawful_body(source, told, "base", "none", {}, source.choice(sorted(told.classes)), 3)
                for one in (made, other and changed(source, made, other)):
                    if one is None or len(str(one)) > 1500:
                        continue
                    try:
                        expected = told.type_of(one)
                    except Broken:
                        expected = None
                    self.told(one, expected, world)
                    count["right" if expected else None] += 1


def changed(source, expression, other):
    """The expression with another one in the place of one of its parts."""
    at = [number for number, part in enumerate(expression) if type(part) is tuple]
    if not at or source.random() < 0.3:
        return other
    number = source.choice(at)
    part = expression[number]
    if part and type(part[0]) is tuple:
        one = source.randrange(len(part))
        new = part[:one] + (changed(source, part[one], other),) + part[one + 1:]
    elif part:
        new = changed(source, part, other)
    else:
        new = part
    return expression[:number] + (new,) + expression[number + 1:]
