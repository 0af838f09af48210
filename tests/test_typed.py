"""Promises [12], [28] and [47]: the types of bodies, as well-typed methods show them."""

import unittest
from random import Random

from callwarrant.reading import parse, parse_expression
from callwarrant.worlds import fault, is_lawful
from tests.helper import Broken, Told, as_lists, changes, lawful_body, sum_of
from tests.helper import told_expression, told_measure

DEEP = parse("""module deep {
  open class Ground extends base.Any { height: base.Int }
  open abstract class Shade extends base.Any { tone: deep.Ground, dark: base.Int }
  sealed class Rock extends deep.Ground { }
}""")
FAR = parse("""module far {
  open class Off extends base.Any { }
  generic go(base.Any) by 1 gives base.Int
}""")
# The classes of m and what they extend: A < Ground; B < A and Shade; C < Ground; E < Any.
MAIN_TEXT = """module m uses deep {
  open class A extends deep.Ground { left: base.Int, right: m.A }
  sealed class B extends m.A, deep.Shade { left: m.B }
  sealed class C extends deep.Ground { }
  sealed abstract class D extends m.C { }
  sealed class E extends base.Any { }
  generic t(m.A, base.Int, base.Any) by 1 gives %s
  generic two(m.A, base.Int) by 1 gives m.B
  generic one(deep.Shade) by 1 gives base.Any
  method m.t(a: m.A, b: base.Int, c: m.B) = 0
}"""


def world_with(gives, body):
    main = parse(MAIN_TEXT % gives)
    method = main[4][0][:2] + (body,)
    return (main[:4] + ((method,),), DEEP, FAR)


WORLD = world_with("base.Any", ("int", 0))
TOLD = Told(WORLD)
KNOWN = [name for name in sorted(TOLD.classes) if not name.startswith("far.")]


class Types(unittest.TestCase):

    def check(self, body, expected):
        """The body is well typed just where the generic gives a class above the expected one."""
        if isinstance(body, str):
            body = parse_expression(body)
        for gives in KNOWN:
            world = world_with(gives, body)
            fits = expected is not None and TOLD.under(expected, gives)
            told = None if fits else ("body", 0)
            self.assertEqual(fault(world, "m"), told, (body, gives))
            self.assertEqual(fault(as_lists(world), "m"), told, (body, gives))
            self.assertIs(is_lawful(world), fits)

    def test_integers(self):
        self.check("0", "base.Int")
        self.check("65535", "base.Int")

    def test_names(self):
        self.check("a", "m.A")
        self.check("b", "base.Int")
        self.check("c", "m.B")
        for name in ("d", "m", "t", "abcdefghijkl"):
            self.check(name, None)

    def test_next(self):
        # The type of next is what the generic gives.
        for gives in KNOWN:
            for text, fitting in (
                ("next", KNOWN), ("next + 1", ["base.Int"]), ("(1 - next) * next", ["base.Int"]),
                ("let d = next.(m.A.left) in c", ["m.A", "m.B"]),
                ("let d = 1 in if d then next else c", [one for one in KNOWN if TOLD.under("m.B", one)]),
            ):
                told = None if gives in fitting else ("body", 0)
                self.assertEqual(fault(world_with(gives, parse_expression(text)), "m"), told, (gives, text))

    def test_new(self):
        self.check("new deep.Ground(1)", "deep.Ground")
        self.check("new deep.Rock(b)", "deep.Rock")
        self.check("new m.E()", "m.E")
        self.check("new m.C(1)", "m.C")
        for body in (
            "new deep.Ground()", "new deep.Ground(1, 2)", "new deep.Ground(a)", "new m.E(1)",
            "new deep.Shade(a, 1)", "new m.D(1)", "new base.Int()", "new base.Int(1)",
            "new base.Any()", "new far.Off()", "new m.None()", "new none.E()", "new base.None()",
        ):
            self.check(body, None)

    def test_new_takes_the_fields_of_all_classes_above_in_their_order(self):
        # deep.Ground.height, m.A.left, m.A.right
        self.check("new m.A(1, 2, a)", "m.A")
        self.check("new m.A(1, 2, c)", "m.A")
        for body in ("new m.A(a, 1, 2)", "new m.A(1, a, 2)", "new m.A(1, 2)", "new m.A(1, 2, a, 3)",
                     "new m.A(2, a)", "new m.A(1, 2, new m.C(1))", "new m.A(1, 2, new deep.Ground(1))"):
            self.check(body, None)
        # deep.Ground.height, deep.Shade.tone, deep.Shade.dark, m.A.left, m.A.right, m.B.left
        self.check("new m.B(1, a, 2, 3, a, c)", "m.B")
        self.check("new m.B(1, new m.C(1), 2, 3, c, c)", "m.B")
        for body in ("new m.B(1, a, 2, 3, a, a)", "new m.B(1, 2, a, 3, a, c)",
                     "new m.B(1, a, 2, a, 3, c)", "new m.B(c, 1, a, 2, 3, a)", "new m.B(1, a, 2, 3, a)"):
            self.check(body, None)

    def test_fields(self):
        self.check("a.(m.A.left)", "base.Int")
        self.check("a.(m.A.right)", "m.A")
        self.check("c.(m.A.left)", "base.Int")
        self.check("c.(m.B.left)", "m.B")
        self.check("c.(deep.Shade.tone)", "deep.Ground")
        self.check("c.(m.B.left).(m.B.left).(m.A.right).(deep.Ground.height)", "base.Int")
        for body in (
            "a.(m.B.left)", "b.(m.A.left)", "a.(m.A.height)", "a.(m.A.none)", "c.(m.B.right)",
            "a.(far.Off.left)", "a.(none.A.left)", "a.(m.None.left)", "a.(deep.Rock.height)",
            "a.(deep.Shade.dark)", "a.(base.Any.left)", "b.(base.Int.left)", "d.(m.A.left)",
        ):
            self.check(body, None)

    def test_calls(self):
        self.check("m.two(a, b)", "m.B")
        self.check("m.two(c, 1)", "m.B")
        self.check("m.one(c)", "base.Any")
        self.check("m.two(m.two(a, 1).(m.A.right), a.(m.A.left))", "m.B")
        for body in (
            "m.two(a)", "m.two(a, b, c)", "m.two(b, a)", "m.two(a, a)", "m.one(a)", "m.one(d)",
            "far.go(a)", "none.two(a, b)", "m.none(a)", "m.two(new deep.Ground(1), 1)", "m.one(m.one(c))",
        ):
            self.check(body, None)

    def test_signs(self):
        for sign in "+-*":
            self.check("1 %s b" % sign, "base.Int")
            self.check("a.(m.A.left) %s (1 %s 2)" % (sign, sign), "base.Int")
            for body in ("a %s 1", "1 %s a", "a %s a", "d %s 1", "1 %s d", "m.one(c) %s 1", "1 %s m.one(c)"):
                self.check(body % sign, None)

    def test_ifs(self):
        self.check("if b then 1 else 2", "base.Int")
        self.check("if b then a else a", "m.A")
        self.check("if b then a else c", "m.A")
        self.check("if b then c else a", "m.A")
        self.check("if b then m.one(c) else 1", "base.Any")
        self.check("if b then 1 else m.one(c)", "base.Any")
        self.check("if b then c.(deep.Shade.tone) else new m.C(1)", "deep.Ground")
        for body in (
            "if a then 1 else 2", "if m.one(c) then 1 else 2", "if b then a else new m.C(1)",
            "if b then 1 else a", "if b then a else 1", "if d then 1 else 2", "if b then d else 2",
            "if b then 1 else d", "if b then d else d", "if b then c else new m.E()",
        ):
            self.check(body, None)

    def test_lets(self):
        self.check("let d = 1 in d", "base.Int")
        self.check("let d = a in 1", "base.Int")
        self.check("let a = 1 in a", "base.Int")
        self.check("let a = a.(m.A.left) in a + 1", "base.Int")
        self.check("(let a = 1 in a) + a.(m.A.left)", "base.Int")
        self.check("let d = a in let d = d.(m.A.left) in d + 1", "base.Int")
        self.check("let d = let d = a in d.(m.A.left) in d + 1", "base.Int")
        self.check("let d = 1 in let e = a in if d then e else a", "m.A")
        self.check("let d = c in (let d = 1 in d + 1) + d.(m.A.left)", "base.Int")
        for body in (
            "let d = d in 1", "let d = 1 in e", "let d = e in 1", "(let d = 1 in d) + d",
            "let a = 1 in a.(m.A.left)", "let d = 1 in let d = a in d + 1", "let d = a + 1 in 1",
            "let d = new m.A(d, 1, a) in 1", "m.two(let d = a in d, d)",
        ):
            self.check(body, None)

    def test_what_has_no_type_spoils_all_around_it(self):
        for body in (
            "new m.C(%s)", "a.(m.A.right).(m.A.left) + %s", "m.two(a, %s)", "m.one(c).(m.A.left) + %s",
            "if %s then 1 else 2", "if 1 then %s else 2", "if 1 then 2 else %s", "let d = %s in 1",
            "let d = 1 in %s", "1 + %s", "%s - 1", "2 * (%s)", "new deep.Ground(m.two(a, %s).(m.A.left))",
        ):
            for part in ("none", "(a + 1)", "new m.D(1)", "c.(m.C.none)"):
                self.check(body % part, None)

    def test_some_bodies(self):
        source = Random(47)
        names = {"a": "m.A", "b": "base.Int", "c": "m.B"}
        count = {True: 0, False: 0}
        for _ in range(400):
            due = source.choice(KNOWN)
            body = lawful_body(source, TOLD, "m", "base.Int", names, due, source.randint(1, 6))
            if body is None or not told_expression(body):
                continue
            changed = list(changes(body, ("m.A", "m.B", "deep.Ground", "a", "b", "left", ("int", 1), "m.two")))
            for one in [body] + source.sample(changed, min(20, len(changed))):
                if told_expression(one):
                    for gives in ("base.Int", due):
                        self.check_told(world_with(gives, one), count)
        self.assertTrue(min(count.values()) > 300, count)

    def check_told(self, world, count):
        try:
            Told(world).rule_body("m", (), *world[0][4][0])
            expected = None
        except Broken:
            expected = ("body", 0)
        count[expected is None] += 1
        self.assertEqual(fault(world, "m"), expected, world[0][4])

    def test_the_greatest_bodies(self):
        # 60 expressions and 7 levels, of which the last one decides.
        for leaf, expected in ((("int", 1), "m.A"), (("name", "a"), None), (("name", "w"), None)):
            parts = (sum_of(31, ("int", 1)), sum_of(25, leaf), ("name", "w"))
            body = ("let", "w", ("name", "a"), ("new", "m.A", parts))
            self.assertEqual(told_measure(body), (60, 7))
            self.check(body, expected)
