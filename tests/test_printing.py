"""Promises [24] and [25]: the texts of modules and expressions."""

import unittest
from random import Random

from callwarrant.errors import BadValue
from callwarrant.forms import is_expression, is_module
from callwarrant.printing import printed, printed_expression
from tests.helper import FORMS, FULL, ODD, ONE, PAINT, PAINT_TEXT, as_lists, changes, some_module
from tests.helper import told_tokens

# Of each form, a sample and its text.
SAMPLES = (
    (("int", 7), "7"),
    (("name", "x"), "x"),
    (("next",), "next"),
    (("new", "m.C", ()), "new m.C()"),
    (("new", "m.C", (ONE,)), "new m.C(1)"),
    (("field", ("name", "x"), "m.C", "f"), "x.(m.C.f)"),
    (("call", "m.g", (ONE, ("next",))), "m.g(1, next)"),
    (("add", ("int", 2), ("name", "y")), "2 + y"),
    (("sub", ("int", 2), ("name", "y")), "2 - y"),
    (("mul", ("int", 2), ("name", "y")), "2 * y"),
    (("if", ONE, ("int", 2), ("int", 3)), "if 1 then 2 else 3"),
    (("let", "z", ONE, ("name", "z")), "let z = 1 in z"),
)

CHOICES = ("if", "let")
# Each place of a part: the expression around it, its text, and what stands there in parentheses.
PLACES = (
    (lambda e: ("add", e, ONE), "{} + 1", CHOICES),
    (lambda e: ("add", ONE, e), "1 + {}", CHOICES + ("add", "sub")),
    (lambda e: ("sub", e, ONE), "{} - 1", CHOICES),
    (lambda e: ("sub", ONE, e), "1 - {}", CHOICES + ("add", "sub")),
    (lambda e: ("mul", e, ONE), "{} * 1", CHOICES + ("add", "sub")),
    (lambda e: ("mul", ONE, e), "1 * {}", CHOICES + ("add", "sub", "mul")),
    (lambda e: ("field", e, "m.C", "f"), "{}.(m.C.f)", CHOICES + ("add", "sub", "mul")),
    (lambda e: ("if", e, ONE, ONE), "if {} then 1 else 1", ()),
    (lambda e: ("if", ONE, e, ONE), "if 1 then {} else 1", ()),
    (lambda e: ("if", ONE, ONE, e), "if 1 then 1 else {}", ()),
    (lambda e: ("let", "x", e, ONE), "let x = {} in 1", ()),
    (lambda e: ("let", "x", ONE, e), "let x = 1 in {}", ()),
    (lambda e: ("new", "m.C", (e,)), "new m.C({})", ()),
    (lambda e: ("new", "m.C", (ONE, e, ONE)), "new m.C(1, {}, 1)", ()),
    (lambda e: ("call", "m.g", (e,)), "m.g({})", ()),
    (lambda e: ("call", "m.g", (ONE, ONE, e)), "m.g(1, 1, {})", ()),
)


def module_with(classes=(), generics=(), methods=()):
    return ("m", (), classes, generics, methods)


class Modules(unittest.TestCase):

    def prints(self, module, *lines):
        text = "".join(line + "\n" for line in lines)
        self.assertEqual(printed(module), text)
        self.assertEqual(printed(as_lists(module)), text)

    def test_example(self):
        self.assertEqual(printed(PAINT), PAINT_TEXT)
        self.assertEqual(printed(module=as_lists(PAINT)), PAINT_TEXT)

    def test_uses(self):
        self.prints(("m", (), (), (), ()), "module m {", "}")
        self.prints(("base", ("a",), (), (), ()), "module base uses a {", "}")
        self.prints(("m", ("a", "b", "c", "a"), (), (), ()), "module m uses a, b, c, a {", "}")

    def test_classes(self):
        for kind in ("open", "sealed"):
            for abstract, told in ((False, ""), (True, "abstract ")):
                head = "  " + kind + " " + told + "class C extends "
                for parents in (("a.B",), ("a.B", "a.D"), ("a.B",) * 12):
                    for fields, body in (
                        ((), "{ }"), ((("f", "a.B"),), "{ f: a.B }"),
                        ((("f", "a.B"), ("g", "base.Int"), ("f", "m.C")),
                         "{ f: a.B, g: base.Int, f: m.C }"),
                    ):
                        one = ("C", kind, abstract, parents, fields)
                        line = head + ", ".join(parents) + " " + body
                        self.prints(module_with((one,)), "module m {", line, "}")

    def test_generics(self):
        self.prints(
            module_with((), (("g", ("a.B",), 1, "base.Int"), ("h", ("a.B", "a.C", "a.D"), 3, "m.E"))),
            "module m {", "  generic g(a.B) by 1 gives base.Int",
            "  generic h(a.B, a.C, a.D) by 3 gives m.E", "}")

    def test_methods(self):
        self.prints(
            module_with((), (), (
                ("m.g", (("x", "a.B"),), FULL),
                ("a.h", (("x", "a.B"), ("x", "a.C"), ("y", "m.D")), ("if", ONE, ONE, ONE)),
            )),
            "module m {",
            "  method m.g(x: a.B) = let x = if next then new m.C(1, y) else new m.D() in "
            "x.(m.C.f) * (1 + 1) - m.g(1, x)",
            "  method a.h(x: a.B, x: a.C, y: m.D) = if 1 then 1 else 1", "}")

    def test_spaces(self):
        # The rule of [24], token by token.
        source = Random(24)
        for _ in range(60):
            module = some_module(source)
            text = printed(module)
            lines = text.split("\n")
            self.assertEqual(lines.pop(), "")
            self.assertEqual(len(lines), 2 + sum(len(part) for part in module[2:]))
            for number, line in enumerate(lines):
                inner = 0 < number < len(lines) - 1
                self.assertEqual(line[:3].count(" "), 2 if inner else 0)
                tokens = told_tokens(line)[:-1]
                made = tokens[0][1]
                for (before, _, _), (kind, token, _) in zip(tokens, tokens[1:]):
                    close = kind in (",", ":", ")", ".") or before in ("(", ".")
                    close = close or kind == "(" and before in ("NAME", "WORD")
                    made += token if close else " " + token
                self.assertEqual(line, ("  " if inner else "") + made)

    def test_wrong_values(self):
        for value in ODD + FORMS + (PAINT_TEXT, (PAINT,)):
            with self.assertRaises(BadValue) as caught:
                printed(value)
            self.assertEqual(caught.exception.at, 0)
        for value in changes(PAINT, (None, True, 2, "", "x", (), ("int", 65536))):
            if is_module(value):
                self.assertIs(type(printed(value)), str)
            else:
                with self.assertRaises(BadValue) as caught:
                    printed(value)
                self.assertEqual(caught.exception.at, 0)


class Expressions(unittest.TestCase):

    def prints(self, expression, text):
        self.assertEqual(printed_expression(expression), text)
        self.assertEqual(printed_expression(as_lists(expression)), text)

    def test_each_form(self):
        for expression, text in SAMPLES:
            self.prints(expression, text)
        self.assertEqual(printed_expression(expression=ONE), "1")

    def test_integers(self):
        for number in (0, 9, 10, 100, 65535):
            self.prints(("int", number), str(number))

    def test_each_place(self):
        for around, text, enclosed in PLACES:
            for expression, inner in SAMPLES:
                if expression[0] in enclosed:
                    inner = "(" + inner + ")"
                self.prints(around(expression), text.format(inner))

    def test_rows(self):
        a, b, c = ("name", "a"), ("name", "b"), ("name", "c")
        self.prints(("add", ("sub", a, b), c), "a - b + c")
        self.prints(("sub", a, ("add", b, c)), "a - (b + c)")
        self.prints(("mul", ("mul", a, b), c), "a * b * c")
        self.prints(("mul", a, ("mul", b, c)), "a * (b * c)")
        self.prints(("add", a, ("mul", b, c)), "a + b * c")
        self.prints(("mul", ("add", a, b), ("sub", b, c)), "(a + b) * (b - c)")
        self.prints(("add", ("mul", a, ("if", a, b, c)), c), "a * (if a then b else c) + c")
        self.prints(("if", ("if", a, b, c), ("let", "x", a, b), ("if", a, b, c)),
                    "if if a then b else c then let x = a in b else if a then b else c")
        self.prints(("if", ("add", ("if", a, b, c), a), b, c), "if (if a then b else c) + a then b else c")
        self.prints(("field", ("field", ("add", a, b), "m.C", "f"), "m.D", "g"),
                    "(a + b).(m.C.f).(m.D.g)")
        self.prints(("mul", ("field", ("mul", a, b), "m.C", "f"), c), "(a * b).(m.C.f) * c")
        self.prints(("new", "m.C", (("mul", ("add", a, b), c), ("let", "x", a, b))),
                    "new m.C((a + b) * c, let x = a in b)")

    def test_wrong_values(self):
        for value in ODD + (PAINT, "1", (ONE,)):
            if not is_expression(value):
                with self.assertRaises(BadValue) as caught:
                    printed_expression(value)
                self.assertEqual(caught.exception.at, 0)
        for value in changes(FULL, (None, True, -1, "", "x", "m.C", (), ("int", 65536))):
            if is_expression(value):
                self.assertIs(type(printed_expression(value)), str)
            else:
                with self.assertRaises(BadValue) as caught:
                    printed_expression(value)
                self.assertEqual(caught.exception.at, 0)
