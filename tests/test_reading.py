"""Promises [16], [22] and [23]: the texts of modules and expressions."""

import unittest

from callwarrant.errors import BadText
from callwarrant.forms import is_expression, is_module
from callwarrant.reading import parse, parse_expression
from tests.helper import FULL, FULL_TEXT, ODD, ONE, PAINT, PAINT_TEXT, is_plain, told_tokens

X = ("name", "x")
Y = ("name", "y")


def two(number):
    return ("int", number)


class Reading(unittest.TestCase):

    def bad(self, text, at, read=parse_expression):
        with self.assertRaises(BadText) as caught:
            read(text)
        self.assertIs(type(caught.exception.at), int)
        self.assertEqual(caught.exception.at, at, text)

    def bad_body(self, text):
        """The text is of the grammar, but tells no expression; as a body neither."""
        self.bad(text, 0)
        self.bad("module m { method m.g(x: base.Int) = " + text + " }", 0, parse)


class Modules(Reading):

    def test_example(self):
        self.assertEqual(parse(PAINT_TEXT), PAINT)
        self.assertEqual(parse(text=PAINT_TEXT), PAINT)

    def test_plain_tuples(self):
        self.assertTrue(is_plain(parse(PAINT_TEXT)))
        self.assertTrue(is_plain(parse(FULL_TEXT)))
        self.assertTrue(is_plain(parse("module m { }")))
        self.assertTrue(is_module(parse(FULL_TEXT)))

    def test_full(self):
        self.assertEqual(parse(FULL_TEXT), (
            "m", ("a", "b"),
            (
                ("C", "open", True, ("base.Any", "a.D"), (("f", "base.Int"), ("g", "m.C"))),
                ("E", "sealed", False, ("m.C",), ()),
            ),
            (
                ("h", ("m.C", "base.Int"), 2, "base.Int"),
                ("i", ("m.C",), 1, "m.C"),
            ),
            (
                ("m.h", (("x", "m.C"), ("y", "base.Int")), (
                    "if", Y,
                    ("let", "z", ONE, ("add", ("sub", ("name", "z"), Y), two(2))),
                    ("mul", ("next",), ("add", two(3), Y)),
                )),
                ("a.i", (("x", "m.E"),), ("new", "m.C", (
                    ("call", "m.h", (X, two(7))),
                    ("field", ("field", X, "m.C", "g"), "m.C", "g"),
                    ("new", "m.E", ()),
                    Y,
                ))),
            ),
        ))

    def test_smallest(self):
        self.assertEqual(parse("module m{}"), ("m", (), (), (), ()))
        self.assertEqual(parse("module base { }"), ("base", (), (), (), ()))
        self.assertEqual(parse("\n module\nm\n\n{ }\n "), ("m", (), (), (), ()))

    def test_parts_in_sequence(self):
        text = "module m { %s }"
        one = "open class A extends base.Any { } "
        other = "generic g(base.Any) by 1 gives base.Int "
        third = "method m.g(x: base.Any) = 1 "
        for parts, wrong in (((other, one), 1), ((third, one), 1), ((third, other), 1),
                             ((one, third, other), 2), ((one, other, one), 2)):
            start = "module m { "
            at = len(start) + sum(len(part) for part in parts[:wrong])
            self.bad(start + "".join(parts) + "}", at, parse)
        made = parse(text % (one * 2 + other * 2 + third * 2))
        self.assertEqual([len(part) for part in made[1:]], [0, 2, 2, 2])

    def test_wrong_tokens(self):
        for text, at in (
            ("", 0), ("   ", 3), ("module", 6), ("module ", 7), ("module m", 8), ("module m {", 10),
            ("module m { }x", 12), ("module m { } }", 13), ("modul m { }", 0), ("Module m { }", 0),
            ("modulem { }", 0), ("module M { }", 7), ("module module { }", 7), ("m { }", 0),
            ("module m uses { }", 14), ("module m uses a b { }", 16), ("module m uses a, { }", 17),
            ("module m uses a.B { }", 15), ("module m, n { }", 8), ("module m ( )", 9),
            ("module m { class A extends b.C { } }", 11), ("module m { abstract class", 11),
            ("module m { open A extends b.C { } }", 16),
            ("module m { open sealed class A extends b.C { } }", 16),
            ("module m { open abstract abstract class A extends b.C { } }", 25),
            ("module m { open class a extends b.C { } }", 22),
            ("module m { open class A { } }", 24), ("module m { open class A extends { } }", 32),
            ("module m { open class A extends C { } }", 32),
            ("module m { open class A extends b.c { } }", 34),
            ("module m { open class A extends b.C, { } }", 37),
            ("module m { open class A extends b.C { f } }", 40),
            ("module m { open class A extends b.C { f: b.C, } }", 46),
            ("module m { open class A extends b.C { f: b.C g: b.C } }", 45),
            ("module m { generic g() by 1 gives b.C }", 21),
            ("module m { generic m.g(b.C) by 1 gives b.C }", 20),
            ("module m { generic g(b.C) by x gives b.C }", 29),
            ("module m { generic g(b.C) gives b.C }", 26),
            ("module m { generic g(x: b.C) by 1 gives b.C }", 22),
            ("module m { generic g(b.C) by -1 gives b.C }", 29),
            ("module m { method g(x: b.C) = 1 }", 19), ("module m { method m.g() = 1 }", 22),
            ("module m { method m.g(b.C) = 1 }", 23), ("module m { method m.g(x: b.C) 1 }", 30),
            ("module m { method m.g(x: b.C) = }", 32), ("module m { method m.g(x: b.C) = 1 2 }", 34),
            ("module m { method m.G(x: b.C) = 1 }", 20),
        ):
            self.bad(text, at, parse)

    def test_too_many_parts(self):
        one = "open class A extends %s { %s }"
        for many in range(0, 16):
            for limit, text in (
                (4, "module m " + ("uses " + ", ".join(["a"] * many) if many else "") + " { }"),
                (6, "module m { " + "sealed class A extends b.C { }" * many + " }"),
                (3, "module m { " + "generic g(b.C) by 1 gives b.C " * many + " }"),
                (8, "module m { " + "method m.g(x: b.C) = 1 " * many + " }"),
                (12, "module m { " + one % (", ".join(["b.C"] * max(many, 1)), "") + " }"),
                (3, "module m { " + one % ("b.C", ", ".join(["f: b.C"] * many)) + " }"),
                (3, "module m { generic g(" + ", ".join(["b.C"] * max(many, 1)) + ") by 1 gives b.C }"),
                (3, "module m { method m.g(" + ", ".join(["x: b.C"] * max(many, 1)) + ") = 1 }"),
            ):
                if many <= limit:
                    self.assertTrue(is_module(parse(text)))
                else:
                    self.bad(text, 0, parse)
                    # A token that does not fit is found, whatever the parts are.
                    self.bad(text + "}", len(text), parse)

    def test_owner_positions(self):
        for takes in (1, 2, 3):
            for by in (0, 1, 2, 3, 4, 65535):
                row = ", ".join(["b.C"] * takes)
                text = "module m { generic g(%s) by %d gives b.C }" % (row, by)
                if 1 <= by <= takes:
                    self.assertEqual(parse(text)[3], (("g", ("b.C",) * takes, by, "b.C"),))
                else:
                    self.bad(text, 0, parse)
        self.bad("module m { generic g(b.C) by 01 gives b.C }", 29, parse)
        self.bad("module m { generic g(b.C) by 65536 gives b.C }", 29, parse)

    def test_values_that_are_no_strings(self):
        for value in ODD + (PAINT, [PAINT_TEXT], (PAINT_TEXT,)):
            if not isinstance(value, str):
                self.bad(value, 0, parse)
                self.bad(value, 0, parse_expression)

    def test_expressions_are_no_modules(self):
        self.bad("1", 0, parse)
        self.bad(PAINT_TEXT, 0, parse_expression)


class Expressions(Reading):

    def reads(self, text, expected):
        self.assertEqual(parse_expression(text), expected, text)
        self.assertTrue(is_plain(parse_expression(text)))

    def test_each_form(self):
        self.reads("0", ("int", 0))
        self.reads("65535", ("int", 65535))
        self.reads("x", X)
        self.reads("next", ("next",))
        self.reads("new m.C()", ("new", "m.C", ()))
        self.reads("new m.C(x)", ("new", "m.C", (X,)))
        self.reads("new m.C(x, 1, y)", ("new", "m.C", (X, ONE, Y)))
        self.reads("m.f(x)", ("call", "m.f", (X,)))
        self.reads("m.f(x, y, 1)", ("call", "m.f", (X, Y, ONE)))
        self.reads("x.(m.C.f)", ("field", X, "m.C", "f"))
        self.reads("x + y", ("add", X, Y))
        self.reads("x - y", ("sub", X, Y))
        self.reads("x * y", ("mul", X, Y))
        self.reads("if x then y else 1", ("if", X, Y, ONE))
        self.reads("let x = y in 1", ("let", "x", Y, ONE))
        self.reads("(x)", X)
        self.reads("((((x))))", X)
        self.assertEqual(parse_expression(text="x"), X)

    def test_binding(self):
        self.reads("1 + 2 + 3", ("add", ("add", ONE, two(2)), two(3)))
        self.reads("1 - 2 + 3", ("add", ("sub", ONE, two(2)), two(3)))
        self.reads("1 + 2 - 3", ("sub", ("add", ONE, two(2)), two(3)))
        self.reads("1 - (2 + 3)", ("sub", ONE, ("add", two(2), two(3))))
        self.reads("1 * 2 * 3", ("mul", ("mul", ONE, two(2)), two(3)))
        self.reads("1 * (2 * 3)", ("mul", ONE, ("mul", two(2), two(3))))
        self.reads("1 + 2 * 3", ("add", ONE, ("mul", two(2), two(3))))
        self.reads("1 * 2 + 3", ("add", ("mul", ONE, two(2)), two(3)))
        self.reads("(1 + 2) * 3", ("mul", ("add", ONE, two(2)), two(3)))
        self.reads("1 - 2 * 3 - 4",
                   ("sub", ("sub", ONE, ("mul", two(2), two(3))), two(4)))
        self.reads("1 * x.(m.C.f)", ("mul", ONE, ("field", X, "m.C", "f")))
        self.reads("(1 * x).(m.C.f)", ("field", ("mul", ONE, X), "m.C", "f"))
        self.reads("x.(m.C.f).(m.D.g)", ("field", ("field", X, "m.C", "f"), "m.D", "g"))
        self.reads("m.f(x).(m.C.f)", ("field", ("call", "m.f", (X,)), "m.C", "f"))
        self.reads("new m.C(x).(m.C.f)", ("field", ("new", "m.C", (X,)), "m.C", "f"))
        self.reads("new m.C().(m.C.f)", ("field", ("new", "m.C", ()), "m.C", "f"))
        self.reads("next.(m.C.f)", ("field", ("next",), "m.C", "f"))
        self.reads("1.(m.C.f)", ("field", ONE, "m.C", "f"))

    def test_choices(self):
        self.reads("if x then y else 1 + 2", ("if", X, Y, ("add", ONE, two(2))))
        self.reads("if x then y else 1.(m.C.f)", ("if", X, Y, ("field", ONE, "m.C", "f")))
        self.reads("(if x then y else 1) + 2", ("add", ("if", X, Y, ONE), two(2)))
        self.reads("let x = 1 in x * 2", ("let", "x", ONE, ("mul", X, two(2))))
        self.reads("(let x = 1 in x) * 2", ("mul", ("let", "x", ONE, X), two(2)))
        self.reads("if if x then y else 1 then 1 else 2",
                   ("if", ("if", X, Y, ONE), ONE, two(2)))
        self.reads("if x then if y then 1 else 2 else 3",
                   ("if", X, ("if", Y, ONE, two(2)), two(3)))
        self.reads("let x = let y = 1 in y in x", ("let", "x", ("let", "y", ONE, Y), X))
        self.reads("m.f(if x then y else 1, let x = 1 in y)",
                   ("call", "m.f", (("if", X, Y, ONE), ("let", "x", ONE, Y))))
        for text, at in (("1 + if x then y else 1", 4), ("1 * let x = 1 in x", 4),
                         ("1 - if", 4), ("x * if", 4)):
            self.bad(text, at)

    def test_full(self):
        text = ("let x = if next then new m.C(1, y) else new m.D() in "
                "x.(m.C.f) * (1 + 1) - m.g(1, x)")
        self.reads(text, FULL)

    def test_blanks(self):
        for text in (
            "let x = if next then new m.C(1, y) else new m.D() in x.(m.C.f) * (1 + 1) - m.g(1, x)",
            PAINT_TEXT, FULL_TEXT,
        ):
            read = parse if text.startswith("module") else parse_expression
            tokens = [token for _, token, _ in told_tokens(text)[:-1]]
            for blank in (" ", "\n", "  \n \n\n ", "\n" * 50):
                spread = blank + blank.join(tokens) + blank
                self.assertEqual(read(spread), read(text))
            close = ""
            for token in tokens:
                close += " " + token if close[-1:].isalnum() and token[0].isalnum() else token
            self.assertLess(len(close), len(text))
            self.assertEqual(read(close), read(text))

    def test_digits_and_letters_may_touch(self):
        self.reads("if1then2else3", ("if", ONE, two(2), two(3)))
        self.reads("let x=1in x", ("let", "x", ONE, X))
        self.bad("ifx then 1 else 2", 4)
        self.bad("x1", 1)
        self.bad("1x", 1)

    def test_tokens(self):
        for text in ("00", "01", "007", "65536", "65540", "70000", "99999", "100000", "1" * 5000,
                     "0" * 5000, "abcdefghijklm", "aB", "AB", "Abcdefghijklm", "\t", "\r", "_", "'",
                     '"', "/", "<", ">", ";", "!", "[", "]", "&", "|", "\\", "#", "@", "~", "?", "$",
                     "^", "`", "\x00", "\x7f", "\u00e9", "\u0660", "\u00aa", "\u01c5"):
            self.bad(text, 0)
            self.bad(" \n" + text + " +", 2)
            self.bad("x + " + text, 4)
            self.bad("x " + text + " y", 2)
            self.bad("module m { " + text, 11, parse)
            self.bad("module m { }" + text if not text[0].isalnum() else "module m { } " + text,
                     12 if not text[0].isalnum() else 13, parse)
        self.bad("x\u00e9", 1)
        self.bad("1\u0660", 1)

    def test_what_comes_first(self):
        # A bad token behind one that does not fit is not reached; one before it is.
        self.bad("x y ?", 2)
        self.bad("x ? y", 2)
        self.bad("? x y", 0)
        self.bad("x +* 00", 3)
        self.bad("x 00 + *", 2)
        self.bad("x + 00 y", 4)
        self.bad("module m { } x \t", 13, parse)
        self.bad("module m { \t } x", 11, parse)
        self.bad("module \t", 7, parse)
        self.bad("x . Any ?", 4)
        self.bad("x . ? Any", 4)

    def test_dots(self):
        self.bad("x.", 2)
        self.bad("x. ", 3)
        self.bad("x.5", 2)
        self.bad("x.A", 2)
        self.bad("x.next", 2)
        self.bad("x..", 2)
        self.bad("x.?", 2)
        self.bad("x.y", 3)
        self.bad("x.y.", 3)
        self.bad("x.y.(m.C.f)", 3)
        self.bad("x.y + 1", 4)
        self.bad("x.y()", 4)
        self.bad("x.()", 3)
        self.bad("x.(m)", 4)
        self.bad("x.(m.f)", 5)
        self.bad("x.(m.C)", 6)
        self.bad("x.(m.C.D)", 7)
        self.bad("x.(m.C.f", 8)
        self.bad("x.(m.C.f).y", 10)
        self.bad("x.(m.C.f).y(1)", 10)
        self.bad("1.y(1)", 2)
        self.bad("next.y(1)", 5)
        self.bad("(x).y(1)", 4)
        self.bad("m.f(x).g(x)", 7)
        self.bad("new m.C.f", 7)
        self.bad("new m.c()", 6)
        self.bad("new C()", 4)

    def test_wrong_tokens(self):
        for text, at in (
            ("", 0), (" \n ", 3), ("()", 1), ("(", 1), (")", 0), ("(x", 2), ("(x))", 3), ("x)", 1),
            ("x,", 1), ("x, y", 1), ("x +", 3), ("x + ", 4), ("x + + y", 4), ("+ x", 0), ("-1", 0),
            ("x * ", 4), ("x y", 2), ("1 2", 2), ("A", 0), ("m.C", 2), ("m.C()", 2), ("x = 1", 2),
            ("new", 3), ("new m.C", 7), ("new m.C(", 8), ("new m.C(x", 9), ("new m.C(x,", 10),
            ("new m.C(x,)", 10), ("new m.C(,)", 8), ("new m.C x", 8), ("m.f(x", 5), ("m.f(x,)", 6),
            ("if", 2), ("if x", 4), ("if x y", 5), ("if x then", 9), ("if x then y", 11),
            ("if x then y else", 16), ("if x else y", 5), ("if x then y in", 12), ("then", 0),
            ("let", 3), ("let 1", 4), ("let x", 5), ("let x in", 6), ("let x =", 7),
            ("let x = 1", 9), ("let x = 1 then", 10), ("let x = 1 in", 12), ("let X = 1 in x", 4),
            ("let let = 1 in x", 4), ("x in y", 2), ("module", 0), ("(if x then y)", 12),
            ("(x then y)", 3), ("m.f(x then", 6), ("if (x then", 6), ("if m.f(x, y else", 12),
        ):
            self.bad(text, at)

    def test_levels(self):
        seven = "new a.B(" * 6 + "1" + ")" * 6
        self.assertTrue(is_expression(parse_expression(seven)))
        self.bad_body("new a.B(" + seven + ")")
        self.assertTrue(is_expression(parse_expression("1" + " + 1" * 6)))
        self.bad_body("1" + " + 1" * 7)
        self.assertTrue(is_expression(parse_expression("x" + ".(m.C.f)" * 6)))
        self.bad_body("x" + ".(m.C.f)" * 7)
        self.assertTrue(is_expression(parse_expression("if 1 then 2 else " * 6 + "3")))
        self.bad_body("if 1 then 2 else " * 7 + "3")

    def test_parentheses_make_no_levels(self):
        for many in (1, 7, 8, 61, 100, 150):
            self.reads("(" * many + "x" + ")" * many, X)
            self.reads("(" * many + "x" + ")" * many + " + (1)", ("add", X, ONE))
            self.bad("(" * many + "x" + ")" * (many - 1), 2 * many)
            self.bad("(" * many + "x" + ")" * (many + 1), 2 * many + 1)

    def test_numbers_of_expressions(self):
        group = "new a.B(" + ", ".join(["1"] * 12) + ")"
        text = "new a.B(" + ", ".join([group] * 4 + ["1"] * 7) + ")"
        self.assertTrue(is_expression(parse_expression(text)))
        self.bad_body(text[:-1] + ", 1)")

    def test_numbers_of_arguments(self):
        for many in range(0, 20):
            row = "(" + ", ".join(["1"] * many) + ")"
            if many <= 12:
                self.assertEqual(len(parse_expression("new a.B" + row)[2]), many)
            else:
                self.bad_body("new a.B" + row)
            if 1 <= many <= 3:
                self.assertEqual(len(parse_expression("a.b" + row)[2]), many)
            elif many:
                self.bad_body("a.b" + row)
        self.bad("a.b()", 4)

    def test_long_and_deep_texts(self):
        for text in (
            "if 1 then 2 else " * 100 + "3", "if " * 100 + "1" + " then 2 else 3" * 100,
            "if 1 then " * 100 + "2" + " else 3" * 100, "let x = 1 in " * 100 + "x",
            "let x = " * 100 + "1" + " in x" * 100, "1" + " + 1" * 100, "1" + " - 1" * 100,
            "1" + " * 1" * 100, "x" + ".(m.C.f)" * 100, "m.f(" * 100 + "1" + ")" * 100,
            "new m.C(" * 100 + "1" + ")" * 100, "(1 + " * 100 + "1" + ")" * 100,
            "(" * 100 + "if 1 then 2 else " * 100 + "1" + ")" * 100,
            "(if 1 then (let x = 1 in " * 50 + "1" + ") else 1)" * 50,
            ("(1" + " + 1" * 100) + (" * (1" + " - 1" * 100) * 99 + ")" * 100,
        ):
            self.bad_body(text)
            self.bad(text + " }", len(text) + 1)
            self.bad(text + " +", len(text) + 2)

    def test_much_deeper_texts(self):
        self.reads("(" * 50000 + "x" + ")" * 50000, X)
        self.bad("(" * 100000, 100000)
        self.bad("if " * 50000, 150000)
        self.bad("1" + "+1" * 50000, 0)
