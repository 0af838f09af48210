"""What the tests share: samples, odd values, and a second account of what the document says.

The second account is made in another way than the package: forms by regular expressions, the
first token that does not continue a text by an Earley recogniser over the document's grammar.
"""

import re

RESERVED = (
    "module uses open sealed abstract class extends generic by gives method new next "
    "if then else let in"
).split()

PAINT_TEXT = """module paint uses shapes, tools {
  open class Brush extends base.Any { size: base.Int }
  sealed abstract class Ink extends paint.Brush, tools.Thing { }
  generic stroke(shapes.Shape, paint.Brush) by 1 gives base.Int
  method paint.stroke(it: shapes.Dot, b: paint.Brush) = b.(paint.Brush.size) + 1
}
"""

PAINT = (
    "paint",
    ("shapes", "tools"),
    (
        ("Brush", "open", False, ("base.Any",), (("size", "base.Int"),)),
        ("Ink", "sealed", True, ("paint.Brush", "tools.Thing"), ()),
    ),
    (("stroke", ("shapes.Shape", "paint.Brush"), 1, "base.Int"),),
    (
        (
            "paint.stroke",
            (("it", "shapes.Dot"), ("b", "paint.Brush")),
            ("add", ("field", ("name", "b"), "paint.Brush", "size"), ("int", 1)),
        ),
    ),
)

# One expression of each form.
ONE = ("int", 1)
FORMS = (
    ONE,
    ("name", "x"),
    ("next",),
    ("new", "m.C", ()),
    ("new", "m.C", (ONE, ("name", "y"))),
    ("field", ("name", "x"), "m.C", "f"),
    ("call", "m.g", (ONE, ("next",))),
    ("add", ONE, ONE),
    ("sub", ONE, ONE),
    ("mul", ONE, ONE),
    ("if", ONE, ONE, ONE),
    ("let", "x", ONE, ONE),
)

# An expression in which every form stands.
FULL = (
    "let", "x",
    ("if", ("next",), ("new", "m.C", (ONE, ("name", "y"))), ("new", "m.D", ())),
    ("sub", ("mul", ("field", ("name", "x"), "m.C", "f"), ("add", ONE, ONE)),
     ("call", "m.g", (ONE, ("name", "x")))),
)

# A text in which every form of the grammar stands.
FULL_TEXT = """module m uses a, b {
  open abstract class C extends base.Any, a.D { f: base.Int, g: m.C }
  sealed class E extends m.C { }
  generic h(m.C, base.Int) by 2 gives base.Int
  generic i(m.C) by 1 gives m.C
  method m.h(x: m.C, y: base.Int) = if y then let z = 1 in z - y + 2 else next * (3 + y)
  method a.i(x: m.E) = new m.C(m.h(x, 7), x.(m.C.g).(m.C.g), new m.E(), (y))
}
"""

# Values that are no module, expression or text, and nothing that stands in one.
ODD = (
    None, True, False, 0, 1, -1, 2, 7, 65536, 10 ** 30, -10 ** 30, "", " ", "A", "Ab", "ab", "a.",
    ".a", "a.b", "a.B", "a.b.c", "a.B.c", "a.B.C", "a..B", "A.b", "A.B", " a", "a ", "a\n", "a1",
    "1", "a_b", "aB", "AB", "Ab1", "a.1", "a.B1", "a. B", "a.B\n", "open", "sealed", "module",
    "in", "if.B", "a.if", "base.Int", "base", "abcdefghijkl", "abcdefghijklm", "Abcdefghijkl",
    "Abcdefghijklm", "abcdefghijkl.Abcdefghijkl", "abcdefghijklm.B", "a.Abcdefghijklm",
    "abcdefghijkl.abcdefghijkl", "a.abcdefghijklm", (), [], ((),), [[]], ("a",), ["a.B"],
    ("a", "a.B"), ("int",), ("int", 1), ("int", 1, 1), ("next",), ("next", ()), ("name",), "next",
    ("int", True), ("int", -1), ("int", 65536), ("int", "1"), ("name", "next"), (("int", 1),),
    [["int"], 1], (True, 1), (None,), ("x" * 200000,),
)


def as_lists(value):
    """The value with lists in place of tuples, at every level."""
    if isinstance(value, (list, tuple)):
        return [as_lists(one) for one in value]
    return value


def as_tuples(value):
    """The value with tuples in place of lists, at every level."""
    if isinstance(value, (list, tuple)):
        return tuple(as_tuples(one) for one in value)
    return value


def is_plain(value):
    """Whether only tuples of no class of their own, and no lists, stand in the value."""
    if isinstance(value, (list, tuple)):
        return type(value) is tuple and all(is_plain(one) for one in value)
    return type(value) in (int, str, bool)


def changes(value, others):
    """The value with each part at any depth left out, doubled or replaced by each of others."""
    if not isinstance(value, (list, tuple)):
        return
    for at, part in enumerate(value):
        before, behind = tuple(value[:at]), tuple(value[at + 1:])
        yield before + behind
        yield before + (part, part) + behind
        for other in others:
            yield before + (other,) + behind
        for changed in changes(part, others):
            yield before + (changed,) + behind


# What the document says of forms.

def told_name(value):
    return type(value) is str and bool(re.fullmatch("[a-z]{1,12}", value)) and value not in RESERVED


def told_word(value):
    return type(value) is str and bool(re.fullmatch("[A-Z][a-z]{0,11}", value))


def told_class_name(value):
    return type(value) is str and value.count(".") == 1 and (
        told_name(value.split(".")[0]) and told_word(value.split(".")[1]))


def told_generic_name(value):
    return type(value) is str and value.count(".") == 1 and (
        told_name(value.split(".")[0]) and told_name(value.split(".")[1]))


def told_row(value, least, most, test):
    return type(value) in (list, tuple) and least <= len(value) <= most and all(map(test, value))


def told_record(value, *tests):
    return type(value) in (list, tuple) and len(value) == len(tests) and all(
        test(part) for test, part in zip(tests, value))


def told_measure(value):
    """The pair (expressions, levels) of an expression, bounds apart; None for what is none."""
    if type(value) not in (list, tuple) or not value or type(value[0]) is not str:
        return None
    word, rest = value[0], list(value[1:])
    heads = {
        "int": [lambda n: type(n) is int and 0 <= n <= 65535], "name": [told_name], "next": [],
        "new": [told_class_name], "call": [told_generic_name], "let": [told_name],
        "add": [], "sub": [], "mul": [], "if": [], "field": [],
    }
    counts = {"int": 0, "name": 0, "next": 0, "add": 2, "sub": 2, "mul": 2, "if": 3, "let": 2}
    if word not in heads:
        return None
    if word == "field":
        if len(rest) != 3 or not told_class_name(rest[1]) or not told_name(rest[2]):
            return None
        parts = rest[:1]
    else:
        tests = heads[word]
        if len(rest) < len(tests) or not all(test(one) for test, one in zip(tests, rest)):
            return None
        parts = rest[len(tests):]
        if word in ("new", "call"):
            least, most = {"new": (0, 12), "call": (1, 3)}[word]
            if len(parts) != 1 or not told_row(parts[0], least, most, lambda one: True):
                return None
            parts = parts[0]
        elif len(parts) != counts[word]:
            return None
    measures = [told_measure(part) for part in parts]
    if None in measures:
        return None
    return 1 + sum(n for n, _ in measures), 1 + max([levels for _, levels in measures], default=0)


def told_expression(value):
    measure = told_measure(value)
    return measure is not None and measure[0] <= 60 and measure[1] <= 7


def told_pair(value):
    return told_record(value, told_name, told_class_name)


def told_class(value):
    return told_record(
        value, told_word, lambda kind: kind in ("open", "sealed"), lambda one: type(one) is bool,
        lambda row: told_row(row, 1, 12, told_class_name), lambda row: told_row(row, 0, 3, told_pair))


def told_generic(value):
    return told_record(
        value, told_name, lambda row: told_row(row, 1, 3, told_class_name),
        lambda by: type(by) is int, told_class_name) and 1 <= value[2] <= len(value[1])


def told_method(value):
    return told_record(
        value, told_generic_name, lambda row: told_row(row, 1, 3, told_pair), told_expression)


def told_module(value):
    return told_record(
        value, told_name, lambda row: told_row(row, 0, 4, told_name),
        lambda row: told_row(row, 0, 6, told_class), lambda row: told_row(row, 0, 3, told_generic),
        lambda row: told_row(row, 0, 8, told_method))


# What the document says of tokens and grammar.

def told_tokens(text):
    """The triples (kind, text, position) up to the first character that begins no token.

    Words and signs are their own kinds, the others are NAME, WORD, INTEGER; the last has the
    kind "?" where no token begins and "" at the end of the text.
    """
    tokens = []
    at = 0
    while True:
        at += len(re.match("[ \n]*", text[at:]).group())
        found = re.match(r"[a-zA-Z]+|[0-9]+|[(){}:,=.+*-]", text[at:])
        if not found:
            tokens.append(("?" if at < len(text) else "", "", at))
            return tokens
        token = found.group()
        if told_name(token):
            kind = "NAME"
        elif told_word(token):
            kind = "WORD"
        elif re.fullmatch("0|[1-9][0-9]{0,4}", token) and int(token) <= 65535:
            kind = "INTEGER"
        elif token in RESERVED or token in "(){}:,=.+*-":
            kind = token
        else:
            kind = "?"
        tokens.append((kind, token, at))
        if kind == "?":
            return tokens
        at += len(token)


GRAMMAR_TEXT = """
MODULE = module NAME { CLASSES GENERICS METHODS } | module NAME uses NAMES { CLASSES GENERICS METHODS }
NAMES = NAME | NAME , NAMES
CLASSES = | CLASS CLASSES
GENERICS = | GENERIC GENERICS
METHODS = | METHOD METHODS
KIND = open | sealed | open abstract | sealed abstract
CLASS = KIND class WORD extends CNAMES { } | KIND class WORD extends CNAMES { FIELDS }
CNAMES = CNAME | CNAME , CNAMES
FIELDS = FIELD | FIELD , FIELDS
FIELD = NAME : CNAME
GENERIC = generic NAME ( CNAMES ) by INTEGER gives CNAME
METHOD = method GNAME ( FIELDS ) = EXPR
EXPR = if EXPR then EXPR else EXPR | let NAME = EXPR in EXPR | SUM
SUM = TERM | SUM + TERM | SUM - TERM
TERM = FACTOR | TERM * FACTOR
FACTOR = PRIMARY | FACTOR . ( CNAME . NAME )
PRIMARY = INTEGER | NAME | next | new CNAME ( ) | new CNAME ( EXPRS ) | GNAME ( EXPRS ) | ( EXPR )
EXPRS = EXPR | EXPR , EXPRS
CNAME = NAME . WORD
GNAME = NAME . NAME
"""

GRAMMAR = {
    line.split(" =")[0]: [tuple(rule.split()) for rule in line.split(" =", 1)[1].split("|")]
    for line in GRAMMAR_TEXT.strip().split("\n")
}


class Recogniser:
    """Tells the number of the first token that continues no text of the grammar.

    It keeps its sets of items for as many tokens as the next call begins with too.
    """

    def __init__(self, start):
        self.kinds = []
        self.sets = [self.closed({("", (start,), 0, 0)}, 0)]

    def closed(self, items, at):
        items, due = set(items), list(items)
        while due:
            head, rule, dot, origin = due.pop()
            if dot == len(rule):
                before = items if origin == at else self.sets[origin]
                found = [
                    (one[0], one[1], one[2] + 1, one[3]) for one in before
                    if one[2] < len(one[1]) and one[1][one[2]] == head
                ]
            else:
                # A head that may be empty is gone over at once: its end comes too early below.
                found = [(rule[dot], other, 0, at) for other in GRAMMAR.get(rule[dot], ())]
                if () in GRAMMAR.get(rule[dot], ()):
                    found.append((head, rule, dot + 1, origin))
            for one in found:
                if one not in items:
                    items.add(one)
                    due.append(one)
        return items

    def misfit(self, kinds):
        """The number of the first misfit; of tokens if they are a beginning; None if a text."""
        same = 0
        while same < min(len(kinds), len(self.kinds)) and kinds[same] == self.kinds[same]:
            same += 1
        del self.kinds[same:], self.sets[same + 1:]
        for kind in kinds[same:]:
            moved = {
                (head, rule, dot + 1, origin) for head, rule, dot, origin in self.sets[-1]
                if dot < len(rule) and rule[dot] == kind
            }
            if not moved:
                return len(self.kinds)
            self.kinds.append(kind)
            self.sets.append(self.closed(moved, len(self.sets)))
        whole = any(head == "" and dot == 1 for head, _, dot, _ in self.sets[-1])
        return None if whole else len(kinds)


def told_misfit(recogniser, text):
    """The position at which the text leaves the grammar; None if it does not."""
    tokens = told_tokens(text)
    at = recogniser.misfit([kind for kind, _, _ in tokens[:-1]])
    if at is None:
        return None if tokens[-1][0] == "" else tokens[-1][2]
    return tokens[at][2]


# Modules and expressions of all kinds, by a random source that is the same in every run.

NAMES = ("a", "m", "x", "modul", "nexta", "abcdefghijkl", "int", "name")
WORDS = ("A", "Int", "Abcdefghijkl", "M")


def some_class_name(source):
    return source.choice(NAMES) + "." + source.choice(WORDS)


def some_expression(source, levels):
    """An expression of at most so many levels, perhaps of more than 60 expressions."""
    words = ("int", "name", "next", "new", "field", "call", "add", "sub", "mul", "if", "let")
    word = source.choice(words if levels > 1 else words[:3])

    def below():
        return some_expression(source, levels - 1)

    if word == "int":
        return ("int", source.choice((0, 1, 9, 10, 65535, source.randrange(65536))))
    if word == "name":
        return ("name", source.choice(NAMES))
    if word == "next":
        return ("next",)
    if word == "new":
        many = source.choice((0, 0, 1, 2, 12))
        return ("new", some_class_name(source), tuple(below() for _ in range(many)))
    if word == "call":
        name = source.choice(NAMES) + "." + source.choice(NAMES)
        return ("call", name, tuple(below() for _ in range(source.randrange(1, 4))))
    if word == "field":
        return ("field", below(), some_class_name(source), source.choice(NAMES))
    if word == "if":
        return ("if", below(), below(), below())
    if word == "let":
        return ("let", source.choice(NAMES), below(), below())
    return (word, below(), below())


def some_fitting_expression(source):
    while True:
        made = some_expression(source, source.randrange(1, 8))
        if told_expression(made):
            return made


def some_module(source):
    """A module with any numbers of parts."""
    def row(least, most, make):
        return tuple(make() for _ in range(source.randrange(least, most + 1)))

    def name():
        return source.choice(NAMES)

    def class_name():
        return some_class_name(source)

    def pair():
        return (name(), class_name())

    def one_class():
        kind = source.choice(("open", "sealed"))
        return (source.choice(WORDS), kind, source.choice((True, False)),
                row(1, 12, class_name), row(0, 3, pair))

    def generic():
        takes = row(1, 3, class_name)
        return (name(), takes, source.randrange(1, len(takes) + 1), class_name())

    def method():
        return (name() + "." + name(), row(1, 3, pair), some_fitting_expression(source))

    return (name(), row(0, 4, name), row(0, 6, one_class), row(0, 3, generic), row(0, 8, method))
