"""What the tests share: samples, odd values, and a second account of what the document says.

The second account is made in another way than the package: forms by regular expressions, the
first token that does not continue a text by an Earley recogniser over the document's grammar. The
order of classes is closed step by step over all pairs of names, types are told by exceptions, and
modules, trees and sites are judged by trials of all calls in a world that has a class for every
set of open classes. Runs are made by an evaluator that calls itself.
"""

import re
from itertools import combinations, product

from callwarrant.errors import Spent, Stuck

RESERVED = (
    "module uses open sealed abstract class extends generic by gives method new next "
    "if then else let in"
).split()

PAINT_TEXT = """module paint uses shapes, tools {
  open class Brush extends base.Any { size: base.Int }
  sealed abstract class Ink extends paint.Brush, tools.Thing { }
  generic stroke(shapes.Shape, paint.Brush) by 1 gives base.Int
  method paint.stroke(it: shapes.Dot, b: paint.Brush) = b.(paint.Brush.size) + 1
}
"""

PAINT = (
    "paint",
    ("shapes", "tools"),
    (
        ("Brush", "open", False, ("base.Any",), (("size", "base.Int"),)),
        ("Ink", "sealed", True, ("paint.Brush", "tools.Thing"), ()),
    ),
    (("stroke", ("shapes.Shape", "paint.Brush"), 1, "base.Int"),),
    (
        (
            "paint.stroke",
            (("it", "shapes.Dot"), ("b", "paint.Brush")),
            ("add", ("field", ("name", "b"), "paint.Brush", "size"), ("int", 1)),
        ),
    ),
)

# One expression of each form.
ONE = ("int", 1)
FORMS = (
    ONE,
    ("name", "x"),
    ("next",),
    ("new", "m.C", ()),
    ("new", "m.C", (ONE, ("name", "y"))),
    ("field", ("name", "x"), "m.C", "f"),
    ("call", "m.g", (ONE, ("next",))),
    ("add", ONE, ONE),
    ("sub", ONE, ONE),
    ("mul", ONE, ONE),
    ("if", ONE, ONE, ONE),
    ("let", "x", ONE, ONE),
)

# An expression in which every form stands.
FULL = (
    "let", "x",
    ("if", ("next",), ("new", "m.C", (ONE, ("name", "y"))), ("new", "m.D", ())),
    ("sub", ("mul", ("field", ("name", "x"), "m.C", "f"), ("add", ONE, ONE)),
     ("call", "m.g", (ONE, ("name", "x")))),
)

# A text in which every form of the grammar stands.
FULL_TEXT = """module m uses a, b {
  open abstract class C extends base.Any, a.D { f: base.Int, g: m.C }
  sealed class E extends m.C { }
  generic h(m.C, base.Int) by 2 gives base.Int
  generic i(m.C) by 1 gives m.C
  method m.h(x: m.C, y: base.Int) = if y then let z = 1 in z - y + 2 else next * (3 + y)
  method a.i(x: m.E) = new m.C(m.h(x, 7), x.(m.C.g).(m.C.g), new m.E(), (y))
}
"""

# Values that are no module, expression or text, and nothing that stands in one.
ODD = (
    None, True, False, 0, 1, -1, 2, 7, 65536, 10 ** 30, -10 ** 30, "", " ", "A", "Ab", "ab", "a.",
    ".a", "a.b", "a.B", "a.b.c", "a.B.c", "a.B.C", "a..B", "A.b", "A.B", " a", "a ", "a\n", "a1",
    "1", "a_b", "aB", "AB", "Ab1", "a.1", "a.B1", "a. B", "a.B\n", "open", "sealed", "module",
    "in", "if.B", "a.if", "base.Int", "base", "abcdefghijkl", "abcdefghijklm", "Abcdefghijkl",
    "Abcdefghijklm", "abcdefghijkl.Abcdefghijkl", "abcdefghijklm.B", "a.Abcdefghijklm",
    "abcdefghijkl.abcdefghijkl", "a.abcdefghijklm", (), [], ((),), [[]], ("a",), ["a.B"],
    ("a", "a.B"), ("int",), ("int", 1), ("int", 1, 1), ("next",), ("next", ()), ("name",), "next",
    ("int", True), ("int", -1), ("int", 65536), ("int", "1"), ("name", "next"), (("int", 1),),
    [["int"], 1], (True, 1), (None,), ("x" * 200000,),
)


def sum_of(many, last):
    """A sum of so many expressions, an odd number, with this one as its last leaf."""
    if many == 1:
        return last
    half = (many - 1) // 2
    first = half if half % 2 else half - 1
    return ("add", sum_of(first, ONE), sum_of(many - 1 - first, last))


def as_lists(value):
    """The value with lists in place of tuples, at every level."""
    if isinstance(value, (list, tuple)):
        return [as_lists(one) for one in value]
    return value


def as_tuples(value):
    """The value with tuples in place of lists, at every level."""
    if isinstance(value, (list, tuple)):
        return tuple(as_tuples(one) for one in value)
    return value


def is_plain(value):
    """Whether only tuples of no class of their own, and no lists, stand in the value."""
    if isinstance(value, (list, tuple)):
        return type(value) is tuple and all(is_plain(one) for one in value)
    return type(value) in (int, str, bool)


def changes(value, others):
    """The value with each part at any depth left out, doubled or replaced by each of others."""
    if not isinstance(value, (list, tuple)):
        return
    for at, part in enumerate(value):
        before, behind = tuple(value[:at]), tuple(value[at + 1:])
        yield before + behind
        yield before + (part, part) + behind
        for other in others:
            yield before + (other,) + behind
        for changed in changes(part, others):
            yield before + (changed,) + behind


# What the document says of forms.

def told_name(value):
    return type(value) is str and bool(re.fullmatch("[a-z]{1,12}", value)) and value not in RESERVED


def told_word(value):
    return type(value) is str and bool(re.fullmatch("[A-Z][a-z]{0,11}", value))


def told_class_name(value):
    return type(value) is str and value.count(".") == 1 and (
        told_name(value.split(".")[0]) and told_word(value.split(".")[1]))


def told_generic_name(value):
    return type(value) is str and value.count(".") == 1 and (
        told_name(value.split(".")[0]) and told_name(value.split(".")[1]))


def told_row(value, least, most, test):
    return type(value) in (list, tuple) and least <= len(value) <= most and all(map(test, value))


def told_record(value, *tests):
    return type(value) in (list, tuple) and len(value) == len(tests) and all(
        test(part) for test, part in zip(tests, value))


def told_measure(value):
    """The pair (expressions, levels) of an expression, bounds apart; None for what is none."""
    if type(value) not in (list, tuple) or not value or type(value[0]) is not str:
        return None
    word, rest = value[0], list(value[1:])
    heads = {
        "int": [lambda n: type(n) is int and 0 <= n <= 65535], "name": [told_name], "next": [],
        "new": [told_class_name], "call": [told_generic_name], "let": [told_name],
        "add": [], "sub": [], "mul": [], "if": [], "field": [],
    }
    counts = {"int": 0, "name": 0, "next": 0, "add": 2, "sub": 2, "mul": 2, "if": 3, "let": 2}
    if word not in heads:
        return None
    if word == "field":
        if len(rest) != 3 or not told_class_name(rest[1]) or not told_name(rest[2]):
            return None
        parts = rest[:1]
    else:
        tests = heads[word]
        if len(rest) < len(tests) or not all(test(one) for test, one in zip(tests, rest)):
            return None
        parts = rest[len(tests):]
        if word in ("new", "call"):
            least, most = {"new": (0, 12), "call": (1, 3)}[word]
            if len(parts) != 1 or not told_row(parts[0], least, most, lambda one: True):
                return None
            parts = parts[0]
        elif len(parts) != counts[word]:
            return None
    measures = [told_measure(part) for part in parts]
    if None in measures:
        return None
    return 1 + sum(n for n, _ in measures), 1 + max([levels for _, levels in measures], default=0)


def told_expression(value):
    measure = told_measure(value)
    return measure is not None and measure[0] <= 60 and measure[1] <= 7


def told_pair(value):
    return told_record(value, told_name, told_class_name)


def told_class(value):
    return told_record(
        value, told_word, lambda kind: kind in ("open", "sealed"), lambda one: type(one) is bool,
        lambda row: told_row(row, 1, 12, told_class_name), lambda row: told_row(row, 0, 3, told_pair))


def told_generic(value):
    return told_record(
        value, told_name, lambda row: told_row(row, 1, 3, told_class_name),
        lambda by: type(by) is int, told_class_name) and 1 <= value[2] <= len(value[1])


def told_method(value):
    return told_record(
        value, told_generic_name, lambda row: told_row(row, 1, 3, told_pair), told_expression)


def told_module(value):
    return told_record(
        value, told_name, lambda row: told_row(row, 0, 4, told_name),
        lambda row: told_row(row, 0, 6, told_class), lambda row: told_row(row, 0, 3, told_generic),
        lambda row: told_row(row, 0, 8, told_method))


# What the document says of tokens and grammar.

def told_tokens(text):
    """The triples (kind, text, position) up to the first character that begins no token.

    Words and signs are their own kinds, the others are NAME, WORD, INTEGER; the last has the
    kind "?" where no token begins and "" at the end of the text.
    """
    tokens = []
    at = 0
    while True:
        at += len(re.match("[ \n]*", text[at:]).group())
        found = re.match(r"[a-zA-Z]+|[0-9]+|[(){}:,=.+*-]", text[at:])
        if not found:
            tokens.append(("?" if at < len(text) else "", "", at))
            return tokens
        token = found.group()
        if told_name(token):
            kind = "NAME"
        elif told_word(token):
            kind = "WORD"
        elif re.fullmatch("0|[1-9][0-9]{0,4}", token) and int(token) <= 65535:
            kind = "INTEGER"
        elif token in RESERVED or token in "(){}:,=.+*-":
            kind = token
        else:
            kind = "?"
        tokens.append((kind, token, at))
        if kind == "?":
            return tokens
        at += len(token)


GRAMMAR_TEXT = """
MODULE = module NAME { CLASSES GENERICS METHODS } | module NAME uses NAMES { CLASSES GENERICS METHODS }
NAMES = NAME | NAME , NAMES
CLASSES = | CLASS CLASSES
GENERICS = | GENERIC GENERICS
METHODS = | METHOD METHODS
KIND = open | sealed | open abstract | sealed abstract
CLASS = KIND class WORD extends CNAMES { } | KIND class WORD extends CNAMES { FIELDS }
CNAMES = CNAME | CNAME , CNAMES
FIELDS = FIELD | FIELD , FIELDS
FIELD = NAME : CNAME
GENERIC = generic NAME ( CNAMES ) by INTEGER gives CNAME
METHOD = method GNAME ( FIELDS ) = EXPR
EXPR = if EXPR then EXPR else EXPR | let NAME = EXPR in EXPR | SUM
SUM = TERM | SUM + TERM | SUM - TERM
TERM = FACTOR | TERM * FACTOR
FACTOR = PRIMARY | FACTOR . ( CNAME . NAME )
PRIMARY = INTEGER | NAME | next | new CNAME ( ) | new CNAME ( EXPRS ) | GNAME ( EXPRS ) | ( EXPR )
EXPRS = EXPR | EXPR , EXPRS
CNAME = NAME . WORD
GNAME = NAME . NAME
"""

GRAMMAR = {
    line.split(" =")[0]: [tuple(rule.split()) for rule in line.split(" =", 1)[1].split("|")]
    for line in GRAMMAR_TEXT.strip().split("\n")
}


class Recogniser:
    """Tells the number of the first token that continues no text of the grammar.

    It keeps its sets of items for as many tokens as the next call begins with too.
    """

    def __init__(self, start):
        self.kinds = []
        self.sets = [self.closed({("", (start,), 0, 0)}, 0)]

    def closed(self, items, at):
        items, due = set(items), list(items)
        while due:
            head, rule, dot, origin = due.pop()
            if dot == len(rule):
                before = items if origin == at else self.sets[origin]
                found = [
                    (one[0], one[1], one[2] + 1, one[3]) for one in before
                    if one[2] < len(one[1]) and one[1][one[2]] == head
                ]
            else:
                # A head that may be empty is gone over at once: its end comes too early below.
                found = [(rule[dot], other, 0, at) for other in GRAMMAR.get(rule[dot], ())]
                if () in GRAMMAR.get(rule[dot], ()):
                    found.append((head, rule, dot + 1, origin))
            for one in found:
                if one not in items:
                    items.add(one)
                    due.append(one)
        return items

    def misfit(self, kinds):
        """The number of the first misfit; of tokens if they are a beginning; None if a text."""
        same = 0
        while same < min(len(kinds), len(self.kinds)) and kinds[same] == self.kinds[same]:
            same += 1
        del self.kinds[same:], self.sets[same + 1:]
        for kind in kinds[same:]:
            moved = {
                (head, rule, dot + 1, origin) for head, rule, dot, origin in self.sets[-1]
                if dot < len(rule) and rule[dot] == kind
            }
            if not moved:
                return len(self.kinds)
            self.kinds.append(kind)
            self.sets.append(self.closed(moved, len(self.sets)))
        whole = any(head == "" and dot == 1 for head, _, dot, _ in self.sets[-1])
        return None if whole else len(kinds)


def told_misfit(recogniser, text):
    """The position at which the text leaves the grammar; None if it does not."""
    tokens = told_tokens(text)
    at = recogniser.misfit([kind for kind, _, _ in tokens[:-1]])
    if at is None:
        return None if tokens[-1][0] == "" else tokens[-1][2]
    return tokens[at][2]


# Modules and expressions of all kinds, by a random source that is the same in every run.

NAMES = ("a", "m", "x", "modul", "nexta", "abcdefghijkl", "int", "name")
WORDS = ("A", "Int", "Abcdefghijkl", "M")


def some_class_name(source):
    return source.choice(NAMES) + "." + source.choice(WORDS)


def some_expression(source, levels):
    """An expression of at most so many levels, perhaps of more than 60 expressions."""
    words = ("int", "name", "next", "new", "field", "call", "add", "sub", "mul", "if", "let")
    word = source.choice(words if levels > 1 else words[:3])

    def below():
        return some_expression(source, levels - 1)

    if word == "int":
        return ("int", source.choice((0, 1, 9, 10, 65535, source.randrange(65536))))
    if word == "name":
        return ("name", source.choice(NAMES))
    if word == "next":
        return ("next",)
    if word == "new":
        many = source.choice((0, 0, 1, 2, 12))
        return ("new", some_class_name(source), tuple(below() for _ in range(many)))
    if word == "call":
        name = source.choice(NAMES) + "." + source.choice(NAMES)
        return ("call", name, tuple(below() for _ in range(source.randrange(1, 4))))
    if word == "field":
        return ("field", below(), some_class_name(source), source.choice(NAMES))
    if word == "if":
        return ("if", below(), below(), below())
    if word == "let":
        return ("let", source.choice(NAMES), below(), below())
    return (word, below(), below())


def some_fitting_expression(source):
    while True:
        made = some_expression(source, source.randrange(1, 8))
        if told_expression(made):
            return made


def some_module(source):
    """A module with any numbers of parts."""
    def row(least, most, make):
        return tuple(make() for _ in range(source.randrange(least, most + 1)))

    def name():
        return source.choice(NAMES)

    def class_name():
        return some_class_name(source)

    def pair():
        return (name(), class_name())

    def one_class():
        kind = source.choice(("open", "sealed"))
        return (source.choice(WORDS), kind, source.choice((True, False)),
                row(1, 12, class_name), row(0, 3, pair))

    def generic():
        takes = row(1, 3, class_name)
        return (name(), takes, source.randrange(1, len(takes) + 1), class_name())

    def method():
        return (name() + "." + name(), row(1, 3, pair), some_fitting_expression(source))

    return (name(), row(0, 4, name), row(0, 6, one_class), row(0, 3, generic), row(0, 8, method))


# What the document says of worlds, orders, calls and closed modules.

BASE = (
    "base", (),
    (("Any", "open", True, (), ()), ("Int", "sealed", False, ("base.Any",), ())), (), (),
)


class Broken(Exception):
    """A rule is broken, or an expression has no type."""


def need(truth, word="body"):
    if not truth:
        raise Broken(word)


def differ(words):
    return all(one != other for one, other in combinations(words, 2))


def told_world(value):
    """Whether value is a world."""
    if type(value) not in (list, tuple) or len(value) > 12 or not all(map(told_module, value)):
        return False
    uses = {module[0]: list(module[1]) for module in value}
    if len(uses) < len(value) or "base" in uses:
        return False
    if not all(differ(named) and set(named) <= set(uses) for named in uses.values()):
        return False
    # Take away what uses nothing that is left, until nothing is left or all that is goes round.
    while uses:
        free = [name for name in uses if not set(uses[name]) & set(uses)]
        if not free:
            return False
        for name in free:
            del uses[name]
    return True


class Told:
    """What the document says of a world."""

    def __init__(self, world):
        self.world = {module[0]: module for module in world}
        self.parts = {**self.world, "base": BASE}
        self.classes, self.generics, self.methods = {}, {}, {}
        for name, (_, _, classes, generics, methods) in sorted(self.parts.items()):
            for told in reversed(classes):
                self.classes[name + "." + told[0]] = told
            for told in reversed(generics):
                self.generics[name + "." + told[0]] = told
            for number, told in enumerate(methods):
                self.methods[name, number] = told
        self.order = self.closed_order()

    def closed_order(self):
        """All pairs of which one class is under the other."""
        ups = {name: {name} | set(told[3]) for name, told in self.classes.items()}
        grown = True
        while grown:
            grown = False
            for name in ups:
                more = set().union(*(ups.get(one, {one}) for one in ups[name]))
                if more != ups[name]:
                    ups[name], grown = more, True
        return {(name, one) for name in ups for one in ups[name]}

    def under(self, one, other):
        return one == other or (one, other) in self.order

    def view(self, name):
        if name == "base":
            return {"base"}
        return {"base", name}.union(*(self.view(used) for used in self.world[name][1]))

    def above(self, one):
        return tuple(sorted({one} | {b for a, b in self.order if a == one}))

    def concrete(self, one):
        return tuple(sorted(
            name for name, told in self.classes.items() if not told[2] and self.under(name, one)))

    def fields(self, one):
        """The triples (class, field, class of the field) of the objects of a class."""
        rows = []
        for name in self.above(one):
            for field, told in self.classes.get(name, BASE[2][0])[4]:
                if (name, field) not in [row[:2] for row in rows]:
                    rows.append((name, field, told))
        return tuple(rows)

    # Lawful modules.

    def fault(self, name):
        _, _, classes, generics, methods = self.world[name]
        for parts, rules in (
            (classes, (self.rule_class, self.rule_parent, self.rule_field)),
            (generics, (self.rule_generic,)), (methods, (self.rule_method, self.rule_body)),
        ):
            for number, told in enumerate(parts):
                for rule in rules:
                    try:
                        rule(name, parts[:number], *told)
                    except Broken:
                        return rule.__name__[5:], number
        return None

    def lawful(self):
        return all(self.fault(name) is None for name in self.world)

    def is_known(self, home, name, names):
        return name in names and name.split(".")[0] in self.view(home)

    def know_classes(self, home, names):
        for name in names:
            need(self.is_known(home, name, self.classes))

    def rule_class(self, home, before, word, kind, abstract, parents, fields):
        need(word not in [told[0] for told in before])

    def rule_parent(self, home, before, word, kind, abstract, parents, fields):
        need(differ(parents))
        self.know_classes(home, parents)
        for parent in parents:
            module, parent_word = parent.split(".")
            need(module == home or self.classes[parent][1] == "open")
            need(module != home or parent_word in [told[0] for told in before])

    def rule_field(self, home, before, word, kind, abstract, parents, fields):
        need(differ([field for field, _ in fields]))
        self.know_classes(home, [told for _, told in fields])

    def rule_generic(self, home, before, name, takes, by, gives):
        need(name not in [told[0] for told in before])
        self.know_classes(home, [*takes, gives])

    def rule_method(self, home, before, generic, params, body):
        need(self.is_known(home, generic, self.generics))
        _, takes, by, _ = self.generics[generic]
        need(len(takes) == len(params) and differ([name for name, _ in params]))
        classes = [told for _, told in params]
        self.know_classes(home, classes)
        need(all(self.under(one, take) for one, take in zip(classes, takes)))
        need(generic.startswith(home + ".") or classes[by - 1].startswith(home + "."))
        for told in before:
            need((told[0], [one for _, one in told[1]]) != (generic, classes))

    def rule_body(self, home, before, generic, params, body):
        gives = self.generics[generic][3]
        found = self.type(home, gives, [tuple(param) for param in params], body)
        need(self.under(found, gives))

    def type(self, home, gives, names, expression):
        """The type of an expression; of several pairs of names the last one counts."""
        def below(part, more=()):
            return self.type(home, gives, names + list(more), part)

        def fit(parts, classes):
            need(len(parts) == len(classes))
            for part, told in zip(parts, classes):
                need(self.under(below(part), told))

        word, *rest = expression
        if word == "int":
            return "base.Int"
        if word == "next":
            need(gives is not None)
            return gives
        if word == "name":
            need(rest[0] in dict(names))
            return dict(names)[rest[0]]
        if word == "new":
            self.know_classes(home, rest[:1])
            need(not self.classes[rest[0]][2] and rest[0] != "base.Int")
            fit(rest[1], [told for _, _, told in self.fields(rest[0])])
            return rest[0]
        if word == "field":
            self.know_classes(home, rest[1:2])
            fields = [told for name, told in self.classes[rest[1]][4] if name == rest[2]]
            need(fields)
            fit(rest[:1], [rest[1]])
            return fields[0]
        if word == "call":
            need(self.is_known(home, rest[0], self.generics))
            _, takes, _, told = self.generics[rest[0]]
            fit(rest[1], takes)
            return told
        if word == "if":
            need(below(rest[0]) == "base.Int")
            one, other = below(rest[1]), below(rest[2])
            need(self.under(one, other) or self.under(other, one))
            return other if self.under(one, other) else one
        if word == "let":
            return below(rest[2], [(rest[0], below(rest[1]))])
        need(below(rest[0]) == below(rest[1]) == "base.Int")
        return "base.Int"

    # Calls.

    def calls(self, generic):
        return product(*map(self.concrete, self.generics[generic][1]))

    def methods_of(self, generic):
        return tuple(
            (at, tuple(told for _, told in method[1]))
            for at, method in sorted(self.methods.items()) if method[0] == generic)

    def applicable(self, generic, classes):
        return tuple(
            at for at, told in self.methods_of(generic)
            if all(self.under(one, other) for one, other in zip(classes, told)))

    def near(self, one, other):
        return all(
            self.under(a[1], b[1]) for a, b in zip(self.methods[one][1], self.methods[other][1]))

    def best_of(self, methods):
        """The best one of the methods, or the word of NoBest."""
        found = [one for one in methods if all(self.near(one, other) for other in methods)]
        return found[0] if found else "many" if methods else "none"

    def chain_of(self, methods):
        """The chain that begins with the best one of the methods, or the word of NoBest."""
        last = self.best_of(methods)
        if type(last) is str or not stands_next(self.methods[last][2]):
            return last if type(last) is str else (last,)
        rest = self.chain_of([one for one in methods if one != last and self.near(last, one)])
        return rest if type(rest) is str else (last,) + rest

    def best(self, generic, classes):
        return self.best_of(self.applicable(generic, classes))

    def chain(self, generic, classes):
        return self.chain_of(self.applicable(generic, classes))

    def answers(self, generic, classes):
        module = generic.split(".")[0]
        owner = classes[self.generics[generic][2] - 1].split(".")[0]
        return owner if module in self.view(owner) else module

    def bad_calls(self, name):
        """The calls, as pairs of generic and classes, that the module answers for, and not good."""
        return [
            (generic, classes) for generic in sorted(self.generics)
            for classes in self.calls(generic)
            if self.answers(generic, classes) == name and type(self.chain(generic, classes)) is str]


def stands_next(expression):
    return "'next'" in str(expression)


def view_of(world, name):
    """The modules of the view of a module, without base."""
    names = Told(world).view(name)
    return tuple(module for module in world if module[0] in names)


def sets_of(told, names):
    """All sets of one or more of the classes, of which none is under another one."""
    return [
        row for many in range(1, len(names) + 1) for row in combinations(names, many)
        if not any(told.under(one, other) for one in row for other in row if one != other)]


def strange_world(world, name):
    """The view of a module, and modules in which every set of its open classes has a class.

    Those in modules knaa, knab .. know the module; those in modules unaa, unab .. do not, and
    there the sets are of classes of other modules. Sets with classes under others are left out, as
    they have the sights of smaller ones.
    """
    viewed = view_of(world, name)
    told = Told(viewed)
    opens = [one for one in sorted(told.classes) if told.classes[one][1] == "open"]
    others = [one for one in opens if not one.startswith(name + ".")]
    used = tuple(sorted({one.split(".")[0] for one in others} - {"base"}))
    modules = list(viewed)
    for start, names, uses in (("kn", opens, (name,)), ("un", others, used)):
        sets = sets_of(told, names)
        for at in range(0, len(sets), 6):
            classes = [
                (word, "sealed", False, row, ()) for word, row in zip("ABCDEF", sets[at:at + 6])]
            letters = "abcdefghijklmnopqrstuvwxyz"
            end = letters[at // 6 // 26] + letters[at // 6 - at // 6 // 26 * 26]
            modules.append((start + end, uses, tuple(classes), (), ()))
    return tuple(modules)


def told_closed(world, name):
    """Whether the module is closed, by a trial of all sets of open classes."""
    return not Told(strange_world(world, name)).bad_calls(name)


# Trees.

class Wrong(Exception):
    """A line of a tree is wrong."""

    def __init__(self, at):
        self.at = at


class Forest:
    """The calls that a module answers for, each with its chain, by the first lines of cases."""

    def __init__(self, world, name):
        self.name = name
        self.view = Told(view_of(world, name))
        self.told = told = Told(strange_world(world, name))
        self.cases = {}
        for generic, (_, takes, by, _) in sorted(self.view.generics.items()):
            own = [one for one in self.view.concrete(takes[by - 1]) if one.startswith(name + ".")]
            heads = own + (["others"] if generic.startswith(name + ".") else [])
            for word in heads:
                self.cases["for %s %s" % (generic, word)] = []
            for classes in told.calls(generic):
                if told.answers(generic, classes) == name:
                    word = classes[by - 1] if classes[by - 1] in own else "others"
                    self.cases["for %s %s" % (generic, word)].append((classes, told.chain(generic, classes)))

    def misfit(self, text):
        """The number of the first line that is wrong; None if there is none."""
        lines = re.findall("[^\n]*\n", text)
        try:
            at = 0
            for head, calls in self.cases.items():
                need_line(lines, at, lambda line: line == head + "\n")
                generic = head.split(" ")[1]
                at = self.behind(generic, lines, at + 1, calls, 0)
            if "".join(lines[:at]) != text:
                raise Wrong(at)
        except Wrong as wrong:
            return wrong.at
        return None

    def behind(self, generic, lines, at, calls, tests):
        """The number of the line behind the node for these calls."""
        need_line(lines, at, lambda line: True)
        many = len(self.view.generics[generic][1])
        test = re.fullmatch(r"under ([1-%d]) ([a-z]+[.][A-Z][a-z]*)\n" % many, lines[at])
        if test:
            position, one = int(test.group(1)) - 1, test.group(2)
            need_line(lines, at, lambda line: one in self.view.classes and tests < 200)
            sides = [], []
            for classes, run in calls:
                sides[0 if self.told.under(classes[position], one) else 1].append((classes, run))
            at = self.behind(generic, lines, at + 1, sides[0], tests + 1)
            return self.behind(generic, lines, at, sides[1], tests + 1)
        need_line(lines, at, lambda line: line == self.leaf(calls))
        return at + 1

    def leaf(self, calls):
        """The line of the node without tests for the calls; None if there is none."""
        runs = {run for _, run in calls}
        if not runs:
            return "never\n"
        if len(runs) > 1 or type(min(runs)) is str:
            return None
        return "use %s\n" % " ".join("%s:%d" % reference for reference in runs.pop())

    def drawn(self, source, most):
        """A right tree of drawn tests, some of which tell nothing, or None if one is too great."""
        lines = []
        for head, calls in self.cases.items():
            lines.append(head + "\n")
            generic = head.split(" ")[1]
            if not self.draw(source, generic, calls, lines, most):
                return None
        return "".join(lines)

    def draw(self, source, generic, calls, lines, most):
        leaf = self.leaf(calls)
        if leaf is not None and source.random() < 0.9:
            lines.append(leaf)
            return True
        if len(lines) > most:
            return False
        many = len(self.view.generics[generic][1])
        tests = [(at, one) for at in range(many) for one in sorted(self.view.classes)]
        telling = [
            (at, one) for at, one in tests
            if len({self.told.under(classes[at], one) for classes, _ in calls}) == 2]
        at, one = source.choice(telling if telling and source.random() < 0.8 else tests)
        lines.append("under %d %s\n" % (at + 1, one))
        for side in (True, False):
            left = [call for call in calls if self.told.under(call[0][at], one) is side]
            if not self.draw(source, generic, left, lines, most):
                return False
        return True


def need_line(lines, at, test):
    if at >= len(lines) or not test(lines[at]):
        raise Wrong(at)


def walked(told, text, name, generic, classes):
    """The references and the number of tests to which the text leads a call, case by case."""
    owner = classes[told.generics[generic][2] - 1]
    word = owner if owner.startswith(name + ".") else "others"
    rows = iter(text.split("for %s %s\n" % (generic, word))[1].split("\n"))
    tests = 0

    def skip():
        if next(rows).startswith("under"):
            skip()
            skip()

    for row in rows:
        words = row.split()
        if words[0] != "under":
            return tuple((module, int(at)) for module, at in (one.split(":") for one in words[1:])), tests
        tests += 1
        if not told.under(classes[int(words[1]) - 1], words[2]):
            skip()


# Tables.

def told_outcomes(world, generic):
    """The outcomes of all calls of the generic."""
    told = Told(world)
    return {classes: told.chain(generic, classes) for classes in told.calls(generic)}


def told_alike(told, outcomes, generic, at, one, other):
    """Whether two classes are alike at the position at, from 0 on."""
    return all(
        outcomes[call] == outcomes[call[:at] + (other,) + call[at + 1:]]
        for call in outcomes if call[at] == one)


# Sites.

def parts_at(expression):
    """The parts of an expression, in their order."""
    word, rest = expression[0], tuple(expression[1:])
    if word in ("new", "call", "straight"):
        return tuple(rest[1])
    return {"int": (), "name": (), "next": (), "field": rest[:1], "let": rest[1:]}.get(word, rest)


def spots(told, home, gives, names, expression, path=()):
    """For each expression in an expression, itself first: its path, itself, the names around it."""
    yield path, expression, names
    for number, part in enumerate(parts_at(expression)):
        more = names
        if expression[0] == "let" and number == 1:
            more = names + [(expression[1], told.type(home, gives, names, expression[2]))]
        yield from spots(told, home, gives, more, part, path + (number,))


def body_spots(told, home, number):
    """The triples (path, expression, type) of all expressions in the body of a method."""
    generic, params, body = told.world[home][4][number]
    gives = told.generics[generic][3]
    for path, expression, names in spots(told, home, gives, [tuple(one) for one in params], body):
        yield path, expression, told.type(home, gives, names, expression)


def told_sites(world, home):
    told = Told(world)
    rows = []
    for number in range(len(told.world[home][4])):
        types = {path: found for path, _, found in body_spots(told, home, number)}
        for path, expression, _ in body_spots(told, home, number):
            if expression[0] == "call":
                classes = tuple(types[path + (at,)] for at in range(len(expression[2])))
                rows.append((number, path, expression[1], classes))
    return tuple(rows)


def can_occur(told, classes):
    """All calls that can occur at a site of these classes."""
    return product(*map(told.concrete, classes))


class Occurring:
    """The calls that can occur at a site in a world with a class for every set of open classes."""

    def __init__(self, told, view, generic, classes):
        self.view = view
        by = told.generics[generic][2]
        self.calls = list(can_occur(told, classes))
        self.found = {told.best(generic, call) for call in self.calls}
        # A module with such an owner class can have a method for it.
        self.strange_owner = any(call[by - 1].split(".")[0] not in view for call in self.calls)

    def straight(self):
        """The reference that straight returns, or None."""
        if len(self.found) != 1 or self.strange_owner or type(min(self.found)) is str:
            return None
        return min(self.found)

    def has_best(self):
        """Whether some call has a best method in some world."""
        return self.strange_owner or any(type(one) is tuple for one in self.found)


# Runs.

class Whole(Told):
    """What the document says of a world, where every module knows all others."""

    def view(self, name):
        return set(self.parts)

    def type_of(self, expression):
        return self.type("base", None, [], expression)


def has_type(told, value):
    """Whether value is an expression that has a type where all modules are known."""
    try:
        return told_expression(value) and bool(told.type_of(value))
    except Broken:
        return False


class Stop(Exception):
    """A run stops: (the name of the error, its word)."""


class Runner:
    """An evaluator that calls itself; codes are pairs of a module's name and its code."""

    def __init__(self, world, fuel, codes=()):
        self.told = Told(world)
        self.fuel = fuel
        self.steps = self.choices = 0
        self.bodies = {at: told[2] for at, told in self.told.methods.items()}
        for name, code in codes:
            for number, body in enumerate(code):
                self.bodies[name, number] = body

    def outcome(self, expression):
        """The triple (value, steps, choices), or the pair of an error and its word."""
        try:
            return self.value(expression, {}, None, 0), self.steps, self.choices
        except Stop as stop:
            return stop.args

    def value(self, expression, names, running, depth):
        if self.steps >= self.fuel:
            raise Stop("Spent", "steps")
        self.steps += 1
        word, *rest = expression

        def below(part, more=()):
            return self.value(part, {**names, **dict(more)}, running, depth)

        if word == "int":
            return rest[0]
        if word == "name":
            return names[rest[0]]
        if word == "new":
            values = tuple(below(part) for part in rest[1])
            made = ("object", rest[0], values)
            if weight(made) > 200:
                raise Stop("Spent", "size")
            return made
        if word == "field":
            _, one, values = below(rest[0])
            return values[[row[:2] for row in self.told.fields(one)].index((rest[1], rest[2]))]
        if word in ("add", "sub", "mul"):
            one, other = below(rest[0]), below(rest[1])
            return {"add": one + other, "sub": one - other, "mul": one * other}[word] % 65536
        if word == "if":
            return below(rest[1]) if below(rest[0]) != 0 else below(rest[2])
        if word == "let":
            return below(rest[2], [(rest[0], below(rest[1]))])
        if word == "next":
            return self.enter(None, running[1], running, depth)
        values = tuple(below(part) for part in rest[1])
        if word == "straight":
            return self.enter(tuple(rest[0]), values, running, depth)
        return self.enter(rest[0], values, running, depth)

    def enter(self, target, values, running, depth):
        """The value of a body: of a generic's best method, of the one told, or of the next one."""
        if depth == 30:
            raise Stop("Spent", "calls")
        classes = tuple(value_class(value) for value in values)
        if type(target) is str:
            target = self.told.best(target, classes)
            self.choices += 1
        elif target is None:
            last = running[0]
            target = self.told.best_of([
                one for one in self.told.applicable(self.told.methods[last][0], classes)
                if one != last and self.told.near(last, one)])
        if type(target) is str:
            raise Stop("Stuck", target)
        names = [name for name, _ in self.told.methods[target][1]]
        return self.value(self.bodies[target], dict(zip(names, values)), (target, values), depth + 1)


def weight(value):
    """The number of integers and objects of a value."""
    return 1 if type(value) is int else 1 + sum(map(weight, value[2]))


def value_class(value):
    return "base.Int" if type(value) is int else value[1]


def outcome_of(ask, *arguments):
    """What a run returns, or the pair of the name of its error and its word."""
    try:
        return ask(*arguments)
    except (Spent, Stuck) as error:
        return type(error).__name__, error.word


# Lawful worlds of all kinds, by a random source too.

CLASS_WORDS = ("A", "B", "C", "D", "E", "F")
FIELDS = ("f", "g", "h")
PARAMS = ("x", "y", "z")


def some_different(source, things, least, most):
    """A tuple of different ones of the things."""
    most = min(most, len(things))
    return tuple(source.sample(list(things), source.randint(min(least, most), most)))


def lawful_world(source, names, classes, generics, methods, levels=0, takes=3):
    """A lawful world of modules of these names, each with at most so many parts.

    Bodies have at most so many levels; with 0 they are an integer or have a next in them.
    """
    world = []
    for name in names:
        uses = some_different(source, [module[0] for module in world], 0, 4)
        world.append(lawful_module(source, world, (name, uses), classes, generics, methods, levels, takes))
    source.shuffle(world)
    return tuple(world)


def lawful_module(source, world, head, classes, generics, methods, levels, takes):
    """A lawful module for the world, of at most so many parts; what is not lawful is left out."""
    rows = ([], [], [])

    def made():
        return head + tuple(tuple(row) for row in rows)

    def add(row, part):
        row.append(part)
        if len(row) > 8 or Told(world + [made()]).fault(head[0]) is not None:
            row.pop()

    for row, many, make in (
        (rows[0], classes, lawful_class), (rows[1], generics, lawful_generic), (rows[2], methods, lawful_method),
    ):
        for _ in range(many):
            told = Told(world + [made()])
            part = make(source, told, head[0], levels if make == lawful_method else takes)
            if part is not None:
                add(row, part)
        if row is rows[1]:
            # Without methods for all calls hardly a module would be closed.
            for name, takes, _, _ in list(row):
                if source.random() < 0.7:
                    add(rows[2], (head[0] + "." + name, tuple(zip(PARAMS, takes)), ("int", 0)))
    return made()


def known_classes(told, home):
    view = told.view(home)
    return [name for name in sorted(told.classes) if name.split(".")[0] in view]


def lawful_class(source, told, home, _):
    known = known_classes(told, home)
    parents = [
        one for one in known
        if one.startswith(home + ".") or told.classes[one][1] == "open" and one != "base.Any"]
    parents = some_different(source, parents, 0, source.choice((1, 1, 2, 3))) or ("base.Any",)
    fields = ()
    if source.random() < 0.2:
        fields = tuple((name, source.choice(known)) for name in some_different(source, FIELDS, 1, 3))
    return (source.choice(CLASS_WORDS), source.choice(("open", "open", "sealed")), source.random() < 0.25,
            parents, fields)


def lawful_generic(source, told, home, takes):
    known = known_classes(told, home)
    takes = tuple(source.choice(known) for _ in range(source.randint(1, takes)))
    gives = source.choice(("base.Int", "base.Int", "base.Any", source.choice(known)))
    return (source.choice("pqr"), takes, source.randint(1, len(takes)), gives)


def lawful_method(source, told, home, levels):
    view = told.view(home)
    known = [name for name in sorted(told.generics) if name.split(".")[0] in view]
    if not known:
        return None
    generic = source.choice(known)
    _, takes, by, gives = told.generics[generic]
    classes = [
        [one for one in known_classes(told, home) if told.under(one, take)] for take in takes]
    if not generic.startswith(home + "."):
        classes[by - 1] = [one for one in classes[by - 1] if one.startswith(home + ".")]
    if not all(classes):
        return None
    params = tuple((name, source.choice(row)) for name, row in zip(PARAMS, classes))
    if levels == 0:
        return (generic, params, short_body(source, gives))
    for _ in range(5):
        body = lawful_body(source, told, home, gives, dict(params), gives, levels)
        if body is not None and told_expression(body):
            return (generic, params, body)
    return None


def short_body(source, gives):
    """A body that is an integer, where it may be one, or in which next stands."""
    bodies = [("int", 1)] * 3 + [("next",), ("add", ("next",), ("add", ("int", 1), ("next",)))]
    if gives not in ("base.Int", "base.Any"):
        bodies = [("next",)]
    elif gives == "base.Any":
        bodies = [("int", 1)] * 2 + [("next",)]
    return source.choice(bodies)


def lawful_body(source, told, home, gives, names, due, levels):
    """An expression of a type under the due one; None if none is found."""
    def below(one, more=None):
        return lawful_body(source, told, home, gives, more or names, one, levels - 1)

    makes = [("name", name) for name, one in sorted(names.items()) if told.under(one, due)]
    if told.under("base.Int", due):
        makes.append(("int", source.randrange(9)))
    if told.under(gives, due):
        makes.append(("next",))
    if levels > 1:
        view = told.view(home)
        makes.extend([("if",), ("let",)])
        makes.extend(
            ("new", one) for one in known_classes(told, home)
            if not told.classes[one][2] and one != "base.Int" and told.under(one, due))
        makes.extend(
            ("field", name, field) for name in known_classes(told, home)
            for field, one in told.classes[name][4] if told.under(one, due))
        makes.extend(
            ("call", name) for name, one in sorted(told.generics.items())
            if name.split(".")[0] in view and told.under(one[3], due))
        if told.under("base.Int", due):
            makes.extend([("add",), ("sub",), ("mul",)])
    if not makes:
        return None
    made = source.choice(makes)
    word = made[0]
    if word in ("name", "int", "next"):
        return made
    if word == "new":
        parts = tuple(below(one) for _, _, one in told.fields(made[1]))
        return None if None in parts else made + (parts,)
    if word == "call":
        parts = tuple(below(one) for one in told.generics[made[1]][1])
        return None if None in parts else made + (parts,)
    if word == "field":
        parts = ("field", below(made[1])) + made[1:]
    elif word == "if":
        parts = ("if", below("base.Int"), below(due), below(due))
    elif word == "let":
        one = source.choice(known_classes(told, home))
        name = source.choice(PARAMS + ("w",))
        parts = ("let", name, below(one), below(due, {**names, name: one}))
    else:
        parts = (word, below("base.Int"), below("base.Int"))
    return None if None in parts else parts
