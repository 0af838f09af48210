"""Promises [13], [28] to [30]: lawful modules, and the first rule that a module breaks."""

import unittest
from itertools import combinations, permutations
from random import Random

from callwarrant.errors import BadValue, NoModule
from callwarrant.reading import parse
from callwarrant.worlds import fault, is_lawful
from tests.helper import Told, as_lists, changes, is_plain, lawful_world, told_world

TOOLS = parse("""module tools uses deep {
  open class Thing extends deep.Ground { weight: base.Int }
  sealed class Bolt extends tools.Thing { }
  open abstract class Idea extends base.Any { }
  generic turn(tools.Thing, base.Any) by 1 gives base.Int
  generic pair(base.Any, tools.Thing) by 2 gives tools.Thing
}""")
DEEP = parse("""module deep {
  open class Ground extends base.Any { }
  sealed class Rock extends deep.Ground { }
  generic dig(deep.Ground) by 1 gives deep.Ground
}""")
# A module that the main one does not know, and one that knows the main one.
FAR = parse("""module far {
  open class Off extends base.Any { }
  generic go(base.Any) by 1 gives base.Int
}""")
NEAR = parse("""module near uses m {
  open class By extends m.A { }
  generic get(m.A) by 1 gives base.Int
}""")
MAIN = parse("""module m uses tools {
  open class A extends tools.Thing { x: base.Int, y: base.Any }
  sealed class B extends m.A, base.Any { }
  open abstract class C extends deep.Ground, tools.Idea { z: tools.Bolt }
  generic p(m.A, tools.Thing) by 1 gives base.Int
  generic q(m.B) by 1 gives m.A
  generic r(base.Any, base.Any, deep.Ground) by 3 gives tools.Thing
  method m.p(a: m.A, b: tools.Thing) = 1
  method tools.turn(a: m.A, b: base.Any) = next
  method m.r(a: m.C, b: base.Int, c: deep.Rock) = new tools.Bolt(3)
}""")
CLASSES, GENERICS, METHODS = 2, 3, 4
ONE = ("int", 1)


def world_with(main):
    return (NEAR, TOOLS, main, FAR, DEEP)


def replaced(module, kind, number, part):
    """The module with another part in place of the one of this number."""
    parts = module[kind]
    return module[:kind] + (parts[:number] + (part,) + parts[number + 1:],) + module[kind + 1:]


def class_faults(number):
    """Pairs (rule, class) in place of the class of this number of MAIN, broken in one way each."""
    word, kind, abstract, parents, fields = MAIN[CLASSES][number]
    for other in MAIN[CLASSES][:number]:
        yield "class", (other[0], kind, abstract, parents, fields)
    rows = [
        (parents[0], parents[0]), ("base.Any",) + parents[:1] + ("base.Any",), ("tools.Bolt",),
        ("base.Int",), ("deep.Rock",), ("far.Off",), ("near.By",), ("none.Any",), ("tools.None",),
        ("base.None",), ("m.None",), ("m." + word,),
    ]
    rows.extend(("m." + later[0],) for later in MAIN[CLASSES][number:])
    for row in rows:
        yield "parent", (word, kind, abstract, row, fields)
        if row[0] != "base.Any":
            yield "parent", (word, kind, abstract, ("base.Any",) + row, fields)
    int_field = ("f", "base.Int")
    for name in ("far.Off", "near.By", "none.Any", "tools.None", "m.None", "base.None"):
        for row in (
            (("f", name),), (int_field, ("g", name)), (("g", name), int_field),
            (int_field, ("g", name), ("h", "base.Any")),
        ):
            yield "field", (word, kind, abstract, parents, row)
    for row in (
        (int_field, int_field), (int_field, ("f", "m.A")), (int_field, ("g", "m.A"), ("f", "m.B")),
        (("g", "m.A"), int_field, int_field),
    ):
        yield "field", (word, kind, abstract, parents, row)


def generic_faults(number):
    """The same for generics."""
    name, takes, by, gives = MAIN[GENERICS][number]
    for other in MAIN[GENERICS][:number]:
        yield "generic", (other[0], takes, by, gives)
    for unknown in ("far.Off", "near.By", "none.Any", "tools.None", "m.None", "base.None"):
        for at in range(len(takes)):
            yield "generic", (name, takes[:at] + (unknown,) + takes[at + 1:], by, gives)
        yield "generic", (name, takes, by, unknown)


def method_faults(number):
    """The same for methods."""
    generic, params, body = MAIN[METHODS][number]
    for unknown in ("far.go", "near.get", "none.p", "tools.none", "m.none", "base.p"):
        yield "method", (unknown, params, body)
        yield "method", (unknown, params[:1], body)
    yield "method", (generic, params[:-1], ONE)
    yield "method", (generic, params[:1], ONE)
    if len(params) < 3:
        yield "method", (generic, params + (("e", "base.Any"),), ONE)
    for at, other in permutations(range(len(params)), 2):
        same = tuple((params[other][0] if k == at else name, told) for k, (name, told) in enumerate(params))
        yield "method", (generic, same, body)
    for unknown in ("far.Off", "near.By", "none.Any", "tools.None", "m.None", "base.None"):
        for at, (name, _) in enumerate(params):
            yield "method", (generic, params[:at] + ((name, unknown),) + params[at + 1:], body)
    for at, wrong in {
        0: ((0, "base.Any"), (0, "tools.Thing"), (1, "deep.Ground"), (1, "base.Any"), (1, "m.C")),
        1: ((0, "base.Any"), (0, "base.Int"), (0, "tools.Thing"), (0, "tools.Bolt"), (0, "m.C")),
        2: ((2, "base.Any"), (2, "base.Int"), (2, "tools.Idea")),
    }[number]:
        name = params[at][0]
        yield "method", (generic, params[:at] + ((name, wrong),) + params[at + 1:], body)
    for other, others, _ in MAIN[METHODS][:number]:
        renamed = tuple((name, told) for name, (_, told) in zip("xyz", others))
        yield "method", (other, renamed, ONE)
    for wrong in (("name", "none"), ("new", "m.C", ()), ("add", ONE, ("name", "a")), ("name", "a")):
        if number < 2 or wrong != ("name", "a"):
            yield "body", (generic, params, wrong)


BROKEN = [
    (kind, number, rule, part)
    for kind, faults in ((CLASSES, class_faults), (GENERICS, generic_faults), (METHODS, method_faults))
    for number in range(3) for rule, part in faults(number)
]


class Faults(unittest.TestCase):

    def check(self, world, name, expected):
        for one in (world, as_lists(world), world[::-1]):
            self.assertEqual(fault(one, name), expected, world)
        self.assertEqual(Told(world).fault(name), expected)
        if expected is not None:
            self.assertIs(is_lawful(world), False)

    def test_lawful(self):
        world = world_with(MAIN)
        for module in world:
            self.check(world, module[0], None)
        self.assertIs(is_lawful(world), True)
        self.assertIs(is_lawful(as_lists(world)), True)
        self.assertIs(is_lawful(()), True)
        self.assertIs(is_lawful(value=[]), True)

    def test_each_way_to_break_each_rule(self):
        rules = {(rule, number) for _, number, rule, _ in BROKEN}
        self.assertEqual(len(rules), 3 * 6 - 1)
        for kind, number, rule, part in BROKEN:
            self.check(world_with(replaced(MAIN, kind, number, part)), "m", (rule, number))

    def test_plain_pair(self):
        kind, number, rule, part = BROKEN[-1]
        found = fault(world=as_lists(world_with(replaced(MAIN, kind, number, part))), name="m")
        self.assertTrue(is_plain(found))
        self.assertEqual(found, (rule, number))

    def test_several_broken_parts(self):
        # In different parts the first part counts, whatever its rule.
        source = Random(28)
        pairs = [two for two in combinations(BROKEN, 2) if two[0][:2] != two[1][:2]]
        for one, other in source.sample(pairs, 400):
            main = replaced(replaced(MAIN, *one[:2], one[3]), *other[:2], other[3])
            expected = Told(world_with(main)).fault("m")
            self.check(world_with(main), "m", expected)
            self.assertEqual(expected, (one[2], one[1]))

    def test_several_rules_broken_by_one_part(self):
        word, field = ("A", "B"), (("f", "none.Any"),)
        for rule, part in (
            ("class", (word[0], "open", False, ("none.Any",), field)),
            ("class", (word[0], "open", False, ("none.Any",), ())),
            ("class", (word[0], "open", False, ("base.Any",), field)),
            ("parent", (word[1], "open", False, ("none.Any",), field)),
            ("field", (word[1], "open", False, ("base.Any",), field)),
        ):
            self.check(world_with(replaced(MAIN, CLASSES, 1, part)), "m", (rule, 1))
        params = (("a", "none.Any"), ("b", "tools.Thing"))
        for rule, part in (
            ("method", ("m.p", params, ("name", "none"))),
            ("method", ("m.none", params, ("name", "none"))),
            ("body", ("m.p", (("a", "m.B"), ("b", "m.B")), ("name", "none"))),
        ):
            self.check(world_with(replaced(MAIN, METHODS, 0, part)), "m", (rule, 0))

    def test_last_part_of_the_greatest_modules(self):
        classes = tuple((word, "open", False, ("base.Any",), ()) for word in "ABCDEF")
        generics = tuple((name, ("base.Any",), 1, "base.Int") for name in ("p", "q", "r"))
        methods = tuple(
            ("m." + name, (("a", told),), ONE)
            for name in ("p", "q") for told in ("m.A", "m.B", "m.C", "m.D"))
        main = ("m", (), classes, generics, methods)
        self.check((main,), "m", None)
        self.check((replaced(main, CLASSES, 5, classes[0]),), "m", ("class", 5))
        self.check((replaced(main, GENERICS, 2, generics[1]),), "m", ("generic", 2))
        self.check((replaced(main, METHODS, 7, methods[0]),), "m", ("method", 7))
        for number in range(8):
            bad = methods[number][:2] + (("name", "b"),)
            self.check((replaced(main, METHODS, number, bad),), "m", ("body", number))

    def test_what_no_rule_forbids(self):
        # Fields and takes may name classes that stand behind, and the class itself.
        main = parse("""module m {
          open class A extends base.Any { a: m.A, b: m.B }
          open class B extends m.A { a: base.Any, b: m.A }
          sealed class C extends m.B, m.A, base.Any { }
          sealed class D extends m.C { }
          generic b(m.D) by 1 gives m.D
          generic a(m.A, m.A) by 2 gives base.Int
          method m.a(a: m.C, b: m.D) = 1
          method m.a(a: m.D, b: m.C) = 1
          method m.b(a: m.D) = next
          method m.a(b: m.D, a: m.D) = 1
        }""")
        self.check((main,), "m", None)

    def test_a_generic_of_its_own_may_have_any_owner_class(self):
        main = parse("""module m uses tools {
          generic g(base.Any) by 1 gives base.Int
          method m.g(a: base.Any) = 0
          method m.g(a: base.Int) = 1
          method m.g(a: tools.Bolt) = 2
          method m.g(a: deep.Ground) = 3
        }""")
        self.check(world_with(main)[1:], "m", None)

    def test_owner_positions_of_other_generics(self):
        text = """module m uses tools {
          sealed class A extends tools.Thing { }
          method tools.pair(a: %s, b: %s) = b
        }"""
        for a, b, expected in (
            ("base.Any", "m.A", None), ("m.A", "m.A", None), ("m.A", "tools.Thing", ("method", 0)),
            ("base.Any", "tools.Bolt", ("method", 0)),
        ):
            self.check(world_with(parse(text % (a, b)))[1:], "m", expected)

    def test_no_module(self):
        for name in ("base", "none", "", 0, True, None, [], ["m"], ("m",), [[]]):
            for world in (world_with(MAIN), (), world_with(replaced(MAIN, *BROKEN[0][:2], BROKEN[0][3]))):
                with self.assertRaises(NoModule) as caught:
                    fault(world, name)
                self.assertIs(caught.exception.name, name)

    def test_no_world(self):
        for world in (MAIN, (MAIN,), (DEEP, DEEP), None, 1, "deep", (("base", (), (), (), ()),)):
            for name in ("deep", "m", None):
                with self.assertRaises(BadValue) as caught:
                    fault(world, name)
                self.assertEqual(caught.exception.at, 0)
                self.assertIs(is_lawful(world), False)


class OtherModules(unittest.TestCase):
    """Parts of other modules are taken as declared, though they are not lawful."""

    def check(self, expected, *texts):
        world = tuple(parse(text) for text in texts)
        self.assertTrue(told_world(world))
        for one in (world, as_lists(world), world[::-1]):
            self.assertEqual(fault(one, "m"), expected, texts)
        self.assertEqual(Told(world).fault("m"), expected)

    def test_of_two_classes_the_first(self):
        for first, second, expected in (
            ("open", "sealed", None), ("sealed", "open", ("parent", 0)),
            ("open abstract", "sealed", None), ("sealed abstract", "open", ("parent", 0)),
        ):
            self.check(expected, "module m uses o { open class A extends o.X { } }", """module o {
              %s class X extends base.Any { }
              %s class X extends base.Any { }
            }""" % (first, second))
        for first, second, expected in (
            ("open", "open abstract", None), ("open abstract", "open", ("body", 0)),
        ):
            self.check(expected, """module m uses o {
              generic g(base.Int) by 1 gives base.Any
              method m.g(a: base.Int) = new o.X()
            }""", """module o {
              %s class X extends base.Any { }
              %s class X extends base.Any { f: base.Int }
            }""" % (first, second))

    def test_of_two_classes_the_first_one_extends(self):
        for first, second, expected in (
            ("o.Y", "base.Any", None), ("base.Any", "o.Y", ("method", 0)),
        ):
            self.check(expected, """module m uses o {
              generic g(o.Y) by 1 gives base.Int
              method m.g(a: o.X) = 1
            }""", """module o {
              open class Y extends base.Any { }
              open class X extends %s { }
              open class X extends %s { }
            }""" % (first, second))

    def test_of_two_generics_the_first(self):
        for generic, expected in (
            ("generic g(base.Any) by 1 gives base.Int", None),
            ("generic g(base.Any, base.Any) by 1 gives base.Int", ("method", 0)),
            ("generic g(base.Int) by 1 gives base.Int", ("method", 0)),
            ("generic g(base.Any) by 1 gives o.X", ("body", 0)),
        ):
            self.check(expected, """module m uses o {
              open class A extends o.X { }
              method o.g(a: m.A) = 1
            }""", """module o {
              open class X extends base.Any { }
              %s
              generic g(base.Any) by 1 gives base.Int
              generic g(base.Any, base.Any) by 2 gives base.Any
            }""" % generic)

    def test_of_two_fields_the_first(self):
        for first, second, body, expected in (
            ("base.Int", "o.X", "a.(o.X.f) + 1", None),
            ("o.X", "base.Int", "a.(o.X.f) + 1", ("body", 0)),
            ("base.Int", "o.X", "new o.X(1, 2).(o.X.g)", None),
            ("base.Int", "o.X", "new o.X(1, a, 2).(o.X.g)", ("body", 0)),
            ("o.X", "base.Int", "new o.X(1, 2).(o.X.g)", ("body", 0)),
            ("o.X", "base.Int", "new o.X(a, 2).(o.X.g)", None),
        ):
            self.check(expected, """module m uses o {
              generic g(o.X) by 1 gives base.Int
              method m.g(a: o.X) = %s
            }""" % body, """module o {
              open class X extends base.Any { f: %s, f: %s, g: base.Int }
            }""" % (first, second))

    def test_extensions_in_a_circle(self):
        others = """module o {
          open class X extends o.Y { f: base.Int }
          open class Y extends o.Z { }
          open class Z extends o.X { g: base.Int }
          open class W extends o.W, base.Any { }
          open class V extends o.V { }
        }"""
        for take, given, expected in (
            ("o.X", "o.Y", None), ("o.Y", "o.X", None), ("o.Z", "o.Y", None), ("o.X", "o.X", None),
            ("base.Any", "o.X", ("method", 0)), ("base.Any", "o.W", None), ("o.W", "o.W", None),
            ("base.Any", "o.V", ("method", 0)), ("o.V", "o.V", None), ("o.V", "o.X", ("method", 0)),
            ("o.X", "m.A", None), ("o.Z", "m.A", None), ("base.Any", "m.A", ("method", 0)),
            ("o.X", "base.Int", ("method", 0)),
        ):
            self.check(expected, """module m uses o {
              open class A extends o.X { }
              generic g(%s) by 1 gives base.Int
              method m.g(a: %s) = new m.A(1, 2).(o.Z.g)
            }""" % (take, given), others)

    def test_an_if_over_a_circle(self):
        text = """module m uses o {
          generic g(o.X, o.Y) by 1 gives %s
          method m.g(x: o.X, y: o.Y) = (if 1 then %s else %s).(%s.f)
        }"""
        for gives, one, other, name in (
            ("base.Int", "x", "y", "o.X"), ("base.Int", "y", "x", "o.X"), ("o.X", "x", "y", "o.Y"),
            ("o.Y", "x", "y", "o.Y"), ("o.Y", "y", "x", "o.Y"),
        ):
            self.check(None, text % (gives, one, other, name), """module o {
              open class X extends o.Y { f: base.Int }
              open class Y extends o.X { f: o.X }
            }""")

    def test_names_of_no_class(self):
        others = """module o {
          open class X extends none.Any { f: none.Field }
          open class Y extends o.None, base.Any { }
          generic g(none.Any) by 1 gives none.Gift
          generic h(none.Field) by 1 gives base.Int
          generic i(o.None) by 1 gives none.Gift
        }"""
        for part, expected in (
            ("method o.g(a: m.A) = next", None),
            ("method o.g(a: m.A) = o.g(a)", None),
            ("method o.g(a: m.B) = next", ("method", 0)),
            ("method o.i(a: m.B) = next", None),
            ("method o.i(a: m.A) = next", ("method", 0)),
            ("method o.i(a: m.B) = o.g(new m.A(a))", ("body", 0)),
            ("method o.g(a: m.A) = 1", ("body", 0)),
            ("method m.k(a: m.A) = o.h(a.(o.X.f))", None),
            ("method m.k(a: m.A) = o.h(a)", ("body", 0)),
            ("method m.k(a: m.A) = let b = a.(o.X.f) in o.h(if 0 then b else b)", None),
            ("method m.k(a: m.A) = o.h(new m.A(a.(o.X.f)).(o.X.f))", None),
            ("method m.k(a: m.A) = o.h(if 0 then a else a.(o.X.f))", ("body", 0)),
            ("method m.k(a: none.Any) = 1", ("method", 0)),
            ("method o.g(a: none.Any) = next", ("method", 0)),
        ):
            self.check(expected, """module m uses o {
              open class A extends o.X { }
              open class B extends o.Y { }
              generic k(o.X) by 1 gives base.Int
              %s
            }""" % part, others)

    def test_extensions_through_modules_outside_of_the_view(self):
        # Module o extends a class of p, which it does not use.
        others = (
            "module o { open class X extends p.Q { f: base.Int } generic g(base.Any) by 1 gives base.Int }",
            "module p { open class Q extends base.Any { a: base.Int } }",
        )
        for part, expected in (
            ("method m.h(a: o.X) = new o.X(1, 2).(o.X.f)", None),
            ("method m.h(a: o.X) = new o.X(1).(o.X.f)", ("body", 0)),
            ("method m.h(a: o.X) = a.(p.Q.a)", ("body", 0)),
        ):
            self.check(expected, """module m uses o {
              generic h(base.Any) by 1 gives base.Int
              %s
            }""" % part, *others)
        self.check(("method", 0), """module m uses o {
          generic h(base.Any) by 1 gives base.Int
          method m.h(a: o.X) = 1
        }""", others[0])

    def test_of_two_own_classes_the_first(self):
        # The second one breaks its own rule only.
        self.check(("class", 2), """module m {
          sealed class A extends base.Any { }
          open class B extends m.A { }
          open class A extends m.B { }
          generic g(m.B) by 1 gives base.Int
          method m.g(a: m.A) = 1
        }""")

    def test_only_the_module_itself_is_judged(self):
        world = tuple(parse(text) for text in (
            "module m uses o { open class A extends o.X { } }",
            "module o { open class X extends base.Any { } open class X extends none.Any { } }",
            "module p uses m { open class A extends m.None { } }",
        ))
        self.assertEqual([fault(world, name) for name in "mop"], [None, ("class", 1), ("parent", 0)])
        self.assertIs(is_lawful(world), False)
        self.assertIs(is_lawful(world[:2]), False)
        self.assertIs(is_lawful((world[0], parse("module o { open class X extends base.Any { } }"))), True)


class Trials(unittest.TestCase):

    def check(self, world):
        told = Told(world)
        found = [told.fault(module[0]) for module in world]
        for module, expected in zip(world, found):
            self.assertEqual(fault(world, module[0]), expected, world)
        self.assertIs(is_lawful(world), found.count(None) == len(found))
        return [one[0] for one in found if one is not None]

    def test_some_worlds(self):
        source = Random(13)
        for _ in range(40):
            names = ("m", "k", "j", "n")[:source.randint(1, 4)]
            world = lawful_world(source, names, 4, 2, 5, source.randint(0, 5))
            self.assertEqual(self.check(world), [])

    def test_every_change_of_a_world(self):
        rules = {}
        others = ("m.A", "tools.Thing", "tools.Bolt", "none.C", "m.p", "tools.turn", "A", "a", "open", ONE)
        for main in changes(MAIN, others):
            world = world_with(main)
            if told_world(world):
                for rule in self.check(world):
                    rules[rule] = rules.get(rule, 0) + 1
        self.assertEqual(set(rules), {"class", "parent", "field", "generic", "method", "body"})

    def test_every_change_of_another_module(self):
        for tools in changes(TOOLS, ("tools.Thing", "tools.Bolt", "none.C", "deep.Rock", "Bolt", "sealed")):
            world = (MAIN, tools, DEEP)
            if told_world(world):
                self.check(world)

    def test_changes_of_some_worlds(self):
        source = Random(29)
        for _ in range(25):
            world = lawful_world(source, ("m", "k", "j"), 4, 2, 4, source.randint(1, 5))
            others = ("m.A", "k.B", "j.C", "base.Any", "base.Int", "none.C", "m.p", "k.q", "A", "x")
            for one in source.sample(list(changes(world, others)), 150):
                if told_world(one):
                    self.check(one)
