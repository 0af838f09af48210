"""Promises [16], [19], [20], [26] and [37]: worlds, views and bodies of the greatest sizes."""

import unittest
from random import Random

from callwarrant.calls import applicable, best, chain, methods_of
from callwarrant.checking import tree_holds
from callwarrant.closing import answers, breach, is_closed
from callwarrant.coding import code_of, run_codes, straight_count
from callwarrant.errors import BadValue, InUse, NoBest
from callwarrant.forms import is_module
from callwarrant.links import Link
from callwarrant.orders import above, class_names, concrete, fields_of, under
from callwarrant.reading import parse, parse_expression
from callwarrant.running import run
from callwarrant.straights import bend, sites, straight
from callwarrant.tables import groups, table, tells_apart
from callwarrant.trees import tree, walk
from callwarrant.worlds import fault, is_lawful, is_world, view
from tests.helper import Told, as_lists, outcome_of, sum_of, told_measure, told_world, view_of

NAMES = tuple("abcdefghijkl")
WORDS = "ABCDEF"
ONE = ("int", 1)


def body(generic, last=ONE):
    """A body of 60 expressions and 7 levels that calls the generic, and ends in the last one."""
    call = ("call", generic, (sum_of(7, ONE), ("next",), sum_of(5, ONE)))
    four = ("if", ONE, ONE, ONE)
    let = ("let", "w", sum_of(3, four), ("mul", ("name", "w"), sum_of(3, ONE)))
    return ("add", ("let", "v", ("next",), sum_of(29, ("name", "v"))), ("if", call, let, last))


def great_module(at):
    """A module of the greatest numbers of parts that uses the modules before it."""
    name = NAMES[at]
    uses = NAMES[max(0, at - 4):at]
    classes = []
    for number, word in enumerate(WORDS):
        up = [name + "." + one for one in WORDS[:number]]
        up.extend(used + "." + one for used in uses for one in WORDS)
        fields = (("f", "base.Int"), ("g", "base.Any"), ("h", name + ".F"))
        classes.append((word, "open", word == "A", tuple(up[-12:]) or ("base.Any",), fields if at == 0 else ()))
    generics = tuple((one, ("base.Any",) * 3, 2, "base.Int") for one in "pqr")
    methods = tuple(
        (name + "." + "pqr"[number % 3], tuple(
            (param, name + "." + WORDS[(number * step + number // 6) % 6]) for param, step in zip("xyz", (1, 5, 2))),
         body("a.p"))
        for number in range(8))
    return (name, uses, tuple(classes), generics, methods)


WORLD = tuple(great_module(at) for at in range(12))


class Greatest(unittest.TestCase):

    def test_the_world_is_of_the_greatest_size(self):
        self.assertEqual(told_measure(body("a.p")), (60, 7))
        for name, uses, classes, generics, methods in WORLD:
            self.assertEqual((len(classes), len(generics), len(methods)), (6, 3, 8))
        self.assertEqual(len(WORLD), 12)

    def test_worlds(self):
        self.assertTrue(all(map(is_module, WORLD)))
        self.assertIs(is_world(WORLD), True)
        self.assertTrue(told_world(WORLD))
        self.assertIs(is_lawful(WORLD), True)
        self.assertIs(is_lawful(as_lists(WORLD)), True)
        for at, name in enumerate(NAMES):
            self.assertEqual(view(WORLD, name), tuple(sorted(NAMES[:at + 1] + ("base",))))
            self.assertIsNone(fault(WORLD, name))

    def test_the_last_part_of_the_last_module_counts(self):
        last = WORLD[-1]
        generic, params, _ = last[4][7]
        wrong = body("a.p", ("name", "w"))
        world = WORLD[:-1] + (last[:4] + (last[4][:7] + ((generic, params, wrong),),),)
        self.assertIs(is_world(world), True)
        self.assertEqual(fault(world, "l"), ("body", 7))
        self.assertIs(is_lawful(world), False)
        for ask, more in ((class_names, ()), (above, ("a.A",)), (best, ("a.p", ("a.B",) * 3))):
            with self.assertRaises(BadValue) as caught:
                ask(world, *more)
            self.assertEqual(caught.exception.at, 0)

    def test_orders(self):
        told = Told(WORLD)
        self.assertEqual(len(class_names(WORLD)), 74)
        for one in ("a.A", "c.F", "l.A", "l.F", "base.Int"):
            self.assertEqual(above(WORLD, one), told.above(one))
            self.assertEqual(concrete(WORLD, one), told.concrete(one))
            self.assertEqual(fields_of(WORLD, one), tuple(row[:2] for row in told.fields(one)))
        self.assertIs(under(WORLD, "l.F", "a.A"), told.under("l.F", "a.A"))
        self.assertGreater(len(above(WORLD, "l.F")), 40)

    def test_calls(self):
        source = Random(33)
        told = Told(WORLD)
        names = concrete(WORLD, "base.Any")
        for _ in range(40):
            generic = source.choice(NAMES) + "." + source.choice("pqr")
            classes = tuple(source.choice(names) for _ in range(3))
            self.assertEqual(answers(WORLD, generic, classes), told.answers(generic, classes))
            self.assertEqual(applicable(WORLD, generic, classes), told.applicable(generic, classes))
            for ask, expected in ((best, told.best(generic, classes)), (chain, told.chain(generic, classes))):
                try:
                    found = ask(WORLD, generic, classes)
                except NoBest as error:
                    found = error.word
                self.assertEqual(found, expected)
        self.assertEqual(len(methods_of(WORLD, "a.p")), 3)

    def test_closing(self):
        for at, name in enumerate(NAMES):
            for ask in (is_closed, breach):
                if at < 6:
                    self.assertEqual(ask(WORLD, name), ask(WORLD[:at + 1], name))
                else:
                    with self.assertRaises(BadValue) as caught:
                        ask(WORLD, name)
                    self.assertEqual(caught.exception.at, 1)
        self.assertIs(is_closed(WORLD, "f"), False)


# Six modules, each with eight methods for one generic of the first one: where an own class stands
# at the owner position, there is a method for each pair of what the other two positions tell.
PAINTS = ("base.Any", "a.Red", "a.Green", "a.Blue")
FIRST_TEXT = """module a {
  open class K extends base.Any { }
  open class L extends base.Any { }
  sealed class Red extends base.Any { }
  sealed class Green extends base.Any { }
  sealed class Blue extends base.Any { }
  open abstract class M extends a.L { }
  generic g(base.Any, base.Any, base.Any) by 2 gives base.Int
  %s
}"""


def paint_methods(own):
    return [
        "method a.g(x: %s, o: %s, y: %s) = 1" % (one, own, other)
        for one in PAINTS for other in ("base.Any", "a.Red")]


def paint_text(at, methods):
    """The module of this number, whose open classes extend those of all before it."""
    if at == 0:
        return FIRST_TEXT % "\n".join(methods)
    name, before = "abcdef"[at], "abcdef"[max(0, at - 4):at]
    ups = ", ".join("%s.%s" % (one, word) for one in before for word in "KL")
    classes = ["open class K extends %s { }" % ups] + [
        "open %sclass %s extends %s { }" % (abstract, word, ups)
        for word, abstract in (("L", "abstract "), ("N", ""), ("O", "abstract "), ("P", ""), ("Q", ""))]
    methods = [method.replace("OWN", name + ".K") for method in methods]
    return "module %s uses %s {\n%s\n}" % (name, ", ".join(before), "\n".join(classes + methods))


def paint_world(last_methods):
    """Six modules with all methods but in the last one."""
    texts = [paint_text(at, paint_methods("base.Any" if at == 0 else "OWN")) for at in range(5)]
    return tuple(map(parse, texts + [paint_text(5, last_methods)]))


class GreatViews(unittest.TestCase):

    def check_breach(self, world, name):
        modules, generic, classes = breach(world, name)
        both = view_of(world, name) + modules
        self.assertIs(is_lawful(both), True)
        self.assertEqual(answers(both, generic, classes), name)
        with self.assertRaises(NoBest) as caught:
            chain(both, generic, classes)
        self.assertLessEqual(len(modules), 2)
        self.assertLessEqual(sum(len(module[2]) for module in modules), 3)
        return modules, caught.exception.word

    def test_closed(self):
        world = paint_world(paint_methods("OWN"))
        self.assertEqual(len(methods_of(world, "a.g")), 48)
        for name in "abcdef":
            self.assertIs(is_closed(world, name), True)
            self.assertIsNone(breach(as_lists(world), name))

    def test_each_method_left_out_of_the_last_module(self):
        # For the last module's class K there are then those of the module before it.
        every = paint_methods("OWN")
        for at in range(8):
            world = paint_world(every[:at] + every[at + 1:])
            self.assertIs(is_closed(world, "e"), True)
            self.assertIs(is_closed(world, "f"), at == 0)
            if at > 0:
                _, word = self.check_breach(world, "f")
                self.assertEqual(word, "many")

    def test_open_classes_in_place_of_sealed_ones(self):
        # Two of them that are open have a class in common elsewhere.
        for words in (("Red",), ("Blue",), ("Red", "Green"), ("Green", "Blue"), ("Red", "Green", "Blue")):
            text = paint_text(0, paint_methods("base.Any"))
            for word in words:
                text = text.replace("sealed class " + word, "open class " + word)
            world = (parse(text),) + paint_world(paint_methods("OWN"))[1:]
            for name in "abcdef":
                self.assertIs(is_closed(world, name), len(words) == 1)
                if len(words) > 1:
                    modules, word = self.check_breach(world, name)
                    self.assertEqual((word, len(modules)), ("many", 1))


def sum_tree(parts):
    """The sum of the parts, in as few levels as may be."""
    if len(parts) == 1:
        return parts[0]
    half = len(parts) // 2
    return ("add", sum_tree(parts[:half]), sum_tree(parts[half:]))


def row_module(at):
    """A closed module of the greatest numbers of parts; its classes are all in one row."""
    name = NAMES[at]
    before = NAMES[at - 1] + ".F" if at else "base.Any"
    classes = tuple(
        (word, "open", word == "C", (name + "." + up if up else before,), ())
        for word, up in zip(WORDS, ("",) + tuple(WORDS)))
    generics = tuple((one, ("base.Any",) * 3, 2, "base.Int") for one in "pqr")
    names = [("name", one) for one in "xyz"]
    homes = NAMES[max(0, at - 1):at + 1]
    calls = [
        ("call", "%s.%s" % (homes[number % len(homes)], "pqr"[number % 3]), tuple(names[number % 3:] + names[:number % 3]))
        for number in range(11)]
    heads = [(name + "." + one, "base.Any", ONE) for one in "pqr"]
    heads += [("a.p", name + "." + word, ("next",)) for word in "ABCDE"]
    methods = tuple(
        (generic, (("x", "base.Any"), ("y", owner), ("z", "base.Any")), sum_tree(calls + [last]))
        for generic, owner, last in heads)
    return (name, tuple(NAMES[max(0, at - 1):at]), classes, generics, methods)


ROW_WORLD = tuple(row_module(at) for at in range(6))


class GreatRows(unittest.TestCase):

    def test_sizes(self):
        self.assertTrue(all(map(is_module, ROW_WORLD)))
        self.assertIs(is_lawful(ROW_WORLD), True)
        self.assertEqual(len(view(ROW_WORLD, "f")), 7)
        for _, _, classes, generics, methods in ROW_WORLD:
            self.assertEqual((len(classes), len(generics), len(methods)), (6, 3, 8))

    def test_trees(self):
        source = Random(41)
        told = Told(ROW_WORLD)
        for name in "af":
            self.assertIs(is_closed(ROW_WORLD, name), True)
            text = tree(ROW_WORLD, name)
            self.assertIs(tree_holds(ROW_WORLD, name, text), True)
            own = [one for one in concrete(ROW_WORLD, "base.Any") if one.startswith(name + ".")]
            for _ in range(8):
                generic = source.choice([one for one in told.generics if one[0] <= name])
                classes = tuple(source.choice(own) for _ in range(3))
                found, _ = walk(ROW_WORLD, name, text, generic, classes)
                self.assertEqual(found, told.chain(generic, classes))
        self.assertEqual(len(chain(ROW_WORLD, "a.p", ("f.F",) * 3)), 31)
        self.assertEqual(sum(line.startswith("for ") for line in text.split("\n")), 18 * 5 + 3)

    def test_sites_and_codes(self):
        for name in "af":
            found = sites(ROW_WORLD, name)
            self.assertEqual(len(found), 88)
            code = code_of(ROW_WORLD, name)
            self.assertEqual(code, code_of(view_of(ROW_WORLD, name), name))
            self.assertEqual(straight_count(code), 0)
            for number, path, generic, classes in found[::12]:
                self.assertIsNone(straight(ROW_WORLD, name, number, path))
                one, other = bend(ROW_WORLD, name, number, path)
                viewed = view_of(ROW_WORLD, name)
                outcomes = [best(viewed + modules, generic, call) for modules, call in (one, other)]
                self.assertNotEqual(outcomes[0], outcomes[1])
        # With sealed classes in place of open ones all calls of own classes are straight.
        name, uses, classes, generics, methods = ROW_WORLD[0]
        sealed = (name, uses, tuple((told[0], "sealed") + told[2:] for told in classes), tuple(
            (one, ("a.A",) * 3, 2, "base.Int") for one in "pqr"), tuple(
            (generic, tuple((param, "a.A" if told == "base.Any" else told) for param, told in params), body)
            for generic, params, body in methods if params[1][1] == "base.Any"))
        self.assertIs(is_closed((sealed,), "a"), True)
        code = code_of((sealed,), "a")
        self.assertEqual(straight_count(code), 33)
        codes = (("a", code),)
        call = parse_expression("a.p(new a.A(), new a.B(), new a.F())")
        for fuel in (0, 1, 50, 1000, 5000):
            self.assertEqual(
                outcome_of(run_codes, (sealed,), codes, call, fuel)[:2], outcome_of(run, (sealed,), call, fuel))

    def test_links(self):
        link = Link()
        for module in ROW_WORLD:
            link.load(module)
        self.assertEqual(link.world(), ROW_WORLD)
        self.assertEqual(link.choose("a.p", ("f.F", "f.F", "a.A")), ("f", 7))
        call = parse_expression("a.p(1, new f.F(), 2)")
        self.assertEqual(outcome_of(link.run, call, 5000), outcome_of(run, ROW_WORLD, call, 5000))
        self.assertEqual(link.code("f"), code_of(ROW_WORLD, "f"))
        with self.assertRaises(InUse) as caught:
            link.unload("e")
        self.assertEqual(caught.exception.name, "f")

    def test_two_thousand_calls(self):
        # 44 classes at one position and 45 at the other one.
        names = NAMES[:11]
        modules = []
        for at, name in enumerate(names):
            classes = tuple(
                (word, "open", False, ("base.Any",) if (at, word) == (0, "A") else ("a.A",), ()) for word in "ABCD")
            generics = (("g", ("a.A", "base.Any"), 1, "base.Int"),) if at == 0 else ()
            methods = tuple(
                ("a.g", (("x", name + "." + word), ("y", told)), last)
                for word, told, last in (
                    ("A", "base.Any", ("next",)), ("A", "a.B", ONE), ("B", name + ".B", ONE), ("C", "base.Int", ("next",)),
                    ("D", "a.A", ONE)))
            modules.append((name, ("a",) if at else (), classes, generics, methods))
        world = tuple(modules)
        told = Told(world)
        outcomes = {call: told.chain("a.g", call) for call in told.calls("a.g")}
        self.assertEqual(len(outcomes), 1980)
        parts, cells = table(world, "a.g")
        self.assertEqual((groups(world, "a.g", 1), groups(world, "a.g", 2)), parts)
        self.assertEqual(len(cells), len(parts[0]) * len(parts[1]))
        self.assertEqual([sum(map(len, part)) for part in parts], [44, 45])
        for (one, other), outcome in cells:
            for first in parts[0][one]:
                for second in parts[1][other]:
                    self.assertEqual(outcomes[first, second], outcome)
        for part, at in zip(parts, (0, 1)):
            for one in part:
                self.assertIsNone(tells_apart(world, "a.g", at + 1, one[0], one[-1]))
                if one != part[0]:
                    call = tells_apart(world, "a.g", at + 1, one[0], part[0][0])
                    other = call[:at] + (part[0][0],) + call[at + 1:]
                    self.assertNotEqual(outcomes[call], outcomes[other])
