"""Promises [16], [17] and [30]: arguments and errors of all functions, by place and by name."""

import inspect
import unittest
from copy import deepcopy
from unittest import mock

from callwarrant import calls, checking, closing, coding, forms, links, orders, printing, reading, running
from callwarrant import straights, tables, trees, types, worlds
from callwarrant.errors import BadText, BadTree, BadValue, NoBest, NoModule
from callwarrant.reading import parse
from tests.helper import ODD, as_lists, is_plain, told_expression, told_module

KIT = parse("""module kit {
  open class Tool extends base.Any { size: base.Int }
  sealed class Saw extends kit.Tool { }
  generic use(kit.Tool, base.Any) by 1 gives base.Int
  method kit.use(t: kit.Tool, a: base.Any) = t.(kit.Tool.size)
  method kit.use(t: kit.Saw, a: base.Any) = next + 1
}""")
YARD = parse("""module yard uses kit {
  sealed class Axe extends kit.Tool { edge: base.Any }
  method kit.use(t: yard.Axe, a: base.Int) = kit.use(new kit.Saw(0), t) * 0 + a
}""")
WORLD = (YARD, KIT)
YARD_TREE = "for kit.use yard.Axe\nunder 2 base.Int\nuse yard:0\nuse kit:0\n"
CODES = (("kit", (
    ("field", ("name", "t"), "kit.Tool", "size"), ("add", ("next",), ("int", 1)))), ("yard", ((
        "add", ("mul", ("straight", ("kit", 1), (("new", "kit.Saw", (("int", 0),)), ("name", "t"))), ("int", 0)), ("name", "a")),)))
UNLAWFUL = parse("module m { open class A extends m.B { } }")

# Each function: the names of its arguments, the kinds of those behind the world, an example.
WORLD_FUNCTIONS = (
    (worlds.view, ("world", "name"), ("module",), ("yard",), ("base", "kit", "yard")),
    (worlds.fault, ("world", "name"), ("module",), ("yard",), None),
)
FUNCTIONS = (
    (orders.under, ("world", "one", "other"), (1, 2), ("kit.Saw", "kit.Tool"), True),
    (orders.above, ("world", "one"), (1,), ("kit.Saw",), ("base.Any", "kit.Saw", "kit.Tool")),
    (orders.fields_of, ("world", "one"), (1,), ("yard.Axe",),
     (("kit.Tool", "size"), ("yard.Axe", "edge"))),
    (orders.class_names, ("world",), (), (), ("base.Any", "base.Int", "kit.Saw", "kit.Tool", "yard.Axe")),
    (orders.concrete, ("world", "one"), (1,), ("kit.Tool",), ("kit.Saw", "kit.Tool", "yard.Axe")),
    (calls.methods_of, ("world", "generic"), (1,), ("kit.use",), (
        (("kit", 0), ("kit.Tool", "base.Any")), (("kit", 1), ("kit.Saw", "base.Any")),
        (("yard", 0), ("yard.Axe", "base.Int")))),
    (calls.applicable, ("world", "generic", "classes"), (1, 2), ("kit.use", ("yard.Axe", "base.Int")),
     (("kit", 0), ("yard", 0))),
    (calls.best, ("world", "generic", "classes"), (1, 2), ("kit.use", ("kit.Saw", "kit.Saw")), ("kit", 1)),
    (calls.chain, ("world", "generic", "classes"), (1, 2), ("kit.use", ("kit.Saw", "kit.Saw")),
     (("kit", 1), ("kit", 0))),
    (closing.answers, ("world", "generic", "classes"), (1, 2), ("kit.use", ("yard.Axe", "kit.Saw")), "yard"),
    (closing.is_closed, ("world", "name"), ("module",), ("yard",), True),
    (closing.breach, ("world", "name"), ("module",), ("kit",), None),
    (trees.tree, ("world", "name"), ("module",), ("yard",), YARD_TREE),
    (trees.walk, ("world", "name", "text", "generic", "classes"), ("module", 2, 3, 4),
     ("yard", YARD_TREE, "kit.use", ("yard.Axe", "kit.Saw")), ((("kit", 0),), 1)),
    (tables.groups, ("world", "generic", "position"), (1, 2), ("kit.use", 1),
     (("kit.Saw",), ("kit.Tool",), ("yard.Axe",))),
    (tables.tells_apart, ("world", "generic", "position", "one", "other"), (1, 2, 3, 4),
     ("kit.use", 2, "kit.Saw", "kit.Tool"), None),
    (tables.table, ("world", "generic"), (1,), ("kit.use",), (
        ((("kit.Saw",), ("kit.Tool",), ("yard.Axe",)), (("base.Int",), ("kit.Saw", "kit.Tool", "yard.Axe"))), (
            ((0, 0), (("kit", 1), ("kit", 0))), ((0, 1), (("kit", 1), ("kit", 0))), ((1, 0), (("kit", 0),)),
            ((1, 1), (("kit", 0),)), ((2, 0), (("yard", 0),)), ((2, 1), (("kit", 0),))))),
    (straights.sites, ("world", "name"), ("module",), ("yard",), ((0, (0, 0), "kit.use", ("kit.Saw", "yard.Axe")),)),
    (straights.straight, ("world", "name", "method", "path"), ("module", 2, 3), ("yard", 0, (0, 0)), ("kit", 1)),
    (straights.bend, ("world", "name", "method", "path"), ("module", 2, 3), ("yard", 0, (0, 0)), None),
    (types.type_at, ("world", "name", "method", "path"), ("module", 2, 3), ("yard", 0, (0, 0)), "base.Int"),
    (types.type_of, ("world", "expression"), (1,), (("call", "kit.use", (("new", "kit.Tool", (("int", 5),)), ("int", 1))),),
     "base.Int"),
    (running.run, ("world", "expression", "fuel"), (1, 2),
     (("call", "kit.use", (("new", "kit.Tool", (("int", 5),)), ("int", 1))), 70), (5, 6)),
    (coding.code_of, ("world", "name"), ("module",), ("kit",), CODES[0][1]),
    (coding.run_codes, ("world", "codes", "expression", "fuel"), (1, 2, 3),
     (CODES, ("call", "kit.use", (("new", "kit.Tool", (("int", 5),)), ("int", 1))), 70), (5, 6, 1)),
)
# What is right for an argument of this name although it may stand among the values below.
RIGHT = {
    "method": (0,), "position": (1, 2), "fuel": (0, 1, 2, 7), "expression": (("int", 1),),
    "path": ((), []),
}
VALUES = tuple(value for value in ODD if value != "base.Int") + (
    [[[]]], (("kit",),), ["kit", ["kit.Saw"]], "kit.", "kit.None", "none.Saw", "Kit",
    "kit.use.", "kit.Saw.size", [YARD], KIT, as_lists(WORLD), 10 ** 30, -(10 ** 30), "line\nline",
)


def is_right(name, value):
    """Whether the value is right for an argument of this name; True is not 1."""
    return any(type(one) is type(value) and one == value for one in RIGHT.get(name, ()))


class Arguments(unittest.TestCase):

    def raised(self, ask, *arguments):
        """The error of a call, which changes none of its arguments."""
        before = deepcopy(arguments)
        with self.assertRaises((BadValue, NoModule)) as caught:
            ask(*arguments)
        self.assertEqual(arguments, before)
        return caught.exception

    def test_names_of_arguments(self):
        for ask, names, _, _, _ in WORLD_FUNCTIONS + FUNCTIONS:
            self.assertEqual(tuple(inspect.signature(ask).parameters), names)
        for ask in (worlds.is_world, worlds.is_lawful):
            self.assertEqual(tuple(inspect.signature(ask).parameters), ("value",))

    def test_examples(self):
        for ask, names, _, rest, expected in WORLD_FUNCTIONS + FUNCTIONS:
            for world in (WORLD, as_lists(WORLD), list(WORLD), WORLD[::-1]):
                for more in (rest, [list(one) if isinstance(one, tuple) else one for one in rest]):
                    before = deepcopy((world, more))
                    found = ask(world, *more)
                    self.assertEqual(found, expected)
                    self.assertIs(type(found), type(expected))
                    self.assertTrue(found is None or is_plain(found))
                    self.assertEqual(ask(**dict(zip(names, (world, *more)))), expected)
                    self.assertEqual((world, more), before)

    def test_the_world_comes_first(self):
        for value in VALUES + ((UNLAWFUL,), WORLD + (UNLAWFUL,), [KIT, KIT], WORLD[:1]):
            if value in ((), []) or value == as_lists(WORLD):
                continue
            for ask, names, _, rest, _ in FUNCTIONS:
                for more in (rest, (None,) * len(rest), ("none.none",) * len(rest)):
                    error = self.raised(ask, value, *more)
                    self.assertIs(type(error), BadValue)
                    self.assertEqual(error.at, 0)
                    self.assertIs(type(error.at), int)

    def test_worlds_that_are_not_lawful(self):
        for ask, _, _, _, _ in WORLD_FUNCTIONS:
            for value in ((KIT, KIT), WORLD[:1], None, KIT):
                self.assertEqual(self.raised(ask, value, "kit").at, 0)
            self.assertIs(type(self.raised(ask, (UNLAWFUL,), "kit")), NoModule)
            ask((UNLAWFUL,), "m")

    def test_each_argument_in_its_turn(self):
        for ask, names, kinds, rest, _ in WORLD_FUNCTIONS + FUNCTIONS:
            for at, kind in enumerate(kinds):
                for value in VALUES + ("base",):
                    if is_right(names[at + 1], value) and ask not in (straights.straight, straights.bend):
                        continue
                    if names[at + 1] == "method" and is_right("method", value):
                        continue
                    # The arguments before are right, those behind are right or wrong too.
                    for behind in (rest[at + 1:], (value,) * (len(rest) - at - 1)):
                        more = rest[:at] + (value,) + behind
                        error = self.raised(ask, WORLD, *more)
                        if kind == "module":
                            self.assertIs(type(error), NoModule)
                            self.assertIs(error.name, value)
                        else:
                            self.assertIs(type(error), BadValue)
                            self.assertEqual(error.at, kind)

    def test_what_the_package_returned_may_be_passed(self):
        found = calls.methods_of(WORLD, "kit.use")
        self.assertEqual(calls.best(WORLD, "kit.use", found[2][1]), found[2][0])
        self.assertEqual(self.raised(calls.best, WORLD, "kit.use", found[0][1]).at, 2)
        for value in (found, found[0], orders.class_names(WORLD)):
            self.assertIs(worlds.is_world(value), False)
            self.assertEqual(self.raised(calls.best, WORLD, "kit.use", value).at, 2)
            self.assertEqual(self.raised(orders.above, WORLD, value).at, 1)
        self.assertIs(self.raised(closing.is_closed, WORLD, found).name, found)

    def test_errors_of_calls_come_behind_those_of_arguments(self):
        world = (parse("module m { generic g(base.Any) by 1 gives base.Int }"),)
        for ask in (calls.best, calls.chain):
            with self.assertRaises(NoBest) as caught:
                ask(world, "m.g", ("base.Int",))
            self.assertEqual(caught.exception.word, "none")
            self.assertEqual(self.raised(ask, world, "m.g", ("base.Any",)).at, 2)
            self.assertEqual(self.raised(ask, world, "m.h", ("base.Int",)).at, 1)

    def test_same_arguments_same_answers(self):
        for ask, _, _, rest, expected in FUNCTIONS:
            for world in (WORLD, (UNLAWFUL,), as_lists(WORLD), None, WORLD):
                if world in ((UNLAWFUL,), None):
                    self.raised(ask, world, *rest)
                else:
                    self.assertEqual(ask(world, *rest), expected)


class Interface(unittest.TestCase):

    def test_names_of_arguments(self):
        for ask, names in (
            (forms.is_module, "value"), (forms.is_expression, "value"), (reading.parse, "text"),
            (reading.parse_expression, "text"), (printing.printed, "module"), (printing.printed_expression, "expression"),
            (checking.tree_holds, "world name text"), (running.class_of, "value"), (running.shown, "value"),
            (coding.straight_count, "code"), (links.Link, ""), (links.Link().load, "module"), (links.Link().unload, "name"),
            (links.Link().names, ""), (links.Link().world, ""), (links.Link().choose, "generic classes"),
            (links.Link().run, "expression fuel"), (links.Link().code, "name"), (links.Link().copy, ""),
        ):
            self.assertEqual(" ".join(inspect.signature(ask).parameters), names)

    def test_errors_of_texts_and_trees(self):
        for value in VALUES:
            before = deepcopy(value)
            for ask, error, more in (
                (checking.tree_holds, BadTree, (WORLD, "yard")), (reading.parse, BadText, ()),
                (printing.printed, BadValue, ()), (printing.printed_expression, BadValue, ()),
            ):
                if ask is printing.printed and told_module(value) or told_expression(value):
                    continue
                with self.assertRaises(error) as caught:
                    ask(*more, value)
                self.assertIs(type(caught.exception.at), int)
                self.assertEqual(value, before)
        for name in VALUES + ("base",):
            with self.assertRaises(NoModule) as caught:
                checking.tree_holds(WORLD, name, YARD_TREE)
            self.assertIs(caught.exception.name, name)
        self.assertIs(checking.tree_holds(text=YARD_TREE, name="yard", world=WORLD), True)

    def test_errors_of_links(self):
        link = links.Link()
        link.load(KIT)
        link.load(YARD)
        for value in VALUES:
            before = deepcopy(value)
            for ask, more, error, attribute in (
                (link.load, (), BadValue, 0), (link.unload, (), NoModule, value), (link.code, (), NoModule, value),
                (link.choose, (("yard.Axe", "base.Int"),), BadValue, 0), (link.run, (5,), BadValue, 0),
            ):
                if ask == link.load and value == KIT or ask == link.run and is_right("expression", value):
                    continue
                with self.assertRaises(error) as caught:
                    ask(value, *more)
                if error is BadValue:
                    self.assertEqual(caught.exception.at, attribute)
                else:
                    self.assertIs(caught.exception.name, value)
                self.assertEqual(value, before)
                self.assertEqual(link.world(), WORLD[::-1])
            for ask, first in ((link.choose, "kit.use"), (link.run, ("int", 1))):
                if ask == link.run and is_right("fuel", value):
                    continue
                with self.assertRaises(BadValue) as caught:
                    ask(first, value)
                self.assertEqual(caught.exception.at, 1)
        self.assertIsNone(link.unload(name="yard"))
        self.assertIsNone(link.load(module=YARD))


class Rows(unittest.TestCase):
    """Rows of calls, in which worlds follow one another that are almost the same."""

    def test_numbers_for_truths(self):
        # A class that is abstract by 1 or 0 is none, whatever world came before.
        (word, kind, _, parents, fields) = KIT[2][0]
        for truth in (False, True):
            def world(abstract):
                kit = KIT[:2] + (((word, kind, abstract, parents, fields),) + KIT[2][1:],) + KIT[3:]
                return (kit,)

            for right, wrong in ((world(truth), world(int(truth))), (as_lists(world(truth)), as_lists(world(int(truth))))):
                self.assertEqual(right, wrong)
                for _ in range(2):
                    self.assertIs(worlds.is_lawful(right), True)
                    self.assertEqual(len(orders.concrete(right, "kit.Tool")), 1 if truth else 2)
                    self.assertIs(worlds.is_lawful(wrong), False)
                    self.assertIs(worlds.is_world(wrong), False)
                    with self.assertRaises(BadValue) as caught:
                        orders.concrete(wrong, "kit.Tool")
                    self.assertEqual(caught.exception.at, 0)

    def test_truths_for_numbers(self):
        name, uses, classes, generics, methods = KIT
        generic, takes, _, gives = generics[0]
        by_true = (name, uses, classes, ((generic, takes, True, gives),), methods)
        in_body = (name, uses, classes, generics, methods[:1] + (
            (methods[1][0], methods[1][1], ("add", ("next",), ("int", True))),))
        for wrong in ((by_true,), (in_body,)):
            self.assertEqual(wrong, (KIT,))
            for _ in range(2):
                self.assertEqual(calls.best((KIT,), "kit.use", ("kit.Saw", "base.Int")), ("kit", 1))
                self.assertIs(worlds.is_lawful(wrong), False)
                for ask, more in ((calls.best, ("kit.use", ("kit.Saw", "base.Int"))), (running.run, (("int", 1), 5))):
                    with self.assertRaises(BadValue) as caught:
                        ask(wrong, *more)
                    self.assertEqual(caught.exception.at, 0)

    def test_lists_that_change(self):
        world = as_lists(WORLD)
        other = as_lists(WORLD)
        call = ("kit.use", ("kit.Saw", "base.Int"))
        self.assertEqual(calls.chain(world, *call), (("kit", 1), ("kit", 0)))
        # The method of kit.Saw without next, then not lawful, then as before.
        body = world[1][4][1][2]
        world[1][4][1][2] = ["int", 1]
        self.assertEqual(calls.chain(world, *call), (("kit", 1),))
        self.assertEqual(calls.chain(other, *call), (("kit", 1), ("kit", 0)))
        world[1][4][1][2] = ["name", "x"]
        with self.assertRaises(BadValue):
            calls.chain(world, *call)
        self.assertEqual(calls.chain(other, *call), (("kit", 1), ("kit", 0)))
        world[1][4][1][2] = body
        self.assertEqual(calls.chain(world, *call), (("kit", 1), ("kit", 0)))
        body[0] = "sub"
        self.assertEqual(running.run(world, ("call", "kit.use", (
            ("new", "kit.Saw", (("int", 0),)), ("int", 1))), 99)[0], 65535)
        self.assertEqual(running.run(other, ("call", "kit.use", (
            ("new", "kit.Saw", (("int", 0),)), ("int", 1))), 99)[0], 1)
        del world[1]
        with self.assertRaises(BadValue):
            calls.chain(world, *call)
        self.assertEqual(orders.class_names(other), orders.class_names(WORLD))

    def test_words_that_look_alike(self):
        # Texts of worlds with strings in which quotes and commas stand.
        for value in ("', '", "()", "[]", "((),)", "kit', (), (), (), ()), ('yard"):
            wrong = ((value, (), (), (), ()),)
            self.assertIs(worlds.is_lawful((("kit", (), (), (), ()),)), True)
            self.assertIs(worlds.is_lawful(wrong), False)
            self.assertIs(worlds.is_lawful(value), False)
        self.assertIs(worlds.is_lawful(()), True)
        self.assertIs(worlds.is_lawful("()"), False)
        self.assertIs(worlds.is_lawful([]), True)

    def test_a_world_is_judged_once_in_a_row_of_calls(self):
        def ask_all():
            for ask, _, _, rest, expected in FUNCTIONS:
                self.assertEqual(ask(world, *rest), expected)

        for world in (WORLD, as_lists(WORLD)):
            orders.class_names(())
            with mock.patch("callwarrant.worlds.is_world", wraps=worlds.is_world) as judged:
                ask_all()
                ask_all()
            self.assertEqual(judged.call_count, 1)

    def test_great_values(self):
        # Their texts are too great to be made.
        word = "x" * 200000
        for value in ((word,) * 10000, ((word,) * 10000,), [[word] * 10000] * 12, (((word,) * 1000,) * 4,) * 2):
            self.assertIs(worlds.is_lawful(value), False)
            self.assertEqual(self.at(orders.class_names, value), 0)
            self.assertEqual(self.at(running.run, value, ("int", 1), 1), 0)

    def at(self, ask, *arguments):
        with self.assertRaises(BadValue) as caught:
            ask(*arguments)
        return caught.exception.at
