"""Promises [16] and [30]: arguments and errors of the functions of worlds, orders, calls, closing."""

import inspect
import unittest
from copy import deepcopy

from callwarrant import calls, closing, orders, worlds
from callwarrant.errors import BadValue, NoBest, NoModule
from callwarrant.reading import parse
from tests.helper import ODD, as_lists, is_plain

KIT = parse("""module kit {
  open class Tool extends base.Any { size: base.Int }
  sealed class Saw extends kit.Tool { }
  generic use(kit.Tool, base.Any) by 1 gives base.Int
  method kit.use(t: kit.Tool, a: base.Any) = t.(kit.Tool.size)
  method kit.use(t: kit.Saw, a: base.Any) = next + 1
}""")
YARD = parse("""module yard uses kit {
  sealed class Axe extends kit.Tool { edge: base.Any }
  method kit.use(t: yard.Axe, a: base.Int) = a
}""")
WORLD = (YARD, KIT)
UNLAWFUL = parse("module m { open class A extends m.B { } }")

# Each function: the names of its arguments, the kinds of those behind the world, an example.
WORLD_FUNCTIONS = (
    (worlds.view, ("world", "name"), ("module",), ("yard",), ("base", "kit", "yard")),
    (worlds.fault, ("world", "name"), ("module",), ("yard",), None),
)
FUNCTIONS = (
    (orders.under, ("world", "one", "other"), (1, 2), ("kit.Saw", "kit.Tool"), True),
    (orders.above, ("world", "one"), (1,), ("kit.Saw",), ("base.Any", "kit.Saw", "kit.Tool")),
    (orders.fields_of, ("world", "one"), (1,), ("yard.Axe",),
     (("kit.Tool", "size"), ("yard.Axe", "edge"))),
    (orders.class_names, ("world",), (), (), ("base.Any", "base.Int", "kit.Saw", "kit.Tool", "yard.Axe")),
    (orders.concrete, ("world", "one"), (1,), ("kit.Tool",), ("kit.Saw", "kit.Tool", "yard.Axe")),
    (calls.methods_of, ("world", "generic"), (1,), ("kit.use",), (
        (("kit", 0), ("kit.Tool", "base.Any")), (("kit", 1), ("kit.Saw", "base.Any")),
        (("yard", 0), ("yard.Axe", "base.Int")))),
    (calls.applicable, ("world", "generic", "classes"), (1, 2), ("kit.use", ("yard.Axe", "base.Int")),
     (("kit", 0), ("yard", 0))),
    (calls.best, ("world", "generic", "classes"), (1, 2), ("kit.use", ("kit.Saw", "kit.Saw")), ("kit", 1)),
    (calls.chain, ("world", "generic", "classes"), (1, 2), ("kit.use", ("kit.Saw", "kit.Saw")),
     (("kit", 1), ("kit", 0))),
    (closing.answers, ("world", "generic", "classes"), (1, 2), ("kit.use", ("yard.Axe", "kit.Saw")), "yard"),
    (closing.is_closed, ("world", "name"), ("module",), ("yard",), True),
    (closing.breach, ("world", "name"), ("module",), ("kit",), None),
)
VALUES = tuple(value for value in ODD if value != "base.Int") + (
    [[[]]], (("kit",),), ["kit", ["kit.Saw"]], "kit.", "kit.None", "none.Saw", "Kit",
    "kit.use.", "kit.Saw.size", [YARD], KIT, as_lists(WORLD), 10 ** 30, -(10 ** 30), "line\nline",
)


class Arguments(unittest.TestCase):

    def raised(self, ask, *arguments):
        """The error of a call, which changes none of its arguments."""
        before = deepcopy(arguments)
        with self.assertRaises((BadValue, NoModule)) as caught:
            ask(*arguments)
        self.assertEqual(arguments, before)
        return caught.exception

    def test_names_of_arguments(self):
        for ask, names, _, _, _ in WORLD_FUNCTIONS + FUNCTIONS:
            self.assertEqual(tuple(inspect.signature(ask).parameters), names)
        for ask in (worlds.is_world, worlds.is_lawful):
            self.assertEqual(tuple(inspect.signature(ask).parameters), ("value",))

    def test_examples(self):
        for ask, names, _, rest, expected in WORLD_FUNCTIONS + FUNCTIONS:
            for world in (WORLD, as_lists(WORLD), list(WORLD), WORLD[::-1]):
                for more in (rest, [list(one) if isinstance(one, tuple) else one for one in rest]):
                    before = deepcopy((world, more))
                    found = ask(world, *more)
                    self.assertEqual(found, expected)
                    self.assertIs(type(found), type(expected))
                    self.assertTrue(found is None or is_plain(found))
                    self.assertEqual(ask(**dict(zip(names, (world, *more)))), expected)
                    self.assertEqual((world, more), before)

    def test_the_world_comes_first(self):
        for value in VALUES + ((UNLAWFUL,), WORLD + (UNLAWFUL,), [KIT, KIT], WORLD[:1]):
            if value in ((), []) or value == as_lists(WORLD):
                continue
            for ask, names, _, rest, _ in FUNCTIONS:
                for more in (rest, (None,) * len(rest), ("none.none",) * len(rest)):
                    error = self.raised(ask, value, *more)
                    self.assertIs(type(error), BadValue)
                    self.assertEqual(error.at, 0)
                    self.assertIs(type(error.at), int)

    def test_worlds_that_are_not_lawful(self):
        for ask, _, _, _, _ in WORLD_FUNCTIONS:
            for value in ((KIT, KIT), WORLD[:1], None, KIT):
                self.assertEqual(self.raised(ask, value, "kit").at, 0)
            self.assertIs(type(self.raised(ask, (UNLAWFUL,), "kit")), NoModule)
            ask((UNLAWFUL,), "m")

    def test_each_argument_in_its_turn(self):
        for ask, names, kinds, rest, _ in WORLD_FUNCTIONS + FUNCTIONS:
            for at, kind in enumerate(kinds):
                for value in VALUES + ("base",):
                    # The arguments before are right, those behind are right or wrong too.
                    for behind in (rest[at + 1:], (value,) * (len(rest) - at - 1)):
                        more = rest[:at] + (value,) + behind
                        error = self.raised(ask, WORLD, *more)
                        if kind == "module":
                            self.assertIs(type(error), NoModule)
                            self.assertIs(error.name, value)
                        else:
                            self.assertIs(type(error), BadValue)
                            self.assertEqual(error.at, kind)

    def test_what_the_package_returned_may_be_passed(self):
        found = calls.methods_of(WORLD, "kit.use")
        self.assertEqual(calls.best(WORLD, "kit.use", found[2][1]), found[2][0])
        self.assertEqual(self.raised(calls.best, WORLD, "kit.use", found[0][1]).at, 2)
        for value in (found, found[0], orders.class_names(WORLD)):
            self.assertIs(worlds.is_world(value), False)
            self.assertEqual(self.raised(calls.best, WORLD, "kit.use", value).at, 2)
            self.assertEqual(self.raised(orders.above, WORLD, value).at, 1)
        self.assertIs(self.raised(closing.is_closed, WORLD, found).name, found)

    def test_errors_of_calls_come_behind_those_of_arguments(self):
        world = (parse("module m { generic g(base.Any) by 1 gives base.Int }"),)
        for ask in (calls.best, calls.chain):
            with self.assertRaises(NoBest) as caught:
                ask(world, "m.g", ("base.Int",))
            self.assertEqual(caught.exception.word, "none")
            self.assertEqual(self.raised(ask, world, "m.g", ("base.Any",)).at, 2)
            self.assertEqual(self.raised(ask, world, "m.h", ("base.Int",)).at, 1)

    def test_same_arguments_same_answers(self):
        for ask, _, _, rest, expected in FUNCTIONS:
            for world in (WORLD, (UNLAWFUL,), as_lists(WORLD), None, WORLD):
                if world in ((UNLAWFUL,), None):
                    self.raised(ask, world, *rest)
                else:
                    self.assertEqual(ask(world, *rest), expected)
