"""A second account of trees, sites, types, runs and codes, beside that of tests.helper.

Trees and sites are judged by trials of all calls in a world that has a class for every set of open
classes, runs by an evaluator that calls itself.
"""

import re
from itertools import product

from tests.helper import Broken, Told, strange_world, told_expression, view_of


class Wrong(Exception):
    """A line of a tree is wrong."""

    def __init__(self, at):
        self.at = at


class Forest:
    """The calls that a module answers for, each with its chain, by the first lines of cases."""

    def __init__(self, world, name):
        self.name = name
        self.view = Told(view_of(world, name))
        self.told = told = Told(strange_world(world, name))
        self.cases = {}
        for generic, (_, takes, by, _) in sorted(self.view.generics.items()):
            own = [one for one in self.view.concrete(takes[by - 1]) if one.startswith(name + ".")]
            heads = own + (["others"] if generic.startswith(name + ".") else [])
            for word in heads:
                self.cases["for %s %s" % (generic, word)] = []
            for classes in told.calls(generic):
                if told.answers(generic, classes) == name:
                    word = classes[by - 1] if classes[by - 1] in own else "others"
                    self.cases["for %s %s" % (generic, word)].append((classes, told.chain(generic, classes)))

    def misfit(self, text):
        """The number of the first line that is wrong; None if there is none."""
        lines = re.findall("[^\n]*\n", text)
        try:
            at = 0
            for head, calls in self.cases.items():
                need_line(lines, at, lambda line: line == head + "\n")
                generic = head.split(" ")[1]
                at = self.behind(generic, lines, at + 1, calls, 0)
            if "".join(lines[:at]) != text:
                raise Wrong(at)
        except Wrong as wrong:
            return wrong.at
        return None

    def behind(self, generic, lines, at, calls, tests):
        """The number of the line behind the node for these calls."""
        need_line(lines, at, lambda line: True)
        many = len(self.view.generics[generic][1])
        test = re.fullmatch(r"under ([1-%d]) ([a-z]+[.][A-Z][a-z]*)\n" % many, lines[at])
        if test:
            position, one = int(test.group(1)) - 1, test.group(2)
            need_line(lines, at, lambda line: one in self.view.classes and tests < 200)
            sides = [], []
            for classes, run in calls:
                sides[0 if self.told.under(classes[position], one) else 1].append((classes, run))
            at = self.behind(generic, lines, at + 1, sides[0], tests + 1)
            return self.behind(generic, lines, at, sides[1], tests + 1)
        need_line(lines, at, lambda line: line == self.leaf(calls))
        return at + 1

    def leaf(self, calls):
        """The line of the node without tests for the calls; None if there is none."""
        runs = {run for _, run in calls}
        if not runs:
            return "never\n"
        if len(runs) > 1 or type(min(runs)) is str:
            return None
        return "use %s\n" % " ".join("%s:%d" % reference for reference in runs.pop())

    def drawn(self, source, most):
        """A right tree of drawn tests, some of which tell nothing, or None if one is too great."""
        lines = []
        for head, calls in self.cases.items():
            lines.append(head + "\n")
            generic = head.split(" ")[1]
            if not self.draw(source, generic, calls, lines, most):
                return None
        return "".join(lines)

    def draw(self, source, generic, calls, lines, most):
        leaf = self.leaf(calls)
        if leaf is not None and source.random() < 0.9:
            lines.append(leaf)
            return True
        if len(lines) > most:
            return False
        many = len(self.view.generics[generic][1])
        tests = [(at, one) for at in range(many) for one in sorted(self.view.classes)]
        telling = [
            (at, one) for at, one in tests
            if len({self.told.under(classes[at], one) for classes, _ in calls}) == 2]
        at, one = source.choice(telling if telling and source.random() < 0.8 else tests)
        lines.append("under %d %s\n" % (at + 1, one))
        for side in (True, False):
            left = [call for call in calls if self.told.under(call[0][at], one) is side]
            if not self.draw(source, generic, left, lines, most):
                return False
        return True


def need_line(lines, at, test):
    if at >= len(lines) or not test(lines[at]):
        raise Wrong(at)


def walked(told, text, name, generic, classes):
    """The references and the number of tests to which the text leads a call, case by case."""
    owner = classes[told.generics[generic][2] - 1]
    word = owner if owner.startswith(name + ".") else "others"
    rows = iter(text.split("for %s %s\n" % (generic, word))[1].split("\n"))
    tests = 0

    def skip():
        if next(rows).startswith("under"):
            skip()
            skip()

    for row in rows:
        words = row.split()
        if words[0] != "under":
            return tuple((module, int(at)) for module, at in (one.split(":") for one in words[1:])), tests
        tests += 1
        if not told.under(classes[int(words[1]) - 1], words[2]):
            skip()


# Tables.

def told_outcomes(world, generic):
    """The outcomes of all calls of the generic."""
    told = Told(world)
    return {classes: told.chain(generic, classes) for classes in told.calls(generic)}


def told_alike(told, outcomes, generic, at, one, other):
    """Whether two classes are alike at the position at, from 0 on."""
    return all(
        outcomes[call] == outcomes[call[:at] + (other,) + call[at + 1:]]
        for call in outcomes if call[at] == one)


# Sites.

def parts_at(expression):
    """The parts of an expression, in their order."""
    word, rest = expression[0], tuple(expression[1:])
    if word in ("new", "call", "straight"):
        return tuple(rest[1])
    return {"int": (), "name": (), "next": (), "field": rest[:1], "let": rest[1:]}.get(word, rest)


def spots(told, home, gives, names, expression, path=()):
    """For each expression in an expression, itself first: its path, itself, the names around it."""
    yield path, expression, names
    for number, part in enumerate(parts_at(expression)):
        more = names
        if expression[0] == "let" and number == 1:
            more = names + [(expression[1], told.type(home, gives, names, expression[2]))]
        yield from spots(told, home, gives, more, part, path + (number,))


def body_spots(told, home, number):
    """The triples (path, expression, type) of all expressions in the body of a method."""
    generic, params, body = told.world[home][4][number]
    gives = told.generics[generic][3]
    for path, expression, names in spots(told, home, gives, [tuple(one) for one in params], body):
        yield path, expression, told.type(home, gives, names, expression)


def told_sites(world, home):
    told = Told(world)
    rows = []
    for number in range(len(told.world[home][4])):
        types = {path: found for path, _, found in body_spots(told, home, number)}
        for path, expression, _ in body_spots(told, home, number):
            if expression[0] == "call":
                classes = tuple(types[path + (at,)] for at in range(len(expression[2])))
                rows.append((number, path, expression[1], classes))
    return tuple(rows)


def can_occur(told, classes):
    """All calls that can occur at a site of these classes."""
    return product(*map(told.concrete, classes))


class Occurring:
    """The calls that can occur at a site in a world with a class for every set of open classes."""

    def __init__(self, told, view, generic, classes):
        self.view = view
        by = told.generics[generic][2]
        self.calls = list(can_occur(told, classes))
        self.found = {told.best(generic, call) for call in self.calls}
        # A module with such an owner class can have a method for it.
        self.strange_owner = any(call[by - 1].split(".")[0] not in view for call in self.calls)

    def straight(self):
        """The reference that straight returns, or None."""
        if len(self.found) != 1 or self.strange_owner or type(min(self.found)) is str:
            return None
        return min(self.found)

    def has_best(self):
        """Whether some call has a best method in some world."""
        return self.strange_owner or any(type(one) is tuple for one in self.found)


# Runs.

class Whole(Told):
    """What the document says of a world, where every module knows all others."""

    def view(self, name):
        return set(self.parts)

    def type_of(self, expression):
        return self.type("base", None, [], expression)


def has_type(told, value):
    """Whether value is an expression that has a type where all modules are known."""
    try:
        return told_expression(value) and bool(told.type_of(value))
    except Broken:
        return False


class Stop(Exception):
    """A run stops: (the name of the error, its word)."""


class Runner:
    """An evaluator that calls itself; codes are pairs of a module's name and its code."""

    def __init__(self, world, fuel, codes=()):
        self.told = Told(world)
        self.fuel = fuel
        self.steps = self.choices = 0
        self.bodies = {at: told[2] for at, told in self.told.methods.items()}
        for name, code in codes:
            for number, body in enumerate(code):
                self.bodies[name, number] = body

    def outcome(self, expression):
        """The triple (value, steps, choices), or the pair of an error and its word."""
        try:
            return self.value(expression, {}, None, 0), self.steps, self.choices
        except Stop as stop:
            return stop.args

    def value(self, expression, names, running, depth):
        if self.steps >= self.fuel:
            raise Stop("Spent", "steps")
        self.steps += 1
        word, *rest = expression

        def below(part, more=()):
            return self.value(part, {**names, **dict(more)}, running, depth)

        if word == "int":
            return rest[0]
        if word == "name":
            return names[rest[0]]
        if word == "new":
            values = tuple(below(part) for part in rest[1])
            made = ("object", rest[0], values)
            if weight(made) > 200:
                raise Stop("Spent", "size")
            return made
        if word == "field":
            _, one, values = below(rest[0])
            return values[[row[:2] for row in self.told.fields(one)].index((rest[1], rest[2]))]
        if word in ("add", "sub", "mul"):
            one, other = below(rest[0]), below(rest[1])
            return {"add": one + other, "sub": one - other, "mul": one * other}[word] % 65536
        if word == "if":
            return below(rest[1]) if below(rest[0]) != 0 else below(rest[2])
        if word == "let":
            return below(rest[2], [(rest[0], below(rest[1]))])
        if word == "next":
            return self.enter(None, running[1], running, depth)
        values = tuple(below(part) for part in rest[1])
        if word == "straight":
            return self.enter(tuple(rest[0]), values, running, depth)
        return self.enter(rest[0], values, running, depth)

    def enter(self, target, values, running, depth):
        """The value of a body: of a generic's best method, of the one told, or of the next one."""
        if depth == 30:
            raise Stop("Spent", "calls")
        classes = tuple(value_class(value) for value in values)
        if type(target) is str:
            target = self.told.best(target, classes)
            self.choices += 1
        elif target is None:
            last = running[0]
            target = self.told.best_of([
                one for one in self.told.applicable(self.told.methods[last][0], classes)
                if one != last and self.told.near(last, one)])
        if type(target) is str:
            raise Stop("Stuck", target)
        names = [name for name, _ in self.told.methods[target][1]]
        return self.value(self.bodies[target], dict(zip(names, values)), (target, values), depth + 1)


def weight(value):
    """The number of integers and objects of a value."""
    return 1 if type(value) is int else 1 + sum(map(weight, value[2]))


def value_class(value):
    return "base.Int" if type(value) is int else value[1]


def outcome_of(ask, *arguments):
    """What a run returns, or the pair of the name of its error and its word."""
    from callwarrant.errors import Spent, Stuck
    try:
        return ask(*arguments)
    except (Spent, Stuck) as error:
        return type(error).__name__, error.word
