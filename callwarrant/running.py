"""Values, and the evaluation of expressions."""

from callwarrant.atlas import INT
from callwarrant.choosing import best_of, methods_behind, methods_for
from callwarrant.errors import BadValue, NoBest, Spent, Stuck
from callwarrant.forms import parts_of
from callwarrant.typed import asked_type, fields_of_objects
from callwarrant.words import LARGEST, is_integer
from callwarrant.worlds import lawful_atlas

MOST_FUEL = 5000
# The most integers and objects of a value, and the most bodies within one another.
MOST_SIZE = 200
MOST_BODIES = 30


class Body:
    """The evaluation of a method's body for some arguments.

    depth tells how many bodies are being evaluated within one another, this one included. An
    expression by itself stands in a body of no method, of depth 0.
    """

    def __init__(self, method, arguments, depth):
        self.method = method
        self.arguments = arguments
        self.depth = depth


class Machine:
    """What evaluates an expression in a world.

    bodies maps the references of all methods to the expressions that are evaluated for them.
    What waits is kept in a list, so that no depth of calls is too great for Python.
    """

    def __init__(self, atlas, bodies, fuel):
        self.atlas = atlas
        self.bodies = bodies
        self.fuel = fuel
        self.steps = 0
        # How often the method of a call was chosen.
        self.choices = 0
        # What is still to be done: tuples (is begun, expression, names, body), the next one last.
        self.due = []
        # The values of what is done, as far as they are still needed.
        self.results = []
        self._methods = {one.reference: one for row in atlas.methods.values() for one in row}
        self._chosen = {}
        self._fields = {}

    def value_of(self, expression):
        """The value of an expression by itself."""
        self.due.append((False, expression, {}, Body(None, (), 0)))
        while self.due:
            is_begun, told, names, body = self.due.pop()
            if is_begun:
                rule = RULES[told[0]]
                rule(self, told, names, body)
            else:
                self.begin(told, names, body)
        return self.results.pop()

    def begin(self, expression, names, body):
        """Takes the step of an expression, and lets its parts wait that come first."""
        if self.steps == self.fuel:
            raise Spent("steps")
        self.steps = self.steps + 1
        self.due.append((True, expression, names, body))
        for part in reversed(first_parts(expression)):
            self.due.append((False, part, names, body))

    def taken(self, many):
        """The last so many values, which are kept no longer."""
        at = len(self.results) - many
        values = self.results[at:]
        del self.results[at:]
        return tuple(values)

    def enter(self, method, arguments, body):
        """Lets the body of a method wait, that is called from another body."""
        names = {name: value for name, value in zip(method.params, arguments)}
        inner = Body(method, arguments, body.depth + 1)
        self.due.append((False, self.bodies[method.reference], names, inner))

    def method_at(self, reference):
        """The method of this reference."""
        module, number = reference
        return self._methods[(module, number)]

    def best_method(self, generic, arguments):
        """The best method of the generic for these arguments; Stuck."""
        key = (generic, tuple([class_of(one) for one in arguments]))
        if key not in self._chosen:
            methods = methods_for(self.atlas, self.atlas.generics[generic], key[1])
            self._chosen[key] = best_or_stuck(self.atlas, methods)
        return self._chosen[key]

    def next_method(self, body):
        """The method that next runs in a body; Stuck."""
        classes = tuple([class_of(one) for one in body.arguments])
        key = (body.method.reference, classes)
        if key not in self._chosen:
            generic = self.atlas.generics[body.method.generic]
            methods = methods_for(self.atlas, generic, classes)
            behind = methods_behind(self.atlas, methods, body.method)
            self._chosen[key] = best_or_stuck(self.atlas, behind)
        return self._chosen[key]

    def field_at(self, class_name, declared, field):
        """The number of the field of the class declared among those of the objects of a class."""
        if class_name not in self._fields:
            rows = fields_of_objects(self.atlas, class_name)
            self._fields[class_name] = [(one, name) for one, name, _ in rows]
        return self._fields[class_name].index((declared, field))


def run(world, expression, fuel):
    """The value of an expression and the number of steps to it; BadValue, Spent, Stuck."""
    atlas = lawful_atlas(world)
    asked_type(atlas, expression, 1)
    return plain_run(atlas, expression, asked_fuel(fuel, 2))


def class_of(value):
    """The class of a value."""
    return INT if isinstance(value, int) else value[1]


def shown(value):
    """The text of a value."""
    words = []
    # The values and the words between them, the next one last.
    due = [value]
    while due:
        one = due.pop()
        if isinstance(one, str):
            words.append(one)
        elif isinstance(one, int):
            words.append(str(one))
        else:
            due.append(")")
            for number in reversed(range(len(one[2]))):
                due.append(one[2][number])
                if number > 0:
                    due.append(", ")
            due.append(one[1] + "(")
    return "".join(words)


def plain_run(atlas, expression, fuel):
    """The value of an expression that has a type, and the number of steps; Spent, Stuck."""
    bodies = {one.reference: one.body for row in atlas.methods.values() for one in row}
    machine = Machine(atlas, bodies, fuel)
    return (machine.value_of(expression), machine.steps)


def asked_fuel(fuel, at):
    """The fuel; BadValue(at) for what is none."""
    if not is_integer(fuel, 0, MOST_FUEL):
        raise BadValue(at)
    return fuel


def first_parts(expression):
    """The parts of an expression that are evaluated whatever comes of them."""
    if expression[0] == "straight":
        return expression[2]
    parts = parts_of(expression)
    return parts[:1] if expression[0] in ("if", "let") else parts


def best_or_stuck(atlas, methods):
    """The best one of the methods; Stuck."""
    try:
        return best_of(atlas, methods)
    except NoBest as error:
        raise Stuck(error.word)


def check_depth(body):
    """Raises Spent where a body evaluates a call and no further body may be evaluated."""
    if body.depth == MOST_BODIES:
        raise Spent("calls")


def size_of(values):
    """The number of integers and objects of which the values consist."""
    count = 0
    due = list(values)
    while due:
        one = due.pop()
        count = count + 1
        if not isinstance(one, int):
            due.extend(one[2])
    return count


def end_int(machine, expression, names, body):
    """The value of an int."""
    machine.results.append(expression[1])


def end_name(machine, expression, names, body):
    """The value of a name."""
    machine.results.append(names[expression[1]])


def end_next(machine, expression, names, body):
    """Goes on with the next method."""
    check_depth(body)
    machine.enter(machine.next_method(body), body.arguments, body)


def end_new(machine, expression, names, body):
    """The object of a new."""
    values = machine.taken(len(expression[2]))
    if 1 + size_of(values) > MOST_SIZE:
        raise Spent("size")
    machine.results.append(("object", expression[1], values))


def end_field(machine, expression, names, body):
    """The value of a field."""
    _, name, values = machine.results.pop()
    machine.results.append(values[machine.field_at(name, expression[2], expression[3])])


def end_call(machine, expression, names, body):
    """Goes on with the best method for the arguments of a call."""
    arguments = machine.taken(len(expression[2]))
    check_depth(body)
    method = machine.best_method(expression[1], arguments)
    machine.choices = machine.choices + 1
    machine.enter(method, arguments, body)


def end_straight(machine, expression, names, body):
    """Goes on with the method that a straight names."""
    arguments = machine.taken(len(expression[2]))
    check_depth(body)
    machine.enter(machine.method_at(expression[1]), arguments, body)


def end_sign(machine, expression, names, body):
    """The value of an add, sub or mul."""
    first, second = machine.taken(2)
    if expression[0] == "add":
        value = first + second
    elif expression[0] == "sub":
        value = first - second
    else:
        value = first * second
    machine.results.append(value % (LARGEST + 1))


def end_if(machine, expression, names, body):
    """Goes on with the part of an if that its first part tells."""
    test = machine.results.pop()
    machine.due.append((False, expression[2 if test else 3], names, body))


def end_let(machine, expression, names, body):
    """Goes on with the part of a let in which its name stands."""
    inner = {name: value for name, value in names.items()}
    inner[expression[1]] = machine.results.pop()
    machine.due.append((False, expression[3], inner, body))


RULES = {
    "int": end_int,
    "name": end_name,
    "next": end_next,
    "new": end_new,
    "field": end_field,
    "call": end_call,
    "straight": end_straight,
    "add": end_sign,
    "sub": end_sign,
    "mul": end_sign,
    "if": end_if,
    "let": end_let,
}
