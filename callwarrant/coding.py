"""Code that is made for a module alone, and runs of such codes."""

from callwarrant.closing import viewed_atlas
from callwarrant.errors import BadValue
from callwarrant.forms import parts_of, with_parts
from callwarrant.paths import body_spot
from callwarrant.running import Machine, asked_fuel
from callwarrant.straights import Straights, called_at
from callwarrant.typed import asked_type
from callwarrant.words import is_sequence
from callwarrant.worlds import lawful_atlas


def code_of(world, name):
    """The bodies of the methods of a module, with straight calls in them; BadValue, NoModule."""
    return module_code(viewed_atlas(world, name), name)


def run_codes(world, codes, expression, fuel):
    """The value of an expression, the number of steps to it, and how often a method was chosen.

    It runs with the codes of the modules in place of their bodies. BadValue, Spent, Stuck.
    """
    atlas = lawful_atlas(world)
    bodies = asked_bodies(atlas, codes, 1)
    asked_type(atlas, expression, 2)
    machine = Machine(atlas, bodies, asked_fuel(fuel, 3))
    return (machine.value_of(expression), machine.steps, machine.choices)


def straight_count(code):
    """The number of expressions straight in a code."""
    count = 0
    due = list(code)
    while due:
        one = due.pop()
        if one[0] == "straight":
            count = count + 1
            due.extend(one[2])
        else:
            due.extend(parts_of(one))
    return count


def module_code(atlas, name):
    """The code of a module, the view of which the atlas tells."""
    straights = Straights(atlas)
    spots = [body_spot(atlas, name, number) for number in range(len(atlas.modules[name][4]))]
    return tuple([coded(straights, spot) for spot in spots])


def coded(straights, spot):
    """The expression at a spot, with straight calls in it."""
    parts = tuple([coded(straights, part) for part in spot.parts()])
    if spot.expression[0] == "call":
        generic, classes = called_at(spot)
        reference = straights.method_of(generic, classes)
        if reference is not None:
            return ("straight", reference, parts)
    return with_parts(spot.expression, parts)


def asked_bodies(atlas, codes, at):
    """The codes of all methods by reference; BadValue(at) for what are no codes of the modules."""
    many = len(atlas.modules)
    if not is_sequence(codes, many, many):
        raise BadValue(at)
    bodies = {}
    found = {}
    for pair in codes:
        if not is_code(atlas, pair) or pair[0] in found:
            raise BadValue(at)
        name, code = pair
        found[name] = True
        for number, body in enumerate(code):
            bodies[(name, number)] = body
    return bodies


def is_code(atlas, value):
    """Whether value is the pair of the name of a module and what may be its code."""
    if not is_sequence(value, 2, 2) or not isinstance(value[0], str) or value[0] not in atlas.modules:
        return False
    many = len(atlas.modules[value[0]][4])
    return is_sequence(value[1], many, many)
