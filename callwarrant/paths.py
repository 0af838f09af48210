"""The parts of the bodies of methods, and the paths that lead to them."""

from callwarrant.errors import BadValue
from callwarrant.forms import parts_of
from callwarrant.typed import Scope, type_in
from callwarrant.words import is_integer


class Spot:
    """An expression in a body, and the path that leads to it.

    The scope and the bound names, mapped to their types, are those of the place where it stands.
    """

    def __init__(self, scope, names, path, expression):
        self.scope = scope
        self.bound = names
        self.path = path
        self.expression = expression

    def type_name(self):
        """The type of the expression."""
        return type_in(self.scope, self.expression, self.bound)

    def parts(self):
        """The spots of the parts of the expression, in their order."""
        spots = []
        for number, part in enumerate(parts_of(self.expression)):
            names = self.bound
            if self.expression[0] == "let" and number == 1:
                names = {name: told for name, told in names.items()}
                names[self.expression[1]] = spots[0].type_name()
            spots.append(Spot(self.scope, names, self.path + (number,), part))
        return spots


def body_spot(atlas, module, number):
    """The spot of the body of the module's method with this number."""
    generic, params, body = atlas.modules[module][4][number]
    scope = Scope(atlas, atlas.view(module), atlas.generics[generic].gives)
    return Spot(scope, {name: class_name for name, class_name in params}, (), body)


def asked_spot(atlas, module, number, path):
    """The spot to which a path leads in the body of a method; None if it leads to none.

    BadValue(2) for what is no number of a method of the module.
    """
    if not is_integer(number, 0, len(atlas.modules[module][4]) - 1):
        raise BadValue(2)
    if not isinstance(path, (list, tuple)):
        return None
    spot = body_spot(atlas, module, number)
    for step in path:
        parts = spot.parts()
        if not is_integer(step, 0, len(parts) - 1):
            return None
        spot = parts[step]
    return spot


def call_spots(spot):
    """The spots of all calls in the expression of a spot, those within others behind them."""
    found = [spot] if spot.expression[0] == "call" else []
    for part in spot.parts():
        found.extend(call_spots(part))
    return found
