"""The types of expressions."""

from callwarrant.atlas import BASE, INT
from callwarrant.errors import BadValue
from callwarrant.forms import is_expression


class Scope:
    """What expressions may name: the classes and generics of the known modules.

    known has the names of these modules as keys; gives is the type of next, None where next
    may not stand.
    """

    def __init__(self, atlas, known, gives):
        self.atlas = atlas
        self.known = known
        self.gives = gives

    def known_class(self, name):
        """The class of this name, or None if it is not known."""
        entry = self.atlas.classes.get(name)
        return entry if entry is not None and entry.module in self.known else None

    def known_generic(self, name):
        """The generic of this name, or None if it is not known."""
        entry = self.atlas.generics.get(name)
        return entry if entry is not None and entry.module in self.known else None


def type_in(scope, expression, names):
    """The type of an expression where names maps names to their types; None if it has none."""
    rule = RULES[expression[0]]
    return rule(scope, expression, names)


def asked_type(atlas, expression, at):
    """The type of an expression by itself, where all modules of the atlas are known.

    BadValue(at) for what is no expression or has none.
    """
    if not is_expression(expression):
        raise BadValue(at)
    known = {name: True for name in atlas.modules}
    known[BASE] = True
    found = type_in(Scope(atlas, known, None), expression, {})
    if found is None:
        raise BadValue(at)
    return found


def int_type(scope, expression, names):
    """The type of an int."""
    return INT


def name_type(scope, expression, names):
    """The type of a name."""
    return names.get(expression[1])


def next_type(scope, expression, names):
    """The type of a next."""
    return scope.gives


def new_type(scope, expression, names):
    """The type of a new."""
    _, name, arguments = expression
    entry = scope.known_class(name)
    if entry is None or entry.is_abstract or name == INT:
        return None
    due = [class_name for _, _, class_name in fields_of_objects(scope.atlas, name)]
    return name if fit(scope, arguments, due, names) else None


def field_type(scope, expression, names):
    """The type of a field."""
    _, part, name, field = expression
    entry = scope.known_class(name)
    if entry is None or field not in entry.fields:
        return None
    return entry.fields[field] if fit(scope, [part], [name], names) else None


def call_type(scope, expression, names):
    """The type of a call."""
    _, name, arguments = expression
    generic = scope.known_generic(name)
    if generic is None or not fit(scope, arguments, generic.takes, names):
        return None
    return generic.gives


def sign_type(scope, expression, names):
    """The type of an add, sub or mul."""
    _, first, second = expression
    if type_in(scope, first, names) == INT and type_in(scope, second, names) == INT:
        return INT
    return None


def if_type(scope, expression, names):
    """The type of an if."""
    _, test, first, second = expression
    if type_in(scope, test, names) != INT:
        return None
    one = type_in(scope, first, names)
    other = type_in(scope, second, names)
    if one is None or other is None:
        return None
    if scope.atlas.is_under(one, other):
        return other
    return one if scope.atlas.is_under(other, one) else None


def let_type(scope, expression, names):
    """The type of a let."""
    _, name, first, second = expression
    found = type_in(scope, first, names)
    if found is None:
        return None
    inner = dict(names)
    inner[name] = found
    return type_in(scope, second, inner)


def fit(scope, arguments, classes, names):
    """Whether there are as many arguments as classes, the type of each under its class."""
    if len(arguments) != len(classes):
        return False
    for argument, class_name in zip(arguments, classes):
        found = type_in(scope, argument, names)
        if found is None or not scope.atlas.is_under(found, class_name):
            return False
    return True


def fields_of_objects(atlas, name):
    """The fields of the objects of a class: triples (class name, field, class of the field)."""
    rows = []
    for one in sorted(atlas.above(name)):
        # In a world that is not lawful, a class may be under a name of no class.
        if one in atlas.classes:
            rows.extend([(one, field, told) for field, told in atlas.classes[one].fields.items()])
    return rows


RULES = {
    "int": int_type,
    "name": name_type,
    "next": next_type,
    "new": new_type,
    "field": field_type,
    "call": call_type,
    "add": sign_type,
    "sub": sign_type,
    "mul": sign_type,
    "if": if_type,
    "let": let_type,
}
