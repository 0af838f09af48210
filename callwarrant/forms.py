"""What modules and expressions are, whether or not the names in them exist."""

from callwarrant.words import LARGEST, is_class_name, is_class_word, is_generic_name
from callwarrant.words import is_integer, is_name, is_sequence

MOST_USES = 4
MOST_CLASSES = 6
MOST_GENERICS = 3
MOST_METHODS = 8
MOST_PARENTS = 12
MOST_FIELDS = 3
MOST_TAKES = 3
MOST_VALUES = 12
MOST_EXPRESSIONS = 60
MOST_LEVELS = 7

# The kinds of the members that stand behind the word of an expression.
FORMS = {
    "int": ("number",),
    "name": ("name",),
    "next": (),
    "new": ("class", "values"),
    "field": ("part", "class", "name"),
    "call": ("generic", "arguments"),
    "add": ("part", "part"),
    "sub": ("part", "part"),
    "mul": ("part", "part"),
    "if": ("part", "part", "part"),
    "let": ("name", "part", "part"),
}
# The kinds of members that are rows of parts.
ROWS = ("values", "arguments")


def is_module(value):
    """Whether value is a module."""
    if not is_sequence(value, 5, 5):
        return False
    name, uses, classes, generics, methods = value
    return (
        is_name(name)
        and are_all(uses, 0, MOST_USES, is_name)
        and are_all(classes, 0, MOST_CLASSES, is_class)
        and are_all(generics, 0, MOST_GENERICS, is_generic)
        and are_all(methods, 0, MOST_METHODS, is_method)
    )


def is_expression(value):
    """Whether value is an expression."""
    # Level by level: so neither a deep nor a wide value is followed beyond the bounds.
    row = [value]
    count = 0
    for _ in range(MOST_LEVELS):
        count = count + len(row)
        if count > MOST_EXPRESSIONS:
            return False
        parts = []
        for one in row:
            found = form_parts(one)
            if found is None:
                return False
            parts.extend(found)
        row = parts
    return len(row) == 0


def are_all(value, least, most, test):
    """Whether value is a sequence of least to most members that all pass the test."""
    return is_sequence(value, least, most) and all([test(one) for one in value])


def is_class(value):
    """Whether value is a class of a module."""
    if not is_sequence(value, 5, 5):
        return False
    word, kind, abstract, parents, fields = value
    return (
        is_class_word(word)
        and kind in ("open", "sealed")
        and isinstance(abstract, bool)
        and are_all(parents, 1, MOST_PARENTS, is_class_name)
        and are_all(fields, 0, MOST_FIELDS, is_named_class)
    )


def is_generic(value):
    """Whether value is a generic of a module."""
    if not is_sequence(value, 4, 4):
        return False
    name, takes, by, gives = value
    return (
        is_name(name)
        and are_all(takes, 1, MOST_TAKES, is_class_name)
        and is_integer(by, 1, len(takes))
        and is_class_name(gives)
    )


def is_method(value):
    """Whether value is a method of a module."""
    if not is_sequence(value, 3, 3):
        return False
    generic, params, body = value
    return (
        is_generic_name(generic)
        and are_all(params, 1, MOST_TAKES, is_named_class)
        and is_expression(body)
    )


def is_named_class(value):
    """Whether value is a pair of a name and a class name, as fields and params are."""
    return is_sequence(value, 2, 2) and is_name(value[0]) and is_class_name(value[1])


def form_parts(value):
    """The parts of what has the form of an expression, whatever they are; None of what has not."""
    if not isinstance(value, (list, tuple)) or len(value) == 0:
        return None
    word = value[0]
    if not isinstance(word, str) or word not in FORMS:
        return None
    kinds = FORMS[word]
    if len(value) != 1 + len(kinds):
        return None
    # What parts_of tells is gathered here at once: most of what is read is bodies.
    parts = []
    for kind, member in zip(kinds, value[1:]):
        if kind == "part":
            parts.append(member)
        elif not is_member(kind, member):
            return None
        elif kind in ROWS:
            parts.extend(member)
    return parts


def is_member(kind, value):
    """Whether value can be a member of this kind in an expression, that is no part of it."""
    if kind == "number":
        return is_integer(value, 0, LARGEST)
    if kind == "name":
        return is_name(value)
    if kind == "class":
        return is_class_name(value)
    if kind == "generic":
        return is_generic_name(value)
    if kind == "values":
        return is_sequence(value, 0, MOST_VALUES)
    return is_sequence(value, 1, MOST_TAKES)


def parts_of(expression):
    """The parts of what has the form of an expression, in their order."""
    parts = []
    for kind, member in zip(FORMS[expression[0]], expression[1:]):
        if kind == "part":
            parts.append(member)
        if kind in ROWS:
            parts.extend(member)
    return parts


def with_parts(expression, parts):
    """The expression, as a tuple, with these parts in place of its own."""
    members = [expression[0]]
    at = 0
    for kind, member in zip(FORMS[expression[0]], expression[1:]):
        if kind == "part":
            members.append(parts[at])
            at = at + 1
        elif kind in ROWS:
            members.append(tuple(parts))
        else:
            members.append(member)
    return tuple(members)
