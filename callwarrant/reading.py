"""Modules and expressions as texts tell them."""

from callwarrant.bodies import read_expression
from callwarrant.errors import BadText
from callwarrant.forms import is_expression, is_module
from callwarrant.scanning import END, INTEGER, NAME, WORD, Cursor, read_class_name, read_generic_name


def parse(text):
    """The module that the text tells; BadText."""
    if not isinstance(text, str):
        raise BadText(0)
    cursor = Cursor(text)
    module = read_module(cursor)
    cursor.take(END)
    if not is_module(module):
        raise BadText(0)
    return module


def parse_expression(text):
    """The expression that the text tells; BadText."""
    if not isinstance(text, str):
        raise BadText(0)
    cursor = Cursor(text)
    expression = read_expression(cursor)
    cursor.take(END)
    if not is_expression(expression):
        raise BadText(0)
    return expression


def read_module(cursor):
    """The module at the cursor, perhaps with too many parts."""
    cursor.take("module")
    name = cursor.take(NAME)
    uses = ()
    if cursor.skip("uses"):
        uses = read_row(cursor, read_name)
    cursor.take("{")
    classes = read_all(cursor, ("open", "sealed"), read_class)
    generics = read_all(cursor, ("generic",), read_generic)
    methods = read_all(cursor, ("method",), read_method)
    cursor.take("}")
    return (name, uses, classes, generics, methods)


def read_all(cursor, kinds, read_one):
    """All that read_one reads from the cursor on, as long as they begin with one of the kinds."""
    rows = []
    while cursor.kind() in kinds:
        rows.append(read_one(cursor))
    return tuple(rows)


def read_row(cursor, read_one):
    """One or more that read_one reads from the cursor on, with commas between them."""
    rows = [read_one(cursor)]
    while cursor.skip(","):
        rows.append(read_one(cursor))
    return tuple(rows)


def read_class(cursor):
    """The class at the cursor."""
    kind = cursor.take(cursor.kind())
    abstract = cursor.skip("abstract")
    cursor.take("class")
    word = cursor.take(WORD)
    cursor.take("extends")
    parents = read_row(cursor, read_class_name)
    cursor.take("{")
    fields = ()
    if cursor.kind() != "}":
        fields = read_row(cursor, read_named_class)
    cursor.take("}")
    return (word, kind, abstract, parents, fields)


def read_generic(cursor):
    """The generic at the cursor."""
    cursor.take("generic")
    name = cursor.take(NAME)
    cursor.take("(")
    takes = read_row(cursor, read_class_name)
    cursor.take(")")
    cursor.take("by")
    by = int(cursor.take(INTEGER))
    cursor.take("gives")
    return (name, takes, by, read_class_name(cursor))


def read_method(cursor):
    """The method at the cursor."""
    cursor.take("method")
    generic = read_generic_name(cursor)
    cursor.take("(")
    params = read_row(cursor, read_named_class)
    cursor.take(")")
    cursor.take("=")
    return (generic, params, read_expression(cursor))


def read_name(cursor):
    """The name at the cursor."""
    return cursor.take(NAME)


def read_named_class(cursor):
    """The pair of a name and a class name at the cursor."""
    name = cursor.take(NAME)
    cursor.take(":")
    return (name, read_class_name(cursor))
