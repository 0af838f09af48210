"""Expressions as texts tell them.

The reader does not call itself: what is begun and not yet complete waits on a list, the
innermost last. So no depth of a text is too much for it. What waits is one of
    ("if",), ("then", a), ("else", a, b), ("let", w), ("in", w, a): the next part is due;
    ("(",): an expression and a closing parenthesis are due;
    ("new", class name, list), ("call", generic name, list): the next argument is due;
    ("+", a), ("-", a): a term is due; ("*", a): a factor is due.
"""

from callwarrant.scanning import INTEGER, NAME, read_class_name

# The words of the expressions that signs make.
WORDS = {"+": "add", "-": "sub", "*": "mul"}
SIGNS = ("+", "-", "*")
# The signs that take the expression between them and this sign.
NEARER = {"+": ("+", "-", "*"), "-": ("+", "-", "*"), "*": ("*",)}
# What comes behind the part that waits, and what waits from then on.
FOLLOWERS = {"if": "then", "then": "else", "let": "in"}
# The words of the expressions that are complete with the part that waits.
ENDINGS = {"else": "if", "in": "let"}


def read_expression(cursor):
    """The expression at the cursor; what comes behind it is not judged."""
    waiting = []
    while True:
        made = read_primary(cursor, waiting)
        made = read_on(cursor, waiting, made)
        if made is not None:
            return made


def read_primary(cursor, waiting):
    """The first primary that has no parts, after all that begins before it."""
    made = None
    while made is None:
        made = read_start(cursor, waiting)
    return made


def read_start(cursor, waiting):
    """The primary at the cursor, or None if what begins there waits for a part."""
    kind = cursor.kind()
    if kind in ("if", "let") and not (waiting and waiting[-1][0] in SIGNS):
        start_choice(cursor, waiting)
        return None
    if kind == "(":
        waiting.append((cursor.take("("),))
        return None
    if kind == INTEGER:
        return ("int", int(cursor.take(INTEGER)))
    if kind == "next":
        return (cursor.take("next"),)
    if kind == "new":
        return start_new(cursor, waiting)
    return start_name(cursor, waiting)


def start_choice(cursor, waiting):
    """Begins the if or let at the cursor."""
    if cursor.skip("if"):
        waiting.append(("if",))
    else:
        cursor.take("let")
        waiting.append(("let", cursor.take(NAME)))
        cursor.take("=")


def start_new(cursor, waiting):
    """The new at the cursor if it has no arguments; otherwise it begins, and None."""
    cursor.take("new")
    name = read_class_name(cursor)
    cursor.take("(")
    if cursor.skip(")"):
        return ("new", name, ())
    waiting.append(("new", name, []))
    return None


def start_name(cursor, waiting):
    """The name at the cursor; None if a call begins there."""
    name = cursor.take(NAME)
    # A dot behind a name is that of a field only if a parenthesis follows.
    if cursor.kind() != "." or cursor.kind_behind() == "(":
        return ("name", name)
    cursor.take(".")
    generic = name + "." + cursor.take(NAME)
    cursor.take("(")
    waiting.append(("call", generic, []))
    return None


def read_on(cursor, waiting, made):
    """The whole expression, made being what stands before the cursor; None if a primary is due."""
    while True:
        kind = cursor.kind()
        if kind == ".":
            made = read_field(cursor, made)
        elif kind in SIGNS:
            made = joined(waiting, made, NEARER[kind])
            waiting.append((cursor.take(kind), made))
            return None
        else:
            made = joined(waiting, made, SIGNS)
            if not waiting:
                return made
            made = complete(cursor, waiting, made)
            if made is None:
                return None


def read_field(cursor, made):
    """The field at the cursor of the expression before it."""
    cursor.take(".")
    cursor.take("(")
    name = read_class_name(cursor)
    cursor.take(".")
    field = cursor.take(NAME)
    cursor.take(")")
    return ("field", made, name, field)


def joined(waiting, made, signs):
    """The expression with what waits before it behind one of these signs."""
    while waiting and waiting[-1][0] in signs:
        sign, before = waiting.pop()
        made = (WORDS[sign], before, made)
    return made


def complete(cursor, waiting, made):
    """What the innermost that waits is with this part; None if it then waits for another."""
    inner = waiting.pop()
    word = inner[0]
    if word == "(":
        cursor.take(")")
        return made
    if word in ("new", "call"):
        return with_argument(cursor, waiting, inner, made)
    if word in ENDINGS:
        return (ENDINGS[word],) + inner[1:] + (made,)
    waiting.append((cursor.take(FOLLOWERS[word]),) + inner[1:] + (made,))
    return None


def with_argument(cursor, waiting, inner, made):
    """The new or call with its last argument; None if it waits for another."""
    word, name, arguments = inner
    arguments.append(made)
    if cursor.skip(","):
        waiting.append(inner)
        return None
    cursor.take(")")
    return (word, name, tuple(arguments))
