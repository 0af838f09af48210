"""What integers, sequences, names, class words, class names and generic names are."""

LOWER = "abcdefghijklmnopqrstuvwxyz"
UPPER = "ABCDEFGHIJKLMNOPQRSTUVWXYZ"
MOST_LETTERS = 12
LARGEST = 65535
RESERVED = (
    "module", "uses", "open", "sealed", "abstract", "class", "extends", "generic", "by",
    "gives", "method", "new", "next", "if", "then", "else", "let", "in",
)


def is_integer(value, least, most):
    """Whether value is an integer from least to most; True and False are none."""
    return isinstance(value, int) and not isinstance(value, bool) and least <= value <= most


def is_sequence(value, least, most):
    """Whether value is a list or tuple of least to most members."""
    return isinstance(value, (list, tuple)) and least <= len(value) <= most


def are_lower(text):
    """Whether all characters of the text are lowercase letters."""
    return text.strip(LOWER) == ""


def is_name(value):
    """Whether value is a name."""
    if not isinstance(value, str) or not 1 <= len(value) <= MOST_LETTERS:
        return False
    return are_lower(value) and value not in RESERVED


def is_class_word(value):
    """Whether value is a class word."""
    if not isinstance(value, str) or not 1 <= len(value) <= MOST_LETTERS:
        return False
    return value[0] in UPPER and are_lower(value[1:])


def is_class_name(value):
    """Whether value is a class name, as base.Int."""
    if not isinstance(value, str):
        return False
    module, _, word = value.partition(".")
    return is_name(module) and is_class_word(word)


def is_generic_name(value):
    """Whether value is a generic name, as shapes.meet."""
    if not isinstance(value, str):
        return False
    module, _, name = value.partition(".")
    return is_name(module) and is_name(name)


def plain(value):
    """The value with tuples in place of lists, at every level."""
    if isinstance(value, (list, tuple)):
        return tuple([plain(one) for one in value])
    return value
