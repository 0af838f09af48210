"""The texts of modules and expressions."""

from callwarrant.errors import BadValue
from callwarrant.forms import is_expression, is_module

SIGNS = {"add": " + ", "sub": " - ", "mul": " * "}
# The expressions that stand in parentheses as a part of a sum; as its part b, or as a part
# of a product; as part b of a product, or as the part of a field.
CHOICES = ("if", "let")
SUMS = ("if", "let", "add", "sub")
PRODUCTS = ("if", "let", "add", "sub", "mul")


def printed(module):
    """The text of a module; BadValue."""
    if not is_module(module):
        raise BadValue(0)
    name, uses, classes, generics, methods = module
    head = "module " + name
    if uses:
        head = head + " uses " + ", ".join(uses)
    lines = [head + " {"]
    lines.extend(["  " + class_text(one) for one in classes])
    lines.extend(["  " + generic_text(one) for one in generics])
    lines.extend(["  " + method_text(one) for one in methods])
    lines.append("}")
    return "".join([line + "\n" for line in lines])


def printed_expression(expression):
    """The text of an expression; BadValue."""
    if not is_expression(expression):
        raise BadValue(0)
    return expression_text(expression)


def class_text(told):
    """The text of a class."""
    word, kind, abstract, parents, fields = told
    head = kind + (" abstract" if abstract else "") + " class " + word
    body = named_classes_text(fields) + " " if fields else ""
    return head + " extends " + ", ".join(parents) + " { " + body + "}"


def generic_text(told):
    """The text of a generic."""
    name, takes, by, gives = told
    return "generic " + name + "(" + ", ".join(takes) + ") by " + str(by) + " gives " + gives


def method_text(told):
    """The text of a method."""
    generic, params, body = told
    head = "method " + generic + "(" + named_classes_text(params) + ")"
    return head + " = " + expression_text(body)


def named_classes_text(pairs):
    """The text of fields or params."""
    return ", ".join([name + ": " + class_name for name, class_name in pairs])


def expression_text(expression):
    """The text of an expression."""
    word = expression[0]
    if word == "int":
        return str(expression[1])
    if word == "name":
        return expression[1]
    if word == "next":
        return "next"
    if word == "new":
        return "new " + expression[1] + arguments_text(expression[2])
    if word == "call":
        return expression[1] + arguments_text(expression[2])
    if word == "field":
        return field_text(expression)
    if word in SIGNS:
        return sign_text(expression)
    return choice_text(expression)


def arguments_text(arguments):
    """The text of the arguments of a new or a call, with their parentheses."""
    return "(" + ", ".join([expression_text(one) for one in arguments]) + ")"


def field_text(expression):
    """The text of a field."""
    _, part, class_name, field = expression
    return part_text(part, PRODUCTS) + ".(" + class_name + "." + field + ")"


def sign_text(expression):
    """The text of an add, sub or mul."""
    word, first, second = expression
    if word == "mul":
        return part_text(first, SUMS) + SIGNS[word] + part_text(second, PRODUCTS)
    return part_text(first, CHOICES) + SIGNS[word] + part_text(second, SUMS)


def choice_text(expression):
    """The text of an if or let."""
    word, first, second, third = expression
    if word == "let":
        return "let " + first + " = " + expression_text(second) + " in " + expression_text(third)
    branches = " then " + expression_text(second) + " else " + expression_text(third)
    return "if " + expression_text(first) + branches


def part_text(part, words):
    """The text of a part, in parentheses if its word is one of the words."""
    if part[0] in words:
        return "(" + expression_text(part) + ")"
    return expression_text(part)
