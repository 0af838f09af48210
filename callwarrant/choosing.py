"""Which methods run for a call."""

from callwarrant.errors import BadValue, NoBest
from callwarrant.forms import parts_of
from callwarrant.words import is_sequence


def asked_generic(atlas, name, at):
    """The generic of this name; BadValue(at) for what is no generic of the world."""
    if not isinstance(name, str) or name not in atlas.generics:
        raise BadValue(at)
    return atlas.generics[name]


def check_call(atlas, generic, classes, at):
    """Raises BadValue(at) for what are no classes of a call of the generic."""
    many = len(generic.takes)
    if not is_sequence(classes, many, many):
        raise BadValue(at)
    for one, take in zip(classes, generic.takes):
        if not isinstance(one, str) or one not in atlas.classes or not atlas.can_stand(one, take):
            raise BadValue(at)


def methods_for(atlas, generic, classes):
    """The methods of the generic that are applicable to the call, ascending by reference."""
    methods = atlas.methods.get(generic.name, [])
    return [method for method in methods if are_under(atlas, classes, method.classes)]


def are_under(atlas, classes, others):
    """Whether the class at each position is under the other one there."""
    return all([atlas.is_under(one, other) for one, other in zip(classes, others)])


def is_as_near(atlas, method, other):
    """Whether a method is at least as near as another one."""
    return are_under(atlas, method.classes, other.classes)


def best_of(atlas, methods):
    """The best one of the methods; NoBest."""
    if not methods:
        raise NoBest("none")
    for method in methods:
        if all([is_as_near(atlas, method, other) for other in methods]):
            return method
    raise NoBest("many")


def chain_of(atlas, methods):
    """The methods that run for a call to which these methods are applicable; NoBest."""
    last = best_of(atlas, methods)
    run = [last]
    while has_next(last.body):
        last = best_of(atlas, methods_behind(atlas, methods, last))
        run.append(last)
    return run


def methods_behind(atlas, methods, last):
    """Those of the methods that next chooses from in the body of the last one."""
    return [
        method for method in methods
        if method.reference != last.reference and is_as_near(atlas, last, method)
    ]


def has_next(expression):
    """Whether next stands in the expression."""
    if expression[0] == "next":
        return True
    return any([has_next(part) for part in parts_of(expression)])
