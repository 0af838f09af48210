"""The types of expressions."""

from callwarrant.errors import BadValue
from callwarrant.paths import asked_spot
from callwarrant.typed import asked_type
from callwarrant.worlds import check_module, lawful_atlas


def type_at(world, name, method, path):
    """The type of the expression to which a path leads in a method's body; BadValue, NoModule."""
    atlas = lawful_atlas(world)
    check_module(atlas, name)
    spot = asked_spot(atlas, name, method, path)
    if spot is None:
        raise BadValue(3)
    return spot.type_name()


def type_of(world, expression):
    """The type of an expression by itself, where all modules of the world are known; BadValue."""
    return asked_type(lawful_atlas(world), expression, 1)
