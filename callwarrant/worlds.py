"""Worlds, views and lawful modules."""

from callwarrant.atlas import BASE, Atlas, reached
from callwarrant.errors import BadValue, NoModule
from callwarrant.faults import are_different, first_fault
from callwarrant.forms import are_all, is_module
from callwarrant.words import is_sequence

MOST_MODULES = 12
# The text of the world that was found lawful last. Most rows of calls ask about one world; a text
# tells 1 from True, and does not change where a list changes that was passed.
LAST_LAWFUL = ""


def is_world(value):
    """Whether value is a world."""
    if not are_all(value, 0, MOST_MODULES, is_module):
        return False
    uses = {module[0]: module[1] for module in value}
    if len(uses) != len(value) or BASE in uses:
        return False
    return all([can_use(name, uses) for name in uses])


def view(world, name):
    """The names of the modules of the view of a module, ascending; BadValue, NoModule."""
    atlas = atlas_of(world)
    check_module(atlas, name)
    return tuple(sorted(atlas.view(name)))


def fault(world, name):
    """The first rule that a module breaks and the number of its part, or None.

    BadValue, NoModule.
    """
    atlas = atlas_of(world)
    check_module(atlas, name)
    return first_fault(atlas, name)


def is_lawful(value):
    """Whether value is a lawful world."""
    global LAST_LAWFUL
    # The text of what is far from a world may be too great to be made.
    if not is_row_of_fives(value):
        return False
    text = repr(value)
    if text == LAST_LAWFUL:
        return True
    if not is_world(value) or not keeps_rules(Atlas(value)):
        return False
    LAST_LAWFUL = text
    return True


def is_row_of_fives(value):
    """Whether value has as many members as a world may have, each with as many as a module."""
    return are_all(value, 0, MOST_MODULES, lambda one: is_sequence(one, 5, 5))


def can_use(name, uses):
    """Whether a module may have its uses, where the dict has those of all modules."""
    named = uses[name]
    if not are_different(named) or not all([one in uses for one in named]):
        return False
    return name not in reached(named, uses)


def keeps_rules(atlas):
    """Whether all modules of the atlas are lawful."""
    for name in atlas.modules:
        if first_fault(atlas, name) is not None:
            return False
    return True


def atlas_of(world):
    """The atlas of a world; BadValue."""
    if not is_world(world):
        raise BadValue(0)
    return Atlas(world)


def lawful_atlas(world):
    """The atlas of a lawful world; BadValue."""
    if not is_lawful(world):
        raise BadValue(0)
    return Atlas(world)


def check_module(atlas, name):
    """Raises NoModule for what is no name of a module of the atlas."""
    if not isinstance(name, str) or name not in atlas.modules:
        raise NoModule(name)
