"""Methods, and the calls that choose them."""

from callwarrant.choosing import asked_generic, best_of, chain_of, check_call, methods_for
from callwarrant.worlds import lawful_atlas


def methods_of(world, generic):
    """The pairs (reference, classes) of the methods of a generic, ascending; BadValue."""
    atlas = lawful_atlas(world)
    entry = asked_generic(atlas, generic, 1)
    return tuple([(one.reference, one.classes) for one in atlas.methods.get(entry.name, [])])


def applicable(world, generic, classes):
    """The references of the methods that are applicable to a call, ascending; BadValue."""
    _, methods = asked_methods(world, generic, classes)
    return tuple([one.reference for one in methods])


def best(world, generic, classes):
    """The reference of the best method for a call; BadValue, NoBest."""
    atlas, methods = asked_methods(world, generic, classes)
    return best_of(atlas, methods).reference


def chain(world, generic, classes):
    """The references of the methods that run for a call, the best one first; BadValue, NoBest."""
    atlas, methods = asked_methods(world, generic, classes)
    return tuple([one.reference for one in chain_of(atlas, methods)])


def asked_methods(world, generic, classes):
    """The atlas of a lawful world, and the methods that are applicable to a call; BadValue."""
    atlas = lawful_atlas(world)
    entry = asked_generic(atlas, generic, 1)
    check_call(atlas, entry, classes, 2)
    return atlas, methods_for(atlas, entry, classes)
