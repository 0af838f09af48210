"""The order of the classes of a world."""

from callwarrant.errors import BadValue
from callwarrant.typed import fields_of_objects
from callwarrant.worlds import lawful_atlas


def under(world, one, other):
    """Whether class one is under class other; BadValue."""
    atlas = lawful_atlas(world)
    check_class(atlas, one, 1)
    check_class(atlas, other, 2)
    return atlas.is_under(one, other)


def above(world, one):
    """The names of all classes that class one is under, ascending; BadValue."""
    atlas = lawful_atlas(world)
    check_class(atlas, one, 1)
    return tuple(sorted(atlas.above(one)))


def fields_of(world, one):
    """The pairs (class name, field name) of the fields of the objects of a class; BadValue."""
    atlas = lawful_atlas(world)
    check_class(atlas, one, 1)
    return tuple([(name, field) for name, field, _ in fields_of_objects(atlas, one)])


def class_names(world):
    """The names of all classes of the world, ascending; BadValue."""
    return tuple(sorted(lawful_atlas(world).classes))


def concrete(world, one):
    """The names of the classes under class one that are not abstract, ascending; BadValue."""
    atlas = lawful_atlas(world)
    check_class(atlas, one, 1)
    return tuple([name for name in sorted(atlas.classes) if atlas.can_stand(name, one)])


def check_class(atlas, name, at):
    """Raises BadValue(at) for what is no class of the world."""
    if not isinstance(name, str) or name not in atlas.classes:
        raise BadValue(at)
