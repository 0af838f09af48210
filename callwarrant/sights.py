"""The sights of classes from a view: those classes of the view that a class is under."""


class Sight:
    """The sight of a class.

    name is that of the class if it is one of the view. Otherwise name is None, and the class is
    declared elsewhere and extends the parents, open classes of the view. seen has the names of
    the classes that it is under as keys.
    """

    def __init__(self, name, parents, seen):
        self.name = name
        self.parents = parents
        self.seen = seen


class Place:
    """The classes that may stand at a position of calls.

    They are the concrete ones of the view, and all classes declared elsewhere that extend none
    but the extended ones.
    """

    def __init__(self, atlas, names, takes_strange):
        self.concrete = [one for one in names if not atlas.classes[one].is_abstract]
        self.extended = [one for one in names if takes_strange and atlas.classes[one].is_open]


def any_place(atlas):
    """The place where all classes may stand."""
    return Place(atlas, list(atlas.classes), True)


def own_place(atlas, module):
    """The place where the classes of the module alone may stand."""
    names = [one for one in atlas.classes if atlas.classes[one].module == module]
    return Place(atlas, names, False)


def other_place(atlas, module):
    """The place where the classes of those modules may stand that do not know the module.

    The module is the one whose view the atlas tells, so no other one there knows it.
    """
    names = [one for one in atlas.classes if atlas.classes[one].module != module]
    return Place(atlas, names, True)


def least_sights(atlas, place, needs):
    """Sights at the place in which all that it needs is seen.

    Every such sight contains one of these: one of an outside class contains that of an outside
    class which extends, for each of the needs, one of the highest classes under it.
    """
    sights = [Sight(one, (), atlas.above(one)) for one in highest(atlas, place.concrete, needs)]
    rows = [()]
    for need in needs:
        heads = highest(atlas, place.extended, [need])
        rows = [row + (one,) for row in rows for one in heads]
    for row in rows:
        parents = tuple(sorted(set(row)))
        seen = {one: True for parent in parents for one in atlas.above(parent)}
        sights.append(Sight(None, parents, seen))
    return sights


def highest(atlas, names, needs):
    """Those of the names under all needs that are not under others such."""
    fitting = [one for one in names if all([atlas.is_under(one, need) for need in needs])]
    return [
        one for one in fitting
        if not any([other != one and atlas.is_under(one, other) for other in fitting])
    ]


def lowest(atlas, names):
    """Those of the names, each told once and ascending, which no other one is under."""
    return [
        one for one in sorted(set(names))
        if not any([other != one and atlas.is_under(other, one) for other in names])
    ]
