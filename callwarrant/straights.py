"""Calls in bodies, and those that go straight to a method whatever modules others add."""

from callwarrant.bends import bend_by_classes, bend_by_method
from callwarrant.closing import viewed_atlas
from callwarrant.errors import BadValue
from callwarrant.paths import asked_spot, body_spot, call_spots
from callwarrant.regions import Board
from callwarrant.sights import any_place


class Straights:
    """The straight calls in the bodies of a module, the view of which the atlas tells."""

    def __init__(self, atlas):
        self.atlas = atlas
        self._boards = {}
        self._references = {}

    def region(self, name, classes):
        """The calls of the generic of this name that can occur where arguments have these types."""
        generic = self.atlas.generics[name]
        if name not in self._boards:
            self._boards[name] = Board(self.atlas, generic)
        return self._boards[name].region([any_place(self.atlas) for _ in classes], classes)

    def method_of(self, name, classes):
        """The reference of the method that all these calls choose in every world, or None."""
        key = (name,) + classes
        if key not in self._references:
            self._references[key] = only_reference(self.region(name, classes))
        return self._references[key]


def sites(world, name):
    """The tuples (method, path, generic, classes) of the calls in a module; BadValue, NoModule."""
    atlas = viewed_atlas(world, name)
    found = []
    for number in range(len(atlas.modules[name][4])):
        for spot in call_spots(body_spot(atlas, name, number)):
            found.append((number, spot.path) + called_at(spot))
    return tuple(found)


def straight(world, name, method, path):
    """The reference of the method that each call at a site chooses in each world, or None.

    BadValue, NoModule.
    """
    atlas = viewed_atlas(world, name)
    generic, classes = asked_call(atlas, name, method, path)
    return Straights(atlas).method_of(generic, classes)


def bend(world, name, method, path):
    """Two worlds with calls at a site that choose differently, as pairs (modules, classes).

    None if the site is straight, or no call can occur there. BadValue, NoModule.
    """
    atlas = viewed_atlas(world, name)
    generic, classes = asked_call(atlas, name, method, path)
    region = Straights(atlas).region(generic, classes)
    if region.is_empty() or only_reference(region) is not None:
        return None
    if takes_strange_owner(region):
        return bend_by_method(atlas, name, atlas.generics[generic], classes)
    return bend_by_classes(atlas, name, atlas.generics[generic], classes)


def asked_call(atlas, name, method, path):
    """The generic and the classes of the site to which a path leads; BadValue."""
    spot = asked_spot(atlas, name, method, path)
    if spot is None or spot.expression[0] != "call":
        raise BadValue(3)
    return called_at(spot)


def called_at(spot):
    """The generic of the call at a spot, and the types of its arguments."""
    return (spot.expression[1], tuple([part.type_name() for part in spot.parts()]))


def takes_strange_owner(region):
    """Whether some of the calls have an owner class that is declared outside of the view."""
    return len(region.families[region.ranks.owner_at].extended) > 0


def only_reference(region):
    """The reference of the method that all calls of a site choose in every world, or None.

    Another module may add a method for each owner class that it declares.
    """
    if region.is_empty() or takes_strange_owner(region):
        return None
    best = region.only_best()
    return None if best is None else region.ranks.methods[best].reference
