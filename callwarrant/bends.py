"""Two worlds in which calls at one site choose differently."""

from callwarrant.cases import Case
from callwarrant.sights import any_place, lowest
from callwarrant.strangers import free_names, strange_call

# The names of the params of a method that is declared for a bend.
PARAMS = ("a", "b", "c")


class Site:
    """The calls of a generic that can occur where the arguments are of these classes."""

    def __init__(self, atlas, generic, classes):
        self.atlas = atlas
        self.classes = classes
        self.search = Case(atlas, generic, [any_place(atlas) for _ in classes])
        self.ranks = self.search.ranks

    def needs(self, others):
        """What is to be seen at each position for the classes of the site and these others."""
        return [tuple(lowest(self.atlas, pair)) for pair in zip(self.classes, others)]

    def rows(self, others):
        """For each position the least sights that see the class of the site and the other one."""
        return [
            [sight for sight, _ in self.search.row(position, needs)]
            for position, needs in enumerate(self.needs(others))
        ]

    def best_sights(self):
        """The number of the best method of some call, and the sights of the call; or None."""
        for number, method in enumerate(self.ranks.methods):
            barred = self.ranks.every & ~self.ranks.farther[number]
            sights = self.search.sights_without(self.needs(method.classes), barred)
            if sights is not None:
                return (number, sights)
        return None

    def other_sights(self, number):
        """The sights of a call whose best method is not this one, which is not that of all."""
        rows = self.rows(self.classes)
        for position, name in enumerate(self.ranks.methods[number].classes):
            lacking = [one for one in rows[position] if name not in one.seen]
            if lacking:
                rows[position] = lacking
                return [row[0] for row in rows]
        for other, method in enumerate(self.ranks.methods):
            rows = self.rows(method.classes)
            if not self.ranks.farther[number] >> other & 1 and all(rows):
                break
        return [row[0] for row in rows]


def bend_by_classes(atlas, name, generic, classes):
    """The bend of a site that is not straight, where all owner classes are those of the view."""
    site = Site(atlas, generic, classes)
    found = site.best_sights()
    if found is None:
        sights = [row[0] for row in site.rows(classes)]
        return (outside_world(atlas, name, sights), outside_world(atlas, name, sights))
    number, sights = found
    return (outside_world(atlas, name, sights), outside_world(atlas, name, site.other_sights(number)))


def bend_by_method(atlas, name, generic, classes):
    """The bend of a site where owner classes may be those of others, which may add a method."""
    rows = Site(atlas, generic, classes).rows(classes)
    rows[generic.owner_at] = [one for one in rows[generic.owner_at] if one.name is None]
    modules, call = outside_world(atlas, name, [row[0] for row in rows])
    home, uses, declared, _, _ = modules[0]
    # With just the classes of the call it is nearer than all others; next has the due type.
    method = (generic.name, tuple(zip(PARAMS, call)), ("next",))
    return ((((home, uses, declared, (), (method,)),), call), (modules, call))


def outside_world(atlas, name, sights):
    """The pair of modules, at most one, and a call whose classes have these sights."""
    home = free_names(atlas, 1)[0]
    call, declared = strange_call(sights, [home for _ in sights])
    modules = ((home, (name,), declared[home], (), ()),) if declared[home] else ()
    return (modules, call)
