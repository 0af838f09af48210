"""Which module answers for a call, and which modules are closed."""

from callwarrant.atlas import BASE
from callwarrant.cases import Case
from callwarrant.choosing import asked_generic, check_call
from callwarrant.errors import BadValue
from callwarrant.sights import any_place, other_place, own_place
from callwarrant.strangers import free_names, strange_call
from callwarrant.worlds import check_module, lawful_atlas

# The most modules, besides base, of a view that is looked at.
MOST_VIEWED = 6


def answers(world, generic, classes):
    """The name of the module that answers for a call; BadValue."""
    atlas = lawful_atlas(world)
    entry = asked_generic(atlas, generic, 1)
    check_call(atlas, entry, classes, 2)
    return answering(atlas, entry, classes)


def is_closed(world, name):
    """Whether every call that the module answers for is good in every world; BadValue, NoModule."""
    return bad_call(viewed_atlas(world, name), name) is None


def breach(world, name):
    """Modules with which a call fails that the module answers for, the generic and the classes.

    None if the module is closed. BadValue, NoModule.
    """
    atlas = viewed_atlas(world, name)
    found = bad_call(atlas, name)
    if found is None:
        return None
    generic, sights = found
    modules, classes = strange_modules(atlas, name, generic.owner_at, sights)
    return (modules, generic.name, classes)


def answering(atlas, generic, classes):
    """The name of the module that answers for a call of the generic."""
    owner = atlas.classes[classes[generic.owner_at]]
    return owner.module if generic.module in atlas.view(owner.module) else generic.module


def viewed_atlas(world, name):
    """The atlas of the view of a module that is asked about alone; BadValue, NoModule."""
    atlas = lawful_atlas(world)
    check_module(atlas, name)
    return viewed_part(atlas, name)


def viewed_part(atlas, name):
    """The atlas of the view of a module of the atlas; BadValue if it is not looked at."""
    viewed = atlas.part(atlas.view(name))
    if len(viewed.modules) > MOST_VIEWED:
        raise BadValue(1)
    return viewed


def bad_call(atlas, name):
    """The generic and the sights of a call that is not good and that the module answers for.

    None if there is none. The atlas is that of the view of the module.
    """
    anywhere = any_place(atlas)
    own = own_place(atlas, name)
    others = other_place(atlas, name)
    for generic in atlas.generics.values():
        owners = [own, others] if generic.module == name else [own]
        for owner in owners:
            places = [anywhere for _ in generic.takes]
            places[generic.owner_at] = owner
            sights = Case(atlas, generic, places).bad_sights()
            if sights is not None:
                return (generic, sights)
    return None


def strange_modules(atlas, name, owner_at, sights):
    """Modules whose classes have those of the sights that no class of the view has.

    With them the classes of all sights, one for each position. The owner class is declared in a
    module that does not know the module of this name, the others in one that does.
    """
    stranger, follower = free_names(atlas, 2)
    homes = [stranger if position == owner_at else follower for position in range(len(sights))]
    classes, declared = strange_call(sights, homes)
    uses = {stranger: uses_of(atlas, sights[owner_at].parents), follower: (name,)}
    modules = [
        (home, named, declared[home], (), ()) for home, named in uses.items() if declared.get(home)
    ]
    return (tuple(modules), classes)


def uses_of(atlas, parents):
    """The uses of a module whose classes extend these classes of other modules."""
    modules = sorted({atlas.classes[one].module for one in parents})
    return tuple([one for one in modules if one != BASE])
