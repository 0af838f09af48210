"""Links: worlds of closed modules that grow and shrink."""

from callwarrant.atlas import BASE, Atlas
from callwarrant.choosing import asked_generic, best_of, check_call, methods_for
from callwarrant.closing import MOST_VIEWED, bad_call, viewed_part
from callwarrant.coding import module_code
from callwarrant.errors import BadValue, InUse, MissingUse, NotClosed, TakenName, Unlawful
from callwarrant.faults import are_different, first_fault
from callwarrant.forms import is_module
from callwarrant.running import asked_fuel, plain_run
from callwarrant.typed import asked_type
from callwarrant.words import plain
from callwarrant.worlds import MOST_MODULES, check_module


class Link:
    """A lawful world of closed modules."""

    def __init__(self):
        # The modules by name.
        self._modules = {}
        self._atlas = Atlas([])

    def load(self, module):
        """Adds a module; BadValue, TakenName, MissingUse, Unlawful, NotClosed."""
        if not is_module(module):
            raise BadValue(0)
        added = plain(module)
        name = added[0]
        check_uses(self._modules, name, added[1])
        atlas = Atlas(list(self._modules.values()) + [added])
        # The view has base besides.
        if len(atlas.modules) > MOST_MODULES or len(atlas.view(name)) - 1 > MOST_VIEWED:
            raise Unlawful("uses", 0)
        check_rules(atlas, name)
        self._modules[name] = added
        self._atlas = atlas

    def unload(self, name):
        """Takes a module away; NoModule, InUse."""
        check_module(self._atlas, name)
        for other, module in self._atlas.modules.items():
            if name in module[1]:
                raise InUse(other)
        del self._modules[name]
        self._atlas = Atlas(list(self._modules.values()))

    def names(self):
        """The names of the modules, ascending."""
        return tuple(sorted(self._modules))

    def world(self):
        """The modules, ascending by name."""
        return tuple([self._modules[name] for name in sorted(self._modules)])

    def choose(self, generic, classes):
        """The reference of the best method for a call; BadValue."""
        entry = asked_generic(self._atlas, generic, 0)
        check_call(self._atlas, entry, classes, 1)
        return best_of(self._atlas, methods_for(self._atlas, entry, classes)).reference

    def run(self, expression, fuel):
        """The value of an expression and the number of steps to it; BadValue, Spent."""
        asked_type(self._atlas, expression, 0)
        return plain_run(self._atlas, expression, asked_fuel(fuel, 1))

    def code(self, name):
        """The code of a module; NoModule."""
        check_module(self._atlas, name)
        return module_code(viewed_part(self._atlas, name), name)

    def copy(self):
        """A link that is the same, and changes independently."""
        made = Link()
        made._modules = {name: module for name, module in self._modules.items()}
        made._atlas = Atlas(list(self._modules.values()))
        return made

    def __eq__(self, other):
        return isinstance(other, Link) and self._modules == other._modules

    def __len__(self):
        return len(self._modules)

    def __contains__(self, name):
        return isinstance(name, str) and name in self._modules


def check_uses(modules, name, uses):
    """Raises what load does for a module of this name and these uses, the modules being there."""
    if name == BASE or name in modules:
        raise TakenName(name)
    for used in uses:
        if used not in modules:
            raise MissingUse(used)
    if not are_different(uses):
        raise Unlawful("uses", 0)


def check_rules(atlas, name):
    """Raises Unlawful or NotClosed for a module of the atlas that is not as a link's are."""
    fault = first_fault(atlas, name)
    if fault is not None:
        rule, number = fault
        raise Unlawful(rule, number)
    if bad_call(viewed_part(atlas, name), name) is not None:
        raise NotClosed(name)
