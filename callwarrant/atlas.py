"""What the modules of a world declare, found by name.

An atlas is also made of a world that is not lawful: of two declarations of one name the first one
counts, and extensions are followed wherever they lead, in a circle and to names of no class too.
"""

BASE = "base"
INT = "base.Int"
# The classes of base, in the form in which modules tell theirs.
BASE_CLASSES = (
    ("Any", "open", True, (), ()),
    ("Int", "sealed", False, ("base.Any",), ()),
)


class ClassEntry:
    """A class as it is declared."""

    def __init__(self, module, told):
        word, kind, abstract, parents, fields = told
        self.name = module + "." + word
        self.module = module
        self.is_open = kind == "open"
        self.is_abstract = abstract
        self.parents = tuple(parents)
        self.fields = {}
        for field, class_name in fields:
            self.fields.setdefault(field, class_name)


class GenericEntry:
    """A generic as it is declared."""

    def __init__(self, module, told):
        name, takes, by, gives = told
        self.name = module + "." + name
        self.module = module
        self.takes = tuple(takes)
        self.owner_at = by - 1
        self.gives = gives


class MethodEntry:
    """A method as it is declared."""

    def __init__(self, module, number, told):
        generic, params, body = told
        self.reference = (module, number)
        self.generic = generic
        self.params = tuple([name for name, _ in params])
        self.classes = tuple([class_name for _, class_name in params])
        self.body = body


class Atlas:
    """The modules of a world, and what they declare."""

    def __init__(self, modules):
        self.modules = {one[0]: one for one in sorted(modules, key=lambda one: one[0])}
        self.classes = {}
        self.generics = {}
        # The methods of each generic that has some, ascending by reference.
        self.methods = {}
        self._uses = {}
        self._parents = {}
        self._aboves = {}
        self.enter_classes(BASE, BASE_CLASSES)
        for name, module in self.modules.items():
            self._uses[name] = module[1]
            self.enter_classes(name, module[2])
            self.enter_generics(name, module[3])
            self.enter_methods(name, module[4])

    def enter_classes(self, module, classes):
        """Takes up the classes of a module."""
        for told in classes:
            entry = ClassEntry(module, told)
            if entry.name not in self.classes:
                self.classes[entry.name] = entry
                self._parents[entry.name] = entry.parents

    def enter_generics(self, module, generics):
        """Takes up the generics of a module."""
        for told in generics:
            entry = GenericEntry(module, told)
            self.generics.setdefault(entry.name, entry)

    def enter_methods(self, module, methods):
        """Takes up the methods of a module."""
        for number, told in enumerate(methods):
            entry = MethodEntry(module, number, told)
            self.methods.setdefault(entry.generic, []).append(entry)

    def view(self, module):
        """The names of the modules of the view of a module, or of base, as keys of a dict."""
        found = reached([module], self._uses)
        found[BASE] = True
        return found

    def above(self, name):
        """The names that the class of this name is under, as keys of a dict; of no class itself."""
        if name not in self._aboves:
            self._aboves[name] = reached([name], self._parents)
        return self._aboves[name]

    def is_under(self, one, other):
        """Whether the class of one name is under the class of another one."""
        return other in self.above(one)

    def can_stand(self, name, take):
        """Whether calls may have the class of this name where a generic takes the class take."""
        return not self.classes[name].is_abstract and self.is_under(name, take)

    def part(self, names):
        """The atlas of those modules alone whose names are among these."""
        return Atlas([module for name, module in self.modules.items() if name in names])


def reached(starts, steps):
    """All that is reached from the starts, these included, as keys of a dict.

    steps maps a name to those that it leads to directly; a name that it lacks leads nowhere.
    """
    found = {}
    due = list(starts)
    while due:
        one = due.pop()
        if one not in found:
            found[one] = True
            due.extend(steps.get(one, ()))
    return found
