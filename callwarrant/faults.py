"""The rules that the parts of a lawful module keep."""

from callwarrant.typed import Scope, type_in


def first_fault(atlas, name):
    """The pair (rule, number) of the first rule that a module breaks; None if it is lawful."""
    _, _, classes, generics, methods = atlas.modules[name]
    scope = Scope(atlas, atlas.view(name), None)
    for parts, broken_rule in (
        (classes, class_fault), (generics, generic_fault), (methods, method_fault)
    ):
        for number in range(len(parts)):
            rule = broken_rule(scope, name, parts, number)
            if rule is not None:
                return (rule, number)
    return None


def class_fault(scope, module, classes, number):
    """The first rule that a class breaks, the classes before it being lawful; None if none."""
    word, _, _, parents, fields = classes[number]
    before = [told[0] for told in classes[:number]]
    if word in before:
        return "class"
    own = [module + "." + one for one in before]
    if not are_different(parents) or not all([can_extend(scope, module, own, one) for one in parents]):
        return "parent"
    names = [name for name, _ in fields]
    if not are_different(names) or not are_known(scope, [told for _, told in fields]):
        return "field"
    return None


def can_extend(scope, module, before, parent):
    """Whether a class of the module, behind the own ones of these names, may extend the parent."""
    entry = scope.known_class(parent)
    if entry is None:
        return False
    if entry.module == module:
        return parent in before
    return entry.is_open


def generic_fault(scope, module, generics, number):
    """The rule that a generic breaks; None if none."""
    name, takes, _, gives = generics[number]
    before = [told[0] for told in generics[:number]]
    if name in before or not are_known(scope, takes) or not are_known(scope, [gives]):
        return "generic"
    return None


def method_fault(scope, module, methods, number):
    """The first rule that a method breaks; None if none."""
    name, params, body = methods[number]
    generic = scope.known_generic(name)
    if generic is None or not fits_generic(scope, module, generic, params):
        return "method"
    heads = [(told[0], classes_of(told[1])) for told in methods[:number]]
    if (name, classes_of(params)) in heads:
        return "method"
    # The scope of a body has what next gives in it.
    inner = Scope(scope.atlas, scope.known, generic.gives)
    found = type_in(inner, body, {param: told for param, told in params})
    if found is None or not scope.atlas.is_under(found, generic.gives):
        return "body"
    return None


def fits_generic(scope, module, generic, params):
    """Whether a method of the module for the generic may have these params."""
    classes = classes_of(params)
    if len(classes) != len(generic.takes) or not are_different([name for name, _ in params]):
        return False
    if not are_known(scope, classes):
        return False
    if not all([scope.atlas.is_under(one, take) for one, take in zip(classes, generic.takes)]):
        return False
    owner = scope.known_class(classes[generic.owner_at])
    return generic.module == module or owner.module == module


def classes_of(params):
    """The classes of the params of a method."""
    return tuple([class_name for _, class_name in params])


def are_known(scope, names):
    """Whether all names are those of known classes."""
    return all([scope.known_class(name) is not None for name in names])


def are_different(words):
    """Whether no two of the words are the same."""
    return len(set(words)) == len(words)
