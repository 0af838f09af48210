"""Classes that modules outside of a view declare, with chosen sights from it."""

from callwarrant.words import LOWER

# The words of such classes, one for each position of a call.
STRANGE_WORDS = ("A", "B", "C")


def free_names(atlas, many):
    """So many names of no module of the atlas."""
    return [one for one in LOWER if one not in atlas.modules][:many]


def strange_call(sights, homes):
    """Classes with these sights, one for each position, and what is declared for them.

    What the view lacks is declared in the module that is named for the position. The second
    result maps the names of these modules to their classes.
    """
    classes = []
    declared = {home: [] for home in homes}
    for sight, home, word in zip(sights, homes, STRANGE_WORDS):
        if sight.name is None:
            declared[home].append((word, "sealed", False, sight.parents, ()))
        classes.append(home + "." + word if sight.name is None else sight.name)
    return (tuple(classes), {home: tuple(rows) for home, rows in declared.items()})
