"""Trees for closed modules, and walks through them."""

from callwarrant.checking import cases_of, first_misfit, leaf_words
from callwarrant.choosing import asked_generic, check_call
from callwarrant.closing import answering, bad_call, viewed_atlas, viewed_part
from callwarrant.errors import BadValue, NotClosed
from callwarrant.worlds import check_module, lawful_atlas


def tree(world, name):
    """A tree for a closed module; BadValue, NoModule, NotClosed."""
    atlas = viewed_atlas(world, name)
    if bad_call(atlas, name) is not None:
        raise NotClosed(name)
    lines = []
    for head, region in cases_of(atlas, name):
        lines.append(head)
        lines.extend(node_lines(region))
    return "".join([line + "\n" for line in lines])


def walk(world, name, text, generic, classes):
    """The references of the node to which a call leads, and the number of tests on the way.

    BadValue, NoModule.
    """
    atlas = lawful_atlas(world)
    check_module(atlas, name)
    viewed = viewed_part(atlas, name)
    if first_misfit(viewed, name, text) is not None:
        raise BadValue(2)
    entry = asked_generic(atlas, generic, 3)
    check_call(atlas, entry, classes, 4)
    if answering(atlas, entry, classes) != name:
        raise BadValue(4)
    owner = classes[entry.owner_at]
    word = owner if atlas.classes[owner].module == name else "others"
    lines = text.split("\n")
    return walked(atlas, lines, lines.index("for " + generic + " " + word) + 1, classes)


def walked(atlas, lines, at, classes):
    """The references to which the node that begins in this line leads a call, and the tests."""
    tests = 0
    words = lines[at].split(" ")
    while words[0] == "under":
        at = at + 1
        if not atlas.is_under(classes[int(words[1]) - 1], words[2]):
            at = behind_node(lines, at)
        tests = tests + 1
        words = lines[at].split(" ")
    run = [word.split(":") for word in words[1:]]
    return (tuple([(module, int(number)) for module, number in run]), tests)


def behind_node(lines, at):
    """The number of the line behind the node that begins in this line."""
    due = 1
    while due > 0:
        due = due + 1 if lines[at].startswith("under ") else due - 1
        at = at + 1
    return at


def node_lines(region):
    """The lines of a node for the calls of the region, which are good."""
    lines = []
    due = [region]
    while due:
        region = due.pop()
        words = leaf_words(region)
        if words is None:
            position, name = telling_test(region)
            yes, no = region.parted(position, region.board.bits[name])
            due.append(no)
            due.append(yes)
            words = ["under", str(position + 1), name]
        lines.append(" ".join(words))
    return lines


def telling_test(region):
    """The position and the class of a test that leaves the fewest rivals on its two sides."""
    found = None
    least = 0
    for position, name in tests_of(region):
        yes, no = region.parted(position, region.board.bits[name])
        many = yes.count_of_rivals() + no.count_of_rivals()
        if found is None or many < least:
            found = (position, name)
            least = many
    return found


def tests_of(region):
    """The tests for classes of the region's methods that some of its calls pass and some do not."""
    found = {}
    for _, method in region.possible_methods():
        for position, name in enumerate(method.classes):
            bit = region.board.bits[name]
            family = region.families[position]
            if family.ever & bit and not family.always & bit:
                found[(position, name)] = True
    return list(found)
