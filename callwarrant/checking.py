"""Trees: texts that tell for all calls that a module answers for which methods run."""

from callwarrant.closing import viewed_atlas
from callwarrant.errors import BadTree
from callwarrant.regions import Board
from callwarrant.sights import Place, any_place, other_place

# The most tests that lead to a node.
MOST_TESTS = 200


def tree_holds(world, name, text):
    """True if the text is a right tree for the module; BadValue, NoModule, BadTree."""
    at = first_misfit(viewed_atlas(world, name), name, text)
    if at is not None:
        raise BadTree(at)
    return True


def cases_of(atlas, name):
    """The pairs (first line, calls) of the cases of a tree for the module, in their order.

    The atlas is that of the view of the module. The calls are a region.
    """
    cases = []
    anywhere = any_place(atlas)
    for generic_name in sorted(atlas.generics):
        generic = atlas.generics[generic_name]
        board = Board(atlas, generic)
        for word, owners in owner_places(atlas, name, generic):
            places = [anywhere for _ in generic.takes]
            places[generic.owner_at] = owners
            head = "for " + generic_name + " " + word
            cases.append((head, board.region(places, generic.takes)))
    return cases


def owner_places(atlas, name, generic):
    """The pairs of the word of a case of the generic and the place of its owner classes."""
    take = generic.takes[generic.owner_at]
    own = [one for one in sorted(atlas.classes) if atlas.classes[one].module == name]
    rows = [(one, Place(atlas, [one], False)) for one in own if atlas.can_stand(one, take)]
    if generic.module == name:
        rows.append(("others", other_place(atlas, name)))
    return rows


def first_misfit(atlas, name, text):
    """The number of the first line at which the text is no right tree; None if it is one."""
    if not isinstance(text, str):
        return 0
    lines = text.split("\n")
    # What stands behind the last line feed is no line, but at fault if it is not empty.
    rest = lines.pop()
    at = 0
    for head, region in cases_of(atlas, name):
        if at == len(lines) or lines[at] != head:
            return at
        at, holds = node_end(atlas, lines, at + 1, region)
        if not holds:
            return at
    return at if at < len(lines) or rest else None


def node_end(atlas, lines, at, region):
    """The number of the line behind the node that begins in this line, and True if it is right.

    Otherwise the number of its first line at fault, or of lines if it does not end, and False.
    """
    due = [(region, 0)]
    while due:
        region, tests = due.pop()
        if at == len(lines):
            return (at, False)
        words = lines[at].split(" ")
        if words[0] == "under" and tests < MOST_TESTS and is_test(atlas, region, words):
            position = int(words[1]) - 1
            yes, no = region.parted(position, region.board.bits[words[2]])
            due.append((no, tests + 1))
            due.append((yes, tests + 1))
        elif not is_leaf(region, words):
            return (at, False)
        at = at + 1
    return (at, True)


def is_test(atlas, region, words):
    """Whether the words are those of a test of calls of the region."""
    if len(words) != 3 or words[2] not in atlas.classes:
        return False
    return words[1] in [str(number + 1) for number in range(len(region.families))]


def is_leaf(region, words):
    """Whether the words are those of a right node without tests for the region."""
    return words == leaf_words(region)


def leaf_words(region):
    """The words of the node without tests that is right for the region; None if there is none."""
    if region.is_empty():
        return ["never"]
    run = region.outcome()
    if run is None or isinstance(run, str):
        return None
    return ["use"] + [module + ":" + str(number) for module, number in run]
