"""Tables of methods with the fewest groups of classes."""

from callwarrant.choosing import asked_generic
from callwarrant.errors import BadValue
from callwarrant.ranks import Ranks
from callwarrant.words import is_integer
from callwarrant.worlds import lawful_atlas


class Outcomes:
    """The calls of a generic in a world, and what comes of them."""

    def __init__(self, atlas, generic):
        self.ranks = Ranks(atlas, generic)
        # For each position the names of the classes that can stand there, ascending.
        self.standing = [
            [one for one in sorted(atlas.classes) if atlas.can_stand(one, take)]
            for take in generic.takes
        ]
        self._outcomes = {}

    def outcome(self, classes):
        """The tuple of the references of the methods that run for a call, or the word of NoBest."""
        bits = self.ranks.applicable(classes)
        if bits not in self._outcomes:
            self._outcomes[bits] = self.ranks.outcome(bits)
        return self._outcomes[bits]

    def contexts(self, position):
        """The rows of classes before and behind the position in all calls, as pairs."""
        before = all_choices(self.standing[:position])
        behind = all_choices(self.standing[position + 1:])
        return [(first, second) for first in before for second in behind]

    def groups(self, position):
        """The groups of classes that are alike at the position."""
        contexts = self.contexts(position)
        found = {}
        for one in self.standing[position]:
            told = [self.outcome(before + (one,) + behind) for before, behind in contexts]
            found.setdefault(tuple(told), []).append(one)
        return tuple([tuple(names) for names in found.values()])


def groups(world, generic, position):
    """The groups of the classes that can stand at a position and are alike there; BadValue."""
    outcomes = asked_outcomes(world, generic)
    check_position(outcomes, position)
    return outcomes.groups(position - 1)


def tells_apart(world, generic, position, one, other):
    """A call with class one at the position that has another outcome with class other there.

    None if the two are alike. BadValue.
    """
    outcomes = asked_outcomes(world, generic)
    check_position(outcomes, position)
    check_standing(outcomes, position, one, 3)
    check_standing(outcomes, position, other, 4)
    for before, behind in outcomes.contexts(position - 1):
        call = before + (one,) + behind
        if outcomes.outcome(call) != outcomes.outcome(before + (other,) + behind):
            return call
    return None


def table(world, generic):
    """The groups of all positions, and the outcome for each choice of a group at each; BadValue."""
    outcomes = asked_outcomes(world, generic)
    parts = tuple([outcomes.groups(position) for position in range(len(outcomes.standing))])
    cells = []
    for indices in all_choices([list(range(len(part))) for part in parts]):
        classes = [part[index][0] for part, index in zip(parts, indices)]
        cells.append((indices, outcomes.outcome(classes)))
    return (parts, tuple(cells))


def asked_outcomes(world, generic):
    """The outcomes of the calls of a generic; BadValue."""
    atlas = lawful_atlas(world)
    return Outcomes(atlas, asked_generic(atlas, generic, 1))


def check_position(outcomes, position):
    """Raises BadValue for what is no position of the generic."""
    if not is_integer(position, 1, len(outcomes.standing)):
        raise BadValue(2)


def check_standing(outcomes, position, name, at):
    """Raises BadValue(at) for what is no class that can stand at the position."""
    if name not in outcomes.standing[position - 1]:
        raise BadValue(at)


def all_choices(rows):
    """The tuples of a member of each of the rows, the first ones slowest."""
    choices = [()]
    for row in rows:
        choices = [choice + (one,) for choice in choices for one in row]
    return choices
