"""Sets of calls of a generic, over all worlds, that are told by the sights at each position.

A sight is kept as one integer, with a bit for each method whose class at the position is seen, and
a bit for each class that is seen.
"""

from callwarrant.ranks import Ranks


class Board:
    """The bits of the methods of a generic, and of the classes of the view behind them."""

    def __init__(self, atlas, generic):
        self.atlas = atlas
        self.ranks = Ranks(atlas, generic)
        many = len(self.ranks.methods)
        self.bits = {name: 1 << many + number for number, name in enumerate(atlas.classes)}
        self._sights = {}

    def sight(self, position, name):
        """The sight of a class of the view that stands at the position."""
        key = (position, name)
        if key not in self._sights:
            bits = self.ranks.admitted(position, name)
            for one in self.atlas.above(name):
                bits = bits | self.bits[one]
            self._sights[key] = bits
        return self._sights[key]

    def region(self, places, needs):
        """The calls whose classes stand at these places and are under these classes."""
        families = []
        for position, need in enumerate(needs):
            place = places[position]
            bit = self.bits[need]
            concrete = [self.sight(position, one) for one in place.concrete]
            extended = [self.sight(position, one) for one in place.extended]
            families.append(Family([one for one in concrete if one & bit], extended, [bit]))
        return Region(self, families)


class Family:
    """The sights that the classes at a position may have.

    They are the concrete ones, and those that join one or more of the extended ones; all of them
    have the bits that are due, of which there is at least one. There are no extended ones if these
    cannot be joined so.
    """

    def __init__(self, concrete, extended, due):
        can_join = joined(extended)
        self.concrete = concrete
        self.extended = extended if all([can_join & bit for bit in due]) else []
        self.due = due
        # The bits that some sight has, and those that all sights have.
        self.ever = joined(self.concrete) | joined(self.extended)
        self.always = common(self.concrete) & self.always_joined()
        self._having = {}

    def always_joined(self):
        """The bits that all sights have that join extended ones; all bits if there are none.

        A bit is not among them if, for every due one, an extended one has that and lacks the bit.
        """
        bits = 0
        for due in self.due:
            bits = bits | common([one for one in self.extended if one & due])
        return bits

    def is_empty(self):
        """Whether there are no sights."""
        return not self.concrete and not self.extended

    def having(self, bit):
        """The sights that have the bit."""
        if bit not in self._having:
            due = self.due if bit in self.due else self.due + [bit]
            concrete = [one for one in self.concrete if one & bit]
            self._having[bit] = Family(concrete, self.extended, due)
        return self._having[bit]

    def lacking(self, bit):
        """The sights that lack the bit."""
        concrete = [one for one in self.concrete if not one & bit]
        return Family(concrete, [one for one in self.extended if not one & bit], self.due)


class Region:
    """The calls of a generic that have, at each position, a sight of the family there."""

    def __init__(self, board, families):
        self.board = board
        self.ranks = board.ranks
        self.families = families

    def is_empty(self):
        """Whether there is no such call in any world."""
        return any([family.is_empty() for family in self.families])

    def possible(self):
        """The methods that are applicable to some of the calls."""
        bits = self.ranks.every
        for family in self.families:
            bits = bits & family.ever
        return bits

    def sure(self):
        """The methods that are applicable to all of the calls."""
        bits = self.ranks.every
        for family in self.families:
            bits = bits & family.always
        return bits

    def only_best(self):
        """The number of the method that is the best one for each of the calls; None if none is."""
        best = self.ranks.best_in(self.sure())
        if best is None or self.possible() & ~self.ranks.farther[best]:
            return None
        return best

    def outcome(self):
        """The references of the methods that run for each of the calls; None if they differ.

        The word of NoBest if the same method is the best one, and the chain breaks off.
        """
        best = self.only_best()
        return None if best is None else self.ranks.outcome(self.ranks.farther[best])

    def parted(self, position, bit):
        """The calls whose sight at the position has the bit, and those whose sight lacks it."""
        family = self.families[position]
        return (self.changed(position, family.having(bit)), self.changed(position, family.lacking(bit)))

    def changed(self, position, family):
        """The region with another family at the position."""
        families = list(self.families)
        families[position] = family
        return Region(self.board, families)

    def possible_methods(self):
        """The pairs (number, method) of those that are applicable to some of the calls."""
        bits = self.possible()
        return [(number, one) for number, one in enumerate(self.ranks.methods) if bits >> number & 1]

    def count_of_rivals(self):
        """How many methods may be the best one of a call, as far as each two of them tell.

        One may not if, wherever it is applicable, another one that is nearer is applicable too.
        """
        many = 0
        for number, method in self.possible_methods():
            others = self.ranks.nearer[number] & ~(1 << number)
            for position, family in enumerate(self.families):
                bit = self.board.bits[method.classes[position]]
                others = others & family.having(bit).always
            if others == 0:
                many = many + 1
        return many


def joined(rows):
    """The bits that one of the rows has."""
    bits = 0
    for row in rows:
        bits = bits | row
    return bits


def common(rows):
    """The bits that all of the rows have; all bits if there are no rows."""
    bits = -1
    for row in rows:
        bits = bits & row
    return bits
