"""The search for calls of a generic that are not good.

Whether a call is good depends on the methods that are applicable to it. It is not good if and
only if
    all applicable methods have next (or there are none), or
    two of them, neither as near as the other, have no method in common below them: no applicable
    one that is without next and at least as near as both.
For a chain ends well just at a method without next that is at least as near as all applicable
ones but those before it in the chain. Of two methods that are not comparable none stands before
the end. And where the chain breaks off for lack of a best method, two such methods are left,
and what is at least as near as both stands in the chain and has next.

A smaller sight makes fewer methods applicable. So if any call is not good, there is one that has
the least sights in which the takes, or the classes of two such methods, are seen.
"""

from callwarrant.ranks import Ranks, as_bits
from callwarrant.sights import least_sights, lowest


class Case:
    """The calls of a generic whose classes stand at these places, one for each position."""

    def __init__(self, atlas, generic, places):
        self.atlas = atlas
        self.takes = generic.takes
        self.places = places
        self.ranks = Ranks(atlas, generic)
        self.methods = self.ranks.methods
        self.nearer = self.ranks.nearer
        self._rows = {}

    def bad_sights(self):
        """The sights of a call that is not good, one for each position; None if all are good."""
        found = self.sights_without([(take,) for take in self.takes], self.ranks.ends)
        for second in range(len(self.methods)):
            for first in range(second):
                if found is None and not self.are_comparable(first, second):
                    found = self.bad_sights_of_two(first, second)
        return found

    def are_comparable(self, first, second):
        """Whether one of two methods is at least as near as the other."""
        return bool(self.nearer[first] >> second & 1 or self.nearer[second] >> first & 1)

    def bad_sights_of_two(self, first, second):
        """The sights of a call to which these two methods, with no end in common, are applicable."""
        needs = [
            tuple(lowest(self.atlas, pair))
            for pair in zip(self.methods[first].classes, self.methods[second].classes)
        ]
        barred = self.ranks.ends & self.nearer[first] & self.nearer[second]
        return self.sights_without(needs, barred)

    def sights_without(self, needs, barred):
        """Sights that see the needs of each position, so that no barred method is applicable.

        None if there are none.
        """
        left = {barred: ()}
        for position in range(len(needs)):
            further = {}
            for bits, sights in left.items():
                for sight, methods in self.row(position, needs[position]):
                    further.setdefault(bits & methods, sights + (sight,))
            left = further
        return left.get(0)

    def row(self, position, needs):
        """The least sights of a position, each with the methods that it admits there."""
        key = (position,) + needs
        if key not in self._rows:
            sights = least_sights(self.atlas, self.places[position], needs)
            self._rows[key] = [(sight, self.admitted(position, sight)) for sight in sights]
        return self._rows[key]

    def admitted(self, position, sight):
        """The methods whose class at the position is seen."""
        return as_bits([method.classes[position] in sight.seen for method in self.methods])
