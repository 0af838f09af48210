"""The methods of a generic, and which of them are nearer than which.

Sets of methods are kept as integers: method number k is in the set if bit k is set.
"""

from callwarrant.choosing import has_next


class Ranks:
    """The methods of a generic, numbered in ascending order of their references."""

    def __init__(self, atlas, generic):
        self.atlas = atlas
        self.takes = generic.takes
        self.owner_at = generic.owner_at
        self.methods = atlas.methods.get(generic.name, [])
        self.every = (1 << len(self.methods)) - 1
        # Those without next.
        self.ends = as_bits([not has_next(method.body) for method in self.methods])
        self._admitted = {}
        # For each method, those that it is at least as near as, and those at least as near as it.
        self.farther = [self.applicable(method.classes) for method in self.methods]
        self.nearer = [
            as_bits([row >> number & 1 for row in self.farther])
            for number in range(len(self.methods))
        ]

    def admitted(self, position, name):
        """The methods whose class at the position the class of this name is under."""
        key = (position, name)
        if key not in self._admitted:
            above = self.atlas.above(name)
            self._admitted[key] = as_bits([one.classes[position] in above for one in self.methods])
        return self._admitted[key]

    def applicable(self, classes):
        """The methods that are applicable where these classes stand."""
        bits = self.every
        for position, name in enumerate(classes):
            bits = bits & self.admitted(position, name)
        return bits

    def best_in(self, bits):
        """The number of the best one of a set of methods; None if there is none."""
        for number, row in enumerate(self.farther):
            if bits >> number & 1 and bits & row == bits:
                return number
        return None

    def outcome(self, bits):
        """What comes of a call to which just these methods are applicable.

        It is the tuple of the references of the methods that run, or the word of NoBest.
        """
        run = []
        while True:
            last = self.best_in(bits)
            if last is None:
                return "many" if bits else "none"
            run.append(self.methods[last].reference)
            if self.ends >> last & 1:
                return tuple(run)
            # The best one is as near as all others, so next chooses from all of them.
            bits = bits & ~(1 << last)


def as_bits(truths):
    """The integer whose bit k tells whether the truth number k holds."""
    bits = 0
    for number, truth in enumerate(truths):
        if truth:
            bits = bits | 1 << number
    return bits
