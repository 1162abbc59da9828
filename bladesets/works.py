"""What the works hold: the blades, and the sets that are made of them."""

from bladesets.evening import units_needed


class Blade:
    """One blade: free, in a set, or gone."""

    def __init__(self, kind, moment):
        self.kind = kind
        self.moment = moment
        self.added = 0
        self.gone = False
        # Its set's number and one, so that 0 is left for none.
        self.set_and_one = 0

    def pull(self):
        return self.moment + self.added

    def is_free(self):
        return not self.gone and self.set_and_one == 0

    def weigh_anew(self, moment):
        self.moment = moment
        self.added = 0


class Works:
    """All blades by their numbers, and each set's three blades by its number."""

    def __init__(self):
        self.started = False
        self.most = 0
        self.unit = 1
        self.blades = []
        self.trios = {}

    def begin(self, most, unit):
        self.started = True
        self.most = most
        self.unit = unit
        self.blades = []
        self.trios = {}

    def take_in(self, kind, moment):
        """One more blade, free; its number is given back."""
        self.blades.append(Blade(kind, moment))
        return len(self.blades) - 1

    def has_blades(self, numbers):
        # A blade that's gone keeps its number, so it is still such a blade.
        return max(numbers) < len(self.blades)

    def of_one_kind(self, numbers):
        kind = self.blades[numbers[0]].kind
        return all([self.blades[i].kind == kind for i in numbers])

    def all_free(self, numbers):
        return all([self.blades[i].is_free() for i in numbers])

    def free_of_kind(self, kind):
        """The numbers of the free blades of a kind, rising."""
        return [i for i, blade in enumerate(self.blades) if blade.kind == kind and blade.is_free()]

    def pulls(self, numbers):
        return [self.blades[i].pull() for i in numbers]

    def units_for(self, numbers):
        return units_needed(self.pulls(numbers), self.unit)

    def may_be_set(self, numbers):
        return max(self.units_for(numbers)) * self.unit <= self.most

    def needs_nothing(self, numbers):
        return sum(self.units_for(numbers)) == 0

    def even_out(self, numbers):
        """Add to each of these blades what it needs beside the others."""
        for i, units in zip(numbers, self.units_for(numbers)):
            blade = self.blades[i]
            blade.added += units * self.unit

    def bind(self, numbers):
        """Make a set of these blades, evened; its number is given back."""
        s = self.least_free_number()
        self.bind_as(s, numbers)
        return s

    def bind_as(self, s, numbers):
        self.even_out(numbers)
        for i in numbers:
            blade = self.blades[i]
            blade.set_and_one = s + 1
        self.trios[s] = list(numbers)

    def least_free_number(self):
        s = 0
        while s in self.trios:
            s += 1
        return s

    def unbind(self, s):
        """Free a set's blades, and its number with them; the blades are given back."""
        trio = self.trios.pop(s)
        for i in trio:
            blade = self.blades[i]
            blade.set_and_one = 0
        return trio

    def rebind(self, s, numbers):
        """Make set s anew of these blades, evened; those it had and has no more are free."""
        self.unbind(s)
        self.bind_as(s, numbers)

    def send_off(self, s):
        """Unbind a set whose blades are gone from then on; they are given back."""
        trio = self.unbind(s)
        for i in trio:
            blade = self.blades[i]
            blade.gone = True
        return trio

    def plan(self, kind):
        """The free blades of a kind in threes, those that pull most first; one or two may be left out."""
        ranked = sorted(self.free_of_kind(kind), key=lambda i: (-self.blades[i].pull(), i))
        return [ranked[at:at + 3] for at in range(0, len(ranked) - 2, 3)]
