"""Drafts: scripts in the making, and how they come to given labels and counters."""

from mergereach.links import crossing_script, index_with, index_with_both
from mergereach.picks import picked


class Draft:
    """A script in the making, with the known versions and the results of its steps so far."""

    def __init__(self, schema, known):
        self.frame = schema
        self.given = tuple(known)
        self.line = list(known)
        self.moves = []

    def put(self, ours, base, theirs):
        """Adds a step and returns the number of its result."""
        self.line.append(picked(self.frame, self.line[ours], self.line[base], self.line[theirs]))
        self.moves.append((ours, base, theirs))
        return len(self.line) - 1

    def put_double(self, one, two, three):
        """Adds the two steps of a double pick and returns the number of its result."""
        return self.put(one, self.put(one, two, three), three)

    def put_script(self, steps):
        """Adds the steps of a script for the known versions and returns the number of its result."""
        known = len(self.given)
        shift = len(self.moves)
        for step in steps:
            ours, base, theirs = [place if place < known else place + shift for place in step]
            self.put(ours, base, theirs)
        return len(self.line) - 1

    def script_for(self, number):
        """Returns the script, such that its last step has the version with this number as its result."""
        if len(self.moves) == 0 or number != len(self.line) - 1:
            self.put(number, number, number)
        return list(self.moves)


def number_with_pair(draft, version, place, spot):
    """Returns the number of a version with the values of this one at two places that are not linked."""
    known = draft.given
    both = index_with_both(known, place, version[place], spot, version[spot])
    if both is not None:
        return both
    index = index_with(known, place, version[place])
    other = index_with(known, spot, version[spot])
    return draft.put_script(crossing_script(draft.frame, known, place, index, spot, other))


def number_with_values(draft, version, places):
    """Returns the number of a version with the values of this one at these places, of which no two are linked."""
    for index, known in enumerate(draft.given):
        if all([known[place] == version[place] for place in places]):
            return index
    # The version with the number fronts[k] is right at the first k + 1 places.
    fronts = [index_with(draft.given, places[0], version[places[0]])]
    for count, place in enumerate(places[1:], start=1):
        side = number_with_pair(draft, version, places[0], place)
        for at in range(1, count):
            # So far, side is right at the places before this one, and at the new place.
            spot = places[at]
            if draft.line[side][spot] != version[spot]:
                # At each of these places, two of the three versions are right.
                side = draft.put_double(fronts[at], side, number_with_pair(draft, version, spot, place))
        fronts.append(side)
    return fronts[-1]


def number_with_sum(draft, multiples):
    """Returns the number of a version whose vector is the sum of those of the known versions with these multiples.

    The multiples add up to 1.
    """
    # Seen from the first vector, a pick adds if the first version is its base, and subtracts if it is its theirs.
    # All multiples are made together, from their highest bits to their lowest ones.
    number = 0
    bits = max([times.bit_length() for times in multiples[1:]], default=0)
    for bit in range(bits - 1, -1, -1):
        if number != 0:
            number = draft.put(number, 0, number)
        for index, times in enumerate(multiples[1:], start=1):
            if (abs(times) >> bit) % 2 == 1:
                number = draft.put(number, 0, index) if times > 0 else draft.put(number, index, 0)
    return number


def number_with_vector(draft, coset, vector):
    """Returns the number of a version with this vector of the coset of the known versions."""
    vectors = coset.vectors()
    return vectors.index(vector) if vector in vectors else number_with_sum(draft, coset.combination(vector))
