"""Cosets: the sums of integer multiples of some vectors whose multiples add up to 1."""

from mergereach.errors import InvalidVector, InvalidVectors
from mergereach.schemas import is_whole_number


def is_vector(thing, width):
    """Returns whether thing is a tuple of as many integers."""
    if not isinstance(thing, tuple) or len(thing) != width:
        return False
    return all([is_whole_number(entry) for entry in thing])


def is_first_vector(thing):
    """Returns whether thing is a tuple of integers whose length a coset can have."""
    return isinstance(thing, tuple) and len(thing) <= Coset.MOST_ENTRIES and is_vector(thing, len(thing))


def is_functional(thing, width):
    """Returns whether thing is a functional for vectors of this width."""
    if not isinstance(thing, tuple) or len(thing) != 2:
        return False
    coefficients, modulus = thing
    return is_vector(coefficients, width) and is_whole_number(modulus) and modulus >= 0


def plus(vector, other, times):
    """Returns the vector and so many times the other one."""
    return tuple([entry + times * more for entry, more in zip(vector, other)])


def scaled(vector, times):
    """Returns so many times the vector."""
    return tuple([times * entry for entry in vector])


def weighted(coefficients, vector):
    """Returns the sum of the entries with these coefficients."""
    return sum([coefficient * entry for coefficient, entry in zip(coefficients, vector)])


def pivot_column(row):
    """Returns the column of the first nonzero entry."""
    return [entry != 0 for entry in row].index(True)


def remainder(row, rows):
    """Returns the row without multiples of the rows, such that 0 <= entry < pivot in their pivot columns."""
    rest = row
    for other in rows:
        column = pivot_column(other)
        rest = plus(rest, other, -(rest[column] // other[column]))
    return rest


def divided_rows(first, second, column):
    """Returns two rows with the same combinations, of which the second one has 0 in the column.

    The entry of the first row is positive there, before and after.
    """
    # This is Euclid's algorithm; it leaves the first row as it is if its entry divides the other one.
    second = plus(second, first, -(second[column] // first[column]))
    while second[column] != 0:
        first, second = second, plus(first, second, -(first[column] // second[column]))
    return first, second


def reduced_rows(found):
    """Returns the list of the rows of a dict by pivot columns, each one reduced by the later ones."""
    rows = [found[column] for column in sorted(found)]
    return [remainder(row, rows[index + 1:]) for index, row in enumerate(rows)]


def joined_rows(rows, row):
    """Returns the reduced rows with one more row, and the last entry of what is left of it.

    The last entry of each row is carried along, but is no column. 0 is left of a row that is independent.
    """
    found = {pivot_column(other): other for other in rows}
    left = row
    for column in range(len(row) - 1):
        if left[column] == 0:
            continue
        if column not in found:
            found[column] = left if left[column] > 0 else scaled(left, -1)
            return reduced_rows(found), 0
        found[column], left = divided_rows(found[column], left, column)
    return reduced_rows(found), abs(left[-1])


def layers_of(differences):
    """Returns a tuple (rows, period) for each difference, in sequence.

    The rows are the basis of the differences up to this one, each with one more entry: how often it
    contains this difference. The period is the least positive number of times that the earlier
    differences combine to it, and 0 if there is none.
    """
    # One entry instead of one for each difference: it can be reduced by the period, so that the
    # multiples in a combination stay small.
    layers = []
    rows = []
    for difference in differences:
        earlier = [row[:-1] + (0,) for row in rows]
        rows, period = joined_rows(earlier, difference + (1,))
        layers.append((tuple(rows), period))
    return layers


def separating_functional(rows, gap):
    """Returns a functional that is 0 for all rows and not for the gap, or None if the rows combine to the gap."""
    # There is one view for each column: a functional that is 0 for the rows so far, and otherwise
    # scale times the entry that is left in the column when these rows are eliminated.
    columns = list(range(len(gap)))
    views = [tuple([int(at == column) for at in columns]) for column in columns]
    scale = 1
    for row in rows:
        column = pivot_column(row)
        view = views[column]
        scale = scale * row[column]
        # The view of this row is the new scale, and that of each later row is 0.
        if weighted(view, gap) % scale != 0:
            return (view, scale)
        views = [plus(scaled(views[at], row[column]), view, -row[at]) for at in columns]
    for view in views:
        if weighted(view, gap) != 0:
            return (view, 0)
    return None


class Coset:
    """The coset of some vectors; it never changes."""

    MOST_VECTORS = 40
    MOST_ENTRIES = 4

    def __init__(self, vectors):
        if not isinstance(vectors, (list, tuple)) or not 1 <= len(vectors) <= Coset.MOST_VECTORS:
            raise InvalidVectors(-1)
        for index, vector in enumerate(vectors):
            if not is_first_vector(vector) or len(vector) != len(vectors[0]):
                raise InvalidVectors(index)
        self.given = tuple(vectors)
        self.differences = tuple([plus(vector, vectors[0], -1) for vector in vectors[1:]])
        self.layers = tuple(layers_of(self.differences))
        self.lines = tuple([row[:-1] for row in self.layers[-1][0]]) if len(vectors) > 1 else ()
        # The same vector for all cosets that contain the same vectors.
        self.least = remainder(vectors[0], self.lines)

    def __eq__(self, other):
        return isinstance(other, Coset) and self.least == other.least and self.lines == other.lines

    def __len__(self):
        return len(self.lines)

    @classmethod
    def stepped(cls, start, *steps):
        """Returns the coset of start and of the sums of start and each of the steps."""
        if len(steps) >= cls.MOST_VECTORS:
            raise InvalidVectors(-1)
        if not is_first_vector(start):
            raise InvalidVectors(0)
        for index, step in enumerate(steps):
            if not is_vector(step, len(start)):
                raise InvalidVectors(1 + index)
        return cls([start] + [plus(start, step, 1) for step in steps])

    @property
    def rank(self):
        """The number of basis vectors."""
        return len(self.lines)

    def vectors(self):
        """Returns the list of the vectors as given."""
        return list(self.given)

    def width(self):
        """Returns the length of a vector."""
        return len(self.least)

    def basis(self):
        """Returns the list of the basis vectors."""
        return list(self.lines)

    def contains(self, vector):
        """Returns whether the coset contains the vector."""
        if not is_vector(vector, len(self.least)):
            raise InvalidVector(vector)
        return remainder(vector, self.lines) == self.least

    def is_within(self, other):
        """Returns whether the other coset contains each vector of this one."""
        if self.width() != other.width():
            return False
        return all([other.contains(vector) for vector in self.given])

    def combination(self, vector):
        """Returns a combination of the vector, or None if the coset does not contain it."""
        if not self.contains(vector):
            return None
        gap = plus(vector, self.given[0], -1)
        multiples = []
        for (rows, period), difference in zip(self.layers[::-1], self.differences[::-1]):
            times = -remainder(gap + (0,), rows)[-1]
            if period != 0:
                times = times % period
            multiples.append(times)
            gap = plus(gap, difference, -times)
        return [1 - sum(multiples)] + multiples[::-1]

    def separating(self, vector):
        """Returns a functional that separates the vector from the coset, or None if the coset contains it."""
        if not is_vector(vector, len(self.least)):
            raise InvalidVector(vector)
        return separating_functional(self.lines, plus(vector, self.given[0], -1))


def is_same_sum(one, other, modulus):
    """Returns whether two sums are the same for this modulus."""
    return one == other if modulus == 0 else (one - other) % modulus == 0


def separates(coset, vector, thing):
    """Returns whether thing is a functional that separates the vector from the coset."""
    if not is_vector(vector, coset.width()):
        raise InvalidVector(vector)
    if not is_functional(thing, coset.width()):
        return False
    coefficients, modulus = thing
    sums = [weighted(coefficients, known) for known in coset.vectors()]
    # The sum is the same for all vectors of the coset if it is the same for the given ones.
    if not all([is_same_sum(known, sums[0], modulus) for known in sums]):
        return False
    return not is_same_sum(weighted(coefficients, vector), sums[0], modulus)
