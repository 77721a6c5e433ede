"""Reaches: exactly the versions that scripts can produce from known versions."""

from mergereach.cosets import Coset
from mergereach.drafts import Draft, number_with_values, number_with_vector
from mergereach.errors import InvalidVersion, OutOfReach
from mergereach.links import block_places, different
from mergereach.schemas import is_version, known_versions, vector_of


def values_at(places, version):
    """Returns the tuple of the values that the version has at these places."""
    return tuple([version[place] for place in places])


def part_of(known, places):
    """Returns the tuple of the places of a block and of its tuples in ascending sequence."""
    return (places, tuple(sorted(different([values_at(places, version) for version in known]))))


def choice_count(parts):
    """Returns in how many ways one tuple can be chosen for each part."""
    count = 1
    for places, rows in parts:
        count = count * len(rows)
    return count


def choice_at(parts, number):
    """Returns the choice with this number, as a dict from places to values; the last part changes fastest."""
    values = {}
    rest = number
    for places, rows in parts[::-1]:
        rest, at = divmod(rest, len(rows))
        for place, value in zip(places, rows[at]):
            values[place] = value
    return values


class Reach:
    """The reach of some known versions; it never changes."""

    def __init__(self, schema, versions):
        known = known_versions(schema, versions)
        self.frame = schema
        self.given = tuple(known)
        self.lattice = Coset([vector_of(schema, version) for version in known])
        # Only the set of the versions in reach decides about the parts, so reaches can be compared by them.
        self.parts = tuple([part_of(known, places) for places in block_places(schema, known)])

    def __eq__(self, other):
        return (isinstance(other, Reach) and self.frame == other.frame and self.parts == other.parts
                and self.lattice == other.lattice)

    def schema(self):
        """Returns the schema."""
        return self.frame

    def versions(self):
        """Returns the list of the known versions as given."""
        return list(self.given)

    def blocks(self):
        """Returns the list of the blocks."""
        names = self.frame.names()
        return [values_at(places, names) for places, rows in self.parts]

    def coset(self):
        """Returns the coset of the vectors of the known versions."""
        return self.lattice

    def contains(self, version):
        """Returns whether the version is in reach."""
        if not is_version(self.frame, version):
            raise InvalidVersion(version)
        if not all([values_at(places, version) in rows for places, rows in self.parts]):
            return False
        return self.lattice.contains(vector_of(self.frame, version))

    def label_count(self):
        """Returns the number of different labels of the versions in reach."""
        return choice_count(self.parts)

    def each_labels(self):
        """Yields the labels of the versions in reach, in ascending sequence."""
        # The first value of a tuple decides about the others, so the first fields of the blocks decide about the
        # sequence of the labels.
        for number in range(choice_count(self.parts)):
            values = choice_at(self.parts, number)
            yield tuple([values[place] for place in sorted(values)])

    def is_within(self, other):
        """Returns whether the other reach contains each version of this one."""
        if self.frame != other.frame:
            return False
        # Picks do not lead out of a reach, so the known versions decide.
        return all([other.contains(version) for version in self.given])

    def script_to(self, version):
        """Returns a script for the known versions whose result is the version."""
        if not self.contains(version):
            raise OutOfReach(version)
        draft = Draft(self.frame, self.given)
        if version in self.given:
            return draft.script_for(self.given.index(version))
        labelled = number_with_values(draft, version, [places[0] for places, rows in self.parts])
        if draft.line[labelled] == version:
            return draft.script_for(labelled)
        counted = number_with_vector(draft, self.lattice, vector_of(self.frame, version))
        # Labels and counters fall apart: this double pick has the labels of the one and the counters of the other.
        return draft.script_for(draft.put_double(labelled, counted, labelled))


def reduced_versions(schema, versions):
    """Returns the list of the versions that are left after reducing."""
    distinct = different(known_versions(schema, versions))
    left = list(distinct)
    for version in distinct[::-1]:
        others = [other for other in left if other != version]
        if len(others) > 0 and Reach(schema, others).contains(version):
            left = others
    return left
