"""Links between label fields: which of their values can be made to meet in one version."""

from mergereach.errors import UnknownField
from mergereach.schemas import COUNTER, MINE, known_versions

MOST_LINKED_VALUES = 2


def label_place(schema, field):
    """Returns the place of the label field in each version."""
    # Only strings are compared: objects may claim to equal anything.
    if not isinstance(field, str) or field not in schema.label_names():
        raise UnknownField(field)
    return schema.names().index(field)


def different(things):
    """Returns the list of the things without repetitions, in the sequence in which they first occur."""
    return list({thing: True for thing in things})


def seen_values(schema, versions, field):
    """Returns the list of the seen values of the label field."""
    known = known_versions(schema, versions)
    place = label_place(schema, field)
    return different([version[place] for version in known])


def link_mark(schema, known, place):
    """Returns a value that is the same for two label fields exactly if they are linked."""
    # The pattern says which versions have equal values, the second part is the policy where it matters.
    values = [version[place] for version in known]
    pattern = tuple([values.index(value) for value in values])
    few = len(different(values)) <= MOST_LINKED_VALUES
    return (pattern, None if few else schema.fields()[place][1])


def are_linked_places(schema, known, one, other):
    """Returns whether the label fields at these two places are linked."""
    return link_mark(schema, known, one) == link_mark(schema, known, other)


def are_linked(schema, versions, one, other):
    """Returns whether the two label fields are linked."""
    known = known_versions(schema, versions)
    place = label_place(schema, one)
    return are_linked_places(schema, known, place, label_place(schema, other))


def block_places(schema, known):
    """Returns the list of the tuples of the places of each block."""
    blocks = {}
    for place, (name, kind) in enumerate(schema.fields()):
        if kind != COUNTER:
            mark = link_mark(schema, known, place)
            blocks[mark] = blocks.get(mark, ()) + (place,)
    return [blocks[mark] for mark in blocks]


def blocks_of(schema, versions):
    """Returns the list of the blocks."""
    known = known_versions(schema, versions)
    names = schema.names()
    return [tuple([names[place] for place in places]) for places in block_places(schema, known)]


def field_tuples(schema, versions, fields):
    """Returns the list of the tuples of values that known versions have in these label fields."""
    known = known_versions(schema, versions)
    places = [label_place(schema, field) for field in fields]
    return different([tuple([version[place] for place in places]) for version in known])


def index_with(known, place, value):
    """Returns the index of the first version with this value at the place, or None."""
    if isinstance(value, str):
        for index, version in enumerate(known):
            if version[place] == value:
                return index
    return None


def index_with_both(known, place, value, spot, second):
    """Returns the index of the first version with these values at the two places, or None."""
    for index, version in enumerate(known):
        if version[place] == value and version[spot] == second:
            return index
    return None


def parted_pair(known, shared, parted):
    """Returns the indexes of two versions with equal values at the one place and different ones at the other."""
    for index, version in enumerate(known):
        for other in range(index):
            if version[shared] == known[other][shared] and version[parted] != known[other][parted]:
                return (other, index)
    return None


def mirrored(steps):
    """Returns the steps with ours and theirs exchanged, which turns each policy into the other one."""
    return [(theirs, base, ours) for ours, base, theirs in steps]


def parting_script(known, pair, parted, source, target):
    """Returns steps to the value of source at the parted place and the value of target at the shared one.

    The pair is parted at the one place, which is of policy mine, and agrees at the shared one, whatever its policy.
    """
    one, other = pair
    if known[one][parted] == known[source][parted]:
        one, other = other, one
    # The first step gives source another value at the parted place only. Seen from that base, source
    # has changed the parted place and target has changed the shared one.
    return [(one, other, source), (source, len(known), target)]


def third_index(known, place, index, other):
    """Returns the index of a version whose value at the place neither of the two versions has."""
    taken = (known[index][place], known[other][place])
    free = [at for at, version in enumerate(known) if version[place] not in taken]
    return free[0]


def crossing_script(schema, known, place, index, spot, other):
    """Returns steps to the value of one version at the place and the value of the other one at the spot.

    The two fields are not linked.
    """
    fields = schema.fields()
    pair = parted_pair(known, place, spot)
    if pair is not None:
        steps = parting_script(known, pair, spot, other, index)
        return steps if fields[spot][1] == MINE else mirrored(steps)
    pair = parted_pair(known, spot, place)
    if pair is not None:
        steps = parting_script(known, pair, place, index, other)
        return steps if fields[place][1] == MINE else mirrored(steps)
    # The policies differ and there is a third value: from there, each side wins the conflict in its own field.
    steps = [(index, third_index(known, place, index, other), other)]
    return steps if fields[place][1] == MINE else mirrored(steps)


def meeting_script(schema, versions, one, value, other, second):
    """Returns a script to a version with both values, or None if none is in reach."""
    known = known_versions(schema, versions)
    place = label_place(schema, one)
    spot = label_place(schema, other)
    index = index_with(known, place, value)
    partner = index_with(known, spot, second)
    if index is None or partner is None:
        return None
    both = index_with_both(known, place, value, spot, second)
    if both is not None:
        return [(both, both, both)]
    if are_linked_places(schema, known, place, spot):
        return None
    return crossing_script(schema, known, place, index, spot, partner)
