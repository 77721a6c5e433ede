"""Links between label fields: which of their values can be made to meet in one version."""

from mergereach.errors import UnknownField
from mergereach.schemas import MINE, known_versions

MOST_LINKED_VALUES = 2


def label_place(schema, field):
    """Returns the place of the label field in each version."""
    # Only strings are compared: objects may claim to equal anything.
    if not isinstance(field, str) or field not in schema.label_names():
        raise UnknownField(field)
    return schema.names().index(field)


def different(things):
    """Returns the list of the things without repetitions, in the sequence in which they first occur."""
    return list({thing: True for thing in things})


def seen_values(schema, versions, field):
    """Returns the list of the seen values of the label field."""
    known = known_versions(schema, versions)
    place = label_place(schema, field)
    return different([version[place] for version in known])


def are_linked_places(schema, known, one, other):
    """Returns whether the label fields at these two places are linked."""
    values = different([version[one] for version in known])
    others = different([version[other] for version in known])
    pairs = different([(version[one], version[other]) for version in known])
    # As many pairs as values in each field: each value of the one field stands with one of the other only.
    if len(values) != len(pairs) or len(others) != len(pairs):
        return False
    fields = schema.fields()
    return fields[one][1] == fields[other][1] or len(pairs) <= MOST_LINKED_VALUES


def are_linked(schema, versions, one, other):
    """Returns whether the two label fields are linked."""
    known = known_versions(schema, versions)
    place = label_place(schema, one)
    return are_linked_places(schema, known, place, label_place(schema, other))


def blocks_of(schema, versions):
    """Returns the list of the blocks."""
    known = known_versions(schema, versions)
    names = schema.names()
    places = [names.index(name) for name in schema.label_names()]
    blocks = []
    for place in places:
        linked = [other for other in places if are_linked_places(schema, known, place, other)]
        # Being linked is an equivalence: a block is met again at each of its fields, first at the first one.
        if linked[0] == place:
            blocks.append(tuple([names[other] for other in linked]))
    return blocks


def field_tuples(schema, versions, fields):
    """Returns the list of the tuples of values that known versions have in these label fields."""
    known = known_versions(schema, versions)
    places = [label_place(schema, field) for field in fields]
    return different([tuple([version[place] for place in places]) for version in known])


def index_with(known, place, value):
    """Returns the index of the first version with this value at the place, or None."""
    if isinstance(value, str):
        for index, version in enumerate(known):
            if version[place] == value:
                return index
    return None


def parted_pair(known, shared, parted):
    """Returns the indexes of two versions with equal values at the one place and different ones at the other."""
    for index, version in enumerate(known):
        for other in range(index):
            if version[shared] == known[other][shared] and version[parted] != known[other][parted]:
                return (other, index)
    return None


def mirrored(steps):
    """Returns the steps with ours and theirs exchanged, which turns each policy into the other one."""
    return [(theirs, base, ours) for ours, base, theirs in steps]


def parting_script(known, pair, parted, source, target):
    """Returns steps to the value of source at the parted place and the value of target at the shared one.

    The pair is parted at the one place, which is of policy mine, and agrees at the shared one, whatever its policy.
    """
    one, other = pair
    if known[one][parted] == known[source][parted]:
        one, other = other, one
    # The first step gives source another value at the parted place only. Seen from that base, source
    # has changed the parted place and target has changed the shared one.
    return [(one, other, source), (source, len(known), target)]


def third_index(known, place, index, other):
    """Returns the index of a version whose value at the place neither of the two versions has."""
    taken = (known[index][place], known[other][place])
    free = [at for at, version in enumerate(known) if version[place] not in taken]
    return free[0]


def crossing_script(schema, known, place, index, spot, other):
    """Returns steps to the value of one version at the place and the value of the other one at the spot.

    The two fields are not linked.
    """
    fields = schema.fields()
    pair = parted_pair(known, place, spot)
    if pair is not None:
        steps = parting_script(known, pair, spot, other, index)
        return steps if fields[spot][1] == MINE else mirrored(steps)
    pair = parted_pair(known, spot, place)
    if pair is not None:
        steps = parting_script(known, pair, place, index, other)
        return steps if fields[place][1] == MINE else mirrored(steps)
    # The policies differ and there is a third value: from there, each side wins the conflict in its own field.
    steps = [(index, third_index(known, place, index, other), other)]
    return steps if fields[place][1] == MINE else mirrored(steps)


def meeting_script(schema, versions, one, value, other, second):
    """Returns a script to a version with both values, or None if none is in reach."""
    known = known_versions(schema, versions)
    place = label_place(schema, one)
    spot = label_place(schema, other)
    index = index_with(known, place, value)
    partner = index_with(known, spot, second)
    if index is None or partner is None:
        return None
    for at, version in enumerate(known):
        if version[place] == value and version[spot] == second:
            return [(at, at, at)]
    if are_linked_places(schema, known, place, spot):
        return None
    return crossing_script(schema, known, place, index, spot, partner)
