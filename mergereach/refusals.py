"""Refusals: reasons, easy to check, why a version is not in reach."""

from mergereach.cosets import separates
from mergereach.errors import InvalidVersion
from mergereach.links import are_linked_places, index_with, index_with_both
from mergereach.schemas import is_version, vector_of


def is_label_field(reach, thing):
    """Returns whether thing is the name of a label field."""
    # Only strings are compared: objects may claim to equal anything.
    return isinstance(thing, str) and thing in reach.schema().label_names()


def is_seen(reach, version, field):
    """Returns whether a known version has the value of this one in the label field."""
    place = reach.schema().names().index(field)
    return index_with(reach.versions(), place, version[place]) is not None


def is_value_refusal(reach, version, field):
    """Returns whether ("value", field) is a refusal of the version."""
    return is_label_field(reach, field) and not is_seen(reach, version, field)


def is_link_refusal(reach, version, field, other):
    """Returns whether ("link", field, other) is a refusal of the version."""
    if not is_label_field(reach, field) or not is_label_field(reach, other):
        return False
    schema = reach.schema()
    known = reach.versions()
    place = schema.names().index(field)
    spot = schema.names().index(other)
    if place >= spot or not are_linked_places(schema, known, place, spot):
        return False
    if not is_seen(reach, version, field) or not is_seen(reach, version, other):
        return False
    return index_with_both(known, place, version[place], spot, version[spot]) is None


def refusal_of(reach, version):
    """Returns a refusal of the version, or None if it is in reach."""
    if reach.contains(version):
        return None
    names = reach.schema().label_names()
    for field in names:
        if is_value_refusal(reach, version, field):
            return ("value", field)
    for field in names:
        for other in names:
            if is_link_refusal(reach, version, field, other):
                return ("link", field, other)
    coefficients, modulus = reach.coset().separating(vector_of(reach.schema(), version))
    return ("counters", coefficients, modulus)


def is_refusal(reach, version, thing):
    """Returns whether thing is a refusal of the version."""
    if not is_version(reach.schema(), version):
        raise InvalidVersion(version)
    if not isinstance(thing, tuple) or len(thing) not in (2, 3) or not isinstance(thing[0], str):
        return False
    word, *parts = thing
    if word == "value" and len(parts) == 1:
        return is_value_refusal(reach, version, parts[0])
    if word == "link" and len(parts) == 2:
        return is_link_refusal(reach, version, parts[0], parts[1])
    if word == "counters" and len(parts) == 2:
        return separates(reach.coset(), vector_of(reach.schema(), version), tuple(parts))
    return False
