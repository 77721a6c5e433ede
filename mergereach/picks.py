"""Picks: the change from one version to another one, applied to a third version."""

from mergereach.errors import InvalidVersion
from mergereach.schemas import COUNTER, MINE, is_version


def picked_value(kind, ours, base, theirs):
    """Returns the value that a pick gives to a field of this kind."""
    if kind == COUNTER:
        return ours + theirs - base
    if kind == MINE:
        return theirs if ours == base else ours
    return ours if theirs == base else theirs


def picked(schema, ours, base, theirs):
    """Returns the result of the pick, for three values that are known to be versions."""
    result = []
    for (name, kind), mine, old, new in zip(schema.fields(), ours, base, theirs):
        result.append(picked_value(kind, mine, old, new))
    return tuple(result)


def check_versions(schema, versions):
    """Raises InvalidVersion for the first item that is not a version."""
    for version in versions:
        if not is_version(schema, version):
            raise InvalidVersion(version)


def pick(schema, ours, base, theirs):
    """Returns the result of the pick."""
    check_versions(schema, (ours, base, theirs))
    return picked(schema, ours, base, theirs)


def pick_many(schema, ours, base, *theirs):
    """Returns ours after the changes from base to each of theirs, one after another."""
    check_versions(schema, (ours, base, *theirs))
    result = ours
    for version in theirs:
        result = picked(schema, result, base, version)
    return result


def conflicts_of(schema, ours, base, theirs):
    """Returns the names of the label fields in which the three values are all different."""
    check_versions(schema, (ours, base, theirs))
    names = []
    for (name, kind), mine, old, new in zip(schema.fields(), ours, base, theirs):
        if kind != COUNTER and mine != old and old != new and mine != new:
            names.append(name)
    return names


def double_pick(schema, one, two, three):
    """Returns the pick with one as ours, the pick of all three as base, and three as theirs."""
    check_versions(schema, (one, two, three))
    return picked(schema, one, picked(schema, one, two, three), three)
