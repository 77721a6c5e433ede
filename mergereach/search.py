"""Rounds: all picks, all picks of their results, and so on, and all versions in reach."""

from mergereach.errors import InvalidCount, InvalidLimit, InvalidRule, InvalidVersion, OutOfReach, TooMany
from mergereach.links import different
from mergereach.picks import picked
from mergereach.reach import Reach
from mergereach.rules import is_kept, is_rule, satisfies
from mergereach.schemas import is_version, is_whole_number, known_versions, version_with

MOST_ROUNDS = 20
MOST_IN_ROUND = 60
MOST_IN_REACH = 2000


def check_limit(limit, most):
    """Raises InvalidLimit if the value is not an integer from 1 to most."""
    if not is_whole_number(limit) or not 1 <= limit <= most:
        raise InvalidLimit(limit)


def new_results(schema, earlier, newest, limit):
    """Returns versions that picks with at least one of the newest versions add to all of them.

    These are all such versions, or so many that there are more versions than the limit.
    """
    every = earlier + newest
    found = {version: True for version in every}
    results = []
    # Each pick with a version of the newest, by the first place where it stands.
    for places in ((newest, every, every), (earlier, newest, every), (earlier, earlier, newest)):
        for ours in places[0]:
            for base in places[1]:
                for theirs in places[2]:
                    result = picked(schema, ours, base, theirs)
                    if result not in found:
                        found[result] = True
                        results.append(result)
                if len(found) > limit:
                    return results
    return results


def is_closed(reach, versions):
    """Returns whether these different versions in reach are all versions in reach."""
    return reach.coset().rank == 0 and len(versions) == reach.label_count()


def each_round(schema, versions, *, limit=40):
    """Yields the sorted list of the versions of each round, up to the last round that has a new one."""
    known = known_versions(schema, versions)
    check_limit(limit, MOST_IN_ROUND)
    reach = Reach(schema, known)
    earlier = []
    newest = different(known)
    while len(newest) > 0:
        every = earlier + newest
        if len(every) > limit:
            raise TooMany(limit)
        yield sorted(every)
        # This test saves all the picks that would add nothing.
        newest = [] if is_closed(reach, every) else new_results(schema, earlier, newest, limit)
        earlier = every


def round_versions(schema, versions, count, *, limit=40):
    """Returns the sorted list of the versions of the round with this number."""
    known = known_versions(schema, versions)
    if not is_whole_number(count) or not 0 <= count <= MOST_ROUNDS:
        raise InvalidCount(count)
    last = []
    for number, found in enumerate(each_round(schema, known, limit=limit)):
        last = found
        if number == count:
            break
    return last


def round_of(schema, versions, version, *, limit=40):
    """Returns the least number of a round that contains the version."""
    known = known_versions(schema, versions)
    if not is_version(schema, version):
        raise InvalidVersion(version)
    check_limit(limit, MOST_IN_ROUND)
    if Reach(schema, known).contains(version):
        for number, found in enumerate(each_round(schema, known, limit=limit)):
            if version in found:
                return number
    raise OutOfReach(version)


def first_break(schema, versions, rule, *, limit=40):
    """Returns the least number of a round that contains a version that does not satisfy the rule, or None."""
    known = known_versions(schema, versions)
    if not is_rule(schema, rule):
        raise InvalidRule(rule)
    check_limit(limit, MOST_IN_ROUND)
    if is_kept(Reach(schema, known), rule):
        return None
    for number, found in enumerate(each_round(schema, known, limit=limit)):
        if not all([satisfies(schema, version, rule) for version in found]):
            return number
    return None


def all_in_reach(schema, versions, *, limit=400):
    """Returns the sorted list of all versions in reach."""
    reach = Reach(schema, versions)
    check_limit(limit, MOST_IN_REACH)
    if reach.coset().rank > 0 or reach.label_count() > limit:
        raise TooMany(limit)
    vector = reach.coset().vectors()[0]
    return sorted([version_with(schema, labels, vector) for labels in reach.each_labels()])
