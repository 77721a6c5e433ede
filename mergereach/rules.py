"""Rules about versions, and whether a reach keeps them."""

from mergereach.cosets import is_same_sum, is_vector, weighted
from mergereach.errors import InvalidRule, InvalidRules, InvalidVersion, RuleKept
from mergereach.links import different
from mergereach.reach import choice_at, choice_count, values_at
from mergereach.schemas import is_name, is_version, is_whole_number, labels_of, vector_of, version_with

MOST_RULE_FIELDS = 4


def is_tagged(thing, word, length):
    """Returns whether thing is a tuple of this length that begins with this word."""
    return isinstance(thing, tuple) and len(thing) == length and isinstance(thing[0], str) and thing[0] == word


def is_name_tuple(thing, length):
    """Returns whether thing is a tuple of as many NAMES."""
    return isinstance(thing, tuple) and len(thing) == length and all([is_name(item) for item in thing])


def are_rule_fields(schema, thing):
    """Returns whether thing is a tuple of one to four different names of label fields."""
    if not isinstance(thing, tuple) or not 1 <= len(thing) <= MOST_RULE_FIELDS:
        return False
    names = schema.label_names()
    if not all([isinstance(item, str) and item in names for item in thing]):
        return False
    return len(different(thing)) == len(thing)


def is_label_rule(schema, thing):
    """Returns whether thing is a rule of the kind ("labels", fields, allowed)."""
    if not is_tagged(thing, "labels", 3):
        return False
    word, fields, allowed = thing
    if not are_rule_fields(schema, fields) or not isinstance(allowed, tuple):
        return False
    if not all([is_name_tuple(item, len(fields)) for item in allowed]):
        return False
    return len(different(allowed)) == len(allowed)


def is_counter_rule(schema, thing):
    """Returns whether thing is a rule of the kind ("counters", coefficients, constant, modulus)."""
    if not is_tagged(thing, "counters", 4):
        return False
    word, coefficients, constant, modulus = thing
    if not is_vector(coefficients, len(schema.counter_names())):
        return False
    return is_whole_number(constant) and is_whole_number(modulus) and modulus >= 0


def is_rule(schema, thing):
    """Returns whether thing is a rule of the schema."""
    if is_tagged(thing, "either", 3):
        return is_label_rule(schema, thing[1]) and is_counter_rule(schema, thing[2])
    return is_label_rule(schema, thing) or is_counter_rule(schema, thing)


def rule_places(schema, rule):
    """Returns the places of the fields of a label rule."""
    names = schema.names()
    return [names.index(field) for field in rule[1]]


def holds(schema, version, rule):
    """Returns whether the version satisfies the rule, for values that are known to be a version and a rule."""
    if rule[0] == "labels":
        return values_at(rule_places(schema, rule), version) in rule[2]
    if rule[0] == "counters":
        word, coefficients, constant, modulus = rule
        return is_same_sum(weighted(coefficients, vector_of(schema, version)), constant, modulus)
    return holds(schema, version, rule[1]) or holds(schema, version, rule[2])


def satisfies(schema, version, rule):
    """Returns whether the version satisfies the rule."""
    if not is_version(schema, version):
        raise InvalidVersion(version)
    if not is_rule(schema, rule):
        raise InvalidRule(rule)
    return holds(schema, version, rule)


def version_against_labels(reach, rule):
    """Returns a version in reach that does not satisfy the label rule, or None."""
    places = rule_places(reach.schema(), rule)
    parts = [part for part in reach.parts if any([place in places for place in part[0]])]
    allowed = {row: True for row in rule[2]}
    # Two choices differ in some field of the rule, so one that is not allowed comes up soon if there is one.
    for number in range(choice_count(parts)):
        values = choice_at(parts, number)
        if tuple([values[place] for place in places]) not in allowed:
            version = reach.versions()[0]
            return tuple([values.get(place, value) for place, value in enumerate(version)])
    return None


def version_against_counters(reach, rule):
    """Returns a version in reach that does not satisfy the counter rule, or None."""
    # The sums of all versions in reach are the same if those of the known versions are.
    for version in reach.versions():
        if not holds(reach.schema(), version, rule):
            return version
    return None


def version_against(reach, rule):
    """Returns a version in reach that does not satisfy the rule, or None."""
    if rule[0] == "labels":
        return version_against_labels(reach, rule)
    if rule[0] == "counters":
        return version_against_counters(reach, rule)
    labelled = version_against_labels(reach, rule[1])
    counted = version_against_counters(reach, rule[2])
    if labelled is None or counted is None:
        return None
    schema = reach.schema()
    return version_with(schema, labels_of(schema, labelled), vector_of(schema, counted))


def is_kept(reach, rule):
    """Returns whether each version in reach satisfies the rule."""
    if not is_rule(reach.schema(), rule):
        raise InvalidRule(rule)
    return version_against(reach, rule) is None


def breaking_script(reach, rule):
    """Returns a script for the known versions to a version that does not satisfy the rule."""
    if not is_rule(reach.schema(), rule):
        raise InvalidRule(rule)
    version = version_against(reach, rule)
    if version is None:
        raise RuleKept(rule)
    return reach.script_to(version)


def first_broken(reach, rules):
    """Returns the index of the first rule that is not kept, or None."""
    if not isinstance(rules, (list, tuple)):
        raise InvalidRules(-1)
    for index, rule in enumerate(rules):
        if not is_rule(reach.schema(), rule):
            raise InvalidRules(index)
    for index, rule in enumerate(rules):
        if version_against(reach, rule) is not None:
            return index
    return None
