"""Scripts: lists of picks with known versions and the results of earlier picks."""

from mergereach.errors import InvalidScript
from mergereach.picks import picked
from mergereach.schemas import is_whole_number, known_versions


def is_step(thing, count):
    """Returns whether thing is a step that refers to the first count versions only."""
    if not isinstance(thing, tuple) or len(thing) != 3:
        return False
    return all([is_whole_number(place) and 0 <= place < count for place in thing])


def run_script(schema, versions, steps):
    """Returns the list of the results of all steps."""
    line = known_versions(schema, versions)
    known = len(line)
    if not isinstance(steps, (list, tuple)) or len(steps) == 0:
        raise InvalidScript(-1)
    for index, step in enumerate(steps):
        if not is_step(step, known + index):
            raise InvalidScript(index)
        ours, base, theirs = step
        line.append(picked(schema, line[ours], line[base], line[theirs]))
    return line[known:]


def result_of(schema, versions, steps):
    """Returns the result of the last step."""
    return run_script(schema, versions, steps)[-1]
