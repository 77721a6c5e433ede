"""Schemas, and the versions of a schema."""

from mergereach.errors import InvalidSchema, InvalidText, InvalidVersion, InvalidVersions, UnknownField

LETTERS = "abcdefghijklmnopqrstuvwxyz"
MOST_LETTERS = 8
MINE = "mine"
COUNTER = "counter"
KINDS = ("mine", "theirs", "counter")
MOST_VERSIONS = 40
MOST_VALUES = 8


def is_name(thing):
    """Returns whether thing is a NAME."""
    if not isinstance(thing, str):
        return False
    return 1 <= len(thing) <= MOST_LETTERS and all([letter in LETTERS for letter in thing])


def is_whole_number(thing):
    """Returns whether thing is an INTEGER."""
    return isinstance(thing, int) and not isinstance(thing, bool)


def is_field(thing):
    """Returns whether thing is a tuple of a NAME and a kind."""
    if not isinstance(thing, tuple) or len(thing) != 2:
        return False
    name, kind = thing
    # The kind is compared as a string only: objects may claim to equal anything.
    return is_name(name) and isinstance(kind, str) and kind in KINDS


def field_problem(field, earlier):
    """Returns what keeps field from following the earlier fields, or None."""
    if not is_field(field):
        return "field"
    name, kind = field
    if name in [row[0] for row in earlier]:
        return "duplicate"
    alike = [row for row in earlier if (row[1] == COUNTER) == (kind == COUNTER)]
    most = Schema.MOST_COUNTERS if kind == COUNTER else Schema.MOST_LABELS
    return "many" if len(alike) == most else None


class Schema:
    """A list of fields; it never changes."""

    MOST_LABELS = 12
    MOST_COUNTERS = 4

    def __init__(self, fields):
        if not isinstance(fields, (list, tuple)) or len(fields) == 0:
            raise InvalidSchema("list", -1)
        rows = []
        for index, field in enumerate(fields):
            problem = field_problem(field, rows)
            if problem is not None:
                raise InvalidSchema(problem, index)
            name, kind = field
            rows.append((name, kind))
        self.rows = tuple(rows)

    def __eq__(self, other):
        return isinstance(other, Schema) and self.rows == other.rows

    def __len__(self):
        return len(self.rows)

    def __repr__(self):
        return f"Schema({list(self.rows)!r})"

    @classmethod
    def read(cls, text):
        """Returns the schema with this text."""
        if not isinstance(text, str):
            raise InvalidText(0)
        fields = [tuple(word.split(":")) for word in text.split(" ")]
        try:
            return cls(fields)
        except InvalidSchema:
            raise InvalidText(1) from None

    def text(self):
        """Returns the text of the schema."""
        return " ".join([f"{name}:{kind}" for name, kind in self.rows])

    def fields(self):
        """Returns the list of the fields."""
        return list(self.rows)

    def names(self):
        """Returns the list of the names of all fields."""
        return [name for name, kind in self.rows]

    def label_names(self):
        """Returns the list of the names of the label fields."""
        return [name for name, kind in self.rows if kind != COUNTER]

    def counter_names(self):
        """Returns the list of the names of the counters."""
        return [name for name, kind in self.rows if kind == COUNTER]

    def kind(self, field):
        """Returns the kind of the field with this name."""
        if isinstance(field, str):
            for name, kind in self.rows:
                if name == field:
                    return kind
        raise UnknownField(field)


def is_value(kind, thing):
    """Returns whether a field of this kind may have thing as its value."""
    return is_whole_number(thing) if kind == COUNTER else is_name(thing)


def is_version(schema, thing):
    """Returns whether thing is a version of the schema."""
    if not isinstance(thing, tuple) or len(thing) != len(schema):
        return False
    return all([is_value(kind, value) for (name, kind), value in zip(schema.fields(), thing)])


def labels_of(schema, version):
    """Returns the tuple of the values of the label fields."""
    if not is_version(schema, version):
        raise InvalidVersion(version)
    return tuple([value for value in version if isinstance(value, str)])


def vector_of(schema, version):
    """Returns the tuple of the counters."""
    if not is_version(schema, version):
        raise InvalidVersion(version)
    return tuple([value for value in version if isinstance(value, int)])


def version_with(schema, labels, vector):
    """Returns the version with these labels and this vector."""
    values = list(labels)
    entries = list(vector)
    for place, (name, kind) in enumerate(schema.fields()):
        if kind == COUNTER:
            values.insert(place, entries.pop(0))
    return tuple(values)


def known_versions(schema, versions):
    """Returns the list of the versions if they can be known versions."""
    if not isinstance(versions, (list, tuple)) or not 1 <= len(versions) <= MOST_VERSIONS:
        raise InvalidVersions(-1)
    seen = [{} for name in schema.label_names()]
    for index, version in enumerate(versions):
        if not is_version(schema, version):
            raise InvalidVersions(index)
        for at, label in enumerate(labels_of(schema, version)):
            seen[at][label] = True
            if len(seen[at]) > MOST_VALUES:
                raise InvalidVersions(index)
    return list(versions)


def version_of(schema, values):
    """Returns the version with the values of this dict."""
    names = schema.names()
    # The keys are looked at first: reading an absent key would change some kinds of dicts.
    if not isinstance(values, dict) or len(values) != len(names) or not all([name in values for name in names]):
        raise InvalidVersion(values)
    version = tuple([values[name] for name in names])
    if not is_version(schema, version):
        raise InvalidVersion(values)
    return version
