"""Texts of versions."""

from mergereach.errors import InvalidText, InvalidVersion
from mergereach.numbertexts import is_number_text, number_of, number_text
from mergereach.schemas import is_version


def value_text(value):
    """Returns the text of a NAME or an INTEGER."""
    return value if isinstance(value, str) else number_text(value)


def read_value(word):
    """Returns the integer with this text, or the word itself if there is none."""
    return number_of(word) if is_number_text(word) else word


def version_text(schema, version):
    """Returns the text of the version."""
    if not is_version(schema, version):
        raise InvalidVersion(version)
    return ",".join([value_text(value) for value in version])


def read_version(schema, text):
    """Returns the version with this text."""
    if not isinstance(text, str):
        raise InvalidText(0)
    # No word is both a NAME and the text of an integer, so is_version decides about the rest.
    version = tuple([read_value(word) for word in text.split(",")])
    if not is_version(schema, version):
        raise InvalidText(1)
    return version
