"""Checks of arguments that several files of the package share."""

from bucketline.errors import InvalidNumber, UnknownPerson


def is_whole(value):
    """Tell whether a value is an integer; a boolean is none here."""
    return isinstance(value, int) and not isinstance(value, bool)


def in_range(value, low, high):
    """Tell whether a value is an integer from low to high."""
    return is_whole(value) and low <= value <= high


def check_number(value, low, high):
    """Raise InvalidNumber unless a value is an integer from low to high."""
    if not in_range(value, low, high):
        raise InvalidNumber(f"no integer from {low} to {high}")


def check_person(names, name):
    """Raise UnknownPerson unless a name is among the names."""
    if name not in names:
        raise UnknownPerson(name=name)


def place_of(names, name):
    """Return the place of a name among the names, or raise UnknownPerson."""
    # A loop, not the tuple's own search: the signs of a line run this, and what
    # they run calls no method that shares its name with an attribute of errors.
    for place, other in enumerate(names):
        if other == name:
            return place
    raise UnknownPerson(name=name)
