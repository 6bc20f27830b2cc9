"""Versions, ranges, and which versions satisfy a range."""

from peershelf.errors import BadRange, BadVersion

DIGITS = "0123456789"
PARTS = 3
MOST_DIGITS = 3
MOST_ALTERNATIVES = 3
JOINT = " || "
LOWEST = (0, 0, 0)
ABOVE_ALL = (1000, 0, 0)


def part_number(text):
    """The number of one part of a version, or None if the text is none."""
    if not 1 <= len(text) <= MOST_DIGITS:
        return None
    # int() alone would also take signs, spaces, "_" and the digits of other scripts.
    if not all([sign in DIGITS for sign in text]):
        return None
    if text[0] == "0" and text != "0":
        return None
    return int(text)


def version_numbers(value):
    """The three numbers of a version as a tuple, which orders like the version; None for what is no version."""
    # Not isinstance: a text of a derived class may answer anything, or raise.
    if type(value) != str:
        return None
    numbers = [part_number(part) for part in value.split(".")]
    if len(numbers) != PARTS or None in numbers:
        return None
    return tuple(numbers)


def above_caret(numbers):
    """The numbers below which the versions of a range with ^ end."""
    first, second, third = numbers
    if first > 0:
        return (first + 1, 0, 0)
    if second > 0:
        return (0, second + 1, 0)
    return (0, 0, third + 1)


def between_bounds(text):
    """The bounds of what stands behind the >= of an alternative, or None if it is none."""
    bounds = [version_numbers(part) for part in text.split(" <")]
    if len(bounds) != 2 or None in bounds:
        return None
    low, high = bounds
    if low >= high:
        return None
    return (low, high)


def alternative_bounds(text):
    """The numbers from which and below which an alternative allows versions, or None if the text is none."""
    if text == "*":
        return (LOWEST, ABOVE_ALL)
    if text.startswith(">="):
        return between_bounds(text[2:])
    mark = text[:1]
    low = version_numbers(text[1:] if mark in ("^", "~") else text)
    if low is None:
        return None
    first, second, third = low
    if mark == "^":
        return (low, above_caret(low))
    if mark == "~":
        return (low, (first, second + 1, 0))
    return (low, (first, second, third + 1))


def range_bounds(value):
    """The bounds of each alternative of a range, or None for what is no range."""
    if type(value) != str:
        return None
    bounds = [alternative_bounds(text) for text in value.split(JOINT)]
    if len(bounds) > MOST_ALTERNATIVES or None in bounds:
        return None
    return bounds


def is_version(value):
    """Whether a value is a version."""
    return version_numbers(value) is not None


def is_range(value):
    """Whether a value is a range."""
    return range_bounds(value) is not None


def satisfies(version, wanted):
    """Whether a version satisfies a range; raises BadVersion, BadRange."""
    numbers = version_numbers(version)
    if numbers is None:
        raise BadVersion("this is no version")
    bounds = range_bounds(wanted)
    if bounds is None:
        raise BadRange("this is no range")
    return any([low <= numbers < high for low, high in bounds])
