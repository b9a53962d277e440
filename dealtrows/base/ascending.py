"""Ascending tuples and dicts that get one value more, or lose some, without being made anew from all others."""


def _place_in(values, value):
    """Where a value stands, or would stand, among ascending ones."""
    low, high = 0, len(values)
    while low < high:
        middle = (low + high) // 2
        if values[middle] < value:
            low = middle + 1
        else:
            high = middle
    return low


def with_value(values, value):
    """The ascending tuple that has one more value."""
    at = _place_in(values, value)
    return values[:at] + (value,) + values[at:]


def without_value(values, value):
    """The ascending tuple that lacks one of its values."""
    at = _place_in(values, value)
    return values[:at] + values[at + 1:]


def without_keys(told, keys):
    """The dict that lacks some of its keys."""
    left = {**told}
    for key in keys:
        del left[key]
    return left
