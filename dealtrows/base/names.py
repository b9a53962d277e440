"""What a single value can be: a name, an integer, a row, the form of an answer."""

_FORMS = ("distinct", "count", "sum")
MAX_LETTERS = 8
_COLUMNS = 4
_INTEGER_BOUND = 10 ** 60


def is_name(value):
    """Whether the value is a name: one to eight letters from a to z."""
    if not isinstance(value, str) or len(value) > MAX_LETTERS:
        return False
    return value.isascii() and value.isalpha() and value.islower()


def is_number(value):
    """Whether the value is an integer of any length."""
    # True and False are integers for Python, but not here.
    return isinstance(value, int) and not isinstance(value, bool)


def is_integer(value):
    """Whether the value is an integer of at most sixty digits."""
    return is_number(value) and -_INTEGER_BOUND < value < _INTEGER_BOUND


def are_integers(value):
    """Whether the value is a tuple of integers, perhaps without any."""
    if not isinstance(value, tuple):
        return False
    # Many rows and heads are checked, so this says once more what an integer is.
    for number in value:
        if not isinstance(number, int) or isinstance(number, bool) or not -_INTEGER_BOUND < number < _INTEGER_BOUND:
            return False
    return True


def is_row(value):
    """Whether the value is a tuple of one to four integers."""
    return are_integers(value) and 1 <= len(value) <= _COLUMNS


def is_form(value):
    """Whether the value is the form of a query and of its answers."""
    return isinstance(value, str) and value in _FORMS


def are_names(value):
    """Whether the value is a tuple of names, perhaps without any."""
    if not isinstance(value, tuple):
        return False
    # Schemas and clauses have many names, so this says once more what a name is.
    for name in value:
        if not isinstance(name, str) or len(name) > MAX_LETTERS:
            return False
        if not (name.isascii() and name.isalpha() and name.islower()):
            return False
    return True


def is_plain(value):
    """Whether a value has no True and no False in its tuples, which would equal 1 and 0."""
    if isinstance(value, tuple):
        return all([is_plain(part) for part in value])
    return not isinstance(value, bool)


def is_ascending(values):
    """Whether the values of a tuple, of one kind, ascend strictly."""
    return all([low < high for low, high in zip(values, values[1:])])
