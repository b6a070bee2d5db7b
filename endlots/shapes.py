"""What plain values are, as the arguments and the judged values of the package are asked for."""


def is_integer(value):
    """Tell whether a value is an int other than True and False."""
    return isinstance(value, int) and not isinstance(value, bool)


def is_list(value):
    """Tell whether a value may stand where a list is expected."""
    return isinstance(value, (list, tuple))


def is_from(value, low, high):
    """Tell whether a value is an integer from low to high, these two included."""
    return is_integer(value) and low <= value <= high


def is_index(value, count):
    """Tell whether a value is an integer from 0 to below the count."""
    return is_integer(value) and 0 <= value < count


def is_set_below(value, count):
    """Tell whether a value is an ascending list of different integers from 0 to below the count."""
    if not is_list(value) or not all([is_index(item, count) for item in value]):
        return False
    return is_ascending(value)


def is_ascending(items):
    """Tell whether each item of a list is less than the next one; all are integers, or all are rows."""
    return all([items[at - 1] < items[at] for at in range(1, len(items))])


def is_digits(word):
    """Tell whether a string is one or more of the digits 0 to 9."""
    # isdigit alone takes digits of other scripts, too.
    return word.isascii() and word.isdigit()
