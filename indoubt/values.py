"""Values, their order, rows in order, and what can be stored in a column."""

LARGEST_STORED = 1000000


def compare_values(left, right):
    """Return -1 if left comes before right, 0 if they are equal, 1 if left comes after right."""
    left_key = _value_key(left)
    right_key = _value_key(right)
    if left_key < right_key:
        return -1
    if left_key > right_key:
        return 1
    return 0


def sorted_rows(rows):
    """Return the tuple of the rows in ascending order, each of them once."""
    different = list({row: True for row in rows})
    return tuple(sorted(different, key=_row_key))


def is_storable(value, word):
    """Tell whether the value can be stored in a column that is declared with the word."""
    if word == "string":
        return isinstance(value, str)
    return isinstance(value, int) and -LARGEST_STORED <= value <= LARGEST_STORED


def _value_key(value):
    # The first item decides between kinds, so that Python never compares an integer with a string.
    return (isinstance(value, str), value)


def _row_key(row):
    return tuple([_value_key(value) for value in row])
