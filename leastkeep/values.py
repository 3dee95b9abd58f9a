"""What a value is, and how forms are reckoned: what all files of the package share."""

WIDEST = 64


def is_integer(value):
    """Whether a value is an integer; True and False are none."""
    return isinstance(value, int) and not isinstance(value, bool)


def is_within(value, least, most):
    """Whether a value is an integer from `least` to `most`."""
    return is_integer(value) and least <= value <= most


def is_from_zero(value):
    """Whether a value is an integer that is not below 0."""
    return is_integer(value) and value >= 0


def is_width(value):
    """Whether numbers may be reckoned modulo 2 to the power of a value."""
    return is_within(value, 1, WIDEST)


def is_sequence(value, least, most):
    """Whether a value is a list or tuple of `least` to `most` items."""
    return isinstance(value, (list, tuple)) and least <= len(value) <= most


def are_integers(items):
    """Whether all items are integers."""
    return all([is_integer(item) for item in items])


def wrong_integer(value, size):
    """Tell -1 for no list or tuple of `size` items, or the index of the first one that is no integer, or None."""
    if not is_sequence(value, size, size):
        return -1
    for index, item in enumerate(value):
        if not is_integer(item):
            return index
    return None


def is_form(value, size):
    """Whether a value is a form over `size` numbers: a tuple with the constant and as many coefficients."""
    return isinstance(value, tuple) and len(value) == size + 1 and are_integers(value)


def lowered(numbers, width):
    """The numbers as a tuple of numbers from 0 to 2 ** width - 1."""
    mask = (1 << width) - 1
    return tuple([number & mask for number in numbers])


def unit_row(place, size):
    """A row of `size` numbers: 1 at a place, and 0 everywhere else."""
    return tuple([1 if at == place else 0 for at in range(size)])


def product_of(row, other, width):
    """The sum of the products of the numbers at the same places.

    The value of a form is its product with the row of 1 and the values, its
    difference between two states that with the row of 0 and their difference.
    """
    return sum([one * two for one, two in zip(row, other)]) & ((1 << width) - 1)
