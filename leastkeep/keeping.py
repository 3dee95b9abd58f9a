"""What must be kept at a row: what some way on tells of the states of its hull."""

from leastkeep.modules import picked
from leastkeep.stairs import stairs_of
from leastkeep.values import product_of


def kept_parts(width, there, wants):
    """As few differences of states of a hull as there can be, so that all others are like sums of their multiples.

    Differences are alike if their products with all that is wanted are equal.
    """
    if there is None:
        return []
    differences = there[1]
    products = [[product_of(want, difference, width) for want in wants] for difference in differences]
    return [differences[index] for index in picked(width, len(wants), products)]


def kept_wants(width, there, wants):
    """As few of what is wanted at a hull as there can be, so that all else is like sums of their multiples.

    What has the same products with all differences of states is alike.
    """
    differences = there[1]
    products = [[product_of(want, difference, width) for difference in differences] for want in wants]
    return [wants[index] for index in picked(width, len(differences), products)]


def told_hull(width, there, forms):
    """The hull of the values that forms have in the states of a hull: a tuple (base, module)."""
    base, differences = there
    rows = [[product_of(form, (0,) + difference, width) for form in forms] for difference in differences]
    stairs = stairs_of(width, len(forms), rows)
    return (stairs.rest([product_of(form, (1,) + base, width) for form in forms]), stairs.echelon_rows())
