"""Rows that are alike: whatever can be told behind the one can be told behind the other."""

from leastkeep.hulls import all_hulls
from leastkeep.keeping import told_hull
from leastkeep.matching import matched_forms
from leastkeep.programs import check_row


def alike(one, row, other, spot):
    """Whether a row of a program and a row of another or the same program are alike."""
    check_row(one, row)
    check_row(other, spot)
    if one.width != other.width:
        return False
    forms = matched_forms(one, other, [(row, spot)])
    return _are_alike(one.width, all_hulls(one)[row], all_hulls(other)[spot], forms.get((row, spot)))


def classes(program):
    """The list of the lists of rows that are alike, each ascending, in the order of their first rows."""
    hulls = all_hulls(program)
    return classes_by_forms(program, hulls, forms_among(program, hulls))


def forms_among(program, hulls):
    """What `matched_forms` tells for rows that runs reach, each beside itself or an earlier one."""
    reached = [row for row, there in enumerate(hulls) if there is not None]
    return matched_forms(program, program, [(row, spot) for row in reached for spot in reached if spot <= row])


def classes_by_forms(program, hulls, forms):
    """The classes of the rows of a program, whose hulls and matched forms are known."""
    found = []
    for row, there in enumerate(hulls):
        fitting = [rows for rows in found
                   if _are_alike(program.width, there, hulls[rows[0]], forms.get((row, rows[0])))]
        if fitting:
            fitting[0].append(row)
        else:
            found.append([row])
    return found


def _are_alike(width, one, other, forms):
    """Whether rows with two hulls are alike.

    That is so if each state of the one hull has one of the other beside it
    for which the forms have equal values; there are no forms (None) if not
    the same tuples are ways on.
    """
    if one is None or other is None:
        return one is None and other is None
    return (forms is not None and told_hull(width, one, [first for first, _ in forms])
            == told_hull(width, other, [second for _, second in forms]))
