"""Whether two programs over one graph say the same."""

from leastkeep.errors import NotOver
from leastkeep.judging import judge
from leastkeep.machines import as_code
from leastkeep.programs import Program


def apart(one, other):
    """None if two programs over one graph say the same on all runs, otherwise a shortest run that tells them apart.

    They stand over one graph if the other, as a code whose registers are its
    variables, stands over the one.
    """
    if not isinstance(other, Program):
        raise NotOver(-1)
    return judge(one, as_code(other))
