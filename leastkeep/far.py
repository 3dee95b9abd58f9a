"""What a round does and says however often it is done."""

from leastkeep.errors import NoCount, NoForm, NoRound
from leastkeep.graphs import check_numbers, next_row, rows_on_way
from leastkeep.programs import check_row, graph_of
from leastkeep.rounds import Track, hits
from leastkeep.runs import check_state
from leastkeep.turns import Cycle
from leastkeep.values import are_integers, is_from_zero, is_integer, lowered, product_of


def far_state(program, row, numbers, state, many):
    """The state behind many rounds."""
    track = _track(program, row, numbers, state)
    _check_count("many", many)
    return track.ahead_of(many)[1:]


def far_said(program, row, numbers, state, at):
    """What is said as number `at` if the round is done for ever, or None if it says nothing."""
    track = _track(program, row, numbers, state)
    _check_count("at", at)
    if not track.forms:
        return None
    many, place = divmod(at, len(track.forms))
    return product_of(track.forms[place], track.ahead_of(many), track.width)


def comes_back(program, row, numbers, state):
    """Behind how many rounds the first state stands that comes again, and behind how many further ones it does."""
    track = _track(program, row, numbers, state)
    cycle = Cycle(track.turn, track.start)
    return (cycle.ahead, cycle.period)


def first_round(program, row, numbers, state, form, value, *, start=0):
    """The number of the first round from a start on ahead of which a form has a value, or None."""
    track = _track(program, row, numbers, state)
    _check_form(program, form)
    _check_value(value)
    _check_count("start", start)
    cycle = Cycle(track.turn, track.start)
    early = [many for many in _early_hits(track, cycle, form, value) if many >= start]
    if early:
        return early[0]
    start = max(start - cycle.ahead, 0)
    found = [first + max(start - first + step - 1, 0) // step * step
             for first, step in hits(track, cycle, lowered(form, track.width), value)]
    return cycle.ahead + min(found) if found else None


def rounds_with(program, row, numbers, state, form, value, many):
    """Ahead of how many of the first rounds a form has a value."""
    track = _track(program, row, numbers, state)
    _check_form(program, form)
    _check_value(value)
    _check_count("many", many)
    cycle = Cycle(track.turn, track.start)
    early = [number for number in _early_hits(track, cycle, form, value) if number < many]
    left = max(many - cycle.ahead, 0)
    return len(early) + sum([max(left - first + step - 1, 0) // step
                             for first, step in hits(track, cycle, lowered(form, track.width), value)])


def first_unlike(program, row, numbers, state, row_two, numbers_two, state_two):
    """The number of the first said number in which two rounds differ that are done for ever, or None.

    What a round says obeys a rule that goes as many numbers back as it says in as many rounds as there are variables,
    and one more: so if no difference is among the first ones of both together, there is none.
    """
    one = _track(program, row, numbers, state)
    two = _track(program, row_two, numbers_two, state_two)
    if not one.forms and not two.forms:
        return None
    if not one.forms or not two.forms:
        return 0
    many = len(one.start) * len(one.forms) + len(two.start) * len(two.forms)
    for at, (number, other) in enumerate(zip(one.first_said(many)[:many], two.first_said(many)[:many])):
        if number != other:
            return at
    return None


def _track(program, row, numbers, state):
    """A round from a state on, made ready, if it is one."""
    check_row(program, row)
    graph = graph_of(program)
    check_numbers(graph, row, numbers)
    rows = rows_on_way(graph, row, numbers)
    if not rows or next_row(graph, rows[-1], numbers[-1]) != row:
        raise NoRound()
    check_state(program, state)
    return Track(program, rows, numbers, state)


def _early_hits(track, cycle, form, value):
    """The ascending numbers of the rounds ahead of the cycle ahead of which a form has a value."""
    found = []
    vector = track.start
    for many in range(cycle.ahead):
        if product_of(form, vector, track.width) == value & ((1 << track.width) - 1):
            found.append(many)
        vector = track.turn.applied(vector)
    return found


def _check_form(program, form):
    size = len(program.variables) + 1
    if not isinstance(form, tuple) or len(form) != size:
        raise NoForm(-1)
    if not are_integers(form):
        raise NoForm([is_integer(item) for item in form].index(False))


def _check_value(value):
    if not is_integer(value):
        raise NoCount("value")


def _check_count(part, value):
    if not is_from_zero(value):
        raise NoCount(part)
