"""What is wanted behind a row of a function: in it, in those that it calls, and in those that called it."""

from leastkeep.programs import forms_said, place_of, pulled_back
from leastkeep.searching import Node, nodes_found
from leastkeep.stairs import valuation
from leastkeep.values import lowered


def wants_behind(bodies, results, reached, function, row):
    """A list of linear parts of which all those are sums that are said behind a row of a function.

    results has runs of all functions to their return, reached the runs that
    reach their rows (returning).
    """
    told = _told_parts(bodies, results)
    given = _given_parts(bodies, results)
    shares = _shares(bodies, reached, told, given)
    return _parts_at(bodies, (function, row), told, given, shares)


def _parts_at(bodies, place, told, given, shares):
    """What is told behind a place in its function, and as much of what it returns as is told behind its return."""
    width = bodies[0].width
    share = shares[place[0]]
    return told[place] + [lowered([number << share for number in part], width) for part in given[place]]


def _told_parts(bodies, results):
    """For each place linear parts of what is said behind it, until its function returns."""
    starts = [Node((function, row), form[1:], None, None) for function, body in enumerate(bodies)
              for row in range(len(body.rows)) for form in forms_said(body, row)]
    return _parts_back(bodies, results, starts, True)


def _given_parts(bodies, results):
    """For each place linear parts of what its function returns."""
    starts = [Node((function, row), item[1][1:], None, None) for function, body in enumerate(bodies)
              for row, item in enumerate(body.rows) if item[0] == "return"]
    return _parts_back(bodies, results, starts, False)


def _parts_back(bodies, results, starts, into_callers):
    """For each place a list of linear parts: those of some nodes, and what they are at the places ahead.

    What is wanted at the beginning of a function is wanted by those who call
    it only where it is said: what it returns is followed in them.
    """
    ahead = _rows_ahead(bodies)
    callers = _callers(bodies)

    def moves(place, part):
        function, row = place
        body = bodies[function]
        found = [(None, (function, at), pulled) for at in ahead[place] for pulled in _pulled(body, at, part, results)]
        if row == 0 and into_callers:
            found.extend([(None, (caller, at), _blend(bodies[caller], at, part)) for caller, at in callers[function]])
        return found

    parts = {place: [] for place in ahead}
    for node in nodes_found(bodies[0].width, starts, moves):
        parts[node.row].append(node.vector)
    return parts


def _pulled(body, row, part, results):
    """What a linear part is ahead of a row of the same function: one part for each result of a call."""
    if row not in body.called:
        return [pulled_back(body, row, (0,) + part, 0)[1:]]
    at = place_of(body, body.rows[row]) - 1
    rest = part[:at] + (0,) + part[at + 1:]
    found = []
    for trace in results[body.called[row]]:
        given = _blend(body, row, trace.vector[2:])
        found.append(lowered([one + part[at] * two for one, two in zip(rest, given)], body.width))
    return found


def _blend(body, row, factors):
    """The linear part of the sum of what a row hands over, each times its factor."""
    forms = body.rows[row][3]
    return lowered([sum([factor * form[place + 1] for factor, form in zip(factors, forms)])
                    for place in range(len(body.variables))], body.width)


def _rows_ahead(bodies):
    """For each place the list of the rows of the same function that lead to it, calls among them."""
    found = {(function, row): [] for function, body in enumerate(bodies) for row in range(len(body.rows))}
    for function, body in enumerate(bodies):
        for row, item in enumerate(body.rows):
            if item[0] != "return":
                for behind in body.graph[row][1]:
                    found[function, behind].append(row)
    return found


def _callers(bodies):
    """For each function the list of the places that call it."""
    return [[(caller, row) for caller, body in enumerate(bodies) for row, called in body.called.items()
             if called == function] for function in range(len(bodies))]


def _shares(bodies, reached, told, given):
    """For each function an exponent: its result is told, behind calls that runs reach, times 2 to this power at most.

    All that is told of the result there is a multiple of this power; it is
    the width if nothing is.
    """
    width = bodies[0].width
    shares = [width for _ in bodies]
    changed = True
    while changed:
        changed = False
        for caller, body in enumerate(bodies):
            for row in [at for at in body.called if (caller, at) in reached]:
                at = place_of(body, body.rows[row]) - 1
                parts = _parts_at(bodies, (caller, body.graph[row][1][0]), told, given, shares)
                share = min([valuation(part[at]) for part in parts if part[at]], default=width)
                if share < shares[body.called[row]]:
                    shares[body.called[row]] = share
                    changed = True
    return shares
