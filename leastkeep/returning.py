"""What functions return, from which runs; and which states reach a row of a function."""

from leastkeep.graphs import exits_of
from leastkeep.programs import stepped
from leastkeep.traces import Trace, Traces
from leastkeep.values import product_of, unit_row

# The row of the place at which a function has returned.
RETURNED = -1


def results_of(bodies):
    """For each function a list of traces of runs to its return, from whose results all others follow.

    Their vectors are 1 and the result, a form over the inlets. On the way a
    vector is that of the body, once for the constant and once for each inlet.
    """
    search = Traces(bodies[0].width)
    for function, body in enumerate(bodies):
        columns = [body.first_vector(unit_row(place, body.inlets + 1)) for place in range(body.inlets + 1)]
        search.offer(Trace((function, 0), _joined(columns), None, None, None))
    trace = search.next_found()
    while trace is not None:
        search.offer_all(_behind(bodies, search, trace))
        trace = search.next_found()
    return [search.at((function, RETURNED)) for function in range(len(bodies))]


def reaching(bodies, results):
    """A dict of lists of traces by (function, row): runs of function 0 that reach it, from whose states all follow."""
    search = Traces(bodies[0].width)
    search.offer(Trace((0, 0), bodies[0].first_vector((1,)), None, None, None))
    trace = search.next_found()
    while trace is not None:
        function, row = trace.place
        body = bodies[function]
        if row in body.called:
            called = body.called[row]
            vector = bodies[called].first_vector(body.handed_over(row, trace.vector))
            search.offer(Trace((called, 0), vector, trace, 0, None))
        search.offer_all(_steps(bodies, trace, results))
        trace = search.next_found()
    return search.kept


def result_along(body, row, vector, trace):
    """The result of a call, for the vector ahead of it, where the called function is executed as in a trace."""
    return product_of(trace.vector[1:], body.handed_over(row, vector), body.width)


def _behind(bodies, search, trace):
    """The list of the traces to which a trace leads, with what was found by now."""
    function, row = trace.place
    if row == RETURNED:
        calls = [(caller, at) for caller, body in enumerate(bodies) for at, called in body.called.items()
                 if called == function]
        return [_behind_call(bodies, ahead, trace) for place in calls for ahead in search.at(place)]
    body = bodies[function]
    if body.rows[row][0] == "return":
        form = tuple([body.returned(row, column) for column in _columns(body, trace.vector)])
        return [Trace((function, RETURNED), (1,) + form, trace, 0, None)]
    return _steps(bodies, trace, [search.at((called, RETURNED)) for called in range(len(bodies))])


def _steps(bodies, trace, results):
    """The traces behind the row of a trace in its function, where some results of all functions are known."""
    function, row = trace.place
    body = bodies[function]
    if row in body.called:
        return [_behind_call(bodies, trace, inner) for inner in results[body.called[row]]]
    if body.rows[row][0] == "return":
        return []
    return [Trace((function, behind), _stepped(body, row, trace.vector, number), trace, number, None)
            for number, behind in exits_of(body.graph, row, (0, 1))]


def _stepped(body, row, vector, number):
    return _joined([stepped(body, row, column, number * column[0]) for column in _columns(body, vector)])


def _behind_call(bodies, trace, inner):
    function, row = trace.place
    body = bodies[function]
    columns = [body.taken_back(row, column, result_along(body, row, column, inner))
               for column in _columns(body, trace.vector)]
    return Trace((function, body.graph[row][1][0]), _joined(columns), trace, 0, inner)


def _columns(body, vector):
    """The parts of a vector, each with a head and the values of all variables."""
    size = len(body.variables) + 1
    return [vector[at:at + size] for at in range(0, len(vector), size)]


def _joined(columns):
    return tuple([number for column in columns for number in column])
