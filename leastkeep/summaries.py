"""What functions return, which states reach their rows, and what is wanted there, through all calls."""

from leastkeep.behind import wants_behind
from leastkeep.bodies import Execution, bodies_of, check_function, numbers_done
from leastkeep.errors import NoForm, NoRow, NoRun
from leastkeep.hulls import hull_of, hull_of_vectors
from leastkeep.modules import echelon, is_in, kernel, picked
from leastkeep.returning import reaching, results_of
from leastkeep.values import is_within, product_of, unit_row, wrong_integer


def summary(program, function):
    """The hull of the results of all runs of a function to its return: (base, module), or None."""
    check_function(program, function)
    results = results_of(bodies_of(program))[function]
    return hull_of_vectors(program.width, [trace.vector for trace in results])


def summary_runs(program, function):
    """As few runs of a function to its return as there can be, whose results have the hull of all."""
    check_function(program, function)
    results = results_of(bodies_of(program))[function]
    if not results:
        return []
    first = results[0].vector
    differences = [[number - less for number, less in zip(trace.vector, first)] for trace in results]
    return [results[index].whole_run() for index in [0] + picked(program.width, len(first), differences)]


def result_form(program, function, numbers):
    """The result of a run of a function to its return, as a form over its parameters."""
    check_function(program, function)
    bodies = bodies_of(program)
    size = bodies[function].inlets + 1
    form = []
    for place in range(size):
        execution = Execution(bodies, function, unit_row(place, size))
        numbers_done(execution, numbers)
        if execution.result is None:
            raise NoRun(len(numbers))
        form.append(execution.result)
    return tuple(form)


def escapes(program, function, forms):
    """None if the results of all runs of a function are in the hull of some forms, otherwise a run whose result is not.
    """
    check_function(program, function)
    bodies = bodies_of(program)
    _check_forms(bodies[function].inlets, forms)
    there = hull_of(program.width, [tuple(form) for form in forms])
    for trace in results_of(bodies)[function]:
        if there is None or not _is_in_hull(program.width, there, trace.vector[1:]):
            return trace.whole_run()
    return None


def hull_in(program, function, row):
    """The hull of the states with which runs of the program reach a row of a function, or None."""
    return hull_of_vectors(program.width, [trace.vector for trace in _traces_at(program, function, row)])


def relations_in(program, function, row):
    """The echelon of all forms that are 0 in each state with which a run of the program reaches a row of a function."""
    vectors = [trace.vector for trace in _traces_at(program, function, row)]
    return kernel(program.width, len(bodies_of(program)[function].variables) + 1, vectors)


def nonzero_in(program, function, row, form):
    """None for a relation of a row of a function, otherwise a run that reaches it and behind which the form is not 0.
    """
    _check_place(program, function, row)
    _check_form(len(bodies_of(program)[function].variables), form)
    for trace in _traces_at(program, function, row):
        if product_of(form, trace.vector, program.width):
            return trace.whole_run()
    return None


def wanted_in(program, function, row):
    """The echelon of the linear parts of all that is said behind a row of a function, through calls and returns."""
    _check_place(program, function, row)
    bodies = bodies_of(program)
    results = results_of(bodies)
    parts = wants_behind(bodies, results, reaching(bodies, results), function, row)
    return echelon(program.width, len(bodies[function].variables), parts)


def _traces_at(program, function, row):
    """Runs that reach a row of a function, from whose states all others follow."""
    _check_place(program, function, row)
    bodies = bodies_of(program)
    return reaching(bodies, results_of(bodies)).get((function, row), [])


def _is_in_hull(width, there, form):
    base, module = there
    return is_in(width, len(base), module, [number - less for number, less in zip(form, base)])


def _check_place(program, function, row):
    check_function(program, function)
    if not is_within(row, 0, len(program.functions[function][3]) - 1):
        raise NoRow(row)


def _check_forms(size, forms):
    if not isinstance(forms, (list, tuple)):
        raise NoForm(-1)
    for form in forms:
        _check_form(size, form)


def _check_form(size, form):
    index = wrong_integer(form, size + 1)
    if index is not None:
        raise NoForm(index)
