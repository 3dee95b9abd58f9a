"""Recipes: how a program goes on from the registers of a code; and what any code gives back."""

from leastkeep.errors import NoRecipe
from leastkeep.hulls import all_hulls
from leastkeep.judging import check_over
from leastkeep.modules import echelon, kernel, stacked
from leastkeep.pairs import joint_nodes
from leastkeep.programs import check_row
from leastkeep.runs import go_on
from leastkeep.stairs import Solver
from leastkeep.values import is_form, lowered, product_of
from leastkeep.wants import told_apart, wanted


def takeover(program, code, row):
    """A right recipe for a row of a code, or None if there is none.

    What is wanted is made up of some parts, each times a power of 2. A form
    over the registers is looked for that has the value of such a part, as far
    as this power lets it be told; the parts belong to a basis, so that there
    are values of the variables for any values of the parts.
    """
    check_over(program, code)
    check_row(program, row)
    vectors = [node.vector for node in joint_nodes(program, code, row)]
    size = len(program.variables)
    recipe = [(0,) * (code.counts[row] + 1) for _ in range(size)]
    for column, exponent, part in reversed(list(stacked(program.width, wanted(program, row)))):
        solver = _solver(program.width, exponent, [_registers(vector, size) for vector in vectors], len(recipe[0]))
        form = solver.factors([product_of((0,) + part, vector, program.width) << exponent for vector in vectors])
        if form is None:
            return None
        recipe[column] = _less_blend(program.width, form, part, recipe)
    return tuple(recipe)


def check_recipe(program, code, row, recipe):
    """None for a right recipe, otherwise a run, and a way on with the position of a number that is another one."""
    check_over(program, code)
    check_row(program, row)
    _check_recipe(program, code.counts[row], recipe)
    forms = [lowered(form, program.width) for form in recipe]
    size = len(program.variables)
    wants = wanted(program, row)
    for node in joint_nodes(program, code, row):
        state = node.vector[1:size + 1]
        taken = [product_of(form, _registers(node.vector, size), program.width) for form in forms]
        difference = [number - less for number, less in zip(taken, state)]
        if any([product_of(part, difference, program.width) for part in wants]):
            return (node.numbers_ahead(), _way_apart(program, row, taken, state))
    return None


def given_back(program, row, code=None):
    """The echelon of the linear parts that a code gives back at a row, or that every right code does."""
    check_row(program, row)
    size = len(program.variables)
    if code is None:
        there = all_hulls(program)[row]
        module = [] if there is None else there[1]
        return echelon(program.width, size, wanted(program, row) + kernel(program.width, size, module))
    check_over(program, code)
    vectors = [node.vector for node in joint_nodes(program, code, row)]
    forms = kernel(program.width, 1 + size + code.counts[row], vectors)
    return echelon(program.width, size, [form[1:size + 1] for form in forms])


def _registers(vector, size):
    """1 and the registers, of a vector of 1, the values of `size` variables and the registers."""
    return vector[:1] + vector[size + 1:]


def _solver(width, exponent, vectors, many):
    """Tells which form over registers has some values times 2 ** exponent, each times 2 ** exponent, too."""
    rows = [[vector[place] << exponent for vector in vectors] for place in range(many)]
    return Solver(width, len(vectors), rows)


def _less_blend(width, form, factors, forms):
    """A form less the sum of some forms, each times its factor."""
    return lowered([form[place] - sum([factor * other[place] for factor, other in zip(factors, forms)])
                    for place in range(len(form))], width)


def _way_apart(program, row, one, other):
    """A way on with the position of a number in which it differs from two states."""
    numbers = told_apart(program, row, one, other)
    said = go_on(program, row, one, numbers)[2]
    told = go_on(program, row, other, numbers)[2]
    return (numbers, [one == two for one, two in zip(said, told)].index(False))


def _check_recipe(program, size, recipe):
    if not isinstance(recipe, tuple) or len(recipe) != len(program.variables):
        raise NoRecipe(-1)
    for index, form in enumerate(recipe):
        if not is_form(form, size):
            raise NoRecipe(index)
