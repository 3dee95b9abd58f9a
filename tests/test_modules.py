"""Modules: points 2, 3 and 11 to 16."""

import itertools
import random
import unittest

from leastkeep.errors import NoRows
from leastkeep.modules import coefficients, count, echelon, generators, is_in, kernel, meet, picked, smith
from tests import brute
from tests.samples import no_integers, no_sequences


def product_of(one, other):
    return sum(a * b for a, b in zip(one, other))


def small_cases():
    """(width, size, rows), for which all elements can be found."""
    rng = random.Random(3)
    yield from [(1, 0, []), (3, 0, [(), ()]), (2, 1, []), (2, 2, [(0, 0)]), (1, 3, [(1, 1, 1)]), (4, 1, [(12,), (8,)])]
    for _ in range(150):
        width, size = rng.choice([(1, 1), (1, 4), (2, 1), (2, 3), (3, 1), (3, 2), (3, 3), (4, 2), (5, 1)])
        many = rng.randint(0, 4)
        yield width, size, [tuple(rng.choice([0, 1, 2, 4, rng.randrange(2 ** width)]) for _ in range(size))
                            for _ in range(many)]


def wide_cases():
    rng = random.Random(4)
    for width, size, many in [(64, 1, 3), (64, 6, 4), (64, 7, 9), (63, 5, 5), (33, 8, 8), (64, 12, 6), (8, 20, 25)]:
        for _ in range(4):
            yield width, size, [tuple(rng.getrandbits(width) << rng.randrange(width) for _ in range(size))
                                for _ in range(many)]


class Modules(unittest.TestCase):
    def check_steps(self, width, size, rows):
        """Whether rows are in steps as point 12 says, but for what it says of all elements."""
        pivots = []
        for row in rows:
            self.assertIs(type(row), tuple)
            self.assertTrue(all(0 <= number < 2 ** width for number in row))
            column = next(at for at, number in enumerate(row) if number)
            self.assertEqual(row[column] & (row[column] - 1), 0)
            self.assertTrue(not pivots or column > pivots[-1])
            for before in rows[:len(pivots)]:
                self.assertLess(before[column], row[column])
            pivots.append(column)

    def test_examples(self):
        self.assertEqual(echelon(3, 2, [(2, 1)]), [(2, 1), (0, 4)])
        self.assertEqual(count(3, 2, [(2, 1)]), 8)
        self.assertIs(is_in(3, 2, [(2, 1)], (4, 2)), True)
        self.assertIs(is_in(3, 2, [(2, 1)], (2, 2)), False)
        self.assertEqual(coefficients(3, 2, [(2, 1)], (0, 4)), (4,))
        self.assertEqual(kernel(3, 2, [(2, 1)]), [(1, 6)])
        self.assertEqual(meet(3, 2, [(2, 1)], [(0, 1)]), [(0, 4)])
        self.assertEqual(generators(3, 2, [(2, 0), (0, 4), (2, 4)]), 2)
        self.assertEqual(smith(3, [(2, 4), (2, 0)]), [1, 2])

    def test_by_name(self):
        named = {"width": 3, "size": 2}
        self.assertEqual(echelon(rows=[(2, 1)], **named), [(2, 1), (0, 4)])
        self.assertEqual(count(rows=[(2, 1)], **named), 8)
        self.assertIs(is_in(row=(4, 2), rows=[(2, 1)], **named), True)
        self.assertEqual(coefficients(row=(0, 4), rows=[(2, 1)], **named), (4,))
        self.assertEqual(kernel(rows=[(2, 1)], **named), [(1, 6)])
        self.assertEqual(meet(other=[(0, 1)], one=[(2, 1)], **named), [(0, 4)])
        self.assertEqual(generators(rows=[(2, 1)], **named), 1)
        self.assertEqual(picked(rows=[(2, 1)], **named), [0])
        self.assertEqual(smith(table=[(2, 4), (2, 0)], width=3), [1, 2])

    def test_echelon_and_count_of_small_modules(self):
        for width, size, rows in small_cases():
            module = brute.module_of(width, size, rows)
            found = echelon(width, size, rows)
            self.check_steps(width, size, found)
            self.assertEqual(brute.module_of(width, size, found), module)
            self.assertEqual(count(width, size, rows), len(module))
            for column in range(size + 1):
                ahead = {item for item in module if not any(item[:column])}
                left = [row for row in found if not any(row[:column])]
                self.assertEqual(brute.module_of(width, size, left), ahead)

    def test_just_one_echelon(self):
        rng = random.Random(5)
        for width, size, rows in itertools.chain(small_cases(), wide_cases()):
            other = list(rows)
            for _ in range(5):
                if len(other) > 1:
                    at, to = rng.sample(range(len(other)), 2)
                    factor = rng.getrandbits(width)
                    other[at] = tuple(a + factor * b for a, b in zip(other[at], other[to]))
                if other:
                    at = rng.randrange(len(other))
                    odd = 2 * rng.getrandbits(width) + 1
                    other[at] = tuple(odd * a for a in other[at])
            rng.shuffle(other)
            other.append([0] * size)
            self.assertEqual(echelon(width, size, other), echelon(width, size, rows))
            self.assertEqual(echelon(width, size, echelon(width, size, rows)), echelon(width, size, rows))

    def test_elements_of_small_modules(self):
        for width, size, rows in small_cases():
            module = brute.module_of(width, size, rows)
            for row in itertools.product(range(2 ** width), repeat=size):
                self.assertIs(is_in(width, size, rows, row), row in module)
                self.check_coefficients(width, size, rows, row, row in module)

    def check_coefficients(self, width, size, rows, row, there):
        found = coefficients(width, size, rows, row)
        if not there:
            self.assertIsNone(found)
            return
        self.assertIs(type(found), tuple)
        self.assertEqual(len(found), len(rows))
        self.assertTrue(all(0 <= factor < 2 ** width for factor in found))
        told = [sum(factor * item[at] for factor, item in zip(found, rows)) for at in range(size)]
        self.assertTrue(all((one - two) % 2 ** width == 0 for one, two in zip(told, row)))

    def test_coefficients_of_wide_modules(self):
        rng = random.Random(6)
        for width, size, rows in wide_cases():
            factors = [rng.getrandbits(width) - 2 ** (width - 1) for _ in rows]
            row = tuple(sum(factor * item[at] for factor, item in zip(factors, rows)) for at in range(size))
            self.assertIs(is_in(width, size, rows, row), True)
            self.check_coefficients(width, size, rows, row, True)
            off = (row[0] + 1,) + row[1:]
            self.check_coefficients(width, size, rows, off, is_in(width, size, rows, off))

    def test_no_rows_and_size_zero(self):
        self.assertEqual(echelon(8, 3, []), [])
        self.assertEqual(count(8, 3, ()), 1)
        self.assertIs(is_in(8, 3, [], (0, 256, -512)), True)
        self.assertIs(is_in(8, 3, [], (0, 0, 1)), False)
        self.assertEqual(coefficients(8, 3, [], [0, 0, 0]), ())
        self.assertIsNone(coefficients(8, 3, [], [0, 0, 1]))
        self.assertEqual(kernel(8, 3, []), [(1, 0, 0), (0, 1, 0), (0, 0, 1)])
        self.assertEqual(meet(8, 3, [], [(1, 2, 3)]), [])
        self.assertEqual((generators(8, 3, []), picked(8, 3, [])), (0, []))
        self.assertEqual(smith(8, []), [])
        self.assertEqual(smith(8, ((), [])), [])
        for rows in ([], [()], ((), [])):
            self.assertEqual(echelon(8, 0, rows), [])
            self.assertEqual(count(8, 0, rows), 1)
            self.assertIs(is_in(8, 0, rows, ()), True)
            self.assertEqual(len(coefficients(8, 0, rows, [])), len(rows))
            self.assertEqual((kernel(8, 0, rows), meet(8, 0, rows, rows)), ([], []))
            self.assertEqual((generators(8, 0, rows), picked(8, 0, rows)), (0, []))

    def test_kernels_of_small_modules(self):
        for width, size, rows in small_cases():
            every = itertools.product(range(2 ** width), repeat=size)
            wanted = {row for row in every if all(product_of(row, item) % 2 ** width == 0 for item in rows)}
            found = kernel(width, size, rows)
            self.assertEqual(brute.module_of(width, size, found), wanted)
            self.assertEqual(found, echelon(width, size, found))

    def test_kernels_of_kernels(self):
        for width, size, rows in itertools.chain(small_cases(), wide_cases()):
            found = kernel(width, size, rows)
            self.assertEqual(kernel(width, size, found), echelon(width, size, rows))
            self.assertEqual(count(width, size, found) * count(width, size, rows), 2 ** (width * size))

    def test_meets(self):
        cases = list(small_cases())
        for width, size, rows in cases:
            for one, two, other in cases[:40]:
                if (one, two) == (width, size):
                    both = brute.module_of(width, size, rows) & brute.module_of(width, size, other)
                    found = meet(width, size, rows, other)
                    self.assertEqual(brute.module_of(width, size, found), both)
                    self.assertEqual(found, echelon(width, size, found))

    def test_wide_meets(self):
        one, other = [(3, 0, 5), (0, 2 ** 63, 1)], [(6, 0, 10), (1, 1, 1)]
        found = meet(64, 3, one, other)
        for row in found + [(6, 0, 10), (12, 0, 20 + 2 ** 64)]:
            self.assertTrue(is_in(64, 3, one, row) and is_in(64, 3, other, row) and is_in(64, 3, found, row))
        total = count(64, 3, one) * count(64, 3, other)
        self.assertEqual(total, count(64, 3, one + other) * count(64, 3, found))

    def test_generators_and_picked(self):
        for width, size, rows in small_cases():
            module = brute.module_of(width, size, rows)
            least = brute.least_generators(width, size, module)
            self.assertEqual(generators(width, size, rows), least)
            self.check_picked(width, size, rows, least)

    def check_picked(self, width, size, rows, least):
        found = picked(width, size, rows)
        self.assertIs(type(found), list)
        self.assertEqual(len(found), least)
        self.assertEqual(found, sorted(set(found)))
        self.assertEqual(echelon(width, size, [rows[at] for at in found]), echelon(width, size, rows))

    def test_no_fewer_rows_do(self):
        for width, size, rows in small_cases():
            least = generators(width, size, rows)
            if width <= 2 and 0 < least <= 2:
                module = brute.module_of(width, size, rows)
                for fewer in itertools.combinations(module, least - 1):
                    self.assertNotEqual(brute.module_of(width, size, fewer), module)

    def test_wide_picked(self):
        for width, size, rows in wide_cases():
            self.check_picked(width, size, rows + rows, generators(width, size, rows))
            self.assertEqual(generators(width, size, rows), len(smith(width, rows)))

    def test_smith(self):
        rng = random.Random(8)
        for width in (1, 2, 5, 64):
            for _ in range(30):
                many, size = rng.randint(1, 5), rng.randint(1, 5)
                powers = sorted(rng.randrange(width + 1) for _ in range(min(many, size)))
                table = [[2 ** powers[at] if at == column else 0 for column in range(size)] for at in range(many)]
                self.assertEqual(smith(width, self.mixed(rng, width, table)), [k for k in powers if k < width])

    def mixed(self, rng, width, table):
        table = [list(row) for row in table]
        for _ in range(20):
            for _ in range(2):
                if len(table) > 1:
                    at, to = rng.sample(range(len(table)), 2)
                    factor = rng.getrandbits(width)
                    table[at] = [a + factor * b for a, b in zip(table[at], table[to])]
                    table[at], table[to] = table[to], [3 * a for a in table[at]]
                table = [list(column) for column in zip(*table)]
        return [tuple(row) for row in table]

    def test_smith_counts_the_module(self):
        for width, size, rows in itertools.chain(small_cases(), wide_cases()):
            found = smith(width, rows)
            self.assertEqual(found, sorted(found))
            self.assertEqual(2 ** sum(width - k for k in found), count(width, size, rows))

    def test_numbers_of_any_size(self):
        big = 2 ** 64
        self.assertEqual(echelon(64, 2, [(-1, big), (5 * big, 10 ** 40 * big)]), [(1, 0)])
        self.assertEqual(echelon(3, 2, [(2 - 8, 1 + 80)]), [(2, 1), (0, 4)])
        self.assertIs(is_in(3, 2, [(-6, 9)], (-4, 10 ** 20 * 8 + 2)), True)
        self.assertEqual(smith(3, [(-6, 12), (10, -8)]), smith(3, [(2, 4), (2, 0)]))
        self.assertEqual(kernel(3, 2, [(-6, 9)]), [(1, 6)])

    def test_lists_and_tuples(self):
        for rows in ([(2, 1)], ([2, 1],), ((2, 1),), [[2, 1]]):
            self.assertEqual(echelon(3, 2, rows), [(2, 1), (0, 4)])
            self.assertEqual(coefficients(3, 2, rows, [0, 4]), coefficients(3, 2, [(2, 1)], (0, 4)))
            self.assertEqual(meet(3, 2, rows, [[0, 1]]), [(0, 4)])
            self.assertEqual(picked(3, 2, rows), [0])
            self.assertEqual(smith(3, rows), [0])

    def test_arguments_stay_and_lists_are_new(self):
        rows = [[-6, 9], [16, 0]]
        for asked in (echelon, kernel, picked):
            first = asked(3, 2, rows)
            first.append(7)
            self.assertEqual(asked(3, 2, rows), first[:-1])
        for asked in (count, generators):
            asked(3, 2, rows)
        coefficients(3, 2, rows, [2, 1])
        meet(3, 2, rows, rows)
        smith(3, rows).append(3)
        self.assertEqual(rows, [[-6, 9], [16, 0]])
        self.assertEqual(smith(3, rows), [0])


class WrongModules(unittest.TestCase):
    def wrong(self, part, index, asked, *values):
        with self.assertRaises(NoRows) as caught:
            asked(*values)
        self.assertEqual((caught.exception.part, caught.exception.index), (part, index))

    def every(self, width, size, rows):
        """All functions that take rows, with something wrong behind the rows."""
        yield from [(asked, (width, size, rows)) for asked in (echelon, count, kernel, generators, picked)]
        yield from [(asked, (width, size, rows, None)) for asked in (is_in, coefficients)]

    def test_widths(self):
        for value in no_integers() + [0, 65, -1]:
            for asked, values in self.every(value, None, None):
                self.wrong("width", -1, asked, *values)
            self.wrong("width", -1, meet, value, None, None, None)
            self.wrong("width", -1, smith, value, None)

    def test_sizes(self):
        for value in no_integers() + [-1, -10 ** 30]:
            for asked, values in self.every(3, value, None):
                self.wrong("size", -1, asked, *values)
            self.wrong("size", -1, meet, 3, value, None, None)

    def test_rows(self):
        for value in no_sequences():
            for asked, values in self.every(3, 2, value):
                self.wrong("rows", -1, asked, *values)
            self.wrong("one", -1, meet, 3, 2, value, None)
            self.wrong("other", -1, meet, 3, 2, [], value)
            self.wrong("table", -1, smith, 3, value)
            self.wrong("row", -1, is_in, 3, 2, [], value)
            self.wrong("row", -1, coefficients, 3, 2, [], value)

    def test_items(self):
        bad = no_sequences() + [(), (1,), [1, 2, 3]] + [(1, value) for value in no_integers()]
        for value in bad:
            for asked, values in self.every(3, 2, [(1, 2), value, None]):
                self.wrong("rows", 1, asked, *values)
            self.wrong("one", 0, meet, 3, 2, (value,), None)
            self.wrong("other", 2, meet, 3, 2, [], [(1, 1), [0, 0], value, value])
            self.wrong("table", 1, smith, 3, [(1, 2), value, None])
            self.wrong("row", -1, is_in, 3, 2, [], value)
            self.wrong("row", -1, coefficients, 3, 2, [], value)

    def test_tables(self):
        for value in no_sequences() + [(value,) for value in no_integers()]:
            self.wrong("table", 0, smith, 3, [value, None])
        self.wrong("table", 1, smith, 3, [(), (1,)])
        self.wrong("table", 2, smith, 3, [(1,), [2], (1, 2)])

    def test_two_things_wrong(self):
        self.wrong("rows", 0, is_in, 3, 2, [None], None)
        self.wrong("one", 1, meet, 3, 2, [(1, 1), None], None)


if __name__ == "__main__":
    unittest.main()
