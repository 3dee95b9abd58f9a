"""Packed rows, and sums of their multiples: what the reckoning with modules and codes stands on."""

import random
import unittest

from leastkeep.lanes import Blend, Lanes
from leastkeep.stairs import Solver


class Packed(unittest.TestCase):
    def test_there_and_back(self):
        rng = random.Random(1)
        for width in (1, 2, 7, 63, 64):
            for size in (0, 1, 2, 5, 71):
                row = tuple(rng.getrandbits(width) for _ in range(size))
                lanes = Lanes(width, size)
                self.assertEqual(lanes.unpacked(lanes.packed(row)), row)
                other = [number - (rng.getrandbits(70) << width) for number in row]
                self.assertEqual(lanes.packed(other), lanes.packed(row))

    def test_sums_of_many_great_multiples(self):
        for width in (1, 8, 64):
            top = 2 ** width - 1
            for many in (0, 1, 71, 200):
                blend = Blend(width, 3, [(top, 0, top)] * many)
                self.assertEqual(blend.total([top] * many), (many % 2 ** width, 0, many % 2 ** width))

    def test_sums_one_by_one(self):
        rng = random.Random(2)
        for width in (3, 64):
            rows = [[rng.getrandbits(width) for _ in range(4)] for _ in range(6)]
            factors = [rng.getrandbits(width) for _ in rows]
            total = tuple(sum(f * row[at] for f, row in zip(factors, rows)) % 2 ** width for at in range(4))
            self.assertEqual(Blend(width, 4, rows).total(factors), total)

    def test_factors(self):
        rng = random.Random(3)
        for width in (2, 64):
            rows = [tuple(rng.getrandbits(width) << 1 for _ in range(5)) for _ in range(3)]
            wished = tuple(sum(k * row[at] for k, row in enumerate(rows)) for at in range(5))
            solver = Solver(width, 5, rows)
            self.assertEqual(Blend(width, 5, rows).total(solver.factors(wished)),
                             tuple(number % 2 ** width for number in wished))
            self.assertIsNone(solver.factors((1, 0, 0, 0, 0)))
        self.assertEqual(Solver(8, 0, [(), ()]).factors(()), (0, 0))
        self.assertIsNone(Solver(8, 1, []).factors((1,)))


if __name__ == "__main__":
    unittest.main()
