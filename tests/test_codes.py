"""Codes: points 2, 3, 5, 40, 41 and 42."""

import unittest

from leastkeep.codes import Code, run_code
from leastkeep.errors import NoCode, NoRun
from leastkeep.runs import run
from tests import brute
from tests.samples import (double, double_code, no_integers, no_sequences, odd_values, plain_code,
                           random_program, twice)

STOP = ("stop", (), (), ())


def small():
    """A code with a row of each kind: registers 2, 1, 2, 0, 1."""
    return Code(4, [2, 1, 2, 0, 1], [
        ("ask", (1,), ((1, 2, 3), (0, 0, 1)), (((5, 1, 1, 2),),)),
        ("choose", (2, 0, 3), ((9, 1),), (((0, 1), (1, 0)), ((0, 3), (7, 7)), ())),
        ("go", (4,), (), (((0, 1, 1),),)),
        ("go", (3,), ((6,),), ((),)),
        ("stop", (), ((1, 1), (2, 2)), ())], (3, 4))


class Codes(unittest.TestCase):
    def test_attributes(self):
        code = twice()
        self.assertEqual((code.width, code.counts, code.start), (8, (0, 1, 0), ()))
        self.assertEqual(code.rows, (("ask", (1,), (), (((0, 2),),)), ("go", (2,), ((0, 1),), ((),)), STOP))

    def test_by_name(self):
        self.assertEqual(Code(start=(), rows=[STOP], counts=[0], width=8), Code(8, (0,), (STOP,), ()))

    def test_numbers_are_lowered(self):
        rows = [("ask", (2,), ((-1, 9),), (((8, -7, 17),),)), STOP, ("go", (2,), (), (((-1, 2 ** 64),),))]
        code = Code(3, [1, 0, 1], rows, (-9,))
        self.assertEqual(code.rows, (("ask", (2,), ((7, 1),), (((0, 1, 1),),)), STOP, ("go", (2,), (), (((7, 0),),))))
        self.assertEqual(code.start, (7,))
        wide = Code(1, [64, 3], [("choose", (1, 1), (), (((1,) + (2,) * 64,) * 3,) * 2), STOP], (3,) * 64)
        self.assertEqual((wide.counts, wide.start), ((64, 3), (1,) * 64))
        self.assertEqual(wide.rows[0], ("choose", (1, 1), (), (((1,) + (0,) * 64,) * 3,) * 2))

    def test_equality(self):
        self.assertTrue(twice() == twice())
        self.assertFalse(twice() != twice())
        self.assertEqual(small(), small())
        base = (8, [1], [("go", (0,), ((0, 1),), (((0, 1),),))], (0,))
        others = [(7,) + base[1:], base[:3] + ((1,),), base[:2] + ([("go", (0,), ((0, 2),), (((0, 1),),))], (0,)),
                  (8, [1, 1], base[2] + base[2], (0,)), base[:2] + ([("go", (0,), (), (((0, 1),),))], (0,))]
        for other in others:
            self.assertNotEqual(Code(*base), Code(*other))
        self.assertNotEqual(Code(8, [0, 0], [STOP, STOP], ()), Code(8, [0, 1], [STOP, STOP], ()))
        for other in [(8, (1,), tuple(base[2]), (256,)), (8, [1], [("go", (0,), ((256, -255),), (((0, 1),),))], (0,))]:
            self.assertEqual(Code(*base), Code(*other))

    def test_nothing_of_another_kind_is_equal(self):
        code = double_code()
        for value in [value for value in odd_values() if not isinstance(value, Code)] + [0, "", (), [], double()]:
            self.assertIs(code == value, False)
            self.assertIs(code != value, True)

    def test_later_changes_have_no_effect(self):
        counts, rows = [0, 0], [("go", (1,), (), ((),)), STOP]
        code = Code(8, counts, rows, ())
        counts[0] = 5
        rows[0] = STOP
        rows.append(STOP)
        self.assertEqual(code, Code(8, [0, 0], [("go", (1,), (), ((),)), STOP], ()))
        self.assertEqual((counts, rows), ([5, 0], [STOP] * 3))

    def test_edges(self):
        for width in (1, 64):
            code = Code(width, [0] * 200, [("go", (199,), (), ((),))] * 199 + [STOP], ())
            self.assertEqual((len(code.rows), run_code(code, [0])), (200, (199, (), [])))
        self.assertEqual(Code(8, [0], [("choose", (0,) * 6, (), ((),) * 6)], ()).rows[0][1], (0,) * 6)

    def test_running(self):
        self.assertEqual(run_code(small(), []), (0, (3, 4), []))
        self.assertEqual(run_code(small(), [10]), (1, (0,), [3, 4]))
        self.assertEqual(run_code(small(), [10, 0]), (2, (0, 1), [3, 4, 9]))
        self.assertEqual(run_code(small(), [10, 0, 0]), (4, (1,), [3, 4, 9]))
        self.assertEqual(run_code(small(), (27, 1, 0)), (1, (0,), [3, 4, 11, 12, 5]))
        self.assertEqual(run_code(small(), [-6, 2, 0, 0]), (3, (), [3, 4, 9, 6, 6]))
        self.assertEqual(run_code(numbers=[5, 0], code=twice()), (2, (), [10]))
        self.assertEqual([type(part) for part in run_code(small(), [10])], [int, tuple, list])

    def test_running_as_the_program(self):
        for numbers in ([], [5], [-5, 0, 0, 0], [300, 0, 0, 0, 0, 0, 1]):
            row, _, said = run(double(), numbers)
            told = run_code(double_code(), numbers)
            self.assertEqual((told[0], told[2]), (row, said))

    def test_running_row_by_row(self):
        for seed in range(25):
            code = plain_code(random_program(seed), seed % 3, seed)
            self.walk(code, (), code.start, 0, [], 3)

    def walk(self, code, numbers, registers, row, said, many):
        self.assertEqual(run_code(code, numbers), (row, registers, said))
        changes, told = brute.code_step(code, row, registers)
        if many and code.rows[row][0] != "stop":
            for number, new in changes.items():
                to = code.rows[row][1][number if code.rows[row][0] == "choose" else 0]
                self.walk(code, numbers + (number,), new, to, said + told, many - 1)

    def test_returned_lists_are_new(self):
        run_code(twice(), [5, 0])[2].append(1)
        self.assertEqual(run_code(twice(), [5, 0])[2], [10])


class WrongCodes(unittest.TestCase):
    def wrong(self, row, part, index, *values):
        with self.assertRaises(NoCode) as caught:
            Code(*values)
        error = caught.exception
        self.assertEqual((error.row, error.part, error.index), (row, part, index))

    def wrong_row(self, part, index, item, counts=(1, 2, 0)):
        """An item that is wrong as row 1 of three, behind a right one and ahead of a wrong one."""
        first = ("go", (2,), (), ((),))
        self.wrong(1, part, index, 8, counts, [first, item, None], (0,) * counts[0])

    def test_the_head(self):
        for value in no_integers() + [0, 65, -1, 10 ** 30]:
            self.wrong(-1, "width", -1, value, None, None, None)
        for value in no_sequences() + [[], (), [STOP] * 201]:
            self.wrong(-1, "rows", -1, 8, None, value, None)
        for value in no_sequences() + [[], (), [0, 0], (0,) * 200]:
            self.wrong(-1, "counts", -1, 8, value, [None], None)
        for value in no_integers() + [-1, 65, 10 ** 30]:
            self.wrong(-1, "counts", 1, 8, [64, value, None], [None] * 3, None)
            self.wrong(-1, "counts", 0, 8, (value,), [None], None)

    def test_the_start(self):
        for value in no_sequences() + [[], [0], (), (0, 0)] + [(value,) for value in no_integers()]:
            self.wrong(-1, "start", -1, 8, [1], [None], value)
        self.wrong(-1, "start", -1, 8, [0], [STOP], [])
        self.wrong(-1, "start", -1, 8, [2], [STOP], (0, True))

    def test_rows(self):
        for value in no_sequences() + [[], (), STOP[:3], STOP + ((),), list(STOP), "stop"]:
            self.wrong_row("row", -1, value)
            self.wrong(0, "row", -1, 8, [0], [value], ())

    def test_kinds(self):
        for value in odd_values() + [0, "", "say", "set", "look", "Go", "go ", [], (), ("go",), ["go"]]:
            self.wrong_row("kind", -1, (value, None, None, None))

    def test_nexts(self):
        for kind in ("go", "ask", "choose", "stop"):
            for value in no_sequences() + [[], [0]]:
                self.wrong_row("next", -1, (kind, value, None, None))
        for kind in ("go", "ask"):
            for value in [(), (0, 0), (None, None)]:
                self.wrong_row("next", -1, (kind, value, None, None))
        self.wrong_row("next", -1, ("choose", (), None, None))
        self.wrong_row("next", -1, ("choose", (0,) * 7, None, None))
        self.wrong_row("next", -1, ("stop", (0,), None, None))
        for value in no_integers() + [-1, 3, 10 ** 30]:
            self.wrong_row("next", 0, ("go", (value,), None, None))
            self.wrong_row("next", 0, ("ask", (value,), None, None))
            self.wrong_row("next", 2, ("choose", (2, 1, value, None), None, None))

    def test_says(self):
        for kind, nexts in (("go", (2,)), ("ask", (2,)), ("choose", (2, 2)), ("stop", ())):
            for value in no_sequences() + [[], [(0, 0, 0)]]:
                self.wrong_row("says", -1, (kind, nexts, value, None))
            for value in no_sequences() + [(), (0, 0), (0, 0, 0, 0), [0, 0, 0]]:
                self.wrong_row("says", 1, (kind, nexts, ((1, 2, 3), value, None), None))
            for value in no_integers():
                for place in range(3):
                    form = (0,) * place + (value,) + (0,) * (2 - place)
                    self.wrong_row("says", 0, (kind, nexts, (form,), None))

    def test_changes(self):
        for kind, nexts in (("go", (0,)), ("ask", (0,)), ("choose", (2, 0)), ("stop", ())):
            for value in no_sequences() + [[], ((),) * (len(nexts) + 1), [()] * len(nexts)]:
                self.wrong_row("changes", -1, (kind, nexts, (), value))
        for value in no_sequences() + [[], (), (0, 0, 0), ((0, 0, 0),) * 2, [(0, 0, 0)], ([0, 0, 0],), ((0, 0),),
                                       ((0, 0, 0, 0),), ((0, 0, None),), ((0, True, 0),)]:
            self.wrong_row("changes", 0, ("go", (0,), (), (value,)))
            self.wrong_row("changes", 1, ("choose", (2, 0, 0), (), ((), value, None)))
        for form in [(0, 0, 0), (0, 0, 0, 0, 0), (0, 0, 0, None), [0, 0, 0, 0], (0, False, 0, 0)]:
            self.wrong_row("changes", 0, ("ask", (0,), (), ((form,),)))
        self.wrong_row("changes", 0, ("go", (2,), (), (((0, 0, 0),),)))

    def test_two_things_wrong(self):
        self.wrong(0, "row", -1, 8, [0, 0], [None, ("go",)], ())
        self.wrong(0, "kind", -1, 8, [0, 0], [("go ", None, None, None), None], ())
        self.wrong(0, "next", -1, 8, [0], [("go", None, None, None)], ())
        self.wrong(0, "says", -1, 8, [0], [("go", (0,), None, None)], ())
        self.wrong(1, "changes", 0, 8, [0, 1], [STOP, ("go", (0,), ((7, 7),), (((0, 0),),))], ())

    def test_wrong_runs(self):
        cases = [(value, -1) for value in no_sequences()]
        cases += [([value], 0) for value in no_integers()]
        cases += [((1, 2, value), 2) for value in no_integers() + [1, -1, 16]]
        cases += [((1, value), 1) for value in no_integers() + [3, -1]]
        cases += [([1, 0, 0, value], 3) for value in no_integers() + [0]]
        for numbers, index in cases:
            with self.assertRaises(NoRun) as caught:
                run_code(small(), numbers)
            self.assertEqual(caught.exception.index, index)


if __name__ == "__main__":
    unittest.main()
