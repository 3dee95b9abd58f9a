"""Programs: points 1, 2, 3, 5, 6 and 7."""

import unittest

from leastkeep.errors import KeepError, NoProgram, NoRow
from leastkeep.programs import Program
from tests.samples import double, no_integers, no_sequences, odd_values, shifts, twice

STOP = [("stop",)]


class Programs(unittest.TestCase):
    def wrong(self, part, index, *values, **named):
        with self.assertRaises(NoProgram) as caught:
            Program(*values, **named)
        self.assertEqual((caught.exception.part, caught.exception.index), (part, index))
        self.assertIs(type(caught.exception.index), int)

    def wrong_row(self, item, many=1):
        self.wrong("rows", many - 1, 8, ["x", "y"], [("stop",)] * (many - 1) + [item])

    def test_attributes(self):
        program = double()
        self.assertEqual(program.width, 8)
        self.assertEqual(program.variables, ("x", "y"))
        self.assertEqual(program.rows, (("ask", "x", 1), ("set", "y", (3, 1, 0), 2), ("choose", (3, 4)),
                                        ("say", (0, 1, 1), 2), ("stop",)))

    def test_by_name(self):
        self.assertEqual(Program(rows=STOP, variables=("x",), width=8), Program(8, ["x"], STOP))

    def test_numbers_are_lowered_but_rows_are_not(self):
        rows = [("set", "x", (-1, 2 ** 64 + 3), 5), ("say", (7, -8), 4), ("choose", (5, 4, 3)), ("look", 5),
                ("ask", "x", 5), ("stop",)]
        self.assertEqual(Program(1, ("x",), tuple(rows)).rows, (
            ("set", "x", (1, 1), 5), ("say", (1, 0), 4), ("choose", (5, 4, 3)), ("look", 5), ("ask", "x", 5),
            ("stop",)))
        self.assertEqual(Program(64, ["x"], rows).rows[0], ("set", "x", (2 ** 64 - 1, 3), 5))

    def test_len_and_items(self):
        program = double()
        self.assertEqual(len(program), 5)
        self.assertEqual([program[row] for row in range(5)], list(program.rows))

    def test_items_that_are_none(self):
        program = double()
        for value in no_integers() + [-1, 5, 10 ** 30, -10 ** 30, slice(0, 2)]:
            with self.assertRaises(NoRow) as caught:
                program[value]
            self.assertIs(caught.exception.row, value)

    def test_cannot_be_gone_through(self):
        program = double()
        for go in (iter, list, tuple, lambda it: [row for row in it], lambda it: ("stop",) in it, lambda it: [*it]):
            with self.assertRaises(TypeError):
                go(program)

    def test_equality(self):
        self.assertTrue(double() == double())
        self.assertFalse(double() != double())
        same = Program(8, ("x", "y"), (("ask", "x", 1), ("set", "y", (259, -255, 0), 2), ("choose", (3, 4)),
                                       ("say", (0, 1, 1), 2), ("stop",)))
        self.assertEqual(double(), same)
        self.assertNotEqual(double(), double(9))
        self.assertNotEqual(Program(8, ["x"], STOP), Program(8, ["y"], STOP))
        self.assertNotEqual(Program(8, ["x"], STOP), Program(8, ["x"], STOP * 2))

    def test_nothing_of_another_kind_is_equal(self):
        program = Program(8, ["x"], STOP)
        for value in odd_values() + [0, "", (), [], (8, ("x",), (("stop",),)), twice()]:
            self.assertIs(program == value, False)
            self.assertIs(program != value, True)

    def test_edges(self):
        names = ["abcdefgh", "b", "c", "zzzzzzzz", "e", "f"]
        program = Program(64, names, [("look", 24)] * 24 + STOP)
        self.assertEqual((len(program), len(program.variables)), (25, 6))
        self.assertEqual(Program(1, ["a"], STOP).width, 1)
        self.assertEqual(Program(8, ["x"], [("choose", (0,) * 6)]).rows, (("choose", (0,) * 6),))
        self.assertEqual(len(shifts()), 9)

    def test_later_changes_have_no_effect(self):
        names = ["x", "y"]
        rows = [("look", 0), ("stop",)]
        program = Program(8, names, rows)
        names[0] = "z"
        rows[0] = ("stop",)
        rows.append(("stop",))
        self.assertEqual(program, Program(8, ["x", "y"], [("look", 0), ("stop",)]))
        self.assertEqual((names, rows), (["z", "y"], [("stop",)] * 3))

    def test_wrong_width(self):
        for value in no_integers() + [0, 65, -1, 10 ** 30]:
            self.wrong("width", -1, value, ["x"], STOP)

    def test_wrong_variables(self):
        for value in no_sequences() + [[], (), list("abcdefg"), tuple("abcdefg")]:
            self.wrong("variables", -1, 8, value, STOP)
        for value in odd_values() + [0, (), [], ["x"], "", "X", "x1", "a b", "abcdefghi", "\u00e4", "x\n", "{", "`"]:
            self.wrong("variables", 1, 8, ["x", value], STOP)
            self.wrong("variables", 0, 8, (value, "x", "x"), STOP)
        self.wrong("variables", 1, 8, ["x", "x"], STOP)
        self.wrong("variables", 2, 8, ["x", "y", "x", "X"], STOP)
        self.wrong("variables", -1, 8, ["x", "X", "x", "a", "b", "c", "d"], STOP)

    def test_wrong_rows(self):
        for value in no_sequences() + [[], (), STOP * 26, ("stop",) * 26]:
            self.wrong("rows", -1, 8, ["x"], value)
        self.wrong("rows", 0, 8, ["x"], ("stop",))
        for value in no_sequences() + [[], (), ["stop"], ("stop", 0), ("stop", ()), ("go", 0), ("Stop",), (["stop"],)]:
            self.wrong_row(value)
            self.wrong_row(value, 3)
        for kind in odd_values() + [0, "", "go", "Set", "ask "]:
            for more in [(), (0,), ((0,),), ("x", 0), ((0, 0, 0), 0), ("x", (0, 0, 0), 0)]:
                self.wrong_row((kind,) + more)

    def test_wrong_kinds_of_rows(self):
        form = (0, 0, 0)
        for item in [("set", "x", form), ("set", "x", form, 0, 0), ("set", "z", form, 0), ("set", "x", [0, 0, 0], 0),
                     ("set", "x", (0, 0), 0), ("set", "x", (0, 0, 0, 0), 0), ("set", 0, form, 0), ("set",),
                     ("ask", "x"), ("ask", "z", 0), ("ask", "x", 0, 0), ("ask", form, 0), ("ask", ["x"], 0),
                     ("say", form), ("say", "x", 0), ("say", (0, 0), 0), ("say", [0, 0, 0], 0), ("say", form, 0, 0),
                     ("look",), ("look", 0, 0), ("look", form), ("choose",), ("choose", ()), ("choose", 0),
                     ("choose", [0]), ("choose", (0,) * 7), ("choose", (0,), 0), ("choose", 0, 0)]:
            self.wrong_row(item)
        for value in no_integers() + [-1, 1, 10 ** 30]:
            for item in [("set", "x", form, value), ("ask", "x", value), ("say", form, value), ("look", value),
                         ("choose", (0, value)), ("choose", (value,))]:
                self.wrong_row(item)
        for value in no_integers():
            for place in range(3):
                bad = form[:place] + (value,) + form[place + 1:]
                self.wrong_row(("set", "x", bad, 0))
                self.wrong_row(("say", bad, 0))
            self.wrong_row(("set", value, form, 0))
            self.wrong_row(("ask", value, 0))

    def test_the_first_wrong_row_is_told(self):
        self.wrong("rows", 1, 8, ["x"], [("look", 2), ("look", 3), ("look", 4)])
        self.wrong("rows", 2, 8, ["x"], [("look", 2), ("look", 1), None, None])

    def test_two_things_wrong(self):
        self.wrong("width", -1, 0, [], [])
        self.wrong("variables", -1, 8, [], [])
        self.wrong("variables", 0, 8, ["X"], None)
        self.wrong("rows", -1, 8, ["x"], None)

    def test_an_error_is_a_keep_error(self):
        with self.assertRaises(KeepError):
            Program(8, ["x"], [])


if __name__ == "__main__":
    unittest.main()
