"""The desk: points 2, 3 and 85 to 88."""

import random
import unittest

from leastkeep.behaviours import least_numbers
from leastkeep.codes import Code, run_code
from leastkeep.compiling import compiled
from leastkeep.desks import Desk
from leastkeep.errors import NoKept, NoNumber, NoProgram, NoRow
from leastkeep.programs import Program
from leastkeep.runs import run
from tests import brute
from tests.samples import (changed_code, dense_program, double, double_code, doubled_code, no_integers, odd_values, once,
                           padded_code, plain_code, random_code, random_program, twice)


def start():
    return Desk(once())


def look_of(desk):
    """All that a desk tells."""
    return (desk.told_program(), desk.told_numbers(), len(desk), [desk[at] for at in range(len(desk))], desk.best(),
            [desk.standing(at) for at in range(len(desk))])


def drawn_row(rng, program, many):
    """A row of another program that fits, or sometimes something that does not."""
    size = len(program.variables)
    form = tuple(rng.getrandbits(3) for _ in range(size + rng.choice([1, 1, 1, 1, 2])))
    to = rng.randrange(many + 1)
    name = rng.choice(program.variables)
    return rng.choice([("set", name, form, to), ("ask", name, to), ("say", form, to), ("look", to), ("stop",),
                       ("choose", (to, rng.randrange(many))), ("say", form, 0)])


class Small(unittest.TestCase):
    def test_examples(self):
        desk = start()
        self.assertEqual([desk.told_numbers(), desk.put(1, ("say", (7, 0), 2)), desk.exchange(1, 2), desk.undo(),
                          desk.undo(), desk.undo()], [[0, 1, 0], [1], [], True, True, False])
        self.assertEqual(desk.told_program(), once())

    def test_put(self):
        desk = start()
        self.assertEqual(desk.put(0, ("set", "x", (257, 3), 1)), [1])
        self.assertEqual(desk.told_program()[0], ("set", "x", (1, 3), 1))
        self.assertEqual(desk.told_numbers(), [0, 0, 0])
        self.assertEqual(desk.put(0, ("set", "x", (257, 3), 1)), [])
        self.assertEqual(desk.put(2, ("look", 1)), [])
        self.assertEqual(desk.put(0, ("ask", "x", 2)), [1, 2])
        self.assertEqual(desk.told_numbers(), [0, 1, 1])

    def test_add(self):
        desk = start()
        self.assertEqual(desk.add(("look", 3)), 3)
        self.assertEqual(desk.told_program(), Program(8, ["x"], once().rows + (("look", 3),)))
        self.assertEqual(desk.told_numbers(), [0, 1, 0, 0])
        self.assertEqual([desk.add(("stop",)) for _ in range(21)], list(range(4, 25)))
        self.assertEqual(len(desk.told_program()), 25)
        with self.assertRaises(NoProgram) as caught:
            desk.add(("stop",))
        self.assertEqual((caught.exception.part, caught.exception.index), ("rows", -1))
        self.assertEqual(len(desk.told_program()), 25)
        self.assertTrue(desk.undo())
        self.assertEqual(len(desk.told_program()), 24)
        self.assertEqual(desk.add(("choose", (24, 0))), 24)

    def test_exchange(self):
        rows = [("ask", "x", 1), ("choose", (2, 3, 1, 2)), ("say", (0, 1), 0), ("set", "x", (0, 2), 3)]
        desk = Desk(Program(8, ["x"], rows))
        before = desk.told_numbers()
        self.assertEqual(before, [0, 1, 1, 0])
        self.assertEqual(desk.exchange(2, 3), [2, 3])
        self.assertEqual(desk.told_program().rows, (("ask", "x", 1), ("choose", (3, 2, 1, 3)), ("set", "x", (0, 2), 2),
                                                   ("say", (0, 1), 0)))
        self.assertEqual(desk.exchange(0, 3), [0, 3])
        self.assertEqual(desk.told_program().rows, (("say", (0, 1), 3), ("choose", (0, 2, 1, 0)), ("set", "x", (0, 2), 2),
                                                   ("ask", "x", 1)))
        self.assertEqual(desk.told_numbers(), least_numbers(desk.told_program()))
        program = desk.told_program()
        self.assertEqual(desk.exchange(1, 1), [])
        self.assertEqual(desk.told_program(), program)
        self.assertTrue(desk.undo())
        self.assertEqual(desk.told_program(), program)
        self.assertTrue(desk.undo())
        self.assertTrue(desk.undo())
        self.assertEqual((desk.told_program(), desk.told_numbers(), desk.undo()), (Program(8, ["x"], rows), before, False))

    def test_keep_and_drop(self):
        desk = start()
        codes = [twice(), compiled(once()), double_code(), twice()]
        self.assertEqual([desk.keep(code) for code in codes], [0, 1, 2, 3])
        self.assertEqual([desk[at] for at in range(4)], codes)
        self.assertEqual(desk.drop(1), codes[1])
        self.assertEqual([desk[at] for at in range(3)], [codes[0], codes[2], codes[3]])
        self.assertEqual(desk.drop(2), codes[3])
        self.assertEqual((len(desk), desk.keep(codes[1]), len(desk)), (2, 2, 3))
        for many in (2, 3, 4):
            self.assertTrue(desk.undo())
            self.assertEqual(len(desk), many)
        self.assertEqual([desk[at] for at in range(4)], codes)
        for many in (3, 2, 1, 0):
            self.assertTrue(desk.undo())
            self.assertEqual(len(desk), many)
        self.assertFalse(desk.undo())

    def test_what_is_in(self):
        desk = start()
        self.assertFalse(twice() in desk)
        desk.keep(twice())
        self.assertTrue(twice() in desk)
        self.assertFalse(double_code() in desk)
        self.assertFalse(compiled(double()) in desk)
        for other in odd_values() + [0, "", [], (), [twice()]]:
            self.assertEqual(other in desk, type(other) is Code and other == twice())
        desk.drop(0)
        self.assertFalse(twice() in desk)
        desk.undo()
        self.assertTrue(twice() in desk)

    def test_it_is_true_and_cannot_be_gone_through(self):
        desk = start()
        for _ in range(2):
            self.assertIs(bool(desk), True)
            for asked in (iter, list, tuple, set, sorted, dict, enumerate, lambda desk: [code for code in desk]):
                with self.assertRaises(TypeError):
                    asked(desk)
            desk.keep(twice())

    def test_equality(self):
        one, other = start(), start()
        self.assertTrue(one == other)
        one.keep(twice())
        self.assertFalse(one == other)
        other.keep(compiled(once()))
        self.assertEqual(one == other, twice() == compiled(once()))
        other.keep(twice())
        self.assertFalse(one == other)
        one.keep(compiled(once()))
        self.assertFalse(one == other)
        one.drop(0)
        one.keep(twice())
        self.assertTrue(one == other)
        self.assertFalse(one != other)
        one.put(1, ("say", (1, 2), 2))
        self.assertFalse(one == other)
        other.put(1, ("say", (1, 2), 2))
        other.exchange(1, 1)
        self.assertTrue(one == other)
        for odd in odd_values() + [0, "", [], once()]:
            self.assertFalse(one == odd)
            self.assertFalse(odd == one)
            self.assertTrue(one != odd)

    def test_steps_of_drawn_desks(self):
        """A list of rows and one of codes are kept beside a desk; then all steps are taken back one by one."""
        refused = 0
        for seed in range(40):
            rng = random.Random(seed)
            program = random_program(seed)
            desk, rows, codes, past = Desk(program), list(program.rows), [], []
            for _ in range(25):
                before = look_of(desk)
                self.assertEqual(before[0], Program(program.width, program.variables, rows))
                self.assertEqual(before[1], least_numbers(before[0]))
                self.assertEqual(before[3], codes)
                kept_rows, kept_codes = list(rows), list(codes)
                if self.step(rng, desk, rows, codes):
                    past.append((before, kept_rows, kept_codes))
                else:
                    refused += 1
                    self.assertEqual(look_of(desk), before)
            for before, rows, codes in reversed(past):
                self.assertIs(desk.undo(), True)
                self.assertEqual(look_of(desk), before)
            self.assertIs(desk.undo(), False)
            self.assertEqual(desk, Desk(program))
        self.assertGreater(refused, 100)

    def step(self, rng, desk, rows, codes):
        """One step at the desk and beside it; False if it is refused."""
        program = desk.told_program()
        many, numbers = len(rows), desk.told_numbers()
        kind = rng.choice(["put", "put", "add", "exchange", "keep", "keep", "drop"])
        row, other = rng.randrange(many + 1), rng.randrange(many + 1)
        item = drawn_row(rng, program, many)
        try:
            if kind == "put":
                found = desk.put(row, item)
                rows[row] = item
            elif kind == "add":
                self.assertEqual(desk.add(item), many)
                rows.append(item)
                return True
            elif kind == "exchange":
                found = desk.exchange(row, other)
                swap = {row: other, other: row}
                rows[row], rows[other] = rows[other], rows[row]
                rows[:] = [item if item[0] == "stop" else item[:-1] + (swap.get(item[-1], item[-1]),)
                           if item[0] != "choose" else ("choose", tuple(swap.get(to, to) for to in item[1])) for item in rows]
            elif kind == "keep":
                code = rng.choice([compiled(program), plain_code(program), random_code(program, row), twice(), None])
                self.assertEqual(desk.keep(code), len(codes))
                codes.append(code)
                return True
            else:
                number = rng.randrange(len(codes) + 1)
                self.assertEqual(desk.drop(number), codes[number])
                del codes[number]
                return True
        except (NoRow, NoProgram, NoKept, NoNumber):
            return False
        self.assertEqual(found, [at for at, (a, b) in enumerate(zip(numbers, desk.told_numbers())) if a != b])
        return True

    def test_many_codes_and_steps(self):
        desk = Desk(double())
        codes = [changed_code(double_code(), seed) for seed in range(600)]
        for number, code in enumerate(codes):
            self.assertEqual(desk.keep(code), number)
        for _ in range(300):
            desk.drop(100)
        self.assertEqual([desk[at] for at in range(300)], codes[:100] + codes[400:])
        for _ in range(400):
            desk.put(3, ("say", (0, 1, 1), 2))
        for _ in range(700):
            self.assertTrue(desk.undo())
        self.assertEqual([desk[at] for at in range(600)], codes)
        for _ in range(600):
            self.assertTrue(desk.undo())
        self.assertEqual((desk.undo(), desk == Desk(double())), (False, True))


class Standing(unittest.TestCase):
    def test_kinds(self):
        desk = Desk(double())
        for code in (double_code(), twice(), double_code(4), compiled(double())):
            desk.keep(code)
        self.assertEqual([desk.standing(at) for at in (0, 1, 3)], [("right",), ("other", -1), ("right",)])
        kind, wrong = desk.standing(2)
        self.assertEqual((kind, len(wrong), type(wrong)), ("wrong", 4, tuple))
        self.assertNotEqual(run(double(), wrong)[2], run_code(double_code(4), wrong)[2])
        self.assertEqual(desk.best(), [0, 3])

    def test_codes_over_programs_of_before(self):
        desk = Desk(double())
        desk.keep(double_code())
        desk.put(3, ("say", (1, 1, 1), 2))
        self.assertEqual((desk.standing(0)[0], desk.best()), ("wrong", []))
        desk.put(3, ("look", 2))
        self.assertEqual((desk.standing(0), desk.best()), (("other", 3), []))
        desk.put(2, ("choose", (4, 3)))
        self.assertEqual(desk.standing(0), ("other", 2))
        desk.add(("stop",))
        self.assertEqual(desk.standing(0), ("other", -1))
        for _ in range(4):
            desk.undo()
        self.assertEqual((desk.standing(0), desk.best()), (("right",), [0]))

    def test_the_best_ones(self):
        program = double()
        least = compiled(program)
        desk = Desk(program)
        self.assertEqual(desk.best(), [])
        for code in (plain_code(program), changed_code(least, 3), plain_code(program, 1), least, random_code(program, 1), least,
                     double_code(), twice(), double_code(5)):
            desk.keep(code)
        self.assertEqual(desk.best(), [3, 5, 6])
        for number in (6, 5, 3):
            desk.drop(number)
        self.assertEqual(desk.best(), [0])
        desk.drop(0)
        self.assertEqual(desk.best(), [1])
        desk.drop(1)
        self.assertEqual(desk.best(), [])

    def test_beside_all_runs(self):
        told = {"right": 0, "wrong": 0}
        for seed in range(80):
            width, size = [(1, 1), (1, 2), (2, 1), (3, 1), (2, 2)][seed % 5]
            program = random_program(seed, width, size)
            desk = Desk(program)
            codes = [compiled(program), plain_code(program, 1, seed), doubled_code(program), random_code(program, seed),
                     changed_code(compiled(program), seed)]
            totals = {}
            for number, code in enumerate(codes):
                self.assertEqual(desk.keep(code), number)
                least = brute.least_run_apart(program, code)
                found = desk.standing(number)
                told[found[0]] += 1
                self.assertEqual(type(found), tuple)
                if least is None:
                    self.assertEqual(found, ("right",))
                    totals[number] = sum(code.counts)
                else:
                    self.assertEqual((found[0], len(found[1])), ("wrong", least))
                    self.assertNotEqual(run(program, found[1])[2], run_code(code, found[1])[2])
            self.assertEqual(desk.best(), [number for number, total in totals.items() if total == min(totals.values())])
        self.assertGreater(min(told.values()), 40)

    def test_wide_codes(self):
        program = dense_program()
        desk = Desk(program)
        for junk in (20, 0, 0, 5):
            desk.keep(padded_code(compiled(program), junk, 2) if junk else compiled(program))
        desk.keep(changed_code(compiled(program), 1))
        self.assertEqual(desk.best(), [1, 2])
        self.assertEqual([desk.standing(at)[0] for at in range(5)], ["right"] * 4 + ["wrong"])


class Wrong(unittest.TestCase):
    def desk(self):
        desk = start()
        desk.keep(twice())
        desk.keep(compiled(once()))
        desk.drop(0)
        return desk

    def raises(self, error, told, name, *arguments):
        desk = self.desk()
        before = look_of(desk)
        with self.assertRaises(error) as caught:
            getattr(desk, name)(*arguments)
        self.assertEqual(vars(caught.exception), told)
        self.assertEqual(look_of(desk), before)
        self.assertEqual([desk.undo() for _ in range(4)], [True, True, True, False])

    def test_no_row(self):
        for bad in no_integers() + [-1, 3, 10 ** 30]:
            self.raises(NoRow, {"row": bad}, "put", bad, None)
            self.raises(NoRow, {"row": bad}, "exchange", bad, None)
            self.raises(NoRow, {"row": bad}, "exchange", 2, bad)
            self.raises(NoRow, {"row": 3}, "exchange", 3, bad)

    def test_no_program(self):
        for bad in odd_values() + [0, "", (), ("stop", 0), ["stop"], ("look", 4), ("look", True), ("say", (0, 1, 1), 0),
                                   ("say", [0, 1], 0), ("set", "y", (0, 1), 0), ("ask", "y", 0), ("choose", ()), ("go", 0),
                                   ("call", "x", "f", (), 0)]:
            for row in range(3):
                self.raises(NoProgram, {"part": "rows", "index": row}, "put", row, bad)
            self.raises(NoProgram, {"part": "rows", "index": 3}, "add", bad)
        self.raises(NoProgram, {"part": "rows", "index": 1}, "put", 1, ("look", 3))

    def test_a_row_that_leads_to_itself_may_be_added(self):
        desk = start()
        self.assertEqual(desk.add(("look", 3)), 3)
        with self.assertRaises(NoProgram):
            desk.add(("look", 5))

    def test_no_kept(self):
        for bad in odd_values() + [0, "", (), once(), [twice()]]:
            if type(bad) is not Code:
                self.raises(NoKept, {}, "keep", bad)

    def test_no_number(self):
        for bad in no_integers() + [-1, 1, 2, 10 ** 30, slice(0, 1)]:
            for name in ("drop", "standing"):
                self.raises(NoNumber, {"number": bad}, name, bad)
            with self.assertRaises(NoNumber) as caught:
                self.desk()[bad]
            self.assertIs(caught.exception.number, bad)
        with self.assertRaises(NoNumber):
            start()[0]


class Arguments(unittest.TestCase):
    def test_names(self):
        desk = Desk(program=once())
        self.assertEqual(desk.put(item=("say", (7, 0), 2), row=1), [1])
        self.assertEqual(desk.add(item=("stop",)), 3)
        self.assertEqual(desk.exchange(other=3, row=2), [])
        self.assertEqual(desk.keep(code=twice()), 0)
        self.assertEqual(desk.standing(number=0), ("other", -1))
        self.assertEqual(desk.drop(number=0), twice())

    def test_lists_are_new(self):
        desk = start()
        desk.keep(twice())
        desk.told_numbers().clear()
        self.assertEqual(desk.told_numbers(), [0, 1, 0])
        desk.best().append(5)
        self.assertEqual(desk.best(), [0])
        desk.put(1, ("say", (7, 0), 2)).clear()
        desk.told_numbers().append(7)
        desk.undo()
        self.assertEqual(desk.told_numbers(), [0, 1, 0])
        self.assertEqual([type(found) for found in (desk.told_numbers(), desk.best(), desk.put(2, ("stop",)),
                                                    desk.exchange(0, 0), desk.told_program())], [list] * 4 + [Program])

    def test_the_program_handed_in_stays(self):
        program = once()
        desk = Desk(program)
        desk.put(0, ("look", 1))
        desk.add(("stop",))
        desk.exchange(0, 1)
        self.assertEqual(program, once())
        self.assertEqual(desk == Desk(program), False)


if __name__ == "__main__":
    unittest.main()
