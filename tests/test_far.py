"""Far rounds: points 2, 3 and 76 to 79, and the promise FAR."""

import random
import unittest

from leastkeep.errors import NoCount, NoForm, NoRound, NoRow, NoRun, NoState
from leastkeep.far import comes_back, far_said, far_state, first_round, first_unlike, rounds_with
from leastkeep.programs import Program
from tests import brute
from tests.samples import (dense_program, double, loop_program, no_integers, no_sequences, odd_values, random_program,
                           turning)

ROUND = (0, [0, 0], (0, 5))
FAR = 10 ** 30


class Walk:
    """A round of a small program that is done until a state comes again."""

    def __init__(self, program, row, numbers, state):
        self.width = program.width
        self.states, self.said = [], []
        places = {}
        while state not in places:
            places[state] = len(self.states)
            self.states.append(state)
            state, said = self.done(program, row, numbers, state)
            self.said.append(said)
        self.ahead = places[state]
        self.period = len(self.states) - self.ahead

    def done(self, program, row, numbers, state):
        said = []
        for number in numbers:
            exits, told = brute.step(program, row, state)
            said += told
            asked = program.rows[row][0] == "ask"
            _, row, state = exits[number % 2 ** program.width if asked else number]
        return state, said

    def place(self, many):
        return many if many < self.ahead else self.ahead + (many - self.ahead) % self.period

    def first(self, hits, start):
        """The first round from a start on that is one of some places."""
        found = [at for at in hits if at >= start and at < self.ahead]
        if not found:
            start = max(start, self.ahead)
            found = [at + max(start - at + self.period - 1, 0) // self.period * self.period
                     for at in hits if at >= self.ahead]
        return min(found, default=None)

    def many(self, hits, many):
        """How many of the first rounds are at one of some places."""
        return (len([at for at in hits if at < min(many, self.ahead)])
                + sum(max(many - at + self.period - 1, 0) // self.period for at in hits if at >= self.ahead))

    def hits(self, form, value):
        return [at for at, state in enumerate(self.states)
                if (brute.value_of(form, state, self.width) - value) % 2 ** self.width == 0]


def drawn_round(program, rng):
    """A round of a program, as (row, numbers), or None if none was found."""
    for _ in range(30):
        row = at = rng.randrange(len(program))
        numbers = []
        while len(numbers) < 40 and program[at][0] != "stop":
            item = program[at]
            number = (rng.randrange(-3, 9) if item[0] == "ask" else
                      rng.randrange(len(item[1])) if item[0] == "choose" else 0)
            numbers.append(number)
            at = item[1][number] if item[0] == "choose" else item[-1]
            if at == row and rng.random() < 0.7:
                return row, numbers
    return None


def drawn_rounds(many):
    for seed in range(many):
        rng = random.Random(seed)
        program = random_program(seed) if seed % 3 else loop_program(seed)
        found = drawn_round(program, rng)
        if found is not None:
            state = tuple(rng.getrandbits(program.width) for _ in program.variables)
            yield rng, program, found[0], found[1], state


class Small(unittest.TestCase):
    def test_walks(self):
        faded, odd, silent = 0, 0, 0
        for rng, program, row, numbers, state in drawn_rounds(400):
            walk = Walk(program, row, numbers, state)
            self.assertEqual(comes_back(program, row, numbers, state), (walk.ahead, walk.period))
            faded += walk.ahead > 0
            odd += walk.period & (walk.period - 1) > 0
            silent += not walk.said[0]
            for many in list(range(6)) + [rng.randrange(10 ** 6), FAR + rng.randrange(10 ** 6)]:
                self.assertEqual(far_state(program, row, numbers, state, many), walk.states[walk.place(many)])
                size = len(walk.said[0])
                said = walk.said[walk.place(many // size)][many % size] if size else None
                self.assertEqual(far_said(program, row, numbers, state, many), said)
        self.assertGreater(min(faded, odd, silent), 15)

    def test_rounds_with_values(self):
        told = [0, 0]
        for rng, program, row, numbers, state in drawn_rounds(200):
            walk = Walk(program, row, numbers, state)
            for _ in range(4):
                form = tuple(rng.choice([0, 1, -1, rng.getrandbits(program.width + 1)]) for _ in range(len(state) + 1))
                value = rng.choice([brute.value_of(form, rng.choice(walk.states), walk.width) - 2 ** walk.width,
                                    rng.getrandbits(8)])
                hits = walk.hits(form, value)
                told[bool(hits)] += 1
                for start in (0, 1, walk.ahead, rng.randrange(40), FAR + rng.randrange(1000)):
                    self.assertEqual(first_round(program, row, numbers, state, form, value, start=start),
                                     walk.first(hits, start))
                self.assertEqual(first_round(program, row, numbers, state, form, value), walk.first(hits, 0))
                for many in (0, 1, walk.ahead, rng.randrange(40), FAR + rng.randrange(1000)):
                    self.assertEqual(rounds_with(program, row, numbers, state, form, value, many), walk.many(hits, many))
        self.assertGreater(min(told), 50)

    def test_unlike_rounds(self):
        found = []
        for rng, program, row, numbers, state in drawn_rounds(300):
            row_two, numbers_two = rng.choice([drawn_round(program, rng), (row, numbers), (row, numbers * 2)]) or (row, numbers)
            state_two = state if rng.random() < 0.6 else tuple(rng.getrandbits(program.width) for _ in state)
            one, two = Walk(program, row, numbers, state), Walk(program, row_two, numbers_two, state_two)
            sizes = len(one.said[0]), len(two.said[0])
            if not min(sizes):
                wished = 0 if max(sizes) else None
            else:
                many = max((one.ahead + one.period) * sizes[0], (two.ahead + two.period) * sizes[1]) * 4
                wished = next((at for at in range(many) if one.said[one.place(at // sizes[0])][at % sizes[0]]
                               != two.said[two.place(at // sizes[1])][at % sizes[1]]), None)
            self.assertEqual(first_unlike(program, row, numbers, state, row_two, numbers_two, state_two), wished)
            found.append(wished)
        self.assertGreater(found.count(None), 30)
        self.assertGreater(len(set(found)), 4)


class Edges(unittest.TestCase):
    def test_examples(self):
        self.assertEqual(far_state(turning(), *ROUND, 2), (4, 5))
        self.assertEqual(far_said(turning(), *ROUND, 1), 9)
        self.assertEqual(comes_back(turning(), *ROUND), (0, 128))
        self.assertEqual(first_round(turning(), *ROUND, (0, 1, 0), 13), 3)
        self.assertEqual(rounds_with(turning(), *ROUND, (0, 1, 0), 13, FAR), 7812500000000000000000000000)
        self.assertIsNone(first_unlike(turning(), *ROUND, 0, (0, 0), [256, 261]))
        self.assertEqual(first_unlike(turning(), *ROUND, 0, (0, 0), (0, 6)), 0)

    def test_rounds_from_other_rows(self):
        self.assertEqual(far_state(turning(), 1, [0, 0], (1, 5), 2), (13, 5))
        self.assertEqual([far_said(turning(), 1, [0, 0], (1, 5), at) for at in range(3)], [6, 9, 18])
        self.assertEqual(first_unlike(turning(), 0, [0, 0], (0, 5), 1, [0, 0], (1, 5)), None)
        self.assertEqual(first_unlike(turning(), 0, [0, 0], (0, 5), 1, [0, 0], (1 + 128, 5)), 0)

    def test_a_round_of_one_number(self):
        program = Program(8, ["x"], [("set", "x", (1, 1), 0), ("look", 1), ("choose", (2, 0))])
        self.assertEqual(far_state(program, 0, [0], [250], 10), (4,))
        self.assertEqual(comes_back(program, 0, [0], [250]), (0, 256))
        self.assertIsNone(far_said(program, 0, [0], [250], 10))
        self.assertEqual(far_said(program, 1, [0], [250], 10 ** 40), 250)
        self.assertEqual(comes_back(program, 2, [0], [7]), (0, 1))
        self.assertEqual(first_round(program, 2, [0], [7], (0, 2), 14, start=5), 5)
        self.assertEqual(rounds_with(program, 2, [0], [7], (0, 2), 14, 10 ** 40), 10 ** 40)
        self.assertEqual(rounds_with(program, 2, [0], [7], (0, 2), 15, 10 ** 40), 0)

    def test_states_that_fade(self):
        rows = [("set", "f", (0, 0, 0, 0, 0, 2, 0), 1), ("set", "e", (0, 0, 0, 0, 1, 0, 0), 2),
                ("set", "d", (0, 0, 0, 1, 0, 0, 0), 3), ("set", "c", (0, 0, 1, 0, 0, 0, 0), 4),
                ("set", "b", (0, 1, 0, 0, 0, 0, 0), 5), ("set", "a", (0, 0, 0, 0, 0, 0, 1), 6), ("look", 0)]
        # Behind five rounds a, which goes through b, c, d and e, is twice what it was.
        program = Program(64, list("abcdef"), rows)
        numbers, state, form = (0,) * 7, (1, 0, 0, 0, 0, 0), (0, 1, 0, 0, 0, 0, 0)
        self.assertEqual(comes_back(program, 0, numbers, state), (5 * 64, 1))
        self.assertEqual(comes_back(program, 0, numbers, (0, 0, 0, 0, 0, 2 ** 63)), (1, 1))
        self.assertEqual(comes_back(program, 0, numbers, (0,) * 6), (0, 1))
        self.assertEqual(first_round(program, 0, numbers, state, form, 2 ** 63), 5 * 63)
        self.assertEqual(first_round(program, 0, numbers, state, form, 2 ** 63, start=5 * 63), 5 * 63)
        self.assertIsNone(first_round(program, 0, numbers, state, form, 2 ** 63, start=5 * 63 + 1))
        self.assertEqual(first_round(program, 0, numbers, state, form, 0, start=5 * 63), 5 * 63 + 1)
        self.assertEqual(first_round(program, 0, numbers, state, form, 0, start=FAR), FAR)
        self.assertEqual(rounds_with(program, 0, numbers, state, form, 0, FAR), FAR - 64)
        self.assertEqual(rounds_with(program, 0, numbers, state, form, 2 ** 63, FAR), 1)
        self.assertEqual(rounds_with(program, 0, numbers, state, form, 2 ** 63, 5 * 63), 0)
        self.assertEqual([far_said(program, 0, numbers, state, 299 * 6 + at) for at in range(6)],
                         [2 ** 60, 0, 0, 0, 0, 2 ** 60])

    def test_no_first_round(self):
        self.assertIsNone(first_round(turning(), *ROUND, (0, 0, 1), 6))
        self.assertIsNone(first_round(turning(), *ROUND, (0, 2, 0), 1))
        self.assertEqual(rounds_with(turning(), *ROUND, (0, 2, 0), 1, FAR), 0)
        for value in range(256):
            found = first_round(turning(), *ROUND, (0, 1, 0), value)
            self.assertEqual(found is None, rounds_with(turning(), *ROUND, (0, 1, 0), value, 128) == 0)

    def test_starts_and_numbers_of_rounds_are_far_out(self):
        for start in (3, 4, 131, 132, 128 * 10 ** 40 + 3, 128 * 10 ** 40 + 4):
            found = first_round(turning(), *ROUND, (0, 1, 0), 13, start=start)
            self.assertEqual(found, start + (3 - start) % 128)
        for many in (0, 1, 3, 4, 131, 132, 128 * FAR, 128 * FAR + 3, 128 * FAR + 4):
            self.assertEqual(rounds_with(turning(), *ROUND, (0, 1, 0), 13, many), (many + 124) // 128)
        self.assertEqual(far_state(turning(), *ROUND, 128 * 10 ** 4000 + 2), (4, 5))
        self.assertEqual(far_said(turning(), *ROUND, 128 * 10 ** 4000 + 1), 9)

    def test_a_round_that_says_several_numbers(self):
        rows = [("look", 1), ("ask", "x", 2), ("say", (1, 0, 2), 3), ("set", "y", (0, 1, 1), 0)]
        program = Program(8, ["x", "y"], rows)
        said = [far_said(program, 0, [0, 7, 0, 0], (1, 2), at) for at in range(9)]
        self.assertEqual(said, [1, 2, 5, 7, 9, 19, 7, 16, 33])
        self.assertEqual(far_said(program, 0, [0, 7, 0, 0], (1, 2), 3 * FAR + 1), (2 + 7 * FAR) % 256)

    def test_just_one_says_something(self):
        program = Program(8, ["x"], [("choose", (1, 0)), ("say", (0, 0), 0)])
        self.assertEqual(first_unlike(program, 0, [0, 0], (0,), 0, [1], (0,)), 0)
        self.assertEqual(first_unlike(program, 0, [1], (0,), 0, [0, 0], (0,)), 0)
        self.assertIsNone(first_unlike(program, 0, [1], (0,), 0, [1, 1], (5,)))
        self.assertIsNone(first_unlike(program, 0, [0, 0], (0,), 0, [0, 0, 0, 0], (5,)))

    def test_unlike_at_last(self):
        """Row 0 says a, then b, and so on: what f was first is said behind five turns of the shifts."""
        rows = [("say", (0, 1, 0, 0, 0, 0, 0), 1)]
        for at, name in enumerate("abcde"):
            rows.append(("set", name, tuple(1 if place == at + 2 else 0 for place in range(7)), at + 2))
        rows.append(("set", "f", (0,) * 7, 0))
        program = Program(64, list("abcdef"), rows)
        numbers = [0] * 7
        self.assertEqual(first_unlike(program, 0, numbers, (0,) * 6, 0, numbers, (0, 0, 0, 0, 0, 1)), 5)
        self.assertEqual(first_unlike(program, 0, numbers * 14, (0,) * 6, 0, numbers, (0, 0, 0, 0, 0, 1)), 5)

    def test_unlike_far_behind_many_numbers(self):
        """A long round says 0 forty times, and then a: behind five shifts that is what f was; a short one says 0."""
        rows = [("choose", (1, 2)), ("say", (0,) * 7, 0)]
        for at, name in enumerate("abcde"):
            rows.append(("set", name, tuple(1 if place == at + 2 else 0 for place in range(7)), at + 3))
        program = Program(64, list("abcdef"), rows + [("say", (0, 1, 0, 0, 0, 0, 0), 0)])
        long, state = [0, 0] * 40 + [1] + [0] * 6, (0, 0, 0, 0, 0, 1)
        self.assertEqual(first_unlike(program, 0, long, state, 0, [0, 0], state), 41 * 5 - 1)
        self.assertEqual(first_unlike(program, 0, [0, 0], state, 0, long, state), 41 * 5 - 1)
        self.assertIsNone(first_unlike(program, 0, [0, 0], state, 0, long, (0,) * 6))

    def test_unlike_when_rounds_have_other_lengths(self):
        """One round says 1 at each place; the other says 1 sixty times, and then 1 plus what has become of x."""
        rows = [("say", (1, 0), 1), ("choose", (0, 2)), ("say", (1, 1), 0), ("set", "x", (0, 0), 3)]
        program = Program(8, ["x"], rows)
        for many in (1, 7, 48):
            numbers = [0, 0] * many + [0, 1, 0]
            self.assertEqual(first_unlike(program, 0, numbers, (3,), 0, [0, 0], (3,)), many + 1)
            self.assertIsNone(first_unlike(program, 0, numbers, (256,), 0, [0, 0] * 5, (3,)))

    def test_rounds_of_a_hundred_numbers(self):
        program = Program(64, list("abcdef"), [("choose", (1, 2)), ("look", 0), ("set", "a", (0, 3, 0, 0, 0, 0, 1), 0)])
        one, two = [1, 0] + [0, 0] * 49, [1, 0] + [0, 0] * 48
        self.assertEqual([len(one), len(two)], [100, 98])
        self.assertIsNone(first_unlike(program, 0, one, (0,) * 6, 0, two, (0,) * 6))
        self.assertEqual(first_unlike(program, 0, one, (0, 0, 0, 0, 0, 1), 0, two, (0, 0, 0, 0, 0, 1)), 48 * 6)
        self.assertEqual(first_unlike(program, 0, one, (0,) * 6, 0, one, (2 ** 63,) + (0,) * 5), 0)

    def test_loops_of_wide_programs(self):
        program = dense_program()
        numbers = [5, 0, 0, 0] * 6 + [0]
        state = (1, 2, 3, 4, 5, 6)
        walked = [state]
        for _ in range(60):
            row, now = 0, walked[-1]
            for number in numbers:
                item = program[row]
                at = {"a": 0, "b": 1, "c": 2, "d": 3, "e": 4, "f": 5}.get(item[1]) if item[0] in ("set", "ask") else None
                if at is not None:
                    worth = number if item[0] == "ask" else brute.value_of(item[2], now, 64)
                    now = now[:at] + (worth,) + now[at + 1:]
                row = item[1][number] if item[0] == "choose" else item[-1]
            walked.append(now)
        self.assertEqual([far_state(program, 0, numbers, state, many) for many in range(61)], walked)
        ahead, period = comes_back(program, 0, numbers, state)
        self.assertEqual(far_state(program, 0, numbers, state, ahead), far_state(program, 0, numbers, state, ahead + period))


class Wide(unittest.TestCase):
    """Rounds of 64 bits whose first rounds are known by a formula."""

    def counter(self):
        return Program(64, ["x", "y"], [("set", "y", (0, 1, 1), 1), ("set", "x", (1, 1, 0), 0)])

    def test_counting(self):
        state = (0, 0)
        self.assertEqual(comes_back(self.counter(), 0, [0, 0], state), (0, 2 ** 65))
        for value in (0, 1, 10 ** 19, 2 ** 64 - 1, -1):
            self.assertEqual(first_round(self.counter(), 0, [0, 0], state, (0, 1, 0), value), value % 2 ** 64)
            start = 5 * 2 ** 64 + 77
            self.assertEqual(first_round(self.counter(), 0, [0, 0], state, (0, 1, 0), value, start=start),
                             start + (value - 77) % 2 ** 64)
            self.assertEqual(rounds_with(self.counter(), 0, [0, 0], state, (0, 1, 0), value, FAR),
                             (FAR - value % 2 ** 64 + 2 ** 64 - 1) // 2 ** 64)

    def test_sums(self):
        """Ahead of round k, y is k (k - 1) / 2: so 2 y = n (n - 1) holds for n and 1 - n, modulo 2 ** 65."""
        for number in (0, 1, 5, 10 ** 18 + 7, 2 ** 63 + 12345, 2 ** 64 + 99):
            value = number * (number - 1) // 2
            both = sorted({number % 2 ** 65, (1 - number) % 2 ** 65})
            self.assertEqual(first_round(self.counter(), 0, [0, 0], (0, 0), (0, 0, 1), value), both[0])
            self.assertEqual(first_round(self.counter(), 0, [0, 0], (0, 0), (0, 0, 1), value, start=both[0] + 1), both[1])
            self.assertEqual(first_round(self.counter(), 0, [0, 0], (0, 0), (0, 0, 1), value, start=both[1] + 1),
                             both[0] + 2 ** 65)
            self.assertEqual(rounds_with(self.counter(), 0, [0, 0], (0, 0), (0, 0, 1), value, 2 ** 65 * 7), 14)
            self.assertEqual(rounds_with(self.counter(), 0, [0, 0], (0, 0), (0, 0, 1), value, both[1]), 1)

    def test_squares(self):
        """Ahead of round k, y + y + x is k times k: an odd square has four roots, 2 ** 32 divides those of 0."""
        form = (0, 1, 2)
        for number in (1, 3, 10 ** 18 + 9, 2 ** 62 + 1):
            roots = sorted({(sign * number + half) % 2 ** 64 for sign in (1, -1) for half in (0, 2 ** 63)})
            self.assertEqual(len(roots), 4)
            start = 0
            for root in roots:
                self.assertEqual(first_round(self.counter(), 0, [0, 0], (0, 0), form, number * number, start=start), root)
                start = root + 1
            self.assertEqual(rounds_with(self.counter(), 0, [0, 0], (0, 0), form, number ** 2, 2 ** 65), 8)
        self.assertEqual(first_round(self.counter(), 0, [0, 0], (0, 0), form, 0, start=1), 2 ** 32)
        self.assertEqual(rounds_with(self.counter(), 0, [0, 0], (0, 0), form, 0, FAR), (FAR + 2 ** 32 - 1) // 2 ** 32)
        for value in (2, 3, 5, 8, 2 ** 63):
            self.assertIsNone(first_round(self.counter(), 0, [0, 0], (0, 0), form, value))

    def test_powers(self):
        program = Program(64, ["x"], [("set", "x", (0, 3), 0)])
        self.assertEqual(comes_back(program, 0, [0], [1]), (0, 2 ** 62))
        for many in (0, 1, 100, 10 ** 18 + 7):
            self.assertEqual(first_round(program, 0, [0], [1], (0, 1), pow(3, many, 2 ** 64)), many)
            self.assertEqual(far_state(program, 0, [0], [1], many + 2 ** 62 * FAR), (pow(3, many, 2 ** 64),))
        self.assertIsNone(first_round(program, 0, [0], [1], (0, 1), 5))
        self.assertIsNone(first_round(program, 0, [0], [1], (0, 1), 0))

    def test_an_odd_period(self):
        """x, y become y, - x - y: behind three rounds they come again; z counts the rounds."""
        rows = [("set", "t", (0, -1, -1, 0, 0), 1), ("set", "x", (0, 0, 1, 0, 0), 2), ("set", "y", (0, 0, 0, 0, 1), 3),
                ("set", "z", (1, 0, 0, 1, 0), 4), ("say", (0, 1, 0, 0, 0), 0)]
        program = Program(64, ["x", "y", "z", "t"], rows)
        numbers, state = [0] * 5, (1, 0, 0, 0)
        walk = [far_state(program, 0, numbers, state, many)[:2] for many in range(4)]
        self.assertEqual(walk, [(1, 0), (0, 2 ** 64 - 1), (2 ** 64 - 1, 1), (1, 0)])
        self.assertEqual(comes_back(program, 0, numbers, state), (0, 3 * 2 ** 64))
        self.assertEqual(rounds_with(program, 0, numbers, state, (0, 0, 0, 1, 0), 10, FAR), (FAR - 11) // 2 ** 64 + 1)
        both = (0, 2 ** 63, 0, 1, 0)
        for number in (9, 10, 11, 12, 2 ** 63 + 10, 2 ** 64 - 1):
            wished = [many for many in range(number % 2 ** 63, 3 * 2 ** 64, 2 ** 63)
                      if (2 ** 63 * walk[many % 3][0] + many - number) % 2 ** 64 == 0]
            self.assertEqual(first_round(program, 0, numbers, state, both, number), wished[0])
            self.assertEqual(first_round(program, 0, numbers, state, both, number, start=wished[0] + 1), wished[1])
            self.assertEqual(rounds_with(program, 0, numbers, state, both, number, 3 * 2 ** 64), len(wished))

    def test_six_chained_sums(self):
        rows = [("set", name, tuple(1 if place in (at + 1, at + 2) else 0 for place in range(7)), at + 1)
                for at, name in enumerate("abcde")]
        program = Program(64, list("abcdef"), rows + [("set", "f", (1, 0, 0, 0, 0, 0, 1), 0)])
        state, numbers, far = (0,) * 6, [0] * 6, 10 ** 18 + 12345
        there = far_state(program, 0, numbers, state, far)
        self.assertEqual(there[5], far)
        # f is k, e is k (k - 1) / 2, d is k (k - 1) (k - 2) / 6, and so on.
        worth = 1
        for at in range(6):
            worth = worth * (far - at) // (at + 1)
            self.assertEqual(there[5 - at], worth % 2 ** 64)
            form = tuple(1 if place == 6 - at else 0 for place in range(7))
            found = first_round(program, 0, numbers, state, form, worth)
            self.assertLessEqual(found, far)
            self.assertEqual(far_state(program, 0, numbers, state, found)[5 - at], worth % 2 ** 64)
            self.assertEqual(first_round(program, 0, numbers, state, form, worth, start=far), far)
            less = rounds_with(program, 0, numbers, state, form, worth, far)
            self.assertEqual(rounds_with(program, 0, numbers, state, form, worth, far + 1), less + 1)
            self.assertEqual(less == 0, found == far)


class Wrong(unittest.TestCase):
    FORM = (0, 1, 0)
    ALL = [(far_state, (None,)), (far_said, (None,)), (comes_back, ()), (first_round, (None, None)),
           (rounds_with, (None, None, None)), (first_unlike, (None, None, None))]

    def raises(self, error, told, asked, *arguments, **more):
        with self.assertRaises(error) as caught:
            asked(turning(), *arguments, **more)
        self.assertEqual(vars(caught.exception), told)

    def rounds(self):
        """All functions with what goes ahead of a round and what follows, for the first round and the second one."""
        for asked, more in self.ALL:
            yield asked, (), more
        yield first_unlike, ROUND, ()

    def test_no_row(self):
        for asked, ahead, _ in self.rounds():
            for bad in no_integers() + [-1, 2, 10 ** 30]:
                rest = (None,) * (3 if asked is first_unlike and not ahead else {far_state: 1, far_said: 1, first_round: 2,
                                                                                rounds_with: 3}.get(asked, 0))
                self.raises(NoRow, {"row": bad}, asked, *ahead, bad, None, None, *rest)

    def test_no_run(self):
        for asked, ahead, rest in self.rounds():
            for bad in no_sequences():
                self.raises(NoRun, {"index": -1}, asked, *ahead, 0, bad, None, *rest)
            for bad in no_integers() + [1, -1, 256]:
                self.raises(NoRun, {"index": 0}, asked, *ahead, 0, [bad], None, *rest)
                self.raises(NoRun, {"index": 1}, asked, *ahead, 1, (0, bad, 0), None, *rest)

    def test_no_round(self):
        for asked, ahead, rest in self.rounds():
            for row, numbers in [(0, []), (1, ()), (0, [0]), (1, (0, 0, 0))]:
                self.raises(NoRound, {}, asked, *ahead, row, numbers, None, *rest)
        with self.assertRaises(NoRound):
            comes_back(double(), 2, [1], (0, 0))
        with self.assertRaises(NoRun) as caught:
            comes_back(double(), 4, [0], (0, 0))
        self.assertEqual(caught.exception.index, 0)
        with self.assertRaises(NoRound):
            comes_back(double(), 4, [], (0, 0))

    def test_no_state(self):
        for asked, ahead, rest in self.rounds():
            for bad in no_sequences() + [(), (0,), (0, 0, 0), "ab"]:
                self.raises(NoState, {"index": -1}, asked, *ahead, 0, [0, 0], bad, *rest)
            for bad in no_integers():
                self.raises(NoState, {"index": 0}, asked, *ahead, 0, [0, 0], [bad, bad], *rest)
                self.raises(NoState, {"index": 1}, asked, *ahead, 0, [0, 0], (5, bad), *rest)

    def test_no_form(self):
        for asked, rest in [(first_round, (None,)), (rounds_with, (None, None))]:
            for bad in no_sequences() + [(), (0,), (0, 1), (0, 1, 0, 0), [0, 1, 0], "abc"]:
                self.raises(NoForm, {"index": -1}, asked, *ROUND, bad, *rest)
            for bad in no_integers():
                self.raises(NoForm, {"index": 0}, asked, *ROUND, (bad, None, True), *rest)
                self.raises(NoForm, {"index": 2}, asked, *ROUND, (-1, 2 ** 70, bad), *rest)

    def test_no_count(self):
        for bad in no_integers():
            self.raises(NoCount, {"part": "value"}, first_round, *ROUND, self.FORM, bad, start=None)
            self.raises(NoCount, {"part": "value"}, rounds_with, *ROUND, self.FORM, bad, None)
        for bad in no_integers() + [-1, -10 ** 30]:
            self.raises(NoCount, {"part": "many"}, far_state, *ROUND, bad)
            self.raises(NoCount, {"part": "at"}, far_said, *ROUND, bad)
            self.raises(NoCount, {"part": "start"}, first_round, *ROUND, self.FORM, 1, start=bad)
            self.raises(NoCount, {"part": "many"}, rounds_with, *ROUND, self.FORM, 1, bad)
            silent = Program(8, ["x"], [("set", "x", (1, 1), 0)])
            with self.assertRaises(NoCount):
                far_said(silent, 0, [0], [0], bad)

    def test_the_first_round_is_asked_ahead_of_the_second_one(self):
        self.raises(NoState, {"index": 1}, first_unlike, 0, [0, 0], (0, None), 7, [], ())
        self.raises(NoRound, {}, first_unlike, 0, [0], (0, None), 7, [], ())
        self.raises(NoRow, {"row": 7}, first_unlike, *ROUND, 7, [], ())
        self.raises(NoRound, {}, first_unlike, *ROUND, 1, [], ())

    def test_odd_objects(self):
        for bad in odd_values():
            self.raises(NoRow, {"row": bad}, first_round, bad, bad, bad, bad, bad, start=bad)


class Arguments(unittest.TestCase):
    def test_names(self):
        p = turning()
        self.assertEqual(far_state(many=2, state=(0, 5), numbers=[0, 0], row=0, program=p), (4, 5))
        self.assertEqual(far_said(at=1, state=(0, 5), numbers=[0, 0], row=0, program=p), 9)
        self.assertEqual(comes_back(state=(0, 5), numbers=[0, 0], row=0, program=p), (0, 128))
        self.assertEqual(first_round(start=4, value=13, form=(0, 1, 0), state=(0, 5), numbers=[0, 0], row=0, program=p), 131)
        self.assertEqual(rounds_with(many=5, value=13, form=(0, 1, 0), state=(0, 5), numbers=[0, 0], row=0, program=p), 1)
        self.assertEqual(first_unlike(state_two=(0, 6), numbers_two=[0, 0], row_two=0, state=(0, 5), numbers=[0, 0], row=0,
                                      program=p), 0)
        with self.assertRaises(TypeError):
            first_round(p, *ROUND, (0, 1, 0), 13, 4)

    def test_lists_and_tuples_and_any_integers(self):
        for numbers in ([0, 0], (0, 0)):
            for state in ((0, 5), [256, -251], (2 ** 70, 5 - 2 ** 80)):
                self.assertEqual(far_state(turning(), 0, numbers, state, 2), (4, 5))
                self.assertEqual(comes_back(turning(), 0, numbers, state), (0, 128))
                self.assertEqual(first_round(turning(), 0, numbers, state, (256, 257, -256), 13 - 256), 3)
                self.assertIsNone(first_unlike(turning(), *ROUND, 0, numbers, state))
        asking = Program(8, ["x"], [("ask", "x", 1), ("look", 0)])
        for number in (7, 263, -249, 7 + 2 ** 70):
            self.assertEqual(far_said(asking, 0, [number, 0], (0,), 10), 7)

    def test_arguments_stay(self):
        program, numbers, state = turning(), [0, 0], [0, 5]
        far_state(program, 0, numbers, state, 9)
        first_unlike(program, 0, numbers, state, 0, numbers, state)
        comes_back(program, 0, numbers, state)
        self.assertEqual((program, numbers, state), (turning(), [0, 0], [0, 5]))
        self.assertIs(type(far_state(program, 0, numbers, state, 0)), tuple)
        self.assertIs(type(comes_back(program, 0, numbers, state)), tuple)


if __name__ == "__main__":
    unittest.main()
