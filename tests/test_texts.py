"""Programs as texts: points 2, 3, 81 and 82."""

import random
import re
import unittest

from leastkeep.errors import NoText
from leastkeep.programs import Program
from leastkeep.texts import read_program, show_program
from tests.samples import dense_program, double, odd_values, pair, random_program, shifts, turning

HEAD = "width 8\nvariables x y\n"


def is_form(text, width, names):
    """Whether a text is a form: terms in the order of the variables, none of which is 0, or 0 alone."""
    if text == "0":
        return True
    last = -1
    for term in text.split(" + "):
        found = re.fullmatch(r"(?:([1-9][0-9]*) )?([a-z]+)|([1-9][0-9]*)", term)
        if found is None or int(found[1] or found[3] or 1) >= 2 ** width or found[1] == "1":
            return False
        at = 0 if found[3] else names.index(found[2]) + 1 if found[2] in names else -1
        if at <= last:
            return False
        last = at
    return True


def is_line(at, line, width, names):
    """Whether a line can stand in the text of a program, behind others that tell the width and the variables."""
    if at == 0:
        return re.fullmatch("width ([1-9]|[1-5][0-9]|6[0-4])", line) is not None
    if at == 1:
        words = line.split(" ")[1:]
        return re.fullmatch("variables( [a-z]{1,8}){1,6}", line) is not None and len(set(words)) == len(words)
    number = "(?:[0-9]|1[0-9]|2[0-4])"
    found = re.fullmatch(f"{at - 2}: (stop|look -> {number}|choose ->(?: {number}){{1,6}}|ask ([a-z]+) -> {number}"
                         f"|say (.+) -> {number}|set ([a-z]+) = (.+) -> {number})", line)
    if found is None or at > 26:
        return False
    name, form = found[2] or found[4], found[3] or found[5]
    return (name is None or name in names) and (form is None or is_form(form, width, names))


def told_line(text):
    """The line that NoText tells, or None for the text of a program."""
    lines = text.split("\n")
    width = names = None
    nexts = [0]
    for at, line in enumerate(lines[:-1]):
        if re.search("[^ -~]", line) or not is_line(at, line, width, names):
            return at
        if at == 0:
            width = int(line.split(" ")[1])
        elif at == 1:
            names = line.split(" ")[1:]
        elif "->" in line:
            nexts += [int(word) for word in line.split("-> ")[1].split(" ")]
    many = len(lines) - 1
    return many if lines[-1] or many < 3 or max(nexts) >= many - 2 else None


class Showing(unittest.TestCase):
    def test_example(self):
        self.assertEqual(show_program(turning()), "width 8\nvariables x y\n0: set x = 1 + 3 x -> 1\n1: say x + y -> 0\n")

    def test_all_kinds(self):
        self.assertEqual(show_program(double()), HEAD + "0: ask x -> 1\n1: set y = 3 + x -> 2\n2: choose -> 3 4\n"
                                                       "3: say x + y -> 2\n4: stop\n")
        program = Program(64, ["x"], [("look", 1), ("choose", (1,)), ("choose", (0, 1, 2, 2, 1, 0)),
                                      ("say", (-1, -2), 0)])
        self.assertEqual(show_program(program), "width 64\nvariables x\n0: look -> 1\n1: choose -> 1\n"
                                                "2: choose -> 0 1 2 2 1 0\n"
                                                "3: say 18446744073709551615 + 18446744073709551614 x -> 0\n")

    def test_forms(self):
        for form, text in [((0, 0, 0), "0"), ((5, 0, 0), "5"), ((1, 0, 0), "1"), ((0, 1, 0), "x"), ((0, 0, 1), "y"),
                           ((0, 2, 0), "2 x"), ((1, 1, 1), "1 + x + y"), ((255, 254, 10), "255 + 254 x + 10 y"),
                           ((-1, 256, -1), "255 + 255 y"), ((0, 1, 3), "x + 3 y")]:
            program = Program(8, ["x", "y"], [("say", form, 0)])
            self.assertEqual(show_program(program), HEAD + f"0: say {text} -> 0\n")
            self.assertEqual(read_program(HEAD + f"0: say {text} -> 0\n"), program)

    def test_variables_like_the_words_of_texts(self):
        names = ["set", "ask", "say", "look", "choose", "stop"]
        rows = [("set", "set", (0, 1, 0, 0, 0, 0, 0), 1), ("ask", "ask", 2), ("say", (1, 1, 1, 1, 1, 1, 1), 3),
                ("set", "look", (0, 0, 0, 0, 0, 0, 2), 4), ("choose", (5,)), ("stop",)]
        program = Program(4, names, rows)
        text = ("width 4\nvariables set ask say look choose stop\n0: set set = set -> 1\n1: ask ask -> 2\n"
                "2: say 1 + set + ask + say + look + choose + stop -> 3\n3: set look = 2 stop -> 4\n4: choose -> 5\n"
                "5: stop\n")
        self.assertEqual(show_program(program), text)
        self.assertEqual(read_program(text), program)
        for names in (["width"], ["variable"], ["x", "width", "w"]):
            other = Program(4, names, [("ask", names[0], 0)])
            self.assertEqual(read_program(show_program(other)), other)


class Reading(unittest.TestCase):
    def test_there_and_back(self):
        programs = [random_program(seed) for seed in range(200)]
        programs += [random_program(seed, 64, 6, 25) for seed in range(20)]
        for program in programs + [dense_program(), double(), pair(), shifts(), turning()]:
            text = show_program(program)
            self.assertEqual(read_program(text), program)
            self.assertIsNone(told_line(text))
            self.assertEqual(len(text.splitlines()), len(program) + 2)

    def check(self, text):
        """Whether a text is read; if it is, it is the text of what it was read to, otherwise its line is told."""
        told = told_line(text)
        if told is None:
            self.assertEqual(show_program(read_program(text)), text)
            return True
        with self.assertRaises(NoText) as caught:
            read_program(text)
        self.assertEqual(caught.exception.line, told, text)
        return False

    def test_texts_with_a_sign_changed(self):
        read = 0
        for seed in range(250):
            rng = random.Random(seed)
            text = show_program(random_program(seed))
            for _ in range(8):
                at = rng.randrange(len(text))
                sign = rng.choice("0123456789 \n:=+->xyzabc\t\r%" + text)
                read += self.check(rng.choice([text[:at] + text[at + 1:], text[:at] + sign + text[at:],
                                               text[:at] + sign + text[at + 1:],
                                               text[:at] + text[at + 1:at + 2] + text[at:at + 1] + text[at + 2:]]))
        self.assertGreater(read, 40)

    def test_texts_with_a_line_changed(self):
        read = 0
        for seed in range(250):
            rng = random.Random(seed)
            lines = show_program(random_program(seed)).splitlines(keepends=True)
            at, other = rng.randrange(len(lines)), rng.randrange(len(lines))
            moved = list(lines)
            moved[at], moved[other] = moved[other], moved[at]
            strange = show_program(random_program(seed + 1000)).splitlines(keepends=True)
            for changed in (lines[:at] + lines[at + 1:], lines[:at + 1] + lines[at:], moved,
                            lines[:at] + strange[at:at + 1] + lines[at + 1:], lines[:at] + strange[at:]):
                read += self.check("".join(changed))
        self.assertGreater(read, 100)

    def test_texts_that_are_cut_off(self):
        for program in (double(), pair(), shifts()):
            text = show_program(program)
            for many in range(len(text)):
                self.assertFalse(self.check(text[:many]))
            self.assertFalse(self.check(text + " "))
            self.assertFalse(self.check(text + "\n"))
            self.assertTrue(self.check(text + f"{len(program)}: stop\n"))


class Wrong(unittest.TestCase):
    def no_text(self, text, line):
        with self.assertRaises(NoText) as caught:
            read_program(text)
        self.assertEqual(caught.exception.line, line, text)

    def test_no_string(self):
        for bad in odd_values() + [0, [], (), [HEAD], HEAD.encode(), show_program(double()).encode()]:
            self.no_text(bad, -1)

    def test_examples(self):
        self.no_text("width 8\nvariables x\n0: look -> 1\n", 3)
        self.no_text("width 8\nvariables x\n0: look -> 01\n", 2)

    def test_ends_too_early(self):
        self.no_text("", 0)
        self.no_text("width 8\n", 1)
        self.no_text("width 8\nvariables x\n", 2)
        self.no_text(HEAD + "0: look -> 0\n1: choose -> 0 1 3\n2: stop\n", 5)
        self.no_text(HEAD + "0: look -> 24\n", 3)
        self.assertEqual(len(read_program(HEAD + "".join(f"{at}: look -> 24\n" for at in range(25)))), 25)

    def test_no_line_feed(self):
        for text, line in [("width 8", 0), ("x", 0), ("width 8\nvariables x", 1), (HEAD + "0: stop", 2), (HEAD + " ", 2),
                           (HEAD + "0: stop\n1: stop", 3), (HEAD + "0: stop\n\r", 3)]:
            self.no_text(text, line)
        self.no_text(HEAD + "0: stip\n1: stop", 2)
        self.no_text("\n", 0)
        self.no_text("\n\n", 0)

    def test_widths(self):
        for line in ["", "width", "width ", "width 0", "width 65", "width 08", "width 8 ", " width 8", "Width 8", "width  8",
                     "width -1", "width +8", "width 8.", "width x", "width\t8", "width 8\r", "width 100", "8", "width8",
                     "width " + "9" * 5000, "width " + "0" * 5000 + "8", "width \u0668", "width \u00b2", "width 1_0",
                     "depth 8", "width 8 8"]:
            self.no_text(line + "\nvariables x\n0: stop\n", 0)
        for width in (1, 9, 10, 63, 64):
            self.assertEqual(read_program(f"width {width}\nvariables x\n0: stop\n").width, width)

    def test_variables(self):
        for line in ["", "variables", "variables ", "variables  x", "variables x ", "variables x  y", "variables x x",
                     "variables a b c d e f g", "variables X", "variables x1", "variables abcdefghi", "variables x,y",
                     "variable x", "Variables x", " variables x", "variables x\ty", "variables \u00e4", "variables x\r",
                     "variables a b c d e b", "x y"]:
            self.no_text("width 8\n" + line + "\n0: stop\n", 1)
        for names in ("a b c d e f", "abcdefgh", "variable z"):
            self.assertEqual(read_program(f"width 8\nvariables {names}\n0: stop\n").variables, tuple(names.split(" ")))

    def test_rows(self):
        for line in ["", "0:", "0: ", "0 stop", "stop", "1: stop", "00: stop", "-0: stop", "0:stop", "0:  stop", "0: stop ",
                     " 0: stop", "0: stop -> 0", "0: Stop", "0: stop stop", "0: go -> 0", "0: look", "0: look ->",
                     "0: look -> ", "0: look 0", "0: look ->0", "0: look-> 0", "0: look  -> 0", "0: look -> 0 ",
                     "0: look -> 0 0", "0: look x -> 0", "0: look -> x", "0: look -> -1", "0: look -> 25", "0: look -> 00",
                     "0: look -> " + "1" * 5000, "0: look -> +0", "0: look => 0", "0: -> 0", "0:  -> 0", "0: look - > 0",
                     "0: ask -> 0", "0: ask z -> 0", "0: ask x y -> 0", "0: ask X -> 0", "0: ask x", "0: ask 0 -> 0",
                     "0: ask x -> 0 0", "0: ask x = x -> 0", "0: choose ->", "0: choose -> ", "0: choose", "0: choose -> 0  0",
                     "0: choose -> 0,0", "0: choose -> 0 25", "0: choose -> 0 0 0 0 0 0 0", "0: choose x -> 0",
                     "0: choose -> 0 01", "0: choose -> (0, 0)", "0: choose -> 0 -> 0", "0: look -> 0 -> 0", "0: x -> 0",
                     "0: look -> 0\r", "0: look -> 0\t"]:
            self.no_text(HEAD + line + "\n0: stop\n", 2)

    def test_forms(self):
        bad = ["", " ", "z", "x y", "x  + y", "x +  y", "x+y", "x +", "+ x", "x + + y", "y + x", "x + x", "x + 1", "1 + 1",
               "0 + x", "x + 0", "0 x", "1 x", "01", "00", "02 x", "256", "256 x", "1 + 256 y", "-1", "-1 x", "x - y", "+1",
               "2x", "2  x", "x 2", "2 * x", "2 3 x", "2 3", "X", "1 + x + y + x", "10 0", "1_0", "\u0661", "\u00b2", "1.", "0x1",
               "9" * 5000, "9" * 5000 + " x", "0" * 5000, "1 + " + "1" * 25 + " y", "18446744073709551616", "1 +x", "+"]
        for form in bad:
            self.no_text(HEAD + f"0: say {form} -> 0\n1: stop\n", 2)
            self.no_text(HEAD + f"0: stop\n1: set x = {form} -> 0\n", 3)
        for line in ["set x -> 0", "set x = -> 0", "set = x -> 0", "set z = x -> 0", "set x = y = x -> 0", "set x := x -> 0",
                     "set x x -> 0", "set x = x", "set x == x -> 0", "set -> 0", "say -> 0", "say x", "say x y ->", "set x y = x -> 0"]:
            self.no_text(HEAD + f"0: {line}\n", 2)
        for width, form, fine in [(1, "1", True), (1, "x + y", True), (1, "2", False), (2, "3 x", True), (2, "4 x", False),
                                  (64, "18446744073709551615 x", True), (64, "18446744073709551616 x", False),
                                  (64, "99999999999999999999", False)]:
            text = f"width {width}\nvariables x y\n0: say {form} -> 0\n"
            if fine:
                self.assertEqual(show_program(read_program(text)), text)
            else:
                self.no_text(text, 2)

    def test_row_numbers_above_24(self):
        rows = "".join(f"{at}: stop\n" for at in range(25))
        self.assertEqual(len(read_program(HEAD + rows)), 25)
        self.no_text(HEAD + rows + "25: stop\n", 27)
        self.no_text(HEAD + rows + "stop\n", 27)
        self.no_text(HEAD + rows + "0: stop", 27)
        self.no_text(HEAD + "0: look -> 25\n" + rows, 2)

    def test_the_first_wrong_line(self):
        self.no_text("width 0\nvariables\n0: x\n", 0)
        self.no_text("width 8\nvariables x x\n0: x", 1)
        self.no_text(HEAD + "0: look -> 9\n1: say z -> 0\n", 3)
        self.no_text(HEAD + "0: look -> 9\n1: say x -> 0\nx", 4)

    def test_long_texts(self):
        self.no_text(HEAD + "0: stop\n" * 100000, 3)
        self.no_text(HEAD + "0: say " + " + ".join(["x"] * 100000) + " -> 0\n", 2)
        self.no_text("width 8\nvariables " + " ".join(["x"] * 100000) + "\n", 1)
        self.no_text(HEAD + "0: choose -> " + " ".join(["0"] * 100000) + "\n", 2)


class Arguments(unittest.TestCase):
    def test_names(self):
        self.assertEqual(read_program(text=show_program(program=double())), double())

    def test_arguments_stay(self):
        program = double()
        self.assertEqual(show_program(program), show_program(program))
        self.assertEqual(program, double())


if __name__ == "__main__":
    unittest.main()
