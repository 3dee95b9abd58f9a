"""Programs as texts: one text for each program."""

from leastkeep.errors import NoText
from leastkeep.programs import MOST_NEXTS, MOST_ROWS, MOST_VARIABLES, Program, is_name, is_variable, kind_and_nexts
from leastkeep.values import is_width, is_within

# All numbers of programs are less than 2 ** 64, and so have no more figures.
MOST_FIGURES = 20


def show_program(program):
    """The text of a program."""
    lines = [_width_line(program.width), _variables_line(program.variables)]
    lines.extend([_row_line(program.variables, row, item) for row, item in enumerate(program.rows)])
    return "".join([line + "\n" for line in lines])


def read_program(text):
    """The program that has a text."""
    if not isinstance(text, str):
        raise NoText(-1)
    lines = text.split("\n")
    parts = []
    for at, line in enumerate(lines[:-1]):
        part = _part_of(parts, line)
        if part is None:
            raise NoText(at)
        parts.append(part)
    if lines[-1] or not _are_whole(parts[2:]):
        raise NoText(len(parts))
    return Program(parts[0], parts[1], parts[2:])


def _width_line(width):
    return f"width {width}"


def _variables_line(variables):
    return " ".join(["variables"] + list(variables))


def _row_line(variables, row, item):
    kind = item[0]
    if kind == "stop":
        return f"{row}: stop"
    head = kind
    if kind == "set":
        head = f"set {item[1]} = {_form_text(variables, item[2])}"
    elif kind == "ask":
        head = f"ask {item[1]}"
    elif kind == "say":
        head = f"say {_form_text(variables, item[1])}"
    nexts = " ".join([str(behind) for behind in kind_and_nexts(item)[1]])
    return f"{row}: {head} -> {nexts}"


def _form_text(variables, form):
    parts = [str(form[0])] if form[0] else []
    for factor, name in zip(form[1:], variables):
        if factor:
            parts.append(name if factor == 1 else f"{factor} {name}")
    return " + ".join(parts) if parts else "0"


def _are_whole(rows):
    """Whether there are rows, and all those to which they lead."""
    nexts = [behind for item in rows for behind in kind_and_nexts(item)[1]]
    return len(rows) > max(nexts, default=0)


def _part_of(parts, line):
    """What a line tells behind some parts, the width, the variables and then rows; None if it cannot stand there.

    What a line seems to tell is written again: so no other line tells the same.
    """
    if not parts:
        width = _width_of(line)
        return width if width is not None and _width_line(width) == line else None
    if len(parts) == 1:
        return _variables_of(line)
    width, variables, row = parts[0], parts[1], len(parts) - 2
    if row >= MOST_ROWS:
        return None
    item = _item_of(width, variables, line.split(" ")[1:])
    return item if item is not None and _row_line(variables, row, item) == line else None


def _width_of(line):
    width = _number_of(line.split(" ")[-1])
    return width if is_width(width) else None


def _variables_of(line):
    words = line.split(" ")
    names = tuple(words[1:])
    if words[0] != "variables" or not 1 <= len(names) <= MOST_VARIABLES:
        return None
    fine = [is_name(name) and name not in names[:index] for index, name in enumerate(names)]
    return names if all(fine) else None


def _item_of(width, variables, words):
    """The row that the words behind its number seem to tell, or None."""
    if words == ["stop"]:
        return ("stop",)
    if "->" not in words:
        return None
    head = words[:words.index("->")]
    nexts = [_number_of(word) for word in words[len(head) + 1:]]
    if not 1 <= len(nexts) <= MOST_NEXTS or not all([is_within(row, 0, MOST_ROWS - 1) for row in nexts]):
        return None
    if head == ["choose"]:
        return ("choose", tuple(nexts))
    return _going_on(width, variables, head, nexts[0])


def _going_on(width, variables, head, behind):
    """The row that leads to one row, and has some words ahead of the arrow, or None."""
    if head == ["look"]:
        return ("look", behind)
    kind = head[0] if head else ""
    if kind == "say":
        form = _form_of(width, variables, head[1:])
        return None if form is None else ("say", form, behind)
    if len(head) < 2 or not is_variable(head[1], variables):
        return None
    if kind == "ask":
        return ("ask", head[1], behind)
    form = _form_of(width, variables, head[3:])
    return ("set", head[1], form, behind) if kind == "set" and form is not None else None


def _form_of(width, variables, words):
    """The form that some words seem to tell, or None."""
    terms = [[]]
    for word in words:
        if word == "+":
            terms.append([])
        else:
            terms[-1].append(word)
    form = [0] * (len(variables) + 1)
    for term in terms:
        if not term:
            return None
        number = _number_of(term[0])
        factor = 1 if number is None else number
        names = term if number is None else term[1:]
        if factor >> width or len(names) > 1 or not all([is_variable(name, variables) for name in names]):
            return None
        form[variables.index(names[0]) + 1 if names else 0] = factor
    return tuple(form)


def _number_of(word):
    """The number whose figures a word is, or None if it is no number, or greater than all that stand in programs."""
    if not 1 <= len(word) <= MOST_FIGURES or not all([sign in "0123456789" for sign in word]):
        return None
    return int(word)
