"""Printed lines: strips, halls and cases as text."""

from galloon.bales import Bale
from galloon.deeds import written
from galloon.errors import BadSigns
from galloon.halls import is_hidden


def drawn(scheme, strip, *, signs=".o#"):
    """The picture of a strip, with a sign for each colour."""
    lines = scheme.picture(strip)
    if len(signs) < scheme.colours:
        raise BadSigns()
    return ["".join([signs[int(colour)] for colour in line]) for line in lines]


def hall_lines(hall):
    """One line for each tool: its letter, its kind, and how many deeds it may be."""
    return [_tool_line(letter, hall[letter]) for letter in hall.letters()]


def case_lines(case):
    """One line for each sheet: its name, how many letters it has gone through, and what it may be."""
    return [_sheet_line(case, name) for name in case.sheets()]


def _tool_line(letter, tool):
    """The line of one tool."""
    kind = "hidden" if is_hidden(tool) else tool.KIND
    many = len(tool) if is_hidden(tool) else 1
    return f"{letter} {kind:<8} {many:>3}"


def _sheet_line(case, name):
    """The line of one sheet."""
    bale = case.now(name)
    first = bale.first()
    sure = "sure" if bale == Bale.listed(case.scheme, [first]) else "open"
    return f"{name:<8} {len(case.steps(name)):>3} {sure} {written(first)}"
