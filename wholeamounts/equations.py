"""Equations: molecules on the left and on the right, read from a form."""

from wholeamounts.molecules import read_molecule
from wholeamounts.reading import Reader
from wholeamounts.refusals import Fault

MARK = (70, 75, 81, 49)
MOST_ON_A_SIDE = 8
MOST_SIZE = 65535

# A molecule's fault is told by this and the rule of molecules' forms.
WITHIN_MOLECULE = 16


class Equation:
    """The molecules on the left and those on the right."""

    def __init__(self, left, right):
        self.left = left
        self.right = right


def read_equation(form):
    """Give the equation of a form, or raise the form's first fault."""
    reader = Reader(form)
    reader.expect_mark(MARK)
    left_count = reader.number(1, 1, MOST_ON_A_SIDE)
    right_count = reader.number(1, 1, MOST_ON_A_SIDE)
    left = [read_member(reader) for k in range(left_count)]
    right = [read_member(reader) for k in range(right_count)]
    reader.finish()
    return Equation(left, right)


def read_member(reader):
    """Read a molecule, judged when its whole form is there; its fault is told at the place in the equation."""
    size = reader.number(2, 0, MOST_SIZE)
    start = reader.place
    form = reader.take(size)
    try:
        return read_molecule(form)
    except Fault as fault:
        raise Fault(WITHIN_MOLECULE + fault.rule, start + fault.place) from fault
