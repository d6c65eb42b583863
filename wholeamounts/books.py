"""Books: the masses that a caller gives to each element and isotope."""

from wholeamounts.reading import MOST_ELEMENT, MOST_ISOTOPE, NOT_BEHIND, Reader
from wholeamounts.refusals import Fault

MARK = (70, 75, 69, 49)
MOST_ENTRIES = 4096
MOST_MASS = 1099511627776

# Every entry is behind this one, since no element is 0.
BEFORE_ALL = (0, 0)


def read_book(form):
    """Give a book's entries, each as element, isotope and mass, or raise the form's first fault."""
    reader = Reader(form)
    reader.expect_mark(MARK)
    count = reader.number(2, 0, MOST_ENTRIES)
    entries = []
    before = BEFORE_ALL
    for k in range(count):
        entry = read_entry(reader, before)
        entries.append(entry)
        before = (entry[0], entry[1])
    reader.finish()
    return entries


def read_entry(reader, before):
    """Read an entry that must be behind the element and isotope before it."""
    start = reader.place
    element = reader.number(1, 1, MOST_ELEMENT)
    isotope = reader.number(2, 0, MOST_ISOTOPE)
    if (element, isotope) <= before:
        raise Fault(NOT_BEHIND, start)
    mass = reader.number(8, 1, MOST_MASS)
    return (element, isotope, mass)
