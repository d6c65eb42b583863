"""Whether a double bond is fixed: of order 2 in every redrawing of its molecule.

The redrawings are too many to go through them all. But where one has another
order at a bond, one can walk on from there: if the bond goes up, another bond
of its atom goes down, another at the end of that goes up, and so on in turn,
until the walk comes back to the bond by its other end. So the bond is cut in
its middle, and walks are looked for that lead from the middle over both ends
back to it. A bond of order 2 can go one step either way; one of order 1 can go
up two steps, one of order 3 down two, so that a walk may use it twice.

The search is Edmonds'. It keeps a tree of walks, one to each atom. Where two
of them can be joined, they close a ring from their meeting on. That can be gone
round either way, so that from each of its atoms the walk can go on up or down;
from then on the ring counts as one atom, its base.
"""

UP = 1
DOWN = -1

# Stands among the atoms for the middle of the bond that is cut.
MIDDLE = -1


class Way:
    """A bond as it lies at one of its atoms: which bond, the other atom, how many steps it can go up and down."""

    def __init__(self, bond, other, order):
        self.bond = bond
        self.other = other
        self.rooms = {UP: 3 - order, DOWN: order - 1}


class Search:
    """The atoms that walks from the middle of the cut bond have reached."""

    def __init__(self, ways, cut):
        self.ways = ways
        self.cut = cut
        self.bases = {MIDDLE: MIDDLE}
        # By atom, which bond the walk came by, and the atom before.
        self.came_by = {}
        self.came_from = {}
        # An atom and a turn, up or down, stand here if a walk to the atom can go on with that turn.
        self.turns = {}
        self.waiting = []

    def reach(self, atom, before, bond, turn):
        self.bases[atom] = atom
        self.came_by[atom] = bond
        self.came_from[atom] = before
        self.allow(atom, turn)

    def allow(self, atom, turn):
        if (atom, turn) not in self.turns:
            self.turns[(atom, turn)] = True
            self.waiting.append((atom, turn))

    def comes_back(self):
        """Go on with all walks; whether one of them comes back to the middle."""
        while self.waiting:
            state = self.waiting.pop()
            if self.goes_on(state[0], state[1]):
                return True
        return False

    def goes_on(self, atom, turn):
        for way in self.ways[atom]:
            if way.bond != self.cut and way.rooms[turn] > 0 and self.closes(atom, turn, way):
                return True
        return False

    def closes(self, atom, turn, way):
        """Go on from an atom by a bond; whether that closes a ring through the middle."""
        if way.other not in self.bases:
            self.reach(way.other, atom, way.bond, -turn)
            return False
        base = self.base_of(atom)
        other_base = self.base_of(way.other)
        used_up = self.came_by[base] == way.bond and way.rooms[turn] == 1
        if base == other_base or used_up or (way.other, turn) not in self.turns:
            return False
        meeting = self.meeting_of(base, other_base)
        if meeting == MIDDLE:
            return True
        self.fold(base, meeting)
        self.fold(other_base, meeting)
        self.allow_both(meeting)
        return False

    def base_of(self, atom):
        while self.bases[atom] != atom:
            # The way is made shorter, so that long chains are not gone through again and again.
            self.bases[atom] = self.bases[self.bases[atom]]
            atom = self.bases[atom]
        return atom

    def base_before(self, base):
        """The base from which a base was reached; the middle is its own."""
        return MIDDLE if base == MIDDLE else self.base_of(self.came_from[base])

    def meeting_of(self, base, other):
        """The last base on the walks to both, looked for in turn, so that no more is walked than the ring is long."""
        passed = {base: True, other: True}
        while base != MIDDLE or other != MIDDLE:
            before = self.base_before(base)
            if before != MIDDLE and before in passed:
                return before
            passed[before] = True
            base = other
            other = before
        return MIDDLE

    def fold(self, base, meeting):
        """Take the bases from the meeting to that base into the ring."""
        while base != meeting:
            before = self.base_before(base)
            self.bases[base] = meeting
            self.allow_both(base)
            base = before

    def allow_both(self, atom):
        self.allow(atom, UP)
        self.allow(atom, DOWN)


def ways_at(count, bonds):
    """By each of so many atoms, its bonds as they lie at it."""
    ways = [[] for atom in range(count)]
    for number, bond in enumerate(bonds):
        ways[bond.a].append(Way(number, bond.b, bond.order))
        ways[bond.b].append(Way(number, bond.a, bond.order))
    return ways


def is_fixed_double(ways, bonds, number):
    """Whether a bond of order 2 has that order in every redrawing."""
    return not can_go(ways, bonds, number, UP) and not can_go(ways, bonds, number, DOWN)


def can_go(ways, bonds, number, turn):
    """Whether a bond can go a step up or down: from its ends the walks go on with the other turn."""
    search = Search(ways, number)
    search.reach(bonds[number].a, MIDDLE, number, -turn)
    search.reach(bonds[number].b, MIDDLE, number, -turn)
    return search.comes_back()
