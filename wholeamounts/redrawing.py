"""Whether a double bond is fixed: of order 2 in every redrawing of its molecule.

The redrawings are too many to go through them all. So the bonds are seen as
threads: each bond has two, and its order less one of them are drawn. A thread
has an end at each of its atoms. The ends of a drawn thread are paired with
one another; each end of a thread that isn't drawn is paired with a cap at its
atom. A cap fits every end at its atom and nothing else, so that as many ends
are drawn there as there are fewer caps than ends: each way of pairing all ends
and caps is a redrawing, with the same sums.
"""

from wholeamounts.pairing import can_pair_all


class Web:
    """The ends and caps as nodes by number: what each may be paired with, and what it is paired with."""

    def __init__(self):
        self.links = []
        self.mates = []
        self.ends_at = {}
        self.caps_at = {}

    def add_end(self, atom):
        return self.add_node(atom, self.ends_at, self.caps_at)

    def add_cap(self, atom):
        return self.add_node(atom, self.caps_at, self.ends_at)

    def add_node(self, atom, alike_at, fitting_at):
        node = len(self.links)
        fitting = fitting_at.get(atom, [])
        self.links.append(list(fitting))
        self.mates.append(None)
        for other in fitting:
            self.links[other].append(node)
        alike_at.setdefault(atom, []).append(node)
        return node

    def add_thread(self, a, b, drawn):
        end = self.add_end(a)
        other = self.add_end(b)
        self.links[end].append(other)
        self.links[other].append(end)
        if drawn:
            self.pair(end, other)
        else:
            self.pair(end, self.add_cap(a))
            self.pair(other, self.add_cap(b))

    def pair(self, node, other):
        self.mates[node] = other
        self.mates[other] = node


def is_fixed_double(bonds, k):
    """Whether the bond k, which has order 2, has it in every redrawing."""
    return not can_be_single(bonds, k) and not can_be_triple(bonds, k)


def can_be_single(bonds, k):
    """With a thread of the bond k undrawn, its atoms have an end too many each, which asks for a cap."""
    web = web_without(bonds, k)
    start = web.add_end(bonds[k].a)
    goal = web.add_end(bonds[k].b)
    return can_pair_all(web.links, web.mates, start, goal)


def can_be_triple(bonds, k):
    """With one more thread of the bond k drawn, its atoms have a cap too many each, which asks for an end."""
    web = web_without(bonds, k)
    start = web.add_cap(bonds[k].a)
    goal = web.add_cap(bonds[k].b)
    return can_pair_all(web.links, web.mates, start, goal)


def web_without(bonds, k):
    """The web of all bonds but the bond k."""
    web = Web()
    for index, bond in enumerate(bonds):
        if index != k:
            web.add_thread(bond.a, bond.b, bond.order >= 2)
            web.add_thread(bond.a, bond.b, bond.order == 3)
    return web
