"""Whether all nodes of a graph can be paired, where all but two are paired already.

That is so just if a path leads from the one lone node to the other by links
that are unpaired and paired in turn: exchange these along it, and all are
paired. The search is Edmonds': a node is outer if such a path of an even
count of links leads to it from the start. Where a link joins two outer nodes,
the odd ring that it closes can be gone round either way; so all nodes of the
ring become outer, and from then on the ring counts as one node, its base.
"""


class Search:
    """The nodes that have been reached from the start."""

    def __init__(self, links, mates, start):
        self.links = links
        self.mates = mates
        self.start = start
        self.bases = list(range(len(links)))
        self.outer = {start: True}
        self.reached_from = {}
        self.waiting = [start]

    def reaches(self, goal):
        while self.waiting:
            node = self.waiting.pop()
            for other in self.links[node]:
                if other == goal:
                    return True
                self.look_at(node, other)
        return False

    def look_at(self, node, other):
        """Follow the link from an outer node to another node."""
        if other in self.outer:
            self.close_ring(self.base_of(node), self.base_of(other))
        elif other not in self.reached_from:
            self.reached_from[other] = node
            self.make_outer(self.mates[other])

    def make_outer(self, node):
        self.outer[node] = True
        self.waiting.append(node)

    def base_of(self, node):
        while self.bases[node] != node:
            # The way is made shorter, so that long chains are not gone through again and again.
            self.bases[node] = self.bases[self.bases[node]]
            node = self.bases[node]
        return node

    def base_before(self, base):
        """The base by which that base was reached; the start has none."""
        return self.base_of(self.reached_from[self.mates[base]])

    def close_ring(self, base, other):
        if base == other:
            return
        meeting = self.meeting_of(base, other)
        self.fold(base, meeting)
        self.fold(other, meeting)

    def meeting_of(self, base, other):
        """The last base that lies on the ways from the start to both."""
        passed = {base: True}
        while base != self.start:
            base = self.base_before(base)
            passed[base] = True
        while other not in passed:
            other = self.base_before(other)
        return other

    def fold(self, base, meeting):
        """Take the way from the meeting to that base into the ring."""
        while base != meeting:
            between = self.mates[base]
            before = self.base_before(base)
            self.bases[base] = meeting
            self.bases[between] = meeting
            self.make_outer(between)
            base = before


def can_pair_all(links, mates, start, goal):
    """Whether all can be paired, where start and goal alone have no mate."""
    return Search(links, mates, start).reaches(goal)
