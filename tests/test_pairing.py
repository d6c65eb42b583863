import itertools
import random
import unittest

from wholeamounts.pairing import can_pair_all


def can_pair(links, nodes):
    """By brute force: whether these nodes can all be paired."""
    if not nodes:
        return True
    first = nodes[0]
    for other in links[first]:
        if other in nodes and can_pair(links, [node for node in nodes if node not in (first, other)]):
            return True
    return False


def drawn(source):
    """A graph of which all nodes but two are paired, and these two nodes."""
    count = 2 * source.randint(1, 7)
    numbers = list(range(count))
    source.shuffle(numbers)
    mates = [None] * count
    links = [[] for _ in numbers]
    share = source.choice((0.1, 0.2, 0.3))
    for a, b in itertools.combinations(range(count), 2):
        paired = a // 2 == b // 2 and a >= 2
        a, b = numbers[a], numbers[b]
        if paired:
            mates[a] = b
            mates[b] = a
        if paired or source.random() < share:
            links[a].append(b)
            links[b].append(a)
    for row in links:
        source.shuffle(row)
    return links, mates, numbers[0], numbers[1]


def path_graph(count):
    """Nodes in a row, of which the first and the last are lone."""
    links = [[other for other in (node - 1, node + 1) if 0 <= other < count] for node in range(count)]
    mates = [None] + [node + 1 if node % 2 else node - 1 for node in range(1, count - 1)] + [None]
    return links, mates


class Pairing(unittest.TestCase):
    def test_two_nodes(self):
        self.assertTrue(can_pair_all([[1], [0]], [None, None], 0, 1))
        self.assertFalse(can_pair_all([[], []], [None, None], 0, 1))

    def test_through_an_odd_ring(self):
        # 0 - 1 = 2 - 3 = 4 - 2, and 5 at 3 or at 4: the ring is gone round the one way or the other.
        for door in (3, 4):
            links = [[1], [0, 2], [1, 3, 4], [2, 4], [2, 3], [door]]
            links[door].append(5)
            self.assertTrue(can_pair_all(links, [None, 2, 1, 4, 3, None], 0, 5))
            self.assertTrue(can_pair_all(links, [None, 2, 1, 4, 3, None], 5, 0))

    def test_by_brute_force(self):
        source = random.Random(4)
        seen = {True: 0, False: 0}
        for _ in range(20000):
            links, mates, start, goal = drawn(source)
            told = can_pair(links, list(range(len(links))))
            self.assertEqual(can_pair_all(links, mates, start, goal), told, (links, mates, start, goal))
            seen[told] += 1
        self.assertGreater(min(seen.values()), 1000)

    def test_long_way(self):
        links, mates = path_graph(5000)
        self.assertTrue(can_pair_all(links, mates, 0, 4999))

    def test_handed_in_stays(self):
        links, mates = path_graph(8)
        copies = [list(row) for row in links], list(mates)
        can_pair_all(links, mates, 0, 7)
        self.assertEqual((links, mates), copies)


if __name__ == "__main__":
    unittest.main()
