import unittest

import samples
from seenonway.nets import exits


class OrdinaryNets(unittest.TestCase):
    def check(self, told, answers):
        n, net = told
        self.assertEqual([exits(n, u, net) for u in range(n)], answers)

    def test_single_link(self):
        self.check(samples.LINK, [[1, 1, 0], [1, 0, 0]])

    def test_chain(self):
        self.check(samples.CHAIN, [[1, 1, 0], [2, 0, 0, 2, 0], [2, 1, 1, 3, 0], [1, 2, 1]])

    def test_ring(self):
        self.check(samples.RING, [[2, 1, 0, 3, 1], [2, 0, 0, 2, 0], [2, 1, 1, 3, 0], [2, 2, 1, 0, 1]])

    def test_star(self):
        self.check(samples.STAR, [[4, 1, 0, 2, 0, 3, 0, 4, 0], [1, 0, 0], [1, 0, 1], [1, 0, 2], [1, 0, 3]])

    def test_seven_places_with_ten_links(self):
        self.check(samples.SEVEN, [
            [3, 1, 0, 6, 1, 3, 2],
            [3, 0, 0, 2, 0, 5, 2],
            [3, 1, 1, 3, 0, 6, 2],
            [3, 2, 1, 4, 0, 0, 2],
            [2, 3, 1, 5, 0],
            [3, 4, 1, 6, 0, 1, 2],
            [3, 5, 1, 0, 1, 2, 2],
        ])

    def test_direction_of_telling_does_not_matter(self):
        self.check((4, [1, 0, 2, 1, 3, 2, 0, 3]), [exits(4, u, samples.RING[1]) for u in range(4)])


class OtherOrders(unittest.TestCase):
    def test_chain_told_from_its_end(self):
        n, net = 4, [2, 3, 1, 2, 0, 1]
        self.assertEqual(exits(n, 0, net), [1, 1, 1])
        self.assertEqual(exits(n, 1, net), [2, 2, 1, 0, 0])
        self.assertEqual(exits(n, 2, net), [2, 3, 0, 1, 0])
        self.assertEqual(exits(n, 3, net), [1, 2, 0])

    def test_ring_told_in_another_order(self):
        n, net = 4, [0, 1, 2, 3, 1, 2, 3, 0]
        self.assertEqual(exits(n, 0, net), [2, 1, 0, 3, 1])
        self.assertEqual(exits(n, 1, net), [2, 0, 0, 2, 1])
        self.assertEqual(exits(n, 2, net), [2, 3, 0, 1, 1])
        self.assertEqual(exits(n, 3, net), [2, 2, 0, 0, 1])

    def test_star_told_backwards(self):
        n, net = 4, [0, 3, 0, 2, 0, 1]
        self.assertEqual(exits(n, 0, net), [3, 3, 0, 2, 0, 1, 0])
        self.assertEqual(exits(n, 1, net), [1, 0, 2])


class Edges(unittest.TestCase):
    def test_one_place(self):
        self.assertEqual(exits(1, 0, []), [0])

    def test_place_with_one_exit(self):
        self.assertEqual(exits(3, 2, [0, 1, 1, 2]), [1, 1, 1])

    def test_place_with_six_exits(self):
        net = [6, 0, 6, 1, 6, 2, 6, 3, 6, 4, 6, 5]
        self.assertEqual(exits(7, 6, net), [6, 0, 0, 1, 0, 2, 0, 3, 0, 4, 0, 5, 0])
        self.assertEqual(exits(7, 5, net), [1, 6, 5])

    def test_last_place_and_the_one_behind(self):
        self.assertEqual(exits(2, 1, [0, 1]), [1, 0, 0])
        self.assertEqual(exits(2, 2, [0, 1]), [-2])


class ByTheWords(unittest.TestCase):
    def test_against_the_words(self):
        for n, net in list(samples.small_nets()) + list(samples.ORDINARY):
            for u in range(n):
                found = samples.exits_by_words(net, u)
                expected = [len(found)] + [number for pair in found for number in pair]
                self.assertEqual(exits(n, u, net), expected, (n, u, net))

    def test_back_by_the_exit_by_which_one_came_in(self):
        for n, net in samples.ORDINARY:
            for u in range(n):
                answer = exits(n, u, net)
                for e in range(answer[0]):
                    place, entry = answer[1 + 2 * e:3 + 2 * e]
                    there = exits(n, place, net)
                    self.assertEqual(there[1 + 2 * entry:3 + 2 * entry], [u, e])


if __name__ == "__main__":
    unittest.main()
