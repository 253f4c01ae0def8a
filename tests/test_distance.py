import unittest

import samples
from seenonway.nets import distance, exits, walk


class Told(unittest.TestCase):
    def check(self, told, rows):
        n, net = told
        self.assertEqual([[distance(n, u, v, net) for v in range(n)] for u in range(n)],
                         [[[number] for number in row] for row in rows])


class OrdinaryNets(Told):
    def test_single_link(self):
        self.check(samples.LINK, [[0, 1], [1, 0]])

    def test_chain(self):
        self.check(samples.CHAIN, [
            [0, 1, 2, 3],
            [1, 0, 1, 2],
            [2, 1, 0, 1],
            [3, 2, 1, 0],
        ])

    def test_ring(self):
        self.check(samples.RING, [
            [0, 1, 2, 1],
            [1, 0, 1, 2],
            [2, 1, 0, 1],
            [1, 2, 1, 0],
        ])

    def test_star(self):
        self.check(samples.STAR, [
            [0, 1, 1, 1, 1],
            [1, 0, 2, 2, 2],
            [1, 2, 0, 2, 2],
            [1, 2, 2, 0, 2],
            [1, 2, 2, 2, 0],
        ])

    def test_seven_places_with_ten_links(self):
        self.check(samples.SEVEN, [
            [0, 1, 2, 1, 2, 2, 1],
            [1, 0, 1, 2, 2, 1, 2],
            [2, 1, 0, 1, 2, 2, 1],
            [1, 2, 1, 0, 1, 2, 2],
            [2, 2, 2, 1, 0, 1, 2],
            [2, 1, 2, 2, 1, 0, 1],
            [1, 2, 1, 2, 2, 1, 0],
        ])

    def test_each_place_linked_with_each(self):
        n = samples.FULL_FIVE[0]
        self.check(samples.FULL_FIVE, [[0 if u == v else 1 for v in range(n)] for u in range(n)])

    def test_chain_of_seven(self):
        n = samples.LATE_CHAIN[0]
        self.check(samples.LATE_CHAIN, [[abs(u - v) for v in range(n)] for u in range(n)])

    def test_ring_of_seven(self):
        n = samples.RING_OF_SEVEN[0]
        self.check(samples.RING_OF_SEVEN, [[min((u - v) % n, (v - u) % n) for v in range(n)] for u in range(n)])

    def test_a_link_across_makes_a_way_shorter(self):
        chain = [0, 1, 1, 2, 2, 3, 3, 4, 4, 5, 5, 6]
        self.assertEqual(distance(7, 0, 6, chain), [6])
        self.assertEqual(distance(7, 0, 6, chain + [1, 5]), [3])
        self.assertEqual(distance(7, 0, 6, [1, 5] + chain), [3])
        self.assertEqual(distance(7, 0, 6, chain + [6, 0]), [1])


class Edges(Told):
    def test_one_place(self):
        self.check(samples.ONE, [[0]])

    def test_alike_places_are_still_places_of_their_own(self):
        self.check(samples.ALL_ALIKE_RING, [
            [0, 1, 2, 1],
            [1, 0, 1, 2],
            [2, 1, 0, 1],
            [1, 2, 1, 0],
        ])
        self.assertEqual(distance(6, 0, 3, samples.ALL_ALIKE_RING_OF_SIX[1]), [3])
        self.assertEqual(distance(6, 0, 3, samples.OPPOSITE_ALIKE_RING[1]), [3])

    def test_places_with_one_exit(self):
        self.check((3, [0, 1, 1, 2]), [[0, 1, 2], [1, 0, 1], [2, 1, 0]])

    def test_exits_in_another_order_make_no_way_shorter(self):
        for n, net in samples.ORDINARY + samples.SPECIAL:
            links = samples.pairs(net)
            turned = [place for link in links[::-1] for place in link[::-1]]
            shifted = net[2:] + net[:2]
            for u, v in samples.all_pairs(n):
                self.assertEqual(distance(n, u, v, turned), distance(n, u, v, net))
                self.assertEqual(distance(n, u, v, shifted), distance(n, u, v, net))


class WhatHolds(unittest.TestCase):
    def test_0_only_from_a_place_to_itself(self):
        for n, net in samples.many_nets():
            for u, v in samples.all_pairs(n):
                self.assertEqual(distance(n, u, v, net) == [0], u == v, (n, u, v, net))

    def test_1_just_where_an_exit_leads_there(self):
        for n, net in samples.many_nets():
            for u in range(n):
                reached = exits(n, u, net)[1::2]
                for v in range(n):
                    self.assertEqual(distance(n, u, v, net) == [1], v in reached, (n, u, v, net))

    def test_the_same_both_ways_round(self):
        for n, net in samples.many_nets():
            for u, v in samples.all_pairs(n):
                self.assertEqual(distance(n, u, v, net), distance(n, v, u, net), (n, u, v, net))

    def test_always_fewer_steps_than_places(self):
        for n, net in samples.many_nets():
            for u, v in samples.all_pairs(n):
                self.assertIn(distance(n, u, v, net)[0], range(n), (n, u, v, net))

    def test_places_have_no_names(self):
        for n, net in samples.ORDINARY + samples.SPECIAL:
            renamed = [n - 1 - place for place in net]
            for u, v in samples.all_pairs(n):
                self.assertEqual(distance(n, n - 1 - u, n - 1 - v, renamed), distance(n, u, v, net))


class ByTheWords(unittest.TestCase):
    def shortest_walks(self, n, u, net, most, letters):
        """Of each place how many letters the shortest word has that leads there from u."""
        found = {}
        for word in samples.words_up_to(most, letters):
            found.setdefault(walk(n, u, net, word)[-1], len(word))
        return [found[v] for v in range(n)]

    def test_shortest_walks_on_small_nets(self):
        for n, net in samples.small_nets():
            for u in range(n):
                # Letters that stay are among these.
                shortest = self.shortest_walks(n, u, net, n - 1, range(n + 1))
                self.assertEqual([distance(n, u, v, net)[0] for v in range(n)], shortest, (n, u, net))

    def test_shortest_walks_on_chains_and_rings_of_six_and_seven(self):
        for n, net in (samples.OPPOSITE_ALIKE_RING, samples.RING_OF_SEVEN, samples.LATE_CHAIN):
            for u in range(n):
                shortest = self.shortest_walks(n, u, net, n - 1, (1, 2))
                self.assertEqual([distance(n, u, v, net)[0] for v in range(n)], shortest, (n, u, net))

    def test_shortest_walks_on_seven_places_with_ten_links(self):
        n, net = samples.SEVEN
        for u in range(n):
            shortest = self.shortest_walks(n, u, net, 4, (1, 2, 3))
            self.assertEqual([distance(n, u, v, net)[0] for v in range(n)], shortest, u)

    def test_against_ways_by_more_and_more_places(self):
        for n, net in samples.many_nets():
            rows = [[distance(n, u, v, net)[0] for v in range(n)] for u in range(n)]
            self.assertEqual(rows, samples.distances_by_words(n, net), (n, net))


if __name__ == "__main__":
    unittest.main()
