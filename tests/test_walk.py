import itertools
import unittest

import samples
from seenonway.nets import exits, walk


class OrdinaryNets(unittest.TestCase):
    def test_single_link(self):
        n, net = samples.LINK
        self.assertEqual(walk(n, 0, net, [1]), [2, 0, 1])
        self.assertEqual(walk(n, 1, net, [1, 1, 0, 1]), [5, 1, 0, 1, 1, 0])

    def test_chain(self):
        n, net = samples.CHAIN
        self.assertEqual(walk(n, 0, net, [1, 2, 2]), [4, 0, 1, 2, 3])
        self.assertEqual(walk(n, 3, net, [1, 1, 1]), [4, 3, 2, 1, 0])
        self.assertEqual(walk(n, 1, net, [2, 1, 1]), [4, 1, 2, 1, 0])
        self.assertEqual(walk(n, 2, net, [2, 2, 1]), [4, 2, 3, 3, 2])

    def test_ring(self):
        n, net = samples.RING
        self.assertEqual(walk(n, 0, net, [1, 2, 2, 2]), [5, 0, 1, 2, 3, 0])
        self.assertEqual(walk(n, 0, net, [2, 1, 1, 1]), [5, 0, 3, 2, 1, 0])
        self.assertEqual(walk(n, 2, net, [2, 2, 2]), [4, 2, 3, 0, 3])

    def test_star(self):
        n, net = samples.STAR
        self.assertEqual(walk(n, 0, net, [3, 1, 4, 1, 1]), [6, 0, 3, 0, 4, 0, 1])
        self.assertEqual(walk(n, 2, net, [1, 2]), [3, 2, 0, 2])

    def test_seven_places_with_ten_links_from_each_place(self):
        n, net = samples.SEVEN
        self.assertEqual([walk(n, u, net, [3, 1, 2]) for u in range(n)], [
            [4, 0, 3, 2, 3],
            [4, 1, 5, 4, 5],
            [4, 2, 6, 5, 6],
            [4, 3, 0, 1, 2],
            [4, 4, 4, 3, 4],
            [4, 5, 1, 0, 6],
            [4, 6, 2, 1, 2],
        ])

    def test_exits_told_in_another_order(self):
        self.assertEqual(walk(3, 1, [0, 1, 1, 2], [1]), [2, 1, 0])
        self.assertEqual(walk(3, 1, [1, 2, 0, 1], [1]), [2, 1, 2])
        self.assertEqual(walk(4, 0, [2, 3, 1, 2, 0, 1], [1, 1, 1]), [4, 0, 1, 2, 3])


class Edges(unittest.TestCase):
    def test_one_place(self):
        self.assertEqual(walk(1, 0, [], []), [1, 0])
        self.assertEqual(walk(1, 0, [], [0, 1, 2, samples.GREATEST]), [5, 0, 0, 0, 0, 0])

    def test_place_with_one_exit(self):
        self.assertEqual(walk(3, 2, [0, 1, 1, 2], [1]), [2, 2, 1])
        self.assertEqual(walk(3, 2, [0, 1, 1, 2], [2]), [2, 2, 2])

    def test_letter_for_an_exit_that_there_is_not(self):
        for n, net in samples.ORDINARY:
            for u in range(n):
                count = exits(n, u, net)[0]
                for letter in (count + 1, count + 2, 8, 31, 2 ** 31, samples.GREATEST):
                    self.assertEqual(walk(n, u, net, [letter]), [2, u, u])
                if count:
                    last = exits(n, u, net)[-2]
                    self.assertEqual(walk(n, u, net, [count]), [2, u, last])

    def test_goes_on_behind_a_letter_without_an_exit(self):
        n, net = samples.CHAIN
        self.assertEqual(walk(n, 0, net, [2, 1, 3, 2, samples.GREATEST, 2]), [7, 0, 0, 1, 1, 2, 2, 3])

    def test_letter_0_stays(self):
        for n, net in samples.ORDINARY:
            for u in range(n):
                self.assertEqual(walk(n, u, net, [0]), [2, u, u])
        self.assertEqual(walk(3, 0, [0, 1, 1, 2], [0, 1, 0, 2, 0]), [6, 0, 0, 1, 1, 2, 2])

    def test_empty_word(self):
        for n, net in samples.ORDINARY:
            for u in range(n):
                self.assertEqual(walk(n, u, net, []), [1, u])

    def test_word_of_30_letters(self):
        self.assertEqual(walk(2, 0, [0, 1], [1] * 30), [31] + [0, 1] * 15 + [0])
        self.assertEqual(walk(2, 1, [0, 1], [0] * 30), [31] + [1] * 31)
        self.assertEqual(walk(2, 1, [0, 1], [samples.GREATEST] * 30), [31] + [1] * 31)


class ByTheWords(unittest.TestCase):
    def check(self, n, u, net, word):
        places = samples.walk_by_words(net, u, word)
        self.assertEqual(walk(n, u, net, word), [len(places)] + places, (n, u, net, word))

    def test_short_words_on_small_nets(self):
        for n, net in samples.small_nets():
            for u in range(n):
                for word in itertools.product(range(4), repeat=2):
                    self.check(n, u, net, list(word))

    def test_long_words_on_ordinary_nets(self):
        for n, net in samples.ORDINARY:
            for u in range(n):
                for stride in range(1, 8):
                    self.check(n, u, net, [k * k * stride % 5 for k in range(30)])

    def test_back_by_the_exit_by_which_one_came_in(self):
        for n, net in samples.ORDINARY:
            for u in range(n):
                answer = exits(n, u, net)
                for e in range(answer[0]):
                    place, entry = answer[1 + 2 * e:3 + 2 * e]
                    self.assertEqual(walk(n, u, net, [e + 1, entry + 1]), [3, u, place, u])


if __name__ == "__main__":
    unittest.main()
