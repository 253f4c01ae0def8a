import itertools
import unittest

import samples
from seenonway.nets import exits, seen


class OrdinaryNets(unittest.TestCase):
    def test_single_link(self):
        n, net = samples.LINK
        self.assertEqual(seen(n, 0, net, [1]), [3, 1, 1, 1])
        self.assertEqual(seen(n, 1, net, [1, 1, 0, 1]), [9, 1, 1, 1, 1, 1, 0, 1, 1, 1])

    def test_chain(self):
        n, net = samples.CHAIN
        self.assertEqual(seen(n, 0, net, [1, 2, 2]), [7, 1, 1, 2, 1, 2, 1, 1])
        self.assertEqual(seen(n, 1, net, [2, 1, 1]), [7, 2, 1, 2, 2, 2, 1, 1])
        self.assertEqual(seen(n, 2, net, [2, 2, 1]), [7, 2, 1, 1, 0, 1, 2, 2])
        self.assertEqual(seen(n, 3, net, [1, 1, 1]), [7, 1, 2, 2, 2, 2, 1, 1])

    def test_ring(self):
        n, net = samples.RING
        self.assertEqual(seen(n, 0, net, [1, 2, 2, 2]), [9, 2, 1, 2, 1, 2, 1, 2, 2, 2])
        self.assertEqual([seen(n, u, net, [1, 1]) for u in range(n)], [
            [5, 2, 1, 2, 1, 2],
            [5, 2, 1, 2, 1, 2],
            [5, 2, 2, 2, 1, 2],
            [5, 2, 2, 2, 2, 2],
        ])

    def test_star(self):
        n, net = samples.STAR
        self.assertEqual(seen(n, 0, net, [3, 1, 4, 1, 1]), [11, 4, 1, 1, 3, 4, 1, 1, 4, 4, 1, 1])
        for u in range(1, n):
            self.assertEqual(seen(n, u, net, [1]), [3, 1, u, 4])

    def test_seven_places_with_ten_links_from_each_place(self):
        n, net = samples.SEVEN
        self.assertEqual([seen(n, u, net, [3, 1, 2]) for u in range(n)], [
            [7, 3, 3, 3, 2, 3, 1, 3],
            [7, 3, 3, 3, 2, 2, 1, 3],
            [7, 3, 3, 3, 2, 3, 1, 3],
            [7, 3, 3, 3, 1, 3, 1, 3],
            [7, 2, 0, 2, 2, 3, 1, 2],
            [7, 3, 3, 3, 1, 3, 2, 3],
            [7, 3, 3, 3, 2, 3, 1, 3],
        ])

    def test_exits_told_in_another_order(self):
        self.assertEqual(seen(3, 0, [0, 1, 1, 2], [1]), [3, 1, 1, 2])
        self.assertEqual(seen(3, 0, [1, 2, 0, 1], [1]), [3, 1, 2, 2])
        self.assertEqual(seen(4, 0, [2, 3, 1, 2, 0, 1], [1, 1, 1]), [7, 1, 2, 2, 2, 2, 1, 1])

    def test_the_same_from_all_places_of_a_ring_of_alike_ones(self):
        n, net = samples.ALL_ALIKE_RING
        for u in range(n):
            self.assertEqual(seen(n, u, net, [1, 1, 2, 0, 2]), [11, 2, 1, 2, 1, 2, 2, 2, 0, 2, 2, 2])


class Edges(unittest.TestCase):
    def test_one_place(self):
        self.assertEqual(seen(1, 0, [], []), [1, 0])
        self.assertEqual(seen(1, 0, [], [0, 1, samples.GREATEST]), [7, 0, 0, 0, 0, 0, 0, 0])

    def test_place_with_one_exit(self):
        self.assertEqual(seen(3, 2, [0, 1, 1, 2], [1]), [3, 1, 2, 2])
        self.assertEqual(seen(3, 2, [0, 1, 1, 2], [2]), [3, 1, 0, 1])

    def test_letter_for_an_exit_that_there_is_not(self):
        for n, net in samples.ORDINARY:
            for u in range(n):
                count = exits(n, u, net)[0]
                for letter in (count + 1, count + 2, 8, 31, 2 ** 31, samples.GREATEST):
                    self.assertEqual(seen(n, u, net, [letter]), [3, count, 0, count])
                if count:
                    place, entry = exits(n, u, net)[-2:]
                    there = exits(n, place, net)[0]
                    self.assertEqual(seen(n, u, net, [count]), [3, count, entry + 1, there])

    def test_goes_on_behind_a_letter_without_an_exit(self):
        n, net = samples.CHAIN
        word = [2, 1, 3, 2, samples.GREATEST, 2]
        self.assertEqual(seen(n, 0, net, word), [13, 1, 0, 1, 1, 2, 0, 2, 1, 2, 0, 2, 1, 1])

    def test_letter_0_stays(self):
        for n, net in samples.ORDINARY:
            for u in range(n):
                count = exits(n, u, net)[0]
                self.assertEqual(seen(n, u, net, [0]), [3, count, 0, count])
        self.assertEqual(seen(3, 0, [0, 1, 1, 2], [0, 1, 0, 2, 0]), [11, 1, 0, 1, 1, 2, 0, 2, 1, 1, 0, 1])

    def test_empty_word(self):
        for n, net in samples.ORDINARY:
            for u in range(n):
                self.assertEqual(seen(n, u, net, []), [1, exits(n, u, net)[0]])

    def test_word_of_30_letters(self):
        self.assertEqual(seen(2, 0, [0, 1], [1] * 30), [61, 1] + [1, 1] * 30)
        self.assertEqual(seen(2, 1, [0, 1], [0] * 30), [61, 1] + [0, 1] * 30)
        self.assertEqual(seen(2, 1, [0, 1], [samples.GREATEST] * 30), [61, 1] + [0, 1] * 30)
        self.assertEqual(seen(3, 0, [0, 1, 1, 2], [1] * 30), [61, 1] + [1, 2, 1, 1] * 15)


class ByTheWords(unittest.TestCase):
    def check(self, n, u, net, word):
        numbers = samples.seen_by_words(net, u, word)
        self.assertEqual(seen(n, u, net, word), [len(numbers)] + numbers, (n, u, net, word))

    def test_short_words_on_small_nets(self):
        for n, net in samples.small_nets():
            for u in range(n):
                for word in itertools.product(range(5), repeat=2):
                    self.check(n, u, net, list(word))

    def test_long_words_on_ordinary_nets(self):
        for n, net in samples.ORDINARY + samples.SPECIAL:
            for u in range(n):
                for stride in range(1, 8):
                    self.check(n, u, net, [k * k * stride % 5 for k in range(30)])

    def test_the_beginning_of_a_word_shows_the_beginning(self):
        n, net = samples.SEVEN
        word = [k * k % 5 for k in range(30)]
        for u in range(n):
            whole = seen(n, u, net, word)[1:]
            for size in range(31):
                self.assertEqual(seen(n, u, net, word[:size]), [1 + 2 * size] + whole[:1 + 2 * size])

    def test_places_have_no_names(self):
        word = [3, 1, 2, 0, 9, 2, 3]
        for n, net in samples.ORDINARY + samples.SPECIAL:
            renamed = [n - 1 - place for place in net]
            for u in range(n):
                self.assertEqual(seen(n, n - 1 - u, renamed, word), seen(n, u, net, word))


if __name__ == "__main__":
    unittest.main()
