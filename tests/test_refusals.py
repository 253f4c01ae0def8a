import itertools
import unittest

import samples
from seenonway.nets import apart, classes, distance, exits, seen, walk

LONG_WORDS = ([0] * 31, [1] * 31, [0] * 32, [1] * 32, [samples.GREATEST] * 32)


class NoNet(unittest.TestCase):
    def test_each_way_to_be_no_net(self):
        for why, (n, net) in samples.NO_NETS.items():
            with self.subTest(why):
                self.assertEqual(exits(n, 0, net), [-22])
                self.assertEqual(walk(n, 0, net, []), [-22])
                self.assertEqual(walk(n, 0, net, [1, 0]), [-22])
                self.assertEqual(seen(n, 0, net, []), [-22])
                self.assertEqual(seen(n, 0, net, [1, 0]), [-22])
                self.assertEqual(apart(n, 0, 0, net), [-22])
                self.assertEqual(apart(n, 0, 1, net), [-22])
                self.assertEqual(classes(n, net), [-22])
                self.assertEqual(distance(n, 0, 0, net), [-22])
                self.assertEqual(distance(n, 0, 1, net), [-22])

    def test_numbers_of_places(self):
        chain = [0, 1, 1, 2, 2, 3, 3, 4, 4, 5, 5, 6, 6, 7, 7, 8]
        for n in range(10):
            net = chain[:max(0, 2 * (n - 1))]
            good = 1 <= n <= 7
            self.assertEqual(exits(n, 0, net)[0] != -22, good, n)
            self.assertEqual(walk(n, 0, net, []), [1, 0] if good else [-22], n)
            self.assertEqual(seen(n, 0, net, []), [1, min(1, n - 1)] if good else [-22], n)
            self.assertEqual(apart(n, 0, 0, net), [-6] if good else [-22], n)
            self.assertEqual(classes(n, net)[0], n if good else -22, n)
            self.assertEqual(distance(n, 0, max(n - 1, 0), net), [n - 1] if good else [-22], n)

    def test_ten_links_are_a_net_and_eleven_are_not(self):
        self.assertEqual(exits(7, 0, samples.SEVEN[1])[0], 3)
        self.assertEqual(exits(7, 0, samples.ELEVEN_LINKS), [-22])
        self.assertEqual(walk(7, 4, samples.SEVEN[1], [1]), [2, 4, 3])
        self.assertEqual(walk(7, 4, samples.ELEVEN_LINKS, [1]), [-22])
        self.assertEqual(seen(7, 4, samples.SEVEN[1], [1]), [3, 2, 2, 3])
        self.assertEqual(seen(7, 4, samples.ELEVEN_LINKS, [1]), [-22])
        self.assertEqual(apart(7, 4, 5, samples.SEVEN[1]), [0])
        self.assertEqual(apart(7, 4, 5, samples.ELEVEN_LINKS), [-22])
        self.assertEqual(classes(7, samples.SEVEN[1])[0], 7)
        self.assertEqual(classes(7, samples.ELEVEN_LINKS), [-22])
        self.assertEqual(distance(7, 0, 2, samples.SEVEN[1]), [2])
        self.assertEqual(distance(7, 0, 2, samples.ELEVEN_LINKS), [-22])

    def test_all_short_lists_by_the_words(self):
        for n in range(5):
            for size in range(7):
                for net in map(list, itertools.product(range(4), repeat=size)):
                    good = samples.is_net_by_words(n, net)
                    self.assertEqual(exits(n, 0, net) != [-22], good, (n, net))
                    self.assertEqual(walk(n, 0, net, []), [1, 0] if good else [-22], (n, net))
                    self.assertEqual(seen(n, 0, net, []) != [-22], good, (n, net))
                    self.assertEqual(apart(n, 0, 0, net), [-6] if good else [-22], (n, net))
                    self.assertEqual(classes(n, net)[:2], [n, 0] if good else [-22], (n, net))
                    self.assertEqual(distance(n, 0, 0, net), [0] if good else [-22], (n, net))

    def test_every_set_of_four_and_five_links_among_five_places(self):
        possible = list(itertools.combinations(range(5), 2))
        for size in (4, 5):
            for links in itertools.combinations(possible, size):
                net = list(itertools.chain.from_iterable(links))
                good = samples.is_net_by_words(5, net)
                self.assertEqual(exits(5, 0, net) != [-22], good, net)
                self.assertEqual(classes(5, net) != [-22], good, net)
                self.assertEqual(distance(5, 0, 4, net) != [-22], good, net)


class NoPlace(unittest.TestCase):
    def places_beyond(self, n):
        return [u for u in (n, n + 1, 7, 8, 2 ** 31, samples.GREATEST) if u >= n]

    def test_place_that_there_is_not(self):
        for n, net in samples.ORDINARY:
            for u in self.places_beyond(n):
                self.assertEqual(exits(n, u, net), [-2])
                self.assertEqual(walk(n, u, net, []), [-2])
                self.assertEqual(walk(n, u, net, [1]), [-2])
                self.assertEqual(seen(n, u, net, []), [-2])
                self.assertEqual(seen(n, u, net, [1]), [-2])

    def test_one_of_two_places_or_both(self):
        for n, net in samples.ORDINARY:
            for beyond in self.places_beyond(n):
                for function in (apart, distance):
                    for place in range(n):
                        self.assertEqual(function(n, beyond, place, net), [-2])
                        self.assertEqual(function(n, place, beyond, net), [-2])
                    self.assertEqual(function(n, beyond, beyond, net), [-2])
                    self.assertEqual(function(n, beyond, n, net), [-2])


class LongWord(unittest.TestCase):
    def test_31_and_32_letters(self):
        for n, net in samples.ORDINARY:
            for u in range(n):
                for word in LONG_WORDS:
                    self.assertEqual(walk(n, u, net, word), [-22])
                    self.assertEqual(seen(n, u, net, word), [-22])
                self.assertEqual(walk(n, u, net, [0] * 30), [31] + [u] * 31)
                self.assertEqual(seen(n, u, net, [0] * 30)[0], 61)


class SeveralAreDue(unittest.TestCase):
    def test_no_net_is_told_ahead_of_no_place(self):
        for n, net in samples.NO_NETS.values():
            for u in (n, samples.GREATEST):
                self.assertEqual(exits(n, u, net), [-22])
                self.assertEqual(walk(n, u, net, [1]), [-22])
                self.assertEqual(seen(n, u, net, [1]), [-22])
                for function in (apart, distance):
                    self.assertEqual(function(n, u, 0, net), [-22])
                    self.assertEqual(function(n, 0, u, net), [-22])
                    self.assertEqual(function(n, u, u, net), [-22])

    def test_no_place_is_told_ahead_of_a_long_word(self):
        for n, net in samples.ORDINARY:
            for word in LONG_WORDS:
                self.assertEqual(walk(n, n, net, word), [-2])
                self.assertEqual(walk(n, samples.GREATEST, net, word), [-2])
                self.assertEqual(seen(n, n, net, word), [-2])
                self.assertEqual(seen(n, samples.GREATEST, net, word), [-2])

    def test_no_net_with_a_long_word_and_with_all(self):
        for n, net in samples.NO_NETS.values():
            for word in LONG_WORDS:
                self.assertEqual(walk(n, 0, net, word), [-22])
                self.assertEqual(walk(n, samples.GREATEST, net, word), [-22])
                self.assertEqual(seen(n, 0, net, word), [-22])
                self.assertEqual(seen(n, samples.GREATEST, net, word), [-22])


if __name__ == "__main__":
    unittest.main()
