import itertools
import unittest

import samples
from seenonway.nets import apart, classes, distance, exits, least, seen, two, walk

LONG_WORDS = ([0] * 31, [1] * 31, [0] * 32, [1] * 32, [samples.GREATEST] * 32)


class NoNet(unittest.TestCase):
    def test_each_way_to_be_no_net(self):
        for why, (n, net) in samples.NO_NETS.items():
            with self.subTest(why):
                self.assertEqual(exits(n, 0, net), [-22])
                self.assertEqual(walk(n, 0, net, []), [-22])
                self.assertEqual(walk(n, 0, net, [1, 0]), [-22])
                self.assertEqual(seen(n, 0, net, []), [-22])
                self.assertEqual(seen(n, 0, net, [1, 0]), [-22])
                self.assertEqual(apart(n, 0, 0, net), [-22])
                self.assertEqual(apart(n, 0, 1, net), [-22])
                self.assertEqual(classes(n, net), [-22])
                self.assertEqual(distance(n, 0, 0, net), [-22])
                self.assertEqual(distance(n, 0, 1, net), [-22])
                self.assertEqual(least(n, net), [-22])

    def test_numbers_of_places(self):
        chain = [0, 1, 1, 2, 2, 3, 3, 4, 4, 5, 5, 6, 6, 7, 7, 8]
        for n in range(10):
            net = chain[:max(0, 2 * (n - 1))]
            good = 1 <= n <= 7
            self.assertEqual(exits(n, 0, net)[0] != -22, good, n)
            self.assertEqual(walk(n, 0, net, []), [1, 0] if good else [-22], n)
            self.assertEqual(seen(n, 0, net, []), [1, min(1, n - 1)] if good else [-22], n)
            self.assertEqual(apart(n, 0, 0, net), [-6] if good else [-22], n)
            self.assertEqual(classes(n, net)[0], n if good else -22, n)
            self.assertEqual(distance(n, 0, max(n - 1, 0), net), [n - 1] if good else [-22], n)
            self.assertEqual(least(n, net) != [-22], good, n)
            self.assertEqual(two(n, 1, 0, 0, net, []) != [-22], good, n)
            self.assertEqual(two(1, n, 0, 0, [], net) != [-22], good, n)

    def test_ten_links_are_a_net_and_eleven_are_not(self):
        self.assertEqual(exits(7, 0, samples.SEVEN[1])[0], 3)
        self.assertEqual(exits(7, 0, samples.ELEVEN_LINKS), [-22])
        self.assertEqual(walk(7, 4, samples.SEVEN[1], [1]), [2, 4, 3])
        self.assertEqual(walk(7, 4, samples.ELEVEN_LINKS, [1]), [-22])
        self.assertEqual(seen(7, 4, samples.SEVEN[1], [1]), [3, 2, 2, 3])
        self.assertEqual(seen(7, 4, samples.ELEVEN_LINKS, [1]), [-22])
        self.assertEqual(apart(7, 4, 5, samples.SEVEN[1]), [0])
        self.assertEqual(apart(7, 4, 5, samples.ELEVEN_LINKS), [-22])
        self.assertEqual(classes(7, samples.SEVEN[1])[0], 7)
        self.assertEqual(classes(7, samples.ELEVEN_LINKS), [-22])
        self.assertEqual(distance(7, 0, 2, samples.SEVEN[1]), [2])
        self.assertEqual(distance(7, 0, 2, samples.ELEVEN_LINKS), [-22])
        self.assertEqual(least(7, samples.SEVEN[1])[0], 7)
        self.assertEqual(least(7, samples.ELEVEN_LINKS), [-22])
        self.assertEqual(two(7, 7, 4, 4, samples.SEVEN[1], samples.SEVEN[1]), [-6])
        self.assertEqual(two(7, 7, 4, 4, samples.ELEVEN_LINKS, samples.SEVEN[1]), [-22])
        self.assertEqual(two(7, 7, 4, 4, samples.SEVEN[1], samples.ELEVEN_LINKS), [-22])

    def test_all_short_lists_by_the_words(self):
        for n in range(5):
            for size in range(7):
                for net in map(list, itertools.product(range(4), repeat=size)):
                    good = samples.is_net_by_words(n, net)
                    self.assertEqual(exits(n, 0, net) != [-22], good, (n, net))
                    self.assertEqual(walk(n, 0, net, []), [1, 0] if good else [-22], (n, net))
                    self.assertEqual(seen(n, 0, net, []) != [-22], good, (n, net))
                    self.assertEqual(apart(n, 0, 0, net), [-6] if good else [-22], (n, net))
                    self.assertEqual(classes(n, net)[:2], [n, 0] if good else [-22], (n, net))
                    self.assertEqual(distance(n, 0, 0, net), [0] if good else [-22], (n, net))
                    self.assertEqual(least(n, net) != [-22], good, (n, net))
                    self.assertEqual(two(n, 2, 0, 0, net, [0, 1]) != [-22], good, (n, net))
                    self.assertEqual(two(2, n, 0, 0, [0, 1], net) != [-22], good, (n, net))

    def test_every_set_of_four_and_five_links_among_five_places(self):
        possible = list(itertools.combinations(range(5), 2))
        for size in (4, 5):
            for links in itertools.combinations(possible, size):
                net = list(itertools.chain.from_iterable(links))
                good = samples.is_net_by_words(5, net)
                self.assertEqual(exits(5, 0, net) != [-22], good, net)
                self.assertEqual(classes(5, net) != [-22], good, net)
                self.assertEqual(distance(5, 0, 4, net) != [-22], good, net)
                self.assertEqual(least(5, net) != [-22], good, net)


class NoNetOfTwo(unittest.TestCase):
    def test_first_or_second_or_both(self):
        for why, (n, net) in samples.NO_NETS.items():
            with self.subTest(why):
                for m, second in samples.ORDINARY:
                    self.assertEqual(two(n, m, 0, 0, net, second), [-22])
                    self.assertEqual(two(m, n, 0, 0, second, net), [-22])
                for m, second in samples.NO_NETS.values():
                    self.assertEqual(two(n, m, 0, 0, net, second), [-22])

    def test_n_belongs_to_net_and_m_to_second(self):
        for (n, net), (m, second) in itertools.permutations(samples.ORDINARY, 2):
            if n != m:
                self.assertNotEqual(two(n, m, 0, 0, net, second), [-22])
                self.assertEqual(two(m, n, 0, 0, net, second), [-22])


class NoPlace(unittest.TestCase):
    def places_beyond(self, n):
        return [u for u in (n, n + 1, 7, 8, 2 ** 31, samples.GREATEST) if u >= n]

    def test_place_of_the_first_or_of_the_second_or_both(self):
        for (n, net), (m, second) in itertools.product(samples.ORDINARY, repeat=2):
            for beyond in self.places_beyond(n):
                for place in range(m):
                    self.assertEqual(two(n, m, beyond, place, net, second), [-2])
                self.assertEqual(two(n, m, beyond, m, net, second), [-2])
            for beyond in self.places_beyond(m):
                for place in range(n):
                    self.assertEqual(two(n, m, place, beyond, net, second), [-2])
                self.assertEqual(two(n, m, n, beyond, net, second), [-2])

    def test_place_such_as_only_the_other_net_has(self):
        for (n, net), (m, second) in itertools.product(samples.ORDINARY, repeat=2):
            for place in range(n, m):
                self.assertEqual(two(n, m, place, 0, net, second), [-2])
                self.assertEqual(two(n, m, place, place, net, second), [-2])
                self.assertEqual(two(m, n, 0, place, second, net), [-2])
                self.assertEqual(two(m, n, place, place, second, net), [-2])
                self.assertNotEqual(two(n, m, 0, place, net, second), [-2])
                self.assertNotEqual(two(m, n, place, 0, second, net), [-2])

    def test_place_that_there_is_not(self):
        for n, net in samples.ORDINARY:
            for u in self.places_beyond(n):
                self.assertEqual(exits(n, u, net), [-2])
                self.assertEqual(walk(n, u, net, []), [-2])
                self.assertEqual(walk(n, u, net, [1]), [-2])
                self.assertEqual(seen(n, u, net, []), [-2])
                self.assertEqual(seen(n, u, net, [1]), [-2])

    def test_one_of_two_places_or_both(self):
        for n, net in samples.ORDINARY:
            for beyond in self.places_beyond(n):
                for function in (apart, distance):
                    for place in range(n):
                        self.assertEqual(function(n, beyond, place, net), [-2])
                        self.assertEqual(function(n, place, beyond, net), [-2])
                    self.assertEqual(function(n, beyond, beyond, net), [-2])
                    self.assertEqual(function(n, beyond, n, net), [-2])


class LongWord(unittest.TestCase):
    def test_31_and_32_letters(self):
        for n, net in samples.ORDINARY:
            for u in range(n):
                for word in LONG_WORDS:
                    self.assertEqual(walk(n, u, net, word), [-22])
                    self.assertEqual(seen(n, u, net, word), [-22])
                self.assertEqual(walk(n, u, net, [0] * 30), [31] + [u] * 31)
                self.assertEqual(seen(n, u, net, [0] * 30)[0], 61)


class SeveralAreDue(unittest.TestCase):
    def test_no_net_is_told_ahead_of_no_place(self):
        for n, net in samples.NO_NETS.values():
            for u in (n, samples.GREATEST):
                self.assertEqual(exits(n, u, net), [-22])
                self.assertEqual(walk(n, u, net, [1]), [-22])
                self.assertEqual(seen(n, u, net, [1]), [-22])
                for function in (apart, distance):
                    self.assertEqual(function(n, u, 0, net), [-22])
                    self.assertEqual(function(n, 0, u, net), [-22])
                    self.assertEqual(function(n, u, u, net), [-22])

    def test_no_net_of_two_is_told_ahead_of_no_place_of_either(self):
        for n, net in samples.NO_NETS.values():
            for m, second in samples.ORDINARY:
                for u, v in itertools.product((0, n, samples.GREATEST), (0, m, samples.GREATEST)):
                    self.assertEqual(two(n, m, u, v, net, second), [-22])
                    self.assertEqual(two(m, n, v, u, second, net), [-22])

    def test_no_place_is_told_ahead_of_a_long_word(self):
        for n, net in samples.ORDINARY:
            for word in LONG_WORDS:
                self.assertEqual(walk(n, n, net, word), [-2])
                self.assertEqual(walk(n, samples.GREATEST, net, word), [-2])
                self.assertEqual(seen(n, n, net, word), [-2])
                self.assertEqual(seen(n, samples.GREATEST, net, word), [-2])

    def test_no_net_with_a_long_word_and_with_all(self):
        for n, net in samples.NO_NETS.values():
            for word in LONG_WORDS:
                self.assertEqual(walk(n, 0, net, word), [-22])
                self.assertEqual(walk(n, samples.GREATEST, net, word), [-22])
                self.assertEqual(seen(n, 0, net, word), [-22])
                self.assertEqual(seen(n, samples.GREATEST, net, word), [-22])


if __name__ == "__main__":
    unittest.main()
