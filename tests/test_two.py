import itertools
import unittest

import samples
from seenonway.nets import apart, classes, seen, two, walk

ALIKE = -6
ALL_SAMPLES = samples.ORDINARY + samples.SPECIAL + samples.LATE_PAIRS + (samples.RING_OF_THREE,)


def places_of_both(n, m):
    return list(itertools.product(range(n), range(m)))


def sights(n, u, net, size, letters):
    """What is seen from u by every word of so many letters, without how many numbers these are."""
    return [seen(n, u, net, list(word))[1:] for word in itertools.product(letters, repeat=size)]


def first_difference(one, other):
    """By how few letters something else is seen, of two such lists of what is seen by the same words; else None."""
    # What is seen by the beginning of a word is the beginning of what is seen; behind k letters that's 1 + 2 * k.
    places = [next(k for k in range(len(a)) if a[k] != b[k]) for a, b in zip(one, other) if a != b]
    return (min(places) + 1) // 2 if places else None


class Told(unittest.TestCase):
    def check(self, told, second_told, rows):
        n, net = told
        m, second = second_told
        self.assertEqual([[two(n, m, u, v, net, second) for v in range(m)] for u in range(n)],
                         [[[number] for number in row] for row in rows])


class OrdinaryNets(Told):
    def test_single_link_and_chain(self):
        self.check(samples.LINK, samples.CHAIN, [[1, 0, 0, 1]] * 2)

    def test_single_link_and_star(self):
        self.check(samples.LINK, samples.STAR, [[0, 1, 1, 1, 1]] * 2)

    def test_chain_and_ring(self):
        self.check(samples.CHAIN, samples.RING, [
            [0, 0, 0, 0],
            [1, 1, 1, 1],
            [1, 1, 1, 1],
            [0, 0, 0, 0],
        ])

    def test_chain_and_star(self):
        self.check(samples.CHAIN, samples.STAR, [
            [0, 1, 1, 1, 1],
            [0, 0, 0, 0, 0],
            [0, 0, 0, 0, 0],
            [0, 1, 1, 1, 1],
        ])

    def test_ring_and_star(self):
        self.check(samples.RING, samples.STAR, [[0] * 5] * 4)

    def test_ring_and_seven_places_with_ten_links(self):
        # Only place 4 of the seven has two exits.
        self.check(samples.RING, samples.SEVEN, [[0, 0, 0, 0, 1, 0, 0]] * 4)

    def test_seven_places_with_ten_links_and_star(self):
        self.check(samples.SEVEN, samples.STAR, [[0] * 5] * 7)

    def test_rings_of_four_and_of_three(self):
        self.check(samples.RING, samples.RING_OF_THREE, [
            [3, 1, 1],
            [1, 2, 1],
            [1, 1, 1],
            [1, 1, 2],
        ])

    def test_chains_of_six_and_of_seven(self):
        # From 0 of both the same is seen up to the end of the shorter one, five steps on.
        self.check(samples.CHAIN_OF_SIX, samples.CHAIN_OF_SEVEN, [
            [5, 0, 0, 0, 0, 0, 1],
            [0, 4, 1, 1, 1, 1, 0],
            [0, 1, 3, 2, 2, 1, 0],
            [0, 1, 2, 2, 3, 1, 0],
            [0, 1, 1, 1, 1, 4, 0],
            [1, 0, 0, 0, 0, 0, 5],
        ])

    def test_rings_with_a_tail(self):
        # From the ends of both tails the same is seen until one has been round the shorter ring.
        self.check(samples.TAILED_RING_OF_SIX, samples.TAILED_RING_OF_SEVEN, [
            [1, 1, 1, 1, 4, 0, 0],
            [1, 2, 2, 3, 1, 0, 0],
            [1, 3, 2, 2, 1, 0, 0],
            [4, 1, 1, 1, 1, 0, 0],
            [0, 0, 0, 0, 0, 5, 0],
            [0, 0, 0, 0, 0, 0, 6],
        ])


class OtherOrders(Told):
    def test_chain_told_in_two_orders(self):
        self.check(samples.CHAIN, samples.MIRRORED_CHAIN, [
            [2, 0, 0, 2],
            [0, 1, 1, 0],
            [0, 1, 1, 0],
            [1, 0, 0, 1],
        ])
        # Told from its end, the chain is itself with its places the other way round.
        self.check(samples.CHAIN, (4, [2, 3, 1, 2, 0, 1]), [
            [1, 0, 0, -6],
            [0, 1, -6, 0],
            [0, -6, 1, 0],
            [-6, 0, 0, 1],
        ])

    def test_ring_told_in_two_orders(self):
        self.check(samples.RING, samples.ALL_ALIKE_RING, [[2] * 4, [1] * 4, [1] * 4, [1] * 4])

    def test_star_told_in_two_orders(self):
        self.check((3, [0, 1, 0, 2]), (3, [0, 2, 0, 1]), [[-6, 0, 0], [0, 1, -6], [0, -6, 1]])

    def test_direction_of_telling_does_not_matter(self):
        for n, net in ALL_SAMPLES:
            turned = [place for link in samples.pairs(net) for place in link[::-1]]
            for u in range(n):
                self.assertEqual(two(n, n, u, u, net, turned), [ALIKE])


class Edges(Told):
    def test_one_place(self):
        self.check(samples.ONE, samples.ONE, [[-6]])
        for m, second in ALL_SAMPLES:
            if m > 1:
                self.check(samples.ONE, (m, second), [[0] * m])
                self.check((m, second), samples.ONE, [[0]] * m)

    def test_two_single_links(self):
        self.check(samples.LINK, samples.LINK, [[-6, -6], [-6, -6]])

    def test_rings_of_which_all_places_are_alike(self):
        self.check(samples.ALL_ALIKE_RING, samples.ALL_ALIKE_RING_OF_SIX, [[-6] * 6] * 4)
        self.check(samples.ALL_ALIKE_RING_OF_SIX, samples.ALL_ALIKE_RING, [[-6] * 4] * 6)

    def test_ring_of_which_all_are_alike_and_one_of_which_none_are(self):
        self.check(samples.ALL_ALIKE_RING, samples.RING_OF_THREE, [[2, 1, 1]] * 4)

    def test_nets_with_three_exits_of_which_all_places_are_alike(self):
        self.check(samples.ALL_ALIKE_FOUR, samples.ALL_ALIKE_THREE_BY_THREE, [[-6] * 6] * 4)

    def test_places_with_one_exit(self):
        # From like ends one comes in by the same exit of a place with two exits; only one step on they differ.
        self.check((3, [0, 1, 1, 2]), samples.CHAIN, [[2, 0, 0, 1], [0, 1, 1, 0], [1, 0, 0, 2]])

    def test_nets_of_which_one_is_twice_the_other(self):
        self.check(samples.RING_OF_THREE, samples.OPPOSITE_ALIKE_RING, [
            [-6, 1, 1, -6, 1, 1],
            [1, -6, 1, 1, -6, 1],
            [1, 1, -6, 1, 1, -6],
        ])

    def test_nets_of_which_one_is_twice_the_other_in_every_order(self):
        # Of each link of the ring of three the two of the ring of six that stand for it.
        twice = {(0, 1): [0, 1, 3, 4], (1, 2): [1, 2, 4, 5], (2, 0): [2, 3, 5, 0]}
        for links in itertools.permutations(twice):
            net = list(itertools.chain.from_iterable(links))
            second = list(itertools.chain.from_iterable(twice[link] for link in links))
            self.assertEqual(classes(3, net), [3, 0, 1, 2])
            for u, v in places_of_both(3, 6):
                self.assertEqual(two(3, 6, u, v, net, second) == [ALIKE], v % 3 == u, (u, v, net, second))
                self.assertEqual(two(6, 3, v, u, second, net) == [ALIKE], v % 3 == u, (u, v, net, second))


class TheSameNetTwice(unittest.TestCase):
    def test_answers_as_apart_does(self):
        for n, net in samples.many_nets() + list(samples.LATE_PAIRS):
            for u, v in samples.all_pairs(n):
                self.assertEqual(two(n, n, u, v, net, list(net)), apart(n, u, v, net), (n, u, v, net))

    def test_the_very_same_list_twice(self):
        for n, net in ALL_SAMPLES:
            for u, v in samples.all_pairs(n):
                self.assertEqual(two(n, n, u, v, net, net), apart(n, u, v, net), (n, u, v, net))

    def test_the_same_net_with_other_numbers(self):
        for n, net in ALL_SAMPLES:
            renamed = [n - 1 - place for place in net]
            for u, v in samples.all_pairs(n):
                self.assertEqual(two(n, n, u, n - 1 - v, net, renamed), apart(n, u, v, net), (n, u, v, net))


class WhatHolds(unittest.TestCase):
    def check_by_words(self, told, most, letters):
        """Of each two of these nets: two held against seen by every word of at most so many letters."""
        shown = [[sights(n, u, net, most, letters) for u in range(n)] for n, net in told]
        for one, other in itertools.combinations_with_replacement(range(len(told)), 2):
            (n, net), (m, second) = told[one], told[other]
            for u, v in places_of_both(n, m):
                difference = first_difference(shown[one][u], shown[other][v])
                answer = two(n, m, u, v, net, second)
                self.assertEqual(answer, [ALIKE if difference is None else difference], (n, m, u, v, net, second))

    def test_a_by_every_word_of_four_letters_on_small_nets(self):
        self.check_by_words(samples.different_small_nets(), 4, (1, 2, 3))

    def test_a_with_letters_that_stay(self):
        told = samples.different_small_nets()
        self.check_by_words(told[::4] + [samples.MIRRORED_CHAIN, samples.ALL_ALIKE_RING], 4, range(5))

    def test_a_on_nets_that_take_many_steps(self):
        told = [samples.CHAIN_OF_SIX, samples.CHAIN_OF_SEVEN, samples.RING_OF_SEVEN, samples.LATE_CHAIN]
        self.check_by_words(told, 7, (1, 2))
        told = [samples.TAILED_RING_OF_SIX, samples.TAILED_RING_OF_SEVEN]
        self.check_by_words(told, 6, (1, 2, 3))

    def test_b_by_every_word_of_fewer_letters_than_both_nets_have_places(self):
        # With at most two exits a place, the other letters only stay.
        told = [(n, net) for n, net in samples.different_small_nets()
                if max(len(samples.exits_by_words(net, u)) for u in range(n)) <= 2]
        told += [samples.MIRRORED_CHAIN, samples.ALL_ALIKE_RING]
        self.assertEqual(max(n for n, net in told), 4)
        self.check_by_words(told, 4 + 4 - 1, (1, 2))

    def test_b_never_in_so_many_steps_as_both_nets_have_places(self):
        for (n, net), (m, second) in itertools.product(ALL_SAMPLES, repeat=2):
            for u, v in places_of_both(n, m):
                self.assertIn(two(n, m, u, v, net, second)[0], [ALIKE] + list(range(n + m)))

    def test_b_alike_places_show_the_same_by_long_words(self):
        for (n, net), (m, second) in itertools.product(ALL_SAMPLES, repeat=2):
            for u, v in places_of_both(n, m):
                if two(n, m, u, v, net, second) == [ALIKE]:
                    for stride in range(1, 8):
                        word = [k * k * stride % 5 for k in range(30)]
                        self.assertEqual(seen(n, u, net, word), seen(m, v, second, word))

    def test_c_alike_places_lead_by_like_letters_to_alike_ones(self):
        for (n, net), (m, second) in itertools.product(ALL_SAMPLES, repeat=2):
            for u, v in places_of_both(n, m):
                if two(n, m, u, v, net, second) == [ALIKE]:
                    for letter in (0, 1, 2, 3, 4, 5, samples.GREATEST):
                        after_u = walk(n, u, net, [letter])[-1]
                        after_v = walk(m, v, second, [letter])[-1]
                        self.assertEqual(two(n, m, after_u, after_v, net, second), [ALIKE])


class ByTheWords(unittest.TestCase):
    def check(self, told, second_told):
        n, net = told
        m, second = second_told
        for u, v in places_of_both(n, m):
            steps = samples.two_by_pairs(net, u, second, v)
            expected = [ALIKE if steps is None else steps]
            self.assertEqual(two(n, m, u, v, net, second), expected, (n, m, u, v, net, second))

    def test_against_walking_side_by_side(self):
        for told, second_told in itertools.product(ALL_SAMPLES, repeat=2):
            self.check(told, second_told)

    def test_small_nets_with_the_samples(self):
        for told, second_told in itertools.product(samples.different_small_nets()[::3], ALL_SAMPLES):
            self.check(told, second_told)

    def test_nets_in_another_order(self):
        reordered = list(samples.reordered_nets())
        for k, told in enumerate(reordered):
            self.check(told, reordered[(k * 5 + 1) % len(reordered)])

    def test_the_same_both_ways_round(self):
        for (n, net), (m, second) in itertools.product(ALL_SAMPLES, repeat=2):
            for u, v in places_of_both(n, m):
                self.assertEqual(two(n, m, u, v, net, second), two(m, n, v, u, second, net))


if __name__ == "__main__":
    unittest.main()
