import unittest

import samples
from seenonway.nets import apart, exits, seen, walk

ALIKE = -6


def alike_pairs(n, net):
    return [(u, v) for u, v in samples.all_pairs(n) if apart(n, u, v, net) == [ALIKE]]


def first_difference(n, net, u, v, most, letters):
    """By how few letters something else is seen from u than from v, by a word of at most so many; else None."""
    for word in samples.words_up_to(most, letters):
        if seen(n, u, net, word) != seen(n, v, net, word):
            return len(word)
    return None


class Told(unittest.TestCase):
    def check(self, told, rows):
        n, net = told
        for u, v in samples.all_pairs(n):
            self.assertEqual(apart(n, u, v, net), [rows[u][v]], (u, v))


class OrdinaryNets(Told):
    def test_single_link(self):
        self.check(samples.LINK, [[-6, -6], [-6, -6]])

    def test_chain(self):
        self.check(samples.CHAIN, [
            [-6, 0, 0, 1],
            [0, -6, 1, 0],
            [0, 1, -6, 0],
            [1, 0, 0, -6],
        ])

    def test_star(self):
        self.check(samples.STAR, [
            [-6, 0, 0, 0, 0],
            [0, -6, 1, 1, 1],
            [0, 1, -6, 1, 1],
            [0, 1, 1, -6, 1],
            [0, 1, 1, 1, -6],
        ])

    def test_seven_places_with_ten_links(self):
        # Place 4 alone has two exits; 2 and 3 are entered alike, but an exit of 3 leads to 4.
        self.check(samples.SEVEN, [
            [-6, 1, 1, 1, 0, 1, 1],
            [1, -6, 1, 1, 0, 1, 1],
            [1, 1, -6, 1, 0, 1, 1],
            [1, 1, 1, -6, 0, 1, 1],
            [0, 0, 0, 0, -6, 0, 0],
            [1, 1, 1, 1, 0, -6, 1],
            [1, 1, 1, 1, 0, 1, -6],
        ])

    def test_ring_of_seven(self):
        # From 2 to 5 all is entered alike; 3 and 4 are furthest from what marks the others.
        self.check(samples.RING_OF_SEVEN, [
            [-6, 1, 1, 1, 1, 1, 1],
            [1, -6, 1, 1, 1, 1, 1],
            [1, 1, -6, 2, 2, 2, 1],
            [1, 1, 2, -6, 3, 2, 1],
            [1, 1, 2, 3, -6, 2, 1],
            [1, 1, 2, 2, 2, -6, 1],
            [1, 1, 1, 1, 1, 1, -6],
        ])

    def test_ends_of_a_chain_that_the_middle_tells_apart(self):
        n, net = samples.LATE_CHAIN
        self.assertEqual([apart(n, u, 6 - u, net)[0] for u in range(n)], [3, 2, 1, -6, 1, 2, 3])

    def test_a_place_with_itself(self):
        for n, net in samples.ORDINARY + samples.SPECIAL:
            for u in range(n):
                self.assertEqual(apart(n, u, u, net), [ALIKE])


class Edges(Told):
    def test_one_place(self):
        self.check(samples.ONE, [[-6]])

    def test_ring_of_which_none_are_alike(self):
        self.check(samples.RING, [
            [-6, 1, 1, 1],
            [1, -6, 1, 1],
            [1, 1, -6, 1],
            [1, 1, 1, -6],
        ])
        self.check((3, [0, 1, 1, 2, 2, 0]), [[-6, 1, 1], [1, -6, 1], [1, 1, -6]])

    def test_ring_of_which_all_are_alike(self):
        self.check(samples.ALL_ALIKE_RING, [[-6] * 4] * 4)
        self.check(samples.ALL_ALIKE_RING_OF_SIX, [[-6] * 6] * 6)

    def test_ring_of_which_opposite_places_are_alike(self):
        n, net = samples.OPPOSITE_ALIKE_RING
        self.check((n, net), [[-6 if (u - v) % 3 == 0 else 1 for v in range(n)] for u in range(n)])

    def test_exits_in_another_order_make_others_alike(self):
        self.check(samples.MIRRORED_CHAIN, [
            [-6, 0, 0, -6],
            [0, -6, -6, 0],
            [0, -6, -6, 0],
            [-6, 0, 0, -6],
        ])
        # Both ends come in by another exit of the middle, in whatever order that's told.
        self.assertEqual(apart(3, 0, 2, [0, 1, 1, 2]), [1])
        self.assertEqual(apart(3, 0, 2, [1, 2, 0, 1]), [1])

    def test_places_with_one_exit(self):
        self.assertEqual(apart(3, 0, 1, [0, 1, 1, 2]), [0])
        # Both come in by exit 0, but of places with two and with three exits.
        self.assertEqual(apart(5, 0, 4, [0, 1, 4, 2, 1, 2, 2, 3]), [1])


class WhatHolds(unittest.TestCase):
    def test_a_told_apart_are_those_of_whom_something_else_is_seen(self):
        for n, net in samples.small_nets():
            # Letters for exits that there aren't are among these.
            letters = range(n + 1)
            for u, v in samples.all_pairs(n):
                difference = first_difference(n, net, u, v, 3, letters)
                expected = ALIKE if difference is None else difference
                self.assertEqual(apart(n, u, v, net), [expected], (n, u, v, net))

    def test_a_on_nets_that_take_some_steps(self):
        for n, net in (samples.RING_OF_SEVEN, samples.LATE_CHAIN, samples.OPPOSITE_ALIKE_RING):
            for u, v in samples.all_pairs(n):
                difference = first_difference(n, net, u, v, 4, range(3))
                expected = ALIKE if difference is None else difference
                self.assertEqual(apart(n, u, v, net), [expected], (n, u, v, net))

    def test_b_who_is_not_told_apart_in_fewer_steps_than_twice_the_places_never_is(self):
        for n, net in samples.many_nets():
            for u, v in samples.all_pairs(n):
                self.assertIn(apart(n, u, v, net)[0], [ALIKE] + list(range(2 * n)))

    def test_b_by_every_word_of_fewer_letters_than_twice_the_places(self):
        for n, net in list(samples.small_nets()) + [samples.MIRRORED_CHAIN, samples.ALL_ALIKE_RING]:
            if max(exits(n, place, net)[0] for place in range(n)) > 2:
                continue
            for u in range(n):
                for v in range(u):
                    # With at most two exits a place, the other letters only stay.
                    difference = first_difference(n, net, u, v, 2 * n - 1, (1, 2))
                    self.assertEqual(apart(n, u, v, net) == [ALIKE], difference is None, (n, u, v, net))

    def test_b_alike_places_show_the_same_by_long_words(self):
        for n, net in samples.WITH_ALIKE_PLACES:
            for u, v in alike_pairs(n, net):
                self.assertIsNone(first_difference(n, net, u, v, 6, range(3)))
                for stride in range(1, 8):
                    word = [k * k * stride % 4 for k in range(30)]
                    self.assertEqual(seen(n, u, net, word), seen(n, v, net, word))

    def test_c_alike_places_lead_by_like_letters_to_alike_ones(self):
        for n, net in samples.many_nets():
            for u, v in alike_pairs(n, net):
                for letter in (0, 1, 2, 3, 4, samples.GREATEST):
                    after_u = walk(n, u, net, [letter])[-1]
                    after_v = walk(n, v, net, [letter])[-1]
                    self.assertEqual(apart(n, after_u, after_v, net), [ALIKE], (n, u, v, net, letter))


class ByTheWords(unittest.TestCase):
    def test_against_walking_side_by_side(self):
        for n, net in samples.many_nets():
            for u, v in samples.all_pairs(n):
                steps = samples.apart_by_pairs(net, u, v)
                self.assertEqual(apart(n, u, v, net), [ALIKE if steps is None else steps], (n, u, v, net))

    def test_the_same_both_ways_round(self):
        for n, net in samples.ORDINARY + samples.SPECIAL:
            for u, v in samples.all_pairs(n):
                self.assertEqual(apart(n, u, v, net), apart(n, v, u, net))

    def test_places_have_no_names(self):
        for n, net in samples.ORDINARY + samples.SPECIAL:
            renamed = [n - 1 - place for place in net]
            for u, v in samples.all_pairs(n):
                self.assertEqual(apart(n, n - 1 - u, n - 1 - v, renamed), apart(n, u, v, net))


if __name__ == "__main__":
    unittest.main()
