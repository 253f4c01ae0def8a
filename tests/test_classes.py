import unittest

import samples
from seenonway.nets import apart, classes, seen, walk

ALIKE = -6


class OrdinaryNets(unittest.TestCase):
    def test_single_link(self):
        self.assertEqual(classes(*samples.LINK), [2, 0, 0])

    def test_chain(self):
        self.assertEqual(classes(*samples.CHAIN), [4, 0, 1, 2, 3])

    def test_ring(self):
        self.assertEqual(classes(*samples.RING), [4, 0, 1, 2, 3])

    def test_star(self):
        self.assertEqual(classes(*samples.STAR), [5, 0, 1, 2, 3, 4])

    def test_seven_places_with_ten_links(self):
        self.assertEqual(classes(*samples.SEVEN), [7, 0, 1, 2, 3, 4, 5, 6])

    def test_ring_of_seven(self):
        # 3 and 4 are told apart in three steps only.
        self.assertEqual(classes(*samples.RING_OF_SEVEN), [7, 0, 1, 2, 3, 4, 5, 6])

    def test_chain_of_which_only_the_middle_tells_both_ends_apart(self):
        self.assertEqual(classes(*samples.LATE_CHAIN), [7, 0, 1, 2, 3, 4, 5, 6])

    def test_each_place_linked_with_each(self):
        self.assertEqual(classes(*samples.FULL_FIVE), [5, 0, 1, 2, 3, 4])
        self.assertEqual(classes(*samples.ALL_ALIKE_FOUR), [4, 0, 0, 0, 0])

    def test_three_places_linked_with_three_others(self):
        self.assertEqual(classes(*samples.ALL_ALIKE_THREE_BY_THREE), [6, 0, 0, 0, 0, 0, 0])

    def test_two_triangles(self):
        self.assertEqual(classes(*samples.TWO_TRIANGLES), [6, 0, 1, 2, 1, 2, 0])


class OtherOrders(unittest.TestCase):
    def test_chain_of_four(self):
        self.assertEqual(classes(4, [0, 1, 1, 2, 2, 3]), [4, 0, 1, 2, 3])
        self.assertEqual(classes(4, [0, 1, 2, 3, 1, 2]), [4, 0, 1, 1, 0])
        self.assertEqual(classes(4, [1, 2, 0, 1, 2, 3]), [4, 0, 1, 1, 0])
        self.assertEqual(classes(4, [2, 3, 1, 2, 0, 1]), [4, 0, 1, 2, 3])

    def test_ring_of_six(self):
        self.assertEqual(classes(6, [0, 1, 1, 2, 2, 3, 3, 4, 4, 5, 5, 0]), [6, 0, 1, 2, 3, 4, 5])
        self.assertEqual(classes(6, [0, 1, 2, 3, 4, 5, 1, 2, 3, 4, 5, 0]), [6, 0, 0, 0, 0, 0, 0])
        self.assertEqual(classes(6, [0, 1, 3, 4, 1, 2, 4, 5, 2, 3, 5, 0]), [6, 0, 1, 2, 0, 1, 2])
        self.assertEqual(classes(6, [1, 2, 4, 5, 2, 3, 5, 0, 0, 1, 3, 4]), [6, 0, 1, 2, 0, 1, 2])

    def test_direction_of_telling_does_not_matter(self):
        self.assertEqual(classes(4, [1, 0, 2, 3, 2, 1]), [4, 0, 1, 1, 0])

    def test_other_numbers_for_the_same_places(self):
        # A chain of which the ends are 1 and 2, and the others 3 and 0.
        self.assertEqual(classes(4, [1, 3, 0, 2, 3, 0]), [4, 0, 1, 1, 0])
        # The ends are 0 and 1, the others 2 and 3.
        self.assertEqual(classes(4, [0, 2, 1, 3, 2, 3]), [4, 0, 0, 2, 2])


class Edges(unittest.TestCase):
    def test_one_place(self):
        self.assertEqual(classes(1, []), [1, 0])

    def test_ring_of_which_none_are_alike(self):
        self.assertEqual(classes(3, [0, 1, 1, 2, 2, 0]), [3, 0, 1, 2])
        self.assertEqual(classes(5, [0, 1, 1, 2, 2, 3, 3, 4, 4, 0]), [5, 0, 1, 2, 3, 4])

    def test_ring_of_which_all_are_alike(self):
        self.assertEqual(classes(*samples.ALL_ALIKE_RING), [4, 0, 0, 0, 0])
        self.assertEqual(classes(*samples.ALL_ALIKE_RING_OF_SIX), [6, 0, 0, 0, 0, 0, 0])

    def test_ring_of_which_opposite_places_are_alike(self):
        self.assertEqual(classes(*samples.OPPOSITE_ALIKE_RING), [6, 0, 1, 2, 0, 1, 2])

    def test_places_with_one_exit(self):
        # Both ends come in by another exit of the middle, in whatever order that's told.
        self.assertEqual(classes(3, [0, 1, 1, 2]), [3, 0, 1, 2])
        self.assertEqual(classes(3, [1, 2, 0, 1]), [3, 0, 1, 2])
        # Both come in by exit 0, but of places with two and with three exits.
        self.assertEqual(classes(5, [0, 1, 4, 2, 1, 2, 2, 3]), [5, 0, 1, 2, 3, 4])
        # On both sides of a link a place with one exit.
        self.assertEqual(classes(4, [0, 3, 1, 2, 2, 3]), [4, 0, 0, 2, 2])


class HeldAgainstApart(unittest.TestCase):
    def test_the_same_class_just_where_alike(self):
        for n, net in samples.many_nets():
            told = classes(n, net)[1:]
            for u, v in samples.all_pairs(n):
                self.assertEqual(told[u] == told[v], apart(n, u, v, net) == [ALIKE], (n, u, v, net))

    def test_a_class_is_the_least_place_that_is_alike(self):
        for n, net in samples.many_nets():
            answer = classes(n, net)
            self.assertEqual(answer[0], n)
            self.assertEqual(len(answer), n + 1)
            for v in range(n):
                alike = [u for u in range(n) if apart(n, u, v, net) == [ALIKE]]
                self.assertEqual(answer[1 + v], min(alike), (n, v, net))

    def test_the_class_of_a_class_is_itself(self):
        for n, net in samples.many_nets():
            told = classes(n, net)[1:]
            for place in range(n):
                self.assertEqual(told[told[place]], told[place])
                self.assertLessEqual(told[place], place)


class ByTheWords(unittest.TestCase):
    def test_against_walking_side_by_side(self):
        for n, net in samples.many_nets():
            self.assertEqual(classes(n, net), [n] + samples.classes_by_pairs(n, net), (n, net))

    def test_who_shows_the_same_by_all_short_words_on_small_nets(self):
        for n, net in samples.small_nets():
            words = list(samples.words_up_to(3, range(1, 4)))
            shown = [[samples.seen_by_words(net, u, word) for word in words] for u in range(n)]
            self.assertEqual(classes(n, net), [n] + [shown.index(sight) for sight in shown], (n, net))

    def test_who_is_of_one_class_shows_the_same_by_long_words(self):
        for n, net in samples.WITH_ALIKE_PLACES:
            for place, least in enumerate(classes(n, net)[1:]):
                for stride in range(1, 8):
                    word = [k * k * stride % 5 for k in range(30)]
                    self.assertEqual(seen(n, place, net, word), seen(n, least, net, word))

    def test_c_alike_places_lead_by_like_letters_to_alike_ones(self):
        for n, net in samples.many_nets():
            told = classes(n, net)[1:]
            for place in range(n):
                for letter in (0, 1, 2, 3, 4, 5, samples.GREATEST):
                    after_place = walk(n, place, net, [letter])[-1]
                    after_least = walk(n, told[place], net, [letter])[-1]
                    self.assertEqual(told[after_place], told[after_least], (n, place, net, letter))

    def test_places_have_no_names(self):
        for n, net in samples.ORDINARY + samples.SPECIAL:
            told = classes(n, net)[1:]
            renamed = classes(n, [n - 1 - place for place in net])[1:]
            for u, v in samples.all_pairs(n):
                self.assertEqual(renamed[n - 1 - u] == renamed[n - 1 - v], told[u] == told[v])


if __name__ == "__main__":
    unittest.main()
