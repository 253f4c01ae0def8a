import itertools
import unittest

import samples
from seenonway.nets import classes, exits, least, seen, two


def told_classes(answer):
    """Of an answer of least: of each class its least place and its exits, in the order in which they're told."""
    numbers = iter(answer[1:])
    found = []
    for place in numbers:
        found.append((place, [(next(numbers), next(numbers)) for _ in range(next(numbers))]))
    return found


def seen_on_classes(answer, start, word):
    """What is seen by a word from a class on, going by nothing but an answer of least."""
    ways = dict(told_classes(answer))
    numbers = [len(ways[start])]
    here = start
    for letter in word:
        came_in = 0
        if 0 < letter <= len(ways[here]):
            here, entry = ways[here][letter - 1]
            came_in = entry + 1
        numbers += [came_in, len(ways[here])]
    return [len(numbers)] + numbers


class OrdinaryNets(unittest.TestCase):
    def test_single_link(self):
        self.assertEqual(least(*samples.LINK), [1, 0, 1, 0, 0])

    def test_chain(self):
        self.assertEqual(least(*samples.CHAIN), [4] + [
            0, 1, 1, 0,
            1, 2, 0, 0, 2, 0,
            2, 2, 1, 1, 3, 0,
            3, 1, 2, 1,
        ])

    def test_ring(self):
        self.assertEqual(least(*samples.RING), [4] + [
            0, 2, 1, 0, 3, 1,
            1, 2, 0, 0, 2, 0,
            2, 2, 1, 1, 3, 0,
            3, 2, 2, 1, 0, 1,
        ])

    def test_star(self):
        self.assertEqual(least(*samples.STAR), [5] + [
            0, 4, 1, 0, 2, 0, 3, 0, 4, 0,
            1, 1, 0, 0,
            2, 1, 0, 1,
            3, 1, 0, 2,
            4, 1, 0, 3,
        ])

    def test_seven_places_with_ten_links(self):
        self.assertEqual(least(*samples.SEVEN), [7] + [
            0, 3, 1, 0, 6, 1, 3, 2,
            1, 3, 0, 0, 2, 0, 5, 2,
            2, 3, 1, 1, 3, 0, 6, 2,
            3, 3, 2, 1, 4, 0, 0, 2,
            4, 2, 3, 1, 5, 0,
            5, 3, 4, 1, 6, 0, 1, 2,
            6, 3, 5, 1, 0, 1, 2, 2,
        ])

    def test_two_triangles(self):
        # 5, 3 and 4 are alike to 0, 1 and 2.
        self.assertEqual(least(*samples.TWO_TRIANGLES), [3] + [
            0, 3, 2, 0, 1, 1, 0, 2,
            1, 2, 2, 1, 0, 1,
            2, 2, 0, 0, 1, 0,
        ])


class OtherOrders(unittest.TestCase):
    def test_chain_told_so_that_its_halves_are_alike(self):
        self.assertEqual(least(4, [0, 1, 3, 2, 1, 2]), [2, 0, 1, 1, 0, 1, 2, 0, 0, 1, 1])
        self.assertEqual(least(4, [1, 2, 0, 1, 2, 3]), [2, 0, 1, 1, 1, 1, 2, 1, 0, 0, 0])

    def test_chain_with_other_numbers(self):
        # The ends are 1 and 2: what is told first is how one goes on in the middle.
        self.assertEqual(least(4, [1, 3, 0, 2, 3, 0]), [2, 0, 2, 1, 0, 0, 1, 1, 1, 0, 0])
        # The ends are 0 and 1, so the second class is told by its least place, which is 2.
        self.assertEqual(least(4, [0, 2, 1, 3, 2, 3]), [2, 0, 1, 2, 0, 2, 2, 0, 0, 2, 1])

    def test_ring_of_six_in_two_orders(self):
        self.assertEqual(least(6, [0, 1, 2, 3, 4, 5, 1, 2, 3, 4, 5, 0]), [1, 0, 2, 0, 0, 0, 1])
        self.assertEqual(least(6, [0, 1, 1, 2, 2, 3, 3, 4, 4, 5, 5, 0])[0], 6)

    def test_direction_of_telling_does_not_matter(self):
        for n, net in samples.ORDINARY + samples.SPECIAL:
            turned = [place for link in samples.pairs(net) for place in link[::-1]]
            self.assertEqual(least(n, turned), least(n, net))


class Edges(unittest.TestCase):
    def test_one_place(self):
        self.assertEqual(least(1, []), [1, 0, 0])

    def test_ring_of_which_all_places_are_alike(self):
        self.assertEqual(least(*samples.ALL_ALIKE_RING), [1, 0, 2, 0, 0, 0, 1])
        self.assertEqual(least(*samples.ALL_ALIKE_RING_OF_SIX), [1, 0, 2, 0, 0, 0, 1])

    def test_nets_with_three_exits_of_which_all_places_are_alike(self):
        self.assertEqual(least(*samples.ALL_ALIKE_FOUR), [1, 0, 3, 0, 0, 0, 1, 0, 2])
        self.assertEqual(least(*samples.ALL_ALIKE_THREE_BY_THREE), [1, 0, 3, 0, 0, 0, 1, 0, 2])

    def test_ring_of_which_none_are_alike(self):
        self.assertEqual(least(*samples.RING_OF_THREE), [3, 0, 2, 1, 0, 2, 1, 1, 2, 0, 0, 2, 0, 2, 2, 1, 1, 0, 1])

    def test_a_net_and_one_that_is_twice_it(self):
        self.assertEqual(least(*samples.OPPOSITE_ALIKE_RING), least(*samples.RING_OF_THREE))

    def test_places_with_one_exit(self):
        self.assertEqual(least(3, [0, 1, 1, 2]), [3, 0, 1, 1, 0, 1, 2, 0, 0, 2, 0, 2, 1, 1, 1])
        self.assertEqual(least(3, [1, 2, 0, 1]), [3, 0, 1, 1, 1, 1, 2, 2, 0, 0, 0, 2, 1, 1, 0])

    def test_the_longest_answers(self):
        # Ten links and no two places alike: of seven places two numbers each, and two of each of twenty exits.
        self.assertEqual(len(least(*samples.SEVEN)), 1 + 7 * 2 + 20 * 2)


class HeldAgainstTheOthers(unittest.TestCase):
    def all_nets(self):
        return samples.many_nets() + list(samples.LATE_PAIRS)

    def test_so_many_classes_as_classes_tells_and_rising(self):
        for n, net in self.all_nets():
            answer = least(n, net)
            places = [place for place, ways in told_classes(answer)]
            self.assertEqual(places, sorted(set(classes(n, net)[1:])), (n, net))
            self.assertEqual(answer[0], len(places), (n, net))

    def test_each_is_told_by_its_least_place(self):
        for n, net in self.all_nets():
            class_of = classes(n, net)[1:]
            for place, ways in told_classes(least(n, net)):
                self.assertEqual(place, min(u for u in range(n) if class_of[u] == class_of[place]), (n, net))

    def test_exits_are_those_of_the_least_place(self):
        for n, net in self.all_nets():
            class_of = classes(n, net)[1:]
            for place, ways in told_classes(least(n, net)):
                own = exits(n, place, net)
                self.assertEqual(len(ways), own[0], (n, net))
                self.assertEqual(ways, [(class_of[own[k]], own[k + 1]) for k in range(1, len(own), 2)], (n, net))

    def test_where_no_places_are_alike_it_tells_all_exits(self):
        met = 0
        for n, net in self.all_nets():
            if classes(n, net)[1:] == list(range(n)):
                met += 1
                told = [number for u in range(n) for number in [u] + exits(n, u, net)]
                self.assertEqual(least(n, net), [n] + told, (n, net))
        self.assertGreater(met, 100)

    def test_where_all_places_are_alike_it_tells_only_place_0(self):
        met = 0
        for n, net in self.all_nets():
            if classes(n, net)[1:] == [0] * n:
                met += 1
                own = exits(n, 0, net)
                told = [number for k in range(1, len(own), 2) for number in (0, own[k + 1])]
                self.assertEqual(least(n, net), [1, 0, own[0]] + told, (n, net))
        self.assertGreater(met, 5)

    def test_the_same_of_two_nets_just_where_each_class_is_alike_to_that_of_the_same_number(self):
        told = samples.ORDINARY + samples.SPECIAL + (samples.RING_OF_THREE,)
        for (n, net), (m, second) in itertools.product(told, repeat=2):
            numbers = set(classes(n, net)[1:])
            same = numbers == set(classes(m, second)[1:])
            alike = same and all(two(n, m, number, number, net, second) == [-6] for number in numbers)
            self.assertEqual(least(n, net) == least(m, second), alike, (n, net, m, second))


class ByTheWords(unittest.TestCase):
    def test_against_walking_side_by_side(self):
        for n, net in samples.many_nets():
            class_of = samples.classes_by_pairs(n, net)
            expected = [len(set(class_of))]
            for place in sorted(set(class_of)):
                ways = samples.exits_by_words(net, place)
                expected += [place, len(ways)]
                for there, entry in ways:
                    expected += [class_of[there], entry]
            self.assertEqual(least(n, net), expected, (n, net))

    def test_by_what_it_tells_the_same_is_seen_as_on_the_net(self):
        for n, net in samples.many_nets():
            answer = least(n, net)
            class_of = classes(n, net)[1:]
            for u in range(n):
                for stride in (1, 2, 3):
                    word = [k * k * stride % 5 for k in range(30)]
                    self.assertEqual(seen_on_classes(answer, class_of[u], word), seen(n, u, net, word), (n, u, net))


if __name__ == "__main__":
    unittest.main()
