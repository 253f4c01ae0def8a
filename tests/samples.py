"""Nets for the tests, and the document's words on nets, told once more in another way than the program's."""

import itertools

GREATEST = 4294967295

LINK = (2, [0, 1])
CHAIN = (4, [0, 1, 1, 2, 2, 3])
RING = (4, [0, 1, 1, 2, 2, 3, 3, 0])
STAR = (5, [0, 1, 0, 2, 0, 3, 0, 4])
SEVEN = (7, [0, 1, 1, 2, 2, 3, 3, 4, 4, 5, 5, 6, 6, 0, 0, 3, 1, 5, 2, 6])
FULL_FIVE = (5, [0, 1, 0, 2, 0, 3, 0, 4, 1, 2, 1, 3, 1, 4, 2, 3, 2, 4, 3, 4])
ONE = (1, [])
ORDINARY = (LINK, CHAIN, RING, STAR, SEVEN, FULL_FIVE, ONE)

# Ten links among 7 places, and an eleventh and a twelfth that would be sound by themselves.
ELEVEN_LINKS = SEVEN[1] + [0, 2]
TWELVE_LINKS = ELEVEN_LINKS + [1, 3]

NO_NETS = {
    "no place": (0, []),
    "no place, but a link": (0, [0, 1]),
    "eight places": (8, [0, 1, 1, 2, 2, 3, 3, 4, 4, 5, 5, 6, 6, 7]),
    "eight places without links": (8, []),
    "as many places as can be told": (GREATEST, [0, 1]),
    "half a link alone": (1, [0]),
    "half a link alone of two places": (2, [0]),
    "half a link behind a whole one": (2, [0, 1, 0]),
    "half a link behind ten": (7, SEVEN[1] + [0]),
    "half a link behind eleven": (7, ELEVEN_LINKS + [0]),
    "a link to itself": (2, [0, 1, 1, 1]),
    "a link to itself of one place": (1, [0, 0]),
    "the same link twice": (3, [0, 1, 1, 2, 0, 1]),
    "the same link the other way round": (3, [0, 1, 1, 2, 1, 0]),
    "the same link twice, side by side": (2, [0, 1, 0, 1]),
    "a place that there isn't, told first": (2, [0, 1, 2, 1]),
    "a place that there isn't, told last": (2, [0, 1, 1, 2]),
    "a place that there isn't, of one place": (1, [0, 1]),
    "a place far beyond": (2, [0, 1, GREATEST, 0]),
    "a link between places that there aren't": (2, [0, 1, 2, 3]),
    "eleven links": (7, ELEVEN_LINKS),
    "twelve links": (7, TWELVE_LINKS),
    "two places without links": (2, []),
    "seven places without links": (7, []),
    "the last place by itself": (3, [0, 1]),
    "the first place by itself": (3, [1, 2]),
    "two parts": (4, [0, 1, 2, 3]),
    "two rings": (6, [0, 1, 1, 2, 2, 0, 3, 4, 4, 5, 5, 3]),
}


def pairs(net):
    return list(zip(net[0::2], net[1::2]))


def is_net_by_words(n, net):
    if not 1 <= n <= 7 or len(net) % 2 or len(net) > 20:
        return False
    links = pairs(net)
    if any(len(set(link)) < 2 or max(link) >= n for link in links):
        return False
    if len({frozenset(link) for link in links}) < len(links):
        return False
    part = list(range(n))
    for a, b in links:
        part = [part[a] if p == part[b] else p for p in part]
    return len(set(part)) == 1


def exits_by_words(net, u):
    """Of each exit of u: to which place, and by which exit of that one one comes in."""
    links = pairs(net)

    def told_at(place):
        return [k for k, link in enumerate(links) if place in link]

    found = []
    for k in told_at(u):
        (other,) = set(links[k]) - {u}
        found.append((other, told_at(other).index(k)))
    return found


def walk_by_words(net, u, word):
    places = [u]
    for letter in word:
        choices = dict(enumerate((place for place, entry in exits_by_words(net, places[-1])), start=1))
        places.append(choices.get(letter, places[-1]))
    return places


def small_nets():
    """All nets of up to 3 places, in every order and direction; of 4 places, all sets of links, forth and back."""
    yield ONE
    for n in (2, 3):
        possible = list(itertools.permutations(range(n), 2))
        for size in range(1, n * (n - 1) // 2 + 1):
            for links in itertools.permutations(possible, size):
                net = list(itertools.chain.from_iterable(links))
                if is_net_by_words(n, net):
                    yield n, net
    possible = list(itertools.combinations(range(4), 2))
    for size in range(3, 7):
        for links in itertools.combinations(possible, size):
            net = list(itertools.chain.from_iterable(links))
            if is_net_by_words(4, net):
                yield 4, net
                yield 4, net[::-1]


class Unchangeable(list):
    """A list that tells at once when something tries to change it, even for a while."""

    def refuse(self, *args, **kwargs):
        raise AssertionError("what was handed in was changed")

    append = clear = extend = insert = pop = remove = reverse = sort = refuse
    __setitem__ = __delitem__ = __iadd__ = __imul__ = refuse
