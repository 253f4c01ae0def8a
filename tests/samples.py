"""Nets for the tests, and the document's words on nets, told once more in another way than the program's."""

import itertools

GREATEST = 4294967295

LINK = (2, [0, 1])
CHAIN = (4, [0, 1, 1, 2, 2, 3])
RING = (4, [0, 1, 1, 2, 2, 3, 3, 0])
STAR = (5, [0, 1, 0, 2, 0, 3, 0, 4])
SEVEN = (7, [0, 1, 1, 2, 2, 3, 3, 4, 4, 5, 5, 6, 6, 0, 0, 3, 1, 5, 2, 6])
FULL_FIVE = (5, [0, 1, 0, 2, 0, 3, 0, 4, 1, 2, 1, 3, 1, 4, 2, 3, 2, 4, 3, 4])
ONE = (1, [])
ORDINARY = (LINK, CHAIN, RING, STAR, SEVEN, FULL_FIVE, ONE)

# A chain and rings told in such an order that places of them are alike.
MIRRORED_CHAIN = (4, [0, 1, 3, 2, 1, 2])
ALL_ALIKE_RING = (4, [0, 1, 2, 3, 1, 2, 3, 0])
ALL_ALIKE_RING_OF_SIX = (6, [0, 1, 2, 3, 4, 5, 1, 2, 3, 4, 5, 0])
OPPOSITE_ALIKE_RING = (6, [0, 1, 3, 4, 1, 2, 4, 5, 2, 3, 5, 0])
# Four places, each linked with each, and three linked with three others: told link by link so that all are alike.
ALL_ALIKE_FOUR = (4, [0, 1, 2, 3, 0, 2, 1, 3, 0, 3, 1, 2])
ALL_ALIKE_THREE_BY_THREE = (6, [0, 3, 1, 4, 2, 5, 0, 4, 1, 5, 2, 3, 0, 5, 1, 3, 2, 4])
# Two triangles with a link between them; of each triangle one place has three exits.
TWO_TRIANGLES = (6, [0, 4, 5, 2, 4, 1, 2, 3, 1, 0, 3, 5, 0, 5])
WITH_ALIKE_PLACES = (LINK, MIRRORED_CHAIN, ALL_ALIKE_RING, ALL_ALIKE_RING_OF_SIX, OPPOSITE_ALIKE_RING,
                     ALL_ALIKE_FOUR, ALL_ALIKE_THREE_BY_THREE, TWO_TRIANGLES)

# Of this ring OPPOSITE_ALIKE_RING is twice: each link of the one is told as two of the other.
RING_OF_THREE = (3, [0, 1, 1, 2, 2, 0])

# Chains, and rings with a tail, that look the same from one place on until the shorter one ends.
CHAIN_OF_SIX = (6, [0, 1, 1, 2, 2, 3, 3, 4, 4, 5])
CHAIN_OF_SEVEN = (7, [0, 1, 1, 2, 2, 3, 3, 4, 4, 5, 5, 6])
TAILED_RING_OF_SIX = (6, [4, 5, 3, 4, 2, 3, 1, 2, 0, 1, 4, 0])
TAILED_RING_OF_SEVEN = (7, [5, 6, 5, 0, 0, 1, 1, 2, 2, 3, 3, 4, 4, 5])
LATE_PAIRS = (CHAIN_OF_SIX, CHAIN_OF_SEVEN, TAILED_RING_OF_SIX, TAILED_RING_OF_SEVEN)

# Nets that take some steps: a ring without a mark near by, and a chain of which only the middle tells both ends apart.
RING_OF_SEVEN = (7, [0, 1, 1, 2, 2, 3, 3, 4, 4, 5, 5, 6, 6, 0])
LATE_CHAIN = (7, [0, 1, 1, 2, 2, 3, 5, 6, 4, 5, 3, 4])
SPECIAL = WITH_ALIKE_PLACES + (RING_OF_SEVEN, LATE_CHAIN)

# Ten links among 7 places, and an eleventh and a twelfth that would be sound by themselves.
ELEVEN_LINKS = SEVEN[1] + [0, 2]
TWELVE_LINKS = ELEVEN_LINKS + [1, 3]

NO_NETS = {
    "no place": (0, []),
    "no place, but a link": (0, [0, 1]),
    "eight places": (8, [0, 1, 1, 2, 2, 3, 3, 4, 4, 5, 5, 6, 6, 7]),
    "eight places without links": (8, []),
    "as many places as can be told": (GREATEST, [0, 1]),
    "half a link alone": (1, [0]),
    "half a link alone of two places": (2, [0]),
    "half a link behind a whole one": (2, [0, 1, 0]),
    "half a link behind ten": (7, SEVEN[1] + [0]),
    "half a link behind eleven": (7, ELEVEN_LINKS + [0]),
    "a link to itself": (2, [0, 1, 1, 1]),
    "a link to itself of one place": (1, [0, 0]),
    "the same link twice": (3, [0, 1, 1, 2, 0, 1]),
    "the same link the other way round": (3, [0, 1, 1, 2, 1, 0]),
    "the same link twice, side by side": (2, [0, 1, 0, 1]),
    "a place that there isn't, told first": (2, [0, 1, 2, 1]),
    "a place that there isn't, told last": (2, [0, 1, 1, 2]),
    "a place that there isn't, of one place": (1, [0, 1]),
    "a place far beyond": (2, [0, 1, GREATEST, 0]),
    "a link between places that there aren't": (2, [0, 1, 2, 3]),
    "eleven links": (7, ELEVEN_LINKS),
    "twelve links": (7, TWELVE_LINKS),
    "two places without links": (2, []),
    "seven places without links": (7, []),
    "the last place by itself": (3, [0, 1]),
    "the first place by itself": (3, [1, 2]),
    "two parts": (4, [0, 1, 2, 3]),
    "two rings": (6, [0, 1, 1, 2, 2, 0, 3, 4, 4, 5, 5, 3]),
}


def pairs(net):
    return list(zip(net[0::2], net[1::2]))


def is_net_by_words(n, net):
    if not 1 <= n <= 7 or len(net) % 2 or len(net) > 20:
        return False
    links = pairs(net)
    if any(len(set(link)) < 2 or max(link) >= n for link in links):
        return False
    if len({frozenset(link) for link in links}) < len(links):
        return False
    part = list(range(n))
    for a, b in links:
        part = [part[a] if p == part[b] else p for p in part]
    return len(set(part)) == 1


def exits_by_words(net, u):
    """Of each exit of u: to which place, and by which exit of that one one comes in."""
    links = pairs(net)

    def told_at(place):
        return [k for k, link in enumerate(links) if place in link]

    found = []
    for k in told_at(u):
        (other,) = set(links[k]) - {u}
        found.append((other, told_at(other).index(k)))
    return found


def walk_by_words(net, u, word):
    places = [u]
    for letter in word:
        choices = dict(enumerate((place for place, entry in exits_by_words(net, places[-1])), start=1))
        places.append(choices.get(letter, places[-1]))
    return places


def seen_by_words(net, u, word):
    links = pairs(net)
    places = walk_by_words(net, u, word)
    told_at = {place: [set(link) for link in links if place in link] for place in places}
    numbers = [len(told_at[u])]
    for before, place in zip(places, places[1:]):
        # No link leads from a place to itself, so who is where one was has stayed.
        came_in = 0 if place == before else 1 + told_at[place].index({before, place})
        numbers += [came_in, len(told_at[place])]
    return numbers


def two_by_pairs(net, u, second, v):
    """In how few steps u of a net and v of a second are told apart (None: never); both are walked side by side."""
    ways = {place: exits_by_words(net, place) for place in {u, *net}}
    second_ways = {place: exits_by_words(second, place) for place in {v, *second}}
    met = {(u, v)}
    level = [(u, v)]
    steps = 0
    while level:
        if any(len(ways[a]) != len(second_ways[b]) for a, b in level):
            return steps
        onward = [way for a, b in level for way in zip(ways[a], second_ways[b])]
        if any(one[1] != other[1] for one, other in onward):
            return steps + 1
        level = sorted({(one[0], other[0]) for one, other in onward} - met)
        met.update(level)
        steps += 1
    return None


def apart_by_pairs(net, u, v):
    return two_by_pairs(net, u, net, v)


def classes_by_pairs(n, net):
    """Of each place the least that is never told apart from it."""
    return [next(u for u in range(n) if apart_by_pairs(net, u, v) is None) for v in range(n)]


def distances_by_words(n, net):
    """Of each two places how few links lead from the one to the other: by way of more and more places between."""
    far = n + 1
    steps = [[0 if u == v else far for v in range(n)] for u in range(n)]
    for a, b in pairs(net):
        steps[a][b] = steps[b][a] = 1
    for between, u, v in itertools.product(range(n), repeat=3):
        steps[u][v] = min(steps[u][v], steps[u][between] + steps[between][v])
    return steps


def words_up_to(most, letters):
    """All words of at most so many letters, the shorter ones first."""
    for size in range(most + 1):
        for word in itertools.product(letters, repeat=size):
            yield list(word)


def many_nets():
    return list(small_nets()) + list(reordered_nets()) + list(ORDINARY + SPECIAL)


def all_pairs(n):
    return [(u, v) for u in range(n) for v in range(n)]


def reordered_nets():
    """Nets of six and seven places, with their links told in many orders."""
    for n, net in (RING_OF_SEVEN, LATE_CHAIN, OPPOSITE_ALIKE_RING):
        for links in itertools.islice(itertools.permutations(pairs(net)), 0, None, 31):
            yield n, list(itertools.chain.from_iterable(links))
    n, net = SEVEN
    links = pairs(net)
    for stride in range(1, 11):
        # The ten multiples of stride are all different modulo 11, so each link is told once.
        yield n, list(itertools.chain.from_iterable(links[k * stride % 11 - 1] for k in range(1, 11)))


def small_nets():
    """All nets of up to 3 places, in every order and direction; of 4 places, all sets of links, forth and back."""
    yield ONE
    for n in (2, 3):
        possible = list(itertools.permutations(range(n), 2))
        for size in range(1, n * (n - 1) // 2 + 1):
            for links in itertools.permutations(possible, size):
                net = list(itertools.chain.from_iterable(links))
                if is_net_by_words(n, net):
                    yield n, net
    possible = list(itertools.combinations(range(4), 2))
    for size in range(3, 7):
        for links in itertools.combinations(possible, size):
            net = list(itertools.chain.from_iterable(links))
            if is_net_by_words(4, net):
                yield 4, net
                yield 4, net[::-1]


def different_small_nets():
    """The small nets, of those that have the same exits only the first."""
    found = {}
    for n, net in small_nets():
        found.setdefault(str([exits_by_words(net, u) for u in range(n)]), (n, net))
    return list(found.values())


class Unchangeable(list):
    """A list that tells at once when something tries to change it, even for a while."""

    def refuse(self, *args, **kwargs):
        raise AssertionError("what was handed in was changed")

    append = clear = extend = insert = pop = remove = reverse = sort = refuse
    __setitem__ = __delitem__ = __iadd__ = __imul__ = refuse
