"""Nets of places, their exits, and the walks on them.

A net is told as a flat list: of each link both places, link behind link.
Every answer is one list: a number, then what belongs to it; a refusal stands alone.
"""

MOST_PLACES = 7
MOST_LINKS = 10
MOST_LETTERS = 30

NOT_A_NET = -22
NO_SUCH_PLACE = -2
WORD_TOO_LONG = -22
NO_REFUSAL = 0


def links_of(net):
    """The links of a net as pairs of places, in the order in which they're told."""
    return [(net[k], net[k + 1]) for k in range(0, len(net), 2)]


def links_are_sound(n, links):
    """Whether each link is between two different places that there are, and no two between the same."""
    met = {}
    for first, last in links:
        if first >= n or last >= n or first == last:
            return False
        # A link has no direction, so both ways of telling it must come to the same key.
        pair = (min(first, last), max(first, last))
        if pair in met:
            return False
        met[pair] = True
    return True


def exit_table(n, links):
    """Of each place its exits, in order: to which place, and by which exit of that one one comes in."""
    table = [[] for place in range(n)]
    for first, last in links:
        # Both numbers are taken before either exit is put in: each place tells the other's number.
        number_at_first = len(table[first])
        number_at_last = len(table[last])
        table[first].append((last, number_at_last))
        table[last].append((first, number_at_first))
    return table


def all_hang_together(table):
    """Whether every place of a table of at least one place is reached from place 0."""
    reached = [0]
    looked_at = 0
    while looked_at < len(reached):
        own_exits = table[reached[looked_at]]
        for place, entry in own_exits:
            if place not in reached:
                reached.append(place)
        looked_at += 1
    return len(reached) == len(table)


def is_net(n, net):
    """Whether n and net tell a net."""
    # The sizes come first: n may be so large that no table of n places could be made.
    if n < 1 or n > MOST_PLACES:
        return False
    if len(net) % 2 == 1 or len(net) > 2 * MOST_LINKS:
        return False
    links = links_of(net)
    if not links_are_sound(n, links):
        return False
    return all_hang_together(exit_table(n, links))


def refusal_of_place(n, u, net):
    """The refusal that is due for a net and a place of it, or NO_REFUSAL."""
    if not is_net(n, net):
        return NOT_A_NET
    if u >= n:
        return NO_SUCH_PLACE
    return NO_REFUSAL


def refusal_of_walk(n, u, net, word):
    """The refusal that is due for a net, a place of it and a word, or NO_REFUSAL."""
    refusal = refusal_of_place(n, u, net)
    # The net and the place are told ahead of the word, so their refusals win.
    if refusal == NO_REFUSAL and len(word) > MOST_LETTERS:
        return WORD_TOO_LONG
    return refusal


def place_after(table, place, letter):
    """The place in which one is after a letter."""
    own_exits = table[place]
    if letter == 0 or letter > len(own_exits):
        return place
    return own_exits[letter - 1][0]


def exits(n, u, net):
    """How many exits u has; then of each to which place it leads, and by which exit of that one one comes in."""
    refusal = refusal_of_place(n, u, net)
    if refusal != NO_REFUSAL:
        return [refusal]
    own_exits = exit_table(n, links_of(net))[u]
    answer = [len(own_exits)]
    for place, entry in own_exits:
        answer.append(place)
        answer.append(entry)
    return answer


def walk(n, u, net, word):
    """How many places one is in by a word, from u on, with the first; then these."""
    refusal = refusal_of_walk(n, u, net, word)
    if refusal != NO_REFUSAL:
        return [refusal]
    table = exit_table(n, links_of(net))
    place = u
    answer = [len(word) + 1, place]
    for letter in word:
        place = place_after(table, place, letter)
        answer.append(place)
    return answer
