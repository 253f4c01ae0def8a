"""Nets of places, the ways on them, what's seen on the way, which places that tells apart, and which are alike.

Two places, of one net or of two, are alike if by no word something else is seen from the one than from the other.
A net is told as a flat list: of each link both places, link behind link.
Every answer is one list: a number, then what belongs to it; a number below 0 stands alone.
"""

MOST_PLACES = 7
MOST_LINKS = 10
MOST_LETTERS = 30

NOT_A_NET = -22
NO_SUCH_PLACE = -2
WORD_TOO_LONG = -22
NO_REFUSAL = 0
ALIKE = -6


def links_of(net):
    """The links of a net as pairs of places, in the order in which they're told."""
    return [(net[k], net[k + 1]) for k in range(0, len(net), 2)]


def links_are_sound(n, links):
    """Whether each link is between two different places that there are, and no two between the same."""
    met = {}
    for first, last in links:
        if first >= n or last >= n or first == last:
            return False
        # A link has no direction, so both ways of telling it must come to the same key.
        pair = (min(first, last), max(first, last))
        if pair in met:
            return False
        met[pair] = True
    return True


def exit_table(n, links):
    """Of each place its exits, in order: to which place, and by which exit of that one one comes in."""
    table = [[] for place in range(n)]
    for first, last in links:
        # Both numbers are taken before either exit is put in: each place tells the other's number.
        number_at_first = len(table[first])
        number_at_last = len(table[last])
        table[first].append((last, number_at_last))
        table[last].append((first, number_at_first))
    return table


def steps_from(table, start):
    """Of each place that is reached from start: how few steps lead there."""
    steps = {start: 0}
    reached = [start]
    looked_at = 0
    # The nearer places are looked at first, so a place is met by the fewest steps that lead there.
    while looked_at < len(reached):
        here = reached[looked_at]
        for place, entry in table[here]:
            if place not in steps:
                steps[place] = steps[here] + 1
                reached.append(place)
        looked_at += 1
    return steps


def all_hang_together(table):
    """Whether every place of a table of at least one place is reached from place 0."""
    return len(steps_from(table, 0)) == len(table)


def is_net(n, net):
    """Whether n and net tell a net."""
    # The sizes come first: n may be so large that no table of n places could be made.
    if n < 1 or n > MOST_PLACES:
        return False
    if len(net) % 2 == 1 or len(net) > 2 * MOST_LINKS:
        return False
    links = links_of(net)
    if not links_are_sound(n, links):
        return False
    return all_hang_together(exit_table(n, links))


def refusal_of_place(n, u, net):
    """The refusal that is due for a net and a place of it, or NO_REFUSAL."""
    if not is_net(n, net):
        return NOT_A_NET
    if u >= n:
        return NO_SUCH_PLACE
    return NO_REFUSAL


def refusal_of_places(n, u, v, net):
    """The refusal that is due for a net and two places of it, or NO_REFUSAL."""
    # The refusal doesn't tell which of the two there isn't: if the greater is there, both are.
    return refusal_of_place(n, max(u, v), net)


def refusal_of_two(n, m, u, v, net, second):
    """The refusal that is due for two nets, a place u of the first and a place v of the second, or NO_REFUSAL."""
    # Both nets are told ahead of both places, so a second that is none wins over a place u that there isn't.
    if not is_net(n, net) or not is_net(m, second):
        return NOT_A_NET
    if u >= n or v >= m:
        return NO_SUCH_PLACE
    return NO_REFUSAL


def refusal_of_walk(n, u, net, word):
    """The refusal that is due for a net, a place of it and a word, or NO_REFUSAL."""
    refusal = refusal_of_place(n, u, net)
    # The net and the place are told ahead of the word, so their refusals win.
    if refusal == NO_REFUSAL and len(word) > MOST_LETTERS:
        return WORD_TOO_LONG
    return refusal


def after_letter(table, place, letter):
    """The place in which one is after a letter, and one more than the exit by which one came in (0, if one stayed)."""
    own_exits = table[place]
    if letter == 0 or letter > len(own_exits):
        return (place, 0)
    taken = own_exits[letter - 1]
    return (taken[0], taken[1] + 1)


def least_with_the_same(sights):
    """Of each place the least place with the same sight; sights tells the sight of each place."""
    return [sights.index(sight) for sight in sights]


def groups_at_once(table):
    """Of each place the least place that isn't told apart from it in 0 steps."""
    return least_with_the_same([len(own_exits) for own_exits in table])


def groups_one_step_on(table, groups):
    """Of each place the least place that isn't told apart from it in one step more than groups is for."""
    # There are as many pairs in a sight as exits, so who was told apart before is so again; and a letter by which
    # one stays shows nothing that one step fewer doesn't show.
    sights = []
    for own_exits in table:
        sights.append([(entry, groups[place]) for place, entry in own_exits])
    return least_with_the_same(sights)


def groups_by_steps(table):
    """The groups in 0 steps, in 1 step and so on, up to those that no further step changes."""
    told = [groups_at_once(table)]
    finer = groups_one_step_on(table, told[0])
    # What one step more leaves as it is, is left so by every further one too.
    while finer != told[-1]:
        told.append(finer)
        finer = groups_one_step_on(table, finer)
    return told


def steps_apart(table, u, v):
    """In how many steps u and v are told apart, at least, or ALIKE."""
    for steps, groups in enumerate(groups_by_steps(table)):
        if groups[u] != groups[v]:
            return steps
    return ALIKE


def class_of_each(table):
    """Of each place its class: the least place that's alike."""
    return groups_by_steps(table)[-1]


def side_by_side(table, second_table):
    """Both tables as one, in which the places of the second are numbered on behind those of the first."""
    both = list(table)
    for own_exits in second_table:
        both.append([(place + len(table), entry) for place, entry in own_exits])
    return both


def exits(n, u, net):
    """How many exits u has; then of each to which place it leads, and by which exit of that one one comes in."""
    refusal = refusal_of_place(n, u, net)
    if refusal != NO_REFUSAL:
        return [refusal]
    own_exits = exit_table(n, links_of(net))[u]
    answer = [len(own_exits)]
    for place, entry in own_exits:
        answer.append(place)
        answer.append(entry)
    return answer


def walk(n, u, net, word):
    """How many places one is in by a word, from u on, with the first; then these."""
    refusal = refusal_of_walk(n, u, net, word)
    if refusal != NO_REFUSAL:
        return [refusal]
    table = exit_table(n, links_of(net))
    place = u
    answer = [len(word) + 1, place]
    for letter in word:
        place = after_letter(table, place, letter)[0]
        answer.append(place)
    return answer


def seen(n, u, net, word):
    """How many numbers are seen by a word, from u on; then these."""
    refusal = refusal_of_walk(n, u, net, word)
    if refusal != NO_REFUSAL:
        return [refusal]
    table = exit_table(n, links_of(net))
    place = u
    answer = [1 + 2 * len(word), len(table[place])]
    for letter in word:
        arrival = after_letter(table, place, letter)
        place = arrival[0]
        answer.append(arrival[1])
        answer.append(len(table[place]))
    return answer


def apart(n, u, v, net):
    """In how many steps u and v are told apart, at least; -6 if they're alike."""
    refusal = refusal_of_places(n, u, v, net)
    if refusal != NO_REFUSAL:
        return [refusal]
    return [steps_apart(exit_table(n, links_of(net)), u, v)]


def classes(n, net):
    """How many places there are; then the class of each."""
    if not is_net(n, net):
        return [NOT_A_NET]
    return [n] + class_of_each(exit_table(n, links_of(net)))


def distance(n, u, v, net):
    """How few steps lead from u to v."""
    refusal = refusal_of_places(n, u, v, net)
    if refusal != NO_REFUSAL:
        return [refusal]
    return [steps_from(exit_table(n, links_of(net)), u)[v]]


def two(n, m, u, v, net, second):
    """In how many steps place u of the net and v of the second are told apart, at least; -6 if they're alike."""
    refusal = refusal_of_two(n, m, u, v, net, second)
    if refusal != NO_REFUSAL:
        return [refusal]
    both = side_by_side(exit_table(n, links_of(net)), exit_table(m, links_of(second)))
    return [steps_apart(both, u, n + v)]


def least(n, net):
    """How many classes there are; then of each its least place, how many exits that has, and of each exit the class
    of the place to which it leads, and by which exit of that one one comes in."""
    if not is_net(n, net):
        return [NOT_A_NET]
    table = exit_table(n, links_of(net))
    class_of = class_of_each(table)
    least_places = [place for place in range(n) if class_of[place] == place]
    answer = [len(least_places)]
    for least_place in least_places:
        answer.append(least_place)
        answer.append(len(table[least_place]))
        for place, entry in table[least_place]:
            answer.append(class_of[place])
            answer.append(entry)
    return answer
