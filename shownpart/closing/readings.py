"""Known classes of a division and their readings."""

from heapq import heappop, heappush


def shortest_nodes(division, hidden):
    """A dict from the leader of each known class to the term that tells its shortest reading.

    A known class comes behind those in which the terms of that term are.
    """
    rows = division.store.table
    queue = []
    missing = {}
    for number in sorted(division.leaders):
        row = rows[number]
        if row[0] not in hidden:
            missing[number] = len(row) - 1
            if len(row) == 1:
                heappush(queue, (1, number))
    sizes = {}
    found = {}
    while queue:
        size, number = heappop(queue)
        leader = division.leaders[number]
        if leader in found:
            continue
        found[leader] = number
        sizes[leader] = size
        # A term with several terms in this class stands there as many times.
        for user in division.users[leader]:
            if user in missing:
                missing[user] = missing[user] - 1
                if missing[user] == 0:
                    below = [sizes[division.leaders[part]] for part in rows[user][1:]]
                    heappush(queue, (1 + sum(below), user))
    return found


def readings_of(division, hidden):
    """A dict from the leader of each known class to the number of its shortest reading."""
    nodes = shortest_nodes(division, hidden)
    found = {}
    for leader in nodes:
        found[leader] = flat(division, nodes[leader], found)
    return found


def flat(division, number, readings):
    """The number of the term that has readings in the place of the terms of a term."""
    row = division.store.table[number]
    return division.store.number_of_row((row[0], *[readings[division.leaders[part]] for part in row[1:]]))
