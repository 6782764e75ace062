"""What a world makes of the hidden terms of a book, told by visible terms."""

from shownpart.closing.division import Store, division_of
from shownpart.closing.readings import flat, shortest_nodes


class Meeting:
    """The closing of a book by visible pairs that hold in a world.

    Only those pairs are taken that let terms fall together which have no value
    in the world by themselves. Then the classes are those of the closing over
    the world, but for known ones with the same value, which stay apart. If a
    term is wanted, no more pairs are taken than make its class known.
    """

    def __init__(self, book, world, wanted):
        self.ground = world
        self.secret = book.contents.secret
        self.rules = book.contents.rules
        self.store = Store(book.contents.table)
        self.wanted = None if wanted is None else self.store.number_of(wanted)
        self.base = division_of(self.store, self.rules, [])
        self.division = self.base.twin()
        # The pairs that were taken, in order.
        self.pairs = {}
        # For the leader of each known class its reading, and the value of that in the world.
        self.readings = {}
        self.worth = {}
        # A rule that follows from the book, and fails in the world.
        self.clash = None
        while self.go_on():
            self.division.settle(self.rules)

    def go_on(self):
        """Find a clash, or take further pairs, and tell whether there were any."""
        if self.division.broken is not None:
            self.clash = (list(self.pairs), None)
            return False
        self.measure()
        if self.clash is not None or self.reading_of_wanted() is not None:
            return False
        found = [*self.pairs_by_places(), *self.pairs_by_rules()]
        for pair in found:
            self.pairs[pair] = True
        self.division.join_all(found)
        return len(found) > 0

    def measure(self):
        """Find readings and values of the known classes, or a class with two values."""
        leaders = self.division.leaders
        nodes = shortest_nodes(self.division, self.secret)
        self.readings = {}
        self.worth = {}
        for leader in nodes:
            self.readings[leader] = flat(self.division, nodes[leader], self.readings)
            self.worth[leader] = self.value_by(nodes[leader])
        for number in leaders:
            leader = leaders[number]
            if not self.is_open(number) and self.value_by(number) != self.worth[leader]:
                other = flat(self.division, number, self.readings)
                self.clash = (list(self.pairs), (self.readings[leader], other))
                return

    def reading_of_wanted(self):
        """The reading of the wanted term, or `None` if there is none."""
        return None if self.wanted is None else self.readings.get(self.division.leaders[self.wanted])

    def is_open(self, number):
        """Whether the name of a node is hidden, or one of its terms is in no known class."""
        row = self.store.table[number]
        return row[0] in self.secret or not all([self.division.leaders[part] in self.readings for part in row[1:]])

    def value_by(self, number):
        """The value of the name of a node at the values of its terms."""
        row = self.store.table[number]
        return self.ground.looked_up(row[0], tuple([self.worth[self.division.leaders[part]] for part in row[1:]]))

    def is_known_pair(self, one, other):
        """Whether the classes of two nodes are known and have equal values."""
        values = [self.worth.get(self.division.leaders[number]) for number in (one, other)]
        return values[0] is not None and values[0] == values[1]

    def pairs_by_places(self):
        """Pairs of readings with equal values that join open nodes of one name."""
        found = []
        firsts = {}
        for number in self.division.leaders:
            if self.is_open(number):
                like = firsts.setdefault(self.form_of(number), number)
                if not self.division.are_joined(number, like) and not self.is_known_pair(number, like):
                    rows = self.store.table
                    found.extend(self.apart(list(zip(rows[number][1:], rows[like][1:]))))
        return found

    def form_of(self, number):
        """The name of a node, and the values or the leaders of its terms."""
        row = self.store.table[number]
        leaders = [self.division.leaders[part] for part in row[1:]]
        # Things are written as numbers below 0, so that none is taken for a leader.
        return (row[0], *[-1 - self.worth[leader] if leader in self.worth else leader for leader in leaders])

    def pairs_by_rules(self):
        """Pairs of readings with equal values that make all conditions of a rule hold."""
        found = []
        for conditions, conclusion in self.rules:
            if conclusion is not None:
                one, other = conclusion
                if self.division.are_joined(one, other) or self.is_known_pair(one, other):
                    continue
            pairs = [(one, other) for one, other in conditions if not self.division.are_joined(one, other)]
            if all([self.is_known_pair(one, other) for one, other in pairs]):
                found.extend(self.apart(pairs))
        return found

    def apart(self, pairs):
        """The pairs of the readings of those of some pairs, all of known classes or joined, that are not joined."""
        leaders = [(self.division.leaders[one], self.division.leaders[other]) for one, other in pairs]
        return [(self.readings[one], self.readings[other]) for one, other in leaders if one != other]
