"""The closing over a world."""

from shownpart.closing.division import GIVEN, Store, division_of


class Over:
    """The division of the nodes of a book and some terms together with the things of a world."""

    def __init__(self, book, world, terms):
        self.ground = world
        self.store = Store(book.contents.table)
        for term in terms:
            self.store.number_of(term)
        self.rules = book.contents.rules
        self.own = list(range(len(self.store.table)))
        self.division = division_of(self.store, self.rules, [])
        # The numbers of the things that stand in classes; a thing is a term without a name.
        self.ends = {}
        # For the leader of each class with a thing this thing, as far as it was seen.
        self.things = {}
        self.is_broken = False
        self.close()

    def close(self):
        """Join nodes with their values, and what is joined then, until nothing more is joined or two things are."""
        joints = self.division.joints
        many = -1
        while many < len(joints) and not self.is_broken:
            many = len(joints)
            for number in self.own:
                self.join_with_value(number)
            self.division.settle(self.rules)
            leaders = self.division.leaders
            self.things = {leaders[self.ends[thing]]: thing for thing in self.ends}
            self.is_broken = len(self.things) < len(self.ends) or self.division.broken is not None

    def join_with_value(self, number):
        """Join a node with its value, if the world has its name, and its terms are with things."""
        row = self.store.table[number]
        leaders = self.division.leaders
        below = tuple([self.things.get(leaders[part]) for part in row[1:]])
        if None in below or row[0] not in self.ground:
            return
        thing = self.ground.looked_up(row[0], below)
        if thing not in self.ends:
            self.ends[thing] = self.store.number_of_row((thing,))
            self.division.include([self.ends[thing]])
        self.division.merge(number, self.ends[thing], GIVEN)
        self.things[leaders[number]] = thing

    def thing_of(self, number):
        """The thing in the class of a node, or `None`."""
        return self.things.get(self.division.leaders[number])
