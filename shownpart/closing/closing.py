"""Closings: terms in classes, as a book and some pairs join them."""

from shownpart.base.facts import sides_of
from shownpart.base.terms import is_term, joint_places
from shownpart.base.walks import order_of, preorder, terms_from
from shownpart.base.worlds import world_of
from shownpart.books.books import check_book, joined_places
from shownpart.closing.division import Store, division_of
from shownpart.closing.readings import readings_of
from shownpart.errors import InvalidBook, InvalidFact, InvalidOperation, InvalidTerm


class Closing:
    """The least division of terms in which pairs are joined, and what the facts of a book join."""

    def __init__(self, book, *pairs, terms=()):
        check_book(book)
        if not all([isinstance(pair, tuple) and len(pair) == 2 and are_terms(pair) for pair in pairs]):
            raise InvalidFact("no tuple of two terms")
        if not isinstance(terms, tuple) or not are_terms(terms):
            raise InvalidTerm("no tuple of terms")
        places = joined_with(book.contents.places, [*sides_of(pairs), *terms])
        if places is None:
            raise InvalidBook("a name with unlike places")
        self.places = places
        self.store = Store(book.contents.table)
        joined = self.store.numbers_of_pairs(pairs)
        for term in terms:
            self.store.number_of(term)
        self.division = division_of(self.store, book.contents.rules, joined)
        self.order = order_of(self.store.table)
        terms_told = terms_from(self.store.table)
        self._nodes = tuple([terms_told[number] for number in self.order])
        groups = groups_of(self.division.leaders, self.order)
        self._classes = {leader: tuple([terms_told[number] for number in groups[leader]]) for leader in groups}
        # Readings may be further terms of the store, which are no nodes.
        self.readings = readings_of(self.division, book.contents.secret)

    @classmethod
    def of(cls, book, pairs, terms):
        """The closing of a tuple of terms by a book and a tuple of pairs."""
        check_book(book)
        if not isinstance(pairs, tuple):
            raise InvalidFact("no tuple of pairs")
        return cls(book, *pairs, terms=terms)

    @property
    def nodes(self):
        """The ascending tuple of the terms that are divided."""
        return self._nodes

    @property
    def classes(self):
        """The ascending tuple of the classes, each an ascending tuple of nodes."""
        return tuple(self._classes.values())

    @property
    def has_failed(self):
        """Whether all conditions of a fact that says never are in one class each."""
        return self.division.broken is not None

    @property
    def known(self):
        """The tuple of the known classes, in the order of the classes."""
        return tuple([self._classes[leader] for leader in self._classes if leader in self.readings])

    def __len__(self):
        return len(self._classes)

    def __contains__(self, value):
        return is_term(value) and self.node_number(value) is not None

    def __bool__(self):
        return self.division.broken is None

    def __str__(self):
        if self.division.broken is not None:
            return "closing that failed"
        return f"closing with {len(self._classes)} classes"

    def class_of(self, term):
        """The class of a node."""
        return self._classes[self.leader_of_node(term)]

    def equal(self, term, other):
        """Whether two terms are in one class of the closing that has both among its terms besides."""
        places = joined_with(self.places, [term])
        if places is None:
            raise InvalidTerm("no term, or a name with unlike places")
        if joined_with(places, [other]) is None:
            raise InvalidTerm("no term, or a name with unlike places")
        further = {}
        return self.class_number(term, further) == self.class_number(other, further)

    def reading(self, term):
        """A visible term that has the value of a node, if its class is known, or `None`."""
        leader = self.leader_of_node(term)
        return self.store.term_of(self.readings[leader]) if leader in self.readings else None

    def world(self):
        """The closed world."""
        if self.division.broken is not None:
            raise InvalidOperation("the closing has failed")
        leaders = self.division.leaders
        things = {leader: thing for thing, leader in enumerate(self._classes)}
        tables = {name: {} for name in self.places}
        for number in self.order:
            row = self.store.table[number]
            below = tuple([things[leaders[part]] for part in row[1:]])
            tables[row[0]][below] = things[leaders[number]]
        return world_of(len(things) + 1, len(things), self.places, tables)

    def hidden_classes(self):
        """The tuple of the other classes, in the order of the classes."""
        return tuple([self._classes[leader] for leader in self._classes if leader not in self.readings])

    def hidden_things(self):
        """The list of the things that the hidden classes are in the closed world."""
        return [thing for thing, leader in enumerate(self._classes) if leader not in self.readings]

    def node_number(self, term):
        """The number of a term that is a node, or `None`."""
        ready = []
        for part in preorder([term])[::-1]:
            below = [ready.pop() for _ in part[1:]]
            # No row has None among its numbers, so neither is a term found that has no node in it.
            ready.append(self.store.numbers.get((part[0], *below)))
        return ready[0] if ready[0] in self.division.leaders else None

    def leader_of_node(self, term):
        """The leader of a term that must be a node."""
        number = self.node_number(term) if is_term(term) else None
        if number is None:
            raise InvalidTerm("no node")
        return self.division.leaders[number]

    def class_number(self, term, further):
        """The leader of a term, or a number below 0 for a class without nodes, which `further` tells then."""
        ready = []
        for part in preorder([term])[::-1]:
            form = (part[0], *[ready.pop() for _ in part[1:]])
            if form in self.division.forms:
                ready.append(self.division.leaders[self.division.forms[form]])
            else:
                ready.append(further.setdefault(form, -1 - len(further)))
        return ready[0]


def is_empty(book):
    """Whether the book holds in no world."""
    check_book(book)
    return division_of(Store(book.contents.table), book.contents.rules, []).broken is not None


def joined_pairs(closing):
    """The ascending tuple of the pairs of the least node of a class and each other node of it."""
    if not isinstance(closing, Closing):
        raise InvalidOperation("no closing")
    return tuple([(told[0], other) for told in closing.classes for other in told[1:]])


def are_terms(values):
    """Whether all of the values are terms."""
    return all([is_term(value) for value in values])


def joined_with(places, values):
    """The dict of these places and those in some values, or `None` if one is no term or a name has unlike places."""
    found = joint_places(values)
    return None if found is None else joined_places(places, found)


def groups_of(leaders, order):
    """A dict from the leader of each class to its numbers, by the first of them in this order."""
    groups = {}
    for number in order:
        groups.setdefault(leaders[number], []).append(number)
    return groups
