"""Worlds: things, and for each name a value at all of them."""

from shownpart.base.facts import check_fact_over
from shownpart.base.terms import by_name, check_renaming, check_term_over, has_names, is_name
from shownpart.base.walks import preorder
from shownpart.books.books import check_book, check_known, check_places, is_places
from shownpart.errors import InvalidBook, InvalidName, InvalidNumber, InvalidOperation, InvalidWorld, TooMany

MAX_THINGS = 400
MAX_DIGITS = 100


class World:
    """Things from 0 on, and for each name a table of rows; all rows that are not told lead to the rest."""

    def __init__(self, size, rest=0, **tables):
        check_number_of_things(size)
        if not is_thing(rest, size):
            raise InvalidNumber(rest)
        self._size = size
        self._rest = rest
        self._places, self._tables = checked_tables(size, rest, tables)

    @classmethod
    def of(cls, size, rest, tables):
        """The world with tables that a dict tells."""
        world = cls(size, rest)
        world._places, world._tables = checked_tables(size, rest, tables)
        return world

    @property
    def size(self):
        """The number of things."""
        return self._size

    @property
    def rest(self):
        """The thing to which all rows lead that are not told."""
        return self._rest

    @property
    def names(self):
        """A dict from the names to their places."""
        return dict(self._places)

    @property
    def rows(self):
        """The ascending tuple of the rows whose value is not the rest."""
        tables = self._tables
        return tuple(sorted([(name, *things, tables[name][things]) for name in tables for things in tables[name]]))

    def __call__(self, term):
        check_term_over(term, self._places)
        return self.value_of(term)

    def at(self, name, *things):
        """The value of a name at some things."""
        check_known(self._places, [name])
        for thing in things:
            if not is_thing(thing, self._size):
                raise InvalidNumber(thing)
        if len(things) != self._places[name]:
            raise InvalidWorld("another number of things than places")
        return self.looked_up(name, things)

    def holds(self, fact):
        """Whether a fact holds."""
        check_fact_over(fact, self._places)
        if not all([self.value_of(one) == self.value_of(other) for one, other in fact[0]]):
            return True
        return fact[1] is not None and self.value_of(fact[1][0]) == self.value_of(fact[1][1])

    def keeps(self, book):
        """Whether all facts of a book hold."""
        check_book(book)
        if not has_names(self._places, book.contents.places):
            raise InvalidBook("a name that the world does not have, or with other places")
        return self.is_world_of(book)

    def __len__(self):
        return len(range(self._size))

    def __contains__(self, value):
        return isinstance(value, str) and value in self._places

    def __eq__(self, other):
        return (
            isinstance(other, World) and self._size == other._size and self._rest == other._rest
            and self._places == other._places and self._tables == other._tables
        )

    def __str__(self):
        return f"world of {self._size} things: {names_told(self._places)}"

    def with_table(self, name, places, rows):
        """The world with one more name, or another table for it."""
        if not is_name(name):
            raise InvalidName("no name")
        if not is_places(places):
            raise InvalidNumber(places)
        table = checked_rows(self._size, self._rest, places, rows)
        return self.changed_to({**self._places, name: places}, {**self._tables, name: table})

    def only(self, *names):
        """The world with these names alone."""
        check_known(self._places, names)
        return self.changed_to({name: self._places[name] for name in names}, self._tables)

    def renamed(self, **names):
        """The world with other names, told by keywords."""
        return self.renamed_by(names)

    def renamed_by(self, names):
        """The world with other names, told by a dict."""
        check_renaming(self._places, names)
        places = {names.get(name, name): self._places[name] for name in self._places}
        return self.changed_to(places, {names.get(name, name): self._tables[name] for name in self._tables})

    def changed_to(self, places, tables):
        """The world with these names and their tables, and the same things."""
        return world_of(self._size, self._rest, places, tables)

    def copied(self, things):
        """The copy by a tuple of things."""
        if not isinstance(things, tuple) or len(things) != self._size or not are_things(things, self._size):
            raise InvalidOperation("no tuple with each thing once")
        numbers = {thing: k for k, thing in enumerate(things)}
        if len(numbers) < self._size:
            raise InvalidOperation("a thing that comes twice")
        tables = {name: renumbered(self._tables[name], numbers) for name in self._tables}
        return world_of(self._size, numbers[self._rest], self._places, tables)

    def is_world_of(self, book):
        """Whether the world has all names of a book, and all its facts hold."""
        if not has_names(self._places, book.contents.places):
            return False
        values = self.values_of(book.contents.table)
        for conditions, conclusion in book.contents.rules:
            if all([values[one] == values[other] for one, other in conditions]):
                if conclusion is None or values[conclusion[0]] != values[conclusion[1]]:
                    return False
        return True

    def looked_up(self, name, things):
        """The value of a name that the world has, at as many things as it has places."""
        return self._tables[name].get(things, self._rest)

    def value_of(self, term):
        """The value of a term that is known to be one over names of the world."""
        ready = []
        for part in preorder([term])[::-1]:
            below = [ready.pop() for _ in part[1:]]
            ready.append(self.looked_up(part[0], tuple(below)))
        return ready[0]

    def values_of(self, rows):
        """The values of the terms that some rows tell, row by row."""
        values = []
        for row in rows:
            values.append(self.looked_up(row[0], tuple([values[number] for number in row[1:]])))
        return values


def worlds_of(size, names):
    """All different worlds with so many things, the rest 0 and these names, one after the other."""
    check_number_of_things(size)
    check_places(names)
    places = by_name(names)
    many = number_of_rows(size, places)
    told = {}
    place = -1
    # The values are counted up as the digits of a number; only those other than 0 are kept,
    # for there can be far too many rows to go through.
    while place < many:
        yield world_of(size, 0, places, tables_told(size, places, told))
        place = 0
        while place < many and told.get(place, 0) == size - 1:
            told.pop(place, None)
            place += 1
        if place < many:
            told[place] = told.get(place, 0) + 1


def number_of_worlds(size, names):
    """How many different worlds there are with so many things, the rest 0 and these names."""
    check_number_of_things(size)
    check_places(names)
    result = 1
    for _ in range(number_of_rows(size, names)):
        result = result * size
        if len(str(result)) > MAX_DIGITS:
            raise TooMany(MAX_DIGITS)
    return result


def check_number_of_things(value):
    """Raise `InvalidNumber` if the value is no number of things."""
    if not is_whole(value) or not 1 <= value <= MAX_THINGS:
        raise InvalidNumber(value)


def check_world(value):
    """Raise `InvalidWorld` if the value is no world."""
    if not isinstance(value, World):
        raise InvalidWorld("no world")


def is_whole(value):
    """Whether the value is an integer."""
    return isinstance(value, int) and not isinstance(value, bool)


def is_thing(value, size):
    """Whether the value is one of so many things."""
    return is_whole(value) and 0 <= value < size


def are_things(values, size):
    """Whether all of the values are among so many things."""
    return all([is_thing(value, size) for value in values])


def world_of(size, rest, places, tables):
    """The world of values that are known to be right, with any number of things.

    The tables have no rows that lead to the rest, and may have more names than the places.
    """
    world = World(1)
    world._size = size
    world._rest = rest
    world._places = by_name(places)
    world._tables = {name: tables[name] for name in world._places}
    return world


def names_told(places):
    """The names with these places, in order, for a text."""
    return ", ".join(list(places)) if places else "nothing"


def tables_of(world):
    """New tables of a world: for each name a dict of the rows that do not lead to the rest."""
    tables = world._tables
    return {name: {things: tables[name][things] for things in tables[name]} for name in tables}


def checked_tables(size, rest, tables):
    """Two dicts from the names to their places and to their tables, without rows that lead to the rest."""
    if not isinstance(tables, dict):
        raise InvalidWorld("no dict from names to tables")
    places = {}
    rows = {}
    for name in tables:
        pair = tables[name]
        if not is_name(name) or not isinstance(pair, tuple) or len(pair) != 2 or not is_places(pair[0]):
            raise InvalidWorld("no name, or no pair of places and rows")
        places[name] = pair[0]
        rows[name] = checked_rows(size, rest, pair[0], pair[1])
    return by_name(places), rows


def checked_rows(size, rest, places, rows):
    """A dict of those of some rows that do not lead to the rest."""
    if not isinstance(rows, dict):
        raise InvalidWorld("no dict from tuples of things to things")
    for things in rows:
        if not isinstance(things, tuple) or len(things) != places:
            raise InvalidWorld("no tuple of as many things as places")
        if not are_things(things, size) or not is_thing(rows[things], size):
            raise InvalidWorld("no thing")
    return without_rest(rows, rest)


def without_rest(table, rest):
    """A table without its rows that lead to the rest."""
    return {things: table[things] for things in table if table[things] != rest}


def renumbered(table, numbers):
    """A table with other numbers for the things."""
    return {tuple([numbers[thing] for thing in things]): numbers[table[things]] for things in table}


def number_of_rows(size, places):
    """How many tuples of things all names have together, one thing for each place."""
    total = 0
    for name in places:
        many = 1
        for _ in range(places[name]):
            many = many * size
        total = total + many
    return total


def tables_told(size, places, told):
    """The tables of the names, in which some rows, under their numbers among all, have a value other than 0."""
    tables = {name: {} for name in places}
    for place in told:
        number = place
        for name in places:
            many = number_of_rows(size, {name: places[name]})
            if number < many:
                tables[name][things_of(size, places[name], number)] = told[place]
                break
            number = number - many
    return tables


def things_of(size, places, number):
    """The tuple of things that has this number among all for so many places."""
    things = []
    for _ in range(places):
        things.append(number % size)
        number = number // size
    return tuple(things[::-1])
