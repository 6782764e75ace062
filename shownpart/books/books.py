"""Books: facts, and names of which some are hidden."""

from shownpart.base.facts import (
    check_fact, fact_renamed_by, fact_text, is_fact, pairs_in, places_in, read_fact, sides_of,
)
from shownpart.base.terms import MAX_PLACES, check_renaming, is_name, joint_places
from shownpart.books.contents import Contents
from shownpart.errors import InvalidBook, InvalidFact, InvalidName, InvalidOperation, ParseError, TooMany, UnknownName


class Book:
    """Facts over names, some of which may be hidden."""

    MAX_NODES = 80

    def __init__(self, *facts, hidden=(), names=None):
        check_facts(facts)
        if not isinstance(hidden, tuple) or not all([is_name(name) for name in hidden]):
            raise InvalidName("no tuple of names")
        further = {} if names is None else names
        check_places(further)
        places = places_with(further, facts)
        if not all([name in places for name in hidden]):
            raise InvalidBook("a hidden name that is no name of the book")
        self.contents = Contents(facts, hidden, places)
        check_size(self)

    @classmethod
    def of(cls, facts, hidden, names):
        """The book of a tuple of facts, a tuple of hidden names, and further names."""
        if not isinstance(facts, tuple):
            raise InvalidFact("no tuple of facts")
        return cls(*facts, hidden=hidden, names=names)

    @classmethod
    def read(cls, text):
        """The book with this text."""
        if not isinstance(text, str):
            raise ParseError("no text of a book")
        book = read_lines(text.split("\n")) if text else cls()
        if book.text != text:
            raise ParseError("no text of a book")
        check_size(book)
        return book

    @property
    def names(self):
        """A dict from all names to their places."""
        return dict(self.contents.places)

    @property
    def hidden(self):
        """The ascending tuple of the hidden names."""
        return tuple(self.contents.secret)

    @property
    def visible(self):
        """The ascending tuple of the names that are not hidden."""
        return tuple([name for name in self.contents.places if name not in self.contents.secret])

    @property
    def facts(self):
        """The ascending tuple of the facts."""
        return self.contents.fact_list

    @property
    def nodes(self):
        """The ascending tuple of the different subterms of the facts."""
        return self.contents.node_list

    @property
    def text(self):
        """The text of the book."""
        return self.contents.whole_text

    def __len__(self):
        return len(self.contents.fact_list)

    def __contains__(self, value):
        return is_fact(value) and fact_text(value) in self.contents.by_text

    def __eq__(self, other):
        return isinstance(other, Book) and self.contents.whole_text == other.contents.whole_text

    def __str__(self):
        return f"book of {len(self.contents.fact_list)} facts, {len(self.contents.secret)} hidden"

    def __or__(self, other):
        if not isinstance(other, Book) or not are_apart(self, other):
            raise InvalidOperation("no book, or one that is not apart")
        hidden = [*self.hidden, *other.hidden]
        places = joined_places(self.contents.places, other.contents.places)
        return book_of([*self.facts, *other.facts], hidden, places)

    def with_facts(self, *facts):
        """The book with more facts."""
        check_facts(facts)
        places = places_with(self.contents.places, facts)
        book = book_of([*self.facts, *facts], self.hidden, places)
        check_size(book)
        return book

    def without_facts(self, *facts):
        """The book without some of its facts, whose names stay."""
        gone = {}
        for fact in facts:
            if fact not in self:
                raise InvalidFact("no fact of the book")
            gone[fact_text(fact)] = True
        rest = [fact for text, fact in self.contents.by_text.items() if text not in gone]
        return book_of(rest, self.hidden, self.contents.places)

    def with_names(self, **names):
        """The book with more visible names."""
        check_places(names)
        places = joined_places(self.contents.places, names)
        if places is None:
            raise InvalidBook("a name with unlike places")
        return book_of(self.facts, self.hidden, places)

    def hide(self, *names):
        """The book in which these names are hidden."""
        check_known(self.contents.places, names)
        return book_of(self.facts, [*self.hidden, *names], self.contents.places)

    def reveal(self, *names):
        """The book in which these names are visible."""
        check_known(self.contents.places, names)
        return book_of(self.facts, [name for name in self.hidden if name not in names], self.contents.places)

    def renamed(self, **names):
        """The book with other names, told by keywords."""
        return self.renamed_by(names)

    def renamed_by(self, names):
        """The book with other names, told by a dict."""
        places = self.contents.places
        check_renaming(places, names)
        facts = [fact_renamed_by(fact, names) for fact in self.facts]
        hidden = [names.get(name, name) for name in self.hidden]
        return book_of(facts, hidden, {names.get(name, name): places[name] for name in places})

    def visible_part(self):
        """The book of the visible facts, with the visible names."""
        hidden = self.contents.secret
        facts = [fact for fact in self.facts if not stands_hidden(hidden, places_in(fact))]
        return book_of(facts, (), {name: self.contents.places[name] for name in self.visible})


def are_apart(first, second):
    """Whether no hidden name of one book is a name of the other, and common names have equal places."""
    check_book(first)
    check_book(second)
    one = first.contents
    other = second.contents
    if stands_hidden(one.secret, other.places) or stands_hidden(other.secret, one.places):
        return False
    return joined_places(one.places, other.places) is not None


def check_book(value):
    """Raise `InvalidBook` if the value is no book."""
    if not isinstance(value, Book):
        raise InvalidBook("no book")


def check_facts(values):
    """Raise `InvalidFact` for the first value that is no fact."""
    for value in values:
        check_fact(value)


def check_places(value):
    """Raise `InvalidName` if the value is no dict from names to numbers of places."""
    if not isinstance(value, dict) or not all([is_name(name) and is_places(value[name]) for name in value]):
        raise InvalidName("no dict from names to places")


def check_known(places, names):
    """Raise `UnknownName` for the first of some values that is none of the names with these places."""
    for name in names:
        if not isinstance(name, str) or name not in places:
            raise UnknownName(name)


def check_size(book):
    """Raise `TooMany` if the book has more nodes than one that is made may have."""
    if len(book.nodes) > Book.MAX_NODES:
        raise TooMany(Book.MAX_NODES)


def is_places(value):
    """Whether the value is a number of places."""
    return isinstance(value, int) and not isinstance(value, bool) and 0 <= value <= MAX_PLACES


def stands_hidden(hidden, names):
    """Whether one of the names is hidden."""
    return any([name in hidden for name in names])


def joined_places(one, other):
    """The dict of the places of two dicts, or `None` if a name has unlike places in them."""
    if not all([one.get(name, other[name]) == other[name] for name in other]):
        return None
    return {**one, **other}


def places_of_facts(facts):
    """A dict from the names in some facts to their places, or `None` if a name has unlike ones."""
    return joint_places(sides_of([pair for fact in facts for pair in pairs_in(fact)]))


def places_with(places, facts):
    """The dict of these places and those of the names in some facts: `InvalidBook` if a name has unlike ones."""
    found = places_of_facts(facts)
    result = None if found is None else joined_places(places, found)
    if result is None:
        raise InvalidBook("a name with unlike places")
    return result


def book_of(facts, hidden, places):
    """The book of values that are known to be right, with any number of nodes."""
    book = Book()
    book.contents = Contents(facts, hidden, places)
    return book


def read_lines(lines):
    """The book that some lines tell, perhaps in another order than that of its text."""
    hidden = []
    places = {}
    rest = list(lines)
    if rest[0].startswith("hidden "):
        hidden = rest.pop(0).removeprefix("hidden ").split(",")
    if rest and rest[0].startswith("names "):
        words = rest.pop(0).removeprefix("names ").split(",")
        for word in words:
            name, _, many = word.partition("/")
            if not is_name(name) or many not in ("0", "1", "2", "3"):
                raise ParseError("no name with its places")
            places[name] = int(many)
    facts = [read_fact(line) for line in rest]
    found = places_of_facts(facts)
    joined = None if found is None else joined_places(places, found)
    if joined is None or not all([name in joined for name in hidden]):
        raise ParseError("unlike places, or a hidden name that is no name of the book")
    return book_of(facts, hidden, joined)
