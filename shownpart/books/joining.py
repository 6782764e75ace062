"""Several books, each two of them apart, as one."""

from shownpart.books.books import are_apart, book_of, check_book
from shownpart.errors import InvalidBook, InvalidOperation


def check_books(value):
    """Raise an error if the value is no tuple of books, or two of them are not apart."""
    if not isinstance(value, tuple):
        raise InvalidBook("no tuple of books")
    for book in value:
        check_book(book)
    if not all([are_apart(value[k], value[other]) for k in range(len(value)) for other in range(k)]):
        raise InvalidOperation("books that are not apart")


def joined(books):
    """The book with the facts, names and hidden names of some books, each two of them apart."""
    facts = [fact for book in books for fact in book.facts]
    hidden = [name for book in books for name in book.hidden]
    return book_of(facts, hidden, names_of(books))


def names_of(books):
    """A dict from the names of some books, each two of them apart, to their places."""
    return {name: book.contents.places[name] for book in books for name in book.contents.places}


def narrowed(book, names):
    """The book with all names hidden but some."""
    gone = [name for name in book.visible if name not in names]
    return book.hide(*gone)
