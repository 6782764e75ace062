"""Edits of the parts of a board."""

from shownpart.base.facts import is_fact, places_in
from shownpart.base.terms import by_name, has_names, is_name
from shownpart.books.books import Book, are_apart
from shownpart.errors import InvalidEdit, TooMany


def edited(parts, edit):
    """The parts behind an edit: `InvalidEdit` if it is none, or not possible."""
    if not is_edit(edit):
        raise InvalidEdit("no edit")
    word = edit[0]
    name = edit[1]
    if word != "put" and name not in parts:
        raise InvalidEdit("no part of this name")
    others = {other: parts[other] for other in parts if other != name}
    if word == "drop":
        return others
    book = edit[2] if word == "put" else changed_part(parts[name], word, edit[2])
    if not all([are_apart(book, others[other]) for other in others]):
        raise InvalidEdit("a part that is not apart from another one")
    return by_name({**others, name: book})


def is_edit(value):
    """Whether the value is an edit, possible or not."""
    if not isinstance(value, tuple) or len(value) not in (2, 3) or not is_name(value[1]):
        return False
    if len(value) == 2:
        return value[0] == "drop"
    if value[0] == "put":
        return isinstance(value[2], Book)
    if value[0] in ("tell", "untell"):
        return is_fact(value[2])
    return value[0] in ("hide", "reveal") and is_name(value[2])


def changed_part(book, word, value):
    """The part behind an edit of it."""
    if word == "tell":
        return with_fact(book, value)
    if word == "untell":
        if value not in book:
            raise InvalidEdit("no fact of the part")
        return book.without_facts(value)
    if word == "hide":
        if value not in book.visible:
            raise InvalidEdit("no visible name of the part")
        return book.hide(value)
    if value not in book.hidden:
        raise InvalidEdit("no hidden name of the part")
    return book.reveal(value)


def with_fact(book, fact):
    """The part with one more fact over its names."""
    if fact in book or not has_names(book.contents.places, places_in(fact)):
        raise InvalidEdit("a fact of the part, or one over other names")
    try:
        return book.with_facts(fact)
    except TooMany:
        raise InvalidEdit("too many nodes") from None
