"""Cases: which visible terms a hidden term is equal to, and under which visible pairs."""

from shownpart.base.terms import check_term_over, has_names, joint_places
from shownpart.books.books import check_book, stands_hidden
from shownpart.closing.closing import Closing, is_empty
from shownpart.closing.division import Store, division_of
from shownpart.closing.rules import fact_from, joined_by, reduced
from shownpart.errors import InvalidOperation
from shownpart.growths.growths import carries, is_visible_fact
from shownpart.growths.meeting import Meeting
from shownpart.shown.limits import check_limits, terms_with
from shownpart.shown.states import State


def hidden_classes(book):
    """The hidden classes of the book, in the order of its classes; none for an empty book."""
    closing = Closing(book)
    return closing.hidden_classes() if closing else ()


def hidden_terms(book):
    """The ascending tuple of the nodes of the book in which a hidden name stands."""
    check_book(book)
    return terms_with(book.contents.secret, book.nodes)


def cases(book, term):
    """Complete cases of a term, one after the other."""
    check_book(book)
    check_term_over(term, book.contents.places)
    check_limits(book, book.contents.secret, [term])
    for case in complete_cases(book, term):
        yield case


def case_at(book, term, world):
    """A case of a term whose conditions hold in a world that carries the book, or `None`."""
    check_book(book)
    check_term_over(term, book.contents.places)
    if not carries(book, world):
        raise InvalidOperation("the world does not carry the book")
    if is_visible_term(book, term):
        return ((), term)
    meeting = Meeting(book, world, term)
    reading = meeting.reading_of_wanted()
    if reading is None:
        return None
    rule = (list(meeting.pairs), (meeting.wanted, reading))
    return case_from(meeting.store, reduced(meeting.base, meeting.rules, rule))


def is_case(book, term, value):
    """Whether the value is a case of a term."""
    check_book(book)
    check_term_over(term, book.contents.places)
    if not isinstance(value, tuple) or len(value) != 2:
        return False
    conditions, reading = value
    if not is_visible_fact(book, (conditions, None)) or not is_visible_term(book, reading):
        return False
    closing = Closing.of(book, conditions, (term, reading))
    return not closing.has_failed and closing.equal(term, reading)


def are_cases(book, term, value):
    """Whether the value is a tuple of cases of a term that are complete."""
    check_book(book)
    check_term_over(term, book.contents.places)
    check_limits(book, book.contents.secret, [term])
    if not isinstance(value, tuple) or not all([is_case(book, term, case) for case in value]):
        return False
    # Where the conditions of a case hold and nothing more does, those of one of the others must follow.
    for conditions, _ in complete_cases(book, term):
        closing = Closing.of(book, conditions, ())
        if not any([all([closing.equal(one, other) for one, other in further]) for further, _ in value]):
            return False
    return True


def is_visible_term(book, value):
    """Whether the value is a term over visible names of the book."""
    places = joint_places([value])
    if places is None or not has_names(book.contents.places, places):
        return False
    return not stands_hidden(book.contents.secret, places)


def complete_cases(book, term):
    """A list of complete cases of a term.

    Like the search for visible facts, it goes from a closing by visible pairs
    on to those by the pairs of further steps, up to those in which the class of
    the term is known.
    """
    if is_empty(book):
        return []
    if is_visible_term(book, term):
        return [((), term)]
    rules = book.contents.rules
    store = Store(book.contents.table)
    number = store.number_of(term)
    base = division_of(store, rules, [])
    found = {}
    waiting = [(base, (), ())]
    while waiting:
        division, pairs, barred = waiting.pop()
        if division.broken is not None or any([division.have_joined(further) for further in barred]):
            continue
        state = State(division, book.contents.secret, pairs)
        if state.is_known(number):
            rule = reduced(base, rules, (pairs, (number, state.reading(number))))
            found.setdefault(tuple(rule[0]), case_from(store, rule))
            continue
        ahead = list(barred)
        behind = []
        for further in state.pairs_onward(rules):
            behind.append((joined_by(division, rules, further), (*pairs, *further), tuple(ahead)))
            ahead.append(further)
        waiting.extend(behind[::-1])
    return list(found.values())


def case_from(store, rule):
    """The case with the conditions of a rule that tells a term and its reading."""
    return (fact_from(store, (rule[0], None))[0], store.term_of(rule[1][1]))
