"""What follows from books, and papers that show it."""

from shownpart.base.facts import check_fact_over, pairs_in, places_in, sides_of
from shownpart.base.terms import has_names
from shownpart.base.worlds import World
from shownpart.books.books import book_of, check_book
from shownpart.closing.closing import Closing
from shownpart.closing.division import Store, division_of
from shownpart.closing.judge import Judge
from shownpart.closing.rules import follows_in, is_settled, rule_of
from shownpart.closing.steps import Steps
from shownpart.errors import InvalidOperation, TooMany

MAX_FACTS = 10


def follows(book, fact):
    """Whether a fact over names of the book follows from it."""
    check_book(book)
    check_fact_over(fact, book.contents.places)
    return first_untold(book, [fact]) is None


def follow_paper(book, fact):
    """A paper that shows whether a fact follows from the book."""
    check_book(book)
    check_fact_over(fact, book.contents.places)
    rules = book.contents.rules
    store = Store(book.contents.table)
    conditions, conclusion = rule_of(store, fact)
    division = division_of(store, rules, conditions)
    if not is_settled(division, conclusion):
        terms = tuple(sides_of(pairs_in(fact)))
        return ("world", Closing.of(book, fact[0], terms).world())
    steps = Steps(division, book.facts, rules)
    if conclusion is not None and division.have_joined([conclusion]):
        steps.show([conclusion])
    else:
        steps.show_never(division.broken)
    return ("steps", tuple(steps.made))


def is_follow_paper(book, fact, value):
    """Whether the value is a paper that shows whether a fact follows from the book."""
    check_book(book)
    check_fact_over(fact, book.contents.places)
    if not isinstance(value, tuple) or len(value) != 2:
        return False
    if value[0] == "steps":
        return Judge(book, fact).accepts(value[1])
    return value[0] == "world" and parts_from(book, fact, value[1])


def tells(book, other):
    """Whether each fact of the other book follows from the book."""
    return untold_fact(book, other) is None


def untold_fact(book, other):
    """A fact of the other book that does not follow from the book, or `None`."""
    check_book(book)
    check_book(other)
    if not all([has_names(book.contents.places, places_in(fact)) for fact in other.facts]):
        raise InvalidOperation("a fact over other names")
    return first_untold(book, other.facts)


def are_alike(first, second):
    """Whether two books have equal names with equal places, and each follows from the other."""
    check_book(first)
    check_book(second)
    return first.contents.places == second.contents.places and unlike_fact(first, second) is None


def unlike_fact(first, second):
    """A fact of one of two books that does not follow from the other one, or `None`."""
    check_book(first)
    check_book(second)
    if first.contents.places != second.contents.places:
        raise InvalidOperation("other names, or other places")
    found = first_untold(first, second.facts)
    return first_untold(second, first.facts) if found is None else found


def lean(book):
    """A book with some of the facts of the book, none of them spare, from which the others follow."""
    check_book(book)
    store = Store(book.contents.table)
    kept = list(book.contents.rules)
    facts = list(book.facts)
    # From the last one on, since facts with more conditions stand further behind.
    for k in range(len(kept) - 1, -1, -1):
        rest = kept[:k] + kept[k + 1:]
        if is_told(store, rest, kept[k]):
            kept = rest
            del facts[k]
    return book_of(facts, book.hidden, book.contents.places)


def is_spare(book, fact):
    """Whether a fact of the book follows from the book without it."""
    check_book(book)
    # This raises `InvalidFact` for what is no fact of the book.
    rest = book.without_facts(fact)
    return first_untold(rest, [fact]) is None


def cores(book, fact):
    """The ascending tuples of facts of the book from which a fact follows, but not from fewer of them."""
    check_book(book)
    check_fact_over(fact, book.contents.places)
    if len(book) > MAX_FACTS:
        raise TooMany(MAX_FACTS)
    facts = book.facts
    rules = book.contents.rules
    store = Store(book.contents.table)
    rule = rule_of(store, fact)
    found = []
    for numbers in choices(len(facts)):
        if not any([all([number in numbers for number in core]) for core in found]):
            if is_told(store, [rules[number] for number in numbers], rule):
                found.append(numbers)
                yield tuple([facts[number] for number in numbers])


def choices(many):
    """The ascending lists of some of so many numbers, shorter ones first, those of one length ascending."""
    found = [[]]
    last = [[]]
    while last:
        last = [[*numbers, k] for numbers in last for k in range(numbers[-1] + 1 if numbers else 0, many)]
        found.extend(last)
    return found


def parts_from(book, fact, value):
    """Whether the value is a world in which the book holds, and the fact does not."""
    return isinstance(value, World) and value.is_world_of(book) and not value.holds(fact)


def first_untold(book, facts):
    """The first of some facts over names of the book that does not follow from it, or `None`."""
    store = Store(book.contents.table)
    base = division_of(store, book.contents.rules, [])
    for fact in facts:
        if not follows_in(base, book.contents.rules, rule_of(store, fact)):
            return fact
    return None


def is_told(store, rules, rule):
    """Whether a rule follows from others, whose terms are all in a store."""
    return is_settled(division_of(store, rules, rule[0]), rule[1])
