"""Questions about the parts of a board, and their answers."""

from shownpart.base.facts import fact_text, is_fact, places_in
from shownpart.base.terms import has_names, is_name, is_term, joint_places
from shownpart.base.walks import written
from shownpart.books.joining import joined
from shownpart.closing.closing import is_empty
from shownpart.closing.follows import follows
from shownpart.errors import InvalidOperation, TooMany
from shownpart.shown.exchange import are_comparable, are_exchangeable
from shownpart.shown.settled import settles


def is_question(value):
    """Whether the value is a question."""
    if not isinstance(value, tuple) or len(value) not in (1, 2, 3):
        return False
    if len(value) == 1:
        return value[0] == "fits"
    if len(value) == 3:
        return value[0] == "exchange" and is_name(value[1]) and is_name(value[2])
    if value[0] == "follows":
        return is_fact(value[1])
    return value[0] == "settled" and is_term(value[1])


def check_question(value):
    """Raise `InvalidOperation` if the value is no question."""
    if not is_question(value):
        raise InvalidOperation("no question")


def written_question(question):
    """The text of a question."""
    if question[0] == "follows":
        return "follows " + fact_text(question[1])
    if question[0] == "settled":
        return "settled " + written(question[1])
    return " ".join(question)


def answers_of(parts, questions):
    """The tuple of the answers of some questions about parts, told as a dict from their names to books."""
    # Without a question nothing has to be joined.
    whole = joined(list(parts.values())) if questions else None
    return tuple([answer_of(parts, whole, question) for question in questions])


def answer_of(parts, whole, question):
    """The answer of a question about parts, which are joined in the whole: True, False or `None`."""
    if question[0] == "fits":
        return not is_empty(whole)
    if question[0] == "follows":
        if not has_names(whole.contents.places, places_in(question[1])):
            return None
        return follows(whole, question[1])
    if question[0] == "settled":
        if not has_names(whole.contents.places, joint_places([question[1]])):
            return None
        return settles(whole, question[1]) is not None
    return exchange_answer(parts, question[1], question[2])


def exchange_answer(parts, name, other):
    """Whether two parts are exchangeable, or `None` if that cannot be told."""
    if name not in parts or other not in parts or not are_comparable(parts[name], parts[other]):
        return None
    try:
        return are_exchangeable(parts[name], parts[other])
    except TooMany:
        return None
