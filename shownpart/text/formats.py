"""Texts of questions and pieces, and tables of books."""

from shownpart.base.facts import read_fact
from shownpart.base.terms import is_name, read_term
from shownpart.base.walks import written
from shownpart.board.questions import check_question, written_question
from shownpart.books.books import check_book, check_size
from shownpart.code.pieces import Piece
from shownpart.errors import InvalidCode, InvalidOperation, ParseError
from shownpart.text.tables import book_from, table_of

ANY = "any"
SIGNS = {"same": " = ", "differ": " <> "}


def book_table(book):
    """The table of a book."""
    check_book(book)
    return table_of(book)


def read_table(text):
    """The book with a table."""
    if not isinstance(text, str):
        raise ParseError("no table")
    book = book_from(text.split("\n") if text else [])
    if book is None or table_of(book) != text:
        raise ParseError("no table of a book")
    check_size(book)
    return book


def question_text(question):
    """The text of a question."""
    check_question(question)
    return written_question(question)


def read_question(text):
    """The question with a text."""
    words = text.split(" ") if isinstance(text, str) else []
    rest = " ".join(words[1:])
    if words == ["fits"]:
        return ("fits",)
    if words[:1] == ["follows"]:
        return ("follows", read_fact(rest))
    if words[:1] == ["settled"]:
        return ("settled", read_term(rest))
    if words[:1] != ["exchange"] or len(words) != 3 or not is_name(words[1]) or not is_name(words[2]):
        raise ParseError("no text of a question")
    return ("exchange", words[1], words[2])


def piece_text(piece):
    """The text of a piece."""
    if not isinstance(piece, Piece):
        raise InvalidCode("no piece")
    # As the value of a register it would be read as any thing.
    if ANY in piece.registers or piece.names.get(ANY) == 0:
        raise InvalidOperation("a cell called any")
    heads = [headline("ins", piece.ins), headline("outs", piece.outs)]
    return "\n".join([*heads, *[step_text(step) for step in piece.steps]])


def read_piece(text):
    """The piece with a text."""
    lines = text.split("\n") if isinstance(text, str) else []
    if len(lines) < 2:
        raise ParseError("no text of a piece")
    steps = tuple([read_step(line) for line in lines[2:]])
    try:
        piece = Piece.of(steps, read_headline("ins", lines[0]), read_headline("outs", lines[1]))
        same = piece_text(piece) == text
    except (InvalidCode, InvalidOperation):
        raise ParseError("no text of a piece") from None
    if not same:
        raise ParseError("no text of a piece")
    return piece


def headline(word, names):
    """The line that tells registers behind a word."""
    return f"{word} " + ",".join(names) if names else word


def read_headline(word, line):
    """The names behind a word in a line, whatever they are."""
    return () if line == word else tuple(line.removeprefix(word + " ").split(","))


def step_text(step):
    """The line of a step."""
    if step[0] == "any":
        return f"{step[1]} := {ANY}"
    if step[0] == "set":
        return f"{step[1]} := {written(step[2])}"
    return f"{written(step[1])}{SIGNS[step[0]]}{written(step[2])}"


def read_step(line):
    """The step that a line tells; its register can be no name."""
    name, sign, rest = line.partition(" := ")
    if sign:
        return ("any", name) if rest == ANY else ("set", name, read_term(rest))
    for word in SIGNS:
        one, sign, other = line.partition(SIGNS[word])
        if sign:
            return (word, read_term(one), read_term(other))
    raise ParseError("no text of a step")
