"""A shell: a board that is worked on by lines of text."""

from shownpart.base.facts import read_fact
from shownpart.base.terms import is_name
from shownpart.board.board import Board
from shownpart.books.books import Book
from shownpart.closing.follows import follow_paper
from shownpart.errors import InvalidCommand, InvalidOperation, ParseError
from shownpart.text.formats import book_table, question_text, read_question
from shownpart.text.tables import places_from
from shownpart.text.words import read_number

ANSWERS = {True: "yes", False: "no", None: "open"}


class Shell:
    """Commands for a board."""

    def __init__(self, board=None):
        if board is not None and not isinstance(board, Board):
            raise InvalidOperation("no board")
        self._board = Board() if board is None else board

    @property
    def board(self):
        """The board itself."""
        return self._board

    def __call__(self, line):
        return performed(self._board, line)

    def run(self, *lines):
        """The tuple of the answers of several commands."""
        return tuple([performed(self._board, line) for line in lines])


def performed(board, line):
    """Perform a command on a board, and return its answer."""
    words = line.split(" ") if isinstance(line, str) else [""]
    if words[0] not in COMMANDS:
        raise InvalidCommand("no command")
    action = COMMANDS[words[0]]
    return action(board, words[0], words[1:])


def lines_of(text):
    """A text as an answer: with a newline at its end, unless it is empty."""
    return text + "\n" if text else ""


def news_of(board, news):
    """The lines of some questions that are watched, with their answers."""
    answers = {question_text(question): answer for question, answer in board.answers()}
    texts = [question_text(question) for question in news]
    return "".join([f"{text}: {ANSWERS[answers[text]]}\n" for text in texts])


def check_names(words, many):
    """Raise `InvalidCommand` if words are not so many names."""
    if len(words) != many or not all([is_name(word) for word in words]):
        raise InvalidCommand("not as many names as the command has")


def fact_in(words):
    """The fact whose text some words are."""
    try:
        return read_fact(" ".join(words))
    except ParseError:
        raise InvalidCommand("no text of a fact") from None


def question_in(words):
    """The question whose text some words are."""
    try:
        return read_question(" ".join(words))
    except ParseError:
        raise InvalidCommand("no text of a question") from None


def put_part(board, word, words):
    """Put a part with visible names and no facts."""
    check_names(words[:1], 1)
    places = places_from(words[1:])
    if places is None or len(places) < len(words) - 1:
        raise InvalidCommand("no different names with their places")
    return news_of(board, board.do((word, words[0], Book(names=places))))


def drop_part(board, word, words):
    """Drop a part."""
    check_names(words, 1)
    return news_of(board, board.do((word, words[0])))


def change_facts(board, word, words):
    """Tell or untell a fact."""
    check_names(words[:1], 1)
    return news_of(board, board.do((word, words[0], fact_in(words[1:]))))


def change_names(board, word, words):
    """Hide or reveal a name."""
    check_names(words, 2)
    return news_of(board, board.do((word, words[0], words[1])))


def go_back(board, word, words):
    """Undo some steps, or do them again."""
    many = 1
    if words:
        many = read_number(words[0])
    if many is None or len(words) > 1:
        raise InvalidCommand("no number of steps")
    return news_of(board, board.undo(many=many) if word == "undo" else board.redo(many=many))


def ask_question(board, word, words):
    """Answer a question, and perhaps watch it."""
    question = question_in(words)
    answer = board.watch(question) if word == "watch" else board.answer(question)
    return lines_of(ANSWERS[answer])


def end_question(board, _, words):
    """Watch a question no longer."""
    board.unwatch(question_in(words))
    return ""


def print_part(board, word, words):
    """The text of a part, or its table."""
    check_names(words, 1)
    part = board[words[0]]
    return lines_of(part.text if word == "print" else book_table(part))


def print_summary(board, _, words):
    """The text of a summary of the whole."""
    check_names(words, len(words))
    book = board.summary(*words)
    return lines_of(book.text)


def tell_why(board, _, words):
    """What shows whether a fact follows from the whole."""
    fact = fact_in(words)
    kind, shown_by = follow_paper(board.whole(), fact)
    return f"steps {len(shown_by)}\n" if kind == "steps" else f"world {shown_by.size}\n"


COMMANDS = {
    "put": put_part, "drop": drop_part, "tell": change_facts, "untell": change_facts, "hide": change_names,
    "reveal": change_names, "undo": go_back, "redo": go_back, "watch": ask_question, "ask": ask_question,
    "unwatch": end_question, "print": print_part, "table": print_part, "summary": print_summary, "why": tell_why,
}
