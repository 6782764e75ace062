"""Tables of books: each node once, under a number."""

from shownpart.base.facts import fact_of
from shownpart.base.terms import is_name
from shownpart.books.books import book_of, is_places
from shownpart.text.words import read_number

MAX_LEVELS = 40
MAX_SUBTERMS = 400


def table_of(book):
    """The table of a book."""
    contents = book.contents
    lines = []
    if contents.places:
        lines.append(" ".join(["names", *[f"{name}/{contents.places[name]}" for name in contents.places]]))
    if contents.secret:
        lines.append(" ".join(["hidden", *contents.secret]))
    ranks = {number: rank for rank, number in enumerate(contents.order)}
    for rank, number in enumerate(contents.order):
        row = contents.table[number]
        lines.append(" ".join([f"{rank}", row[0], *[f"{ranks[below]}" for below in row[1:]]]))
    for conditions, conclusion in contents.rules:
        end = "never" if conclusion is None else couple_text(conclusion, ranks)
        told = " & ".join([couple_text(couple, ranks) for couple in conditions])
        lines.append(f"{told} => {end}" if told else end)
    return "\n".join(lines)


def couple_text(couple, ranks):
    """Two terms under their numbers in the table, equal."""
    return f"{ranks[couple[0]]}={ranks[couple[1]]}"


def book_from(lines):
    """The book that some lines tell, perhaps in another form than that of its table, or `None`."""
    place = 0
    places = {}
    hidden = []
    if lines and lines[0].startswith("names "):
        places = places_from(lines[0].split(" ")[1:])
        place = 1
    if place < len(lines) and lines[place].startswith("hidden "):
        hidden = lines[place].split(" ")[1:]
        place += 1
    if places is None or not all([name in places for name in hidden]):
        return None
    rows = []
    while place < len(lines) and not is_fact_line(lines[place]):
        rows.append(row_from(lines[place].split(" "), places))
        place += 1
    terms = terms_of_rows(rows)
    facts = [] if terms is None else [fact_from_line(line, terms) for line in lines[place:]]
    return None if terms is None or None in facts else book_of(facts, hidden, places)


def is_fact_line(line):
    """Whether a line tells a fact, if it tells anything."""
    return "=" in line or line == "never"


def places_from(words):
    """A dict from names to their places, or `None` if a word does not tell a name with its places."""
    places = {}
    for word in words:
        name, _, many = word.partition("/")
        if not is_name(name) or not is_places(read_number(many)):
            return None
        places[name] = read_number(many)
    return places


def row_from(words, places):
    """The row of a node, its name and numbers behind it, or `None` if it has not as many as the name has places."""
    below = [read_number(word) for word in words[2:]]
    return (words[1], *below) if len(words) > 1 and places.get(words[1]) == len(below) else None


def terms_of_rows(rows):
    """A dict from the numbers of some rows to their terms, or `None` if a row has no term, or too great a one."""
    if None in rows:
        return None
    terms = {}
    sizes = {}
    left = list(range(len(rows)))
    for _ in range(MAX_LEVELS):
        # Those whose terms are all told have one level more than what was told last.
        ready = [number for number in left if all([below in terms for below in rows[number][1:]])]
        for number in ready:
            terms[number] = (rows[number][0], *[terms[below] for below in rows[number][1:]])
            sizes[number] = 1 + sum([sizes[below] for below in rows[number][1:]])
        left = [number for number in left if number not in terms]
    return None if left or any([sizes[number] > MAX_SUBTERMS for number in sizes]) else terms


def fact_from_line(line, terms):
    """The fact that a line tells by the numbers of terms, or `None`."""
    parts = line.split(" => ")
    conditions = [couple_from(word, terms) for part in parts[:-1] for word in part.split(" & ")]
    conclusion = None if parts[-1] == "never" else couple_from(parts[-1], terms)
    if None in conditions or conclusion is None and parts[-1] != "never":
        return None
    return fact_of(conclusion, conditions)


def couple_from(word, terms):
    """The tuple of two terms under their numbers in a word, or `None`."""
    found = [terms.get(read_number(side)) for side in word.split("=")]
    return None if len(found) != 2 or None in found else (found[0], found[1])
