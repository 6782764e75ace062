"""What one run of a piece of code does, told as a book."""

from shownpart.base.facts import fact_of, pairs_in, sides_of
from shownpart.base.walks import preorder, with_names
from shownpart.books.books import book_of
from shownpart.errors import TooMany

MAX_SUBTERMS = 200
LETTERS = "abcdefghijklmnopqrstuvwxyz"


class Track:
    """The present values of the registers in a run, and what the steps up to now tell.

    Hidden cells have numbers as names here: what they are called in the end
    depends on which of them stand in facts.
    """

    def __init__(self):
        self.present = {}
        # For each register the number of subterms of its present value, repeats counted.
        self.lengths = {}
        self.cells = 0
        self.claims = []

    def begin(self, name, is_passed):
        """Give a register its first value."""
        if is_passed:
            self.put(name, (name + "in",), 1)
        else:
            self.put_any(name)

    def put(self, name, term, length):
        """Give a register a term as its present value."""
        self.present[name] = term
        self.lengths[name] = length

    def put_any(self, name):
        """Give a register a new hidden cell as its present value."""
        self.put(name, (f"{self.cells}",), 1)
        self.cells += 1

    def go(self, step):
        """Do a step."""
        if step[0] == "any":
            self.put_any(step[1])
        elif step[0] == "set":
            length = sum([self.lengths.get(part[0], 1) for part in preorder([step[2]])])
            if length > MAX_SUBTERMS:
                raise TooMany(MAX_SUBTERMS)
            self.put(step[1], self.at_present(step[2]), length)
        else:
            couple = (self.at_present(step[1]), self.at_present(step[2]))
            self.claim(fact_of(couple, ()) if step[0] == "same" else fact_of(None, (couple,)))

    def claim(self, fact):
        """Tell a fact, or nothing if it is `None`."""
        if fact is not None:
            self.claims.append(fact)

    def at_present(self, term):
        """The term with present values in the place of registers."""
        ready = []
        for part in preorder([term])[::-1]:
            below = [ready.pop() for _ in part[1:]]
            ready.append(self.present[part[0]] if part[0] in self.present else (part[0], *below))
        return ready[0]

    def hidden_names(self):
        """A dict from the numbers of the hidden cells that stand in facts to their names."""
        used = {part[0]: True for part in preorder(sides_of([pair for fact in self.claims for pair in pairs_in(fact)]))}
        found = {}
        for number in range(self.cells):
            if f"{number}" in used:
                many = len(found)
                found[f"{number}"] = "hidden" + LETTERS[many // 26] + LETTERS[many % 26]
        return found


def told_book(piece):
    """The book of a piece."""
    track = Track()
    for name in piece.registers:
        track.begin(name, name in piece.ins)
    for step in piece.steps:
        track.go(step)
    for name in piece.outs:
        track.claim(fact_of(((name + "out",), track.present[name]), ()))
    names = track.hidden_names()
    hidden = list(names.values())
    passed = [name + "in" for name in piece.ins]
    returned = [name + "out" for name in piece.outs]
    cells = {name: 0 for name in [*passed, *returned, *hidden]}
    return book_of([called(fact, names) for fact in track.claims], hidden, {**piece.names, **cells})


def called(fact, names):
    """The fact with other names, in whose pairs the terms can stand the other way round then."""
    conditions = [(with_names(one, names), with_names(other, names)) for one, other in fact[0]]
    if fact[1] is None:
        return fact_of(None, conditions)
    return fact_of((with_names(fact[1][0], names), with_names(fact[1][1], names)), conditions)
