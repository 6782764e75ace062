"""Judging the rows of follow papers."""

from shownpart.base.facts import is_pair, sides_of
from shownpart.base.terms import has_names, joint_places
from shownpart.base.worlds import is_whole
from shownpart.closing.division import Store


class Judge:
    """What was found so far in the rows that shall lead from the conditions of a fact to its conclusion."""

    def __init__(self, book, fact):
        self.source = book
        self.store = Store([])
        self.given = {self.key(pair): True for pair in fact[0]}
        self.wanted = None if fact[1] is None else self.key(fact[1])
        # The keys of the pairs of the rows, and None for a row without a pair.
        self.told = []

    def accepts(self, rows):
        """Whether the value is a tuple of right rows, the last of which tells the conclusion, or `None`."""
        if not isinstance(rows, tuple):
            return False
        for row in rows:
            # A row without a pair can only be the last one.
            if self.told[-1:] == [None] or not isinstance(row, tuple) or len(row) != 3 or not self.is_right(*row):
                return False
            self.told.append(None if row[0] is None else self.key(row[0]))
        return len(self.told) > 0 and self.told[-1] in (None, self.wanted)

    def is_right(self, pair, word, numbers):
        """Whether a row is right behind those that were told."""
        if word == "fact":
            return self.is_by_fact(pair, numbers)
        if not self.is_pair_of_book(pair):
            return False
        if word == "given":
            return numbers == () and self.key(pair) in self.given
        if not isinstance(numbers, tuple):
            return False
        if word == "places":
            return self.is_by_places(pair, numbers)
        return word == "link" and self.is_by_link(pair, numbers)

    def is_by_fact(self, pair, value):
        """Whether the pair is the conclusion of a fact of the book all of whose conditions were told."""
        if not isinstance(value, tuple) or len(value) != 2 or value[0] not in self.source:
            return False
        (conditions, conclusion), numbers = value
        if not isinstance(numbers, tuple) or len(numbers) != len(conditions):
            return False
        if not all([self.tells(number, condition) for number, condition in zip(numbers, conditions)]):
            return False
        if conclusion is None:
            return pair is None
        return self.is_pair_of_book(pair) and self.key(pair) == self.key(conclusion)

    def is_by_places(self, pair, numbers):
        """Whether the terms of the pair are of one form, and equal place by place."""
        one, other = pair
        if one[0] != other[0] or len(one) != len(other) or len(numbers) != len(one) - 1:
            return False
        couples = list(zip(one[1:], other[1:]))
        return all([self.joins(number, couple) for number, couple in zip(numbers, couples)])

    def joins(self, value, couple):
        """Whether the value is the number of a row with the pair of two terms, or `None` if they are equal."""
        one, other = self.key(couple)
        return value is None if one == other else self.tells(value, couple)

    def is_by_link(self, pair, numbers):
        """Whether the pair is what two pairs do not have in common, which have one term in common."""
        if len(numbers) != 2 or not all([self.is_row(number) for number in numbers]):
            return False
        first, second = [self.told[number] for number in numbers]
        common = [number for number in first if number in second]
        ends = [number for number in [*first, *second] if number not in common]
        return len(common) == 1 and tuple(sorted(ends)) == self.key(pair)

    def is_row(self, value):
        """Whether the value is the number of a row that was told."""
        return is_whole(value) and 0 <= value < len(self.told)

    def tells(self, value, couple):
        """Whether the value is the number of a row with the pair of two terms."""
        return self.is_row(value) and self.told[value] == self.key(couple)

    def is_pair_of_book(self, value):
        """Whether the value is a pair over names of the book."""
        return is_pair(value) and has_names(self.source.contents.places, joint_places(sides_of([value])))

    def key(self, couple):
        """The numbers of two terms, ascending."""
        return tuple(sorted([self.store.number_of(couple[0]), self.store.number_of(couple[1])]))
