"""Closings of a book by visible pairs, and what further visible pairs would join in them."""

from shownpart.closing.readings import flat, readings_of


class State:
    """A closing of a book by visible pairs.

    A node is open if its name is hidden, or one of its terms is in a hidden
    class: in a world that the book meets, such a node has a value only by what
    it is joined with.
    """

    def __init__(self, division, hidden, pairs):
        self.division = division
        self.secret = hidden
        self.pairs = pairs
        self.readings = readings_of(division, hidden)

    def is_open(self, number):
        """Whether a node is open."""
        row = self.division.store.table[number]
        return row[0] in self.secret or not all([self.is_known(part) for part in row[1:]])

    def is_known(self, number):
        """Whether the class of a node is known."""
        return self.division.leaders[number] in self.readings

    def reading(self, number):
        """The reading of a node whose class is known."""
        return self.readings[self.division.leaders[number]]

    def visible_pairs(self):
        """Pairs of visible terms that are in one class each, from which all others follow."""
        closed = [number for number in self.division.leaders if not self.is_open(number)]
        pairs = [(self.reading(number), flat(self.division, number, self.readings)) for number in closed]
        return [(one, other) for one, other in pairs if one != other]

    def all_steps(self, rules):
        """All ways in which visible pairs would join open nodes of one name, or make rules hold.

        Each one is a tuple of pairs of readings and the pair that is joined
        then, which is `None` if a rule without conclusion would hold. Ways with
        fewer pairs come first.
        """
        found = [*self.steps_by_places(), *self.steps_by_rules(rules)]
        return sorted(found, key=lambda step: len(step[0]))

    def pairs_onward(self, rules):
        """The different pairs of the steps that join hidden classes, with each other or with known ones."""
        found = {pairs: True for pairs, conclusion in self.all_steps(rules) if not self.is_about_known(conclusion)}
        return list(found)

    def facts_onward(self, rules):
        """The pairs of the other steps, and the pair of readings that follows from each, or `None`."""
        found = []
        for pairs, conclusion in self.all_steps(rules):
            if conclusion is None:
                found.append((pairs, None))
            elif self.is_about_known(conclusion):
                found.append((pairs, (self.reading(conclusion[0]), self.reading(conclusion[1]))))
        return found

    def steps_by_places(self):
        """The steps that join open nodes of one name."""
        opened = {}
        for number in sorted(self.division.leaders):
            if self.is_open(number):
                opened.setdefault(self.division.store.table[number][0], []).append(number)
        found = []
        for numbers in opened.values():
            for k in range(len(numbers)):
                for other in numbers[:k]:
                    found.extend(self.step_between(numbers[k], other))
        return found

    def step_between(self, one, other):
        """A list of the step that joins two open nodes of one name, or of nothing."""
        if self.division.are_joined(one, other):
            return []
        rows = self.division.store.table
        pairs = self.pairs_between(list(zip(rows[one][1:], rows[other][1:])))
        return [] if pairs is None else [(pairs, (one, other))]

    def steps_by_rules(self, rules):
        """The steps that make rules hold."""
        found = []
        for conditions, conclusion in rules:
            if conclusion is None or not self.division.are_joined(conclusion[0], conclusion[1]):
                pairs = self.pairs_between(conditions)
                if pairs is not None:
                    found.append((pairs, conclusion))
        return found

    def pairs_between(self, couples):
        """The ascending tuple of the pairs of readings that join some couples of nodes.

        It is `None` if a couple would not be joined by any visible pair.
        """
        found = {}
        for one, other in couples:
            if not self.division.are_joined(one, other):
                if not self.is_known(one) or not self.is_known(other):
                    return None
                found[tuple(sorted([self.reading(one), self.reading(other)]))] = True
        return tuple(sorted(found))

    def is_about_known(self, conclusion):
        """Whether what a step joins is in known classes already, or is `None`."""
        return conclusion is None or self.is_known(conclusion[0]) and self.is_known(conclusion[1])
