"""Rows of follow papers: what was joined in a division, step by step."""

from shownpart.base.walks import order_of, terms_from
from shownpart.closing.division import GIVEN, PLACES


class Steps:
    """The rows that show why terms of a division are in one class.

    The joints of a division hold each class together without any ring: there is
    one way between two of its terms, and it was there from the joint on with
    which they came together. So what a joint rests on was joined ahead of it.
    """

    def __init__(self, division, facts, rules):
        self.division = division
        self.sources = facts
        self.rules = rules
        self.terms = terms_from(division.store.table)
        self.ranks = {number: rank for rank, number in enumerate(order_of(division.store.table))}
        self.ways = ways_up(division.joints)
        self.made = []
        self.told = {}

    def show(self, goals):
        """Tell rows for some pairs of terms that are in one class each."""
        needed = {joint: True for pair in goals for joint in self.way(pair)[1]}
        for joint in range(len(self.division.joints) - 1, -1, -1):
            if joint in needed:
                for pair in self.reasons(joint):
                    for further in self.way(pair)[1]:
                        needed[further] = True
        for joint in sorted(needed):
            self.tell_joint(joint)
        for pair in goals:
            self.row_of(pair)

    def show_never(self, rule):
        """Tell rows for all conditions of a rule without conclusion, and the row that it makes."""
        conditions = self.rules[rule][0]
        self.show(conditions)
        numbers = tuple([self.row_of(pair) for pair in conditions])
        self.made.append((None, "fact", (self.sources[rule], numbers)))

    def reasons(self, joint):
        """The pairs of different terms that a joint rests on."""
        one, other, why = self.division.joints[joint]
        if why == GIVEN:
            return []
        if why != PLACES:
            return self.rules[why][0]
        rows = self.division.store.table
        return [pair for pair in zip(rows[one][1:], rows[other][1:]) if pair[0] != pair[1]]

    def tell_joint(self, joint):
        """Tell the row of a joint; those of what it rests on can be told."""
        one, other, why = self.division.joints[joint]
        if why == GIVEN:
            self.tell((one, other), "given", ())
        elif why == PLACES:
            rows = self.division.store.table
            pairs = list(zip(rows[one][1:], rows[other][1:]))
            numbers = [None if pair[0] == pair[1] else self.row_of(pair) for pair in pairs]
            self.tell((one, other), "places", tuple(numbers))
        else:
            numbers = tuple([self.row_of(pair) for pair in self.rules[why][0]])
            self.tell((one, other), "fact", (self.sources[why], numbers))

    def row_of(self, pair):
        """The number of the row with a pair, told now if there is none; those of all joints on its way are told."""
        numbers, _ = self.way(pair)
        start = numbers[0]
        row = self.told[self.key((start, numbers[1]))]
        for last, number in zip(numbers[1:], numbers[2:]):
            further = self.told[self.key((last, number))]
            if self.key((start, number)) not in self.told:
                self.tell((start, number), "link", (row, further))
            row = self.told[self.key((start, number))]
        return row

    def tell(self, pair, word, numbers):
        """Tell one row."""
        one, other = self.key(pair)
        self.told[(one, other)] = len(self.made)
        self.made.append(((self.terms[one], self.terms[other]), word, numbers))

    def key(self, pair):
        """The numbers of two terms, that of the lesser term first."""
        one, other = pair
        return (one, other) if self.ranks[one] < self.ranks[other] else (other, one)

    def way(self, pair):
        """The terms on the way from one term to another one of its class, and the joints between them."""
        ups = [pair[0]]
        downs = [pair[1]]
        up_joints = []
        down_joints = []
        while ups[-1] != downs[-1]:
            # The one that is further away from the end of its class goes on.
            if self.ways[ups[-1]][0] >= self.ways[downs[-1]][0]:
                _, joint, further = self.ways[ups[-1]]
                up_joints.append(joint)
                ups.append(further)
            else:
                _, joint, further = self.ways[downs[-1]]
                down_joints.append(joint)
                downs.append(further)
        return ups + downs[-2::-1], up_joints + down_joints


def ways_up(joints):
    """For each term of some joints its distance from the end of its class, and the joint and the term on the way."""
    beside = {}
    for joint, (one, other, _) in enumerate(joints):
        beside.setdefault(one, []).append((joint, other))
        beside.setdefault(other, []).append((joint, one))
    ways = {}
    for end in beside:
        if end in ways:
            continue
        ways[end] = (0, None, None)
        waiting = [end]
        while waiting:
            number = waiting.pop()
            for joint, further in beside[number]:
                if further not in ways:
                    ways[further] = (ways[number][0] + 1, joint, number)
                    waiting.append(further)
    return ways
