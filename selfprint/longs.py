"""All plain long terms of a kind: how many there are, and which."""

from selfprint.kinds import inner_kinds
from selfprint.nodes import MOST_TOLD


class Longs:
    """The plain long terms of one shown kind.

    Its kinds, itself and all within, have numbers, it itself 0; inner has the
    numbers of those right within. A row is a tuple of the numbers of the kinds
    of the names around, the nearest one first. Counts that are found are kept.
    """

    def __init__(self, kind):
        self.kinds = [kind]
        self.inner = []
        self.found_terms = {}
        self.found_heads = {}
        while len(self.inner) < len(self.kinds):
            inside = inner_kinds(self.kinds[len(self.inner)])
            first = len(self.kinds)
            self.inner.append(tuple(range(first, first + len(inside))))
            self.kinds.extend(inside)

    def many_terms(self, number, row, nodes):
        """How many terms of a kind have just so many nodes."""
        if nodes < 1:
            return 0
        # In which sequence names stand has no say in how many there are.
        key = (number, tuple(sorted(row)), nodes)
        if key not in self.found_terms:
            self.found_terms[key] = self.counted_terms(number, row, nodes)
        return self.found_terms[key]

    def counted_terms(self, number, row, nodes):
        """As many_terms, of one node at least."""
        word = self.kinds[number][0]
        if word == "count":
            return MOST_TOLD + 1 if nodes == 1 else 0
        if word == "letter":
            return sum([self.many_heads(head, self.kinds[number], row, nodes - 1) for head in row])
        left, right = self.inner[number]
        if word == "fun":
            return self.many_terms(right, (left,) + row, nodes - 1)
        if word == "sum":
            return self.many_terms(left, row, nodes - 1) + self.many_terms(right, row, nodes - 1)
        return sum([self.many_terms(left, row, size) * self.many_terms(right, row, nodes - 1 - size)
                    for size in range(1, nodes - 1)])

    def many_heads(self, number, letter, row, nodes):
        """In how many ways calls and parts, of just so many nodes, lead from a kind to a letter."""
        if self.kinds[number][0] == "letter":
            return 1 if nodes == 0 and self.kinds[number] == letter else 0
        if nodes < 1:
            return 0
        key = (number, letter, tuple(sorted(row)), nodes)
        if key not in self.found_heads:
            self.found_heads[key] = self.counted_heads(number, letter, row, nodes)
        return self.found_heads[key]

    def counted_heads(self, number, letter, row, nodes):
        """As many_heads, of a kind of functions or of pairs, and of one node at least."""
        left, right = self.inner[number]
        if self.kinds[number][0] == "pair":
            return self.many_heads(left, letter, row, nodes - 1) + self.many_heads(right, letter, row, nodes - 1)
        return sum([self.many_terms(left, row, size) * self.many_heads(right, letter, row, nodes - 1 - size)
                    for size in range(1, nodes)])

    def terms(self, number, row, nodes):
        """The list of the terms of a kind with just so many nodes, if there are at most some hundreds."""
        if self.many_terms(number, row, nodes) == 0:
            return []
        word = self.kinds[number][0]
        if word == "letter":
            return self.letter_terms(number, row, nodes)
        left, right = self.inner[number]
        if word == "fun":
            return put_ahead(("fun", self.kinds[left]), self.terms(right, (left,) + row, nodes - 1))
        if word == "sum":
            to_left = put_ahead(("left", self.kinds[right]), self.terms(left, row, nodes - 1))
            return to_left + put_ahead(("right", self.kinds[left]), self.terms(right, row, nodes - 1))
        # A count does not come here: there are too many of it.
        found = []
        for size in range(1, nodes - 1):
            if self.many_terms(left, row, size) * self.many_terms(right, row, nodes - 1 - size) > 0:
                seconds = self.terms(right, row, nodes - 1 - size)
                found.extend([[("both",)] + first + second
                              for first in self.terms(left, row, size) for second in seconds])
        return found

    def letter_terms(self, number, row, nodes):
        """The terms of a letter: names with calls and parts around them."""
        found = []
        for place, head in enumerate(row):
            ways = self.heads(head, self.kinds[number], row, nodes - 1)
            found.extend([words + [("name", place)] + arguments for words, arguments in ways])
        return found

    def heads(self, number, letter, row, nodes):
        """The ways of many_heads: tuples of the nodes ahead of the name, and of those behind it."""
        if self.many_heads(number, letter, row, nodes) == 0:
            return []
        if self.kinds[number][0] == "letter":
            return [([], [])]
        left, right = self.inner[number]
        if self.kinds[number][0] == "pair":
            firsts = self.heads(left, letter, row, nodes - 1)
            seconds = self.heads(right, letter, row, nodes - 1)
            to_first = [(words + [("first",)], behind) for words, behind in firsts]
            return to_first + [(words + [("second",)], behind) for words, behind in seconds]
        found = []
        for size in range(1, nodes):
            if self.many_terms(left, row, size) * self.many_heads(right, letter, row, nodes - 1 - size) > 0:
                ways = self.heads(right, letter, row, nodes - 1 - size)
                found.extend([(words + [("call",)], argument + behind)
                              for argument in self.terms(left, row, size) for words, behind in ways])
        return found


def put_ahead(node, terms):
    """The terms with a node ahead of each."""
    return [[node] + term for term in terms]
