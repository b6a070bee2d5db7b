"""Equations over rows, solved exactly and over integers alone."""

from math import gcd

from endlots.shapes import is_integer


class Equations:
    """An equation for each row: its bottom times its unknown is the sum of its terms.

    The terms of a row are a dict of integers. One at a row counts the unknown of this row so often, and is not below
    0; one at an integer belongs to a known value, which is left to the caller, and so does one at a row without an
    equation. Where rows hand all of their weight to one another, so that a bottom becomes 0, the unknown is the known
    value at the first one of the two integers of `endless`, or at the second one if terms above 0 are left.
    """

    def __init__(self, terms, bottoms, endless=(0, 0)):
        self.terms = terms
        self.bottoms = bottoms
        self.endless = endless

    def solve(self):
        """Bring each equation into a form in which none of its terms is at a row that has an equation."""
        order = list(self.terms)
        for row in order:
            self.keep_lowest(row, self.terms[row], self.bottoms[row])
        for at, row in enumerate(order):
            self.free_of_itself(row)
            for other in order[at + 1:]:
                self.put_in(row, other)
        for at in reversed(range(len(order))):
            row = order[at]
            unknown = [place for place in self.terms[row] if not is_integer(place) and place in self.terms]
            for other in unknown:
                self.put_in(other, row)

    def free_of_itself(self, row):
        """Bring the unknown of a row out of its own terms."""
        self.bottoms[row] = self.bottoms[row] - self.terms[row].pop(row, 0)
        if self.bottoms[row] == 0:
            left = any([term > 0 for term in self.terms[row].values()])
            self.terms[row] = {self.endless[int(left)]: 1}
            self.bottoms[row] = 1

    def put_in(self, row, other):
        """Put what the unknown of a row is in the place of this unknown in the equation of another row."""
        terms = self.terms[other]
        if row not in terms:
            return
        often = terms[row]
        shared = gcd(often, self.bottoms[row])
        factor = self.bottoms[row] // shared
        found = {place: term * factor for place, term in terms.items() if place != row}
        for place, term in self.terms[row].items():
            found[place] = found.get(place, 0) + term * (often // shared)
        self.keep_lowest(other, found, self.bottoms[other] * factor)

    def keep_lowest(self, row, terms, bottom):
        """Keep an equation, divided by what all its integers share."""
        shared = bottom
        for term in terms.values():
            shared = gcd(shared, term)
        self.terms[row] = {place: term // shared for place, term in terms.items()}
        self.bottoms[row] = bottom // shared
