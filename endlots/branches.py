"""Branches: what comes of all picks of a scene at once, exactly and over integers alone.

A branch tells what comes from a place on as a list of integers from 0 on: weights of the outcomes in order, a weight of
going on for ever by way of counted rows, mean numbers of passes for each set of counted rows, and last, for the either
rows that are still to be decided, the first one at the end, weights of coming to them next. The sum of all weights is
what each integer is to be divided by.
"""

from endlots.chains import weight_of
from endlots.equations import Equations
from endlots.lots import divisor, lowest


class Branches:
    """The branches of scenes of one text that meet the same either rows, with the rows that are counted."""

    def __init__(self, scenes, counted):
        self.never = scenes[0].never
        self.eithers = scenes[0].eithers
        self.counted = counted
        self.moves = {}
        for scene in scenes:
            for row in scene.rows:
                self.moves[row] = scene.moves[row]
        self.known = self.told_others()

    def told_others(self):
        """The equations, solved, of all rows that are no either rows."""
        terms = {}
        bottoms = {}
        for row in self.moves:
            if row not in self.eithers:
                move = self.moves[row][0]
                bottoms[row] = weight_of(move)
                terms[row] = self.counts_at(row, bottoms[row])
                for place, weight in move:
                    terms[row][place] = terms[row].get(place, 0) + weight
        equations = Equations(terms, bottoms, (self.never, self.never + 1))
        equations.solve()
        return equations.terms

    def counts_at(self, row, often):
        """The terms of one pass of a row: so often each set of counted rows that has it."""
        return {self.never + 2 + at: often for at, rows in enumerate(self.counted) if row in rows}

    def weighed(self, branch):
        """The sum of the weights of a branch."""
        first = self.never + 2
        return sum(branch[:first]) + sum(branch[first + len(self.counted):])

    def from_place(self, place):
        """The branch from a place on."""
        terms = {place: 1}
        if place in self.known:
            terms = self.known[place]
        keys = list(range(self.never + 2 + len(self.counted))) + list(reversed(self.eithers))
        return [terms.get(key, 0) for key in keys]

    def from_side(self, row, side):
        """The branch from an either row on if its side is taken."""
        branch = self.from_place(self.moves[row][side][0][0])
        often = self.weighed(branch)
        for key, term in self.counts_at(row, often).items():
            branch[key] = branch[key] + term
        return branch

    def all_from(self, places):
        """For each pick, in ascending order, the list of what comes from each of the places on."""
        choices = [[self.from_side(row, side) for side in (0, 1)] for row in self.eithers]
        return self.leaves(choices, [self.from_place(place) for place in places])

    def leaves(self, choices, branches):
        """For each pick of what is still to be decided the list of what the branches become."""
        if choices == []:
            return [branches]
        found = []
        for decided in choices[0]:
            told = self.without_itself(decided)
            rest = [[self.put_in(told, branch) for branch in sides] for sides in choices[1:]]
            found = found + self.leaves(rest, [self.put_in(told, branch) for branch in branches])
        return found

    def without_itself(self, decided):
        """What comes from an either row on, told without coming back to it."""
        told = decided[:-1]
        if self.weighed(told) > 0:
            return told
        # Nothing leads out of the round, which is gone on for ever; counted rows are then passed without end.
        counts = told[self.never + 2:]
        told = [0 for _ in told]
        told[self.never + int(any([count > 0 for count in counts]))] = 1
        return told

    def put_in(self, told, branch):
        """A branch with what comes from the either row on that is decided."""
        often = branch[-1]
        if often == 0:
            return branch[:-1]
        whole = self.weighed(told)
        found = [old * whole + new * often for old, new in zip(branch[:-1], told)]
        shared = divisor(found)
        return [integer // shared for integer in found]


def lots_by_picks(scenes):
    """For each of some scenes of one text the list of the lots of its picks, in ascending order of picks."""
    found = [[] for _ in scenes]
    for ats in alike_in_eithers(scenes):
        group = [scenes[at] for at in ats]
        branches = Branches(group, [])
        for told in branches.all_from([scene.place for scene in group]):
            for at, branch in zip(ats, told):
                found[at].append(lowest(branch[:-1]))
    return found


def place_lots_by_picks(scene, places):
    """For each of some places of a scene a dict of the lots that picks bring from this place on, least picks first."""
    found = {place: {} for place in places}
    for told in Branches([scene], []).all_from(places):
        for place, branch in zip(places, told):
            found[place][lowest(branch[:-1])] = True
    return found


def alike_in_eithers(scenes):
    """The lists of the indices of scenes with the same either rows."""
    groups = {}
    for at, scene in enumerate(scenes):
        groups.setdefault(tuple(scene.eithers), []).append(at)
    return list(groups.values())
