"""Charts: all cells of a kernel's full lot, their truths, and which of them rim one another."""

from twoletters.cases import Case
from twoletters.columns import Column, column_point
from twoletters.goals import goals_at
from twoletters.lots import Lot
from twoletters.pieces_of_lots import lot_core


def lot_filled(polys):
    """The full lot."""
    core = lot_core(polys)
    return polys if len(core) < 2 or core in polys else polys + (core,)


class Chart:
    """The cells of a kernel."""

    def __init__(self, kernel):
        case = Case(kernel)
        self.polys = lot_filled(case.lot)
        self.lot = Lot(self.polys, [])
        self.turns = self.lot.find_turns()
        self.strips = [Column(self.lot, column_point(self.turns, k)) for k in range(2 * len(self.turns) + 1)]
        self.levels = [column.signs() for column in self.strips]
        self.truths = [case.truths_over(column.point, signs) for column, signs in zip(self.strips, self.levels)]
        self.goals = []

    def told_ends(self):
        return tuple([turn.number for turn in self.turns])

    def told_stacks(self):
        found = []
        for column, signs in zip(self.strips, self.levels):
            found.append((column.point.number, column.told_sections(signs), signs))
        return tuple(found)

    def find_goals(self):
        """For each turn the goals of the sections below it, and of those above it."""
        if not self.goals:
            curves = [piece.poly for piece in self.lot.pieces]
            for k in range(len(self.turns)):
                column = self.strips[2 * k + 1]
                marks = [column.fraction_on(2 * at) for at in range(len(column.sections) + 1)]
                self.goals.append(goals_at(curves, self.turns, k, marks))
        return self.goals

    def has_cell(self, k, level):
        return k < len(self.truths) and level < len(self.truths[k])

    def all_cells(self):
        """All cells, ascending."""
        return [(k, level) for k, truths in enumerate(self.truths) for level in range(len(truths))]

    def cells_so(self, truth):
        """The cells that have this truth, ascending."""
        return [cell for cell in self.all_cells() if self.truths[cell[0]][cell[1]] == truth]

    def goals_beside(self, k):
        """For each turn beside column k, which is none, its column and the goals there."""
        found = []
        if k > 0:
            found.append((k - 1, self.find_goals()[k // 2 - 1][1]))
        if k + 1 < len(self.truths):
            found.append((k + 1, self.find_goals()[k // 2][0]))
        return found

    def goal_stretch(self, k, level, turn, goals):
        """The goals at a turn of what is below and above a cell over column k, which is none; of a section, twice."""
        top = len(self.truths[turn])
        if level % 2:
            return goals[level // 2], goals[level // 2]
        low = goals[level // 2 - 1] if level > 0 else -1
        high = goals[level // 2] if level + 1 < len(self.truths[k]) else top
        return low, high

    def rims_of(self, cell):
        """All cells that rim a cell."""
        k, level = cell
        found = []
        if level % 2 == 0:
            found = [(k, beside) for beside in (level - 1, level + 1) if 0 <= beside < len(self.truths[k])]
        if k % 2 == 0:
            for turn, goals in self.goals_beside(k):
                low, high = self.goal_stretch(k, level, turn, goals)
                for beside in range(max(low, 0), min(high + 1, len(self.truths[turn]))):
                    found.append((turn, beside))
        return found

    def is_bounded(self, cell):
        k, level = cell
        if level % 2 == 0 and (level == 0 or level + 1 == len(self.truths[k])):
            return False
        if k % 2:
            return True
        beside = self.goals_beside(k)
        if len(beside) < 2:
            return False
        for turn, goals in beside:
            low, high = self.goal_stretch(k, level, turn, goals)
            if low < 0 or high >= len(self.truths[turn]):
                return False
        return True
