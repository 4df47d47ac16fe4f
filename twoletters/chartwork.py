"""Charts: all cells of a kernel's full lot, their truths, and which of them rim one another."""

from twoletters.cases import Case
from twoletters.columns import Column, column_point
from twoletters.goals import goals_at
from twoletters.lots import Lot
from twoletters.pieces_of_lots import lot_core


def lot_filled(polys):
    """The full lot."""
    core = lot_core(polys)
    return polys if len(core) < 2 or core in polys else polys + (core,)


class Chart:
    """The cells of a kernel. What is over a column is found when it is asked for, and kept."""

    def __init__(self, kernel):
        self.case = Case(kernel)
        self.polys = lot_filled(self.case.lot)
        self.lot = Lot(self.polys, [])
        self.turns = self.lot.find_turns()
        self.strips = {}
        self.levels = {}
        self.truths = {}
        self.goals = {}

    def all_columns(self):
        return list(range(2 * len(self.turns) + 1))

    def strip_over(self, k):
        """What the lot is over column k."""
        if k not in self.strips:
            self.strips[k] = Column(self.lot, column_point(self.turns, k))
        return self.strips[k]

    def signs_on(self, k):
        """The signs of the full lot on all levels over column k."""
        if k not in self.levels:
            self.levels[k] = self.strip_over(k).signs()
        return self.levels[k]

    def top(self, k):
        """The uppermost level over column k."""
        return 2 * len(self.strip_over(k).sections)

    def truths_on(self, k):
        """The truths on all levels over column k."""
        if k not in self.truths:
            self.truths[k] = self.case.truths_by(self.strip_over(k).point, self.signs_on(k))
        return self.truths[k]

    def goals_to(self, k):
        """The goals at turn k of the sections below it, and of those above it."""
        if k not in self.goals:
            column = self.strip_over(2 * k + 1)
            marks = [column.fraction_on(2 * at) for at in range(len(column.sections) + 1)]
            self.goals[k] = goals_at([piece.poly for piece in self.lot.pieces], self.turns, k, marks)
        return self.goals[k]

    def has_cell(self, cell):
        """Whether a pair of whole numbers from 0 on is a cell."""
        return cell[0] <= 2 * len(self.turns) and cell[1] <= self.top(cell[0])

    def is_in(self, cell):
        """Whether the kernel is so on a cell."""
        return self.truths_on(cell[0])[cell[1]]

    def all_cells(self):
        """All cells, ascending."""
        return [(k, level) for k in self.all_columns() for level in range(self.top(k) + 1)]

    def cells_in(self):
        """The cells on which the kernel is so, ascending."""
        return [cell for cell in self.all_cells() if self.is_in(cell)]

    def goals_beside(self, k):
        """For each turn beside column k, which is none, its column and the goals there."""
        found = []
        if k > 0:
            found.append((k - 1, self.goals_to(k // 2 - 1)[1]))
        if k < 2 * len(self.turns):
            found.append((k + 1, self.goals_to(k // 2)[0]))
        return found

    def goal_stretch(self, k, level, turn, goals):
        """The goals at a turn of what is below and above a cell over column k, which is none; of a section, twice."""
        if level % 2:
            return goals[level // 2], goals[level // 2]
        low = goals[level // 2 - 1] if level > 0 else -1
        high = goals[level // 2] if level < self.top(k) else self.top(turn) + 1
        return low, high

    def rims_of(self, cell):
        """All cells that rim a cell."""
        k, level = cell
        found = []
        if level % 2 == 0:
            found = [(k, beside) for beside in (level - 1, level + 1) if 0 <= beside <= self.top(k)]
        if k % 2 == 0:
            for turn, goals in self.goals_beside(k):
                low, high = self.goal_stretch(k, level, turn, goals)
                for beside in range(max(low, 0), min(high, self.top(turn)) + 1):
                    found.append((turn, beside))
        return found

    def is_bounded(self, cell):
        k, level = cell
        if level % 2 == 0 and (level == 0 or level == self.top(k)):
            return False
        if k % 2:
            return True
        beside = self.goals_beside(k)
        if len(beside) < 2:
            return False
        for turn, goals in beside:
            low, high = self.goal_stretch(k, level, turn, goals)
            if low < 0 or high > self.top(turn):
                return False
        return True
