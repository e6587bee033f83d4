"""Places of a layout that are parted and opened, with the steps that do this.

A cell is some places side by side: a tuple (k, low, high, patterns, order). It has
the records (k, i, trees) of the layout at first, i from low to high, whose trees
come from the patterns. Order has the holes of the patterns as the trees in their
holes stand in the places now.
"""

from layoutswap.patterns import substituted
from layoutswap.steps import changed


class Bench:
    """The cells of a layout and the steps that were done with them."""

    def __init__(self, kind, layout, direction):
        """Begin with a cell for each number of trees; the holes are above 0 (direction 1) or below it (-1)."""
        self.kind = kind
        self.now = layout
        self.direction = direction
        self.steps = []
        # For each thing that was done the steps that undo it.
        self.undoing = []
        self.holes = 0
        self.begun = 0
        self.cells = {}
        # For each number of trees the numbers of the cells with so many, from the first place on.
        self.queues = {}
        for k, factor in enumerate(layout.factors):
            if factor > 0:
                holes = self.new_holes(k)
                self.new_cell((k, 0, factor - 1, holes, holes))

    def new_holes(self, many):
        """Return a tuple of so many holes that do not stand in any cell."""
        first = self.holes + 1
        self.holes = self.holes + many
        return tuple([self.direction * hole for hole in range(first, first + many)])

    def new_cell(self, cell):
        """Put a cell behind the others with as many trees, and return its number."""
        self.begun = self.begun + 1
        self.cells[self.begun] = cell
        self.queues.setdefault(len(cell[4]), []).append(self.begun)
        return self.begun

    def width(self, number):
        """Return how many places a cell has."""
        cell = self.cells[number]
        return cell[2] - cell[1] + 1

    def do_steps(self, steps, undoing):
        """Do some steps, which others undo."""
        for step in steps:
            self.now = changed(self.kind, self.now, step)
        self.steps.extend(steps)
        self.undoing.append(undoing)

    def undoing_steps(self):
        """Return the list of the steps that undo all that was done."""
        return [step for steps in self.undoing[::-1] for step in steps]

    def cut(self, number, point):
        """Part a cell at an index of the layout at first, and return the numbers of both parts."""
        k, low, high, patterns, order = self.cells.pop(number)
        queue = self.queues[len(order)]
        at = queue.index(number)
        first = self.new_cell((k, low, point - 1, patterns, order))
        second = self.new_cell((k, point, high, patterns, order))
        # Both parts stand at the end as yet, but belong where the cell was.
        self.queues[len(order)] = queue[:at] + [first, second] + queue[at + 1:-2]
        return [first, second]

    def bring_to_end(self, number):
        """Move a cell behind all others with as many trees."""
        degree = len(self.cells[number][4])
        queue = self.queues[degree]
        at = queue.index(number)
        behind = sum([self.width(other) for other in queue[at + 1:]])
        if behind > 0:
            start = sum([self.width(other) for other in queue[:at]])
            self.do_steps([("move", degree, start, self.width(number))], [("move", degree, start, behind)])
            self.queues[degree] = queue[:at] + queue[at + 1:] + [number]

    def bring_to_front(self, number, hole):
        """Turn the trees of the last cell with as many trees, so that the one in a hole is the first one."""
        k, low, high, patterns, order = self.cells[number]
        at = order.index(hole)
        if at > 0:
            turn = ("turn", len(order), high - low + 1, at + 1)
            self.do_steps([turn] * at, [turn])
            self.cells[number] = (k, low, high, patterns, (hole,) + order[:at] + order[at + 1:])

    def open_hole(self, number, hole):
        """Open a cell at a hole, and return the numbers of the cells that come, one for each variant."""
        self.bring_to_end(number)
        self.bring_to_front(number, hole)
        k, low, high, patterns, order = self.cells.pop(number)
        self.queues[len(order)].pop()
        step = (len(order), high - low + 1)
        self.do_steps([("open",) + step], [("close",) + step])
        found = []
        for tag, parts in self.kind:
            holes = self.new_holes(parts)
            with_tag = substituted(patterns, {hole: (tag,) + holes})
            found.append(self.new_cell((k, low, high, with_tag, holes + order[1:])))
        return found

    def arrange(self, number, wanted):
        """Turn the trees of the last cell with as many trees, until their holes stand in the wanted order."""
        k, low, high, patterns, order = self.cells[number]
        many = len(order)
        ranks = {hole: rank for rank, hole in enumerate(wanted)}
        for done in range(1, many):
            # The last ones stand as they are wanted; the first one goes among them.
            ahead = len([hole for hole in order[many - done:] if ranks[hole] < ranks[order[0]]])
            j = many - done + ahead
            if j > 1:
                turn = ("turn", many, high - low + 1, j)
                self.do_steps([turn], [turn] * (j - 1))
                order = order[1:j] + order[:1] + order[j:]
        self.cells[number] = (k, low, high, patterns, order)
