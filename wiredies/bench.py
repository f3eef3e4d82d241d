"""The bench: the rod, what is wanted of it, the dies there are, and the row of them."""

from wiredies.dies import goes, metres_through


class Bench:
    """What one line of calls works on; its row holds the numbers of dies."""

    def __init__(self):
        self.begun = False
        self.rod = 0
        self.most = 0
        self.want = 0
        self.off = 0
        self.dies = []
        self.row = []
        self.metres_drawn = 0

    def begin(self, rod, most, want, off):
        self.begun = True
        self.rod = rod
        self.most = most
        self.want = want
        self.off = off
        self.dies = []
        self.row = []
        self.metres_drawn = 0

    def has_die(self, number):
        return number < len(self.dies)

    def widths_of(self, row):
        """How wide the dies of some row are, in order."""
        return [self.dies[number].wide() for number in row]

    def widths(self):
        """How wide the dies of the row are, in order."""
        return self.widths_of(self.row)

    def widths_after(self, metres):
        """How wide the dies of the row would be behind a run with so many metres of rod."""
        found = []
        for number in self.row:
            die = self.dies[number]
            found.append(die.wide_after(metres_through(metres, self.rod, die.wide())))
        return found

    def wide_out(self, widths):
        """How wide what comes out of a row of such widths is."""
        return widths[-1] if widths else self.rod

    def wide_ahead(self, place):
        """How wide what comes to the die at that place of the row is."""
        return self.wide_out(self.widths()[:place])

    def reaches(self, width):
        """Whether by one die more wire goes to that width from what comes out now."""
        return goes(self.wide_out(self.widths()), width, self.most)

    def wrong_place(self, widths):
        """The first place to whose width wire doesn't go from the one before; None if there is none."""
        before = self.rod
        for place, width in enumerate(widths):
            if not goes(before, width, self.most):
                return place
            before = width
        return None

    def holds(self, widths):
        """Whether a row of such widths goes, and what comes out is as wanted."""
        if self.wrong_place(widths) is not None:
            return False
        return abs(self.wide_out(widths) - self.want) <= self.off

    def metres_out(self, metres):
        """How many metres come out of the row, of so many metres of rod."""
        return metres_through(metres, self.rod, self.wide_out(self.widths()))

    def draw(self, metres):
        for number in self.row:
            die = self.dies[number]
            die.draw(metres_through(metres, self.rod, die.wide()))
        self.metres_drawn += metres

    def fewest_dies(self):
        """The row of the fewest dies that holds, of like ones the first by numbers; None if no row does."""
        rows = [[]]
        while rows:
            for row in rows:
                if self.holds(self.widths_of(row)):
                    return row
            rows = self.rows_one_longer(rows)
        return None

    def rows_one_longer(self, rows):
        """These rows, each with every die more to which wire goes from it; by numbers, as these are."""
        longer = []
        for row in rows:
            before = self.wide_out(self.widths_of(row))
            # No die comes twice, as wire goes only to a narrower one.
            for number, die in enumerate(self.dies):
                if goes(before, die.wide(), self.most):
                    longer.append(row + [number])
        return longer
