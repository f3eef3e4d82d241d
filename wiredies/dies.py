"""A die and its wear, and what wire does at one die."""


class Die:
    """A die, ground to some width, that gets one wider with each full life drawn through it."""

    def __init__(self, ground, life):
        self.ground = ground
        self.life = life
        self.drawn = 0

    def wide(self):
        return self.wide_after(0)

    def wide_after(self, metres):
        """How wide the die would be with so many metres more drawn through it."""
        return self.ground + (self.drawn + metres) // self.life

    def grind(self, width):
        self.ground = width
        self.drawn = 0

    def draw(self, metres):
        self.drawn += metres


def goes(wider, narrower, most):
    """Whether by one die wire goes from the one width to the other."""
    if narrower >= wider:
        return False
    # Multiplied out on both sides, so that nothing is lost by dividing.
    return wider * wider * (1000 - most) <= 1000 * narrower * narrower


def metres_through(metres, rod, width):
    """How many metres come through a die of that width, of so many metres of rod."""
    return metres * rod * rod // (width * width)
