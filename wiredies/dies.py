"""A die and its wear, and what wire does at one die."""


class Die:
    """A die, ground to some width, that gets one wider with each full life drawn through it."""

    def __init__(self, ground, life):
        self.ground = ground
        self.life = life
        self.drawn = 0

    def wide(self):
        return self.wide_after(0)

    def wide_after(self, metres):
        """How wide the die would be with so many metres more drawn through it."""
        return self.ground + (self.drawn + metres) // self.life

    def metres_left(self):
        """How many metres more make the die one wider."""
        return self.life - self.drawn % self.life

    def grind(self, width):
        self.ground = width
        self.drawn = 0

    def draw(self, metres):
        self.drawn += metres


def most_lets(wider, narrower, most):
    """Whether one die may take off as much as lies between these widths."""
    # Multiplied out on both sides, so that nothing is lost by dividing.
    return wider * wider * (1000 - most) <= 1000 * narrower * narrower


def goes(wider, narrower, most):
    """Whether by one die wire goes from the one width to the other."""
    return narrower < wider and most_lets(wider, narrower, most)


def least_width(wider, most):
    """The least width to which most lets wire of that width go."""
    too_narrow = -1
    let = wider
    # Halved at each step, as most lets every width above one that it lets.
    while let - too_narrow > 1:
        middle = (too_narrow + let) // 2
        if most_lets(wider, middle, most):
            let = middle
        else:
            too_narrow = middle
    return let


def metres_through(metres, rod, width):
    """How many metres come through a die of that width, of so many metres of rod."""
    return metres * rod * rod // (width * width)


def greatest_in_common(first, second):
    """The greatest number that divides both."""
    while second:
        rest = first % second
        first = second
        second = rest
    return first


def part_taken(wider, narrower):
    """Of the section, what a die takes off: above and below, with nothing in common."""
    section = wider * wider
    taken = section - narrower * narrower
    common = greatest_in_common(taken, section)
    return [taken // common, section // common]
