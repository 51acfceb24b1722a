"""What it costs to make one row of units of another, and how near they are.

All units of the one left out, and all of the other put in, cost all weights of both. Each unit that is put in another's
place saves both their weights, less what that costs; so the cost is the least where the most is saved.
"""

from ferrymemory.units import WEIGHTS, weight_of

# What it costs to put one unit in another's place, by their group; of words alike but for A to Z and a to z it is 1.
CHANGES = (1, 4, 2, 1)


def far_saving(group, other):
    """What is saved between units of these groups that have nothing more in common."""
    # Where one can't be put in the other's place nothing is saved: that is the same as leaving out and putting in.
    return 2 * WEIGHTS[group] - CHANGES[group] if group == other else 0


class Savings:
    """What is saved by putting a unit in the place of each of some units."""

    def __init__(self, units):
        self.units = units
        # A line for each group, and where units are alike, so that no pair of units is looked at by itself.
        self.far_lines = []
        self.alike = {}
        # The lines that were asked for, as rows have the same units again and again.
        self.known_lines = {}
        for group in range(len(WEIGHTS)):
            self.far_lines.append([far_saving(group, unit.group) for unit in units])
        for place, unit in enumerate(units):
            self.alike.setdefault((unit.group, unit.folded), []).append(place)

    def line_of(self, unit):
        key = (unit.group, unit.content)
        if key not in self.known_lines:
            self.known_lines[key] = self.new_line(unit)
        return self.known_lines[key]

    def new_line(self, unit):
        places = self.alike.get((unit.group, unit.folded), [])
        if not places:
            return self.far_lines[unit.group]
        line = list(self.far_lines[unit.group])
        for place in places:
            line[place] = 2 * unit.weight - (0 if self.units[place].content == unit.content else 1)
        return line


def next_line(line, saved):
    """The most that is saved with the first 0, 1, 2 .. of the units, with one more on the other side than in line."""
    corner = 0
    most = 0
    result = [most]
    for above, saving in zip(line[1:], saved):
        if corner + saving > most:
            most = corner + saving
        if above > most:
            most = above
        result.append(most)
        corner = above
    return result


def cost_of(units, savings):
    """The least sum of steps that make these units of those whose savings are given."""
    line = [0] * (len(savings.units) + 1)
    for unit in units:
        line = next_line(line, savings.line_of(unit))
    return weight_of(units) + weight_of(savings.units) - line[-1]


def nearness(cost, weights):
    if weights == 0:
        return 1000
    return 1000 * (weights - cost) // weights
