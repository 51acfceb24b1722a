"""What it costs to make one row of units of another, and how near they are."""

from ferrymemory.units import WEIGHTS

# What it costs to put one unit in another's place, by their group; of words alike but for A to Z and a to z it is 1.
CHANGES = (1, 4, 2, 1)


def far_change(group, other):
    """What a change between units of these groups costs that have nothing more in common."""
    if group == other:
        return CHANGES[group]
    # Such a change can't be. Leaving the one out and putting the other in always can, so its price changes no least.
    return WEIGHTS[group] + WEIGHTS[other]


class Changes:
    """What it costs to put a unit in the place of each of some units."""

    def __init__(self, units):
        self.units = units
        # A line for each group, and where units are alike, so that no pair of units is looked at by itself.
        self.far_lines = []
        self.alike = {}
        for group in range(len(WEIGHTS)):
            self.far_lines.append([far_change(group, unit.group) for unit in units])
        for place, unit in enumerate(units):
            self.alike.setdefault((unit.group, unit.folded), []).append(place)

    def line_of(self, unit):
        line = list(self.far_lines[unit.group])
        for place in self.alike.get((unit.group, unit.folded), []):
            line[place] = 0 if self.units[place].content == unit.content else 1
        return line


def first_line(weights):
    """The costs of making the first 0, 1, 2 .. units of nothing."""
    line = [0]
    for weight in weights:
        line.append(line[-1] + weight)
    return line


def next_line(line, weight, changes, weights):
    """The costs with one more unit, of this weight, on the one side."""
    corner = line[0]
    least = corner + weight
    result = [least]
    for above, change, put_in in zip(line[1:], changes, weights):
        least += put_in
        if above + weight < least:
            least = above + weight
        if corner + change < least:
            least = corner + change
        result.append(least)
        corner = above
    return result


def cost_of(units, others):
    """The least sum of steps that make the one row's units of the other's."""
    changes = Changes(others)
    weights = [other.weight for other in others]
    line = first_line(weights)
    for unit in units:
        line = next_line(line, unit.weight, changes.line_of(unit), weights)
    return line[-1]


def nearness(cost, weights):
    if weights == 0:
        return 1000
    return 1000 * (weights - cost) // weights
