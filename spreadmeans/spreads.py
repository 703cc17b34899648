"""What is told of something spread over a line, and how a point or a step changes its means."""

from spreadmeans.polynomials import mean_of, times_power_plus
from spreadmeans.ratios import ONE, ZERO, plus, times


class Spread:
    """The means of the powers 0 to 2 k; k is 0 before a begin that's answered above 0."""

    def __init__(self):
        self.k = 0
        self.means = []


def first_means(k):
    """The means that a begin leaves."""
    return [ONE] + [ZERO for power in range(2 * k)]


def with_point(means, place, weight):
    """The means with so much more at a place."""
    changed = []
    share = weight
    for old in means:
        changed.append(plus(old, share))
        share = times(share, place)
    return changed


def moved(means, step):
    """The means of what lies so much further on."""
    changed = []
    raised = [ONE]
    for power in range(len(means)):
        changed.append(mean_of(raised, means))
        raised = times_power_plus(raised, step)
    return changed
