"""Inputs that are built by rule, the same on every run, and one way to ask the program."""

import copy
import itertools


def ask(case, function, *handed):
    """The answer, with the two things that hold for every call checked on the way."""
    before = copy.deepcopy(handed)
    answer = function(*handed)
    case.assertEqual(handed, before, "what was handed in was changed")
    case.assertIs(type(answer), int, "the answer is no whole number")
    return answer


def all_sides(count):
    """Every side of the stations 0 to count - 1, each by rising numbers."""
    for size in range(count + 1):
        for side in itertools.combinations(range(count), size):
            yield list(side)


def small_networks():
    """Every list of up to two pipes between three stations, with a few plans each."""
    ends = list(itertools.product(range(3), repeat=2))
    for many in range(3):
        for chosen in itertools.product(ends, repeat=many):
            # Widths and flows that no other sum of them equals, so that a mixed-up pipe shows.
            pipes = [(start, goal, 7 * 10 ** number) for number, (start, goal) in enumerate(chosen)]
            for signs in itertools.product((-1, 0, 1), repeat=many):
                yield pipes, [sign * 3 * 10 ** number for number, sign in enumerate(signs)]


class Dice:
    """Numbers that look mixed but are the same on every run."""

    def __init__(self, seed):
        self.state = seed * 2654435761 + 1

    def below(self, bound):
        self.state = (self.state * 6364136223846793005 + 1442695040888963407) % 2 ** 64
        return (self.state >> 33) % bound


def mixed_networks(many):
    """Networks of up to 220 pipes, each with a plan that need not fit and a side in any order."""
    for seed in range(many):
        dice = Dice(seed)
        count = 1 + dice.below(12)
        scale = (1, 1000, 10 ** 40)[dice.below(3)]
        pipes = []
        plan = []
        for _ in range(dice.below(221)):
            pipes.append((dice.below(count), dice.below(count), dice.below(50) * scale))
            plan.append((dice.below(201) - 100) * scale + dice.below(9))
        side = []
        for station in range(count):
            if dice.below(2):
                side.insert(dice.below(len(side) + 1), station)
        yield count, pipes, plan, side
