"""Inputs that are built by rule, the same on every run, and one way to ask the program."""

import copy
import itertools

from pipeworks.errors import FlowError


def answer_of(case, function, *handed):
    """The answer of any call, with what was handed in checked on the way."""
    before = copy.deepcopy(handed)
    answer = function(*handed)
    case.assertEqual(handed, before, "what was handed in was changed")
    return answer


def ask(case, function, *handed):
    """The answer of a call that tells a whole number."""
    answer = answer_of(case, function, *handed)
    case.assertIs(type(answer), int, "the answer is no whole number")
    return answer


def refused(case, kind, function, *handed):
    """The call is refused with just this class, and what was handed in stays."""
    before = copy.deepcopy(handed)
    with case.assertRaises(FlowError) as caught:
        function(*handed)
    case.assertIs(type(caught.exception), kind)
    case.assertEqual(handed, before, "what was handed in was changed")


def check_whole_numbers(case, answer):
    """A list of whole numbers alone."""
    case.assertIs(type(answer), list)
    for number in answer:
        case.assertIs(type(number), int)


def all_sides(count):
    """Every side of the stations 0 to count - 1, each by rising numbers."""
    for size in range(count + 1):
        for side in itertools.combinations(range(count), size):
            yield list(side)


def small_networks():
    """Every list of up to two pipes between three stations, with a few plans each."""
    ends = list(itertools.product(range(3), repeat=2))
    for many in range(3):
        for chosen in itertools.product(ends, repeat=many):
            # Widths and flows that no other sum of them equals, so that a mixed-up pipe shows.
            pipes = [(start, goal, 7 * 10 ** number) for number, (start, goal) in enumerate(chosen)]
            for signs in itertools.product((-1, 0, 1), repeat=many):
                yield pipes, [sign * 3 * 10 ** number for number, sign in enumerate(signs)]


class Dice:
    """Numbers that look mixed but are the same on every run."""

    def __init__(self, seed):
        self.state = seed * 2654435761 + 1

    def below(self, bound):
        self.state = (self.state * 6364136223846793005 + 1442695040888963407) % 2 ** 64
        return (self.state >> 33) % bound


def mixed_networks(many):
    """Networks of up to 220 pipes, each with a plan that need not fit and a side in any order."""
    for seed in range(many):
        dice = Dice(seed)
        count = 1 + dice.below(12)
        scale = (1, 1000, 10 ** 40)[dice.below(3)]
        pipes = []
        plan = []
        for _ in range(dice.below(221)):
            pipes.append((dice.below(count), dice.below(count), dice.below(50) * scale))
            plan.append((dice.below(201) - 100) * scale + dice.below(9))
        side = []
        for station in range(count):
            if dice.below(2):
                side.insert(dice.below(len(side) + 1), station)
        yield count, pipes, plan, side


def fitting_networks():
    """Every list of up to two pipes between three stations, each pipe shut, empty, full or half full; and every
    list of three that are empty, full or half full, the first of them from station 0 or to it."""
    ends = list(itertools.product(range(3), repeat=2))
    states = [(0, 0), (7, 0), (7, 7), (7, 3)]
    for many in range(3):
        for chosen in itertools.product(ends, repeat=many):
            for filled in itertools.product(states, repeat=many):
                yield with_states(chosen, filled)
    for chosen in itertools.product([(0, 1), (1, 0), (0, 0)], ends, ends):
        for filled in itertools.product(states[1:], repeat=3):
            yield with_states(chosen, filled)


def with_states(chosen, filled):
    pipes = [(start, goal, width) for (start, goal), (width, _) in zip(chosen, filled)]
    return pipes, [flow for _, flow in filled]


def mixed_fits(many):
    """Networks of up to 220 pipes, sparse or thick, each with a plan that fits; some pipes are shut, empty or full."""
    for seed in range(many):
        dice = Dice(seed + 7000)
        count = 1 + dice.below(40)
        scale = (1, 1000, 10 ** 40)[dice.below(3)]
        pipes = []
        plan = []
        for _ in range(dice.below(dice.below(220) + 2)):
            width = dice.below(4) * scale
            pipes.append((dice.below(count), dice.below(count), width))
            plan.append((0, width, width // 2)[dice.below(3)])
        yield count, pipes, plan


def mixed_widths(many):
    """Networks of up to 220 pipes for a flow from the first station to the last, widths of all sizes among them."""
    for seed in range(many):
        dice = Dice(seed + 9000)
        count = 2 + dice.below(40)
        reach = 1 + dice.below(count)
        pipes = []
        for _ in range(dice.below(221)):
            start = dice.below(count)
            # Pipes lead mostly on and seldom back, so that roads grow long.
            goal = max(0, min(count - 1, start + dice.below(reach + 2) - reach // 4))
            pipes.append((start, goal, dice.below(100) * 10 ** dice.below(41)))
        yield count, pipes
