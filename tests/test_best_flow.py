import itertools
import signal
import unittest

from built_inputs import all_sides, answer_of, check_whole_numbers, mixed_widths
from pipeworks.greatest import best_flow

GREAT = 10 ** 40

# A number that Python itself refuses to write out.
TOO_LONG_TO_WRITE = 10 ** 5000


def given(pipes, plan, station):
    """Point 4 word for word."""
    out = sum(flow for (start, _, _), flow in zip(pipes, plan) if start == station)
    into = sum(flow for (_, goal, _), flow in zip(pipes, plan) if goal == station)
    return out - into


def width_of(pipes, side):
    """Point 6 word for word."""
    return sum(width for start, goal, width in pipes if start in side and goal not in side)


def least_width(count, pipes, spring, drain):
    """The least width of all sides with the spring on them and the drain beyond."""
    return min(width_of(pipes, side) for side in all_sides(count) if spring in side and drain not in side)


def greatest_yield(count, pipes, spring, drain):
    """The greatest yield of all plans that there are: each is made, and looked at whether it is kept."""
    yields = []
    for plan in itertools.product(*[range(width + 1) for _, _, width in pipes]):
        gives = [given(pipes, plan, station) for station in range(count)]
        if all(gives[station] == 0 for station in range(count) if station not in (spring, drain)):
            yields.append(gives[spring])
    return max(yields)


def too_long(*told):
    raise AssertionError("no answer came")


class BestFlow(unittest.TestCase):
    # A way of working that takes as many rounds as a pipe is wide never ends: then the test is to fail, not to hang.
    def setUp(self):
        signal.signal(signal.SIGALRM, too_long)
        signal.alarm(100)

    def tearDown(self):
        signal.alarm(0)

    def best(self, count, pipes, spring, drain):
        """The answer, with all that points 3 to 7 ask of it checked: with a side as wide as the yield, by point 7
        no kept plan yields more and no such side is less wide."""
        answer = answer_of(self, best_flow, count, pipes, spring, drain)
        self.assertIs(type(answer), tuple)
        self.assertEqual(len(answer), 2)
        plan, side = answer
        check_whole_numbers(self, plan)
        check_whole_numbers(self, side)
        self.assertEqual(len(plan), len(pipes))
        for (_, _, width), flow in zip(pipes, plan):
            self.assertTrue(0 <= flow <= width, "the plan does not fit")
        for station in {end for pipe in pipes for end in pipe[:2]} - {spring, drain}:
            self.assertEqual(given(pipes, plan, station), 0, "the plan is not kept")
        self.assertEqual(side, sorted(set(side)), "the side does not rise")
        self.assertTrue(all(0 <= station < count for station in side))
        self.assertIn(spring, side)
        self.assertNotIn(drain, side)
        self.assertEqual(width_of(pipes, side), given(pipes, plan, spring))
        return answer

    def best_yield(self, count, pipes, spring, drain):
        return given(pipes, self.best(count, pipes, spring, drain)[0], spring)


class FewPipes(BestFlow):
    def test_no_pipe(self):
        plan, side = self.best(2, [], 0, 1)
        self.assertEqual((plan, side), ([], [0]))
        self.assertEqual(self.best(2, [], 1, 0), ([], [1]))
        self.assertEqual(self.best(5, [], 3, 1)[0], [])

    def test_one_pipe(self):
        self.assertEqual(self.best(2, [(0, 1, 5)], 0, 1), ([5], [0]))
        self.assertEqual(self.best(2, [(1, 0, 5)], 1, 0), ([5], [1]))

    def test_one_pipe_the_wrong_way(self):
        self.assertEqual(self.best(2, [(1, 0, 5)], 0, 1)[1], [0])
        self.assertEqual(self.best_yield(2, [(1, 0, 5)], 0, 1), 0)

    def test_widths_of_nought(self):
        self.assertEqual(self.best(2, [(0, 1, 0)], 0, 1), ([0], [0]))
        self.assertEqual(self.best_yield(3, [(0, 1, 4), (1, 2, 0)], 0, 2), 0)
        self.assertEqual(self.best_yield(3, [(0, 1, 0), (1, 2, 4), (0, 2, 3)], 0, 2), 3)

    def test_a_pipe_from_a_station_to_itself(self):
        self.assertEqual(self.best_yield(2, [(0, 0, 5), (0, 1, 3), (1, 1, 7)], 0, 1), 3)
        self.assertEqual(self.best_yield(3, [(0, 1, 4), (1, 1, 9), (1, 2, 6)], 0, 2), 4)
        self.assertEqual(self.best_yield(2, [(0, 0, 5), (1, 1, 5)], 0, 1), 0)

    def test_several_pipes_one_way(self):
        self.assertEqual(self.best(2, [(0, 1, 5), (0, 1, 70), (0, 1, 0), (0, 1, 5)], 0, 1), ([5, 70, 0, 5], [0]))

    def test_several_pipes_both_ways(self):
        pipes = [(0, 1, 5), (1, 0, 70), (0, 1, 3), (1, 0, 2)]
        self.assertEqual(self.best_yield(2, pipes, 0, 1), 8)
        self.assertEqual(self.best_yield(2, pipes, 1, 0), 72)

    def test_a_row_of_pipes_lets_through_what_its_narrowest_does(self):
        for widths in itertools.permutations((4, 7, 9)):
            pipes = [(0, 1, widths[0]), (1, 2, widths[1]), (2, 3, widths[2])]
            self.assertEqual(self.best(4, pipes, 0, 3)[0], [4, 4, 4])
            self.assertEqual(self.best(4, pipes, 0, 3)[1], list(range(widths.index(4) + 1)))

    def test_a_station_that_no_pipe_touches(self):
        self.assertEqual(self.best_yield(5, [(1, 3, 6)], 1, 3), 6)
        self.assertEqual(self.best(5, [(1, 3, 6)], 1, 4)[0], [0])
        self.assertEqual(self.best(5, [(1, 3, 6)], 0, 3)[0], [0])

    def test_a_drain_that_is_not_reached(self):
        pipes = [(0, 1, 4), (1, 2, 4), (3, 2, 4), (3, 4, 4)]
        self.assertEqual(self.best_yield(5, pipes, 0, 4), 0)
        self.assertEqual(self.best_yield(5, pipes, 0, 3), 0)

    def test_pipes_into_the_spring_and_out_of_the_drain(self):
        pipes = [(0, 1, 4), (1, 0, 9), (1, 2, 6), (2, 1, 9), (2, 0, 9)]
        self.assertEqual(self.best_yield(3, pipes, 0, 2), 4)
        self.assertEqual(self.best_yield(3, pipes, 2, 0), 18)

    def test_the_spring_need_not_be_the_least_station(self):
        pipes = [(4, 2, 5), (2, 0, 3), (4, 0, 1), (2, 3, 9)]
        plan, side = self.best(5, pipes, 4, 0)
        self.assertEqual(plan, [3, 3, 1, 0])
        self.assertEqual([station for station in side if station != 1], [2, 3, 4])

    def test_a_short_road_that_must_be_given_up_in_part(self):
        # The short road 0-1-4-7 takes what both longer ones need, 0-2-3-4-7 and 0-1-5-6-7.
        pipes = [(0, 1, 1), (1, 4, 1), (4, 7, 1), (0, 2, 1), (2, 3, 1), (3, 4, 1), (1, 5, 1), (5, 6, 1), (6, 7, 1)]
        for listed in (pipes, pipes[::-1], pipes[4:] + pipes[:4]):
            self.assertEqual(self.best_yield(8, listed, 0, 7), 2)
            plan = self.best(8, listed, 0, 7)[0]
            self.assertEqual(plan[listed.index((1, 4, 1))], 0)

    def test_a_short_road_that_is_given_up_in_part_of_its_width(self):
        pipes = [(0, 1, 10), (1, 4, 10), (4, 7, 10), (0, 2, 3), (2, 3, 3), (3, 4, 3), (1, 5, 3), (5, 6, 3), (6, 7, 3)]
        plan = self.best(8, pipes, 0, 7)[0]
        self.assertEqual(plan, [10, 7, 10, 3, 3, 3, 3, 3, 3])

    def test_a_known_network(self):
        pipes = [(0, 1, 16), (0, 2, 13), (2, 1, 4), (1, 3, 12), (3, 2, 9), (2, 4, 14), (4, 3, 7), (3, 5, 20), (4, 5, 4)]
        self.assertEqual(self.best_yield(6, pipes, 0, 5), 23)
        self.assertEqual(self.best(6, pipes, 0, 5)[1], [0, 1, 2, 4])

    def test_nothing_is_kept_between_calls(self):
        plan, side = self.best(2, [(0, 1, 5)], 0, 1)
        plan.append(9)
        side.append(9)
        self.assertEqual(self.best(2, [(0, 1, 5)], 0, 1), ([5], [0]))
        self.assertEqual(self.best(2, [(0, 1, 6)], 0, 1), ([6], [0]))


class GreatWidths(BestFlow):
    def test_one_pipe(self):
        for width in (10 ** 12, GREAT, GREAT + 1, TOO_LONG_TO_WRITE):
            plan, side = self.best(2, [(0, 1, width)], 0, 1)
            self.assertTrue(plan == [width])
            self.assertEqual(side, [0])

    def test_a_narrow_pipe_across_two_wide_roads(self):
        # Whoever sends by way of the pipe 1-2, first along, then against, moves one and no more in each round.
        for width in (10 ** 12, GREAT):
            pipes = [(0, 1, width), (0, 2, width), (1, 2, 1), (1, 3, width), (2, 3, width)]
            for listed in itertools.permutations(pipes):
                self.assertEqual(self.best_yield(4, list(listed), 0, 3), 2 * width)

    def test_narrow_pipes_across_wide_roads_under_all_names(self):
        pipes = [(0, 1, GREAT), (0, 2, GREAT), (1, 2, 1), (2, 1, 1), (1, 3, GREAT), (2, 3, GREAT)]
        for names in itertools.permutations(range(4)):
            renamed = [(names[start], names[goal], width) for start, goal, width in pipes]
            self.assertEqual(self.best_yield(4, renamed, names[0], names[3]), 2 * GREAT)

    def test_a_narrow_pipe_on_the_shortest_road(self):
        # Here the road across is shorter than the two beside it.
        for width in (10 ** 12, GREAT):
            pipes = [(0, 1, width), (1, 4, 1), (4, 7, width),
                     (0, 2, width), (2, 3, width), (3, 4, width), (1, 5, width), (5, 6, width), (6, 7, width)]
            self.assertEqual(self.best_yield(8, pipes, 0, 7), 2 * width)
            self.assertEqual(self.best_yield(8, pipes[::-1], 0, 7), 2 * width)

    def test_great_and_small_widths_add_up_to_the_last_digit(self):
        pipes = [(0, 1, GREAT), (0, 1, 7), (1, 2, GREAT + 3), (0, 2, 1), (1, 2, 2)]
        self.assertEqual(self.best_yield(3, pipes, 0, 2), GREAT + 6)

    def test_two_hundred_pipes_of_a_ladder(self):
        # Two long rails with narrow rungs both ways: roads without number lead from end to end.
        pipes = []
        for rung in range(50):
            pipes.append((2 * rung, 2 * rung + 2, GREAT + rung))
            pipes.append((2 * rung + 1, 2 * rung + 3, GREAT - rung))
            pipes.append((2 * rung, 2 * rung + 1, 10 ** (rung % 41)))
            pipes.append((2 * rung + 1, 2 * rung, 10 ** ((rung * 7) % 41)))
        pipes += [(100, 101, GREAT)] + [(102, 0, 3 * GREAT), (102, 1, 3 * GREAT)]
        self.assertEqual(len(pipes), 203)
        for listed in (pipes, pipes[::-1]):
            self.assertEqual(self.best_yield(103, listed, 102, 101), 2 * GREAT - 49)

    def test_mixed_networks(self):
        yielding = 0
        for count, pipes in mixed_widths(250):
            yielding += self.best_yield(count, pipes, 0, count - 1) > 0
            self.best(count, pipes, count - 1, 0)
        self.assertGreater(yielding, 100)


class ManyPipesAndStations(BestFlow):
    def test_very_many_stations(self):
        self.assertEqual(self.best(10 ** 9, [(10 ** 9 - 1, 0, 5)], 10 ** 9 - 1, 0)[0], [5])
        self.assertEqual(self.best_yield(GREAT, [(7, GREAT - 1, 5), (GREAT - 1, 9, 4)], 7, 9), 4)

    def test_a_long_row_of_pipes(self):
        pipes = [(number, number + 1, 1000 - number) for number in range(230)]
        self.assertEqual(self.best(231, pipes, 0, 230), ([771] * 230, list(range(230))))

    def test_many_pipes_between_two_stations(self):
        pipes = [(0, 1, number) for number in range(230)]
        self.assertEqual(self.best(2, pipes, 0, 1), (list(range(230)), [0]))

    def test_a_hundred_roads_of_two_pipes(self):
        pipes = [pipe for number in range(2, 112) for pipe in ((0, number, number), (number, 1, 112 - number))]
        self.assertEqual(self.best_yield(112, pipes, 0, 1), sum(min(n, 112 - n) for n in range(2, 112)))


class EverySmallNetwork(BestFlow):
    def test_up_to_two_pipes_against_all_plans_and_all_sides(self):
        sorts = [(start, goal, width) for start in range(3) for goal in range(3) for width in (0, 1, 3)]
        for many in range(3):
            for pipes in itertools.product(sorts, repeat=many):
                for spring, drain in itertools.permutations(range(3), 2):
                    told = self.best_yield(3, list(pipes), spring, drain)
                    self.assertEqual(told, least_width(3, pipes, spring, drain), (pipes, spring, drain))
                    self.assertEqual(told, greatest_yield(3, pipes, spring, drain), (pipes, spring, drain))

    def test_three_pipes_against_all_sides(self):
        sorts = [(start, goal, width) for start in range(3) for goal in range(3) for width in (2, 5)]
        for pipes in itertools.product(sorts, repeat=3):
            self.assertEqual(self.best_yield(3, list(pipes), 0, 2), least_width(3, pipes, 0, 2), pipes)

    def test_every_choice_of_pipes_between_four_stations(self):
        ends = [(0, 1), (0, 2), (1, 2), (2, 1), (1, 3), (2, 3), (0, 3), (3, 0)]
        for widths in itertools.product((0, 1, 2), repeat=len(ends)):
            pipes = [(start, goal, width) for (start, goal), width in zip(ends, widths)]
            self.assertEqual(self.best_yield(4, pipes, 0, 3), least_width(4, pipes, 0, 3), pipes)


if __name__ == "__main__":
    unittest.main()
