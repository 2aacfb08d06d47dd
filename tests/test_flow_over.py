import unittest

from built_inputs import all_sides, ask, mixed_networks, small_networks
from pipeworks.sums import flow_over, given_by

GREAT = 10 ** 40

# Two stations on each half, and a pipe of every sort; every sum of the flows tells its pipes.
PIPES = [(0, 1, 9), (0, 2, 9), (1, 3, 0), (3, 0, 9), (2, 3, 9), (1, 1, 9), (2, 2, 9), (0, 2, 9)]
PLAN = [1, 20, 300, 4000, 50000, 600000, 7000000, 80000000]


def flow_by_the_words(pipes, plan, side):
    """Point 6 word for word."""
    out = sum(flow for (start, goal, _), flow in zip(pipes, plan) if start in side and goal not in side)
    back = sum(flow for (start, goal, _), flow in zip(pipes, plan) if start not in side and goal in side)
    return out - back


class FlowOver(unittest.TestCase):
    def over(self, pipes, plan, side):
        return ask(self, flow_over, pipes, plan, side)

    def test_no_pipe(self):
        for side in all_sides(3):
            self.assertEqual(self.over([], [], side), 0)

    def test_the_empty_side(self):
        self.assertEqual(self.over(PIPES, PLAN, []), 0)

    def test_the_side_of_all_stations(self):
        self.assertEqual(self.over(PIPES, PLAN, [0, 1, 2, 3]), 0)

    def test_a_pipe_within_the_side(self):
        self.assertEqual(self.over([(0, 1, 5)], [3], [0, 1]), 0)
        self.assertEqual(self.over([(0, 1, 5)], [-3], [0, 1]), 0)

    def test_a_pipe_beyond_the_side(self):
        self.assertEqual(self.over([(0, 1, 5)], [3], [2]), 0)
        self.assertEqual(self.over([(0, 1, 5)], [-3], [2]), 0)

    def test_a_pipe_out_of_the_side(self):
        self.assertEqual(self.over([(0, 1, 5)], [3], [0]), 3)
        self.assertEqual(self.over([(0, 1, 5)], [-3], [0]), -3)

    def test_a_pipe_into_the_side(self):
        self.assertEqual(self.over([(0, 1, 5)], [3], [1]), -3)
        self.assertEqual(self.over([(0, 1, 5)], [-3], [1]), 3)

    def test_a_pipe_from_a_station_to_itself(self):
        for flow in (3, -3):
            self.assertEqual(self.over([(1, 1, 5)], [flow], [1]), 0)
            self.assertEqual(self.over([(1, 1, 5)], [flow], [0]), 0)

    def test_all_sorts_together(self):
        self.assertEqual(self.over(PIPES, PLAN, [0, 1]), 80000320 - 4000)
        self.assertEqual(self.over(PIPES, PLAN, [2, 3]), 4000 - 80000320)
        self.assertEqual(self.over(PIPES, PLAN, [0]), 80000021 - 4000)
        self.assertEqual(self.over(PIPES, PLAN, [1]), 300 - 1)

    def test_several_pipes_between_the_same_two(self):
        pipes = [(0, 1, 5), (0, 1, 5), (1, 0, 70), (0, 1, 5), (1, 0, 70)]
        self.assertEqual(self.over(pipes, [1, 1, 20, 4, 50], [0]), -64)
        self.assertEqual(self.over(pipes, [1, 1, 20, 4, 50], [1]), 64)

    def test_the_order_of_the_side_does_not_matter(self):
        pipes = [(station, 9, 1) for station in range(5)] + [(9, 3, 7), (2, 4, 8)]
        plan = [10 ** station for station in range(5)] + [7, 8]
        for side in ([1, 2, 3, 4], [4, 3, 2, 1], [3, 1, 4, 2], [2, 4, 1, 3]):
            self.assertEqual(self.over(pipes, plan, side), 11103)

    def test_the_width_is_not_the_flow(self):
        self.assertEqual(self.over([(0, 1, 5)], [0], [0]), 0)
        self.assertEqual(self.over([(0, 1, 5)], [0], [1]), 0)

    def test_width_nought_and_flows_beyond_the_width(self):
        self.assertEqual(self.over([(0, 1, 0)], [0], [0]), 0)
        self.assertEqual(self.over([(0, 1, 0), (1, 0, 2)], [6, 50], [0]), -44)

    def test_very_great_flows(self):
        pipes = [(0, 1, 5), (1, 0, GREAT), (0, 2, 1), (2, 1, 1)]
        plan = [GREAT + 1, GREAT, 10 ** 60, -10 ** 80]
        self.assertEqual(self.over(pipes, plan, [0]), 10 ** 60 + 1)
        self.assertEqual(self.over(pipes, plan, [0, 2]), 1 - 10 ** 80)

    def test_stations_without_a_pipe(self):
        self.assertEqual(self.over([(0, 1, 5)], [3], [7, 0, 5]), 3)
        self.assertEqual(self.over([(0, 1, 5)], [3], [7, 5]), 0)

    def test_a_station_is_not_its_place_in_the_side(self):
        self.assertEqual(self.over([(0, 1, 5), (6, 0, 30), (2, 4, 1)], [3, 20, 100], [6, 4]), -80)

    def test_a_very_long_side(self):
        pipes = [(number, 300000 + number, 1) for number in range(200)]
        self.assertEqual(self.over(pipes, [3] * 200, list(range(300000))), 600)

    def test_somewhat_more_than_two_hundred_pipes(self):
        pipes = [(number % 5, (number + 1) % 5, 1) for number in range(230)]
        self.assertEqual(self.over(pipes, list(range(230)), [0]), 46 - 230)

    def test_nothing_is_refused(self):
        pipes = [(-1, 0, -4), (0, -1, 3), (-1, -2, 10)]
        self.assertEqual(self.over(pipes, [5, 20, 100], [-1]), 85)
        self.assertEqual(self.over(pipes, [5, 20, 100], [0, -5]), 15)

    def test_every_side_of_every_small_network(self):
        for pipes, plan in small_networks():
            for side in all_sides(3):
                with self.subTest(pipes=pipes, plan=plan, side=side):
                    self.assertEqual(self.over(pipes, plan, side), flow_by_the_words(pipes, plan, side))

    def test_mixed_networks(self):
        for _, pipes, plan, side in mixed_networks(300):
            self.assertEqual(self.over(pipes, plan, side), flow_by_the_words(pipes, plan, side))
            self.assertEqual(self.over(pipes, plan, side[::-1]), flow_by_the_words(pipes, plan, side))
            self.assertEqual(self.over(pipes, plan, sorted(side)), flow_by_the_words(pipes, plan, side))

    def test_it_is_the_sum_of_what_the_stations_on_the_side_give(self):
        for pipes, plan in small_networks():
            for side in all_sides(3):
                with self.subTest(pipes=pipes, plan=plan, side=side):
                    given = sum(given_by(pipes, plan, station) for station in side)
                    self.assertEqual(self.over(pipes, plan, side), given)
        for _, pipes, plan, side in mixed_networks(300):
            given = sum(given_by(pipes, plan, station) for station in side)
            self.assertEqual(self.over(pipes, plan, side), given)

    def test_a_whole_number_is_told(self):
        for pipes, plan in (([], []), ([(0, 1, 1)], [1]), ([(0, 0, 1)], [1]), ([(0, 1, 1)], [0])):
            for side in all_sides(2):
                self.assertIs(type(flow_over(pipes, plan, side)), int)

    def test_what_is_handed_in_stays(self):
        pipes = [(2, 0, 4), (0, 1, 3), (0, 0, 1)]
        plan = [9, -2, 5]
        side = [2, 0, 1]
        flow_over(pipes, plan, side)
        self.assertEqual(pipes, [(2, 0, 4), (0, 1, 3), (0, 0, 1)])
        self.assertEqual(plan, [9, -2, 5])
        self.assertEqual(side, [2, 0, 1])

    def test_nothing_is_kept_between_calls(self):
        self.assertEqual(self.over([(0, 1, 5)], [3], [0]), 3)
        self.assertEqual(self.over([(0, 1, 5)], [4], [0]), 4)
        self.assertEqual(self.over([(0, 1, 5)], [3], [1]), -3)
        self.assertEqual(self.over([(0, 1, 5)], [3], [0]), 3)


if __name__ == "__main__":
    unittest.main()
