import unittest

from built_inputs import ask, mixed_networks, small_networks
from pipeworks.sums import given_by

GREAT = 10 ** 40


def given_by_the_words(pipes, plan, station):
    """Point 4 word for word: all that leads from it, less all that leads to it."""
    out = sum(flow for (start, _, _), flow in zip(pipes, plan) if start == station)
    into = sum(flow for (_, goal, _), flow in zip(pipes, plan) if goal == station)
    return out - into


class GivenBy(unittest.TestCase):
    def given(self, pipes, plan, station):
        return ask(self, given_by, pipes, plan, station)

    def test_no_pipe(self):
        for station in (0, 1, 99):
            self.assertEqual(self.given([], [], station), 0)

    def test_one_pipe_from_its_start(self):
        self.assertEqual(self.given([(0, 1, 5)], [3], 0), 3)

    def test_one_pipe_from_its_goal(self):
        self.assertEqual(self.given([(0, 1, 5)], [3], 1), -3)

    def test_one_pipe_from_a_station_it_does_not_touch(self):
        self.assertEqual(self.given([(0, 1, 5)], [3], 2), 0)

    def test_one_pipe_towards_the_lesser_number(self):
        self.assertEqual(self.given([(4, 2, 5)], [3], 4), 3)
        self.assertEqual(self.given([(4, 2, 5)], [3], 2), -3)

    def test_the_width_is_not_the_flow(self):
        self.assertEqual(self.given([(0, 1, 5)], [0], 0), 0)
        self.assertEqual(self.given([(0, 1, 0)], [0], 1), 0)

    def test_the_width_is_no_station(self):
        self.assertEqual(self.given([(0, 1, 2)], [7], 2), 0)

    def test_a_pipes_number_is_no_station(self):
        self.assertEqual(self.given([(3, 4, 9), (3, 4, 9)], [1, 2], 1), 0)

    def test_several_pipes_one_way(self):
        pipes = [(0, 1, 5), (0, 1, 5), (0, 1, 9)]
        self.assertEqual(self.given(pipes, [1, 1, 7], 0), 9)
        self.assertEqual(self.given(pipes, [1, 1, 7], 1), -9)

    def test_several_pipes_the_other_way(self):
        pipes = [(1, 0, 5), (1, 0, 5), (1, 0, 9)]
        self.assertEqual(self.given(pipes, [1, 1, 7], 0), -9)
        self.assertEqual(self.given(pipes, [1, 1, 7], 1), 9)

    def test_several_pipes_both_ways(self):
        pipes = [(0, 1, 5), (1, 0, 5), (0, 1, 5), (1, 0, 50)]
        self.assertEqual(self.given(pipes, [1, 2, 4, 20], 0), -17)
        self.assertEqual(self.given(pipes, [1, 2, 4, 20], 1), 17)

    def test_a_pipe_from_a_station_to_itself(self):
        self.assertEqual(self.given([(1, 1, 8)], [6], 1), 0)
        self.assertEqual(self.given([(1, 1, 8)], [-6], 1), 0)
        self.assertEqual(self.given([(1, 1, 8)], [6], 0), 0)

    def test_a_pipe_to_itself_beside_others(self):
        pipes = [(0, 1, 8), (1, 1, 8), (1, 2, 8)]
        self.assertEqual(self.given(pipes, [5, 6, 2], 1), -3)

    def test_flows_below_nought(self):
        pipes = [(0, 1, 5), (1, 2, 5)]
        self.assertEqual(self.given(pipes, [-3, -4], 0), -3)
        self.assertEqual(self.given(pipes, [-3, -4], 1), -1)
        self.assertEqual(self.given(pipes, [-3, -4], 2), 4)

    def test_flows_beyond_the_width(self):
        pipes = [(0, 1, 5), (0, 1, 0)]
        self.assertEqual(self.given(pipes, [60, 7], 0), 67)
        self.assertEqual(self.given(pipes, [60, 7], 1), -67)

    def test_very_great_flows(self):
        pipes = [(0, 1, 5), (1, 0, GREAT), (0, 2, 1)]
        plan = [GREAT + 1, GREAT, 10 ** 60]
        self.assertEqual(self.given(pipes, plan, 0), 10 ** 60 + 1)
        self.assertEqual(self.given(pipes, plan, 1), -1)
        self.assertEqual(self.given(pipes, plan, 2), -10 ** 60)
        self.assertEqual(self.given([(0, 1, 1)], [-GREAT], 0), -GREAT)

    def test_very_great_station_numbers(self):
        pipes = [(GREAT, GREAT + 1, 5)]
        self.assertEqual(self.given(pipes, [3], GREAT), 3)
        self.assertEqual(self.given(pipes, [3], GREAT + 1), -3)
        self.assertEqual(self.given(pipes, [3], GREAT + 2), 0)

    def test_somewhat_more_than_two_hundred_pipes(self):
        pipes = [(number % 5, (number + 1) % 5, 1) for number in range(230)]
        plan = [number for number in range(230)]
        self.assertEqual(self.given(pipes, plan, 0), 46 - 230)
        self.assertEqual(self.given(pipes, plan, 1), 46)

    def test_nothing_is_refused(self):
        pipes = [(-1, 0, -4), (0, -1, 3), (-1, -2, 0)]
        self.assertEqual(self.given(pipes, [5, 1, 2], -1), 6)
        self.assertEqual(self.given(pipes, [5, 1, 2], 0), -4)
        self.assertEqual(self.given(pipes, [5, 1, 2], -3), 0)

    def test_every_small_network(self):
        for pipes, plan in small_networks():
            for station in range(4):
                with self.subTest(pipes=pipes, plan=plan, station=station):
                    self.assertEqual(self.given(pipes, plan, station), given_by_the_words(pipes, plan, station))

    def test_mixed_networks(self):
        for count, pipes, plan, _ in mixed_networks(200):
            for station in range(count + 1):
                self.assertEqual(self.given(pipes, plan, station), given_by_the_words(pipes, plan, station))

    def test_all_stations_together_give_nought(self):
        for count, pipes, plan, _ in mixed_networks(100):
            self.assertEqual(sum(self.given(pipes, plan, station) for station in range(count)), 0)

    def test_a_whole_number_is_told(self):
        for pipes, plan in (([], []), ([(0, 1, 1)], [1]), ([(0, 0, 1)], [1]), ([(1, 2, 1)], [0])):
            for station in range(3):
                self.assertIs(type(given_by(pipes, plan, station)), int)

    def test_what_is_handed_in_stays(self):
        pipes = [(2, 0, 4), (0, 1, 3), (0, 0, 1)]
        plan = [9, -2, 5]
        for station in range(3):
            given_by(pipes, plan, station)
        self.assertEqual(pipes, [(2, 0, 4), (0, 1, 3), (0, 0, 1)])
        self.assertEqual(plan, [9, -2, 5])

    def test_nothing_is_kept_between_calls(self):
        self.assertEqual(self.given([(0, 1, 5)], [3], 0), 3)
        self.assertEqual(self.given([(0, 1, 5)], [4], 0), 4)
        self.assertEqual(self.given([(1, 0, 5)], [3], 0), -3)
        self.assertEqual(self.given([(0, 1, 5)], [3], 0), 3)


if __name__ == "__main__":
    unittest.main()
