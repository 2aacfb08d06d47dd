import unittest

from built_inputs import answer_of, check_whole_numbers, fitting_networks, mixed_fits
from pipeworks.roads import reached_from
from words_of_roads import reached_by_the_words

GREAT = 10 ** 40


class ReachedFrom(unittest.TestCase):
    def reached(self, count, pipes, plan, station):
        answer = answer_of(self, reached_from, count, pipes, plan, station)
        check_whole_numbers(self, answer)
        return answer

    def test_no_pipe(self):
        self.assertEqual(self.reached(1, [], [], 0), [0])
        for station in range(3):
            self.assertEqual(self.reached(3, [], [], station), [station])

    def test_along_an_empty_pipe(self):
        self.assertEqual(self.reached(2, [(0, 1, 5)], [0], 0), [0, 1])
        self.assertEqual(self.reached(2, [(0, 1, 5)], [0], 1), [1])

    def test_a_full_pipe(self):
        self.assertEqual(self.reached(2, [(0, 1, 5)], [5], 0), [0])
        self.assertEqual(self.reached(2, [(0, 1, 5)], [5], 1), [0, 1])

    def test_a_pipe_with_flow_and_room(self):
        for flow in (1, 4):
            self.assertEqual(self.reached(2, [(0, 1, 5)], [flow], 0), [0, 1])
            self.assertEqual(self.reached(2, [(0, 1, 5)], [flow], 1), [0, 1])

    def test_a_width_of_nought(self):
        self.assertEqual(self.reached(2, [(0, 1, 0)], [0], 0), [0])
        self.assertEqual(self.reached(2, [(0, 1, 0)], [0], 1), [1])

    def test_a_pipe_from_a_station_to_itself(self):
        for flow in (0, 3, 5):
            self.assertEqual(self.reached(2, [(0, 0, 5)], [flow], 0), [0])
            self.assertEqual(self.reached(2, [(0, 0, 5)], [flow], 1), [1])

    def test_one_open_pipe_among_several_is_enough(self):
        pipes = [(0, 1, 5), (0, 1, 0), (0, 1, 2)]
        self.assertEqual(self.reached(2, pipes, [5, 0, 2], 0), [0])
        self.assertEqual(self.reached(2, pipes, [5, 0, 1], 0), [0, 1])
        self.assertEqual(self.reached(2, pipes, [4, 0, 2], 0), [0, 1])
        self.assertEqual(self.reached(2, pipes, [0, 0, 0], 1), [1])
        self.assertEqual(self.reached(2, pipes, [0, 0, 2], 1), [0, 1])

    def test_pipes_both_ways(self):
        pipes = [(0, 1, 5), (1, 0, 5)]
        self.assertEqual(self.reached(2, pipes, [5, 0], 0), [0])
        self.assertEqual(self.reached(2, pipes, [5, 1], 0), [0, 1])
        self.assertEqual(self.reached(2, pipes, [0, 5], 1), [1])
        self.assertEqual(self.reached(2, pipes, [5, 0], 1), [0, 1])

    def test_a_station_that_no_pipe_touches(self):
        self.assertEqual(self.reached(4, [(0, 2, 5), (2, 3, 5)], [0, 0], 0), [0, 2, 3])
        self.assertEqual(self.reached(4, [(0, 2, 5), (2, 3, 5)], [0, 0], 1), [1])

    def test_through_several_stations_along_and_against(self):
        pipes = [(0, 3, 4), (1, 3, 4), (1, 2, 4), (4, 2, 4)]
        self.assertEqual(self.reached(5, pipes, [0, 2, 0, 0], 0), [0, 1, 2, 3])
        self.assertEqual(self.reached(5, pipes, [0, 2, 0, 4], 0), [0, 1, 2, 3, 4])
        self.assertEqual(self.reached(5, pipes, [0, 0, 0, 4], 0), [0, 3])
        self.assertEqual(self.reached(5, pipes, [0, 2, 4, 4], 0), [0, 1, 3])

    def test_round_and_back(self):
        pipes = [(0, 1, 1), (1, 2, 1), (2, 0, 1)]
        for station in range(3):
            self.assertEqual(self.reached(3, pipes, [0, 0, 0], station), [0, 1, 2])
            self.assertEqual(self.reached(3, pipes, [1, 1, 1], station), [0, 1, 2])

    def test_from_the_least_to_the_greatest_whatever_the_pipes_order(self):
        pipes = [(5, 11, 1), (11, 2, 1), (2, 8, 1), (8, 0, 1), (0, 10, 1), (5, 9, 1)]
        for listed in (pipes, pipes[::-1], pipes[3:] + pipes[:3]):
            self.assertEqual(self.reached(12, listed, [0] * 6, 5), [0, 2, 5, 8, 9, 10, 11])

    def test_very_great_widths(self):
        pipes = [(0, 1, GREAT), (1, 2, GREAT + 1), (2, 3, GREAT)]
        self.assertEqual(self.reached(4, pipes, [GREAT - 1, GREAT, GREAT], 0), [0, 1, 2])
        self.assertEqual(self.reached(4, pipes, [GREAT, 0, 0], 0), [0])

    def test_very_many_stations(self):
        self.assertEqual(self.reached(GREAT, [(3, GREAT - 1, 5)], [0], 3), [3, GREAT - 1])

    def test_a_long_row_of_pipes(self):
        pipes = [(number + 1, number, 2) for number in range(230)]
        self.assertEqual(self.reached(231, pipes, [1] * 230, 0), list(range(231)))
        self.assertEqual(self.reached(231, pipes, [0] * 230, 230), list(range(231)))
        self.assertEqual(self.reached(231, pipes, [2] * 230, 230), [230])
        self.assertEqual(self.reached(231, pipes, [2] * 100 + [0] + [2] * 129, 0), list(range(101)))

    def test_every_small_network(self):
        for pipes, plan in fitting_networks():
            for station in range(3):
                self.assertEqual(self.reached(3, pipes, plan, station), reached_by_the_words(pipes, plan, station),
                                 (pipes, plan, station))

    def test_mixed_networks(self):
        for count, pipes, plan in mixed_fits(150):
            for station in {0, count // 2, count - 1}:
                self.assertEqual(self.reached(count, pipes, plan, station),
                                 reached_by_the_words(pipes, plan, station), (pipes, plan, station))

    def test_nothing_is_kept_between_calls(self):
        pipes = [(0, 1, 5)]
        first = self.reached(2, pipes, [0], 0)
        first.append(9)
        self.assertEqual(self.reached(2, pipes, [0], 0), [0, 1])
        self.assertEqual(self.reached(2, pipes, [5], 0), [0])
        self.assertEqual(self.reached(2, pipes, [0], 0), [0, 1])


if __name__ == "__main__":
    unittest.main()
