import unittest

from built_inputs import answer_of, fitting_networks, mixed_fits
from pipeworks.roads import road_to
from words_of_roads import check_road, reached_by_the_words, step_comes_to

GREAT = 10 ** 40


def fewest_steps(pipes, plan, start, goal):
    """How many steps lead from start to goal at the least; None where none do."""
    reached = {start}
    for many in range(len(pipes) + 1):
        if goal in reached:
            return many
        reached |= {step_comes_to(pipes, plan, here, (number, way)) for here in reached
                    for number in range(len(pipes)) for way in ("along", "against")} - {None}
    return None


class RoadTo(unittest.TestCase):
    def road(self, count, pipes, plan, start, goal):
        road = answer_of(self, road_to, count, pipes, plan, start, goal)
        if road is not None:
            check_road(self, pipes, plan, start, goal, road)
        return road

    def check(self, count, pipes, plan, start, goal):
        """A road is told just where steps lead there, and it is one."""
        road = self.road(count, pipes, plan, start, goal)
        self.assertEqual(road is not None, goal in reached_by_the_words(pipes, plan, start),
                         (pipes, plan, start, goal))
        if start == goal:
            self.assertEqual(road, [])

    def test_no_pipe(self):
        self.assertIsNone(self.road(2, [], [], 0, 1))
        self.assertIsNone(self.road(2, [], [], 1, 0))

    def test_from_a_station_to_itself(self):
        self.assertEqual(self.road(1, [], [], 0, 0), [])
        self.assertEqual(self.road(2, [(0, 0, 5), (0, 1, 5), (1, 0, 5)], [2, 2, 2], 0, 0), [])
        self.assertEqual(self.road(3, [(0, 1, 5)], [5], 2, 2), [])

    def test_along_a_pipe(self):
        self.assertEqual(self.road(2, [(0, 1, 5)], [0], 0, 1), [(0, "along")])
        self.assertEqual(self.road(2, [(0, 1, 5)], [4], 0, 1), [(0, "along")])
        self.assertIsNone(self.road(2, [(0, 1, 5)], [5], 0, 1))

    def test_against_a_pipe(self):
        self.assertEqual(self.road(2, [(0, 1, 5)], [5], 1, 0), [(0, "against")])
        self.assertEqual(self.road(2, [(0, 1, 5)], [1], 1, 0), [(0, "against")])
        self.assertIsNone(self.road(2, [(0, 1, 5)], [0], 1, 0))

    def test_a_width_of_nought(self):
        self.assertIsNone(self.road(2, [(0, 1, 0)], [0], 0, 1))
        self.assertIsNone(self.road(2, [(0, 1, 0)], [0], 1, 0))

    def test_a_pipe_from_a_station_to_itself_is_on_no_road(self):
        for flow in (0, 3, 5):
            pipes = [(0, 0, 5), (1, 1, 5), (0, 1, 5), (1, 1, 5), (1, 2, 5), (2, 2, 5)]
            plan = [flow, flow, 0, flow, 0, flow]
            self.assertEqual(self.road(3, pipes, plan, 0, 2), [(2, "along"), (4, "along")])

    def test_the_open_one_of_several_pipes(self):
        pipes = [(0, 1, 5), (0, 1, 0), (0, 1, 2), (0, 1, 5)]
        self.assertEqual(self.road(2, pipes, [5, 0, 1, 5], 0, 1), [(2, "along")])
        self.assertEqual(self.road(2, pipes, [0, 0, 1, 0], 1, 0), [(2, "against")])
        self.assertIsNone(self.road(2, pipes, [5, 0, 2, 5], 0, 1))
        self.assertIsNone(self.road(2, pipes, [0, 0, 0, 0], 1, 0))
        self.assertIn(self.road(2, pipes, [0, 0, 0, 0], 0, 1), ([(0, "along")], [(2, "along")], [(3, "along")]))

    def test_pipes_both_ways(self):
        pipes = [(0, 1, 5), (1, 0, 5)]
        self.assertEqual(self.road(2, pipes, [0, 0], 0, 1), [(0, "along")])
        self.assertEqual(self.road(2, pipes, [5, 5], 0, 1), [(1, "against")])
        self.assertEqual(self.road(2, pipes, [0, 0], 1, 0), [(1, "along")])
        self.assertEqual(self.road(2, pipes, [5, 5], 1, 0), [(0, "against")])
        self.assertIsNone(self.road(2, pipes, [5, 0], 0, 1))

    def test_along_and_against_by_turns(self):
        pipes = [(4, 2, 4), (1, 3, 4), (1, 2, 4), (0, 3, 4)]
        self.assertEqual(self.road(5, pipes, [4, 2, 0, 0], 0, 4),
                         [(3, "along"), (1, "against"), (2, "along"), (0, "against")])
        self.assertIsNone(self.road(5, pipes, [0, 2, 0, 0], 0, 4))
        self.assertIsNone(self.road(5, pipes, [4, 0, 0, 0], 0, 4))
        self.assertIsNone(self.road(5, pipes, [4, 2, 4, 0], 0, 4))
        self.assertIsNone(self.road(5, pipes, [4, 2, 0, 4], 0, 4))

    def test_a_station_that_no_pipe_touches(self):
        self.assertIsNone(self.road(4, [(0, 1, 5), (1, 3, 5)], [0, 0], 0, 2))
        self.assertIsNone(self.road(4, [(0, 1, 5), (1, 3, 5)], [0, 0], 2, 0))

    def test_past_side_ways_and_rounds(self):
        pipes = [(0, 1, 1), (1, 0, 1), (1, 2, 1), (2, 1, 1), (2, 0, 1), (2, 3, 1), (0, 4, 1), (4, 0, 1), (3, 0, 1)]
        for listed in (pipes, pipes[::-1], pipes[4:] + pipes[:4]):
            road = self.road(5, listed, [0] * 9, 0, 3)
            self.assertEqual([listed[number] for number, _ in road], [(0, 1, 1), (1, 2, 1), (2, 3, 1)])

    def test_very_great_widths(self):
        pipes = [(0, 1, GREAT), (1, 2, GREAT + 1)]
        self.assertEqual(self.road(3, pipes, [GREAT - 1, GREAT], 0, 2), [(0, "along"), (1, "along")])
        self.assertIsNone(self.road(3, pipes, [GREAT, GREAT], 0, 2))

    def test_very_many_stations(self):
        self.assertEqual(self.road(GREAT, [(GREAT - 1, 3, 5)], [5], 3, GREAT - 1), [(0, "against")])
        self.assertIsNone(self.road(GREAT, [(GREAT - 1, 3, 5)], [0], 3, GREAT - 1))

    def test_a_long_row_of_pipes(self):
        pipes = [(number + 1, number, 2) for number in range(230)]
        self.assertEqual(self.road(231, pipes, [1] * 230, 0, 230), [(number, "against") for number in range(230)])
        self.assertEqual(self.road(231, pipes, [1] * 230, 230, 0), [(229 - number, "along") for number in range(230)])

    def test_every_small_network(self):
        for pipes, plan in fitting_networks():
            for start, goal in ((0, 0), (0, 1), (0, 2), (1, 0), (2, 1)):
                self.check(3, pipes, plan, start, goal)

    def test_mixed_networks(self):
        for count, pipes, plan in mixed_fits(150):
            for start, goal in {(0, count - 1), (count - 1, 0), (count // 2, count // 3), (0, 0)}:
                self.check(count, pipes, plan, start, goal)

    def test_no_road_has_fewer_steps(self):
        # The document leaves the choice free; best_flow counts on this one, or great widths might cost it their
        # number of rounds.
        for count, pipes, plan in mixed_fits(150):
            told = self.road(count, pipes, plan, 0, count - 1)
            self.assertEqual(None if told is None else len(told), fewest_steps(pipes, plan, 0, count - 1), (pipes, plan))

    def test_a_road_that_is_changed_leaves_the_next_one_as_it_is(self):
        pipes = [(0, 1, 5)]
        for start, goal, told in ((0, 1, [(0, "along")]), (0, 0, [])):
            self.road(2, pipes, [0], start, goal).append("more")
            self.assertEqual(self.road(2, pipes, [0], start, goal), told)


if __name__ == "__main__":
    unittest.main()
