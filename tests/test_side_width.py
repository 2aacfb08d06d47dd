import unittest

from built_inputs import all_sides, ask, mixed_networks, small_networks
from pipeworks.sums import side_width

GREAT = 10 ** 40

# Two stations on each half, and a pipe of every sort; every sum of the widths tells its pipes.
PIPES = [
    (0, 1, 1),
    (0, 2, 20),
    (1, 3, 300),
    (3, 0, 4000),
    (2, 3, 50000),
    (1, 1, 600000),
    (2, 2, 7000000),
    (0, 2, 80000000),
]


def width_by_the_words(pipes, side):
    """Point 6 word for word."""
    return sum(width for start, goal, width in pipes if start in side and goal not in side)


class SideWidth(unittest.TestCase):
    def width(self, pipes, side):
        return ask(self, side_width, pipes, side)

    def test_no_pipe(self):
        for side in all_sides(3):
            self.assertEqual(self.width([], side), 0)

    def test_the_empty_side(self):
        self.assertEqual(self.width(PIPES, []), 0)

    def test_the_side_of_all_stations(self):
        self.assertEqual(self.width(PIPES, [0, 1, 2, 3]), 0)

    def test_a_pipe_within_the_side(self):
        self.assertEqual(self.width([(0, 1, 5)], [0, 1]), 0)

    def test_a_pipe_beyond_the_side(self):
        self.assertEqual(self.width([(0, 1, 5)], [2]), 0)

    def test_a_pipe_out_of_the_side(self):
        self.assertEqual(self.width([(0, 1, 5)], [0]), 5)

    def test_a_pipe_into_the_side(self):
        self.assertEqual(self.width([(0, 1, 5)], [1]), 0)

    def test_a_pipe_from_a_station_to_itself(self):
        self.assertEqual(self.width([(1, 1, 5)], [1]), 0)
        self.assertEqual(self.width([(1, 1, 5)], [0]), 0)

    def test_all_sorts_together(self):
        self.assertEqual(self.width(PIPES, [0, 1]), 80000320)
        self.assertEqual(self.width(PIPES, [2, 3]), 4000)
        self.assertEqual(self.width(PIPES, [0]), 80000021)
        self.assertEqual(self.width(PIPES, [1]), 300)

    def test_several_pipes_between_the_same_two(self):
        pipes = [(0, 1, 5), (0, 1, 5), (1, 0, 70), (0, 1, 5), (1, 0, 70)]
        self.assertEqual(self.width(pipes, [0]), 15)
        self.assertEqual(self.width(pipes, [1]), 140)

    def test_the_order_of_the_side_does_not_matter(self):
        pipes = [(station, 9, 10 ** station) for station in range(5)] + [(9, 3, 7), (2, 4, 8)]
        for side in ([1, 2, 3, 4], [4, 3, 2, 1], [3, 1, 4, 2], [2, 4, 1, 3]):
            self.assertEqual(self.width(pipes, side), 11110)

    def test_width_nought(self):
        self.assertEqual(self.width([(0, 1, 0)], [0]), 0)
        self.assertEqual(self.width([(0, 1, 0), (0, 1, 6), (0, 2, 0)], [0]), 6)

    def test_very_great_widths(self):
        pipes = [(0, 1, GREAT), (0, 1, GREAT + 1), (0, 2, 10 ** 60), (1, 0, 10 ** 80)]
        self.assertEqual(self.width(pipes, [0]), 10 ** 60 + 2 * GREAT + 1)
        self.assertEqual(self.width(pipes, [0, 2]), 2 * GREAT + 1)

    def test_stations_without_a_pipe(self):
        self.assertEqual(self.width([(0, 1, 5)], [7, 0, 5]), 5)
        self.assertEqual(self.width([(0, 1, 5)], [7, 5]), 0)

    def test_a_station_is_not_its_place_in_the_side(self):
        self.assertEqual(self.width([(0, 1, 5), (6, 0, 30)], [6, 4]), 30)

    def test_a_very_long_side(self):
        pipes = [(number, 300000 + number, 1) for number in range(200)]
        self.assertEqual(self.width(pipes, list(range(300000))), 200)

    def test_somewhat_more_than_two_hundred_pipes(self):
        pipes = [(number % 5, (number + 1) % 5, number) for number in range(230)]
        self.assertEqual(self.width(pipes, [0]), sum(range(0, 230, 5)))

    def test_nothing_is_refused(self):
        pipes = [(-1, 0, -4), (0, -1, 3), (-1, -2, 10)]
        self.assertEqual(self.width(pipes, [-1]), 6)
        self.assertEqual(self.width(pipes, [0, -5]), 3)

    def test_every_side_of_every_small_network(self):
        for pipes, _ in small_networks():
            for side in all_sides(3):
                with self.subTest(pipes=pipes, side=side):
                    self.assertEqual(self.width(pipes, side), width_by_the_words(pipes, side))

    def test_mixed_networks(self):
        for _, pipes, _, side in mixed_networks(300):
            self.assertEqual(self.width(pipes, side), width_by_the_words(pipes, side))
            self.assertEqual(self.width(pipes, side[::-1]), width_by_the_words(pipes, side))
            self.assertEqual(self.width(pipes, sorted(side)), width_by_the_words(pipes, side))

    def test_a_whole_number_is_told(self):
        for pipes in ([], [(0, 1, 1)], [(0, 0, 1)], [(0, 1, 0)]):
            for side in all_sides(2):
                self.assertIs(type(side_width(pipes, side)), int)

    def test_what_is_handed_in_stays(self):
        pipes = [(2, 0, 4), (0, 1, 3), (0, 0, 1)]
        side = [2, 0, 1]
        side_width(pipes, side)
        self.assertEqual(pipes, [(2, 0, 4), (0, 1, 3), (0, 0, 1)])
        self.assertEqual(side, [2, 0, 1])

    def test_nothing_is_kept_between_calls(self):
        self.assertEqual(self.width([(0, 1, 5)], [0]), 5)
        self.assertEqual(self.width([(0, 1, 5)], [1]), 0)
        self.assertEqual(self.width([(0, 1, 6)], [0]), 6)
        self.assertEqual(self.width([(0, 1, 5)], [0]), 5)


if __name__ == "__main__":
    unittest.main()
