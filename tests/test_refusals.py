import itertools
import unittest

from built_inputs import answer_of, refused
from pipeworks.errors import FlowError, NoStation, NoWidth, OneStation
from pipeworks.greatest import best_flow

GREAT = 10 ** 40

# A number that Python itself refuses to write out.
TOO_LONG_TO_WRITE = 10 ** 5000

COUNT = 4
NO_STATIONS = (-1, -2, -GREAT, -TOO_LONG_TO_WRITE, COUNT, COUNT + 1, GREAT, TOO_LONG_TO_WRITE)
NO_WIDTHS = (-1, -2, -GREAT, -TOO_LONG_TO_WRITE)


class Refusals(unittest.TestCase):
    def refuse(self, kind, count, pipes, spring, drain):
        refused(self, kind, best_flow, count, pipes, spring, drain)


class OneThingWrong(Refusals):
    def test_the_spring_is_no_station(self):
        for wrong in NO_STATIONS:
            self.refuse(NoStation, COUNT, [(0, 3, 5)], wrong, 3)
            self.refuse(NoStation, COUNT, [], wrong, 3)

    def test_the_drain_is_no_station(self):
        for wrong in NO_STATIONS:
            self.refuse(NoStation, COUNT, [(0, 3, 5)], 0, wrong)
            self.refuse(NoStation, COUNT, [], 0, wrong)

    def test_a_pipes_start_is_no_station(self):
        for wrong in NO_STATIONS:
            for place in range(3):
                pipes = [(0, 3, 5), (1, 2, 0), (2, 2, 5)]
                pipes[place] = (wrong, 1, 5)
                self.refuse(NoStation, COUNT, pipes, 0, 3)

    def test_a_pipes_goal_is_no_station(self):
        for wrong in NO_STATIONS:
            for place in range(3):
                pipes = [(0, 3, 5), (1, 2, 0), (2, 2, 5)]
                pipes[place] = (1, wrong, 5)
                self.refuse(NoStation, COUNT, pipes, 0, 3)

    def test_a_pipe_from_no_station_to_itself(self):
        for wrong in NO_STATIONS:
            self.refuse(NoStation, COUNT, [(wrong, wrong, 0)], 0, 3)

    def test_no_station_at_all(self):
        self.refuse(NoStation, 0, [], 0, 1)
        self.refuse(NoStation, 1, [], 0, 1)
        self.refuse(NoStation, 1, [], 1, 0)

    def test_a_width_below_nought(self):
        for wrong in NO_WIDTHS:
            for place in range(3):
                pipes = [(0, 3, 5), (1, 2, 0), (2, 2, 5)]
                start, goal, _ = pipes[place]
                pipes[place] = (start, goal, wrong)
                self.refuse(NoWidth, COUNT, pipes, 0, 3)

    def test_a_width_below_nought_that_no_road_would_meet(self):
        self.refuse(NoWidth, COUNT, [(3, 0, -1)], 0, 3)
        self.refuse(NoWidth, COUNT, [(1, 1, -1)], 0, 3)
        self.refuse(NoWidth, COUNT, [(0, 3, 5), (1, 2, -1)], 0, 3)

    def test_the_spring_is_the_drain(self):
        for station in range(COUNT):
            self.refuse(OneStation, COUNT, [(0, 3, 5)], station, station)
            self.refuse(OneStation, COUNT, [], station, station)
        self.refuse(OneStation, 1, [], 0, 0)
        self.refuse(OneStation, GREAT, [], GREAT - 1, int(str(GREAT - 1)))


class MoreThanOneWrong(Refusals):
    def test_no_station_and_no_width(self):
        for station, width in itertools.product(NO_STATIONS, NO_WIDTHS):
            self.refuse(NoStation, COUNT, [(1, 2, width)], station, 3)
            self.refuse(NoStation, COUNT, [(1, 2, width)], 0, station)
            for wrong in ((station, 2, 5), (2, station, 5)):
                self.refuse(NoStation, COUNT, [(1, 2, width), wrong], 0, 3)
                self.refuse(NoStation, COUNT, [wrong, (1, 2, width)], 0, 3)
            self.refuse(NoStation, COUNT, [(station, 2, width)], 0, 3)
            self.refuse(NoStation, COUNT, [(2, station, width)], 0, 3)

    def test_no_station_and_one_station(self):
        for station in NO_STATIONS:
            self.refuse(NoStation, COUNT, [(0, 3, 5)], station, station)
            self.refuse(NoStation, COUNT, [], station, station)
            self.refuse(NoStation, COUNT, [(0, 3, 5), (station, 1, 5)], 2, 2)
            self.refuse(NoStation, COUNT, [(0, 3, 5), (1, station, 5)], 2, 2)
        self.refuse(NoStation, 0, [], 0, 0)

    def test_no_width_and_one_station(self):
        for width in NO_WIDTHS:
            self.refuse(NoWidth, COUNT, [(0, 3, width)], 1, 1)
            self.refuse(NoWidth, COUNT, [(0, 3, 5), (1, 1, width)], 1, 1)

    def test_all_three(self):
        for station, width in itertools.product(NO_STATIONS, NO_WIDTHS):
            self.refuse(NoStation, COUNT, [(1, 2, width)], station, station)
            self.refuse(NoStation, COUNT, [(1, 2, width), (station, 2, 5)], 0, 0)
            self.refuse(NoStation, COUNT, [(1, 2, width), (2, station, 5)], 0, 0)

    def test_every_mixture_of_rights_and_wrongs(self):
        for start, goal, spring, drain, width in itertools.product((-1, 0, 1, 2), (-1, 0, 1, 2), (-1, 0, 1, 2),
                                                                   (-1, 0, 1, 2), (-1, 0, 1)):
            handed = (2, [(0, 1, 1), (start, goal, width)], spring, drain)
            if not {start, goal, spring, drain} <= {0, 1}:
                self.refuse(NoStation, *handed)
            elif width < 0:
                self.refuse(NoWidth, *handed)
            elif spring == drain:
                self.refuse(OneStation, *handed)
            else:
                answer_of(self, best_flow, *handed)


class NothingWrong(unittest.TestCase):
    def test_what_lies_at_the_edge_is_not_refused(self):
        for handed in ((2, [], 0, 1),
                       (2, [], 1, 0),
                       (4, [(0, 3, 0), (3, 0, 0), (3, 3, 0), (0, 0, 0)], 0, 3),
                       (4, [(3, 3, 5), (0, 0, 5)], 3, 0),
                       (GREAT, [(GREAT - 1, 0, GREAT)], GREAT - 1, 0),
                       (2, [(0, 1, 1)] * 230, 0, 1)):
            try:
                answer_of(self, best_flow, *handed)
            except FlowError as error:
                self.fail(f"refused: {error!r}")


if __name__ == "__main__":
    unittest.main()
