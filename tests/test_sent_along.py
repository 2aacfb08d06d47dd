import unittest

from built_inputs import answer_of, check_whole_numbers, mixed_fits
from pipeworks.roads import road_to, sent_along
from pipeworks.sums import given_by

GREAT = 10 ** 40


class SentAlong(unittest.TestCase):
    def sent(self, plan, steps, amount):
        answer = answer_of(self, sent_along, plan, steps, amount)
        check_whole_numbers(self, answer)
        self.assertIsNot(answer, plan, "the plan that was handed in is given back")
        return answer

    def test_the_empty_road(self):
        for amount in (0, 1, GREAT):
            self.assertEqual(self.sent([], [], amount), [])
            self.assertEqual(self.sent([3, 0, 5], [], amount), [3, 0, 5])

    def test_an_amount_of_nought(self):
        self.assertEqual(self.sent([3, 0, 5], [(2, "against"), (0, "along")], 0), [3, 0, 5])

    def test_a_step_along(self):
        self.assertEqual(self.sent([3, 0, 5], [(0, "along")], 4), [7, 0, 5])
        self.assertEqual(self.sent([3, 0, 5], [(2, "along")], 4), [3, 0, 9])

    def test_a_step_against(self):
        self.assertEqual(self.sent([3, 8, 5], [(1, "against")], 4), [3, 4, 5])
        self.assertEqual(self.sent([3, 8, 5], [(0, "against")], 3), [0, 8, 5])

    def test_steps_of_both_sorts_in_any_order(self):
        plan = [10, 200, 3000, 40000]
        self.assertEqual(self.sent(plan, [(3, "along"), (0, "against"), (2, "along")], 7), [3, 200, 3007, 40007])
        self.assertEqual(self.sent(plan, [(1, "against"), (3, "against")], 7), [10, 193, 3000, 39993])

    def test_the_room_of_the_pipes_is_not_looked_at(self):
        self.assertEqual(self.sent([3, 2], [(0, "against"), (1, "along")], 50), [-47, 52])
        self.assertEqual(self.sent([0], [(0, "against")], 1), [-1])

    def test_very_great_amounts(self):
        self.assertEqual(self.sent([1, GREAT, 5], [(0, "along"), (1, "against")], GREAT), [GREAT + 1, 0, 5])
        self.assertEqual(self.sent([0, 0], [(0, "against")], GREAT), [-GREAT, 0])

    def test_somewhat_more_than_two_hundred_steps(self):
        steps = [(number, ("along", "against")[number % 2]) for number in range(230)]
        self.assertEqual(self.sent([50] * 230, steps, 3), [53, 47] * 115)

    def test_what_is_handed_in_stays(self):
        plan = [3, 8, 5]
        steps = [(1, "against"), (2, "along")]
        answer = sent_along(plan, steps, 4)
        answer.append(9)
        answer[0] = 77
        self.assertEqual(plan, [3, 8, 5])
        self.assertEqual(steps, [(1, "against"), (2, "along")])

    def test_what_the_stations_give(self):
        pipes = [(0, 1, 9), (2, 1, 9), (2, 3, 9), (3, 3, 9), (0, 3, 9)]
        plan = [1, 5, 2, 4, 8]
        later = self.sent(plan, [(0, "along"), (1, "against"), (2, "along")], 3)
        self.assertEqual(later, [4, 2, 5, 4, 8])
        self.assertEqual([given_by(pipes, later, station) - given_by(pipes, plan, station) for station in range(4)],
                         [3, 0, 0, -3])

    def test_only_the_ends_of_a_road_give_otherwise(self):
        found = 0
        for count, pipes, plan in mixed_fits(300):
            start, goal = 0, count - 1
            road = road_to(count, pipes, plan, start, goal)
            if road is None:
                continue
            found += len(road) > 1
            for amount in (0, 1, GREAT + 1):
                later = self.sent(plan, road, amount)
                self.assertEqual(len(later), len(plan))
                for station in range(count):
                    more = amount * ((station == start) - (station == goal))
                    self.assertEqual(given_by(pipes, later, station), given_by(pipes, plan, station) + more)
                stepped = [number for number, _ in road]
                for number in range(len(plan)):
                    self.assertEqual(abs(later[number] - plan[number]), amount if number in stepped else 0)
        self.assertGreater(found, 50)


if __name__ == "__main__":
    unittest.main()
