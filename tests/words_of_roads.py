"""Points 8 and 9 word for word, written apart from the program."""


def step_comes_to(pipes, plan, station, step):
    """The station that the step comes to when it is taken from this one; None where it can't be taken."""
    number, way = step
    start, goal, width = pipes[number]
    if way == "along" and start == station and plan[number] < width:
        return goal
    if way == "against" and goal == station and plan[number] > 0:
        return start
    return None


def reached_by_the_words(pipes, plan, station):
    """Grown until no step leads to a station that isn't there yet, by rising numbers."""
    reached = {station}
    grown = True
    while grown:
        grown = False
        for number in range(len(pipes)):
            for way in ("along", "against"):
                for here in list(reached):
                    there = step_comes_to(pipes, plan, here, (number, way))
                    if there is not None and there not in reached:
                        reached.add(there)
                        grown = True
    return sorted(reached)


def check_road(case, pipes, plan, start, goal, road):
    """That a list is a road from start to goal, and of the kinds that are told."""
    case.assertIs(type(road), list)
    come_to = [start]
    for step in road:
        case.assertIs(type(step), tuple)
        case.assertEqual(len(step), 2)
        case.assertIs(type(step[0]), int)
        case.assertIs(type(step[1]), str)
        case.assertIn(step[0], range(len(pipes)))
        case.assertIn(step[1], ("along", "against"))
        there = step_comes_to(pipes, plan, come_to[-1], step)
        case.assertIsNotNone(there, "a step that can't be taken")
        case.assertNotIn(there, come_to, "a station is come to twice")
        come_to.append(there)
    case.assertEqual(come_to[-1], goal)
