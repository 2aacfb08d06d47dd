"""The greatest flow from a spring to a drain, and a least side that shows it."""

from pipeworks.errors import NoStation, NoWidth, OneStation
from pipeworks.roads import ALONG, reached_from, road_to, sent_along
from pipeworks.sums import GOAL, START, WIDTH


def best_flow(count, pipes, spring, drain):
    # In this order: where more than one is wrong, the first of them is told.
    refuse_no_station(count, pipes, spring, drain)
    refuse_no_width(pipes)
    refuse_one_station(spring, drain)
    plan = greatest_plan(count, pipes, spring, drain)
    # No road leads on to the drain: every pipe out of the reached stations is full, every pipe into them is empty.
    return (plan, reached_from(count, pipes, plan, spring))


def greatest_plan(count, pipes, spring, drain):
    plan = [0] * len(pipes)
    road = road_to(count, pipes, plan, spring, drain)
    while road is not None:
        plan = sent_along(plan, road, room_along(pipes, plan, road))
        road = road_to(count, pipes, plan, spring, drain)
    return plan


def room_along(pipes, plan, road):
    rooms = []
    for number, way in road:
        if way == ALONG:
            rooms.append(pipes[number][WIDTH] - plan[number])
        else:
            rooms.append(plan[number])
    return min(rooms)


# No refusal's words tell the number that is wrong: Python refuses to write out a very long one.
def refuse_no_station(count, pipes, spring, drain):
    stations = [spring, drain]
    for pipe in pipes:
        stations.append(pipe[START])
        stations.append(pipe[GOAL])
    if min(stations) < 0 or max(stations) >= count:
        raise NoStation("the spring, the drain or an end of a pipe is no station")


def refuse_no_width(pipes):
    for pipe in pipes:
        if pipe[WIDTH] < 0:
            raise NoWidth("a pipe has a width below nought")


def refuse_one_station(spring, drain):
    if spring == drain:
        raise OneStation("the spring is the drain")
