"""Steps and roads by a plan that fits, and amounts sent along them.

A step is a tuple of a pipe's number and ALONG or AGAINST; a road is a list of steps. Nothing is refused here.
"""

from pipeworks.sums import GOAL, START, WIDTH

ALONG = "along"
AGAINST = "against"


def reached_from(count, pipes, plan, station):
    roads = roads_from(pipes, plan, station)
    return sorted(roads.keys())


def road_to(count, pipes, plan, start, goal):
    roads = roads_from(pipes, plan, start)
    # Not roads[goal]: a goal that is not reached has no road, which is told as None.
    return roads.get(goal)


def sent_along(plan, steps, amount):
    sent = list(plan)
    for number, way in steps:
        if way == ALONG:
            sent[number] += amount
        else:
            sent[number] -= amount
    return sent


# Nearest stations first, so that each road is one of the fewest steps: the greatest flow is then found in a number
# of rounds that the widths have no part in. Stations that are not reached cost nothing, however many there are.
def roads_from(pipes, plan, start):
    steps = steps_by_station(pipes, plan)
    roads = {start: []}
    last_reached = [start]
    while len(last_reached) > 0:
        next_reached = []
        for here in last_reached:
            for step, there in steps.get(here, []):
                if there not in roads:
                    roads[there] = roads[here] + [step]
                    next_reached.append(there)
        last_reached = next_reached
    return roads


def steps_by_station(pipes, plan):
    steps = {}
    for number, pipe in enumerate(pipes):
        # Both steps are there where a pipe has some flow and some room too.
        if plan[number] < pipe[WIDTH]:
            steps.setdefault(pipe[START], []).append(((number, ALONG), pipe[GOAL]))
        if plan[number] > 0:
            steps.setdefault(pipe[GOAL], []).append(((number, AGAINST), pipe[START]))
    return steps
