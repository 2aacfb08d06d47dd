"""What a station gives, how wide a side is, and what flows over it.

A pipe is a tuple (start, goal, width). Nothing is refused here, and a plan need not fit.
"""

START = 0
GOAL = 1
WIDTH = 2


def given_by(pipes, plan, station):
    given = 0
    for pipe, flow in zip(pipes, plan):
        # Two questions, not one with an else: a pipe from the station to itself counts on both sides.
        if pipe[START] == station:
            given += flow
        if pipe[GOAL] == station:
            given -= flow
    return given


def side_width(pipes, side):
    on_side = marked(side)
    total = 0
    for pipe in pipes:
        if pipe[START] in on_side and pipe[GOAL] not in on_side:
            total += pipe[WIDTH]
    return total


def flow_over(pipes, plan, side):
    on_side = marked(side)
    total = 0
    for pipe, flow in zip(pipes, plan):
        if pipe[START] in on_side and pipe[GOAL] not in on_side:
            total += flow
        if pipe[START] not in on_side and pipe[GOAL] in on_side:
            total -= flow
    return total


# The number of stations has no bound: a long side, asked as a list, would be walked anew for each pipe.
def marked(side):
    marks = {}
    for station in side:
        marks[station] = True
    return marks
