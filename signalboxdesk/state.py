"""What a box keeps from call to call, and who has a section."""

from signalboxdesk.track import TOE, is_points, other_end, stance_needed

FREE = 0
STOOD_ON = 1
GIVEN = 2
IN_ROUTE = 3


class Train:
    def __init__(self, step):
        self.stands = [step]
        self.given = []


class Box:
    def __init__(self):
        self.track = None
        self.stances = []
        self.trains = {}
        self.routes = {}


def start_anew(box, track):
    box.track = track
    box.stances = [0 for kind in track.kinds]
    box.trains = {}
    box.routes = {}


def passes(steps, section):
    return any([step[0] == section for step in steps])


def who_has(box, section):
    """A pair: how it is had, and the number of the train or signal; 0 where it is free."""
    for number, train in box.trains.items():
        if passes(train.stands, section):
            return (STOOD_ON, number)
        if passes(train.given, section):
            return (GIVEN, number)
    for signal, steps in box.routes.items():
        if passes(steps, section):
            return (IN_ROUTE, signal)
    return (FREE, 0)


def is_free(box, section):
    return who_has(box, section)[0] == FREE


def stands_for(box, section, end):
    """Whether a train may go out by this end as the points stand."""
    if not is_points(box.track, section) or end == TOE:
        return True
    return other_end(box.track, section, TOE, box.stances[section]) == end


def lay_points(box, steps):
    for step in steps:
        if is_points(box.track, step[0]):
            box.stances[step[0]] = stance_needed(step)


def turned_about(steps):
    return [(step[0], step[2], step[1]) for step in reversed(steps)]


def least_unused(numbered):
    number = 0
    while number in numbered:
        number += 1
    return number
