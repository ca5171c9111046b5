"""What a box keeps from call to call, and who has a section."""

from signalboxdesk.track import TOE, is_points, other_end, stance_needed


class Train:
    def __init__(self, step):
        self.stands = [step]
        self.given = []


class Box:
    def __init__(self):
        self.track = None
        self.stances = []
        self.trains = {}
        self.routes = {}


def start_anew(box, track):
    box.track = track
    box.stances = [0 for kind in track.kinds]
    box.trains = {}
    box.routes = {}


def passes(steps, section):
    return any([step[0] == section for step in steps])


def is_free(box, section):
    for train in box.trains.values():
        if passes(train.stands, section) or passes(train.given, section):
            return False
    return not any([passes(steps, section) for steps in box.routes.values()])


def stands_for(box, section, end):
    """Whether a train may go out by this end as the points stand."""
    if not is_points(box.track, section) or end == TOE:
        return True
    return other_end(box.track, section, TOE, box.stances[section]) == end


def lay_points(box, steps):
    for step in steps:
        if is_points(box.track, step[0]):
            box.stances[step[0]] = stance_needed(step)


def least_unused(numbered):
    number = 0
    while number in numbered:
        number += 1
    return number
