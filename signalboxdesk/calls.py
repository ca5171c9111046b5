"""The calls that change a box, unless they refuse: each gives the list of what it answers."""

from signalboxdesk.refusals import (
    NO_SUCH,
    NOT_ALLOWED,
    NOT_AS_THINGS_STAND,
    NOT_FREE,
    ROUTE_IS_SET,
    SAYS_STOP,
    TRAINS_ALL_USED,
)
from signalboxdesk.state import Train, is_free, lay_points, least_unused, stands_for, start_anew, turned_about
from signalboxdesk.track import draw_track, has_end, is_points, other_end
from signalboxdesk.ways import way_from

MOST_TRAINS = 8


def lay(box, kinds, joints, posts):
    track = draw_track(kinds, joints, posts)
    if track is None:
        return [NOT_ALLOWED]
    start_anew(box, track)
    return [len(kinds)]


def put(box, section, end):
    if not has_end(box.track.kinds, section, end):
        return [NOT_ALLOWED]
    if not is_free(box, section):
        return [NOT_FREE]
    if not stands_for(box, section, end):
        return [NOT_AS_THINGS_STAND]
    if len(box.trains) == MOST_TRAINS:
        return [TRAINS_ALL_USED]
    number = least_unused(box.trains)
    end_in = other_end(box.track, section, end, box.stances[section])
    box.trains[number] = Train((section, end_in, end))
    return [number]


def take(box, number):
    if number not in box.trains:
        return [NO_SUCH]
    if len(box.trains[number].given) > 0:
        return [NOT_AS_THINGS_STAND]
    train = box.trains.pop(number)
    return [len(train.stands)]


def route(box, signal, choices):
    found = way_from(box.track, signal, choices)
    if found[0] != 0:
        return [found[0]]
    if signal in box.routes:
        return [ROUTE_IS_SET]
    steps = found[1]
    for step in steps:
        if not is_free(box, step[0]):
            return [NOT_FREE, 1, step[0]]
    lay_points(box, steps)
    box.routes[signal] = steps
    return [len(steps)]


def cancel(box, signal):
    if signal >= len(box.track.signals):
        return [NO_SUCH]
    if signal not in box.routes:
        return [NOT_AS_THINGS_STAND]
    steps = box.routes.pop(signal)
    return [len(steps)]


def front(box, number):
    if number not in box.trains:
        return [NO_SUCH]
    train = box.trains[number]
    if len(train.given) == 0:
        spot = (train.stands[0][0], train.stands[0][2])
        if spot not in box.track.signal_at:
            return [NOT_AS_THINGS_STAND]
        signal = box.track.signal_at[spot]
        if signal not in box.routes:
            return [SAYS_STOP]
        train.given = box.routes.pop(signal)
    step = train.given.pop(0)
    train.stands.insert(0, step)
    return [step[0]]


def rear(box, number):
    if number not in box.trains:
        return [NO_SUCH]
    train = box.trains[number]
    if len(train.stands) == 1:
        return [NOT_AS_THINGS_STAND]
    train.stands.pop()
    return [len(train.stands)]


def back(box, number):
    if number not in box.trains:
        return [NO_SUCH]
    train = box.trains[number]
    if len(train.given) > 0:
        return [NOT_AS_THINGS_STAND]
    train.stands = turned_about(train.stands)
    return [len(train.stands)]


def turn_points(box, section, stance):
    if section >= len(box.track.kinds) or not is_points(box.track, section) or stance > 1:
        return [NOT_ALLOWED]
    if not is_free(box, section):
        return [NOT_FREE]
    box.stances[section] = stance
    return [0]
