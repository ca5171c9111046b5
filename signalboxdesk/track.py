"""The track as it is laid: sections, what is joined, where signals stand.

A spot is a pair: a section and one of its ends.
"""

POINTS = 1
TOE = 0
STRAIGHT = 1
TURNING = 2
MOST_SECTIONS = 24
MOST_SIGNALS = 24


class Track:
    def __init__(self, kinds, joined, signals):
        self.kinds = kinds
        self.joined = joined
        self.signals = signals
        self.signal_at = {}
        for number, spot in enumerate(signals):
            self.signal_at[spot] = number


def has_end(kinds, section, end):
    return section < len(kinds) and end < 2 + kinds[section]


def is_points(track, section):
    return track.kinds[section] == POINTS


def other_end(track, section, end, stance):
    """The end at the other side of a step; the stance counts only from the toe of points."""
    if not is_points(track, section):
        return 1 - end
    if end != TOE:
        return TOE
    return TURNING if stance == 1 else STRAIGHT


def stance_needed(step):
    """How points must stand for a step through them."""
    return 1 if TURNING in (step[1], step[2]) else 0


def kinds_fit(kinds):
    return 1 <= len(kinds) <= MOST_SECTIONS and max(kinds) <= POINTS


def pair_up(numbers):
    return [(numbers[k], numbers[k + 1]) for k in range(0, len(numbers), 2)]


def spots_fit(kinds, spots):
    """Whether all of them are there and none is named twice."""
    seen = {}
    for spot in spots:
        if spot in seen or not has_end(kinds, spot[0], spot[1]):
            return False
        seen[spot] = True
    return True


def join_spots(spots):
    joined = {}
    for k in range(0, len(spots), 2):
        joined[spots[k]] = spots[k + 1]
        joined[spots[k + 1]] = spots[k]
    return joined


def draw_track(kinds, joints, posts):
    """The track of these lists; None if it may not be so."""
    if not kinds_fit(kinds) or len(joints) % 4 != 0 or len(posts) % 2 != 0:
        return None
    spots = pair_up(joints)
    signals = pair_up(posts)
    if len(signals) > MOST_SIGNALS:
        return None
    if not spots_fit(kinds, spots) or not spots_fit(kinds, signals):
        return None
    return Track(kinds, join_spots(spots), signals)
