"""Ways from a signal. A step is a section, the end in, the end out."""

from signalboxdesk.refusals import NO_SUCH, NOT_ALLOWED, NOT_AS_THINGS_STAND, WAY_TOO_FAR, WRONG_CHOICES
from signalboxdesk.track import TOE, is_points, other_end

MOST_STEPS = 16


def spot_behind(track, spot):
    """Where a way goes on behind a way out; None where it ends."""
    if spot in track.signal_at:
        return None
    return track.joined.get(spot)


def follow(track, start, choices):
    """A pair: 0 and the steps of the way, or a refusal and no steps."""
    steps = []
    seen = {}
    used = 0
    spot = track.joined.get(start)
    while spot is not None:
        section = spot[0]
        # A section is come to before its points are gone through: so this is met before a choice that lacks.
        if section in seen or len(steps) == MOST_STEPS:
            return (WAY_TOO_FAR, [])
        stance = 0
        if is_points(track, section) and spot[1] == TOE:
            if used == len(choices):
                return (WRONG_CHOICES, [])
            stance = choices[used]
            used += 1
        end_out = other_end(track, section, spot[1], stance)
        steps.append((section, spot[1], end_out))
        seen[section] = True
        spot = spot_behind(track, (section, end_out))
    if used < len(choices):
        return (WRONG_CHOICES, [])
    if len(steps) == 0:
        return (NOT_AS_THINGS_STAND, [])
    return (0, steps)


def way_from(track, signal, choices):
    """What route and way have in common: a pair as follow gives it."""
    if signal >= len(track.signals):
        return (NO_SUCH, [])
    if max(choices, default=0) > 1:
        return (NOT_ALLOWED, [])
    return follow(track, track.signals[signal], choices)
