"""The calls that change nothing: each tells of a box, as the list of what it answers."""

from signalboxdesk.refusals import NO_SUCH
from signalboxdesk.state import FREE, is_free, who_has
from signalboxdesk.ways import way_from


def told_steps(steps):
    """A list of steps as it is answered: how many numbers, then three for each."""
    told = [3 * len(steps)]
    for step in steps:
        told.extend(step)
    return told


def show_way(box, signal, choices):
    found = way_from(box.track, signal, choices)
    if found[0] != 0:
        return [found[0]]
    return [len(found[1])] + told_steps(found[1])


def show_section(box, section):
    if section >= len(box.track.kinds):
        return [NO_SUCH]
    holder = who_has(box, section)
    if holder[0] == FREE:
        return [FREE, 1, box.stances[section]]
    return [holder[0], 2, box.stances[section], holder[1]]


def show_signal(box, signal):
    if signal >= len(box.track.signals):
        return [NO_SUCH]
    return [1 if signal in box.routes else 0]


def show_train(box, number):
    if number not in box.trains:
        return [NO_SUCH]
    train = box.trains[number]
    return [len(train.stands)] + told_steps(train.stands) + told_steps(train.given)


def show_counts(box):
    free = [section for section in range(len(box.track.kinds)) if is_free(box, section)]
    return [len(box.trains), 2, len(box.routes), len(free)]
