"""A day in a yard: its answers, its states, and a ring behind it.

The box refuses a yard that is not sound with BadYard, also for a day without deeds.
"""

from pointyard.box import Box
from pointyard.deeds import do_deed
from pointyard.rings import find_ring


def answers(yard, deeds):
    box = Box(yard)
    return [do_deed(box, deed) for deed in deeds]


def states(yard, deeds):
    box = Box(yard)
    told = []
    for deed in deeds:
        do_deed(box, deed)
        told.append(state_of(box))
    return told


def ring_behind(yard, deeds):
    box = Box(yard)
    for deed in deeds:
        do_deed(box, deed)
    return find_ring(box)


# Everything is copied, so that later deeds do not change what has been told.
def state_of(box):
    return (list(box.lies), [told_train(train) for train in box.trains], list(box.waits), box.signals())


def told_train(train):
    if train is None:
        return None
    return (list(train.stands), list(train.ahead))
