"""Rings: trains that wait for one another."""


# A ring of trains in the box, any one; None where there is none.
def find_ring(box):
    hangs = hangs_of_all(box)
    left = in_or_before_rings(hangs)
    if len(left) == 0:
        return None
    return walk_to_ring(hangs, left)


# For each train that waits the trains on which it hangs.
def hangs_of_all(box):
    hangs = {}
    for place, wait in enumerate(box.waits):
        hangs[wait[0]] = hangs_of(box, place)
    return hangs


# The trains on which the one hangs that waits at that place of the order.
def hangs_of(box, place):
    pieces = pieces_of(box, box.waits[place])
    found = [box.keepers[piece] for piece in pieces if not box.is_free(piece)]
    for other in box.waits[:place]:
        if have_common(pieces, pieces_of(box, other)):
            found.append(other[0])
    return found


def pieces_of(box, wait):
    return [piece for piece, lie in box.steps_of(wait[0], wait[1])]


def have_common(some, others):
    return any([piece in others for piece in some])


# At first all that wait are left. Those that hang on none that is left are in no ring, nor do they
# lead to one: they are let go, until each that is left hangs on one that is left.
def in_or_before_rings(hangs):
    left = list(hangs)
    kept = those_that_hang(hangs, left)
    while len(kept) < len(left):
        left = kept
        kept = those_that_hang(hangs, left)
    return left


def those_that_hang(hangs, left):
    return [number for number in left if have_common(hangs[number], left)]


# Each that is left hangs on one that is left, so the walk goes on until it meets a train again.
def walk_to_ring(hangs, left):
    path = []
    number = left[0]
    while number not in path:
        path.append(number)
        number = [other for other in hangs[number] if other in left][0]
    return path[path.index(number):]
