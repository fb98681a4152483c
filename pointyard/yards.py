"""Yards, and which of them are sound."""

from pointyard.errors import BadYard


def check_yard(yard):
    if len(yard) == 0:
        raise BadYard("the yard has no piece")
    for start, entry in enumerate(yard):
        for way in entry[1]:
            check_way(yard, start, way)


def check_way(yard, start, way):
    if len(way) == 0:
        raise BadYard(f"a way from piece {start} has no step")
    # The start counts as met, since the way may not come back to it.
    met = {start: True}
    for piece, lie in way:
        # A number below nought would index the yard from its end.
        if piece < 0 or piece >= len(yard):
            raise BadYard(f"a way from piece {start} has a step to no piece of the yard")
        if piece in met:
            raise BadYard(f"a way from piece {start} comes to piece {piece} again")
        met[piece] = True
        if not fits(yard[piece][0], lie):
            raise BadYard(f"a way from piece {start} has a wrong lie for piece {piece}")


def fits(points, lie):
    if points:
        return lie in (0, 1)
    return lie is None
