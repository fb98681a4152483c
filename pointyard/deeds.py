"""The deeds of a day: what bars them, what they change, and how they are answered."""


def do_deed(box, deed):
    refusal = why_refused(box, deed)
    if refusal is not None:
        return refusal
    answer = change(box, deed)
    box.serve()
    # Whether a way is set is known only when all that wait have been looked at.
    if deed[0] == "ask":
        return "waits" if box.is_waiting(deed[1]) else "set"
    return answer


# The text with which the deed is refused, None where nothing bars it. Where more than one thing
# does, the order of the questions decides which is told.
def why_refused(box, deed):
    name = deed[0]
    if name == "come":
        return why_not_come(box, deed[1])
    if name == "turn":
        return why_not_turn(box, deed[1])
    if not box.has_train(deed[1]):
        return "no train"
    if name == "ask":
        return why_not_ask(box, deed[1], deed[2])
    return why_not_of_train(box, name, deed[1])


def why_not_come(box, piece):
    if not box.has_piece(piece):
        return "no piece"
    if not box.is_free(piece):
        return "not free"
    return None


def why_not_turn(box, piece):
    if not box.has_piece(piece):
        return "no piece"
    if box.lies[piece] is None:
        return "no points"
    if not box.is_free(piece):
        return "not free"
    return None


def why_not_ask(box, number, way):
    if box.is_busy(number):
        return "busy"
    if not box.has_way(number, way):
        return "no way"
    return None


def why_not_of_train(box, name, number):
    train = box.trains[number]
    if name == "go" and len(train.ahead) == 0:
        return "stop"
    if name == "draw" and len(train.stands) == 1:
        return "short"
    if name == "back" and not box.is_busy(number):
        return "nothing"
    if name == "leave" and box.is_busy(number):
        return "busy"
    return None


# Does a deed that nothing bars. Its answer is given back, but for asking, which has none yet.
def change(box, deed):
    name = deed[0]
    if name == "come":
        return box.come(deed[1])
    if name == "turn":
        return box.turn(deed[1])
    if name == "go":
        return box.go(deed[1])
    if name == "draw":
        return box.draw(deed[1])
    if name == "back":
        box.back(deed[1])
        return "back"
    if name == "leave":
        box.leave(deed[1])
        return "left"
    box.ask(deed[1], deed[2])
    return None
