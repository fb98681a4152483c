"""A slow model, which follows the document word by word, and drawn yards and days for the tests."""

import copy

GREAT = (10 ** 31, 10 ** 32 - 1, 10 ** 40)
FAR = GREAT + tuple(-number for number in GREAT)
NAMES = ("come", "ask", "go", "draw", "back", "leave", "turn")


class Model:
    def __init__(self, yard):
        self.yard = yard
        self.lies = [0 if entry[0] else None for entry in yard]
        self.trains = []
        self.waits = []

    def present(self):
        return [number for number, train in enumerate(self.trains) if train is not None]

    def free(self, piece):
        return not any(piece in stands + ahead for stands, ahead in filter(None, self.trains))

    def steps(self, wait):
        train, way = wait
        return self.yard[self.trains[train][0][-1]][1][way]

    def pieces(self, wait):
        return [piece for piece, lie in self.steps(wait)]

    def barred(self, wait):
        for piece in self.pieces(wait):
            if not self.free(piece):
                return True
            if any(piece in self.pieces(other) for other in self.waits[: self.waits.index(wait)]):
                return True
        return False

    def look(self):
        for wait in list(self.waits):
            if self.barred(wait):
                continue
            for piece, lie in self.steps(wait):
                self.trains[wait[0]][1].append(piece)
                if self.yard[piece][0]:
                    self.lies[piece] = lie
            self.waits.remove(wait)

    def signal(self, piece):
        return any(stands[-1] == piece and ahead != [] for stands, ahead in filter(None, self.trains))

    def state(self):
        """The four lists as they are told of a day, none of which later deeds change."""
        signals = [self.signal(piece) for piece in range(len(self.yard))]
        return copy.deepcopy((self.lies, self.trains, self.waits, signals))

    def waiting(self, number):
        return number in [wait[0] for wait in self.waits]

    def busy(self, number):
        return self.waiting(number) or self.trains[number][1] != []

    def deeds(self):
        """All deeds that are not refused."""
        free = [piece for piece in range(len(self.yard)) if self.free(piece)]
        found = [("come", piece) for piece in free]
        found += [("turn", piece) for piece in free if self.yard[piece][0]]
        for number in self.present():
            stands, ahead = self.trains[number]
            if self.busy(number):
                found.append(("back", number))
            else:
                found.append(("leave", number))
                found += [("ask", number, way) for way in range(len(self.yard[stands[-1]][1]))] * 2
            if ahead:
                found += [("go", number)] * 4
            if len(stands) > 1:
                found += [("draw", number)] * 2
        return found

    def refusals(self, deed):
        """The texts of point 7 for the deed, in their order, with whether each of them is to be told."""
        name, number = deed[0], deed[1]
        if name in ("come", "turn"):
            yield "no piece", number not in range(len(self.yard))
            if name == "turn":
                yield "no points", not self.yard[number][0]
            yield "not free", not self.free(number)
            return
        yield "no train", number not in self.present()
        stands, ahead = self.trains[number]
        if name == "ask":
            yield "busy", self.busy(number)
            yield "no way", deed[2] not in range(len(self.yard[stands[-1]][1]))
        elif name == "go":
            yield "stop", ahead == []
        elif name == "draw":
            yield "short", len(stands) == 1
        elif name == "back":
            yield "nothing", not self.busy(number)
        elif name == "leave":
            yield "busy", self.busy(number)

    def refusal(self, deed):
        for text, told in self.refusals(deed):
            if told:
                return text
        return None

    def do(self, deed):
        """Does a deed that is not refused."""
        name, number = deed[0], deed[1]
        answer = None
        if name == "come":
            answer = len(self.trains)
            self.trains.append(([number], []))
        elif name == "turn":
            answer = 1 - self.lies[number]
            self.lies[number] = answer
        elif name == "ask":
            self.waits.append((number, deed[2]))
        elif name == "go":
            answer = self.trains[number][1].pop(0)
            self.trains[number][0].append(answer)
        elif name == "draw":
            answer = self.trains[number][0].pop(0)
        elif name == "back":
            self.waits = [wait for wait in self.waits if wait[0] != number]
            self.trains[number][1].clear()
            answer = "back"
        elif name == "leave":
            self.trains[number] = None
            answer = "left"
        self.look()
        if name == "ask":
            answer = "waits" if self.waiting(number) else "set"
        return answer

    def answer(self, deed):
        refusal = self.refusal(deed)
        return self.do(deed) if refusal is None else refusal


def hangs(yard, state):
    """For each train that waits all trains on which it hangs, by the words of point 10."""
    lies, trains, waits, signals = state
    ways = [
        (number, [piece for piece, lie in yard[trains[number][0][-1]][1][way]])
        for number, way in waits
    ]
    found = {}
    for place, (number, pieces) in enumerate(ways):
        on = [other for other, train in enumerate(trains) if train and set(pieces) & set(train[0] + train[1])]
        on += [other for other, others in ways[:place] if set(pieces) & set(others)]
        found[number] = sorted(set(on))
    return found


def is_ring(hanging, ring):
    """`hanging` is what `hangs` gives."""
    return (
        len(ring) > 0
        and len(ring) == len(set(ring))
        and all(number in hanging for number in ring)
        and all(after in hanging[number] for number, after in zip(ring, ring[1:] + ring[:1]))
    )


def can_be_told(hanging):
    """Whether those that wait can be told in the order of which point 10 speaks."""
    untold = list(hanging)
    while untold:
        ready = [number for number in untold if not set(hanging[number]) & set(untold)]
        if not ready:
            return False
        untold.remove(ready[0])
    return True


def drawn_yard(chance):
    size = chance.randint(1, 8)
    points = [chance.random() < 0.5 for piece in range(size)]
    yard = []
    for start in range(size):
        others = [piece for piece in range(size) if piece != start]
        ways = []
        for way in range(chance.randint(0, 3) if others else 0):
            pieces = chance.sample(others, chance.randint(1, min(4, len(others))))
            ways.append([(piece, chance.randint(0, 1) if points[piece] else None) for piece in pieces])
        yard.append((points[start], ways))
    return yard


def any_deed(chance, model):
    """A deed which is refused more often than not."""
    name = chance.choice(NAMES)
    many = len(model.yard if name in ("come", "turn") else model.trains)
    number = chance.choice([-1, many, -many, chance.choice(FAR)] + list(range(many)) * 2)
    if name != "ask":
        return (name, number)
    return (name, number, chance.choice([-1, 0, 1, 2, 3, 5, chance.choice(FAR)]))


def drawn_day(chance, yard, length):
    """Deeds with the answers and the states that the model gives."""
    model = Model(yard)
    deeds, answers, states = [], [], []
    for count in range(length):
        deed = any_deed(chance, model) if chance.random() < 0.3 else chance.choice(model.deeds())
        deeds.append(deed)
        answers.append(model.answer(deed))
        states.append(model.state())
    return deeds, answers, states
