"""The box beside a slow model, which follows points 4, 5, 6 and 9 of the document word by word."""

import copy
import random
import unittest

from pointyard.box import Box
from pointyard.yards import check_yard


class Model:
    def __init__(self, yard):
        self.yard = yard
        self.lies = [0 if entry[0] else None for entry in yard]
        self.trains = []
        self.waits = []

    def present(self):
        return [number for number, train in enumerate(self.trains) if train is not None]

    def free(self, piece):
        return not any(piece in stands + ahead for stands, ahead in filter(None, self.trains))

    def steps(self, wait):
        train, way = wait
        return self.yard[self.trains[train][0][-1]][1][way]

    def pieces(self, wait):
        return [piece for piece, lie in self.steps(wait)]

    def barred(self, wait):
        for piece in self.pieces(wait):
            if not self.free(piece):
                return True
            if any(piece in self.pieces(other) for other in self.waits[: self.waits.index(wait)]):
                return True
        return False

    def look(self):
        for wait in list(self.waits):
            if self.barred(wait):
                continue
            for piece, lie in self.steps(wait):
                self.trains[wait[0]][1].append(piece)
                if self.yard[piece][0]:
                    self.lies[piece] = lie
            self.waits.remove(wait)

    def signal(self, piece):
        return any(stands[-1] == piece and ahead != [] for stands, ahead in filter(None, self.trains))

    def state(self):
        signals = [self.signal(piece) for piece in range(len(self.yard))]
        return (self.lies, self.trains, self.waits, signals, [self.free(piece) for piece in range(len(self.yard))])

    def busy(self, number):
        return number in [wait[0] for wait in self.waits] or self.trains[number][1] != []

    def deeds(self):
        """All deeds that are not refused."""
        free = [piece for piece in range(len(self.yard)) if self.free(piece)]
        found = [("come", piece) for piece in free]
        found += [("turn", piece) for piece in free if self.yard[piece][0]]
        for number in self.present():
            stands, ahead = self.trains[number]
            if self.busy(number):
                found.append(("back", number))
            else:
                found.append(("leave", number))
                found += [("ask", number, way) for way in range(len(self.yard[stands[-1]][1]))] * 2
            if ahead:
                found += [("go", number)] * 4
            if len(stands) > 1:
                found += [("draw", number)] * 2
        return found

    def do(self, deed):
        name, number = deed[0], deed[1]
        if name == "come":
            self.trains.append(([number], []))
        elif name == "turn":
            self.lies[number] = 1 - self.lies[number]
        elif name == "ask":
            self.waits.append((number, deed[2]))
        elif name == "go":
            self.trains[number][0].append(self.trains[number][1].pop(0))
        elif name == "draw":
            self.trains[number][0].pop(0)
        elif name == "back":
            self.waits = [wait for wait in self.waits if wait[0] != number]
            self.trains[number][1].clear()
        elif name == "leave":
            self.trains[number] = None
        self.look()


def do_in_box(box, deed):
    changes = {
        "come": box.come, "turn": box.turn, "ask": box.ask, "go": box.go,
        "draw": box.draw, "back": box.back, "leave": box.leave,
    }
    changes[deed[0]](*deed[1:])
    box.serve()


def state_of_box(box):
    trains = [None if train is None else (train.stands, train.ahead) for train in box.trains]
    return (box.lies, trains, box.waits, box.signals(), [box.is_free(piece) for piece in range(len(box.yard))])


def random_yard(chance):
    size = chance.randint(1, 8)
    points = [chance.random() < 0.5 for piece in range(size)]
    yard = []
    for start in range(size):
        others = [piece for piece in range(size) if piece != start]
        ways = []
        for way in range(chance.randint(0, 3) if others else 0):
            pieces = chance.sample(others, chance.randint(1, min(4, len(others))))
            ways.append([(piece, chance.randint(0, 1) if points[piece] else None) for piece in pieces])
        yard.append((points[start], ways))
    return yard


class ModelTest(unittest.TestCase):
    def test_box_and_model_agree(self):
        waited = 0
        for seed in range(150):
            chance = random.Random(seed)
            yard = random_yard(chance)
            before = copy.deepcopy(yard)
            check_yard(yard)
            box, model = Box(yard), Model(before)
            for count in range(60):
                deed = chance.choice(model.deeds())
                model.do(deed)
                do_in_box(box, deed)
                self.assertEqual(state_of_box(box), model.state(), (seed, count, deed))
                self.check_kept(model)
                waited += len(model.waits)
            self.assertEqual(yard, before)
        # Else the days would not have tried what waiting is about.
        self.assertGreater(waited, 1000)

    def check_kept(self, model):
        kept = [piece for stands, ahead in filter(None, model.trains) for piece in stands + ahead]
        self.assertEqual(len(kept), len(set(kept)))
        self.assertTrue(all(model.barred(wait) for wait in model.waits))


class LongDayTest(unittest.TestCase):
    def test_many_trains_come_and_leave(self):
        box = Box([(False, [[(1, 1)]]), (True, [[(0, None)]])])
        for number in range(20000):
            self.assertEqual(box.come(0), number)
            box.ask(number, 0)
            box.serve()
            self.assertEqual([box.go(number), box.draw(number)], [1, 0])
            box.leave(number)
            box.serve()
        self.assertTrue(box.is_free(0) and box.is_free(1))
        self.assertEqual(box.lies, [None, 1])


if __name__ == "__main__":
    unittest.main()
