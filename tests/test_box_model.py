"""The box beside the model, over drawn days without refused deeds."""

import copy
import random
import unittest

from model import Model, drawn_yard
from pointyard.box import Box
from pointyard.yards import check_yard


def do_in_box(box, deed):
    changes = {
        "come": box.come, "turn": box.turn, "ask": box.ask, "go": box.go,
        "draw": box.draw, "back": box.back, "leave": box.leave,
    }
    changes[deed[0]](*deed[1:])
    box.serve()


def state_of_box(box):
    trains = [None if train is None else (train.stands, train.ahead) for train in box.trains]
    return (box.lies, trains, box.waits, box.signals())


class ModelTest(unittest.TestCase):
    def test_box_and_model_agree(self):
        waited = 0
        for seed in range(150):
            chance = random.Random(seed)
            yard = drawn_yard(chance)
            before = copy.deepcopy(yard)
            check_yard(yard)
            box, model = Box(yard), Model(before)
            for count in range(60):
                deed = chance.choice(model.deeds())
                model.do(deed)
                do_in_box(box, deed)
                self.assertEqual(state_of_box(box), model.state(), (seed, count, deed))
                self.check_asked(box, model)
                waited += len(model.waits)
            self.assertEqual(yard, before)
        # Else the days would not have tried what waiting is about.
        self.assertGreater(waited, 1000)

    def check_asked(self, box, model):
        for piece in range(len(model.yard)):
            self.assertEqual(box.is_free(piece), model.free(piece))
        for number in range(-2, len(model.trains) + 2):
            self.assertEqual(box.has_train(number), number in model.present())
        for number in model.present():
            self.assertEqual(box.is_waiting(number), model.waiting(number))
            self.assertEqual(box.is_busy(number), model.busy(number))


class LongDayTest(unittest.TestCase):
    def test_many_trains_come_and_leave(self):
        box = Box([(False, [[(1, 1)]]), (True, [[(0, None)]])])
        for number in range(20000):
            self.assertEqual(box.come(0), number)
            box.ask(number, 0)
            box.serve()
            self.assertEqual([box.go(number), box.draw(number)], [1, 0])
            box.leave(number)
            box.serve()
        self.assertTrue(box.is_free(0) and box.is_free(1))
        self.assertEqual(box.lies, [None, 1])


if __name__ == "__main__":
    unittest.main()
