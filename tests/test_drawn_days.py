"""Drawn days beside the model, and what the document says of every day."""

import copy
import random
import unittest

from model import any_deed, can_be_told, drawn_day, drawn_yard, hangs, is_ring, Model
from pointyard.day import answers, ring_behind, states

DAYS = 300
LENGTH = 50
REFUSALS = ("no piece", "not free", "no train", "busy", "no way", "stop", "short", "nothing", "no points")


def days():
    """A yard, a day's deeds, and what the model answers and tells of them, for each of many seeds."""
    for seed in range(DAYS):
        chance = random.Random(seed)
        yard = drawn_yard(chance)
        yield (seed, yard) + drawn_day(chance, yard, LENGTH)


def present(state):
    return [(number, train) for number, train in enumerate(state[1]) if train is not None]


class ModelTest(unittest.TestCase):
    def test_answers_and_states_are_the_models(self):
        told_ones = {}
        for seed, yard, deeds, given, behind in days():
            before = copy.deepcopy((yard, deeds))
            with self.subTest(seed=seed):
                self.assertEqual(repr(answers(yard, deeds)), repr(given))
                self.assertEqual(repr(states(yard, deeds)), repr(behind))
                self.assertEqual(repr((yard, deeds)), repr(before))
            for deed, told in zip(deeds, given):
                told_ones[deed[0], told if isinstance(told, str) else "number"] = True
        # Every deed with each of its answers and refusals has been among them.
        self.assertEqual(len(told_ones), 3 + 5 + 3 + 3 + 3 + 3 + 4)

    def test_a_refused_deed_might_as_well_not_be_there(self):
        for seed, yard, deeds, given, behind in days():
            told = states(yard, deeds)
            done = [place for place, answer in enumerate(given) if answer not in REFUSALS]
            with self.subTest(seed=seed):
                for place in range(1, len(deeds)):
                    if place not in done:
                        self.assertEqual(repr(told[place]), repr(told[place - 1]))
                alone = [deeds[place] for place in done]
                self.assertEqual(repr(answers(yard, alone)), repr([given[place] for place in done]))
                self.assertEqual(repr(states(yard, alone)), repr([told[place] for place in done]))


class Watcher:
    """Follows a day by its deeds, answers and told states alone, and holds them against point 8."""

    def __init__(self, case, yard):
        self.case = case
        self.yard = yard
        self.asked = {}
        self.last = ([0 if entry[0] else None for entry in yard], [], [], [False] * len(yard))

    def watch(self, deed, answer, state):
        if answer in ("set", "waits"):
            head = self.last[1][deed[1]][0][-1]
            self.asked[deed[1]] = self.yard[head][1][deed[2]]
        self.check_pieces(state)
        self.check_points(deed, answer, state)
        self.check_ahead(state)
        self.check_waits(state)
        self.check_signals(state)
        self.last = state

    def check_pieces(self, state):
        """No piece is told twice, wherever trains stand and whatever is set ahead of them."""
        kept = [piece for number, train in present(state) for piece in train[0] + train[1]]
        self.case.assertEqual(len(kept), len(set(kept)))
        self.case.assertTrue(all(train[0] for number, train in present(state)))

    def check_points(self, deed, answer, state):
        """Points on which a train stood and stands, or that were and are set ahead of it, have not been turned."""
        for number, train in present(self.last):
            now = state[1][number] or ([], [])
            kept = set(train[0]) & set(now[0]) | set(train[1]) & set(now[0] + now[1])
            for piece in kept:
                self.case.assertEqual(state[0][piece], self.last[0][piece])
        ahead = [piece for number, train in present(state) for piece in train[1]]
        for piece, lie in enumerate(state[0]):
            self.case.assertIn(lie, (0, 1) if self.yard[piece][0] else (None,))
            turned = deed == ("turn", piece) and answer == lie
            if lie != self.last[0][piece]:
                self.case.assertTrue(turned or piece in ahead)

    def check_ahead(self, state):
        for number, train in present(state):
            if train[1]:
                rest = self.asked[number][-len(train[1]):]
                self.case.assertEqual([piece for piece, lie in rest], train[1])
                self.case.assertEqual([lie for piece, lie in rest], [state[0][piece] for piece in train[1]])

    def check_waits(self, state):
        """Each that waits is one of the yard with nothing set ahead, and is barred."""
        kept = [piece for number, train in present(state) for piece in train[0] + train[1]]
        ahead = []
        for number, way in state[2]:
            stands, nothing = state[1][number]
            self.case.assertEqual(nothing, [])
            pieces = [piece for piece, lie in self.yard[stands[-1]][1][way]]
            self.case.assertTrue(set(pieces) & set(kept + ahead))
            ahead += pieces
        self.case.assertEqual(len(state[2]), len({number for number, way in state[2]}))

    def check_signals(self, state):
        heads = [train[0][-1] for number, train in present(state) if train[1]]
        self.case.assertEqual([piece for piece, shown in enumerate(state[3]) if shown], sorted(heads))


class EveryDayTest(unittest.TestCase):
    def test_point_eight_holds_behind_each_deed(self):
        for seed, yard, deeds, given, behind in days():
            watcher = Watcher(self, yard)
            with self.subTest(seed=seed):
                for deed, answer, state in zip(deeds, answers(yard, deeds), states(yard, deeds)):
                    watcher.watch(deed, answer, state)

    def test_trains_keep_their_numbers(self):
        for seed, yard, deeds, given, behind in days():
            came = [told for deed, told in zip(deeds, answers(yard, deeds)) if deed[0] == "come" and told not in REFUSALS]
            self.assertEqual(came, list(range(len(came))))
            left = []
            for state in states(yard, deeds):
                for number in left:
                    self.assertIsNone(state[1][number])
                left = [number for number, train in enumerate(state[1]) if train is None]


class RingTest(unittest.TestCase):
    def test_rings_are_told_just_where_there_are_some(self):
        lengths = {}
        for seed, yard, deeds, given, behind in days():
            for count in range(0, LENGTH, 7):
                before = copy.deepcopy((yard, deeds))
                ring = ring_behind(yard, deeds[: count + 1])
                self.assertEqual(repr((yard, deeds)), repr(before))
                hanging = hangs(yard, behind[count])
                with self.subTest(seed=seed, count=count):
                    if ring is None:
                        self.assertTrue(can_be_told(hanging))
                    else:
                        self.assertTrue(is_ring(hanging, ring), (hanging, ring))
                size = 0 if ring is None else len(ring)
                lengths[size] = lengths.get(size, 0) + 1
        for size in (0, 1, 2, 3):
            self.assertGreater(lengths.get(size, 0), 5, lengths)

    def test_ways_of_a_ring_are_not_set_as_long_as_its_trains_do_nothing(self):
        rings = 0
        for seed, yard, deeds, given, behind in days():
            ring = ring_behind(yard, deeds)
            if ring is None:
                continue
            rings += 1
            longer = deeds + self.deeds_of_others(random.Random(seed), yard, deeds, ring)
            for state in states(yard, longer)[len(deeds):]:
                waiting = [number for number, way in state[2]]
                with self.subTest(seed=seed):
                    self.assertTrue(all(number in waiting for number in ring))
            self.assertIsNotNone(ring_behind(yard, longer))
        self.assertGreater(rings, 30)

    def deeds_of_others(self, chance, yard, deeds, ring):
        model = Model(yard)
        for deed in deeds:
            model.answer(deed)
        more = []
        for count in range(40):
            found = [deed for deed in model.deeds() if deed[0] in ("come", "turn") or deed[1] not in ring]
            deed = chance.choice(found) if found else any_deed(chance, model)
            if deed[0] in ("come", "turn") or deed[1] not in ring:
                model.answer(deed)
                more.append(deed)
        return more


if __name__ == "__main__":
    unittest.main()
