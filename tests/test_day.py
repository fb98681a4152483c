"""What the three functions of a day take, give back and refuse."""

import copy
import unittest

from pointyard.day import answers, ring_behind, states
from pointyard.errors import BadYard, YardError


def yard():
    return [
        (False, [[(1, 1), (2, None)], [(3, 1)]]),
        (True, [[(2, None)]]),
        (False, [[(1, 0), (0, None)]]),
        (True, []),
    ]


DEEDS = [
    ("come", 0), ("ask", 0, 0), ("come", 2), ("go", 0), ("come", 3), ("go", 0), ("draw", 0), ("ask", 0, 0),
    ("turn", 1), ("draw", 0), ("leave", 1), ("come", 3), ("back", 0), ("turn", 1), ("ask", 0, 5), ("leave", 0),
]
ANSWERS = [0, "set", "not free", 1, 1, 2, 0, "waits", "not free", 1, "left", 2, "back", 1, "no way", "left"]

TELLERS = (answers, states, ring_behind)

NOT_SOUND = {
    "no piece": [],
    "no step": [(False, [[]])],
    "piece below nought": [(False, [[(-1, None)]]), (False, [])],
    "piece too great": [(False, [[(2, None)]]), (False, [])],
    "piece of many figures": [(False, [[(10 ** 32 - 1, None)]]), (False, [])],
    "piece twice": [(False, [[(1, None), (1, None)]]), (False, [])],
    "its own piece": [(False, [[(1, None), (0, None)]]), (False, [])],
    "no lie at points": [(False, [[(1, None)]]), (True, [])],
    "wrong lie at points": [(False, [[(1, 2)]]), (True, [])],
    "lie below nought": [(False, [[(1, -1)]]), (True, [])],
    "lie without points": [(False, [[(1, 0)]]), (False, [])],
    "last way of the last piece": [(False, [[(1, 0)]]), (True, [[(0, None)], [(0, 0)]])],
}


def lists_in(value):
    """All lists within, however deep, and itself."""
    found = [value] if isinstance(value, list) else []
    if isinstance(value, (list, tuple)):
        for part in value:
            found += lists_in(part)
    return found


class AnswersTest(unittest.TestCase):
    def test_of_each_deed(self):
        self.assertEqual(repr(answers(yard(), DEEDS)), repr(ANSWERS))

    def test_no_deeds(self):
        self.assertEqual(repr(answers(yard(), [])), "[]")

    def test_a_day_begins_anew_each_time(self):
        same = yard()
        self.assertEqual([answers(same, DEEDS) for times in range(3)], [ANSWERS] * 3)
        self.assertEqual(repr(states(same, DEEDS)), repr(states(same, DEEDS)))

    def test_one_piece(self):
        deeds = [("come", 0), ("ask", 0, 0), ("turn", 0), ("leave", 0), ("turn", 0)]
        self.assertEqual(answers([(True, [])], deeds), [0, "no way", "not free", "left", 1])
        self.assertEqual(answers([(False, [])], deeds), [0, "no way", "no points", "left", "no points"])


class StatesTest(unittest.TestCase):
    def test_of_each_deed(self):
        told = states(yard(), DEEDS)
        self.assertEqual(len(told), len(DEEDS))
        picked = {
            0: ([None, 0, None, 0], [([0], [])], [], [False, False, False, False]),
            1: ([None, 1, None, 0], [([0], [1, 2])], [], [True, False, False, False]),
            2: ([None, 1, None, 0], [([0], [1, 2])], [], [True, False, False, False]),
            3: ([None, 1, None, 0], [([0, 1], [2])], [], [False, True, False, False]),
            6: ([None, 1, None, 0], [([1, 2], []), ([3], [])], [], [False, False, False, False]),
            7: ([None, 1, None, 0], [([1, 2], []), ([3], [])], [(0, 0)], [False, False, False, False]),
            9: ([None, 0, None, 0], [([2], [1, 0]), ([3], [])], [], [False, False, True, False]),
            10: ([None, 0, None, 0], [([2], [1, 0]), None], [], [False, False, True, False]),
            13: ([None, 1, None, 0], [([2], []), None, ([3], [])], [], [False, False, False, False]),
            15: ([None, 1, None, 0], [None, None, ([3], [])], [], [False, False, False, False]),
        }
        for place, state in picked.items():
            with self.subTest(place=place):
                self.assertEqual(repr(told[place]), repr(state))

    def test_no_deeds(self):
        self.assertEqual(repr(states(yard(), [])), "[]")

    def test_kinds(self):
        for state in states(yard(), DEEDS):
            self.assertIs(type(state), tuple)
            self.assertEqual([type(part) for part in state], [list] * 4)
            lies, trains, waits, signals = state
            self.assertEqual([type(lie) for lie in lies], [type(None), int, type(None), int])
            for train in trains:
                if train is not None:
                    self.assertIs(type(train), tuple)
                    self.assertEqual([type(part) for part in train], [list, list])
            for wait in waits:
                self.assertIs(type(wait), tuple)
                self.assertEqual([type(part) for part in wait], [int, int])
            self.assertEqual([type(shown) for shown in signals], [bool] * 4)

    def test_an_entry_for_each_piece_and_each_train_that_has_come(self):
        for count in range(1, len(DEEDS) + 1):
            lies, trains, waits, signals = states(yard(), DEEDS[:count])[-1]
            self.assertEqual((len(lies), len(signals)), (4, 4))
            self.assertEqual(len(trains), len([1 for deed, told in zip(DEEDS[:count], ANSWERS)
                                               if deed[0] == "come" and isinstance(told, int)]))

    def test_earlier_ones_are_not_changed_by_later_deeds(self):
        told = states(yard(), DEEDS)
        for count in range(1, len(DEEDS) + 1):
            self.assertEqual(repr(told[:count]), repr(states(yard(), DEEDS[:count])))

    def test_no_two_share_a_list_with_one_another_or_the_yard(self):
        same = yard()
        told = states(same, DEEDS)
        lists = lists_in(told) + lists_in(same)
        self.assertEqual(len(lists), len({id(part) for part in lists}))

    def test_changing_one_told_changes_nothing_else(self):
        same = yard()
        first = states(same, DEEDS)
        for part in lists_in(first):
            part.clear()
        self.assertEqual(same, yard())
        self.assertEqual(answers(same, DEEDS), ANSWERS)

    def test_refused_deeds_change_nothing(self):
        refused = [place for place, told in enumerate(ANSWERS) if told in ("not free", "no way")]
        self.assertEqual(refused, [2, 8, 14])
        told = states(yard(), DEEDS)
        for place in refused:
            self.assertEqual(repr(told[place]), repr(told[place - 1]))
            without = DEEDS[:place] + DEEDS[place + 1:]
            self.assertEqual(answers(yard(), without), ANSWERS[:place] + ANSWERS[place + 1:])
            self.assertEqual(repr(states(yard(), without)), repr(told[:place] + told[place + 1:]))


class RefusedYardTest(unittest.TestCase):
    def test_all_refuse_with_bad_yard(self):
        days = ([], [("come", 0)], [("come", -1), ("turn", 5)], DEEDS)
        for name, wrong in NOT_SOUND.items():
            for tell in TELLERS:
                for deeds in days:
                    with self.subTest(wrong=name, tell=tell.__name__, deeds=len(deeds)):
                        handed = copy.deepcopy(wrong)
                        with self.assertRaises(BadYard) as caught:
                            tell(handed, deeds)
                        self.assertIsInstance(caught.exception, YardError)
                        self.assertEqual(repr(handed), repr(wrong))

    def test_a_way_that_no_deed_asks_for_counts_too(self):
        wrong = yard()
        wrong[3][1].append([(3, 0)])
        for tell in TELLERS:
            with self.assertRaises(BadYard):
                tell(wrong, [("come", 0), ("ask", 0, 1)])


class HandedInTest(unittest.TestCase):
    def test_yard_and_deeds_are_as_they_were(self):
        for tell in TELLERS:
            for count in range(len(DEEDS) + 1):
                handed, deeds = yard(), list(DEEDS[:count])
                tell(handed, deeds)
                self.assertEqual(repr(handed), repr(yard()))
                self.assertEqual(repr(deeds), repr(DEEDS[:count]))


class LongDayTest(unittest.TestCase):
    def test_answers_of_many_deeds(self):
        deeds, told = [], []
        for number in range(15000):
            deeds += [("come", 0), ("ask", number, 0), ("go", number), ("go", number), ("leave", number)]
            told += [number, "set", 1, 2, "left"]
        self.assertEqual(answers(yard(), deeds), told)
        self.assertIsNone(ring_behind(yard(), deeds))

    def test_states_of_many_deeds(self):
        deeds = [("come", 0)] + [("ask", 0, 0), ("back", 0)] * 5000
        told = states(yard(), deeds)
        self.assertEqual(len(told), 10001)
        self.assertEqual(told[-1], ([None, 1, None, 0], [([0], [])], [], [False] * 4))
        self.assertEqual(told[-2], ([None, 1, None, 0], [([0], [1, 2])], [], [True, False, False, False]))

    def test_thirty_pieces_with_five_ways_and_somewhat_more(self):
        for size in (30, 40):
            ring = []
            for start in range(size):
                others = [(start + step) % size for step in range(1, size)]
                ways = [[(piece, piece % 2) for piece in others[:length]] for length in (1, 2, 3, 10, size - 1)]
                ring.append((True, ways))
            deeds = [("come", 7), ("ask", 0, 4)] + [("go", 0)] * (size - 1) + [("draw", 0)] * (size - 1)
            around = [(7 + step) % size for step in range(size)]
            self.assertEqual(answers(ring, deeds), [0, "set"] + around[1:] + around[:-1])
            self.assertEqual(states(ring, deeds)[-1][1], [([6], [])])
            lies = [0 if piece == 7 else piece % 2 for piece in range(size)]
            self.assertEqual(states(ring, deeds)[-1][0], lies)


if __name__ == "__main__":
    unittest.main()
