"""The deeds of a day one by one: their answers, and each of their refusals."""

import copy
import unittest

from model import FAR
from pointyard.day import answers, states


def yard():
    """Pieces 1 and 4 have points; no way leads from piece 5."""
    return [
        (False, [[(1, 1), (2, None)], [(3, None)], [(4, 1), (5, None)]]),
        (True, [[(2, None)], [(0, None)]]),
        (False, [[(1, 0), (0, None)], [(3, None)]]),
        (False, [[(4, 0), (5, None)], [(2, None)], [(0, None)]]),
        (True, [[(5, None)], [(3, None)]]),
        (False, []),
    ]


PIECES = 6
NO_PIECES = (-1, PIECES, -2, -PIECES, -PIECES - 1, PIECES + 1) + FAR
# What is done behind a refused deed, so that a change which no state tells would be seen.
PROBES = [("ask", 0, 0), ("ask", 1, 1), ("turn", 4), ("come", 5), ("go", 0), ("draw", 0), ("back", 1), ("leave", 1)]


class DayCase(unittest.TestCase):
    def setUp(self):
        self.yard = yard()

    def tearDown(self):
        self.assertEqual(repr(self.yard), repr(yard()))

    def assert_answers(self, deeds, told):
        """By their writing, since 1 and True, or a list and a tuple, are not to be mistaken."""
        before = copy.deepcopy(deeds)
        self.assertEqual(repr(answers(self.yard, deeds)), repr(told))
        self.assertEqual(deeds, before)

    def state(self, deeds):
        return states(self.yard, deeds)[-1]

    def train(self, deeds, number):
        return self.state(deeds)[1][number]

    def assert_done(self, deeds, deed, told):
        """`deed` behind `deeds`, all of which are done."""
        given = answers(self.yard, deeds + [deed])
        for answer in given[:-1]:
            self.assertTrue(isinstance(answer, int) or answer in ("set", "waits", "back", "left"), given)
        self.assertEqual(repr(given[-1]), repr(told), (deeds, deed))

    def assert_refused(self, deeds, deed, text):
        self.assert_done(deeds, deed, text)
        told = states(self.yard, deeds + [deed])
        if deeds:
            self.assertEqual(repr(told[-1]), repr(told[-2]))
        else:
            lies = [0 if entry[0] else None for entry in self.yard]
            self.assertEqual(repr(told[-1]), repr((lies, [], [], [False] * len(self.yard))))
        self.assert_same_without(deeds, deed)

    def assert_same_without(self, deeds, deed):
        place = len(deeds)
        for tell in (answers, states):
            whole = tell(self.yard, deeds + [deed] + PROBES)
            self.assertEqual(repr(whole[:place] + whole[place + 1:]), repr(tell(self.yard, deeds + PROBES)))


class ComeTest(DayCase):
    def test_answered_with_the_numbers_in_their_order(self):
        self.assert_answers([("come", 4), ("come", 0), ("come", 5)], [0, 1, 2])
        self.assertEqual(self.state([("come", 4), ("come", 0)])[1], [([4], []), ([0], [])])

    def test_every_piece(self):
        for piece in range(PIECES):
            self.assert_done([], ("come", piece), 0)
            self.assertEqual(self.train([("come", piece)], 0), ([piece], []))

    def test_turns_no_points(self):
        for piece in (1, 4):
            self.assertEqual(self.state([("turn", piece), ("come", piece)])[0][piece], 1)
            self.assertEqual(self.state([("come", piece)])[0][piece], 0)

    def test_no_piece(self):
        for piece in NO_PIECES:
            with self.subTest(piece=piece):
                self.assert_refused([], ("come", piece), "no piece")
                self.assert_refused([("come", 0)], ("come", piece), "no piece")

    def test_no_piece_is_told_though_the_last_piece_is_not_free(self):
        for piece in NO_PIECES:
            with self.subTest(piece=piece):
                self.assert_refused([("come", piece % PIECES)], ("come", piece), "no piece")

    def test_not_free_where_a_train_stands(self):
        for piece in range(PIECES):
            self.assert_refused([("come", piece)], ("come", piece), "not free")

    def test_not_free_on_each_piece_of_a_longer_train(self):
        deeds = [("come", 0), ("ask", 0, 0), ("go", 0), ("go", 0)]
        for piece in (0, 1, 2):
            self.assert_refused(deeds, ("come", piece), "not free")
        self.assert_done(deeds, ("come", 3), 1)

    def test_not_free_where_it_is_set_ahead(self):
        deeds = [("come", 0), ("ask", 0, 0)]
        for piece in (1, 2):
            self.assert_refused(deeds, ("come", piece), "not free")
        self.assert_refused(deeds + [("go", 0)], ("come", 2), "not free")

    def test_free_though_one_that_waits_has_asked_for_it(self):
        deeds = [("come", 0), ("come", 2), ("ask", 0, 0)]
        self.assert_done(deeds, ("come", 1), 2)

    def test_free_where_a_train_has_been(self):
        self.assert_done([("come", 0), ("ask", 0, 1), ("go", 0), ("draw", 0)], ("come", 0), 1)
        self.assert_done([("come", 0), ("ask", 0, 1), ("back", 0)], ("come", 3), 1)
        self.assert_done([("come", 0), ("leave", 0)], ("come", 0), 1)

    def test_refused_ones_are_given_no_number(self):
        deeds = [("come", 0), ("come", 0), ("come", -1), ("come", 1)]
        self.assert_answers(deeds, [0, "not free", "no piece", 1])


class NoTrainTest(DayCase):
    def deeds_of(self, number):
        return [
            ("ask", number, 0), ("ask", number, -1), ("go", number), ("draw", number), ("back", number),
            ("leave", number),
        ]

    def assert_no_train(self, deeds, number):
        for deed in self.deeds_of(number):
            with self.subTest(deeds=deeds, deed=deed):
                self.assert_refused(deeds, deed, "no train")

    def test_none_has_come(self):
        for number in (0, 1, -1) + FAR:
            self.assert_no_train([], number)

    def test_none_of_that_number(self):
        for number in (-1, -2, -3, 2, 3) + FAR:
            self.assert_no_train([("come", 0), ("come", 3)], number)

    def test_not_read_from_the_end_where_the_last_train_could_do_it(self):
        set_ahead = [("come", 5), ("come", 0), ("ask", 1, 0)]
        for deeds in (set_ahead, set_ahead + [("go", 1)], set_ahead + [("come", 3), ("ask", 2, 0)]):
            for number in (-1, -2, -3):
                self.assert_no_train(deeds, number)

    def test_it_has_left(self):
        self.assert_no_train([("come", 0), ("come", 3), ("leave", 0)], 0)
        self.assert_no_train([("come", 0), ("come", 3), ("leave", 1)], 1)
        self.assert_no_train([("come", 0), ("leave", 0), ("come", 0)], 0)

    def test_it_has_left_behind_a_way(self):
        self.assert_no_train([("come", 0), ("ask", 0, 1), ("go", 0), ("leave", 0)], 0)

    def test_numbers_of_trains_that_have_left_are_not_given_again(self):
        deeds = [("come", 0), ("leave", 0), ("come", 0), ("come", 3), ("leave", 2), ("come", 3), ("leave", 1)]
        self.assert_answers(deeds + [("come", 0)], [0, "left", 1, 2, "left", 3, "left", 4])
        self.assertEqual(self.state(deeds)[1], [None, None, None, ([3], [])])


class AskTest(DayCase):
    def test_set_where_all_pieces_are_free(self):
        deeds = [("come", 0), ("ask", 0, 0)]
        self.assert_answers(deeds, [0, "set"])
        self.assertEqual(self.state(deeds), ([None, 1, None, None, 0, None], [([0], [1, 2])], [], [True] + [False] * 5))

    def test_the_way_of_that_number(self):
        for way, ahead in enumerate([[1, 2], [3], [4, 5]]):
            deeds = [("come", 0), ("ask", 0, way)]
            self.assertEqual(self.train(deeds, 0), ([0], ahead))

    def test_from_the_piece_of_its_head(self):
        deeds = [("come", 0), ("ask", 0, 0), ("go", 0), ("go", 0), ("ask", 0, 1)]
        self.assert_done(deeds[:-1], deeds[-1], "set")
        self.assertEqual(self.train(deeds, 0), ([0, 1, 2], [3]))

    def test_waits_where_a_train_stands_on_a_piece_of_the_way(self):
        for piece in (1, 2):
            deeds = [("come", 0), ("come", piece), ("ask", 0, 0)]
            self.assert_answers(deeds, [0, 1, "waits"])
            self.assertEqual(self.train(deeds, 0), ([0], []))
            self.assertEqual(self.state(deeds)[0], [None, 0, None, None, 0, None])
            self.assertEqual(self.state(deeds)[2], [(0, 0)])

    def test_waits_where_a_piece_of_the_way_is_set_ahead_of_another(self):
        deeds = [("come", 0), ("come", 3), ("ask", 0, 0), ("ask", 1, 1)]
        self.assert_answers(deeds, [0, 1, "set", "waits"])
        self.assertEqual(self.state(deeds)[2], [(1, 1)])

    def test_waits_where_it_stands_on_a_piece_of_the_way_itself(self):
        deeds = [("come", 0), ("ask", 0, 1), ("go", 0), ("ask", 0, 2)]
        self.assert_answers(deeds, [0, "set", 3, "waits"])
        self.assertEqual(self.state(deeds)[2], [(0, 2)])

    def test_waits_where_one_that_waits_ahead_has_a_piece_in_common(self):
        deeds = [("come", 0), ("come", 1), ("come", 3), ("ask", 0, 0), ("ask", 2, 1)]
        self.assert_answers(deeds, [0, 1, 2, "waits", "waits"])
        self.assertEqual(self.state(deeds)[2], [(0, 0), (2, 1)])

    def test_set_where_those_that_wait_ahead_have_no_piece_in_common(self):
        deeds = [("come", 0), ("come", 1), ("come", 3), ("ask", 0, 0), ("ask", 2, 0)]
        self.assert_answers(deeds, [0, 1, 2, "waits", "set"])
        self.assertEqual(self.state(deeds)[2], [(0, 0)])
        self.assertEqual(self.train(deeds, 2), ([3], [4, 5]))

    def test_busy_where_it_waits(self):
        for way in (0, 1, 2):
            deeds = [("come", 0), ("come", 1), ("ask", 0, 0)]
            self.assert_refused(deeds, ("ask", 0, way), "busy")

    def test_busy_where_something_is_set_ahead(self):
        deeds = [("come", 0), ("ask", 0, 0)]
        for way in (0, 1, 2):
            self.assert_refused(deeds, ("ask", 0, way), "busy")
        for way in (0, 1):
            self.assert_refused(deeds + [("go", 0)], ("ask", 0, way), "busy")

    def test_not_busy_where_all_is_gone_or_given_back(self):
        self.assert_done([("come", 0), ("ask", 0, 1), ("go", 0)], ("ask", 0, 0), "set")
        self.assert_done([("come", 0), ("ask", 0, 1), ("back", 0)], ("ask", 0, 0), "set")
        self.assert_done([("come", 0), ("come", 1), ("ask", 0, 0), ("back", 0)], ("ask", 0, 1), "set")

    def test_not_busy_where_another_is(self):
        deeds = [("come", 0), ("come", 1), ("come", 3), ("ask", 0, 0), ("ask", 2, 0)]
        self.assert_done(deeds, ("ask", 1, 1), "waits")

    def test_no_way(self):
        for way in (-1, -2, -3, -4, 3, 4) + FAR:
            with self.subTest(way=way):
                self.assert_refused([("come", 0)], ("ask", 0, way), "no way")

    def test_no_way_from_a_piece_without_ways(self):
        for way in (0, -1, 1) + FAR:
            self.assert_refused([("come", 5)], ("ask", 0, way), "no way")

    def test_no_way_of_that_number_from_the_head_though_the_hindmost_piece_has_it(self):
        deeds = [("come", 0), ("ask", 0, 0), ("go", 0), ("go", 0)]
        self.assert_refused(deeds, ("ask", 0, 2), "no way")

    def test_busy_is_told_ahead_of_no_way(self):
        for way in (-1, 3) + FAR:
            self.assert_refused([("come", 0), ("ask", 0, 0)], ("ask", 0, way), "busy")
            self.assert_refused([("come", 0), ("come", 1), ("ask", 0, 0)], ("ask", 0, way), "busy")


class GoTest(DayCase):
    def test_answered_with_each_piece_of_the_way(self):
        deeds = [("come", 0), ("ask", 0, 0), ("go", 0), ("go", 0)]
        self.assert_answers(deeds, [0, "set", 1, 2])
        told = [state[1][0] for state in states(self.yard, deeds)]
        self.assertEqual(told, [([0], []), ([0], [1, 2]), ([0, 1], [2]), ([0, 1, 2], [])])

    def test_signal_goes_with_the_head(self):
        deeds = [("come", 0), ("ask", 0, 0), ("go", 0), ("go", 0)]
        shown = [[piece for piece in range(PIECES) if state[3][piece]] for state in states(self.yard, deeds)]
        self.assertEqual(shown, [[], [0], [1], []])

    def test_stop_where_it_has_not_asked(self):
        self.assert_refused([("come", 0)], ("go", 0), "stop")

    def test_stop_where_it_waits(self):
        self.assert_refused([("come", 0), ("come", 1), ("ask", 0, 0)], ("go", 0), "stop")

    def test_stop_at_the_end_of_the_way(self):
        self.assert_refused([("come", 0), ("ask", 0, 1), ("go", 0)], ("go", 0), "stop")

    def test_stop_where_it_has_gone_back(self):
        self.assert_refused([("come", 0), ("ask", 0, 0), ("go", 0), ("back", 0)], ("go", 0), "stop")

    def test_stop_where_only_another_has_something_set_ahead(self):
        self.assert_refused([("come", 0), ("come", 3), ("ask", 0, 0)], ("go", 1), "stop")

    def test_serves_nobody(self):
        deeds = [("come", 0), ("come", 3), ("ask", 0, 0), ("ask", 1, 1), ("go", 0), ("go", 0)]
        self.assertEqual(self.state(deeds)[2], [(1, 1)])


class DrawTest(DayCase):
    LONG = [("come", 0), ("ask", 0, 0), ("go", 0), ("go", 0)]

    def test_answered_with_the_hindmost_piece(self):
        deeds = self.LONG + [("draw", 0), ("draw", 0)]
        self.assert_answers(deeds, [0, "set", 1, 2, 0, 1])
        told = [state[1][0] for state in states(self.yard, deeds)]
        self.assertEqual(told[-2:], [([1, 2], []), ([2], [])])

    def test_while_something_is_set_ahead(self):
        deeds = self.LONG[:-1] + [("draw", 0)]
        self.assert_answers(deeds, [0, "set", 1, 0])
        self.assertEqual(self.train(deeds, 0), ([1], [2]))

    def test_while_it_waits(self):
        deeds = self.LONG + [("come", 3), ("ask", 0, 1), ("draw", 0)]
        self.assert_answers(deeds, [0, "set", 1, 2, 1, "waits", 0])
        self.assertEqual(self.train(deeds, 0), ([1, 2], []))
        self.assertEqual(self.state(deeds)[2], [(0, 1)])

    def test_short(self):
        self.assert_refused([("come", 0)], ("draw", 0), "short")
        self.assert_refused(self.LONG + [("draw", 0), ("draw", 0)], ("draw", 0), "short")

    def test_short_where_something_is_set_ahead(self):
        self.assert_refused(self.LONG[:2], ("draw", 0), "short")

    def test_short_where_it_waits(self):
        self.assert_refused([("come", 0), ("come", 1), ("ask", 0, 0)], ("draw", 0), "short")


class BackTest(DayCase):
    def test_one_that_waits(self):
        deeds = [("come", 0), ("come", 1), ("ask", 0, 0), ("back", 0)]
        self.assert_answers(deeds, [0, 1, "waits", "back"])
        self.assertEqual(self.state(deeds)[1:3], ([([0], []), ([1], [])], []))

    def test_one_with_a_way_set(self):
        deeds = [("come", 0), ("ask", 0, 0), ("back", 0)]
        self.assert_answers(deeds, [0, "set", "back"])
        self.assertEqual(self.state(deeds), ([None, 1, None, None, 0, None], [([0], [])], [], [False] * 6))

    def test_one_that_is_under_way(self):
        deeds = [("come", 0), ("ask", 0, 0), ("go", 0), ("back", 0)]
        self.assert_answers(deeds, [0, "set", 1, "back"])
        self.assertEqual(self.train(deeds, 0), ([0, 1], []))

    def test_nothing(self):
        self.assert_refused([("come", 0)], ("back", 0), "nothing")

    def test_nothing_where_it_has_gone_back_already(self):
        self.assert_refused([("come", 0), ("ask", 0, 0), ("back", 0)], ("back", 0), "nothing")
        self.assert_refused([("come", 0), ("come", 1), ("ask", 0, 0), ("back", 0)], ("back", 0), "nothing")

    def test_nothing_at_the_end_of_the_way(self):
        self.assert_refused([("come", 0), ("ask", 0, 1), ("go", 0)], ("back", 0), "nothing")

    def test_nothing_where_only_another_waits_or_has_something_set_ahead(self):
        self.assert_refused([("come", 0), ("come", 3), ("ask", 0, 0)], ("back", 1), "nothing")
        self.assert_refused([("come", 0), ("come", 1), ("ask", 0, 0)], ("back", 1), "nothing")

    def test_others_wait_on_in_their_order(self):
        deeds = [("come", 5), ("come", 0), ("come", 3), ("come", 4)]
        deeds += [("ask", 3, 0), ("ask", 1, 2), ("ask", 2, 0), ("back", 1)]
        self.assertEqual(self.state(deeds[:-1])[2], [(3, 0), (1, 2), (2, 0)])
        self.assertEqual(self.state(deeds)[2], [(3, 0), (2, 0)])


class LeaveTest(DayCase):
    def test_answered_with_left(self):
        deeds = [("come", 0), ("come", 3), ("leave", 0)]
        self.assert_answers(deeds, [0, 1, "left"])
        self.assertEqual(self.state(deeds)[1], [None, ([3], [])])

    def test_leaves_all_its_pieces(self):
        deeds = [("come", 0), ("ask", 0, 0), ("go", 0), ("go", 0), ("leave", 0)]
        for piece in (0, 1, 2):
            self.assert_done(deeds, ("come", piece), 1)

    def test_points_stay_as_they_lie(self):
        deeds = [("come", 0), ("ask", 0, 0), ("go", 0), ("go", 0), ("leave", 0)]
        self.assertEqual(self.state(deeds)[0], [None, 1, None, None, 0, None])

    def test_busy_where_it_waits(self):
        self.assert_refused([("come", 0), ("come", 1), ("ask", 0, 0)], ("leave", 0), "busy")

    def test_busy_where_something_is_set_ahead(self):
        deeds = [("come", 0), ("ask", 0, 0)]
        self.assert_refused(deeds, ("leave", 0), "busy")
        self.assert_refused(deeds + [("go", 0)], ("leave", 0), "busy")

    def test_not_busy_behind_going_back_or_at_the_end_of_the_way(self):
        self.assert_done([("come", 0), ("ask", 0, 0), ("go", 0), ("back", 0)], ("leave", 0), "left")
        self.assert_done([("come", 0), ("ask", 0, 1), ("go", 0)], ("leave", 0), "left")
        self.assert_done([("come", 0), ("come", 1), ("ask", 0, 0), ("back", 0)], ("leave", 0), "left")

    def test_not_busy_where_others_are(self):
        self.assert_done([("come", 0), ("come", 3), ("ask", 0, 0)], ("leave", 1), "left")
        self.assert_done([("come", 0), ("come", 1), ("ask", 0, 0)], ("leave", 1), "left")


class TurnTest(DayCase):
    def test_answered_with_the_other_lie(self):
        self.assert_answers([("turn", 1), ("turn", 1), ("turn", 4), ("turn", 1)], [1, 0, 1, 1])
        self.assertEqual(self.state([("turn", 4)])[0], [None, 0, None, None, 1, None])
        self.assertEqual(self.state([("turn", 4), ("turn", 1), ("turn", 4)])[0], [None, 1, None, None, 0, None])

    def test_other_lie_of_points_that_a_way_has_turned(self):
        self.assert_done([("come", 0), ("ask", 0, 0), ("back", 0)], ("turn", 1), 0)

    def test_of_a_way_that_is_asked_for_and_not_set(self):
        deeds = [("come", 0), ("come", 2), ("ask", 0, 0), ("turn", 1)]
        self.assert_answers(deeds, [0, 1, "waits", 1])
        self.assertEqual(self.state(deeds)[2], [(0, 0)])
        self.assert_done(deeds, ("turn", 1), 0)

    def test_no_piece(self):
        for piece in NO_PIECES:
            with self.subTest(piece=piece):
                self.assert_refused([], ("turn", piece), "no piece")

    def test_no_piece_is_told_where_the_pieces_from_the_end_have_points(self):
        self.yard = [(True, []), (False, [])]
        self.assertEqual(answers(self.yard, [("turn", -2), ("turn", 2)]), ["no piece", "no piece"])
        self.assertEqual(answers(self.yard, [("come", 0), ("turn", -2)]), [0, "no piece"])
        self.yard = yard()

    def test_no_points(self):
        for piece in (0, 2, 3, 5):
            self.assert_refused([], ("turn", piece), "no points")

    def test_no_points_is_told_ahead_of_not_free(self):
        for piece in (0, 2, 3, 5):
            self.assert_refused([("come", piece)], ("turn", piece), "no points")
        self.assert_refused([("come", 0), ("ask", 0, 0)], ("turn", 2), "no points")

    def test_not_free_under_a_train(self):
        for piece in (1, 4):
            self.assert_refused([("come", piece)], ("turn", piece), "not free")
            self.assert_refused([("turn", piece), ("come", piece)], ("turn", piece), "not free")

    def test_not_free_under_the_hindmost_piece_and_between(self):
        long = [("come", 0), ("ask", 0, 0), ("go", 0), ("go", 0)]
        self.assert_refused(long, ("turn", 1), "not free")
        self.assert_refused(long + [("draw", 0)], ("turn", 1), "not free")
        self.assert_done(long + [("draw", 0), ("draw", 0)], ("turn", 1), 0)

    def test_not_free_while_they_are_set_ahead(self):
        self.assert_refused([("come", 0), ("ask", 0, 0)], ("turn", 1), "not free")
        self.assert_refused([("come", 2), ("ask", 0, 0)], ("turn", 1), "not free")


class ServedInTurnTest(DayCase):
    """One that waits is served behind the deed that gives its way free, in the order of asking."""

    def test_behind_a_draw(self):
        deeds = [("come", 2), ("ask", 0, 1), ("go", 0), ("come", 0), ("ask", 1, 0), ("draw", 0)]
        self.assert_answers(deeds, [0, "set", 3, 1, "waits", 2])
        told = states(self.yard, deeds)
        self.assertEqual([state[0][1] for state in told], [0, 0, 0, 0, 0, 1])
        self.assertEqual([state[2] for state in told[-2:]], [[(1, 0)], []])
        self.assertEqual(told[-1][1:], ([([3], []), ([0], [1, 2])], [], [True] + [False] * 5))

    def test_behind_its_own_draw(self):
        deeds = [("come", 0), ("ask", 0, 1), ("go", 0), ("ask", 0, 2), ("draw", 0)]
        self.assert_answers(deeds, [0, "set", 3, "waits", 0])
        self.assertEqual(self.state(deeds)[1:3], ([([3], [0])], []))

    def test_behind_a_back_of_one_with_a_way_set(self):
        deeds = [("come", 2), ("ask", 0, 0), ("come", 3), ("ask", 1, 2), ("back", 0)]
        self.assert_answers(deeds, [0, "set", 1, "waits", "back"])
        self.assertEqual(self.state(deeds)[1:3], ([([2], []), ([3], [0])], []))

    def test_behind_a_back_of_one_that_waits(self):
        deeds = [("come", 0), ("come", 1), ("come", 3), ("ask", 0, 0), ("ask", 2, 1), ("back", 0)]
        self.assert_answers(deeds, [0, 1, 2, "waits", "waits", "back"])
        self.assertEqual(self.state(deeds)[1:3], ([([0], []), ([1], []), ([3], [2])], []))

    def test_behind_a_leave(self):
        deeds = [("come", 0), ("come", 2), ("ask", 0, 0), ("leave", 1)]
        self.assert_answers(deeds, [0, 1, "waits", "left"])
        told = states(self.yard, deeds)
        self.assertEqual(told[-2][0], [None, 0, None, None, 0, None])
        self.assertEqual(told[-1], ([None, 1, None, None, 0, None], [([0], [1, 2]), None], [], [True] + [False] * 5))

    def test_points_that_were_turned_while_it_waited_lie_as_the_way_has_it(self):
        deeds = [("come", 0), ("come", 2), ("ask", 0, 0), ("turn", 1), ("turn", 1), ("leave", 1)]
        self.assertEqual(self.state(deeds)[0][1], 1)
        deeds = [("come", 2), ("come", 0), ("ask", 0, 0), ("turn", 1), ("leave", 1)]
        self.assertEqual([state[0][1] for state in states(self.yard, deeds)], [0, 0, 0, 1, 0])

    def test_one_that_comes_to_be_set_bars_one_behind_it(self):
        for first, second in ((0, 2), (2, 0)):
            ways = {0: (0, [1, 2]), 2: (1, [2])}
            deeds = [("come", 0), ("come", 2), ("come", 3)]
            deeds += [("ask", first, ways[first][0]), ("ask", second, ways[second][0]), ("leave", 1)]
            self.assert_answers(deeds, [0, 1, 2, "waits", "waits", "left"])
            lies, trains, waits, signals = self.state(deeds)
            self.assertEqual(trains[first][1], ways[first][1])
            self.assertEqual(trains[second][1], [])
            self.assertEqual(waits, [(second, ways[second][0])])

    def test_one_that_waits_still_bars_those_behind_it(self):
        deeds = [("come", 0), ("come", 1), ("come", 2), ("come", 3), ("ask", 0, 0), ("ask", 3, 1), ("leave", 2)]
        self.assert_answers(deeds, [0, 1, 2, 3, "waits", "waits", "left"])
        self.assertEqual(self.state(deeds)[1:3], ([([0], []), ([1], []), None, ([3], [])], [(0, 0), (3, 1)]))
        both = deeds + [("leave", 1)]
        self.assertEqual(self.state(both)[1:3], ([([0], [1, 2]), None, None, ([3], [])], [(3, 1)]))

    def test_one_that_waits_still_lets_others_pass_with_no_piece_in_common(self):
        deeds = [("come", 0), ("come", 1), ("come", 5), ("come", 3), ("ask", 0, 0), ("ask", 3, 0), ("leave", 2)]
        self.assertEqual(self.state(deeds[:-1])[2], [(0, 0), (3, 0)])
        self.assertEqual(self.state(deeds)[1:3], ([([0], []), ([1], []), None, ([3], [4, 5])], [(0, 0)]))

    def test_several_are_served_behind_one_deed(self):
        """The two that wait hang on two pieces of one train, both of which it leaves at once."""
        fan = [(False, [[(1, None)]]), (False, []), (False, [[(0, None)]]), (True, [[(1, None)]])]
        deeds = [("come", 0), ("ask", 0, 0), ("go", 0), ("come", 2), ("come", 3)]
        deeds += [("ask", 2, 0), ("ask", 1, 0), ("leave", 0)]
        self.assertEqual(answers(fan, deeds), [0, "set", 1, 1, 2, "waits", "waits", "left"])
        told = states(fan, deeds)
        self.assertEqual(told[-2][2], [(2, 0), (1, 0)])
        self.assertEqual(told[-1][1:3], ([None, ([2], [0]), ([3], [1])], []))

    def test_one_that_asks_anew_is_behind_the_others(self):
        deeds = [("come", 0), ("come", 2), ("come", 3), ("ask", 0, 0), ("ask", 2, 1), ("back", 0), ("ask", 0, 0)]
        self.assertEqual(self.state(deeds)[2], [(2, 1), (0, 0)])
        self.assertEqual(self.train(deeds + [("leave", 1)], 2), ([3], [2]))


if __name__ == "__main__":
    unittest.main()
