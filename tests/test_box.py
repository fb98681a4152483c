import copy
import unittest

from pointyard.box import Box
from pointyard.errors import BadYard


def yard():
    return [
        (False, [[(1, None), (2, 1), (3, None)], [(2, 0), (4, 1), (5, None)], [(5, None)]]),
        (False, [[(2, 1)]]),
        (True, [[(3, None)], [(0, None)]]),
        (False, [[(2, 1), (1, None)], [(4, 0)]]),
        (True, [[(5, None)]]),
        (False, [[(4, 0), (2, 1)], [(6, None)]]),
        (False, [[(3, None)], [(4, 1), (5, None)], [(1, None)]]),
    ]


class BoxCase(unittest.TestCase):
    def setUp(self):
        self.yard = yard()
        self.box = Box(self.yard)

    def tearDown(self):
        self.assertEqual(self.yard, yard())

    def come(self, *pieces):
        return [self.box.come(piece) for piece in pieces]

    def ask(self, number, way):
        self.box.ask(number, way)
        self.box.serve()

    def stands(self, number):
        return self.box.trains[number].stands

    def ahead(self, number):
        return self.box.trains[number].ahead

    def free(self):
        return [piece for piece in range(len(self.yard)) if self.box.is_free(piece)]

    def signals(self):
        return [piece for piece, shown in enumerate(self.box.signals()) if shown]


class AtFirstTest(BoxCase):
    def test_no_trains_and_all_free(self):
        self.assertEqual(self.box.trains, [])
        self.assertEqual(self.box.waits, [])
        self.assertEqual(self.free(), [0, 1, 2, 3, 4, 5, 6])
        self.assertEqual(self.box.signals(), [False] * 7)

    def test_points_lie_at_nought_and_other_pieces_have_no_lie(self):
        self.assertEqual(self.box.lies, [None, None, 0, None, 0, None, None])

    def test_serving_nobody_changes_nothing(self):
        self.box.serve()
        self.test_no_trains_and_all_free()
        self.test_points_lie_at_nought_and_other_pieces_have_no_lie()

    def test_one_piece(self):
        self.assertEqual(Box([(True, [])]).lies, [0])
        self.assertEqual(Box([(False, [])]).lies, [None])

    def test_two_boxes_of_one_yard_share_nothing(self):
        other = Box(self.yard)
        self.come(0)
        self.ask(0, 0)
        self.assertEqual(other.trains, [])
        self.assertEqual(other.lies, [None, None, 0, None, 0, None, None])
        self.assertTrue(other.is_free(0))

    def test_yard_that_is_not_sound(self):
        for wrong in ([], [(False, [[]])], [(False, [[(1, 0)]]), (False, [])]):
            before = copy.deepcopy(wrong)
            with self.assertRaises(BadYard):
                Box(wrong)
            self.assertEqual(wrong, before)


class TrainsTest(BoxCase):
    def test_numbered_in_the_order_in_which_they_come(self):
        self.assertEqual(self.come(3, 0, 6), [0, 1, 2])
        self.assertEqual([self.stands(number) for number in range(3)], [[3], [0], [6]])

    def test_numbers_are_not_given_again(self):
        self.come(3, 0)
        self.box.leave(1)
        self.assertEqual(self.box.come(0), 2)
        self.box.leave(0)
        self.assertEqual(self.box.come(3), 3)
        self.assertEqual([train is None for train in self.box.trains], [True, True, False, False])

    def test_stands_from_the_hindmost_piece_to_the_head(self):
        self.come(0)
        self.ask(0, 0)
        self.assertEqual([self.box.go(0), self.box.go(0)], [1, 2])
        self.assertEqual(self.stands(0), [0, 1, 2])
        self.assertEqual(self.ahead(0), [3])
        self.assertEqual(self.box.draw(0), 0)
        self.assertEqual(self.stands(0), [1, 2])

    def test_set_ahead_in_the_order_in_which_it_comes_to_them(self):
        self.come(0)
        self.ask(0, 1)
        self.assertEqual(self.ahead(0), [2, 4, 5])

    def test_asks_from_the_piece_of_its_head(self):
        self.come(3)
        self.ask(0, 0)
        self.box.go(0)
        self.box.go(0)
        self.assertEqual(self.stands(0), [3, 2, 1])
        self.box.draw(0)
        self.box.draw(0)
        self.ask(0, 0)
        self.assertEqual(self.ahead(0), [2])


class FreeTest(BoxCase):
    def test_where_a_train_stands_is_not_free(self):
        self.come(0, 6)
        self.assertEqual(self.free(), [1, 2, 3, 4, 5])

    def test_what_is_set_ahead_is_not_free(self):
        self.come(0)
        self.ask(0, 0)
        self.assertEqual(self.free(), [4, 5, 6])

    def test_going_gives_nothing_free(self):
        self.come(0)
        self.ask(0, 0)
        self.box.go(0)
        self.assertEqual(self.free(), [4, 5, 6])

    def test_what_is_left_behind_is_free(self):
        self.come(0)
        self.ask(0, 0)
        self.box.go(0)
        self.box.draw(0)
        self.assertEqual(self.free(), [0, 4, 5, 6])

    def test_what_was_set_is_free_behind_going_back(self):
        self.come(0)
        self.ask(0, 0)
        self.box.go(0)
        self.box.back(0)
        self.assertEqual(self.ahead(0), [])
        self.assertEqual(self.stands(0), [0, 1])
        self.assertEqual(self.free(), [2, 3, 4, 5, 6])

    def test_all_pieces_of_a_train_that_leaves_are_free(self):
        self.come(1)
        self.ask(0, 0)
        self.box.go(0)
        self.box.leave(0)
        self.assertIsNone(self.box.trains[0])
        self.assertEqual(self.free(), [0, 1, 2, 3, 4, 5, 6])

    def test_way_asked_for_but_not_set_stays_free(self):
        self.come(0, 3)
        self.ask(0, 0)
        self.assertEqual(self.free(), [1, 2, 4, 5, 6])


class WaitingTest(BoxCase):
    def test_way_of_free_pieces_is_set(self):
        self.come(0)
        self.box.ask(0, 0)
        self.assertTrue(self.box.is_waiting(0))
        self.box.serve()
        self.assertFalse(self.box.is_waiting(0))
        self.assertEqual(self.box.waits, [])
        self.assertEqual(self.ahead(0), [1, 2, 3])

    def test_barred_by_a_piece_on_which_a_train_stands(self):
        for piece in (1, 2, 3):
            with self.subTest(piece=piece):
                self.box = Box(self.yard)
                self.come(0, piece)
                self.ask(0, 0)
                self.assertEqual(self.box.waits, [(0, 0)])
                self.assertTrue(self.box.is_waiting(0))
                self.assertFalse(self.box.is_waiting(1))
                self.assertEqual(self.ahead(0), [])

    def test_barred_by_the_hindmost_piece_of_a_longer_train(self):
        self.come(5, 0)
        self.ask(0, 1)
        self.box.go(0)
        self.assertEqual(self.stands(0), [5, 6])
        self.ask(1, 2)
        self.assertEqual(self.box.waits, [(1, 2)])
        self.box.draw(0)
        self.box.serve()
        self.assertEqual(self.box.waits, [])
        self.assertEqual(self.ahead(1), [5])

    def test_barred_by_a_piece_set_ahead_of_another(self):
        self.come(0, 6)
        self.ask(0, 0)
        self.ask(1, 0)
        self.assertEqual(self.box.waits, [(1, 0)])
        self.assertEqual(self.ahead(1), [])

    def test_barred_by_a_piece_on_which_it_stands_itself(self):
        self.come(2)
        self.ask(0, 0)
        self.box.go(0)
        self.ask(0, 0)
        self.assertEqual(self.box.waits, [(0, 0)])
        self.box.draw(0)
        self.box.serve()
        self.assertEqual(self.box.waits, [])
        self.assertEqual(self.ahead(0), [2, 1])

    def test_barred_by_the_way_of_one_that_waits_ahead_even_where_it_is_free(self):
        self.come(0, 3, 6)
        self.ask(0, 0)
        self.assertTrue(self.box.is_free(1))
        self.ask(2, 2)
        self.assertEqual(self.box.waits, [(0, 0), (2, 2)])
        self.assertTrue(self.box.is_free(1))
        self.assertEqual(self.ahead(2), [])

    def test_barred_by_the_way_of_any_that_waits_ahead_not_of_the_nearest_alone(self):
        self.come(0, 5, 3, 6)
        self.ask(0, 0)
        self.ask(1, 1)
        self.assertEqual(self.box.waits, [(0, 0), (1, 1)])
        self.ask(3, 2)
        self.assertEqual(self.box.waits, [(0, 0), (1, 1), (3, 2)])

    def test_barred_by_the_way_of_one_that_is_barred_by_a_way_itself(self):
        chain = [
            (False, [[(4, None), (5, None)]]),
            (False, [[(5, None), (6, None)]]),
            (False, [[(6, None)]]),
            (False, []),
            (False, []),
            (False, []),
            (False, []),
        ]
        self.box = Box(chain)
        self.come(0, 1, 2, 4)
        for number in (0, 1, 2):
            self.ask(number, 0)
        self.assertEqual(self.box.waits, [(0, 0), (1, 0), (2, 0)])
        self.assertTrue(self.box.is_free(5) and self.box.is_free(6))
        self.box.back(1)
        self.box.serve()
        self.assertEqual(self.box.waits, [(0, 0)])
        self.assertEqual(self.ahead(2), [6])

    def test_not_barred_by_the_way_of_one_that_waits_behind(self):
        self.come(6, 0, 3)
        self.box.ask(0, 2)
        self.box.ask(1, 0)
        self.box.serve()
        self.assertEqual(self.ahead(0), [1])
        self.assertEqual(self.box.waits, [(1, 0)])

    def test_set_past_one_that_waits_ahead_where_the_ways_have_nothing_in_common(self):
        self.come(0, 3, 6)
        self.ask(0, 0)
        self.ask(2, 1)
        self.assertEqual(self.box.waits, [(0, 0)])
        self.assertEqual(self.ahead(2), [4, 5])

    def test_in_the_order_in_which_they_asked_not_in_that_of_their_numbers(self):
        self.come(0, 6, 3)
        self.ask(1, 0)
        self.ask(0, 0)
        self.assertEqual(self.box.waits, [(1, 0), (0, 0)])
        self.box.leave(2)
        self.box.serve()
        self.assertEqual(self.ahead(1), [3])
        self.assertEqual(self.box.waits, [(0, 0)])

    def test_one_that_goes_back_and_asks_anew_is_the_last(self):
        self.come(0, 6, 3)
        self.ask(0, 0)
        self.ask(1, 0)
        self.box.back(0)
        self.box.serve()
        self.assertEqual(self.box.waits, [(1, 0)])
        self.ask(0, 0)
        self.assertEqual(self.box.waits, [(1, 0), (0, 0)])

    def test_one_that_goes_back_lets_those_behind_through(self):
        self.come(0, 3, 6)
        self.ask(0, 0)
        self.ask(2, 2)
        self.box.back(0)
        self.box.serve()
        self.assertEqual(self.box.waits, [])
        self.assertEqual(self.ahead(2), [1])
        self.assertEqual(self.ahead(0), [])


class ServingTest(BoxCase):
    def test_all_that_wait_are_looked_at(self):
        self.come(0, 3, 6)
        self.box.ask(0, 2)
        self.box.ask(1, 0)
        self.box.serve()
        self.assertEqual(self.box.waits, [])
        self.assertEqual((self.ahead(0), self.ahead(1)), ([5], [2, 1]))

    def test_what_one_has_had_set_bars_those_behind_it(self):
        self.come(0, 6, 3)
        self.ask(0, 0)
        self.ask(1, 0)
        self.assertEqual(self.box.waits, [(0, 0), (1, 0)])
        self.box.leave(2)
        self.box.serve()
        self.assertEqual(self.ahead(0), [1, 2, 3])
        self.assertEqual(self.box.waits, [(1, 0)])
        self.assertEqual(self.ahead(1), [])

    def test_the_first_and_the_last_are_served_past_one_between(self):
        self.come(3, 1, 0, 2)
        for number, way in ((0, 1), (1, 0), (2, 2)):
            self.box.ask(number, way)
        self.box.serve()
        self.assertEqual(self.box.waits, [(1, 0)])
        self.assertEqual([self.ahead(number) for number in range(3)], [[4], [], [5]])

    def test_no_part_of_a_barred_way_is_set(self):
        self.come(0, 3)
        self.ask(0, 0)
        self.assertEqual(self.ahead(0), [])
        self.assertEqual(self.box.lies, [None, None, 0, None, 0, None, None])

    def test_a_second_look_changes_nothing(self):
        self.come(0, 3, 6)
        for number, way in ((0, 0), (2, 2), (1, 1)):
            self.ask(number, way)
        before = copy.deepcopy((self.box.waits, self.box.lies, self.box.keepers))
        self.box.serve()
        self.assertEqual((self.box.waits, self.box.lies, self.box.keepers), before)


class PointsTest(BoxCase):
    def test_turned_to_the_lies_of_the_steps(self):
        self.come(0)
        self.ask(0, 0)
        self.assertEqual(self.box.lies, [None, None, 1, None, 0, None, None])

    def test_turned_both_ways_and_left_alone_elsewhere(self):
        self.come(0)
        self.box.turn(2)
        self.ask(0, 1)
        self.assertEqual(self.box.lies, [None, None, 0, None, 1, None, None])

    def test_stay_where_the_lie_is_right_already(self):
        self.come(3)
        self.box.turn(2)
        self.ask(0, 0)
        self.assertEqual(self.box.lies, [None, None, 1, None, 0, None, None])

    def test_turned_when_the_way_is_set_not_when_it_is_asked_for(self):
        self.come(0, 3)
        self.ask(0, 0)
        self.assertEqual(self.box.lies[2], 0)
        self.box.leave(1)
        self.box.serve()
        self.assertEqual(self.box.lies[2], 1)

    def test_stay_as_they_lie_behind_going_back_and_passing(self):
        self.come(0)
        self.ask(0, 0)
        self.box.back(0)
        self.assertEqual(self.box.lies[2], 1)
        self.ask(0, 0)
        for times in range(3):
            self.box.go(0)
            self.box.draw(0)
        self.box.leave(0)
        self.assertEqual(self.box.lies, [None, None, 1, None, 0, None, None])

    def test_turned_to_the_other_lie(self):
        self.assertEqual([self.box.turn(4), self.box.turn(4), self.box.turn(4)], [1, 0, 1])
        self.assertEqual(self.box.lies, [None, None, 0, None, 1, None, None])


class SignalsTest(BoxCase):
    def test_not_free_where_nothing_is_set_ahead(self):
        self.come(0, 3)
        self.assertEqual(self.signals(), [])

    def test_free_at_the_head_where_something_is_set_ahead(self):
        self.come(3, 0)
        self.ask(1, 2)
        self.assertEqual(self.box.signals(), [True, False, False, False, False, False, False])

    def test_at_the_head_alone_while_the_train_goes(self):
        self.come(0)
        self.ask(0, 0)
        shown = [self.signals()]
        for times in range(3):
            self.box.go(0)
            shown.append(self.signals())
        self.assertEqual(shown, [[0], [1], [2], []])

    def test_drawing_changes_no_signal(self):
        self.come(0)
        self.ask(0, 0)
        self.box.go(0)
        self.box.draw(0)
        self.assertEqual(self.signals(), [1])

    def test_not_free_for_one_that_waits(self):
        self.come(0, 3)
        self.ask(0, 0)
        self.assertEqual(self.signals(), [])

    def test_not_free_behind_going_back(self):
        self.come(0)
        self.ask(0, 0)
        self.box.back(0)
        self.assertEqual(self.signals(), [])

    def test_of_several_trains(self):
        self.come(0, 6, 3)
        self.ask(0, 2)
        self.ask(1, 2)
        self.assertEqual(self.signals(), [0, 6])

    def test_not_free_where_a_train_has_left(self):
        self.come(0)
        self.ask(0, 2)
        self.box.go(0)
        self.box.leave(0)
        self.assertEqual(self.signals(), [])


if __name__ == "__main__":
    unittest.main()
