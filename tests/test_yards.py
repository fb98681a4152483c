import copy
import unittest

from pointyard.errors import BadYard
from pointyard.yards import check_yard

SIZE = 6
WITH_POINTS = (1, 4)
GREAT = (10 ** 31, 10 ** 32 - 1, 10 ** 40)


def good_step(piece, lie=0):
    return (piece, lie if piece in WITH_POINTS else None)


def full_yard(pieces=SIZE):
    """From each piece one way upwards and one downwards through all the others, and one short way."""
    yard = []
    for start in range(pieces):
        others = [(start + k) % pieces for k in range(1, pieces)]
        ways = [[good_step(piece, 0) for piece in others]]
        ways.append([good_step(piece, 1) for piece in reversed(others)])
        ways.append([good_step(others[0])])
        yard.append((start in WITH_POINTS, ways))
    return yard


def places(yard):
    return [
        (start, way, step)
        for start, entry in enumerate(yard)
        for way, steps in enumerate(entry[1])
        for step in range(len(steps))
    ]


class YardCase(unittest.TestCase):
    def assert_sound(self, yard):
        before = copy.deepcopy(yard)
        self.assertIsNone(check_yard(yard))
        self.assertEqual(yard, before)

    def assert_refused(self, yard):
        before = copy.deepcopy(yard)
        with self.assertRaises(BadYard):
            check_yard(yard)
        self.assertEqual(yard, before)

    def assert_refused_everywhere(self, step_for):
        """`step_for(old)` gives the wrong step that is put in the place of each step by itself."""
        for start, way, step in places(full_yard()):
            with self.subTest(start=start, way=way, step=step):
                yard = full_yard()
                steps = yard[start][1][way]
                steps[step] = step_for(steps[step])
                self.assert_refused(yard)


class SoundYardTest(YardCase):
    def test_full_yard(self):
        self.assert_sound(full_yard())

    def test_piece_with_no_way(self):
        for start in range(SIZE):
            with self.subTest(start=start):
                yard = full_yard()
                yard[start] = (yard[start][0], [])
                self.assert_sound(yard)

    def test_no_piece_has_a_way(self):
        self.assert_sound([(False, []), (True, []), (False, [])])

    def test_one_piece(self):
        self.assert_sound([(False, [])])
        self.assert_sound([(True, [])])

    def test_both_lies_at_points_and_none_elsewhere(self):
        for lie in (0, 1):
            for start, way, step in places(full_yard()):
                yard = full_yard()
                steps = yard[start][1][way]
                steps[step] = good_step(steps[step][0], lie)
                self.assert_sound(yard)

    def test_same_piece_in_several_ways(self):
        self.assert_sound([(False, [[(1, 0)], [(1, 1)], [(1, 0)]]), (True, [[(0, None)]]), (False, [[(1, 1)]])])

    def test_first_and_last_piece_as_steps(self):
        self.assert_sound([(True, [[(2, 1)]]), (False, [[(0, 0), (2, 0)], [(2, 1), (0, 1)]]), (True, [[(0, 1)]])])

    def test_somewhat_more_pieces_and_ways_than_bounded(self):
        yard = full_yard(40)
        for start, entry in enumerate(yard):
            entry[1].extend([[good_step((start + k) % 40)] for k in range(1, 6)])
        self.assert_sound(yard)


class BadYardTest(YardCase):
    def test_no_piece(self):
        self.assert_refused([])

    def test_way_with_no_step(self):
        for start in range(SIZE):
            for way in range(3):
                with self.subTest(start=start, way=way):
                    yard = full_yard()
                    yard[start][1][way].clear()
                    self.assert_refused(yard)

    def test_one_piece_with_a_way(self):
        for points in (False, True):
            for way in ([], [(0, None)], [(0, 0)], [(1, None)], [(1, 0)], [(-1, None)], [(-1, 0)]):
                with self.subTest(points=points, way=way):
                    self.assert_refused([(points, [way])])

    def test_step_to_no_piece(self):
        wrong = [-1, SIZE, SIZE + 1, -SIZE, -SIZE - 1] + list(GREAT) + [-great for great in GREAT]
        for piece in wrong:
            for lie in (None, 0, 1):
                with self.subTest(piece=piece, lie=lie):
                    self.assert_refused_everywhere(lambda old: (piece, lie))

    def test_step_just_below_nought_where_the_last_piece_has_points(self):
        for lie in (None, 0, 1):
            self.assert_refused([(False, [[(-1, lie)]]), (False, []), (True, [])])

    def test_piece_twice_in_a_way(self):
        for start in range(SIZE):
            for way in range(2):
                length = SIZE - 1
                for first in range(length):
                    for later in range(first + 1, length):
                        with self.subTest(start=start, way=way, first=first, later=later):
                            yard = full_yard()
                            steps = yard[start][1][way]
                            steps[later] = steps[first]
                            self.assert_refused(yard)

    def test_piece_twice_with_both_lies(self):
        self.assert_refused([(False, [[(1, 0), (1, 1)]]), (True, [])])
        self.assert_refused([(False, [[(1, 0), (2, None), (1, 1)]]), (True, []), (False, [])])

    def test_piece_from_which_the_way_leads(self):
        for start, way, step in places(full_yard()):
            for lie in (0, 1):
                with self.subTest(start=start, way=way, step=step, lie=lie):
                    yard = full_yard()
                    yard[start][1][way][step] = good_step(start, lie)
                    self.assert_refused(yard)

    def assert_lies_refused(self, points, wrong):
        """Each wrong lie by itself, in every step to a piece with points, or to one without."""
        for start, way, step in places(full_yard()):
            piece = full_yard()[start][1][way][step][0]
            if (piece in WITH_POINTS) != points:
                continue
            for lie in wrong:
                with self.subTest(start=start, way=way, step=step, lie=lie):
                    yard = full_yard()
                    yard[start][1][way][step] = (piece, lie)
                    self.assert_refused(yard)

    def test_wrong_lie_at_points(self):
        self.assert_lies_refused(True, [None, 2, -1] + list(GREAT) + [-great for great in GREAT])

    def test_lie_where_there_are_no_points(self):
        self.assert_lies_refused(False, [0, 1, 2, -1] + list(GREAT))

    def test_points_of_the_piece_come_to_count_not_of_the_start(self):
        self.assert_refused([(True, [[(1, 0)]]), (False, [])])
        self.assert_refused([(False, [[(1, None)]]), (True, [])])
        self.assert_sound([(True, [[(1, None)]]), (False, [])])
        self.assert_sound([(False, [[(1, 0)]]), (True, [])])


if __name__ == "__main__":
    unittest.main()
