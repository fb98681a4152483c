"""Rings behind a day."""

import copy
import unittest

from model import can_be_told, hangs, is_ring
from pointyard.day import answers, ring_behind, states


def plain_yard(size, ways):
    """Pieces without points; `ways` has pairs of a piece and the pieces of a way that leads from it."""
    entries = [(False, []) for piece in range(size)]
    for start, pieces in ways:
        entries[start][1].append([(piece, None) for piece in pieces])
    return entries


def comes(*pieces):
    return [("come", piece) for piece in pieces]


class RingCase(unittest.TestCase):
    def ring(self, yard, deeds):
        """The ring, which is held beside the words of point 10, with the deeds as they were."""
        before = copy.deepcopy((yard, deeds))
        ring = ring_behind(yard, deeds)
        self.assertEqual(repr((yard, deeds)), repr(before))
        hanging = hangs(yard, states(yard, deeds)[-1]) if deeds else {}
        if ring is None:
            self.assertTrue(can_be_told(hanging), hanging)
        else:
            self.assertIs(type(ring), list)
            self.assertEqual([type(number) for number in ring], [int] * len(ring))
            self.assertTrue(is_ring(hanging, ring), (hanging, ring))
        return ring

    def assert_waits(self, yard, deeds, numbers):
        self.assertEqual([number for number, way in states(yard, deeds)[-1][2]], numbers)

    def assert_ring(self, yard, deeds, trains):
        """The ring of just these trains, in their order, from whichever of them it begins."""
        ring = self.ring(yard, deeds)
        self.assertIsNotNone(ring)
        self.assertIn(trains[0], ring)
        first = ring.index(trains[0])
        self.assertEqual(ring[first:] + ring[:first], trains)

    def assert_none(self, yard, deeds):
        self.assertIsNone(self.ring(yard, deeds))


class NoRingTest(RingCase):
    def test_no_deeds_and_no_trains(self):
        yard = plain_yard(2, [(0, [1])])
        self.assert_none(yard, [])
        self.assert_none(yard, [("come", -1)])

    def test_nobody_waits(self):
        yard = plain_yard(3, [(0, [1]), (1, [0])])
        self.assert_none(yard, comes(0, 1))
        self.assert_none(yard, comes(0) + [("ask", 0, 0)])
        self.assert_none(yard, comes(0) + [("ask", 0, 0), ("go", 0)])

    def test_one_waits_for_one_that_stands_still(self):
        yard = plain_yard(2, [(0, [1]), (1, [0])])
        deeds = comes(0, 1) + [("ask", 0, 0)]
        self.assert_waits(yard, deeds, [0])
        self.assert_none(yard, deeds)

    def test_one_waits_for_one_with_a_way_set(self):
        yard = plain_yard(4, [(0, [2, 1]), (1, [2, 3])])
        deeds = comes(0, 1) + [("ask", 1, 0), ("ask", 0, 0)]
        self.assert_waits(yard, deeds, [0])
        self.assert_none(yard, deeds)

    def test_a_chain(self):
        yard = plain_yard(5, [(0, [1]), (1, [2]), (2, [3]), (3, [4])])
        for order in ([0, 1, 2, 3], [3, 2, 1, 0], [1, 3, 0, 2]):
            deeds = comes(0, 1, 2, 3, 4) + [("ask", number, 0) for number in order]
            self.assert_waits(yard, deeds, order)
            self.assert_none(yard, deeds)

    def test_two_that_wait_for_the_same_one(self):
        yard = plain_yard(3, [(0, [2]), (1, [2])])
        deeds = comes(0, 1, 2) + [("ask", 0, 0), ("ask", 1, 0)]
        self.assert_waits(yard, deeds, [0, 1])
        self.assert_none(yard, deeds)

    def test_one_that_waits_ahead_hangs_on_none_behind_it_by_a_common_piece(self):
        yard = plain_yard(4, [(0, [2, 3]), (1, [2, 0])])
        deeds = comes(0, 1, 3) + [("ask", 0, 0), ("ask", 1, 0)]
        self.assert_waits(yard, deeds, [0, 1])
        self.assert_none(yard, deeds)

    def test_one_behind_hangs_on_none_ahead_without_a_common_piece(self):
        yard = plain_yard(5, [(0, [1, 4]), (1, [3])])
        deeds = comes(0, 1, 3) + [("ask", 0, 0), ("ask", 1, 0)]
        self.assert_waits(yard, deeds, [0, 1])
        self.assert_none(yard, deeds)

    def test_piece_from_which_a_way_leads_is_no_piece_of_it(self):
        yard = plain_yard(4, [(0, [2, 3]), (1, [2])])
        deeds = comes(0, 1, 3) + [("ask", 0, 0), ("ask", 1, 0)]
        self.assert_waits(yard, deeds, [0, 1])
        self.assert_none(yard, deeds)

    def test_trains_that_have_left_bind_nobody(self):
        yard = plain_yard(4, [(0, [1]), (1, [0]), (2, [3])])
        deeds = comes(0, 1, 3) + [("leave", 1), ("come", 2), ("ask", 3, 0), ("ask", 0, 0)]
        self.assert_waits(yard, deeds, [3])
        self.assert_none(yard, deeds)


class RingOfOneTest(RingCase):
    YARD = plain_yard(5, [(0, [1, 2]), (2, [3, 0]), (2, [1]), (2, [3]), (4, [3])])
    LONG = comes(0) + [("ask", 0, 0), ("go", 0), ("go", 0)]

    def test_by_its_hindmost_piece(self):
        self.assert_ring(self.YARD, self.LONG + [("ask", 0, 0)], [0])

    def test_by_a_piece_between(self):
        self.assert_ring(self.YARD, self.LONG + [("ask", 0, 1)], [0])
        self.assert_ring(self.YARD, self.LONG + [("draw", 0), ("ask", 0, 1)], [0])

    def test_gone_when_it_leaves_the_piece(self):
        self.assert_ring(self.YARD, self.LONG + [("ask", 0, 1), ("draw", 0)], [0])
        self.assert_none(self.YARD, self.LONG + [("ask", 0, 1), ("draw", 0), ("draw", 0)])
        self.assert_none(self.YARD, self.LONG + [("ask", 0, 0), ("draw", 0)])

    def test_gone_when_it_goes_back(self):
        self.assert_none(self.YARD, self.LONG + [("ask", 0, 0), ("back", 0)])

    def test_still_waiting_for_another_when_it_is_gone(self):
        deeds = self.LONG + [("come", 3), ("ask", 0, 0)]
        self.assert_ring(self.YARD, deeds, [0])
        self.assert_waits(self.YARD, deeds + [("draw", 0)], [0])
        self.assert_none(self.YARD, deeds + [("draw", 0)])

    def test_no_ring_of_one_that_waits_for_another_alone(self):
        deeds = self.LONG + [("come", 3), ("ask", 0, 2)]
        self.assert_waits(self.YARD, deeds, [0])
        self.assert_none(self.YARD, deeds)

    def test_of_a_later_number(self):
        yard = plain_yard(5, [(0, [1]), (1, [0]), (3, [2])])
        deeds = comes(3, 2, 0) + [("ask", 0, 0), ("ask", 2, 0), ("go", 2), ("ask", 2, 0)]
        self.assert_waits(yard, deeds, [0, 2])
        self.assert_ring(yard, deeds, [2])


class RingOfSeveralTest(RingCase):
    def test_of_two(self):
        yard = plain_yard(2, [(0, [1]), (1, [0])])
        for first, second in ((0, 1), (1, 0)):
            deeds = comes(0, 1) + [("ask", first, 0), ("ask", second, 0)]
            self.assertEqual(answers(yard, deeds)[-2:], ["waits", "waits"])
            self.assert_ring(yard, deeds, [0, 1])
            self.assert_none(yard, deeds + [("back", 0)])
            self.assert_none(yard, deeds + [("back", 1)])

    def test_of_two_by_their_hindmost_pieces(self):
        yard = plain_yard(4, [(0, [1]), (1, [2]), (2, [3]), (3, [0])])
        deeds = comes(0, 2) + [("ask", 0, 0), ("go", 0), ("ask", 1, 0), ("go", 1)]
        deeds += [("ask", 0, 0), ("ask", 1, 0)]
        self.assert_ring(yard, deeds, [0, 1])
        self.assert_none(yard, deeds + [("draw", 0)])
        self.assert_none(yard, deeds + [("draw", 1)])

    def test_of_three_either_way_round(self):
        for ways, ring in (([1, 2, 0], [0, 1, 2]), ([2, 0, 1], [0, 2, 1])):
            yard = plain_yard(3, [(start, [piece]) for start, piece in enumerate(ways)])
            for order in ([0, 1, 2], [2, 1, 0], [1, 0, 2]):
                deeds = comes(0, 1, 2) + [("ask", number, 0) for number in order]
                self.assert_ring(yard, deeds, ring)
                for number in range(3):
                    self.assert_none(yard, deeds + [("back", number)])

    def test_by_the_later_pieces_of_the_ways(self):
        yard = plain_yard(7, [(0, [3, 1]), (1, [4, 2]), (2, [5, 6, 0])])
        deeds = comes(0, 1, 2) + [("ask", number, 0) for number in range(3)]
        self.assert_ring(yard, deeds, [0, 1, 2])

    def test_by_waiting_ahead_with_a_piece_in_common(self):
        yard = plain_yard(3, [(0, [2, 1]), (1, [2])])
        deeds = comes(0, 1) + [("ask", 0, 0), ("ask", 1, 0)]
        self.assertEqual(answers(yard, deeds), [0, 1, "waits", "waits"])
        self.assert_ring(yard, deeds, [0, 1])
        self.assertEqual(answers(yard, comes(0, 1) + [("ask", 1, 0), ("ask", 0, 0)]), [0, 1, "set", "waits"])

    def test_by_waiting_ahead_though_not_next(self):
        yard = plain_yard(8, [(0, [2, 1]), (1, [2]), (3, [4]), (5, [6])])
        deeds = comes(0, 1, 3, 4, 5, 6)
        deeds += [("ask", 0, 0), ("ask", 2, 0), ("ask", 4, 0), ("ask", 1, 0)]
        self.assert_waits(yard, deeds, [0, 2, 4, 1])
        self.assert_ring(yard, deeds, [0, 1])

    def test_by_waiting_ahead_in_a_longer_ring(self):
        yard = plain_yard(6, [(0, [3, 1]), (1, [4, 2]), (2, [3])])
        deeds = comes(0, 1, 2) + [("ask", 0, 0), ("ask", 1, 0), ("ask", 2, 0)]
        self.assert_ring(yard, deeds, [0, 1, 2])

    def test_numbers_behind_trains_that_have_left(self):
        yard = plain_yard(2, [(0, [1]), (1, [0])])
        deeds = comes(0, 1) + [("leave", 0), ("leave", 1)] + comes(1, 0) + [("ask", 2, 0), ("ask", 3, 0)]
        self.assert_ring(yard, deeds, [2, 3])

    def test_those_that_lead_to_a_ring_are_none_of_it(self):
        yard = plain_yard(5, [(0, [1]), (1, [2]), (2, [3]), (3, [2]), (4, [0])])
        for order in ([4, 0, 1, 2, 3], [3, 2, 1, 0, 4], [0, 4, 3, 1, 2]):
            deeds = comes(0, 1, 2, 3, 4) + [("ask", number, 0) for number in order]
            self.assert_ring(yard, deeds, [2, 3])

    def test_those_of_a_ring_hang_on_others_too(self):
        """Each way begins with a piece on which one stands that waits, but in no ring."""
        yard = plain_yard(7, [(0, [4, 1]), (1, [5, 2]), (2, [6, 0]), (4, [3]), (5, [3]), (6, [3])])
        for order in ([4, 5, 6, 0, 1, 2], [0, 1, 2, 4, 5, 6], [0, 6, 1, 5, 2, 4]):
            deeds = comes(0, 1, 2, 3, 4, 5, 6) + [("ask", number, 0) for number in order]
            self.assert_waits(yard, deeds, order)
            self.assert_ring(yard, deeds, [0, 1, 2])

    def test_two_rings(self):
        yard = plain_yard(5, [(0, [1]), (1, [0]), (2, [3]), (3, [4]), (4, [2])])
        deeds = comes(0, 1, 2, 3, 4) + [("ask", number, 0) for number in range(5)]
        self.assertIn(len(self.ring(yard, deeds)), (2, 3))
        self.assert_ring(yard, deeds + [("back", 0)], [2, 3, 4])
        self.assert_ring(yard, deeds + [("back", 4)], [0, 1])
        self.assert_none(yard, deeds + [("back", 0), ("back", 4)])

    def test_two_rings_with_a_train_in_common(self):
        yard = plain_yard(3, [(0, [1, 2]), (1, [0]), (2, [0])])
        deeds = comes(0, 1, 2) + [("ask", number, 0) for number in range(3)]
        self.assertEqual(len(self.ring(yard, deeds)), 2)
        self.assert_none(yard, deeds + [("back", 0)])

    def test_any_order_of_asking(self):
        yard = plain_yard(6, [(0, [3, 1]), (1, [4, 2]), (2, [5, 0])])
        self.assert_ring(yard, comes(0, 1, 2) + [("ask", 2, 0), ("ask", 0, 0), ("ask", 1, 0)], [0, 1, 2])

    def test_of_all_trains_of_a_great_yard(self):
        for size in (30, 45):
            yard = plain_yard(size, [(start, [(start + 1) % size]) for start in range(size)])
            deeds = comes(*range(size)) + [("ask", number, 0) for number in reversed(range(size))]
            self.assert_ring(yard, deeds, list(range(size)))
            self.assert_none(yard, deeds + [("back", size // 2)])

    def test_every_ring_of_a_thick_yard(self):
        """Each asks for all other pieces, so that each hangs on each other one."""
        size = 30
        yard = plain_yard(size, [(start, [piece for piece in range(size) if piece != start]) for start in range(size)])
        deeds = comes(*range(size)) + [("ask", number, 0) for number in range(size)]
        self.assertGreater(len(self.ring(yard, deeds)), 1)

    def test_a_long_day_of_rings(self):
        yard = plain_yard(2, [(0, [1]), (1, [0])])
        deeds = comes(0, 1) + [("ask", 0, 0), ("ask", 1, 0), ("back", 0), ("back", 1)] * 3000
        self.assert_none(yard, deeds)
        self.assert_ring(yard, deeds[:-2], [0, 1])


if __name__ == "__main__":
    unittest.main()
