"""Points 1 and 2, and what the document says of room and of being led to."""

import unittest

from ringcells.store import HOLDS_CELL, NOTHING, Store, units
from tests.helper import (INT_HIGH, INT_LOW, cell, clear, filled_store, make, number, root,
                          rooted, row_store, said, state, unset)


class Clear(unittest.TestCase):
    def test_the_next_handle_is_1_again(self):
        self.assertEqual(said(make(0), make(0), clear(), make(0)), [1, 2, 0, 1])

    def test_every_root_is_none(self):
        for first in (0, 128):
            places = range(first, first + 128)
            setting = [root(r, 1) for r in places]
            asking = [rooted(r) for r in places]
            found = said(make(0), *setting, clear(), *asking)
            self.assertEqual(found, [1] + [0] * 128 + [0] + [0] * 128)

    def test_no_cell_is_left(self):
        found = said(make(1), root(0, 1), make(1), clear(), unset(1, 0), unset(2, 0), root(3, 1))
        self.assertEqual(found, [1, 0, 2, 0, -1, -1, -1])

    def test_the_cell_made_last_is_gone_when_its_handle_comes_again(self):
        found = said(make(8), clear(), make(1), unset(1, 0), unset(1, 1))
        self.assertEqual(found, [1, 0, 1, 0, -2])

    def test_clear_after_clear(self):
        self.assertEqual(said(clear(), clear(), make(0), clear(), clear(), make(0)),
                         [0, 0, 1, 0, 0, 1])

    def test_all_room_is_there_again(self):
        store = row_store(32768, 1)
        self.assertEqual(store.make(0), -3)
        self.assertEqual(store.clear(), 0)
        self.assertEqual(state(store), state(Store()))
        self.assertEqual(store.make(8), 1)


class Make(unittest.TestCase):
    def test_fields_at_and_past_the_edges(self):
        found = said(make(-1), make(0), make(8), make(9), make(INT_LOW), make(INT_HIGH), make(1))
        self.assertEqual(found, [-2, 1, 2, -2, -2, -2, 3])

    def test_each_count_of_fields_gives_that_many(self):
        for fields in range(9):
            calls = [unset(1, i) for i in range(10)]
            self.assertEqual(said(make(fields), *calls), [1] + [0] * fields + [-2] * (10 - fields))

    def test_the_fields_hold_nothing(self):
        store = Store()
        store.make(8)
        self.assertEqual(store.cells[1], [NOTHING] * 8)
        store.number(1, 3, 4)
        self.assertEqual(store.cells[1], [NOTHING] * 3 + [(1, 4)] + [NOTHING] * 4)
        store.make(8)
        self.assertEqual(store.cells, {2: [NOTHING] * 8})

    def test_a_handle_is_never_given_twice(self):
        found = said(make(1), make(1), root(0, 2), root(0, 0), make(1), make(-1), make(1))
        self.assertEqual(found, [1, 2, 0, 0, 3, -2, 4])

    def test_the_cell_made_last_is_led_to_until_the_next_make(self):
        found = said(make(1), number(1, 0, 5), make(1), number(1, 0, 5), number(2, 0, 5))
        self.assertEqual(found, [1, 0, 2, -1, 0])

    def test_what_the_cell_made_last_holds_is_led_to(self):
        found = said(make(1), root(0, 1), make(1), cell(2, 0, 1), root(0, 0), unset(1, 0), make(1),
                     unset(1, 0), unset(2, 0))
        self.assertEqual(found, [1, 0, 2, 0, 0, 0, 3, -1, -1])

    def test_a_refused_make_leaves_the_cell_made_last(self):
        for fields in (-1, 9, INT_LOW, INT_HIGH):
            self.assertEqual(said(make(1), make(fields), unset(1, 0), make(0), unset(1, 0)),
                             [1, -2, 0, 2, -1])

    def test_a_refused_make_leaves_all_as_it_was(self):
        store = row_store(5, 2)
        store.make(3)
        before = state(store)
        self.assertEqual(store.make(9), -2)
        self.assertEqual(store.make(-1), -2)
        self.assertEqual(state(store), before)

    def test_what_roots_lead_to_is_kept(self):
        found = said(make(1), root(255, 1), make(1), cell(1, 0, 2), make(0), unset(2, 0), unset(1, 0))
        self.assertEqual(found, [1, 0, 2, 0, 3, 0, 0])

    def test_a_rooted_cell_that_was_made_last_is_led_to_once_unrooted(self):
        self.assertEqual(said(make(1), root(0, 1), root(0, 0), unset(1, 0)), [1, 0, 0, 0])


class LedTo(unittest.TestCase):
    def test_a_ring_that_no_root_has_is_gone(self):
        ring = [make(1), root(0, 1), make(1), cell(1, 0, 2), cell(2, 0, 1), make(0)]
        self.assertEqual(said(*ring, root(1, 1), root(1, 2)), [1, 0, 2, 0, 0, 3, 0, 0])
        self.assertEqual(said(*ring, root(0, 0), root(1, 1), root(1, 2)), [1, 0, 2, 0, 0, 3, 0, -1, -1])

    def test_a_ring_is_there_while_a_root_has_one_of_it(self):
        ring = [make(1), root(0, 1), make(1), cell(1, 0, 2), cell(2, 0, 1), make(0)]
        found = said(*ring, root(0, 2), root(1, 1), root(0, 0), root(2, 2), root(1, 0), root(2, 0),
                     root(1, 1), root(2, 2))
        self.assertEqual(found[6:], [0, 0, 0, 0, 0, 0, -1, -1])

    def test_a_ring_of_the_cell_made_last_is_gone_with_the_next_make(self):
        found = said(make(1), cell(1, 0, 1), unset(1, 1), make(0), unset(1, 0))
        self.assertEqual(found, [1, 0, -2, 2, -1])

    def test_a_ring_that_the_rest_leads_to_does_not_keep_the_rest(self):
        found = said(make(1), root(0, 1), make(1), root(1, 2), cell(1, 0, 2), cell(2, 0, 2), make(0),
                     root(0, 0), unset(1, 0), unset(2, 1))
        self.assertEqual(found, [1, 0, 2, 0, 0, 0, 3, 0, -1, -2])

    def test_cut_out_from_between_others(self):
        row = [make(1), root(0, 1), make(1), cell(1, 0, 2), make(1), cell(2, 0, 3), make(0)]
        found = said(*row, cell(1, 0, 3), unset(2, 0), unset(3, 0), unset(1, 0))
        self.assertEqual(found[7:], [0, -1, 0, 0])

    def test_the_rest_of_a_cut_row_is_gone(self):
        row = [make(1), root(0, 1), make(1), cell(1, 0, 2), make(1), cell(2, 0, 3), make(0)]
        for cut in (unset(1, 0), cell(1, 0, 0), number(1, 0, 2), cell(1, 0, 1), root(0, 4)):
            self.assertEqual(said(*row, cut, unset(2, 0), unset(3, 0))[7:], [0, -1, -1])

    def test_a_number_that_is_also_a_handle_leads_nowhere(self):
        found = said(make(1), root(0, 1), make(1), number(1, 0, 2), make(0), unset(2, 0))
        self.assertEqual(found, [1, 0, 2, 0, 3, -1])

    def test_led_to_by_two_ways_and_then_by_one(self):
        both = [make(2), root(0, 1), make(0), cell(1, 0, 2), cell(1, 1, 2), make(0)]
        found = said(*both, unset(1, 0), root(9, 2), root(9, 0), unset(1, 1), root(9, 2))
        self.assertEqual(found[6:], [0, 0, 0, 0, -1])


class Room(unittest.TestCase):
    def test_a_cell_takes_up_one_and_one_for_each_field(self):
        self.assertEqual(units({}), 0)
        self.assertEqual(units({1: []}), 1)
        self.assertEqual(units({1: [NOTHING] * 8, 4: [(HOLDS_CELL, 1)]}), 11)

    def test_exactly_all_the_room_and_no_more(self):
        for fields in range(9):
            self.assertGreater(filled_store(65536 - 1 - fields).make(fields), 0)
            self.assertEqual(filled_store(65536 - fields).make(fields), -3)

    def test_one_unit_too_many(self):
        store = row_store(7281, 8)
        self.assertEqual(units(store.cells), 65529)
        self.assertEqual(store.make(7), -3)
        self.assertEqual(store.make(8), -3)
        self.assertEqual(store.make(6), 7282)
        self.assertEqual(store.root(1, 7282), 0)
        self.assertEqual(units(store.cells), 65536)
        self.assertEqual(store.make(0), -3)

    def test_no_room_gives_no_handle_and_none_was_made_last(self):
        store = row_store(7281, 8)
        self.assertEqual(store.make(6), 7282)
        self.assertEqual(store.unset(7282, 5), 0)
        self.assertEqual(store.make(7), -3)
        self.assertEqual(store.unset(7282, 5), -1)
        self.assertEqual(store.root(1, 7282), -1)
        self.assertEqual(store.unset(7281, 0), 0)
        self.assertEqual(store.make(6), 7283)

    def test_no_room_leaves_the_roots_and_what_they_lead_to(self):
        store = row_store(32768, 1)
        before = state(store)
        self.assertEqual(store.make(0), -3)
        self.assertEqual(state(store), before)

    def test_wrong_fields_come_before_no_room(self):
        store = row_store(32768, 1)
        self.assertEqual(store.make(9), -2)
        self.assertEqual(store.make(-1), -2)

    def test_the_cell_made_last_takes_up_no_room_for_the_next(self):
        store = row_store(7281, 8)
        self.assertEqual([store.make(6) for times in range(3)], [7282, 7283, 7284])

    def test_what_is_not_led_to_is_room_again(self):
        for ring in (False, True):
            store = row_store(32768, 1, ring)
            self.assertEqual(store.make(8), -3)
            store.root(0, 0)
            self.assertEqual(store.make(8), 32769)
            self.assertEqual(units(store.cells), 9)

    def test_what_lay_between_others_is_room_again(self):
        store = row_store(32768, 1, True)
        self.assertEqual(store.cell(1, 0, 5), 0)
        self.assertEqual(store.make(6), -3)
        self.assertEqual(store.make(5), 32769)
