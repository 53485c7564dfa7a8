"""Point 8: copy, what it keeps, and its room."""

import unittest

from ringcells.store import HOLDS_CELL, HOLDS_NUMBER, NOTHING, Store, units
from tests.helper import (INT_HIGH, WIDE_HIGH, WIDE_LOW, add_row, alike, cell, clear, copy, count, fields, filled,
                          grown, held, kind, make, number, root, rooted, row_store, said, state, told, unset)


def behind(calls, *asked):
    """What the calls that stand behind the first ones answer."""
    return said(*calls, *asked)[len(calls):]


class NewCells(unittest.TestCase):
    def test_one_cell(self):
        found = said(make(3), number(1, 0, 5), number(1, 2, 0), root(0, 1), copy(1), fields(2), told(2, 0), kind(2, 0),
                     kind(2, 1), kind(2, 2), told(2, 2))
        self.assertEqual(found[4:], [2, 3, 5, 1, 0, 1, 0])

    def test_a_cell_with_no_fields(self):
        self.assertEqual(said(make(0), root(0, 1), copy(1), fields(2), fields(1)), [1, 0, 2, 0, 0])

    def test_every_count_of_fields(self):
        for size in range(9):
            self.assertEqual(said(make(size), copy(1), fields(2)), [1, 2, size])

    def test_numbers_stay(self):
        numbers = (WIDE_LOW, -1, 0, 1, 2, WIDE_HIGH)
        calls = [make(6)] + [number(1, i, z) for i, z in enumerate(numbers)] + [copy(1)]
        self.assertEqual(behind(calls, *[told(2, i) for i in range(6)], *[kind(2, i) for i in range(6)]),
                         list(numbers) + [1] * 6)

    def test_the_handles_are_in_the_order_of_the_old_ones(self):
        # 3 is met first, then 4, then by 4 2, then 1.
        calls = [make(1), root(1, 1), make(1), root(2, 2), make(3), root(3, 3), make(1), root(4, 4),
                 cell(3, 0, 4), cell(3, 2, 1), cell(4, 0, 2), number(1, 0, 11), number(2, 0, 12)]
        self.assertEqual(behind(calls, copy(3), held(7, 0), held(7, 1), held(7, 2), held(8, 0), told(5, 0),
                                told(6, 0), make(0)),
                         [7, 8, 0, 5, 6, 11, 12, 9])

    def test_the_answer_is_the_copy_of_h(self):
        ring = [make(1), root(0, 1), make(1), cell(1, 0, 2), make(1), cell(2, 0, 3), cell(3, 0, 1)]
        for h in (1, 2, 3):
            self.assertEqual(behind(ring, copy(h), held(h + 3, 0), make(0)), [h + 3, h % 3 + 4, 7])

    def test_gaps_between_the_old_handles(self):
        calls = [make(0), make(2), root(0, 2), make(0), make(0), cell(2, 1, 4), make(0)]
        self.assertEqual(behind(calls, copy(2), held(6, 1), held(6, 0), fields(7), make(0)), [6, 7, 0, 0, 8])

    def test_a_ring(self):
        ring = [make(2), root(0, 1), make(2), cell(1, 0, 2), cell(2, 1, 1), number(1, 1, 8)]
        found = behind(ring, copy(2), held(4, 1), held(3, 0), told(3, 1), kind(4, 0), alike(1, 3), alike(2, 4))
        self.assertEqual(found, [4, 3, 4, 8, 0, 1, 1])

    def test_a_cell_that_holds_itself(self):
        self.assertEqual(said(make(2), root(0, 1), cell(1, 0, 1), cell(1, 1, 1), copy(1), held(2, 0), held(2, 1),
                              held(1, 0))[4:], [2, 2, 2, 1])

    def test_a_shared_cell_is_copied_once(self):
        calls = [make(3), root(0, 1), make(1), cell(1, 0, 2), cell(1, 2, 2)]
        self.assertEqual(behind(calls, copy(1), held(3, 0), held(3, 2), make(0)), [3, 4, 4, 5])

    def test_only_what_h_leads_to(self):
        row = [make(1), root(0, 1), make(1), cell(1, 0, 2), make(1), cell(2, 0, 3), make(0)]
        self.assertEqual(behind(row, copy(2), held(5, 0), held(6, 0), make(0)), [5, 6, 0, 7])
        self.assertEqual(behind(row, copy(3), held(5, 0), make(0)), [5, 0, 6])

    def test_a_number_that_is_also_a_handle_stays(self):
        calls = [make(2), root(0, 1), make(0), root(1, 2), number(1, 0, 1), number(1, 1, 2)]
        self.assertEqual(behind(calls, copy(1), told(3, 0), told(3, 1), held(3, 0), make(0)), [3, 1, 2, 0, 4])

    def test_a_copy_of_a_copy(self):
        calls = [make(2), cell(1, 0, 1), number(1, 1, -4), copy(1), copy(2), copy(3)]
        self.assertEqual(said(*calls, held(4, 0), told(4, 1), fields(3), fields(1))[3:], [2, 3, 4, 4, -4, -1, -1])


class Apart(unittest.TestCase):
    def test_the_old_ones_are_as_they_were(self):
        store = row_store(3, 2, True)
        store.number(2, 1, 9)
        before = state(store)[0]
        self.assertEqual(store.copy(2), 5)
        after = state(store)[0]
        self.assertEqual({handle: after[handle] for handle in before}, before)
        self.assertEqual(sorted(after), [1, 2, 3, 4, 5, 6])
        self.assertEqual([after[4], after[5], after[6]],
                         [[(HOLDS_CELL, 5), NOTHING], [(HOLDS_CELL, 6), (HOLDS_NUMBER, 9)], [(HOLDS_CELL, 4), NOTHING]])

    def test_the_roots_are_as_they_were(self):
        calls = [make(1), root(0, 1), root(7, 1), make(0), root(255, 2), copy(1)]
        self.assertEqual(behind(calls, rooted(0), rooted(7), rooted(255), rooted(1), count()), [1, 1, 2, 0, 2])

    def test_a_change_to_one_leaves_the_other(self):
        calls = [make(2), root(0, 1), number(1, 0, 5), cell(1, 1, 1), copy(1)]
        self.assertEqual(behind(calls, number(2, 0, 6), unset(2, 1), told(1, 0), held(1, 1)), [0, 0, 5, 1])
        self.assertEqual(behind(calls, number(1, 0, 6), unset(1, 1), told(2, 0), held(2, 1)), [0, 0, 5, 2])

    def test_no_new_cell_holds_an_old_one(self):
        ring = [make(1), root(0, 1), make(1), cell(1, 0, 2), cell(2, 0, 1)]
        self.assertEqual(behind(ring, copy(1), root(1, 3), root(0, 0), fields(1), fields(2), count(), held(4, 0)),
                         [3, 0, 0, -1, -1, 2, 3])


class MadeLast(unittest.TestCase):
    def test_led_to_till_the_next_make(self):
        calls = [make(1), root(0, 1), cell(1, 0, 1), copy(1)]
        self.assertEqual(behind(calls, fields(2), make(9), fields(2), make(0), fields(2)), [1, -2, 1, 3, -1])

    def test_led_to_till_the_next_copy(self):
        calls = [make(1), root(0, 1), copy(1)]
        self.assertEqual(behind(calls, fields(2), copy(9), copy(0), fields(2), copy(1), fields(2), fields(3)),
                         [1, -1, -1, 1, 3, -1, 1])

    def test_what_it_leads_to_is_led_to(self):
        ring = [make(1), root(0, 1), make(1), cell(1, 0, 2), cell(2, 0, 1), copy(1)]
        self.assertEqual(behind(ring, fields(4), make(0), fields(4), fields(3)), [1, 5, -1, -1])

    def test_the_cell_made_before_is_not_led_to_any_more(self):
        self.assertEqual(said(make(1), root(0, 1), make(1), copy(1), fields(2), fields(1)), [1, 0, 2, 3, -1, 1])

    def test_what_only_the_cell_made_last_led_to_is_not_kept(self):
        calls = [make(1), root(0, 1), make(0), root(1, 2), make(1), cell(3, 0, 2), root(1, 0), fields(2)]
        self.assertEqual(behind(calls, copy(1), fields(2), fields(3), count()), [4, -1, -1, 1])

    def test_h_itself_is_not_led_to_any_more_where_no_root_leads_to_it(self):
        self.assertEqual(said(make(1), copy(1), fields(1), root(0, 1), fields(2), copy(2), fields(2)),
                         [1, 2, -1, -1, 1, 3, -1])

    def test_h_that_only_the_cell_made_last_led_to(self):
        calls = [make(2), root(0, 1), number(1, 1, 6), make(1), cell(2, 0, 1), root(0, 0)]
        self.assertEqual(behind(calls, copy(1), told(3, 1), fields(1), fields(2)), [3, 6, -1, -1])

    def test_a_rooted_copy_stays(self):
        calls = [make(1), cell(1, 0, 1), copy(1), root(3, 2), make(0)]
        self.assertEqual(behind(calls, fields(2), held(2, 0), count()), [1, 2, 1])

    def test_what_copies_in_fields_lead_to_stays(self):
        calls = [make(2), root(0, 1), make(0), cell(1, 0, 2), copy(1), cell(1, 1, 3), make(0)]
        self.assertEqual(behind(calls, held(1, 1), held(3, 0), count(), unset(1, 1), fields(4)), [3, 4, 4, 0, -1])


class Refused(unittest.TestCase):
    def test_no_such_cell(self):
        for h in (0, 1, 4, INT_HIGH):
            calls = [make(1), make(1), root(0, 2), make(1)]
            self.assertEqual(behind(calls, copy(h), fields(3), make(0)), [-1, 1, 4])

    def test_all_is_as_it_was(self):
        store = row_store(4, 2, True)
        store.make(3)
        before = state(store)
        for h in (0, 6, INT_HIGH):
            self.assertEqual(store.copy(h), -1)
        self.assertEqual(state(store), before)

    def test_before_there_is_no_room(self):
        calls, newest = filled(65536)
        self.assertEqual(behind(calls, copy(newest + 1), copy(0), copy(1)), [-1, -1, -3])


class Clear(unittest.TestCase):
    def test_the_next_handle_is_1_again(self):
        calls = [make(1), root(0, 1), cell(1, 0, 1), copy(1), copy(1), clear()]
        self.assertEqual(behind(calls, copy(1), fields(3), count(), make(2), copy(1)), [-1, -1, 0, 1, 2])

    def test_behind_a_full_store(self):
        calls, newest = filled(65536)
        calls = calls + [copy(1), clear()]
        self.assertEqual(behind(calls, count(), make(8), fields(newest), copy(1), rooted(0)), [0, 1, -1, 2, 0])


class Room(unittest.TestCase):
    def test_the_calls_that_fill_a_store(self):
        for size in (1, 5, 9, 13, 77, 32766, 32767, 32768, 32769, 65536):
            calls, top = grown(size)
            self.assertEqual(behind(calls, rooted(0), rooted(1), make(0), count()),
                             [top, 0, top + 1 if size < 65536 else -3, top])
        for size in (60000, 65535, 65536):
            calls, newest = filled(size)
            self.assertEqual(behind(calls, make(0)), [newest + 1 if size < 65536 else -3])

    def test_exactly_all_of_it(self):
        calls, top = grown(32768)
        self.assertEqual(behind(calls, copy(top), alike(top, 2 * top), root(1, 2 * top), count(), make(0)),
                         [2 * top, 1, 0, 2 * top, -3])

    def test_one_unit_more(self):
        calls, top = grown(32769)
        self.assertEqual(behind(calls, copy(top), make(0)), [-3, top + 1])

    def test_one_unit_more_that_h_does_not_lead_to(self):
        calls, top = grown(32768)
        calls = calls + [make(0), root(2, top + 1)]
        self.assertEqual(behind(calls, copy(top), root(2, 0), copy(top)), [-3, 0, 2 * top + 1])

    def test_a_small_part_of_a_full_store(self):
        # 1 is one of the cells without fields.
        calls, newest = filled(65535)
        self.assertEqual(behind(calls, fields(1), copy(1), root(3, newest + 1), copy(1), fields(newest + 1), make(0)),
                         [0, newest + 1, 0, -3, 0, -3])

    def test_fields_count_for_room(self):
        for size in range(9):
            for free, fits in ((1 + size, True), (size, False)):
                store = Store()
                store.make(size)
                store.root(0, 1)
                add_row(store, 2, (65536 - free - 1 - size) // 2, 1)
                if (65536 - free - 1 - size) % 2 == 1:
                    store.cells[2].append(NOTHING)
                self.assertEqual(units(store.cells), 65536 - free)
                self.assertEqual(store.copy(1), store.newest if fits else -3)
                self.assertEqual(store.make(0) > 0, free > 0)

    def test_the_old_h_counts_where_no_root_leads_to_it(self):
        calls, newest = filled(65534)
        self.assertEqual(behind(calls, make(0), copy(newest + 1), fields(newest + 1), fields(newest + 2)),
                         [newest + 1, newest + 2, -1, 0])
        calls, newest = filled(65535)
        self.assertEqual(behind(calls, make(0), copy(newest + 1)), [newest + 1, -3])

    def test_the_cell_made_last_does_not_count_where_it_is_not_h(self):
        calls, newest = filled(65527)
        self.assertEqual(behind(calls, make(8), copy(1), fields(newest + 1), fields(newest + 2)),
                         [newest + 1, newest + 2, -1, 0])

    def test_what_h_and_a_root_lead_to_is_kept_once(self):
        calls, top = grown(32766)
        # 32766 and 2 in a cell made last that holds them: 32768, and as much once more.
        self.assertEqual(behind(calls, make(1), cell(top + 1, 0, top), copy(top + 1), held(2 * top + 2, 0)),
                         [top + 1, 0, 2 * top + 2, 2 * top + 1])

    def test_what_only_a_copy_led_to_is_room_then(self):
        calls, top = grown(32768)
        again = [copy(top)] * 20
        self.assertEqual(behind(calls, *again, make(8), copy(top)),
                         [top * (2 + times) for times in range(20)] + [21 * top + 1, 22 * top + 1])

    def test_room_again_behind_a_root_let_go(self):
        calls, newest = filled(65536)
        self.assertEqual(behind(calls, copy(1), root(1, 0), copy(1), make(8)), [-3, 0, newest + 1, newest + 2])


class NoRoom(unittest.TestCase):
    def test_no_handle_is_used_up(self):
        calls, newest = filled(65535)
        self.assertEqual(behind(calls, copy(newest), make(8), copy(2), copy(3), make(0)),
                         [newest + 1, -3, newest + 2, -3, newest + 3])

    def test_h_that_was_made_last_still_was(self):
        calls, newest = filled(65535)
        self.assertEqual(behind(calls, make(0), copy(newest + 1), fields(newest + 1), copy(newest + 1),
                                root(3, newest + 1), rooted(3), make(0)),
                         [newest + 1, -3, 0, -3, 0, newest + 1, -3])

    def test_h_that_was_made_last_is_still_ended_by_the_next_make(self):
        calls, newest = filled(65535)
        self.assertEqual(behind(calls, make(0), copy(newest + 1), make(0), fields(newest + 1), fields(newest + 2)),
                         [newest + 1, -3, newest + 2, -1, 0])

    def test_what_h_that_was_made_last_leads_to_is_still_led_to(self):
        calls, newest = filled(65530)
        holding = [make(1), root(3, newest + 1), make(3), cell(newest + 2, 1, newest + 1), root(3, 0)]
        self.assertEqual(behind(calls + holding, copy(newest + 2), held(newest + 2, 1), fields(newest + 1),
                                copy(newest + 1), fields(newest + 1), fields(newest + 2)),
                         [-3, newest + 1, 1, newest + 3, -1, -1])

    def test_h_that_was_copied_last_still_was(self):
        calls, newest = filled(65534)
        found = behind(calls, make(0), copy(newest + 1), root(3, newest + 2), copy(1), copy(newest + 3),
                       fields(newest + 3), root(3, 0), fields(newest + 3))
        self.assertEqual(found, [newest + 1, newest + 2, 0, newest + 3, -3, 0, 0, 0])

    def test_else_none_was_made_last(self):
        calls, top = grown(32769)
        self.assertEqual(behind(calls, make(1), copy(top), fields(top + 1), root(3, top + 1), rooted(0), make(0)),
                         [top + 1, -3, -1, -1, top, top + 2])

    def test_else_none_was_copied_last(self):
        calls, top = grown(32769)
        self.assertEqual(behind(calls, copy(1), fields(top + 1), copy(top), fields(top + 1)), [top + 1, 0, -3, -1])

    def test_made_last_but_rooted_stays(self):
        calls, top = grown(32769)
        self.assertEqual(behind(calls, make(1), root(3, top + 1), copy(top), fields(top + 1), root(3, 0),
                                fields(top + 1)), [top + 1, 0, -3, 1, 0, -1])

    def test_h_that_was_made_last_and_that_a_root_has_still_was(self):
        calls, newest = filled(65535)
        self.assertEqual(behind(calls, make(0), root(3, newest + 1), copy(newest + 1), root(3, 0), fields(newest + 1),
                                make(0), fields(newest + 1)), [newest + 1, 0, -3, 0, 0, newest + 2, -1])

    def test_h_that_only_the_cell_made_last_led_to_goes_with_it(self):
        calls, newest = filled(65520)
        holding = [make(8), root(3, newest + 1), make(1), cell(newest + 2, 0, newest + 1), root(3, 0)]
        self.assertEqual(behind(calls + holding, fields(newest + 1), copy(newest + 1), fields(newest + 1),
                                fields(newest + 2), count(), make(8)), [8, -3, -1, -1, newest, newest + 3])

    def test_what_roots_lead_to_is_as_it_was(self):
        for h in (1, 20000):
            store = row_store(32768, 1, True)
            before = state(store)
            self.assertEqual(store.copy(h), -3)
            self.assertEqual(state(store), before)

    def test_a_make_that_finds_no_room_ends_a_copy(self):
        calls, newest = filled(65535)
        self.assertEqual(behind(calls, copy(1), fields(newest + 1), make(1), fields(newest + 1), make(0)),
                         [newest + 1, 0, -3, -1, newest + 2])
