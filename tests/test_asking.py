"""Points 5 and 6: kind, told, held, fields and count."""

import unittest

from tests.helper import (INT_HIGH, INT_LOW, WIDE_HIGH, WIDE_LOW, add_row, alike, cell, clear, copy, count, fields,
                          held, kind, make, number, root, row_store, said, state, told, unset)

# Cell 1, which root 0 has, holds nothing, the number 0, the number 2, cell 2 and itself; 3 was made last.
MIXED = [make(5), root(0, 1), make(0), number(1, 1, 0), number(1, 2, 2), cell(1, 3, 2), cell(1, 4, 1), make(1)]
OUTSIDE = (INT_LOW, -5, -1, 5, 6, INT_HIGH)
NOT_LED_TO = (0, 4, INT_HIGH)


def asked(*calls):
    return said(*MIXED, *calls)[len(MIXED):]


class Kind(unittest.TestCase):
    def test_nothing_a_number_a_cell(self):
        self.assertEqual(asked(*[kind(1, i) for i in range(5)]), [0, 1, 1, 2, 2])

    def test_the_fields_of_a_new_cell_hold_nothing(self):
        self.assertEqual(said(make(8), *[kind(1, i) for i in range(8)]), [1] + [0] * 8)

    def test_what_is_put_in_last_counts(self):
        found = said(make(1), number(1, 0, 7), kind(1, 0), cell(1, 0, 1), kind(1, 0), number(1, 0, 0), kind(1, 0),
                     unset(1, 0), kind(1, 0), cell(1, 0, 1), cell(1, 0, 0), kind(1, 0))
        self.assertEqual(found[2::2], [1, 2, 1, 0, 0])

    def test_no_such_field(self):
        self.assertEqual(asked(*[kind(1, i) for i in OUTSIDE]), [-2] * 6)

    def test_a_cell_with_no_fields(self):
        self.assertEqual(asked(kind(2, -1), kind(2, 0), kind(2, 1)), [-2] * 3)

    def test_the_last_field_of_eight(self):
        found = said(make(8), number(1, 7, 3), kind(1, 7), kind(1, 8), kind(1, -1), kind(1, 6))
        self.assertEqual(found[2:], [1, -2, -2, 0])

    def test_no_such_cell_comes_first(self):
        for h in NOT_LED_TO:
            self.assertEqual(asked(*[kind(h, i) for i in (-1, 0, 5, INT_LOW, INT_HIGH)]), [-1] * 5)

    def test_a_cell_that_is_not_led_to_any_more(self):
        self.assertEqual(asked(kind(2, 0), cell(1, 3, 0), kind(2, 0), kind(3, 0), make(1), kind(3, 0), kind(3, 9)),
                         [-2, 0, -1, 0, 4, -1, -1])


class Told(unittest.TestCase):
    def test_numbers_at_both_ends(self):
        for z in (WIDE_LOW, WIDE_LOW + 1, INT_LOW - 1, -3, -2, -1, 0, 1, INT_HIGH + 1, WIDE_HIGH - 1, WIDE_HIGH):
            self.assertEqual(said(make(2), number(1, 1, z), told(1, 1), told(1, 0)), [1, 0, z, 0])

    def test_each_field_its_own(self):
        calls = [number(1, i, 10 * i - 35) for i in range(8)]
        self.assertEqual(said(make(8), *calls, *[told(1, i) for i in range(8)])[9:],
                         [-35, -25, -15, -5, 5, 15, 25, 35])

    def test_0_where_it_is_no_number(self):
        self.assertEqual(asked(*[told(1, i) for i in range(5)]), [0, 0, 2, 0, 0])

    def test_0_where_there_is_no_such_field(self):
        self.assertEqual(asked(*[told(1, i) for i in OUTSIDE]), [0] * 6)
        self.assertEqual(asked(told(2, 0), told(2, -1), told(2, 1)), [0] * 3)

    def test_a_place_below_0_is_not_counted_from_the_end(self):
        self.assertEqual(said(make(2), number(1, 0, 5), number(1, 1, 6), told(1, -1), told(1, -2)), [1, 0, 0, 0, 0])

    def test_no_such_cell(self):
        for h in NOT_LED_TO:
            self.assertEqual(asked(told(h, 0), told(h, -1), told(h, 8), told(h, INT_HIGH)), [-1] * 4)

    def test_the_number_is_gone_when_another_thing_is_put_in(self):
        for put in (unset(1, 0), cell(1, 0, 1), cell(1, 0, 0)):
            self.assertEqual(said(make(1), number(1, 0, 9), told(1, 0), put, told(1, 0)), [1, 0, 9, 0, 0])
        self.assertEqual(said(make(1), number(1, 0, 9), number(1, 0, -8), told(1, 0)), [1, 0, 0, -8])


class Held(unittest.TestCase):
    def test_a_cell_and_itself(self):
        self.assertEqual(asked(held(1, 3), held(1, 4)), [2, 1])

    def test_0_where_it_is_no_cell(self):
        self.assertEqual(asked(held(1, 0), held(1, 1), held(1, 2)), [0] * 3)

    def test_0_where_there_is_no_such_field(self):
        self.assertEqual(asked(*[held(1, i) for i in OUTSIDE]), [0] * 6)
        self.assertEqual(asked(held(2, 0), held(2, -1), held(2, 1)), [0] * 3)

    def test_a_place_below_0_is_not_counted_from_the_end(self):
        self.assertEqual(said(make(2), cell(1, 0, 1), cell(1, 1, 1), held(1, -1), held(1, -2)), [1, 0, 0, 0, 0])

    def test_no_such_cell(self):
        for h in NOT_LED_TO:
            self.assertEqual(asked(held(h, 0), held(h, -1), held(h, 8), held(h, INT_HIGH)), [-1] * 4)

    def test_what_is_put_in_last_counts(self):
        for put in (unset(1, 3), number(1, 3, 2), cell(1, 3, 0)):
            self.assertEqual(asked(put, held(1, 3)), [0, 0])
        self.assertEqual(asked(cell(1, 3, 3), held(1, 3), held(3, 0)), [0, 3, 0])

    def test_the_cell_that_is_told_can_be_asked(self):
        self.assertEqual(said(make(1), root(0, 1), make(3), cell(1, 0, 2), make(0), held(1, 0), fields(2)),
                         [1, 0, 2, 0, 3, 2, 3])


class Fields(unittest.TestCase):
    def test_from_0_to_8(self):
        for size in range(9):
            self.assertEqual(said(make(size), fields(1)), [1, size])

    def test_as_many_whatever_they_hold(self):
        self.assertEqual(asked(fields(1), fields(2), fields(3), unset(1, 3), fields(1)), [5, 0, 1, 0, 5])

    def test_no_such_cell(self):
        self.assertEqual(asked(*[fields(h) for h in NOT_LED_TO]), [-1] * 3)
        self.assertEqual(asked(fields(2), unset(1, 3), fields(2), make(0), fields(3)), [0, 0, -1, 4, -1])


class Count(unittest.TestCase):
    def test_nothing_is_rooted(self):
        self.assertEqual(said(count(), make(3), count(), cell(1, 0, 1), count()), [0, 1, 0, 0, 0])

    def test_made_last_does_not_count(self):
        self.assertEqual(said(make(1), root(0, 1), make(1), count(), cell(2, 0, 1), count(), root(1, 2), count()),
                         [1, 0, 2, 1, 0, 1, 0, 2])

    def test_what_only_the_cell_made_last_leads_to_does_not_count(self):
        found = said(make(0), root(0, 1), make(1), cell(2, 0, 1), root(0, 0), count(), fields(1), count())
        self.assertEqual(found, [1, 0, 2, 0, 0, 0, 0, 0])

    def test_made_last_counts_where_a_root_leads_to_it(self):
        self.assertEqual(said(make(1), root(0, 1), make(1), cell(1, 0, 2), count(), unset(1, 0), count()),
                         [1, 0, 2, 0, 2, 0, 1])

    def test_copied_last_does_not_count(self):
        self.assertEqual(said(make(1), cell(1, 0, 1), root(0, 1), copy(1), count(), root(1, 2), count()),
                         [1, 0, 0, 2, 1, 0, 2])

    def test_once_under_two_roots(self):
        self.assertEqual(said(make(0), root(0, 1), root(255, 1), count(), root(0, 0), count(), root(255, 0), count()),
                         [1, 0, 0, 1, 0, 1, 0, 0])

    def test_once_in_two_fields(self):
        found = said(make(2), root(0, 1), make(0), cell(1, 0, 2), cell(1, 1, 2), count(), unset(1, 0), count(),
                     unset(1, 1), count())
        self.assertEqual(found[5::2], [2, 2, 1])

    def test_a_ring(self):
        ring = [make(1), root(0, 1), make(1), cell(1, 0, 2), make(1), cell(2, 0, 3), cell(3, 0, 1), make(0)]
        self.assertEqual(said(*ring, count(), root(0, 3), count(), root(0, 0), count())[8:], [3, 0, 3, 0, 0])

    def test_every_root_counts(self):
        calls = []
        for r in range(0, 256, 2):
            calls += [make(0), root(r, r // 2 + 1)]
        found = said(*calls, count(), root(254, 0), count(), root(255, 127), count())
        self.assertEqual(found[-5:], [128, 0, 127, 0, 127])

    def test_a_number_leads_nowhere(self):
        self.assertEqual(said(make(1), root(0, 1), make(0), number(1, 0, 2), count()), [1, 0, 2, 0, 1])

    def test_clear(self):
        self.assertEqual(said(make(0), root(0, 1), count(), clear(), count()), [1, 0, 1, 0, 0])


class AskingChangesNothing(unittest.TestCase):
    def test_all_is_as_it_was(self):
        store = row_store(4, 2, True)
        add_row(store, 5, 3, 2)
        store.number(6, 1, -5)
        store.make(1)
        before = state(store)
        for h in (0, 1, 5, 6, 8, 9, INT_HIGH):
            for i in (INT_LOW, -1, 0, 1, 2, INT_HIGH):
                store.kind(h, i)
                store.told(h, i)
                store.held(h, i)
                store.alike(h, i % 9)
            store.fields(h)
        store.count()
        self.assertEqual(state(store), before)

    def test_made_last_is_still_led_to_behind_them(self):
        found = said(make(1), kind(1, 0), told(1, 0), held(1, 0), fields(1), count(), alike(1, 1), kind(9, 0),
                     kind(1, 1), fields(1))
        self.assertEqual(found, [1, 0, 0, 0, 1, 0, 1, -1, -2, 1])
