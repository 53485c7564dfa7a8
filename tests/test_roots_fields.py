"""Points 3 and 4, with the refusals that come before all else."""

import unittest

from ringcells.store import HOLDS_CELL, HOLDS_NUMBER, NOTHING, Store
from tests.helper import (INT_HIGH, INT_LOW, WIDE_HIGH, WIDE_LOW, cell, make, number, root, rooted,
                          row_store, said, state, unset)

OUTSIDE_ROOTS = (INT_LOW, -257, -256, -1, 256, 257, INT_HIGH)


class Roots(unittest.TestCase):
    def test_every_root_can_have_a_cell(self):
        for first in (0, 128):
            places = list(range(first, first + 128))
            calls = [root(r, 1 + r % 2) for r in places] + [rooted(r) for r in places]
            found = said(make(1), root(254, 1), make(0), root(255, 2), *calls)
            self.assertEqual(found[4:], [0] * 128 + [1 + r % 2 for r in places])

    def test_a_root_is_none_at_first(self):
        self.assertEqual(said(rooted(0), rooted(128), rooted(255)), [0, 0, 0])

    def test_there_are_256(self):
        found = said(make(0), *[root(r, 1) for r in OUTSIDE_ROOTS])
        self.assertEqual(found, [1] + [-2] * 7)
        self.assertEqual(said(*[root(r, 0) for r in OUTSIDE_ROOTS]), [-2] * 7)
        self.assertEqual(said(*[rooted(r) for r in OUTSIDE_ROOTS]), [-2] * 7)
        self.assertEqual(said(make(0), root(0, 1), root(255, 1), rooted(0), rooted(255)), [1, 0, 0, 1, 1])

    def test_h_0_makes_it_none(self):
        found = said(make(0), root(4, 1), root(5, 1), root(4, 0), rooted(4), rooted(5), root(4, 0))
        self.assertEqual(found, [1, 0, 0, 0, 0, 1, 0])

    def test_another_cell_takes_the_place(self):
        found = said(make(0), root(4, 1), make(0), root(4, 2), rooted(4), root(5, 1))
        self.assertEqual(found, [1, 0, 2, 0, 2, -1])

    def test_the_same_cell_again(self):
        found = said(make(0), root(4, 1), make(0), root(4, 1), rooted(4), root(5, 1))
        self.assertEqual(found, [1, 0, 2, 0, 1, 0])

    def test_a_cell_that_the_former_one_held(self):
        found = said(make(1), root(0, 1), make(0), cell(1, 0, 2), make(0), root(0, 2), rooted(0), unset(1, 0))
        self.assertEqual(found, [1, 0, 2, 0, 3, 0, 2, -1])

    def test_two_roots_with_one_cell(self):
        found = said(make(0), root(0, 1), root(1, 1), make(0), root(0, 0), root(2, 1), root(1, 0), root(2, 0),
                     root(0, 1))
        self.assertEqual(found, [1, 0, 0, 2, 0, 0, 0, 0, -1])

    def test_a_handle_that_was_never_given(self):
        found = said(root(0, 1), make(0), root(0, 2), root(0, INT_HIGH), rooted(0))
        self.assertEqual(found, [-1, 1, -1, -1, 0])

    def test_a_handle_that_is_not_led_to_any_more(self):
        self.assertEqual(said(make(0), make(0), root(0, 1), rooted(0)), [1, 2, -1, 0])

    def test_no_such_cell_comes_before_no_such_root(self):
        found = said(make(0), make(0), root(256, 1), root(-1, 3), root(256, 2), root(INT_LOW, INT_HIGH))
        self.assertEqual(found, [1, 2, -1, -1, -2, -1])

    def test_a_refused_root_changes_nothing(self):
        store = row_store(4, 2)
        store.make(1)
        before = state(store)
        for r in OUTSIDE_ROOTS:
            self.assertEqual(store.root(r, 0), -2)
            self.assertEqual(store.root(r, 2), -2)
            self.assertEqual(store.rooted(r), -2)
        for r in (0, 1, 256):
            self.assertEqual(store.root(r, 6), -1)
        self.assertEqual(state(store), before)


class Fields(unittest.TestCase):
    def test_places_at_and_past_the_edges(self):
        places = (INT_LOW, -4, -3, -1, 0, 2, 3, 8, INT_HIGH)
        answers = [-2, -2, -2, -2, 0, 0, -2, -2, -2]
        for call in ([number(1, i, 7) for i in places], [cell(1, i, 1) for i in places],
                     [cell(1, i, 0) for i in places], [unset(1, i) for i in places]):
            self.assertEqual(said(make(3), *call), [1] + answers)

    def test_a_cell_with_no_fields(self):
        for i in (-1, 0, 1):
            self.assertEqual(said(make(0), number(1, i, 0), cell(1, i, 1), cell(1, i, 0), unset(1, i)),
                             [1, -2, -2, -2, -2])

    def test_numbers_at_both_ends(self):
        numbers = (WIDE_LOW, WIDE_LOW + 1, -1, 0, 1, WIDE_HIGH - 1, WIDE_HIGH)
        self.assertEqual(said(make(1), *[number(1, 0, z) for z in numbers]), [1] + [0] * 7)
        store = Store()
        store.make(3)
        for z in numbers:
            self.assertEqual(store.number(1, 1, z), 0)
            self.assertEqual(store.cells[1], [NOTHING, (HOLDS_NUMBER, z), NOTHING])

    def test_each_is_held_in_its_own_field(self):
        store = row_store(2, 8)
        for i in range(8):
            self.assertEqual(store.number(2, i, 10 * i), 0)
        self.assertEqual(store.cells[2], [(HOLDS_NUMBER, 10 * i) for i in range(8)])
        self.assertEqual(store.cell(2, 7, 1), 0)
        self.assertEqual(store.cell(2, 0, 2), 0)
        self.assertEqual(store.unset(2, 3), 0)
        self.assertEqual(store.cell(2, 4, 0), 0)
        self.assertEqual(store.cells[2], [(HOLDS_CELL, 2), (HOLDS_NUMBER, 10), (HOLDS_NUMBER, 20), NOTHING,
                                          NOTHING, (HOLDS_NUMBER, 50), (HOLDS_NUMBER, 60), (HOLDS_CELL, 1)])
        self.assertEqual(store.cells[1], [(HOLDS_CELL, 2)] + [NOTHING] * 7)

    def test_a_cell_in_the_last_field_is_led_to(self):
        held = [make(8), root(0, 1), make(1), cell(1, 7, 2), make(0)]
        self.assertEqual(said(*held, unset(2, 0)), [1, 0, 2, 0, 3, 0])

    def test_what_is_put_over_a_cell_lets_it_go(self):
        held = [make(2), root(0, 1), make(1), cell(1, 1, 2), make(0)]
        for put in (number(1, 1, 2), cell(1, 1, 0), unset(1, 1), cell(1, 1, 1), cell(1, 1, 3)):
            self.assertEqual(said(*held, unset(1, 0), unset(2, 0), put, unset(2, 0))[5:], [0, 0, 0, -1])

    def test_the_same_cell_put_again_stays(self):
        held = [make(2), root(0, 1), make(1), cell(1, 1, 2), make(0)]
        self.assertEqual(said(*held, cell(1, 1, 2), unset(2, 0))[5:], [0, 0])

    def test_a_cell_that_holds_itself(self):
        found = said(make(2), root(0, 1), cell(1, 0, 1), cell(1, 1, 1), make(0), unset(1, 0), unset(1, 1),
                     cell(1, 0, 1), root(0, 0), unset(1, 0))
        self.assertEqual(found, [1, 0, 0, 0, 2, 0, 0, 0, 0, -1])

    def test_a_cell_of_the_held_one_can_take_its_place(self):
        row = [make(1), root(0, 1), make(1), cell(1, 0, 2), make(1), cell(2, 0, 3), make(0)]
        self.assertEqual(said(*row, cell(1, 0, 3), cell(3, 0, 2), cell(3, 0, 1))[7:], [0, -1, 0])

    def test_no_such_cell(self):
        for h in (0, 1, 3, INT_HIGH):
            found = said(make(1), make(1), number(h, 0, 1), cell(h, 0, 2), cell(h, 0, 0), unset(h, 0))
            self.assertEqual(found, [1, 2, -1, -1, -1, -1])
        for k in (1, 3, INT_HIGH):
            self.assertEqual(said(make(1), make(1), cell(2, 0, k)), [1, 2, -1])

    def test_no_such_cell_comes_before_no_such_field(self):
        for i in (-1, 1, INT_LOW, INT_HIGH):
            found = said(make(1), make(1), number(1, i, 1), unset(1, i), cell(1, i, 2), cell(2, i, 1),
                         cell(1, i, 0), cell(0, i, 0), cell(2, i, 0), cell(2, i, 2))
            self.assertEqual(found, [1, 2, -1, -1, -1, -1, -1, -1, -2, -2])

    def test_a_refused_call_changes_nothing(self):
        store = row_store(4, 2, True)
        store.make(1)
        before = state(store)
        for i in (INT_LOW, -2, -1, 2, INT_HIGH):
            self.assertEqual([store.number(1, i, 3), store.cell(1, i, 3), store.cell(1, i, 0), store.unset(1, i)],
                             [-2] * 4)
        for h in (0, 6, INT_HIGH):
            self.assertEqual([store.number(h, 0, 3), store.cell(h, 0, 3), store.cell(h, 0, 0), store.unset(h, 0)],
                             [-1] * 4)
        self.assertEqual([store.cell(1, 0, 6), store.cell(5, 0, INT_HIGH), store.cell(6, 0, 6)], [-1] * 3)
        self.assertEqual(state(store), before)

    def test_a_refused_call_keeps_what_was_held(self):
        held = [make(1), root(0, 1), make(1), cell(1, 0, 2), make(0)]
        refused = [number(1, 1, 2), number(1, -1, 2), unset(1, 1), unset(1, -1), cell(1, 1, 3), cell(1, 0, 9),
                   cell(1, -1, 0)]
        found = said(*held, *refused, unset(2, 0))
        self.assertEqual(found[5:], [-2, -2, -2, -2, -2, -1, -2, 0])
