"""Point 7: alike."""

import itertools
import unittest

from ringcells.store import HOLDS_CELL, HOLDS_NUMBER, NOTHING, can_be_paired, led_to
from tests.helper import INT_HIGH, WIDE_HIGH, WIDE_LOW, alike, cell, copy, make, number, root, said, unset


def rooted_cells(*sizes):
    """Calls by which cells 1, 2 and so on have so many fields, each in a root of its own."""
    calls = []
    for place, size in enumerate(sizes):
        calls += [make(size), root(place, place + 1)]
    return calls


def alike_behind(calls, h, k):
    """What alike answers for the two, which is the same either way round."""
    there, back = said(*calls, alike(h, k), alike(k, h))[len(calls):]
    if there != back:
        raise AssertionError(f"alike({h}, {k}) is {there}, the other way round {back}")
    return there


def linked(*links):
    return [cell(h, i, k) for h, i, k in links]


class Plain(unittest.TestCase):
    def test_a_cell_with_itself(self):
        self.assertEqual(said(make(0), alike(1, 1)), [1, 1])
        self.assertEqual(alike_behind([make(2), number(1, 0, 5), cell(1, 1, 1)], 1, 1), 1)

    def test_as_many_fields_or_not(self):
        for one, other in itertools.product(range(9), repeat=2):
            self.assertEqual(alike_behind(rooted_cells(one, other), 1, 2), int(one == other))

    def test_numbers(self):
        numbers = (WIDE_LOW, -1, 0, 1, WIDE_HIGH)
        for one, other in itertools.product(numbers, repeat=2):
            calls = rooted_cells(2, 2) + [number(1, 1, one), number(2, 1, other)]
            self.assertEqual(alike_behind(calls, 1, 2), int(one == other))

    def test_the_same_numbers_in_other_fields(self):
        calls = rooted_cells(2, 2) + [number(1, 0, 5), number(1, 1, 6), number(2, 0, 6), number(2, 1, 5)]
        self.assertEqual(alike_behind(calls, 1, 2), 0)

    def test_the_last_field_counts(self):
        calls = rooted_cells(8, 8) + [number(1, 7, 5)]
        self.assertEqual(alike_behind(calls, 1, 2), 0)
        self.assertEqual(alike_behind(calls + [number(2, 7, 5)], 1, 2), 1)

    def test_number_against_nothing(self):
        for z in (0, 1, -1):
            self.assertEqual(alike_behind(rooted_cells(1, 1) + [number(1, 0, z)], 1, 2), 0)

    def test_cell_against_nothing(self):
        for k in (1, 2):
            self.assertEqual(alike_behind(rooted_cells(1, 1) + [cell(1, 0, k)], 1, 2), 0)

    def test_number_against_a_cell_with_that_handle(self):
        for k in (1, 2, 3):
            calls = rooted_cells(1, 1, 0) + [number(1, 0, k), cell(2, 0, k)]
            self.assertEqual(alike_behind(calls, 1, 2), 0)

    def test_what_was_in_a_field_before_does_not_count(self):
        calls = rooted_cells(1, 1) + [number(1, 0, 5), unset(1, 0), cell(2, 0, 1), cell(2, 0, 0)]
        self.assertEqual(alike_behind(calls, 1, 2), 1)

    def test_a_difference_further_down(self):
        calls = rooted_cells(1, 1, 1, 1, 2, 2) + linked((1, 0, 3), (3, 0, 5), (2, 0, 4), (4, 0, 6))
        self.assertEqual(alike_behind(calls, 1, 2), 1)
        self.assertEqual(alike_behind(calls + [number(6, 1, 0)], 1, 2), 0)
        self.assertEqual(alike_behind(calls, 1, 3), 0)


class Handles(unittest.TestCase):
    def test_a_handle_that_is_not_led_to(self):
        for gone in (0, 1, 4, INT_HIGH):
            found = said(make(1), make(1), root(0, 2), make(1), alike(gone, 2), alike(2, gone), alike(gone, 3),
                         alike(3, gone), alike(gone, gone))
            self.assertEqual(found[4:], [-1] * 5)

    def test_led_to_till_it_is_let_go(self):
        found = said(make(1), root(0, 1), make(1), alike(1, 2), alike(2, 1), make(1), alike(1, 2), alike(2, 1),
                     alike(1, 3))
        self.assertEqual(found[3:], [1, 1, 3, -1, -1, 1])

    def test_roots_do_not_count(self):
        self.assertEqual(alike_behind(rooted_cells(1, 1) + [root(9, 1), root(10, 1)], 1, 2), 1)


class Rings(unittest.TestCase):
    def test_a_ring_of_one_against_a_ring_of_two(self):
        calls = rooted_cells(1, 1, 1) + linked((1, 0, 1), (2, 0, 3), (3, 0, 2))
        for k in (2, 3):
            self.assertEqual(alike_behind(calls, 1, k), 0)

    def test_a_ring_of_two_against_a_ring_of_four(self):
        calls = rooted_cells(*[1] * 6) + linked((1, 0, 2), (2, 0, 1), (3, 0, 4), (4, 0, 5), (5, 0, 6), (6, 0, 3))
        self.assertEqual(alike_behind(calls, 1, 3), 0)

    def test_a_ring_of_two_against_another(self):
        calls = rooted_cells(*[1] * 4) + linked((1, 0, 2), (2, 0, 1), (3, 0, 4), (4, 0, 3))
        for h, k in itertools.product(range(1, 5), repeat=2):
            self.assertEqual(alike_behind(calls, h, k), 1)

    def test_a_ring_of_two_turned_round(self):
        calls = rooted_cells(*[2] * 4) + linked((1, 0, 2), (2, 0, 1), (3, 0, 4), (4, 0, 3))
        calls += [number(1, 1, 7), number(2, 1, 8), number(3, 1, 7), number(4, 1, 8)]
        for h, k, expected in ((1, 3, 1), (2, 4, 1), (1, 4, 0), (2, 3, 0), (1, 2, 0), (3, 4, 0)):
            self.assertEqual(alike_behind(calls, h, k), expected)

    def test_a_ring_against_a_row(self):
        calls = rooted_cells(1, 1, 1, 1) + linked((1, 0, 2), (2, 0, 1), (3, 0, 4))
        self.assertEqual(alike_behind(calls, 1, 3), 0)

    def test_a_ring_that_closes_elsewhere(self):
        calls = rooted_cells(*[1] * 6) + linked((1, 0, 2), (2, 0, 3), (3, 0, 1), (4, 0, 5), (5, 0, 6), (6, 0, 5))
        self.assertEqual(alike_behind(calls, 1, 4), 0)
        self.assertEqual(alike_behind(calls + [cell(6, 0, 4)], 1, 4), 1)

    def test_two_that_hold_each_other(self):
        self.assertEqual(alike_behind(rooted_cells(1, 1) + linked((1, 0, 2), (2, 0, 1)), 1, 2), 1)

    def test_two_that_hold_themselves_and_each_other(self):
        calls = rooted_cells(2, 2)
        self.assertEqual(alike_behind(calls + linked((1, 0, 1), (1, 1, 2), (2, 0, 2), (2, 1, 1)), 1, 2), 1)
        self.assertEqual(alike_behind(calls + linked((1, 0, 1), (1, 1, 2), (2, 0, 1), (2, 1, 2)), 1, 2), 0)


class OneToOne(unittest.TestCase):
    def test_one_shared_cell_against_two(self):
        calls = rooted_cells(2, 2, 1, 1, 1) + linked((1, 0, 3), (1, 1, 3), (2, 0, 4), (2, 1, 5))
        self.assertEqual(alike_behind(calls, 1, 2), 0)
        self.assertEqual(alike_behind(calls + [cell(2, 1, 4)], 1, 2), 1)
        self.assertEqual(alike_behind(calls + [number(n, 0, 6) for n in (3, 4, 5)], 1, 2), 0)

    def test_shared_further_down(self):
        ways = linked((1, 0, 3), (1, 1, 4), (3, 0, 7), (4, 0, 7), (2, 0, 5), (2, 1, 6), (5, 0, 7), (6, 0, 8))
        calls = rooted_cells(2, 2, 1, 1, 1, 1, 0, 0) + ways
        self.assertEqual(alike_behind(calls, 1, 2), 0)
        self.assertEqual(alike_behind(calls + [cell(6, 0, 7)], 1, 2), 1)
        self.assertEqual(alike_behind(calls + [cell(4, 0, 8), cell(5, 0, 8), cell(6, 0, 7)], 1, 2), 1)

    def test_shared_in_other_fields(self):
        calls = rooted_cells(3, 3, 0, 0) + linked((1, 0, 3), (1, 1, 3), (1, 2, 4), (2, 0, 3), (2, 1, 4), (2, 2, 4))
        self.assertEqual(alike_behind(calls, 1, 2), 0)

    def test_itself_against_the_other(self):
        calls = rooted_cells(1, 1)
        self.assertEqual(alike_behind(calls + linked((1, 0, 1), (2, 0, 1)), 1, 2), 0)
        self.assertEqual(alike_behind(calls + linked((1, 0, 1), (2, 0, 2)), 1, 2), 1)


class Overlap(unittest.TestCase):
    def test_a_part_of_both_may_be_paired_with_itself(self):
        calls = rooted_cells(1, 1, 1) + linked((1, 0, 3), (2, 0, 3))
        self.assertEqual(alike_behind(calls, 1, 2), 1)
        self.assertEqual(alike_behind(calls + [cell(3, 0, 3)], 1, 2), 1)

    def test_a_row_and_its_own_rest(self):
        calls = rooted_cells(1, 1, 1) + linked((1, 0, 2), (2, 0, 3))
        self.assertEqual(alike_behind(calls, 1, 2), 0)

    def test_a_row_into_a_ring_of_one(self):
        calls = rooted_cells(1, 1) + linked((1, 0, 2), (2, 0, 2))
        self.assertEqual(alike_behind(calls, 1, 2), 0)

    def test_the_same_two_cells_in_turned_fields(self):
        calls = rooted_cells(2, 2, 0, 0) + linked((1, 0, 3), (1, 1, 4), (2, 0, 4), (2, 1, 3))
        self.assertEqual(alike_behind(calls, 1, 2), 1)
        calls = rooted_cells(2, 2, 1, 1) + linked((1, 0, 3), (1, 1, 4), (2, 0, 4), (2, 1, 3)) + [number(3, 0, 0)]
        self.assertEqual(alike_behind(calls, 1, 2), 0)

    def test_a_part_that_leads_back(self):
        calls = rooted_cells(1, 1, 2) + linked((1, 0, 3), (2, 0, 3), (3, 0, 1), (3, 1, 2))
        self.assertEqual(alike_behind(calls, 1, 2), 0)
        turned = rooted_cells(1, 1, 2, 2) + linked((1, 0, 3), (2, 0, 4), (3, 0, 1), (3, 1, 2), (4, 0, 2), (4, 1, 1))
        self.assertEqual(alike_behind(turned, 1, 2), 1)


class Copies(unittest.TestCase):
    def test_a_copy_is_alike_till_one_is_changed(self):
        calls = rooted_cells(3, 2) + linked((1, 0, 2), (2, 0, 1), (1, 1, 1)) + [number(2, 1, 4), copy(1)]
        self.assertEqual(alike_behind(calls, 1, 3), 1)
        self.assertEqual(alike_behind(calls, 2, 4), 1)
        self.assertEqual(alike_behind(calls, 1, 4), 0)
        self.assertEqual(alike_behind(calls + [number(4, 1, 5)], 1, 3), 0)
        self.assertEqual(alike_behind(calls + [cell(3, 1, 1)], 1, 3), 0)

    def test_a_cell_that_holds_its_copy(self):
        calls = [make(1), root(0, 1), copy(1), cell(1, 0, 2)]
        self.assertEqual(alike_behind(calls, 1, 2), 0)
        self.assertEqual(alike_behind(calls + [cell(2, 0, 1)], 1, 2), 1)


def conforms(cells, pairs):
    """Whether each pair has as many fields, with the same or with paired cells in them."""
    for one, other in pairs.items():
        if len(cells[one]) != len(cells[other]):
            return False
        for mine, theirs in zip(cells[one], cells[other]):
            wanted = (HOLDS_CELL, pairs[mine[1]]) if mine[0] == HOLDS_CELL else mine
            if theirs != wanted:
                return False
    return True


def some_pairing(cells, h, k):
    """The document's words: is there any pairing at all?"""
    ones, others = sorted(led_to(cells, [h])), sorted(led_to(cells, [k]))
    if len(ones) != len(others):
        return False
    pairings = [dict(zip(ones, order)) for order in itertools.permutations(others)]
    return any(pairs[h] == k and conforms(cells, pairs) for pairs in pairings)


class EveryPairing(unittest.TestCase):
    def check(self, sizes, values):
        for fill in itertools.product(values, repeat=sum(sizes)):
            left, cells = list(fill), {}
            for handle, size in enumerate(sizes, 1):
                cells[handle] = left[:size]
                left = left[size:]
            for h, k in itertools.product(cells, repeat=2):
                if can_be_paired(cells, h, k) != some_pairing(cells, h, k):
                    self.fail(f"{h} and {k} of {cells}")

    def test_three_cells_of_two_fields(self):
        self.check([2, 2, 2], [NOTHING] + [(HOLDS_CELL, k) for k in (1, 2, 3)])

    def test_four_cells_of_one_field(self):
        self.check([1, 1, 1, 1], [NOTHING, (HOLDS_NUMBER, 2)] + [(HOLDS_CELL, k) for k in (1, 2, 3, 4)])

    def test_cells_with_not_as_many_fields(self):
        self.check([2, 2, 1], [NOTHING, (HOLDS_NUMBER, 0), (HOLDS_NUMBER, 1)] + [(HOLDS_CELL, k) for k in (1, 2, 3)])
