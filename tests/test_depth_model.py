"""Long rows and rings, and many lines held against a slow model of the document."""

import unittest
from unittest import mock

from ringcells.store import HOLDS_CELL, HOLDS_NUMBER, can_be_paired, led_to
from tests.helper import (add_row, alike, cell, copy, count, held, make, number, random_line, root, row_store, said,
                          unset)

# More cells than the room has for a row; what goes along them asks for no room but copy.
LONG = 65536


class Depth(unittest.TestCase):
    def test_a_long_row_by_calls(self):
        calls = [make(1), root(0, 1)]
        for handle in range(2, 130):
            calls += [make(1), cell(handle, 0, handle - 1), root(0, handle)]
        found = said(*calls, make(0), unset(1, 0), cell(70, 0, 0), unset(70, 0), unset(69, 0), unset(1, 0))
        self.assertNotIn(-1, found[:-2])
        self.assertEqual(found[-6:], [130, 0, 0, 0, -1, -1])

    def test_a_long_ring_by_calls(self):
        calls = [make(1), root(0, 1), root(1, 1)]
        for handle in range(2, 130):
            calls += [make(1), cell(handle, 0, handle - 1), root(0, handle)]
        found = said(*calls, cell(1, 0, 129), root(1, 0), make(1), root(0, 64), cell(1, 0, 129), root(0, 0),
                     unset(64, 0), unset(1, 0), unset(129, 0))
        self.assertNotIn(-1, found[:-3])
        self.assertEqual(found[-3:], [-1, -1, -1])

    def test_a_row_as_long_as_the_room(self):
        store = row_store(32768, 1)
        self.assertEqual(store.make(0), -3)
        self.assertEqual(store.unset(32768, 0), 0)
        self.assertEqual(store.cell(16384, 0, 0), 0)
        self.assertEqual([store.unset(16384, 0), store.unset(16385, 0), store.unset(32768, 0)], [0, -1, -1])

    def test_a_ring_as_long_as_the_room(self):
        store = row_store(32768, 1, True)
        self.assertEqual(store.make(0), -3)
        self.assertEqual(store.root(0, 20000), 0)
        self.assertEqual(len(store.cells), 32768)
        self.assertEqual(store.cell(19999, 0, 19999), 0)
        self.assertEqual(len(store.cells), 32768)
        self.assertEqual(store.cell(32768, 0, 32768), 0)
        self.assertEqual(len(store.cells), 32768 - 19999)
        self.assertEqual(store.unset(1, 0), -1)

    def test_65536_cells_in_a_ring(self):
        cells = {handle: [(HOLDS_CELL, handle % 65536 + 1)] for handle in range(1, 65537)}
        self.assertEqual(led_to(cells, [40000]), cells)


class LongRowsAndRings(unittest.TestCase):
    def test_count(self):
        for ring in (False, True):
            store = row_store(LONG, 1, ring)
            self.assertEqual(store.count(), LONG)
            store.root(0, 5001)
            self.assertEqual(store.count(), LONG if ring else LONG - 5000)
            store.root(0, 0)
            self.assertEqual(store.count(), 0)

    def test_alike(self):
        for ring in (False, True):
            store = row_store(LONG, 2, ring)
            add_row(store, LONG + 1, LONG, 2, ring)
            self.assertEqual(store.alike(1, LONG + 1), 1)
            self.assertEqual(store.alike(1, LONG + 2), 1 if ring else 0)
            self.assertEqual(store.alike(7, 7), 1)
            store.number(2 * LONG, 1, 0)
            self.assertEqual([store.alike(1, LONG + 1), store.alike(LONG + 1, 1)], [0, 0])
            store.number(LONG, 1, 0)
            self.assertEqual([store.alike(1, LONG + 1), store.alike(LONG + 1, 1)], [1, 1])

    def test_rings_of_which_one_is_longer(self):
        store = row_store(60000, 1, True)
        add_row(store, 60001, 60001, 1, True)
        self.assertEqual([store.alike(1, 60001), store.alike(60001, 1)], [0, 0])

    def test_a_ring_that_closes_one_later(self):
        store = row_store(60000, 1, True)
        add_row(store, 60001, 60000, 1, True)
        store.cells[120000][0] = (HOLDS_CELL, 60002)
        self.assertEqual([store.alike(1, 60001), store.alike(60001, 1)], [0, 0])

    def test_copy(self):
        for ring in (False, True):
            store = row_store(LONG, 2, ring)
            store.number(LONG, 1, 5)
            with mock.patch("ringcells.store.ROOM", 6 * LONG):
                self.assertEqual(store.copy(1), LONG + 1)
            self.assertEqual(len(store.cells), 2 * LONG)
            self.assertEqual(store.cells[2 * LONG - 1][0], (HOLDS_CELL, 2 * LONG))
            self.assertEqual(store.cells[2 * LONG][1], (HOLDS_NUMBER, 5))
            self.assertEqual(store.held(2 * LONG, 0), LONG + 1 if ring else 0)
            self.assertEqual([store.alike(1, LONG + 1), store.count()], [1, LONG])

    def test_copy_of_as_long_a_one_as_there_is_room_for(self):
        for ring in (False, True):
            store = row_store(16384, 1, ring)
            self.assertEqual(store.copy(1), 16385)
            self.assertEqual([store.alike(1, 16385), store.alike(16385, 1), store.count()], [1, 1, 16384])
            store = row_store(16385, 1, ring)
            self.assertEqual(store.copy(1), -3)
            self.assertEqual(store.count(), 16385)

    def test_a_row_held_from_behind(self):
        cells = {handle: [(HOLDS_CELL, handle - 1)] * 8 for handle in range(2, LONG + 1)}
        cells[1] = []
        self.assertTrue(can_be_paired(cells, LONG, LONG))
        self.assertFalse(can_be_paired(cells, LONG, LONG - 1))
        self.assertEqual(len(led_to(cells, [LONG])), LONG)

    def test_a_long_ring_by_copies(self):
        # Each round opens the ring and its copy, and joins the two.
        calls, length = [make(1), root(0, 1), cell(1, 0, 1)], 1
        while length < 16384:
            calls += [copy(1), cell(2 * length, 0, 1), cell(length, 0, length + 1)]
            length = 2 * length
        found = said(*calls, count(), copy(1), alike(1, 16385), count(), number(16384, 0, 1), count(), held(1, 0))
        self.assertNotIn(-1, found)
        self.assertEqual(found[-7:], [16384, 16385, 1, 16384, 0, 16384, 2])


class AgainstTheModel(unittest.TestCase):
    def test_many_lines(self):
        for seed in range(150):
            calls, expected = random_line(seed)
            with self.subTest(seed=seed):
                self.assertEqual(said(*calls), expected)

    def test_many_lines_with_little_room(self):
        for room in (12, 25, 40, 100):
            with mock.patch("ringcells.store.ROOM", room):
                for seed in range(100):
                    calls, expected = random_line(seed, room)
                    with self.subTest(seed=seed, room=room):
                        self.assertEqual(said(*calls), expected)
