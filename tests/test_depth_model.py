"""Long rows and rings, and many lines held against a slow model of the document."""

import unittest

from ringcells.store import HOLDS_CELL, led_to
from tests.helper import cell, make, random_line, root, row_store, said, unset


class Depth(unittest.TestCase):
    def test_a_long_row_by_calls(self):
        calls = [make(1), root(0, 1)]
        for handle in range(2, 130):
            calls += [make(1), cell(handle, 0, handle - 1), root(0, handle)]
        found = said(*calls, make(0), unset(1, 0), cell(70, 0, 0), unset(70, 0), unset(69, 0), unset(1, 0))
        self.assertNotIn(-1, found[:-2])
        self.assertEqual(found[-6:], [130, 0, 0, 0, -1, -1])

    def test_a_long_ring_by_calls(self):
        calls = [make(1), root(0, 1), root(1, 1)]
        for handle in range(2, 130):
            calls += [make(1), cell(handle, 0, handle - 1), root(0, handle)]
        found = said(*calls, cell(1, 0, 129), root(1, 0), make(1), root(0, 64), cell(1, 0, 129), root(0, 0),
                     unset(64, 0), unset(1, 0), unset(129, 0))
        self.assertNotIn(-1, found[:-3])
        self.assertEqual(found[-3:], [-1, -1, -1])

    def test_a_row_as_long_as_the_room(self):
        store = row_store(32768, 1)
        self.assertEqual(store.make(0), -3)
        self.assertEqual(store.unset(32768, 0), 0)
        self.assertEqual(store.cell(16384, 0, 0), 0)
        self.assertEqual([store.unset(16384, 0), store.unset(16385, 0), store.unset(32768, 0)], [0, -1, -1])

    def test_a_ring_as_long_as_the_room(self):
        store = row_store(32768, 1, True)
        self.assertEqual(store.make(0), -3)
        self.assertEqual(store.root(0, 20000), 0)
        self.assertEqual(len(store.cells), 32768)
        self.assertEqual(store.cell(19999, 0, 19999), 0)
        self.assertEqual(len(store.cells), 32768)
        self.assertEqual(store.cell(32768, 0, 32768), 0)
        self.assertEqual(len(store.cells), 32768 - 19999)
        self.assertEqual(store.unset(1, 0), -1)

    def test_65536_cells_in_a_ring(self):
        cells = {handle: [(HOLDS_CELL, handle % 65536 + 1)] for handle in range(1, 65537)}
        self.assertEqual(led_to(cells, [40000]), cells)


class AgainstTheModel(unittest.TestCase):
    def test_many_lines(self):
        for seed in range(100):
            calls, expected = random_line(seed)
            with self.subTest(seed=seed):
                self.assertEqual(said(*calls), expected)
