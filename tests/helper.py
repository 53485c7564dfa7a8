"""What the tests share: calls written by name, a slow model of the document, and full stores."""

import random

from ringcells.store import HOLDS_CELL, NOTHING, Store, answers

INT_LOW = -2147483648
INT_HIGH = 2147483647
WIDE_LOW = -9223372036854775808
WIDE_HIGH = 9223372036854775807


def clear():
    return [1]


def make(fields):
    return [2, fields]


def root(r, h):
    return [3, r, h]


def rooted(r):
    return [4, r]


def number(h, i, z):
    return [5, h, i, z]


def cell(h, i, k):
    return [6, h, i, k]


def unset(h, i):
    return [7, h, i]


def line(calls):
    """The calls as the one list that is handed in, clear ahead of them."""
    flat = clear()
    for call in calls:
        flat.extend(call)
    if len(calls) + 1 > 400:
        raise ValueError("more calls than a line may have")
    return flat


def said(*calls):
    """What the calls behind a first clear answer, the counts taken off."""
    found = answers(line(calls))
    if found[0::2] != [1] * (len(calls) + 1):
        raise AssertionError(f"not one answer a call: {found}")
    if found[1] != 0:
        raise AssertionError(f"clear answered {found[1]}")
    return found[3::2]


def row_store(count, fields, ring=False):
    """A store with cells 1 to count, each holding the next in field 0, root 0 the first of them."""
    store = Store()
    for handle in range(1, count + 1):
        store.cells[handle] = [NOTHING] * fields
    for handle in range(1, count):
        store.cells[handle][0] = (HOLDS_CELL, handle + 1)
    if ring:
        store.cells[count][0] = (HOLDS_CELL, 1)
    store.roots[0] = 1
    store.newest = count
    return store


def filled_store(units):
    """A store whose root 0 leads to cells of this many units."""
    store = row_store(units // 2, 1)
    if units % 2 == 1:
        store.cells[1].append(NOTHING)
    return store


def state(store):
    """All that a store keeps, as a copy."""
    cells = {handle: list(fields) for handle, fields in store.cells.items()}
    return cells, list(store.roots), store.last, store.newest


class Model:
    """The document's words done slowly: cells stay for ever, what is led to is found anew each time."""

    def __init__(self):
        self.do_clear()

    def do_clear(self):
        self.fields_of, self.root_of, self.made_last, self.given = {}, {}, None, 0
        return 0

    def led(self, with_last=True):
        found = set(self.root_of.values())
        if with_last and self.made_last is not None:
            found.add(self.made_last)
        while True:
            more = {k for h in found for what, k in self.fields_of[h].values() if what == "cell"}
            if more <= found:
                return found
            found |= more

    def do_make(self, fields):
        if fields not in range(9):
            return -2
        taken = sum(1 + len(self.fields_of[h]) for h in self.led(with_last=False))
        self.made_last = None
        if taken + 1 + fields > 65536:
            return -3
        self.given += 1
        self.made_last = self.given
        self.fields_of[self.given] = {i: ("nothing", None) for i in range(fields)}
        return self.given

    def do_root(self, r, h):
        if h and h not in self.led():
            return -1
        if r not in range(256):
            return -2
        self.root_of.pop(r, None)
        if h:
            self.root_of[r] = h
        return 0

    def do_rooted(self, r):
        return self.root_of.get(r, 0) if r in range(256) else -2

    def change(self, h, i, field):
        if h not in self.led():
            return -1
        if i not in self.fields_of[h]:
            return -2
        self.fields_of[h][i] = field
        return 0

    def do_number(self, h, i, z):
        return self.change(h, i, ("number", z))

    def do_cell(self, h, i, k):
        if k and k not in self.led():
            return -1
        return self.change(h, i, ("cell", k) if k else ("nothing", None))

    def do_unset(self, h, i):
        return self.change(h, i, ("nothing", None))

    def do(self, call):
        names = ["clear", "make", "root", "rooted", "number", "cell", "unset"]
        return getattr(self, "do_" + names[call[0] - 1])(*call[1:])


def random_line(seed):
    """399 calls, the same for the same seed, and what the model answers to them."""
    source = random.Random(seed)
    model = Model()

    def handle():
        led = sorted(model.led())
        if led and source.random() < 0.9:
            return source.choice(led)
        return source.choice([0, INT_HIGH, source.randint(1, model.given + 1)])

    def place():
        return source.choice([-1, 0, 0, 0, 1, 1, 2, 3])

    def one_call():
        r = source.choice([-1, 0, 1, 2, 3, 255, 256])
        which = source.choices(range(7), [0.5, 40, 20, 10, 10, 90, 10])[0]
        choices = [clear(), make(source.choice([-1, 1, 2, 2, 3, 3, 8, 9])),
                   root(r, source.choice([0, handle(), handle(), handle()])), rooted(r),
                   number(handle(), place(), source.choice([WIDE_LOW, -1, 0, 1, WIDE_HIGH])),
                   cell(handle(), place(), source.choice([0, handle(), handle(), handle(), handle()])),
                   unset(handle(), place())]
        return choices[which]

    calls, expected = [], []
    while len(calls) < 399:
        calls.append(one_call())
        expected.append(model.do(calls[-1]))
    return calls, expected
