"""What the tests share: calls written by name, a slow model of the document, and full stores."""

import random

from ringcells.store import HOLDS_CELL, NOTHING, Store, answers

INT_LOW = -2147483648
INT_HIGH = 2147483647
WIDE_LOW = -9223372036854775808
WIDE_HIGH = 9223372036854775807


def clear():
    return [1]


def make(fields):
    return [2, fields]


def root(r, h):
    return [3, r, h]


def rooted(r):
    return [4, r]


def number(h, i, z):
    return [5, h, i, z]


def cell(h, i, k):
    return [6, h, i, k]


def unset(h, i):
    return [7, h, i]


def kind(h, i):
    return [8, h, i]


def told(h, i):
    return [9, h, i]


def held(h, i):
    return [10, h, i]


def fields(h):
    return [11, h]


def count():
    return [12]


def alike(h, k):
    return [13, h, k]


def copy(h):
    return [14, h]


def line(calls):
    """The calls as the one list that is handed in, clear ahead of them."""
    flat = clear()
    for call in calls:
        flat.extend(call)
    if len(calls) + 1 > 400:
        raise ValueError("more calls than a line may have")
    return flat


def said(*calls):
    """What the calls behind a first clear answer, the counts taken off."""
    found = answers(line(calls))
    if found[0::2] != [1] * (len(calls) + 1):
        raise AssertionError(f"not one answer a call: {found}")
    if found[1] != 0:
        raise AssertionError(f"clear answered {found[1]}")
    return found[3::2]


def grown(units):
    """Calls by which root 0 leads to just this many units, and the cell that it has then.

    Each round copies all that is there and makes a cell that holds both, from the cell 1 on, which
    has no fields. The cells that are led to are 1 to this one.
    """
    rounds = []
    while units > 1:
        # By such rounds there is no way from one unit to 0, 2, 3, 4 or 12.
        sizes = [size for size in range(2 + (units + 1) % 2, 9, 2) if (units - 1 - size) // 2 not in (0, 2, 3, 4, 12)]
        rounds.insert(0, sizes[0])
        units = (units - 1 - sizes[0]) // 2
    calls, top = [make(0), root(0, 1)], 1
    for size in rounds:
        calls += [copy(top), root(1, 2 * top), make(size), cell(2 * top + 1, 0, top),
                  cell(2 * top + 1, 1, 2 * top), root(0, 2 * top + 1)]
        top = 2 * top + 1
    return calls + [root(1, 0)], top


def filled(units):
    """Calls by which roots 0, 1 and 2 lead to just this many units, and the newest cell then."""
    calls, top = grown(units // 2)
    calls += [copy(top), root(1, 2 * top)]
    if units % 2 == 0:
        return calls, 2 * top
    return calls + [make(0), root(2, 2 * top + 1)], 2 * top + 1


def row_store(length, size, ring=False):
    """A store with cells 1 to length, each holding the next in field 0, root 0 the first of them."""
    store = Store()
    add_row(store, 1, length, size, ring)
    return store


def add_row(store, first, length, size, ring=False):
    """Put in cells from first on, each holding the next in field 0; a root has the first of them."""
    behind = first + length
    for handle in range(first, behind):
        store.cells[handle] = [NOTHING] * size
    for handle in range(first, behind - 1):
        store.cells[handle][0] = (HOLDS_CELL, handle + 1)
    if ring:
        store.cells[behind - 1][0] = (HOLDS_CELL, first)
    store.roots[store.roots.index(0)] = first
    store.newest = behind - 1


def filled_store(units):
    """A store whose root 0 leads to cells of this many units."""
    store = row_store(units // 2, 1)
    if units % 2 == 1:
        store.cells[1].append(NOTHING)
    return store


def state(store):
    """All that a store keeps, as a copy."""
    cells = {handle: list(fields) for handle, fields in store.cells.items()}
    return cells, list(store.roots), store.last, store.newest


class Model:
    """The document's words done slowly: cells stay for ever, what is led to is found anew each time."""

    def __init__(self, room=65536):
        self.room = room
        self.do_clear()

    def do_clear(self):
        self.fields_of, self.root_of, self.made_last, self.given = {}, {}, None, 0
        return 0

    def reach(self, starts):
        found = set(starts)
        while True:
            more = {k for h in found for what, k in self.fields_of[h].values() if what == "cell"}
            if more <= found:
                return found
            found |= more

    def led(self):
        last = [] if self.made_last is None else [self.made_last]
        return self.reach([*self.root_of.values(), *last])

    def taken(self, handles):
        return sum(1 + len(self.fields_of[h]) for h in handles)

    def do_make(self, size):
        if size not in range(9):
            return -2
        self.made_last = None
        if self.taken(self.led()) + 1 + size > self.room:
            return -3
        self.given += 1
        self.made_last = self.given
        self.fields_of[self.given] = {i: ("nothing", None) for i in range(size)}
        return self.given

    def do_root(self, r, h):
        if h and h not in self.led():
            return -1
        if r not in range(256):
            return -2
        self.root_of.pop(r, None)
        if h:
            self.root_of[r] = h
        return 0

    def do_rooted(self, r):
        return self.root_of.get(r, 0) if r in range(256) else -2

    def change(self, h, i, field):
        if h not in self.led():
            return -1
        if i not in self.fields_of[h]:
            return -2
        self.fields_of[h][i] = field
        return 0

    def do_number(self, h, i, z):
        return self.change(h, i, ("number", z))

    def do_cell(self, h, i, k):
        if k and k not in self.led():
            return -1
        return self.change(h, i, ("cell", k) if k else ("nothing", None))

    def do_unset(self, h, i):
        return self.change(h, i, ("nothing", None))

    def do_kind(self, h, i):
        if h not in self.led():
            return -1
        if i not in self.fields_of[h]:
            return -2
        return ["nothing", "number", "cell"].index(self.fields_of[h][i][0])

    def find(self, h, i, wanted):
        if h not in self.led():
            return -1
        what, value = self.fields_of[h].get(i, ("nothing", None))
        return value if what == wanted else 0

    def do_told(self, h, i):
        return self.find(h, i, "number")

    def do_held(self, h, i):
        return self.find(h, i, "cell")

    def do_fields(self, h):
        return len(self.fields_of[h]) if h in self.led() else -1

    def do_count(self):
        return len(self.reach(self.root_of.values()))

    def drawn(self, h):
        """The cell with all that it leads to, each cell told by when it is first met."""
        met = [h]
        for one in met:
            for what, k in self.fields_of[one].values():
                if what == "cell" and k not in met:
                    met.append(k)
        return [[(what, met.index(value) if what == "cell" else value)
                 for what, value in self.fields_of[one].values()] for one in met]

    def do_alike(self, h, k):
        if not {h, k} <= self.led():
            return -1
        return int(self.drawn(h) == self.drawn(k))

    def do_copy(self, h):
        if h not in self.led():
            return -1
        part = self.reach([h])
        if self.taken(self.reach([*self.root_of.values(), h])) + self.taken(part) > self.room:
            self.made_last = h if h == self.made_last else None
            return -3
        new = {old: self.given + place for place, old in enumerate(sorted(part), 1)}
        for old in part:
            self.fields_of[new[old]] = {i: (what, new[value] if what == "cell" else value)
                                        for i, (what, value) in self.fields_of[old].items()}
        self.given += len(part)
        self.made_last = new[h]
        return new[h]

    def do(self, call):
        names = ["clear", "make", "root", "rooted", "number", "cell", "unset",
                 "kind", "told", "held", "fields", "count", "alike", "copy"]
        return getattr(self, "do_" + names[call[0] - 1])(*call[1:])


# How often each call comes in a random line, from clear on.
OFTEN = [0.2, 30, 50, 6, 12, 110, 5, 12, 12, 12, 8, 12, 40, 35]


def random_line(seed, room=65536):
    """399 calls, the same for the same seed, and what the model with this room answers to them."""
    source = random.Random(seed)
    model = Model(room)

    def handle():
        led = sorted(model.led())
        if led and source.random() < 0.9:
            return source.choice(led)
        return source.choice([0, INT_HIGH, source.randint(1, model.given + 1)])

    def place():
        return source.choice([-1, 0, 0, 0, 0, 0, 1, 1, 1, 1, 2, 2, 3, 8])

    def one_call():
        r = source.choice([-1, 0, 1, 2, 3, 4, 5, 6, 255, 256])
        which = source.choices(range(14), OFTEN)[0]
        choices = [clear, lambda: make(source.choice([-1, 0, 1, 2, 2, 3, 3, 3, 3, 4, 8, 9])),
                   lambda: root(r, source.choice([0, handle(), handle()] + [model.made_last or 0] * 4)),
                   lambda: rooted(r),
                   lambda: number(handle(), place(), source.choice([WIDE_LOW, -1, 0, 1, 2, WIDE_HIGH])),
                   lambda: cell(handle(), place(), source.choice([0, handle(), handle(), handle(), handle()])),
                   lambda: unset(handle(), place()), lambda: kind(handle(), place()),
                   lambda: told(handle(), place()), lambda: held(handle(), place()),
                   lambda: fields(handle()), count, lambda: alike(handle(), handle()), lambda: copy(handle())]
        return choices[which]()

    calls, expected = [], []
    while len(calls) < 399:
        calls.append(one_call())
        expected.append(model.do(calls[-1]))
    return calls, expected
