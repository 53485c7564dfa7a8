"""One store of cells, the calls on it, and what they answer."""

ROOM = 65536
ROOT_COUNT = 256
MOST_FIELDS = 8

DONE = 0
NOT_LED_TO = -1
OUT_OF_RANGE = -2
NO_ROOM = -3

# A field is a pair: which of the three it holds, and the number or the handle (0 beside nothing).
HOLDS_NUMBER = 1
HOLDS_CELL = 2
NOTHING = (0, 0)

CLEAR = 1
MAKE = 2
ROOT = 3
ROOTED = 4
NUMBER = 5
CELL = 6

# How many whole numbers stand behind the number of each call.
SIZES = {1: 0, 2: 1, 3: 2, 4: 1, 5: 3, 6: 3, 7: 2}


def led_to(cells, starts):
    """Give the cells that these handles lead to, the handles' own too, each under its handle."""
    reached = {}
    ahead = list(starts)
    while ahead:
        handle = ahead.pop()
        if handle not in reached:
            reached[handle] = cells[handle]
            ahead.extend([value for kind, value in cells[handle] if kind == HOLDS_CELL])
    return reached


def units(cells):
    """Give the room that these cells take up."""
    return sum([1 + len(fields) for fields in cells.values()])


class Store:
    """The cells and the roots.

    Between two calls `cells` has every cell that is led to, and no other: what is not led to
    can never be led to again, so it is let go at once, and a handle is good if it is a key.
    """

    def __init__(self):
        self.clear()

    def clear(self):
        self.cells = {}
        self.roots = [0] * ROOT_COUNT
        self.last = 0
        self.newest = 0
        return DONE

    def sweep(self):
        """Let go of the cells that are not led to any more."""
        starts = [handle for handle in self.roots if handle != 0]
        if self.last != 0:
            starts.append(self.last)
        self.cells = led_to(self.cells, starts)

    def make(self, fields):
        if fields < 0 or fields > MOST_FIELDS:
            return OUT_OF_RANGE
        # The cell made last goes before the room is counted, also if then there is none.
        self.last = 0
        self.sweep()
        if units(self.cells) + 1 + fields > ROOM:
            return NO_ROOM
        self.newest += 1
        self.cells[self.newest] = [NOTHING] * fields
        self.last = self.newest
        return self.newest

    def root(self, r, h):
        if h != 0 and h not in self.cells:
            return NOT_LED_TO
        if r < 0 or r >= ROOT_COUNT:
            return OUT_OF_RANGE
        former = self.roots[r]
        self.roots[r] = h
        if former != 0:
            self.sweep()
        return DONE

    def rooted(self, r):
        if r < 0 or r >= ROOT_COUNT:
            return OUT_OF_RANGE
        return self.roots[r]

    def put(self, h, i, field):
        """Let field i of the cell h be this one."""
        if h not in self.cells:
            return NOT_LED_TO
        fields = self.cells[h]
        if i < 0 or i >= len(fields):
            return OUT_OF_RANGE
        former = fields[i]
        fields[i] = field
        # Only where a cell was held can there be less that is led to.
        if former[0] == HOLDS_CELL:
            self.sweep()
        return DONE

    def number(self, h, i, z):
        return self.put(h, i, (HOLDS_NUMBER, z))

    def cell(self, h, i, k):
        if k == 0:
            return self.put(h, i, NOTHING)
        if k not in self.cells:
            return NOT_LED_TO
        return self.put(h, i, (HOLDS_CELL, k))

    def unset(self, h, i):
        return self.put(h, i, NOTHING)


def answer(store, call, given):
    """Do one call with the numbers given behind it, and give its answer."""
    if call == CLEAR:
        return store.clear()
    if call == MAKE:
        return store.make(given[0])
    if call == ROOT:
        return store.root(given[0], given[1])
    if call == ROOTED:
        return store.rooted(given[0])
    if call == NUMBER:
        return store.number(given[0], given[1], given[2])
    if call == CELL:
        return store.cell(given[0], given[1], given[2])
    return store.unset(given[0], given[1])


def answers(calls):
    """Do the calls, one behind another, on a new store; for each give how many answers, and these."""
    store = Store()
    said = []
    at = 0
    while at < len(calls):
        behind = at + 1 + SIZES[calls[at]]
        said.append(1)
        said.append(answer(store, calls[at], calls[at + 1:behind]))
        at = behind
    return said
