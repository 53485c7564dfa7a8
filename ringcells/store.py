"""One store of cells, the calls on it, and what they answer."""

ROOM = 65536
ROOT_COUNT = 256
MOST_FIELDS = 8

DONE = 0
NOT_LED_TO = -1
OUT_OF_RANGE = -2
NO_ROOM = -3

# A field is a pair: which of the three it holds, and the number or the handle (0 beside nothing).
HOLDS_NUMBER = 1
HOLDS_CELL = 2
NOTHING = (0, 0)

CLEAR = 1
MAKE = 2
ROOT = 3
ROOTED = 4
NUMBER = 5
CELL = 6
UNSET = 7
KIND = 8
TOLD = 9
HELD = 10
FIELDS = 11
COUNT = 12
ALIKE = 13

# How many whole numbers stand behind the number of each call.
SIZES = {1: 0, 2: 1, 3: 2, 4: 1, 5: 3, 6: 3, 7: 2, 8: 2, 9: 2, 10: 2, 11: 1, 12: 0, 13: 2, 14: 1}


def led_to(cells, starts):
    """Give the cells that these handles lead to, the handles' own too, each under its handle."""
    reached = {}
    ahead = list(starts)
    while ahead:
        handle = ahead.pop()
        if handle not in reached:
            reached[handle] = cells[handle]
            ahead.extend([value for kind, value in cells[handle] if kind == HOLDS_CELL])
    return reached


def units(cells):
    """Give the room that these cells take up."""
    return sum([1 + len(fields) for fields in cells.values()])


def agree(one, other):
    """Tell whether the fields of two cells are the same, whichever cells they hold."""
    if len(one) != len(other):
        return False
    for mine, theirs in zip(one, other):
        if mine[0] != theirs[0]:
            return False
        if mine[0] != HOLDS_CELL and mine[1] != theirs[1]:
            return False
    return True


def held_pairs(one, other):
    """Give the cells that the same fields of two cells that agree hold, two by two."""
    return [(mine[1], theirs[1]) for mine, theirs in zip(one, other) if mine[0] == HOLDS_CELL]


def can_be_paired(cells, h, k):
    """Tell whether what h leads to can be paired, one to one, with what k leads to, and h with k.

    That pair leaves no choice for any other: the cells in the same field of a pair are a pair.
    """
    partners = {}
    taken = {}
    ahead = [(h, k)]
    while ahead:
        pair = ahead.pop()
        one = pair[0]
        other = pair[1]
        if one in partners or other in taken:
            if partners.get(one, 0) != other:
                return False
        elif agree(cells[one], cells[other]):
            partners[one] = other
            taken[other] = True
            ahead.extend(held_pairs(cells[one], cells[other]))
        else:
            return False
    return True


def renamed(fields, names):
    """Give these fields with other handles for the cells that they hold."""
    return [(kind, names[value] if kind == HOLDS_CELL else value) for kind, value in fields]


class Store:
    """The cells and the roots.

    Between two calls `cells` has every cell that is led to, and no other: what is not led to
    can never be led to again, so it is let go at once, and a handle is good if it is a key.
    """

    def __init__(self):
        self.clear()

    def clear(self):
        self.cells = {}
        self.roots = [0] * ROOT_COUNT
        self.last = 0
        self.newest = 0
        return DONE

    def in_roots(self):
        """Give the handles that the roots have, as often as they have them."""
        return [handle for handle in self.roots if handle != 0]

    def sweep(self):
        """Let go of the cells that are not led to any more."""
        starts = self.in_roots()
        if self.last != 0:
            starts.append(self.last)
        self.cells = led_to(self.cells, starts)

    def make(self, fields):
        if fields < 0 or fields > MOST_FIELDS:
            return OUT_OF_RANGE
        # The cell made last goes before the room is counted, also if then there is none.
        self.last = 0
        self.sweep()
        if units(self.cells) + 1 + fields > ROOM:
            return NO_ROOM
        self.newest += 1
        self.cells[self.newest] = [NOTHING] * fields
        self.last = self.newest
        return self.newest

    def root(self, r, h):
        if h != 0 and h not in self.cells:
            return NOT_LED_TO
        if r < 0 or r >= ROOT_COUNT:
            return OUT_OF_RANGE
        former = self.roots[r]
        self.roots[r] = h
        if former != 0:
            self.sweep()
        return DONE

    def rooted(self, r):
        if r < 0 or r >= ROOT_COUNT:
            return OUT_OF_RANGE
        return self.roots[r]

    def put(self, h, i, field):
        """Let field i of the cell h be this one."""
        former = self.kind(h, i)
        if former < 0:
            return former
        self.cells[h][i] = field
        # Only where a cell was held can there be less that is led to.
        if former == HOLDS_CELL:
            self.sweep()
        return DONE

    def number(self, h, i, z):
        return self.put(h, i, (HOLDS_NUMBER, z))

    def cell(self, h, i, k):
        if k == 0:
            return self.put(h, i, NOTHING)
        if k not in self.cells:
            return NOT_LED_TO
        return self.put(h, i, (HOLDS_CELL, k))

    def unset(self, h, i):
        return self.put(h, i, NOTHING)

    def kind(self, h, i):
        if h not in self.cells:
            return NOT_LED_TO
        if i < 0 or i >= len(self.cells[h]):
            return OUT_OF_RANGE
        return self.cells[h][i][0]

    def value_of(self, h, i, kind):
        """Give what field i of the cell h holds if it is of this kind, else 0."""
        if h not in self.cells:
            return NOT_LED_TO
        if self.kind(h, i) != kind:
            return 0
        return self.cells[h][i][1]

    def told(self, h, i):
        return self.value_of(h, i, HOLDS_NUMBER)

    def held(self, h, i):
        return self.value_of(h, i, HOLDS_CELL)

    def fields(self, h):
        if h not in self.cells:
            return NOT_LED_TO
        return len(self.cells[h])

    def count(self):
        return len(led_to(self.cells, self.in_roots()))

    def alike(self, h, k):
        if h not in self.cells or k not in self.cells:
            return NOT_LED_TO
        return 1 if can_be_paired(self.cells, h, k) else 0

    def copy(self, h):
        if h not in self.cells:
            return NOT_LED_TO
        kept = led_to(self.cells, self.in_roots())
        part = led_to(self.cells, [h])
        with_part = dict(kept)
        with_part.update(part)
        if units(with_part) + units(part) > ROOM:
            if self.last == h:
                self.cells = with_part
            else:
                self.cells = kept
                self.last = 0
            return NO_ROOM
        # The old part counts for the room, but from now on it is led to only where roots lead to it.
        self.cells = kept
        self.last = self.add_copies(part)[h]
        return self.last

    def add_copies(self, part):
        """Add a copy of each of these cells, which hold no others, and give the new handle for each old one."""
        names = {}
        for handle in sorted(part):
            self.newest += 1
            names[handle] = self.newest
        for handle in names:
            self.cells[names[handle]] = renamed(part[handle], names)
        return names


def answer(store, call, given):
    """Do one call with the numbers given behind it, and give its answer."""
    if call == CLEAR:
        return store.clear()
    if call == MAKE:
        return store.make(given[0])
    if call == ROOT:
        return store.root(given[0], given[1])
    if call == ROOTED:
        return store.rooted(given[0])
    if call == NUMBER:
        return store.number(given[0], given[1], given[2])
    if call == CELL:
        return store.cell(given[0], given[1], given[2])
    if call == UNSET:
        return store.unset(given[0], given[1])
    if call == KIND:
        return store.kind(given[0], given[1])
    if call == TOLD:
        return store.told(given[0], given[1])
    if call == HELD:
        return store.held(given[0], given[1])
    if call == FIELDS:
        return store.fields(given[0])
    if call == COUNT:
        return store.count()
    if call == ALIKE:
        return store.alike(given[0], given[1])
    return store.copy(given[0])


def answers(calls):
    """Do the calls, one behind another, on a new store; for each give how many answers, and these."""
    store = Store()
    said = []
    at = 0
    while at < len(calls):
        behind = at + 1 + SIZES[calls[at]]
        said.append(1)
        said.append(answer(store, calls[at], calls[at + 1:behind]))
        at = behind
    return said
