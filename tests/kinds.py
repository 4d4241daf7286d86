"""Things of all kinds that are handed in where a refusal is told, and how points 3 and 4 read."""


class Sly(object):
    """Refuses to be asked anything."""

    def _refuse(self, *rest):
        raise RuntimeError("asked")

    __eq__ = __ne__ = __lt__ = __le__ = __gt__ = __ge__ = _refuse
    __len__ = __iter__ = __bool__ = __index__ = __int__ = __hash__ = _refuse
    __getitem__ = __contains__ = __repr__ = __str__ = __add__ = _refuse


class AllEqual(object):
    """Says that it equals everything."""

    def __eq__(self, other):
        return True

    __hash__ = None


class SaysInt(object):
    """Says that its class is int."""

    __class__ = int


class Liar(type):
    """A class of classes that say that they equal everything."""

    def __eq__(cls, other):
        return True

    def __ne__(cls, other):
        return False

    __hash__ = type.__hash__


class Lying(metaclass=Liar):
    """Is of a class that says that it equals int, tuple, list and str."""


class SaysList(object):
    """Says that its class is list."""

    __class__ = list

    def __len__(self):
        return 2

    def __iter__(self):
        return iter((2, 3))


class SaysText(object):
    """Says that its class is str."""

    __class__ = str

    def __len__(self):
        return 2

    def __iter__(self):
        return iter("00")


class SaysTuple(object):
    """Says that its class is tuple."""

    __class__ = tuple

    def __len__(self):
        return 2

    def __iter__(self):
        return iter((0, 1))


def no_numbers():
    """Things that are no whole numbers."""
    return [
        None, True, False, 0.0, 1.0, 2.5, float("nan"), float("inf"), 1j, "", "0", "1", b"0",
        [], [0], (), (0,), {}, {0: 1}, set(), {0}, frozenset([1]), range(2), object(), int, len,
        Sly(), AllEqual(), SaysInt(), Lying(), iter([0]),
    ]


def no_settings():
    """Things that are no settings."""
    own = [()]
    for cell in no_numbers() + [-1, 2, 3, 10 ** 400, -10 ** 400]:
        own += [(cell,), (cell, 1), (0, 1, cell), (0,) * 39 + (cell,)]
    long = [(0,) * 41, (1,) * 41, (0,) * 40 + (1,), (0, 1) * 500]
    kinds = [
        None, True, 0, 1, 3, -1, 1.0, "", "0", "01", "o.", b"", b"\x00\x01", [], [0], [0, 1, 1], {}, {0: 1},
        {0, 1}, frozenset([0, 1]), range(2), object(), tuple, len, Sly(), AllEqual(), SaysTuple(),
        Lying(), iter((0, 1)), ((0, 1),), ([0],),
    ]
    return own + long + kinds


def with_one(told, place, item):
    """What is told, as a list, with another item in one place."""
    return [*told[:place], item, *told[place + 1:]]


def no_counts():
    """Things that are no counts of a chest."""
    own = [[], [2] * 13, [9] * 13, [2, 3] * 50, [[2, 3]], [[2], [3]]]
    for count in no_numbers() + [1, 0, -1, -2, 10, 11, 10 ** 400, -10 ** 400]:
        own += [[count], [count, 2], [2, 3, count]]
    for place in range(12):
        for count in (1, 10, -1, 0, True, False, "2", None, [2], 2.0):
            own.append(with_one([2, 3, 4, 5, 6, 7, 8, 9, 2, 3, 4, 5], place, count))
    kinds = [
        None, True, 0, 2, 9, -1, 2.0, "", "2", "23", b"", b"\x02\x03", (), (2,), (2, 3), {}, {2: 3}, {2, 3},
        frozenset([2, 3]), range(2, 4), object(), list, len, Sly(), AllEqual(), SaysList(), Lying(),
        iter([2, 3]), ([2],),
    ]
    return own + kinds


def no_rows(counts):
    """Things that are no rows of a chest."""
    first = (0,) * len(counts)
    last = tuple([count - 1 for count in counts])
    own = [(), first[1:], last[1:], first + (0,), last + (0,), first * 2, (0,) * 13, (0,) * 500]
    for place, count in enumerate(counts):
        for position in no_numbers() + [count, count + 1, -1, -2, 10 ** 400, -10 ** 400]:
            own += [tuple(with_one(row, place, position)) for row in (first, last)]
    kinds = [
        None, True, 0, 1, -1, 1.0, "", "0" * len(counts), b"", bytes(len(counts)), list(first), list(last), {},
        dict.fromkeys(range(len(counts)), 0), {0}, frozenset([0]), range(len(counts)), object(), tuple, len,
        Sly(), AllEqual(), SaysTuple(), Lying(), iter(first), (first,), (list(first),),
    ]
    return own + kinds


def no_tuples():
    """Things that are no tuples, and so neither moves nor deeds."""
    return [
        None, True, False, 0, 1, -1, 1.0, "", "0", "01", "0 1", "001", b"", b"\x00\x01", [], [0, 1], [0, 0, 1],
        {}, {0: 1}, {0, 1}, frozenset([0, 1]), range(2), range(3), object(), tuple, len, Sly(), AllEqual(),
        SaysTuple(), Lying(), iter((0, 1)), [(0, 1)], [(0, 0, 1)],
    ]


def no_texts():
    """Things that are no texts."""
    return [
        None, True, False, 0, 1, 10, -1, 1.0, b"", b"o", b"oo", b"00", [], ["o", "."], ["0", "0"], ["oo"], (), (0, 1),
        ("o", "."), ("00",), {}, {"o": 1}, {"o"}, frozenset(["o"]), range(2), object(), str, len, Sly(), AllEqual(),
        SaysText(), Lying(), iter("o."),
    ]


def no_mosts():
    """Things that do not say how many steps are told."""
    return [-1, -2, 1001, 1002, 10 ** 400, -10 ** 400, *no_numbers()]


def may_change(setting, ring):
    """What point 3 says, in its own words."""
    if ring == 0:
        return True
    return setting[ring - 1] == 1 and all(cell == 0 for cell in setting[:ring - 1])


def flipped(setting, ring):
    """The setting with one ring put on or taken off."""
    cells = list(setting)
    cells[ring] = 1 - cells[ring]
    return tuple(cells)


def whole_way(rings):
    """All settings in the order of point 4, walked by its words alone."""
    setting = (0,) * rings
    found = [setting]
    before = None
    while True:
        onward = [ring for ring in range(rings) if may_change(setting, ring) and ring != before]
        if not onward:
            return found
        assert len(onward) == 1
        before = onward[0]
        setting = flipped(setting, before)
        found.append(setting)
