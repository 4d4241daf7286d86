"""Things of all kinds that are handed in where a refusal is told, and how point 3 reads."""


class Sly(object):
    """Refuses to be asked anything."""

    def _refuse(self, *rest):
        raise RuntimeError("asked")

    __eq__ = __ne__ = __lt__ = __le__ = __gt__ = __ge__ = _refuse
    __len__ = __iter__ = __bool__ = __index__ = __int__ = __hash__ = _refuse
    __getitem__ = __contains__ = __repr__ = __str__ = __add__ = _refuse


class AllEqual(object):
    """Says that it equals everything."""

    def __eq__(self, other):
        return True

    __hash__ = None


class SaysInt(object):
    """Says that its class is int."""

    __class__ = int


class SaysTuple(object):
    """Says that its class is tuple."""

    __class__ = tuple

    def __len__(self):
        return 2

    def __iter__(self):
        return iter((0, 1))


def no_numbers():
    """Things that are no whole numbers."""
    return [
        None, True, False, 0.0, 1.0, 2.5, float("nan"), float("inf"), 1j, "", "0", "1", b"0",
        [], [0], (), (0,), {}, {0: 1}, set(), {0}, frozenset([1]), range(2), object(), int, len,
        Sly(), AllEqual(), SaysInt(), iter([0]),
    ]


def no_settings():
    """Things that are no settings."""
    own = [()]
    for cell in no_numbers() + [-1, 2, 3, 10 ** 400, -10 ** 400]:
        own += [(cell,), (cell, 1), (0, 1, cell), (0,) * 39 + (cell,)]
    long = [(0,) * 41, (1,) * 41, (0,) * 40 + (1,), (0, 1) * 500]
    kinds = [
        None, True, 0, 1, 3, -1, 1.0, "", "0", "01", "o.", b"", b"\x00\x01", [], [0], [0, 1, 1], {}, {0: 1},
        {0, 1}, frozenset([0, 1]), range(2), object(), tuple, len, Sly(), AllEqual(), SaysTuple(),
        iter((0, 1)), ((0, 1),), ([0],),
    ]
    return own + long + kinds


def may_change(setting, ring):
    """What point 3 says, in its own words."""
    if ring == 0:
        return True
    return setting[ring - 1] == 1 and all(cell == 0 for cell in setting[:ring - 1])


def flipped(setting, ring):
    """The setting with one ring put on or taken off."""
    cells = list(setting)
    cells[ring] = 1 - cells[ring]
    return tuple(cells)


def whole_way(rings):
    """All settings in the order of point 4, walked by its words alone."""
    setting = (0,) * rings
    found = [setting]
    before = None
    while True:
        onward = [ring for ring in range(rings) if may_change(setting, ring) and ring != before]
        if not onward:
            return found
        assert len(onward) == 1
        before = onward[0]
        setting = flipped(setting, before)
        found.append(setting)
