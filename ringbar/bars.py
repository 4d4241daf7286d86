"""Bars of rings: their settings, the one row that these lie in, and the ways along it."""

from ringbar.errors import BadBar, BadNumber, BadSetting, NoMove
from ringbar.kinds import is_tuple, is_whole

MOST_RINGS = 40
MOST_TOLD = 1000


def need_setting(setting):
    """Refuse what is no setting with BadSetting."""
    if not is_tuple(setting, 1, MOST_RINGS):
        raise BadSetting("a setting is a tuple of a number for each of 1 to 40 rings")
    for cell in setting:
        if not is_whole(cell, 0, 1):
            raise BadSetting("a ring is 1 where it is on, 0 where it is off")


def changeable(setting):
    """The rising list of the rings that may be changed."""
    need_setting(setting)
    # Behind the last ring there is none, so that one does not count as the first one on.
    if 1 not in setting[:-1]:
        return [0]
    return [0, setting.index(1) + 1]


def changed(setting, ring):
    """The setting behind the change of a ring."""
    allowed = changeable(setting)
    # 1.0 and True equal 1, so membership alone would let them through.
    if not is_whole(ring, 0, MOST_RINGS - 1) or ring not in allowed:
        raise NoMove("this ring may not be changed now")
    return setting[:ring] + (1 - setting[ring],) + setting[ring + 1:]


def number_of(setting):
    """How many changes lead from all rings off to the setting."""
    need_setting(setting)
    number = 0
    for cell in reversed(setting):
        # Beyond an odd number the lower rings go their way backwards.
        number = 2 * number + (cell ^ (number & 1))
    return number


def setting_at(rings, number):
    """The setting of a number, on a bar of so many rings."""
    if not is_whole(rings, 1, MOST_RINGS):
        raise BadBar("a bar has 1 to 40 rings")
    if not is_whole(number, 0, (1 << rings) - 1):
        raise BadNumber("no setting of this bar has this number")
    # A ring is on just where its own bit of the number and the next higher one differ.
    differing = number ^ (number >> 1)
    return tuple([(differing >> ring) & 1 for ring in range(rings)])


def apart(one, other):
    """How many changes the shortest way between two settings has."""
    _need_alike(one, other)
    return abs(number_of(one) - number_of(other))


def way(one, other, most):
    """The rings of the shortest way from one setting to another, the first most of them."""
    _need_alike(one, other)
    need_most(most)
    passed = numbers_passed(number_of(one), number_of(other), most)
    return [_ring_between(number, beside) for number, beside in zip(passed, passed[1:])]


def need_most(most):
    """Refuse with BadNumber what does not say how many steps of a way to tell."""
    if not is_whole(most, 0, MOST_TOLD):
        raise BadNumber("a way is told up to a whole number of steps from 0 to 1000")


def numbers_passed(here, there, most):
    """The numbers from here on towards there, as far as the first most steps lead."""
    if here < there:
        return list(range(here, min(there, here + most) + 1))
    return list(range(here, max(there, here - most) - 1, -1))


def _need_alike(one, other):
    need_setting(one)
    need_setting(other)
    if len(one) != len(other):
        raise BadSetting("the two settings are of unlike many rings")


def _ring_between(number, beside):
    """The ring whose change leads from a number to the one beside it."""
    higher = max(number, beside)
    return (higher & -higher).bit_length() - 1
