"""Wear: how often each bit flips in phases."""

from oneflip.checks import is_list, is_phases, need_number
from oneflip.errors import BadPhases, Misfit

MOST_MANY = 20000


def flips_by_bit(plans, many):
    """How often each of so many bits flips in all of some plans."""
    if not is_list(plans) or not all([is_phases(phases) for phases in plans]):
        raise BadPhases("plans")
    need_number(many, "many", 1, MOST_MANY)
    flips = [bit for phases in plans for phase in phases for bit in phase]
    if max(flips, default=0) >= many:
        raise Misfit("plans")
    often = [0] * many
    for bit in flips:
        often[bit] += 1
    return tuple(often)


def most_worn(plans, many):
    """The first of so many bits that flips most often, None if none flips."""
    often = flips_by_bit(plans, many)
    most = max(often)
    return often.index(most) if most else None
