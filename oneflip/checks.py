"""What any value is: integers, integers within bounds, lots of bits, phases."""

from oneflip.errors import BadBits, BadNumber, BadPhases, BadWord

MOST_BIT = 20000


def is_integer(value):
    """Whether it is an integer."""
    # Python counts True and False among the integers; here they are none.
    return isinstance(value, int) and not isinstance(value, bool)


def is_within(value, least, most):
    """Whether it is an integer from least to most; None is no bound."""
    if not is_integer(value):
        return False
    return (least is None or least <= value) and (most is None or value <= most)


def is_list(value):
    """Whether it is a list or a tuple, which stand for one another everywhere."""
    return isinstance(value, (list, tuple))


def are_unlike(value, least, most):
    """Whether it is a list or tuple, perhaps of none, of unlike integers from least to most."""
    if not is_list(value):
        return False
    return all([is_within(item, least, most) for item in value]) and len(set(value)) == len(value)


def is_lot(value):
    """Whether it is a lot of bits: a list or tuple of unlike integers from 0 to 20,000, perhaps of none."""
    return are_unlike(value, 0, MOST_BIT)


def is_phases(value):
    """Whether it is a list or tuple, perhaps of none, of lots of bits with one bit at least."""
    return is_list(value) and all([is_lot(phase) and len(phase) > 0 for phase in value])


def is_just(value, told):
    """Whether a value is just what is told: tuples of such, and integers, for which no truth stands."""
    if not is_list(told):
        return is_integer(value) and value == told
    if not is_list(value) or len(value) != len(told):
        return False
    return all([is_just(item, wanted) for item, wanted in zip(value, told)])


def lot_of(bits):
    """The ascending tuple of a lot of bits."""
    need_lot(bits, "bits")
    return tuple(sorted(bits))


def need_number(value, part, least, most):
    """Raises BadNumber(part) for what is no integer from least to most."""
    if not is_within(value, least, most):
        raise BadNumber(part)


def need_word(value, part):
    """Raises BadWord(part) for what is no integer from 0 on."""
    if not is_within(value, 0, None):
        raise BadWord(part)


def need_lot(value, part):
    """Raises BadBits(part) for what is no lot of bits."""
    if not is_lot(value):
        raise BadBits(part)


def need_phases(value, part):
    """Raises BadPhases(part) for what is no phases."""
    if not is_phases(value):
        raise BadPhases(part)
