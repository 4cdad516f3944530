"""Layouts that are fitted to machines, and how long their roads are."""

from oneflip.codes import code_for
from oneflip.doubles import listed
from oneflip.errors import Misfit
from oneflip.kept import kept_of, stands_for
from oneflip.layouts import MOST_BITS, Layout, pieces_of
from oneflip.machines import need_machine
from oneflip.rings import hub_layout, ring_layout


def fitted(machine):
    """The Layout that is fitted to a machine: of rings, hubs and codes the one of fewest bits that stands."""
    need_machine(machine, "machine")
    if machine.states == 1:
        return Layout(1, [0, 0])
    layouts = [ring_layout(machine.states), hub_layout(machine.states)] + _code_layouts(machine.states)
    # Of layouts of as many bits the first one stays the first.
    for layout in sorted(layouts, key=lambda told: told.bits):
        if stands_for(layout, machine):
            return layout
    raise Misfit("machine")


def longest_road(layout, machine):
    """The most flips that a road has from a kept word; None if there is no change from one."""
    kept = kept_of(layout, machine)
    lengths = []
    for state, words in pieces_of(layout):
        # A piece is kept as a whole, or not at all.
        if words[0] in kept:
            lengths.extend([_longest_to(layout, words, _goals(layout, kept, new)) for new in machine.leads(state)])
    return max(lengths, default=None)


def _code_layouts(states):
    """The layout of the code of fewest bits, the values that are no states left out; none if it is too great."""
    code = code_for(states)
    if code.bits > MOST_BITS:
        return []
    return [Layout(code.bits, [value if value < states else None for value in listed(code).means])]


def _goals(layout, kept, state):
    """A dict of the kept words that mean a state."""
    return {word: True for word in kept if layout.means[word] == state}


def _longest_to(layout, words, goals):
    """The most flips that it takes from a word of a piece, through the piece, to one of the goals that it touches."""
    row = [word for word in words if [there for there in _beside(layout, word) if there in goals]]
    left = {word: True for word in words if word not in row}
    many = 1
    # Backwards, flip by flip: the words of a row are those from which it takes so many flips.
    while left:
        row = sorted({there for here in row for there in _beside(layout, here) if there in left})
        for word in row:
            del left[word]
        many += 1
    return many


def _beside(layout, word):
    return [word ^ (1 << bit) for bit in range(layout.bits)]
