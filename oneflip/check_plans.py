"""Whether papers about plans are right, by looking at the words behind the cuts that they tell."""

from oneflip.checks import are_unlike, is_just, is_within
from oneflip.phases import cut_words, landed
from oneflip.plans import Safe, Short, Torn, judged_plan, let_in_plan


def shows_plan(layout, machine, word, phases, state, value):
    """Whether any value is the Safe of a plan, a right Torn or a right Short."""
    let = let_in_plan(layout, machine, word, phases, state)
    if isinstance(value, Safe):
        is_plan = bool(judged_plan(layout, machine, word, phases, state))
        return is_plan and is_just(value.words, cut_words(word, phases))
    if isinstance(value, Torn):
        return _is_right_torn(word, phases, let, value.phase, value.lot)
    if isinstance(value, Short):
        lies = landed(word, phases, len(phases), ())
        return layout.means[lies] != state and is_just(value.lies, lies)
    return False


def _is_right_torn(word, phases, let, phase, lot):
    if not is_within(phase, 0, len(phases) - 1) or not are_unlike(lot, 0, len(phases[phase]) - 1):
        return False
    return list(lot) == sorted(lot) and landed(word, phases, phase, lot) not in let
