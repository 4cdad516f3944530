"""Scripts: what is done with a Life, step by step, their texts, and what comes of them."""

from oneflip.checks import MOST_BIT, is_list, is_lot, is_within
from oneflip.errors import BadBits, BadDeed, BadLine, BadNumber, BadPaper, BadText, Misfit
from oneflip.lives import Life
from oneflip.papers import Paper
from oneflip.stores import MOST_ROWS
from oneflip.texts import digits_of, integer_at, integer_of, item_at, items_of, need_item

MOST_STEPS = 200
MOST_PHASE = 7
BAR = "/"
BETWEEN = ","
AHEAD_OF_DEED = ":"


class Story(Paper):
    """What came of each step, the word that lies behind all, and how many flips and cuts there were."""

    def __init__(self, rows, lies, flips, cuts):
        Paper.__init__(self, "story", rows, lies, flips, cuts)
        self.rows = self.parts[0]
        self.lies = self.parts[1]
        self.flips = self.parts[2]
        self.cuts = self.parts[3]


def is_script(value):
    """Whether any value is a script."""
    return is_list(value) and len(value) <= MOST_STEPS and all([_is_step(step) for step in value])


def script_text(script):
    """The text of a script."""
    _need_script(script)
    return " / ".join([" ".join(_items_for(step)) for step in script])


def read_script(text):
    """The script, tuples throughout, whose text this is."""
    items = items_of(text)
    if items == [""]:
        return ()
    step, at = _step_at(items, 0)
    steps = [step]
    while at < len(items):
        if items[at] != BAR or len(steps) == MOST_STEPS:
            raise BadText(0, at)
        step, at = _step_at(items, at + 1)
        steps.append(step)
    return tuple(steps)


def played(store, values, script):
    """The Story of a Life of a store and values by a script."""
    life = Life(store, values)
    _need_script(script)
    rows = []
    for number, step in enumerate(script):
        came = _play_step(life, number, step)
        rows.append((came, life.values_now))
    return Story(rows, life.word_now, life.flips, life.cuts)


def counted(script, story):
    """The numbers of the steps whose deeds count."""
    _need_script(script)
    if not isinstance(story, Story):
        raise BadPaper("story")
    rows = story.rows
    if not is_list(rows) or len(rows) != len(script) or not all([_is_pair(row) for row in rows]):
        raise Misfit("story")
    return tuple([number for number, row in enumerate(rows) if _is_told(row[0])])


def _need_script(value):
    if not is_script(value):
        raise BadDeed("script")


def _is_step(value):
    if not is_list(value) or len(value) == 0 or not isinstance(value[0], str):
        return False
    word, parts = value[0], value[1:]
    if word == "mend":
        return len(parts) == 0
    if word == "do":
        return len(parts) == 1 and _is_deed(parts[0])
    if word == "fall":
        return len(parts) == 2 and _is_cut(parts)
    return word == "cut" and len(parts) == 3 and _is_cut(parts) and _is_deed(parts[2])


def _is_cut(parts):
    """Whether the first two of some parts are a phase and a lot."""
    return is_within(parts[0], 0, MOST_PHASE) and is_lot(parts[1])


def _is_deed(value):
    if not is_list(value) or not 1 <= len(value) <= MOST_ROWS:
        return False
    if not all([_is_pair(pair) and is_within(pair[0], 0, None) and is_within(pair[1], 0, None) for pair in value]):
        return False
    return len({pair[0] for pair in value}) == len(value)


def _is_pair(value):
    return is_list(value) and len(value) == 2


def _is_told(word):
    """Whether a word of a story tells that the deed counts."""
    return isinstance(word, str) and word in ("done", "behind")


def _items_for(step):
    """The items of the text of a step."""
    items = [step[0]]
    if step[0] in ("cut", "fall"):
        items.extend([str(number) for number in [step[1]] + sorted(step[2])])
    if step[0] == "cut":
        items.append(AHEAD_OF_DEED)
    if step[0] in ("do", "cut"):
        items.append(" , ".join([digits_of(cell) + " " + digits_of(value) for cell, value in step[-1]]))
    return items


def _step_at(items, at):
    """The step that is written from a place on, and the place behind it."""
    word = item_at(items, at)
    if word == "mend":
        return (word,), at + 1
    if word == "do":
        deed, behind = _deed_at(items, at + 1)
        return (word, deed), behind
    if word not in ("cut", "fall"):
        raise BadText(0, at)
    phase = integer_at(items, at + 1, 0, MOST_PHASE)
    lot, behind = _lot_at(items, at + 2)
    if word == "fall":
        return (word, phase, lot), behind
    need_item(items, behind, AHEAD_OF_DEED)
    deed, behind = _deed_at(items, behind + 1)
    return (word, phase, lot, deed), behind


def _lot_at(items, at):
    """The lot that is written from a place on, and the place of the first item that is none of its numbers."""
    lot = []
    for item in items[at:]:
        number = integer_of(item)
        if not is_within(number, lot[-1] + 1 if lot else 0, MOST_BIT):
            break
        lot.append(number)
    return tuple(lot), at + len(lot)


def _deed_at(items, at):
    """The deed that is written from a place on, and the place behind it."""
    pairs = [_gift_at(items, at, [])]
    behind = at + 2
    while behind < len(items) and items[behind] == BETWEEN and len(pairs) < MOST_ROWS:
        pairs.append(_gift_at(items, behind + 1, pairs))
        behind += 3
    return tuple(pairs), behind


def _gift_at(items, at, ahead):
    """The pair of a deed that is written at a place; no pair ahead has its cell."""
    cell = integer_at(items, at, 0, None)
    if cell in [there for there, _ in ahead]:
        raise BadText(0, at)
    return cell, integer_at(items, at + 1, 0, None)


def _play_step(life, number, step):
    """Plays the step of a number; raises BadLine with the error that the Life raises."""
    try:
        return _play(life, step)
    except BadDeed as no_deed:
        raise BadLine(number, BadDeed(no_deed.part))
    except BadNumber as no_number:
        raise BadLine(number, BadNumber(no_number.part))
    except BadBits as no_lot:
        raise BadLine(number, BadBits(no_lot.part))


def _play(life, step):
    """Plays a step; returns the word that tells what came of it."""
    if step[0] == "do":
        life.do(step[1])
        return "done"
    if step[0] == "cut":
        return "behind" if life.do_cut(step[3], step[1], step[2]) else "before"
    if step[0] == "mend":
        life.mend()
    else:
        life.mend_cut(step[1], step[2])
    return "mended"
