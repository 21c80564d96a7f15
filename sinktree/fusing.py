"""Code made shorter, and two codes made one (points 120 and 121)."""

from sinktree.basics import is_within
from sinktree.errors import BadCode
from sinktree.machine import CODE_MOST
from sinktree.operators import operator_value
from sinktree.schemas import LIMIT

SKIPS = ("jump", "unless")
PUSHES = ("push", "word", "load")
FOLDED = ("add", "sub", "mul", "min", "max")


def fuse(first, second):
    """Return code that does what the first code and then the second code do."""
    code = shorten(first + second)
    if len(code) > CODE_MOST:
        raise BadCode(0, "long")
    return code


def shorten(code):
    """Return code that does the same in fewer instructions."""
    change = first_change(code)
    while change is not None:
        code = changed(code, change)
        change = first_change(code)
    return code


def first_change(code):
    """Return the change of the first step that applies anywhere, at its first place, or None.

    A change is a tuple (place, many, instead): so many instructions from the place on are replaced by those of the
    tuple instead.
    """
    targets = targets_of(code)
    places = range(len(code))
    for place in places:
        if code[place] == ("jump", 0):
            return (place, 1, ())
    for place in places:
        if is_idle(code, place, targets):
            return (place, 2, ())
    for place in places:
        if is_lost(code, place, targets):
            return (place, 2, ())
    for place in places:
        instead = folded(code, place, targets)
        if instead:
            return (place, 3, instead)
    return None


def targets_of(code):
    """Return a list that tells for each place, the end included, whether a skip leads to it."""
    targets = [False] * (len(code) + 1)
    for index, instruction in enumerate(code):
        if instruction[0] in SKIPS:
            targets[index + 1 + instruction[1]] = True
    return targets


def is_idle(code, place, targets):
    """Tell whether a field is loaded here and stored again at once."""
    if code[place][0] != "load" or targets[place + 1]:
        return False
    return code[place + 1:place + 2] == (("store", code[place][1]),)


def is_lost(code, place, targets):
    """Tell whether a value is stored here that is overwritten at once, without having been read."""
    window = code[place:place + 4]
    if len(window) < 4 or window[1][0] != "store" or window[3] != window[1]:
        return False
    if window[0][0] not in PUSHES or window[2][0] not in PUSHES or window[2] == ("load", window[1][1]):
        return False
    return True not in targets[place + 1:place + 4]


def folded(code, place, targets):
    """Return the one push that does the same as two pushes and an operator here, in a tuple, or the empty tuple."""
    window = code[place:place + 3]
    if len(window) < 3 or window[2][0] not in FOLDED or True in targets[place + 1:place + 3]:
        return ()
    if not pushes_integer(window[0]) or not pushes_integer(window[1]):
        return ()
    value = operator_value(window[2][0], [window[0][1], window[1][1]])
    return (("push", value),) if is_within(value, -LIMIT, LIMIT) else ()


def pushes_integer(instruction):
    """Tell whether the instruction is a push of an integer."""
    return instruction[0] == "push" and is_within(instruction[1], -LIMIT, LIMIT)


def changed(code, change):
    """Return the code after a change, with the skips over it shortened."""
    place, many, instead = change
    less = many - len(instead)
    before = [skipping_less(instruction, place - index, less) for index, instruction in enumerate(code[:place])]
    return tuple(before) + instead + code[place + many:]


def skipping_less(instruction, distance, less):
    """Return the instruction; if it skips the one at this distance, it skips so many fewer."""
    if instruction[0] in SKIPS and instruction[1] >= distance:
        return (instruction[0], instruction[1] - less)
    return instruction
