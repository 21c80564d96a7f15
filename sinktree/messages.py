"""Messages, what they do to a record, and two of them made one (points 122 to 124)."""

from sinktree.errors import BadCode
from sinktree.fusing import fuse
from sinktree.machine import run


def apply(message, record):
    """Return what becomes of a record, or of None if there is none."""
    if message[0] == "put":
        return message[1]
    if message[0] == "drop" or record is None:
        return None
    return run(message[1], record)


def meet(first, second):
    """Return one message that does what the first one and then the second one do, or None if there is none."""
    if second[0] in ("put", "drop"):
        return second
    if first[0] == "put":
        return ("put", run(second[1], first[1]))
    if first[0] == "drop":
        return first
    try:
        return ("run", fuse(first[1], second[1]))
    except BadCode:
        return None
