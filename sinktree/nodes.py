"""Keys, and the buffers of messages in the branches of the tree (points 210 to 214)."""

from sinktree.basics import is_word
from sinktree.messages import apply, meet

LEAF_MOST = 4
LEAF_LEAST = 2
FAN_MOST = 4
BUFFER_MOST = 6


def is_key(value):
    """Tell whether the value is a key."""
    return is_word(value)


def child_index(keys, key):
    """Return the index of the child that is responsible for the key in a branch with these keys."""
    return len([other for other in keys if other <= key])


def add_message(buffer, key, message):
    """Return the buffer with one more message for the key."""
    before = tuple([entry for entry in buffer if entry[0] < key])
    behind = tuple([entry for entry in buffer if entry[0] > key])
    messages = messages_for(buffer, key) + (message,)
    return before + ((key, combined(messages)),) + behind


def messages_for(buffer, key):
    """Return the messages that wait for the key."""
    for other, messages in buffer:
        if other == key:
            return messages
    return ()


def combined(messages):
    """Return the messages with the last two replaced by the one that they make, as often as they make one."""
    while len(messages) > 1:
        met = meet(messages[-2], messages[-1])
        if met is None:
            break
        messages = messages[:-2] + (met,)
    return messages


def join_buffers(older, newer):
    """Return the older buffer with all messages of the newer one added to it."""
    buffer = older
    for key, messages in newer:
        for message in messages:
            buffer = add_message(buffer, key, message)
    return buffer


def count_messages(buffer):
    """Return the number of messages of all keys together."""
    return sum([len(messages) for _, messages in buffer])


def apply_messages(messages, record):
    """Return what becomes of a record, or of None if there is none, by the messages in their order."""
    for message in messages:
        record = apply(message, record)
    return record
