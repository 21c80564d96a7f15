"""The judge: whether code never fails and makes a record of each record (points 115 to 117).

A state is the tuple of the bounds of the values on the stack, the lowest one first.
"""

from sinktree.bounds import have_kinds, is_large, kind_bounds, lies_within, operator_bounds, union, value_bounds
from sinktree.errors import BadCode
from sinktree.machine import CODE_MOST, is_instruction
from sinktree.trees import OPERANDS


def judge(schema, code):
    """Return None if the code is accepted for the schema; otherwise raise BadCode."""
    check_forms(code)
    arriving = [[] for _ in range(len(code) + 1)]
    arriving[0].append(())
    for index, instruction in enumerate(code):
        # An instruction to which no state leads is not reached.
        if arriving[index]:
            after = state_after(schema, merged(arriving[index], index), instruction, index)
            for place in places_behind(instruction, index):
                arriving[place].append(after)
    # As skips lead forward only, the end is always reached.
    if merged(arriving[len(code)], len(code)):
        raise BadCode(len(code), "left")


def check_forms(code):
    """Raise BadCode if the code is too long, or an instruction has a wrong form or skips too far."""
    if not isinstance(code, tuple) or len(code) > CODE_MOST:
        raise BadCode(0, "shape")
    for index, instruction in enumerate(code):
        if not is_instruction(instruction) or max(places_behind(instruction, index)) > len(code):
            raise BadCode(index, "shape")


def places_behind(instruction, index):
    """Return the places that can follow the instruction with this index."""
    if instruction[0] == "jump":
        return [index + 1 + instruction[1]]
    if instruction[0] == "unless":
        return [index + 1, index + 1 + instruction[1]]
    return [index + 1]


def merged(states, index):
    """Return the least state that contains all of the states that lead to a place."""
    state = states[0]
    for other in states[1:]:
        if [bounds[0] for bounds in other] != [bounds[0] for bounds in state]:
            raise BadCode(index, "merge")
        state = tuple([union(first, second) for first, second in zip(state, other)])
    return state


def state_after(schema, state, instruction, index):
    """Return the state behind a reached instruction, or raise BadCode for the first fault of it."""
    first = len(state) - entries_of(instruction[0])
    if first < 0:
        raise BadCode(index, "empty")
    if instruction[0] in ("load", "store") and instruction[1] >= len(schema):
        raise BadCode(index, "field")
    entries = state[first:]
    if not are_right(schema, instruction, entries):
        raise BadCode(index, "kind")
    results = results_of(schema, instruction, entries)
    if any([is_large(bounds) for bounds in results]):
        raise BadCode(index, "large")
    if instruction[0] == "store" and not lies_within(entries[0], schema[instruction[1]][1]):
        raise BadCode(index, "range")
    return state[:first] + results


def entries_of(head):
    """Return how many values an instruction with this head pops."""
    if head in ("store", "unless"):
        return 1
    return OPERANDS.get(head, 0)


def are_right(schema, instruction, entries):
    """Tell whether the values that an instruction pops have the right kinds."""
    head = instruction[0]
    if head == "store":
        return entries[0][0] == schema[instruction[1]][1][0]
    if head == "unless":
        return entries[0][0] == "flag"
    return head not in OPERANDS or have_kinds(head, entries)


def results_of(schema, instruction, entries):
    """Return the tuple of the bounds of what an instruction pushes: one or none."""
    head = instruction[0]
    if head in ("store", "jump", "unless"):
        return ()
    if head == "push":
        return (value_bounds(instruction[1]),)
    if head == "word":
        return (("word", instruction[1:]),)
    if head == "load":
        return (kind_bounds(schema[instruction[1]][1]),)
    return (operator_bounds(head, entries, instruction[1:]),)
