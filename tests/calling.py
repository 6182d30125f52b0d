"""Writes calls as the interface asks for them, and takes the answers apart."""

from copyrods.workshop import answers

BEGIN = [0]
LOOK = [11]
LONGEST_ROW = 5
LONGEST_FOUND_ROW = 3
MOST_CALLS = 60


def counted(row):
    return [len(row)] + list(row)


def device(right, up, a, b, upside=0, mirrors=0):
    return [1, right, up, a, b, upside, mirrors]


def row(*devices):
    return [2] + counted(devices)


def copy(right, up, devices):
    return [3, right, up] + counted(devices)


def stays(*devices):
    return [4] + counted(devices)


def same(devices, others):
    return [5] + counted(devices) + counted(others)


def undo(*devices):
    return [6] + counted(devices)


def apart(devices, others):
    return [7] + counted(devices) + counted(others)


def orders(*devices):
    return [8] + counted(devices)


def make(a, b, upside=0, mirrors=0):
    return [9, a, b, upside, mirrors]


def far(right, up, later, over, devices):
    return [10, right, up, later, over] + counted(devices)


def taken_apart(given):
    """One list for each call; fails if the counts don't fit the numbers."""
    parts = []
    start = 0
    while start < len(given):
        end = start + 1 + given[start]
        if given[start] < 1 or end > len(given):
            raise AssertionError(f"a count is wrong at {start} of {given}")
        parts.append(given[start + 1:end])
        start = end
    return parts


def ask(*calls):
    """What is answered to each of the calls, which are handed in as one list."""
    parts = taken_apart(answers([number for call in calls for number in call]))
    if len(parts) != len(calls):
        raise AssertionError(f"{len(calls)} calls have {len(parts)} answers")
    return parts


def ask_last(*calls):
    return ask(*calls)[-1]


def ask_after(opening, calls):
    """What is answered to any number of calls that change nothing, each behind the opening."""
    room = MOST_CALLS - len(opening)
    parts = []
    for start in range(0, len(calls), room):
        parts += ask(*opening, *calls[start:start + room])[len(opening):]
    return parts
