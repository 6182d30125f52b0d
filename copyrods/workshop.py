"""The workshop: the calls of one list, read and answered one behind another."""

from copyrods.motion import about_pivot
from copyrods.motion import fraction
from copyrods.motion import joined
from copyrods.motion import moved
from copyrods.motion import no_motion
from copyrods.motion import shift_apart
from copyrods.motion import square_between
from copyrods.motion import told_motion
from copyrods.motion import told_point
from copyrods.motion import told_staying
from copyrods.motion import whole_point

BEGIN = 0
DEVICE = 1
ROW = 2
COPY = 3
STAYS = 4
SAME = 5
UNDO = 6
ORDERS = 8
MAKE = 9
LOOK = 11

# Of each call, by its number: how many whole numbers it has, then how many rows.
CALL_FORMS = (
    (0, 0),  # begin
    (6, 0),  # device
    (0, 1),  # row
    (2, 1),  # copy
    (0, 1),  # stays
    (0, 2),  # same
    (0, 1),  # undo
    (0, 2),  # apart
    (0, 1),  # orders
    (4, 0),  # make
    (4, 1),  # far
    (0, 0),  # look
)

NO_WORKSHOP = -9
WRONG_NUMBER = -1
WRONG_ROW = -2
WORKSHOP_FULL = -5
NO_SUCH_ROW = -6

SHEET_EDGE = 100
SIZE_MOST = 9
ROW_MOST = 5
FOUND_ROW_MOST = 3
DEVICES_MOST = 6


class Call:
    """One call as it was handed in; end is where the next one begins."""

    def __init__(self, number, numbers, rows, end):
        self.number = number
        self.numbers = numbers
        self.rows = rows
        self.end = end


class Device:
    """A pantograph; its motion tells its size and whether it mirrors, but not always its pivot."""

    def __init__(self, pivot, motion):
        self.pivot = pivot
        self.motion = motion


class Workshop:
    """What the calls of one list work on; devices is None while there is no workshop."""

    def __init__(self):
        self.devices = None


class Trial:
    """A row that is tried, and what has been done to each point when it is through."""

    def __init__(self, row, motion):
        self.row = row
        self.motion = motion


def read_call(calls, start):
    form = CALL_FORMS[calls[start]]
    end = start + 1 + form[0]
    numbers = calls[start + 1:end]
    rows = []
    while len(rows) < form[1]:
        row_start = end + 1
        end = row_start + calls[end]
        rows.append(calls[row_start:end])
    return Call(calls[start], numbers, rows, end)


def is_on_sheet(number):
    return -SHEET_EDGE <= number <= SHEET_EDGE


def is_size_part(number):
    return 1 <= number <= SIZE_MOST


def is_row(devices, row):
    return len(row) <= ROW_MOST and all([number < len(devices) for number in row])


def is_build(build):
    """Whether a, b, upside and mirrors, which both device and make are handed, are within their bounds."""
    return is_size_part(build[0]) and is_size_part(build[1]) and build[2] <= 1 and build[3] <= 1


def size_of(build):
    return fraction(-build[0] if build[2] == 1 else build[0], build[1])


def answer_device(devices, numbers):
    build = numbers[2:]
    if not (is_on_sheet(numbers[0]) and is_on_sheet(numbers[1]) and is_build(build)):
        return [WRONG_NUMBER]
    if len(devices) == DEVICES_MOST:
        return [WORKSHOP_FULL]
    pivot = whole_point(numbers[0], numbers[1])
    devices.append(Device(pivot, about_pivot(pivot, size_of(build), build[3])))
    return [len(devices) - 1]


def row_motion(devices, row):
    motion = no_motion()
    for number in row:
        motion = joined(motion, devices[number].motion)
    return motion


def longer_by_one(devices, trials):
    """Each trial with each device put behind it, in the rows' order if the trials are in theirs."""
    longer = []
    for trial in trials:
        for number in range(len(devices)):
            longer.append(Trial(trial.row + [number], joined(trial.motion, devices[number].motion)))
    return longer


def first_with(trials, wanted):
    """The first trial whose motion is told by numbers that begin as wanted does; None if there is none."""
    for trial in trials:
        if told_motion(trial.motion)[:len(wanted)] == wanted:
            return trial
    return None


def answer_found_row(devices, start, wanted):
    """The shortest row, of as short ones the first, that behind start makes a motion as wanted."""
    trials = [Trial([], start)]
    found = first_with(trials, wanted)
    length = 0
    while found is None and length < FOUND_ROW_MOST:
        trials = longer_by_one(devices, trials)
        found = first_with(trials, wanted)
        length = length + 1
    if found is None:
        return [NO_SUCH_ROW]
    return [len(found.row)] + found.row


def answer_make(devices, build):
    if not is_build(build):
        return [WRONG_NUMBER]
    return answer_found_row(devices, no_motion(), [build[3]] + list(size_of(build)))


def all_orders(row):
    """Each order in which the row can stand, built by putting one device after another in at every place."""
    orders = [[]]
    for number in row:
        longer = []
        for order in orders:
            longer.extend([order[:place] + [number] + order[place:] for place in range(len(order) + 1)])
        orders = longer
    return orders


def answer_orders(devices, row):
    return [len(set([tuple(told_motion(row_motion(devices, order))) for order in all_orders(row)]))]


def answer_far(motion, numbers):
    one_copy = moved(motion, whole_point(numbers[0], numbers[1]))
    other_copy = moved(motion, whole_point(numbers[2], numbers[3]))
    return list(square_between(one_copy, other_copy))


def answer_look(devices):
    told = [len(devices)]
    for device in devices:
        told.extend(told_point(device.pivot) + list(device.motion.size) + [device.motion.mirrors])
    return told


def answer_two_rows(number, first, second):
    if number == SAME:
        return [1 if told_motion(first) == told_motion(second) else 0]
    return [0] + told_point(shift_apart(first, second))


def answer_one_row(devices, call):
    row = call.rows[0]
    if call.number == ORDERS:
        return answer_orders(devices, row)
    motion = row_motion(devices, row)
    if call.number == ROW:
        return told_motion(motion)
    if call.number == COPY:
        return [0] + told_point(moved(motion, whole_point(call.numbers[0], call.numbers[1])))
    if call.number == STAYS:
        return told_staying(motion)
    if call.number == UNDO:
        return answer_found_row(devices, motion, told_motion(no_motion()))
    return answer_far(motion, call.numbers)


def answer_rows(devices, call):
    """What is answered of a call that rows are handed to."""
    if not all([is_row(devices, row) for row in call.rows]):
        return [WRONG_ROW]
    # Of these calls only copy and far have numbers too, and all of these are places.
    if not all([is_on_sheet(number) for number in call.numbers]):
        return [WRONG_NUMBER]
    if len(call.rows) == 2:
        return answer_two_rows(call.number, row_motion(devices, call.rows[0]), row_motion(devices, call.rows[1]))
    return answer_one_row(devices, call)


def answer_in_workshop(devices, call):
    if call.number == DEVICE:
        return answer_device(devices, call.numbers)
    if call.number == MAKE:
        return answer_make(devices, call.numbers)
    if call.number == LOOK:
        return answer_look(devices)
    return answer_rows(devices, call)


def answer(workshop, call):
    if call.number == BEGIN:
        workshop.devices = []
        return [0]
    if workshop.devices is None:
        return [NO_WORKSHOP]
    return answer_in_workshop(workshop.devices, call)


def answers(calls):
    """The answers to the calls of one list, each with how many numbers it has before it."""
    workshop = Workshop()
    told = []
    start = 0
    while start < len(calls):
        call = read_call(calls, start)
        numbers = answer(workshop, call)
        told.append(len(numbers))
        told.extend(numbers)
        start = call.end
    return told
