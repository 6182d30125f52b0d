"""The workshop: the calls of one list, read and answered one behind another."""

from copyrods.motion import about_pivot
from copyrods.motion import fraction
from copyrods.motion import joined
from copyrods.motion import moved
from copyrods.motion import no_motion
from copyrods.motion import told_motion
from copyrods.motion import told_point
from copyrods.motion import told_staying
from copyrods.motion import whole_point

BEGIN = 0
DEVICE = 1
ROW = 2
COPY = 3
STAYS = 4
SAME = 5

# Of each call, by its number: how many whole numbers it has, then how many rows.
CALL_FORMS = (
    (0, 0),  # begin
    (6, 0),  # device
    (0, 1),  # row
    (2, 1),  # copy
    (0, 1),  # stays
    (0, 2),  # same
    (0, 1),  # undo
    (0, 2),  # apart
    (0, 1),  # orders
    (4, 0),  # make
    (4, 1),  # far
    (0, 0),  # look
)

NO_WORKSHOP = -9
WRONG_NUMBER = -1
WRONG_ROW = -2
WORKSHOP_FULL = -5

SHEET_EDGE = 100
SIZE_MOST = 9
ROW_MOST = 5
DEVICES_MOST = 6


class Call:
    """One call as it was handed in; end is where the next one begins."""

    def __init__(self, number, numbers, rows, end):
        self.number = number
        self.numbers = numbers
        self.rows = rows
        self.end = end


class Device:
    """A pantograph; its size is below 0 if it copies upside down."""

    def __init__(self, pivot, size, mirrors):
        self.pivot = pivot
        self.size = size
        self.mirrors = mirrors


class Workshop:
    """What the calls of one list work on; devices is None while there is no workshop."""

    def __init__(self):
        self.devices = None


def read_call(calls, start):
    form = CALL_FORMS[calls[start]]
    end = start + 1 + form[0]
    numbers = calls[start + 1:end]
    rows = []
    while len(rows) < form[1]:
        row_start = end + 1
        end = row_start + calls[end]
        rows.append(calls[row_start:end])
    return Call(calls[start], numbers, rows, end)


def is_on_sheet(number):
    return -SHEET_EDGE <= number <= SHEET_EDGE


def is_size_part(number):
    return 1 <= number <= SIZE_MOST


def is_row(devices, row):
    return len(row) <= ROW_MOST and all([number < len(devices) for number in row])


def is_device(numbers):
    places_fit = all([is_on_sheet(number) for number in numbers[0:2]])
    sizes_fit = all([is_size_part(number) for number in numbers[2:4]])
    return places_fit and sizes_fit and numbers[4] <= 1 and numbers[5] <= 1


def answer_device(devices, numbers):
    if not is_device(numbers):
        return [WRONG_NUMBER]
    if len(devices) == DEVICES_MOST:
        return [WORKSHOP_FULL]
    divided = -numbers[2] if numbers[4] == 1 else numbers[2]
    devices.append(Device(whole_point(numbers[0], numbers[1]), fraction(divided, numbers[3]), numbers[5]))
    return [len(devices) - 1]


def row_motion(devices, row):
    motion = no_motion()
    for number in row:
        device = devices[number]
        motion = joined(motion, about_pivot(device.pivot, device.size, device.mirrors))
    return motion


def answer_rows(devices, call):
    """What is answered of a call whose rows and numbers are as they should be."""
    motion = row_motion(devices, call.rows[0])
    if call.number == ROW:
        return told_motion(motion)
    if call.number == COPY:
        return [0] + told_point(moved(motion, whole_point(call.numbers[0], call.numbers[1])))
    if call.number == STAYS:
        return told_staying(motion)
    if call.number == SAME:
        other_motion = row_motion(devices, call.rows[1])
        return [1 if told_motion(motion) == told_motion(other_motion) else 0]
    raise NotImplementedError("of the calls with rows there are row, copy, stays and same")


def answer_in_workshop(devices, call):
    if call.number == DEVICE:
        return answer_device(devices, call.numbers)
    if call.rows == []:
        raise NotImplementedError("of the calls without rows there are begin and device")
    if not all([is_row(devices, row) for row in call.rows]):
        return [WRONG_ROW]
    # Of the calls with rows only copy and far have numbers too, and all of these are places.
    if not all([is_on_sheet(number) for number in call.numbers]):
        return [WRONG_NUMBER]
    return answer_rows(devices, call)


def answer(workshop, call):
    if call.number == BEGIN:
        workshop.devices = []
        return [0]
    if workshop.devices is None:
        return [NO_WORKSHOP]
    return answer_in_workshop(workshop.devices, call)


def answers(calls):
    """The answers to the calls of one list, each with how many numbers it has before it."""
    workshop = Workshop()
    told = []
    start = 0
    while start < len(calls):
        call = read_call(calls, start)
        numbers = answer(workshop, call)
        told.append(len(numbers))
        told.extend(numbers)
        start = call.end
    return told
