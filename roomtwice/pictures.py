"""The calls on one room, one behind another, and what they answer."""

from roomtwice.plane import cross, fraction, is_nowhere, line_told
from roomtwice.room import Room

NONE_SUCH = -2
BEYOND_ALL = -6
NOT_STARTED = -11
NOT_READY = -16
OUTSIDE = -22
FULL = -28
NOT_TO_BE_TOLD = -33

LAST_PLACE = 100
LAST_SLOPE = 1000
LAST_SHIFT = 100000
MOST = 6

START = 0

# By the call's number: how many numbers it has.
SIZES = (0, 4, 4, 2, 0, 2, 2, 0, 0, 2, 2, 4, 4, 4, 5, 0, 0)


def is_outside(numbers):
    return any([number < 0 or number > LAST_PLACE for number in numbers])


def is_line_outside(line):
    if line[0] == 0 and line[1] == 0:
        return True
    return max(abs(line[0]), abs(line[1])) > LAST_SLOPE or abs(line[2]) > LAST_SHIFT


def refusal(numbers, is_known):
    """What a call that asks for points, and for something to be known, is refused with; 0 if it is not."""
    if is_outside(numbers):
        return OUTSIDE
    if not is_known:
        return NOT_READY
    return 0


def where(point):
    """The answer that tells a point."""
    if point[2] == 0:
        return [BEYOND_ALL]
    return [0] + fraction(point[0], point[2]) + fraction(point[1], point[2])


def which(line):
    """The answer that tells a track; neither three times 0 nor the line beyond all is told."""
    if line[0] == 0 and line[1] == 0:
        return [NOT_TO_BE_TOLD]
    return [0] + line_told(line)


def one_more(kept, numbers):
    if is_outside(numbers):
        return [OUTSIDE]
    if len(kept) == MOST:
        return [FULL]
    kept.append(tuple(numbers))
    return [len(kept) - 1]


def start(room, numbers):
    room.begin()
    return [0]


def floor(room, numbers):
    return one_more(room.floor_points, numbers)


def thing(room, numbers):
    return one_more(room.things, numbers)


def drop(room, numbers):
    kind = numbers[0]
    number = numbers[1]
    if kind != 0 and kind != 1:
        return [OUTSIDE]
    kept = room.floor_points if kind == 0 else room.things
    if number >= len(kept):
        return [NONE_SUCH]
    kept.pop(number)
    return [len(kept)]


def ready(room, numbers):
    if room.is_ready():
        return [2]
    if room.floors_known():
        return [1]
    return [0]


def across(room, numbers):
    refused = refusal(numbers, room.floors_known())
    if refused < 0:
        return [refused]
    return where(room.across((numbers[0], numbers[1], 1)))


def back(room, numbers):
    refused = refusal(numbers, room.floors_known())
    if refused < 0:
        return [refused]
    return where(room.back((numbers[0], numbers[1], 1)))


def stand(room, numbers):
    if not room.is_ready():
        return [NOT_READY]
    return where(room.stand())


def stand1(room, numbers):
    if not room.is_ready():
        return [NOT_READY]
    return where(room.back(room.stand()))


def track(room, numbers):
    refused = refusal(numbers, room.is_ready())
    if refused < 0:
        return [refused]
    return which(room.track((numbers[0], numbers[1], 1)))


def track1(room, numbers):
    refused = refusal(numbers, room.is_ready())
    if refused < 0:
        return [refused]
    return which(room.first_track((numbers[0], numbers[1], 1)))


def may(room, numbers):
    refused = refusal(numbers, room.is_ready())
    if refused < 0:
        return [refused]
    return [1 if room.may(numbers) else 0]


def lies(room, numbers):
    refused = refusal(numbers, room.floors_known())
    if refused < 0:
        return [refused]
    return [1 if room.lies(numbers) else 0]


def lift(room, numbers):
    refused = refusal(numbers, room.is_ready())
    if refused < 0:
        return [refused]
    asked = room.lift(numbers)
    beside = room.lift(room.things[0])
    if asked is None or beside is None:
        return [NOT_TO_BE_TOLD]
    return [0] + fraction(asked[0] * beside[1], asked[1] * beside[0])


def cut(room, numbers):
    line = numbers[2:]
    if is_line_outside(line):
        return [OUTSIDE]
    refused = refusal(numbers[:2], room.is_ready())
    if refused < 0:
        return [refused]
    meeting = cross(room.track((numbers[0], numbers[1], 1)), line)
    if is_nowhere(meeting):
        return [NOT_TO_BE_TOLD]
    return where(meeting)


def fits(room, numbers):
    if not room.is_ready():
        return [NOT_READY]
    return [1 if room.fits() else 0]


def state(room, numbers):
    told = [len(room.floor_points), len(room.things)]
    for seen in room.floor_points + room.things:
        told.extend(seen)
    return told


# By the call's number: the function that answers it, handed the room and the call's numbers.
ANSWERING = (
    start, floor, thing, drop, ready, across, back, stand, stand1, track, track1, may, lies, lift, cut, fits, state,
)


def answer_of(room, call, numbers):
    if call != START and not room.started:
        return [NOT_STARTED]
    answering = ANSWERING[call]
    return answering(room, numbers)


def answers(calls):
    """For each call, in order, how many numbers are answered, then these."""
    room = Room()
    told = []
    place = 0
    while place < len(calls):
        call = calls[place]
        behind = place + 1 + SIZES[call]
        answer = answer_of(room, call, calls[place + 1:behind])
        told.append(len(answer))
        told.extend(answer)
        place = behind
    return told
