"""The four kinds of operations: when each is refused, what each does; moves, run."""

from canallocks.state import BOATS, IN_LOCK, IN_POUND

FILL = 0
EMPTY = 1
ENTER = 2
LEAVE = 3

MOST_TO_RUN = 100


def every_operation(canal):
    """List all operations on the canal's locks and on boats, in their order."""
    locks = list(range(len(canal.volumes)))
    fills = [(FILL, lock, 0) for lock in locks]
    empties = [(EMPTY, lock, 0) for lock in locks]
    enters = []
    for boat in range(BOATS):
        enters.extend([(ENTER, boat, lock) for lock in locks])
    leaves = [(LEAVE, boat, 0) for boat in range(BOATS)]
    return fills + empties + enters + leaves


def moves(canal):
    """List the operations that can be done now, in their order."""
    return [each for each in every_operation(canal) if refusal(canal, each[0], each[1], each[2]) == 0]


def tell_operations(operations):
    """Tell how many operations these are, and three numbers for each."""
    told = [len(operations)]
    for operation in operations:
        told.extend(operation)
    return told


def run(canal, numbers):
    """Do operations, three numbers each, up to the first that can't be; tell how many."""
    if len(numbers) % 3 != 0 or len(numbers) // 3 > MOST_TO_RUN:
        return -1
    for at in range(0, len(numbers), 3):
        if do_operation(canal, numbers[at], numbers[at + 1], numbers[at + 2]) < 0:
            return at // 3
    return len(numbers) // 3


def do_operation(canal, kind, a, b):
    """Do an operation and give its answer, or give its refusal alone."""
    refused = refusal(canal, kind, a, b)
    if refused < 0:
        return refused
    return carry_out(canal, kind, a, b)


def refusal(canal, kind, a, b):
    """Tell why an operation can't be done now, or 0 if it can."""
    if kind == FILL:
        return fill_refusal(canal, a)
    if kind == EMPTY:
        return empty_refusal(canal, a)
    if kind == ENTER:
        return enter_refusal(canal, a, b)
    if kind == LEAVE:
        return leave_refusal(canal, a)
    return -4


def fill_refusal(canal, lock):
    """Tell why a lock can't be filled, or 0."""
    if not canal.has_lock(lock):
        return -4
    if canal.fulls[lock] == 1:
        return -3
    if canal.waters[lock] - canal.volumes[lock] < canal.leasts[lock]:
        return -2
    return 0


def empty_refusal(canal, lock):
    """Tell why a lock can't be emptied, or 0."""
    if not canal.has_lock(lock):
        return -4
    if canal.fulls[lock] == 0:
        return -3
    return 0


def enter_refusal(canal, boat, lock):
    """Tell why a boat can't enter a lock, or 0."""
    if not canal.has_boat(boat) or not canal.has_lock(lock):
        return -4
    place = canal.places[boat]
    if place != (IN_POUND, lock) and place != (IN_POUND, lock + 1):
        return -3
    if place != (IN_POUND, canal.level_pound(lock)):
        return -2
    if canal.boats_at(IN_LOCK, lock) >= canal.rooms[lock]:
        return -5
    return 0


def leave_refusal(canal, boat):
    """Tell why a boat can't leave its lock, or 0."""
    if not canal.has_boat(boat):
        return -4
    if canal.places[boat][0] != IN_LOCK:
        return -3
    return 0


def carry_out(canal, kind, a, b):
    """Do an operation that is not refused and give its answer."""
    if kind == FILL:
        return fill(canal, a)
    if kind == EMPTY:
        return empty(canal, a)
    if kind == ENTER:
        return enter(canal, a, b)
    return leave(canal, a)


def fill(canal, lock):
    """Fill a lock from the pound above."""
    canal.waters[lock] -= canal.volumes[lock]
    canal.fulls[lock] = 1
    return 0


def empty(canal, lock):
    """Empty a lock into the pound below; tell how much leaves the canal."""
    canal.fulls[lock] = 0
    return canal.pour(lock + 1, canal.volumes[lock])


def enter(canal, boat, lock):
    """Bring a boat into a lock."""
    canal.places[boat] = (IN_LOCK, lock)
    return 0


def leave(canal, boat):
    """Bring a boat out of its lock; tell the pound in which it is then."""
    pound = canal.level_pound(canal.places[boat][1])
    canal.places[boat] = (IN_POUND, pound)
    return pound
