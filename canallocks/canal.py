"""The calls on one canal, handed over as one list, and their answers."""

from canallocks.building import begin
from canallocks.keeping import feed, lift_boat, put_boat, tell_boat, tell_lock, tell_pound, tell_sum
from canallocks.operations import do_operation, moves, run, tell_operations
from canallocks.planning import plan
from canallocks.reader import Reader
from canallocks.state import BOATS, Canal


def answer_begin(canal, reader):
    """Answer the call begin (pounds, locks)."""
    pounds = reader.row()
    locks = reader.row()
    return [begin(canal, pounds, locks)]


def answer_boat(canal, reader):
    """Answer the call boat (boat, pound)."""
    boat = reader.number()
    pound = reader.number()
    return [put_boat(canal, boat, pound)]


def answer_lift(canal, reader):
    """Answer the call lift (boat)."""
    boat = reader.number()
    return [lift_boat(canal, boat)]


def answer_do(canal, reader):
    """Answer the call do (kind, a, b)."""
    kind = reader.number()
    a = reader.number()
    b = reader.number()
    return [do_operation(canal, kind, a, b)]


def answer_feed(canal, reader):
    """Answer the call feed (water)."""
    water = reader.number()
    return [feed(canal, water)]


def answer_pound(canal, reader):
    """Answer the call pound (number)."""
    number = reader.number()
    return tell_pound(canal, number)


def answer_lock(canal, reader):
    """Answer the call lock (number)."""
    number = reader.number()
    return tell_lock(canal, number)


def answer_where(canal, reader):
    """Answer the call where (boat)."""
    boat = reader.number()
    return tell_boat(canal, boat)


def answer_sum(canal, reader):
    """Answer the call sum (), of which there's no more to read."""
    return tell_sum(canal)


def answer_moves(canal, reader):
    """Answer the call moves (), of which there's no more to read."""
    return tell_operations(moves(canal))


def answer_plan(canal, reader):
    """Answer the call plan (how, a, b, c, d)."""
    how = reader.number()
    wanted = [reader.number() for boat in range(BOATS)]
    return plan(canal, how, wanted)


def answer_run(canal, reader):
    """Answer the call run (operations)."""
    numbers = reader.row()
    return [run(canal, numbers)]


# A call's number is its place in this row.
ANSWERERS = (
    answer_begin,
    answer_boat,
    answer_lift,
    answer_do,
    answer_feed,
    answer_pound,
    answer_lock,
    answer_where,
    answer_sum,
    answer_moves,
    answer_plan,
    answer_run,
)


def answers(calls):
    """Answer each call in order on a new canal: how many numbers, then these."""
    canal = Canal()
    reader = Reader(calls)
    given = []
    while reader.has_more():
        told = ANSWERERS[reader.number()](canal, reader)
        given.append(len(told))
        given.extend(told)
    return given
