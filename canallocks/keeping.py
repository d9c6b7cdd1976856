"""The keeper's other calls: boats put in and lifted, water fed, pounds told."""

from canallocks.state import BOATS, IN_LOCK, IN_POUND

HIGHEST_FEED = 10000


def put_boat(canal, boat, pound):
    """Put a boat into a pound."""
    if boat >= BOATS:
        return -1
    if not canal.has_pound(pound):
        return -4
    if canal.has_boat(boat):
        return -5
    canal.places[boat] = (IN_POUND, pound)
    return 0


def lift_boat(canal, boat):
    """Take a boat out of its pound."""
    if not canal.has_boat(boat):
        return -4
    if canal.places[boat][0] == IN_LOCK:
        return -3
    canal.places[boat] = None
    return 0


def feed(canal, water):
    """Pour water from outside into pound 0; tell how much leaves the canal."""
    if water > HIGHEST_FEED:
        return -1
    if not canal.has_pound(0):
        return -4
    canal.fed += water
    return canal.pour(0, water)


def tell_pound(canal, number):
    """Tell a pound's water and how many boats are in it."""
    if not canal.has_pound(number):
        return [-4]
    return [canal.waters[number], canal.boats_at(IN_POUND, number)]
