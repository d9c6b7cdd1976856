"""The keeper's other calls: boats put in and lifted, water fed, what's there told."""

from canallocks.state import BOATS, IN_LOCK, IN_POUND

HIGHEST_FEED = 10000


def put_boat(canal, boat, pound):
    """Put a boat into a pound."""
    if boat >= BOATS:
        return -1
    if not canal.has_pound(pound):
        return -4
    if canal.has_boat(boat):
        return -5
    canal.places[boat] = (IN_POUND, pound)
    return 0


def lift_boat(canal, boat):
    """Take a boat out of its pound."""
    if not canal.has_boat(boat):
        return -4
    if canal.places[boat][0] == IN_LOCK:
        return -3
    canal.places[boat] = None
    return 0


def feed(canal, water):
    """Pour water from outside into pound 0; tell how much leaves the canal."""
    if water > HIGHEST_FEED:
        return -1
    if not canal.has_pound(0):
        return -4
    canal.fed += water
    return canal.pour(0, water)


def tell_pound(canal, number):
    """Tell a pound's water and how many boats are in it."""
    if not canal.has_pound(number):
        return [-4]
    return [canal.waters[number], canal.boats_at(IN_POUND, number)]


def tell_lock(canal, number):
    """Tell whether a lock is full, and how many boats are in it."""
    if not canal.has_lock(number):
        return [-4]
    return [canal.fulls[number], canal.boats_at(IN_LOCK, number)]


def tell_boat(canal, boat):
    """Tell whether a boat is in a pound or in a lock, and in which."""
    if not canal.has_boat(boat):
        return [-4]
    return list(canal.places[boat])


def tell_sum(canal):
    """Tell all water there is, what has left and what has come in since begin."""
    return [canal.all_water(), canal.gone, canal.fed]
