"""The call begin: a canal made anew from the numbers of its pounds and locks."""

from canallocks.state import BOATS

LEAST_POUNDS = 2
MOST_POUNDS = 6
HIGHEST_MOST = 1000
HIGHEST_VOLUME = 100
HIGHEST_ROOM = 4


def begin(canal, pounds, locks):
    """Make the canal anew, without boats and with an account of nothing."""
    if not canal_can_be(pounds, locks):
        return -1
    canal.leasts = every_third(pounds, 0)
    canal.mosts = every_third(pounds, 1)
    canal.waters = every_third(pounds, 2)
    canal.volumes = every_third(locks, 0)
    canal.rooms = every_third(locks, 1)
    canal.fulls = every_third(locks, 2)
    canal.places = [None] * BOATS
    canal.gone = 0
    canal.fed = 0
    return 0


def every_third(numbers, first):
    """Take every third number, from that place on, as a list of its own."""
    return [numbers[at] for at in range(first, len(numbers), 3)]


def canal_can_be(pounds, locks):
    """Tell whether these numbers make a canal."""
    if len(pounds) % 3 != 0 or len(locks) % 3 != 0:
        return False
    how_many = len(pounds) // 3
    if how_many < LEAST_POUNDS or how_many > MOST_POUNDS:
        return False
    if len(locks) // 3 != how_many - 1:
        return False
    return pounds_can_be(pounds) and locks_can_be(locks)


def pounds_can_be(pounds):
    """Tell whether each three numbers are a pound's least, most and water."""
    for at in range(0, len(pounds), 3):
        least = pounds[at]
        most = pounds[at + 1]
        water = pounds[at + 2]
        if most > HIGHEST_MOST or water < least or water > most:
            return False
    return True


def locks_can_be(locks):
    """Tell whether each three numbers are a lock's volume, room and 1 or 0."""
    for at in range(0, len(locks), 3):
        if not 1 <= locks[at] <= HIGHEST_VOLUME:
            return False
        if not 1 <= locks[at + 1] <= HIGHEST_ROOM:
            return False
        if locks[at + 2] > 1:
            return False
    return True
