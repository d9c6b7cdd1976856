"""A canal as it stands: its pounds, its locks, its boats, its account of water."""

BOATS = 4

# A boat's place is one of these two with the pound's or the lock's number.
IN_POUND = 0
IN_LOCK = 1


class Canal:
    """All that is known of one canal; a new one has no pounds and no boats."""

    def __init__(self):
        self.leasts = []
        self.mosts = []
        self.waters = []
        self.volumes = []
        self.rooms = []
        # 1 or 0 for each lock, never a truth value, for they are answered.
        self.fulls = []
        self.places = [None] * BOATS
        self.gone = 0
        self.fed = 0

    def has_pound(self, number):
        """Tell whether there is a pound of that number."""
        return number < len(self.waters)

    def has_lock(self, number):
        """Tell whether there is a lock of that number."""
        return number < len(self.volumes)

    def has_boat(self, boat):
        """Tell whether that boat is there, in a pound or in a lock."""
        return boat < BOATS and self.places[boat] is not None

    def boats_at(self, sort, number):
        """Count the boats in a pound or in a lock."""
        return self.places.count((sort, number))

    def level_pound(self, lock):
        """Tell the pound with which a lock is level."""
        if self.fulls[lock] == 1:
            return lock
        return lock + 1

    def pour(self, pound, water):
        """Pour water into a pound; tell how much of it leaves the canal."""
        left = water
        for number in range(pound, len(self.waters)):
            stays = min(left, self.mosts[number] - self.waters[number])
            self.waters[number] += stays
            left -= stays
        self.gone += left
        return left
