"""A canal as it stands: its pounds, its locks, its boats, its account of water."""

BOATS = 4

# A boat's place is one of these two with the pound's or the lock's number; both
# are answered as they stand.
IN_POUND = 0
IN_LOCK = 1


class Canal:
    """All that is known of one canal; a new one has no pounds and no boats."""

    def __init__(self):
        self.leasts = []
        self.mosts = []
        self.waters = []
        self.volumes = []
        self.rooms = []
        # 1 or 0 for each lock, never a truth value, for they are answered.
        self.fulls = []
        self.places = [None] * BOATS
        self.gone = 0
        self.fed = 0

    def has_pound(self, number):
        """Tell whether there is a pound of that number."""
        return number < len(self.waters)

    def has_lock(self, number):
        """Tell whether there is a lock of that number."""
        return number < len(self.volumes)

    def has_boat(self, boat):
        """Tell whether that boat is there, in a pound or in a lock."""
        return boat < BOATS and self.places[boat] is not None

    def boats_at(self, sort, number):
        """Count the boats in a pound or in a lock."""
        return self.places.count((sort, number))

    def level_pound(self, lock):
        """Tell the pound with which a lock is level."""
        if self.fulls[lock] == 1:
            return lock
        return lock + 1

    def all_water(self):
        """Tell how much water is in the pounds and in the full locks."""
        in_locks = [volume * full for volume, full in zip(self.volumes, self.fulls)]
        return sum(self.waters) + sum(in_locks)

    def basin(self):
        """Tell the water and the locks, as a value that stays as it is."""
        return (tuple(self.waters), tuple(self.fulls))

    def stand(self):
        """Tell the water, the locks and the boats, as a value that stays as it is."""
        return (self.basin(), tuple(self.places))

    def dry_twin(self):
        """Make a canal with the same bounds, whose water, locks and boats are still to be set."""
        other = Canal()
        other.leasts = list(self.leasts)
        other.mosts = list(self.mosts)
        other.volumes = list(self.volumes)
        other.rooms = list(self.rooms)
        return other

    def pour(self, pound, water):
        """Pour water into a pound; tell how much of it leaves the canal."""
        left = water
        for number in range(pound, len(self.waters)):
            stays = min(left, self.mosts[number] - self.waters[number])
            self.waters[number] += stays
            left -= stays
        self.gone += left
        return left
