"""What a canal's stands lead to by one operation, and how much that uses."""

from canallocks.operations import EMPTY, FILL, do_operation, every_operation

# A row of operations is kept as a text, one sign for each. The signs rise as
# the operations do: of two rows of the same length the lower text is the one
# that's first by the first operation in which they differ.
SIGNS = "0123456789abcdefghijklmnopqrstuvwxyz"


class Steps:
    """The steps from any stand; a stand is a pair: its basin, its boats' places.

    No boat changes what can be filled or emptied, and boats ask of the water
    only which locks are full. So what's found of a basin, and what's found of
    boats between such locks, serves for all stands that share it.
    """

    def __init__(self, canal, water_counts):
        # What can be done is tried on a canal of its own: to plan only asks.
        self.scratch = canal.dry_twin()
        self.water_counts = water_counts
        self.operations = every_operation(canal)
        signed = list(zip(SIGNS, self.operations))
        self.on_water = [pair for pair in signed if pair[1][0] <= EMPTY]
        self.on_boats = [pair for pair in signed if pair[1][0] > EMPTY]
        self.found_of_water = {}
        self.found_of_boats = {}

    def steps_from(self, stand):
        """List what can be done at a stand: its sign, its use, the stand behind it."""
        basin = stand[0]
        places = stand[1]
        steps = [(sign, use, (then, places)) for sign, use, then in self.water_steps(basin)]
        steps.extend([(sign, 0, (basin, then)) for sign, then in self.boat_steps(basin[1], places)])
        return steps

    def water_steps(self, basin):
        """List the fillings and emptyings at a basin: sign, use, basin behind it."""
        if basin not in self.found_of_water:
            self.found_of_water[basin] = self.find_water_steps(basin)
        return self.found_of_water[basin]

    def find_water_steps(self, basin):
        """Try each filling and emptying at a basin."""
        steps = []
        for sign, operation in self.on_water:
            self.scratch.waters = list(basin[0])
            self.scratch.fulls = list(basin[1])
            if do_operation(self.scratch, operation[0], operation[1], operation[2]) >= 0:
                steps.append((sign, self.use_of(operation), self.scratch.basin()))
        return steps

    def boat_steps(self, fulls, places):
        """List the enterings and leavings between such locks: sign, places behind it."""
        if (fulls, places) not in self.found_of_boats:
            self.found_of_boats[(fulls, places)] = self.find_boat_steps(fulls, places)
        return self.found_of_boats[(fulls, places)]

    def find_boat_steps(self, fulls, places):
        """Try each entering and leaving between such locks."""
        steps = []
        self.scratch.fulls = list(fulls)
        for sign, operation in self.on_boats:
            self.scratch.places = list(places)
            if do_operation(self.scratch, operation[0], operation[1], operation[2]) >= 0:
                steps.append((sign, tuple(self.scratch.places)))
        return steps

    def use_of(self, operation):
        """Tell how much an operation uses."""
        if self.water_counts and operation[0] == FILL:
            return self.scratch.volumes[operation[1]]
        return 0

    def row_of(self, signs):
        """Tell the operations of a row that's kept as a text."""
        return [self.operations[SIGNS.index(sign)] for sign in signs]
