"""What a processor has for itself, without accesses of shared memory."""

HOLD = 3


class Processor:
    """The private things of one processor."""

    def __init__(self, number, sizes):
        self.number = number
        self.stores = [[] for _ in range(sizes)]
        self.held = []
        self.unlinked = []
        self.retired = []
        self.is_reading = False
        self.running = None
        self.word = ""

    def has_room(self, size):
        """Tell whether the hand store of a size can have one more object."""
        return len(self.stores[size]) < HOLD

    def objects(self):
        """Return the pairs (word, object) of all objects that the processor has."""
        pairs = [("store", number) for store in self.stores for number in store]
        pairs.extend([("held", number) for number in self.held])
        pairs.extend([("unlinked", number) for number in self.unlinked])
        pairs.extend([("retired", number) for number, _ in self.retired])
        return pairs
