"""What one album keeps from call to call."""


class Album:
    """Kinds with their weights, how many pictures of each both collectors have, packets bought."""

    def __init__(self):
        self.begun = False
        self.weights = []
        self.owned = [[], []]
        self.packets = 0

    def begin(self):
        self.begun = True
        self.weights = []
        self.owned = [[], []]
        self.packets = 0

    def has_collector(self, collector):
        return collector < len(self.owned)

    def has_kind(self, kind):
        return kind < len(self.weights)

    def has_pair(self, collector, kind):
        return self.has_collector(collector) and self.has_kind(kind)

    def add_kind(self, weight):
        self.weights.append(weight)
        self.owned[0].append(0)
        self.owned[1].append(0)

    def add_picture(self, collector, kind):
        self.owned[collector][kind] += 1

    def take_picture(self, collector, kind):
        self.owned[collector][kind] -= 1
