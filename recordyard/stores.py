"""Texts by names: what a yard keeps for its streams, and for its files."""


class Written:
    """A text that grows, and its time; it is kept in parts, as joining it for each one would take long."""

    def __init__(self, text, time):
        self.parts = [text]
        self.size = len(text)
        self.time = time

    def grow(self, text, time):
        """Write something at the end."""
        self.parts.append(text)
        self.size += len(text)
        self.time = time

    def whole(self):
        """The text as one."""
        text = "".join(self.parts)
        self.parts = [text]
        return text


class Store:
    """Texts by names, each with its time: what the clock showed when it was made or last written to."""

    def __init__(self, clock):
        self.clock = clock
        self.kept = {}

    def has(self, name):
        """Whether there is a text of this name, perhaps an empty one."""
        return name in self.kept

    def put(self, name, text):
        """Make a text, in the place of an earlier one."""
        self.kept[name] = Written(text, self.clock.now())

    def write(self, name, text):
        """Write at the end of a text, which is made if there is none; an empty one is written, too."""
        if name in self.kept:
            self.kept[name].grow(text, self.clock.now())
        else:
            self.put(name, text)

    def take_away(self, name):
        """Take a text away, if it is there."""
        if name in self.kept:
            del self.kept[name]

    def rename(self, name, other):
        """Give a text that is there another name, in the place of what had it; its time stays."""
        if name in self.kept:
            self.kept[other] = self.kept.pop(name)

    def text(self, name):
        """The text of this name, an empty one if there is none."""
        return self.kept[name].whole() if name in self.kept else ""

    def length(self, name):
        """How long the text of this name is."""
        return self.kept[name].size if name in self.kept else 0

    def time_of(self, name):
        """The time of a text that is there."""
        return self.kept[name].time

    def stand_as(self, other):
        """Keep what another store keeps, with the same times."""
        self.kept = {name: Written(other.text(name), other.time_of(name)) for name in other.all_names()}

    def all_names(self):
        """The names, ascending."""
        return sorted(self.kept)

    def contents(self):
        """The dict from names to texts."""
        return {name: self.text(name) for name in self.all_names()}
