"""Judged yards as far as they decide what is written for records."""

from recordyard.forms import form_at_level, form_of_line
from recordyard.handlers import StreamHandler
from recordyard.levels import NOTSET, WARNING
from recordyard.orders import is_record_name, line_up

LAST_RESORT = 0


class Line:
    """What a handler writes to its stream, from a level on, for the names that its filters let by.

    name is the one that leads to the handler, or None.
    """

    def __init__(self, name, level, filters, stream, form):
        self.name = name
        self.level = level
        self.filters = filters
        self.stream = stream
        self.form = form

    def at_level(self, level):
        """The same line with another level."""
        return Line(self.name, level, self.filters, self.stream, self.form)


class Post:
    """A logger; lines are the numbers of its handlers' lines."""

    def __init__(self, level, propagate, disabled, filters, lines):
        self.level = level
        self.propagate = propagate
        self.disabled = disabled
        self.filters = filters
        self.lines = lines

    def at_level(self, level):
        """The same post with another level."""
        return Post(level, self.propagate, self.disabled, self.filters, self.lines)

    def with_propagate(self, propagate):
        """The same post, from which records go on or not."""
        return Post(self.level, propagate, self.disabled, self.filters, self.lines)


def names_of(filters):
    """The names of Filters."""
    return [one.name for one in filters]


def line_of(handler):
    """The line of a handler: of one that writes nothing, an empty one."""
    leading = handler.yard.getHandlerByName(handler.name) == handler
    name = handler.name if leading else None
    filters = names_of(handler.filters)
    if not isinstance(handler, StreamHandler):
        return Line(name, handler.level, filters, "", "")
    return Line(name, handler.level, filters, handler.stream, form_of_line(handler.formatter, handler.terminator))


def lets_by(filters, names):
    """Whether Filters of these names let a record by; names are a dict of those that let it by."""
    return all(name in names for name in filters)


def sight_of(yard):
    """The sight of a judged yard.

    Loggers whose names no record has are left out: no record comes by them.
    """
    lines = [Line(None, WARNING, [], "stderr", form_of_line(None, "\n"))]
    numbers = {}
    posts = {}
    for name, logger in yard.tree.roll():
        if is_record_name(name):
            for handler in logger.handlers:
                if handler not in numbers:
                    numbers[handler] = len(lines)
                    lines.append(line_of(handler))
            own = [numbers[handler] for handler in logger.handlers]
            posts[name] = Post(logger.level, logger.propagate, logger.disabled, names_of(logger.filters), own)
    return Sight(yard.bar(), dict(yard.levels.names), lines, posts)


class Sight:
    """A judged yard: its bar, its names of levels, its lines, and its posts by their names.

    The first line is that of the last resort. Altered sights may have other levels and ways, but not
    other lines and filters.
    """

    def __init__(self, barred, level_words, lines, posts):
        self.barred = barred
        self.level_words = level_words
        self.lines = lines
        self.posts = posts
        self.kept_forms = {}

    def add_posts(self, names):
        """Put posts for loggers that are not there yet, and would change nothing if they were made."""
        for name in names:
            if is_record_name(name) and name not in self.posts:
                self.posts[name] = Post(NOTSET, True, False, [], [])

    def altered(self, entries):
        """The sight as it is when the entries are laid over the yard."""
        lines = list(self.lines)
        posts = dict(self.posts)
        for entry in entries:
            if entry[0] == "handlers":
                lines = [line.at_level(entry[3]) if line.name == entry[1] else line for line in lines]
            elif entry[0] == "root":
                posts[""] = posts[""].at_level(entry[2])
            elif entry[2] == "level":
                posts[entry[1]] = posts[entry[1]].at_level(entry[3])
            else:
                posts[entry[1]] = posts[entry[1]].with_propagate(entry[3])
        return Sight(self.barred, self.level_words, lines, posts)

    def trace(self, name, below):
        """The way of a record of this name, or of one below it, as far as names and filters decide it.

        None if a filter of its own logger ends it, else the post from which on it is handled,
        whether this is its own logger, and the numbers of the lines whose filters let it by.
        """
        names = {one: True for one in line_up(name)}
        if name == "" and not below:
            names["root"] = True
        nearest = self.nearest(name)
        own = nearest == name and not below
        if own and not lets_by(self.posts[name].filters, names):
            return None
        numbers = [number for number, line in enumerate(self.lines) if lets_by(line.filters, names)]
        return (nearest, own, tuple(numbers))

    def nearest(self, name):
        """The longest of this name and its beginnings that has a post."""
        while name not in self.posts:
            name = name.rpartition(".")[0]
        return name

    def above(self, name):
        """The name of the post above that of a name which is not empty."""
        return self.nearest(name.rpartition(".")[0])

    def lane(self, trace):
        """Where a way leads as things stand: the least level, and the numbers of lines in their order."""
        if trace is None:
            return None
        nearest, own, numbers = trace
        if own and self.posts[nearest].disabled:
            return None
        low = max(1, self.barred + 1, self.effective_level(nearest))
        reached = self.reached(nearest)
        if not reached:
            reached = [LAST_RESORT]
        return (low, tuple([number for number in reached if number in numbers]))

    def effective_level(self, name):
        """The level that holds at a post."""
        while name != "" and self.posts[name].level == NOTSET:
            name = self.above(name)
        return self.posts[name].level

    def reached(self, name):
        """The numbers of the lines that are reached from a post, whatever their filters are."""
        numbers = list(self.posts[name].lines)
        while name != "" and self.posts[name].propagate:
            name = self.above(name)
            numbers.extend(self.posts[name].lines)
        return numbers

    def active(self, lane, level):
        """The numbers of the lines that are written at a level, in their order."""
        if lane is None or level < lane[0]:
            return ()
        return tuple([number for number in lane[1] if self.lines[number].level <= level])

    def forms_at(self, numbers, level):
        """What lines write at a level, or for 0 at all that have no name: forms by streams."""
        forms = {}
        for number in numbers:
            stream = self.lines[number].stream
            forms[stream] = forms.get(stream, "") + self.form_at(number, level)
        return {stream: forms[stream] for stream in forms if forms[stream] != ""}

    def form_at(self, number, level):
        """The form of one line at a level, which is kept, as it is asked for often."""
        key = (number, level)
        if key not in self.kept_forms:
            self.kept_forms[key] = form_at_level(self.lines[number].form, self.level_words, level)
        return self.kept_forms[key]

    def raw(self, numbers):
        """What lines write, with the marks for levels and their names in it: forms by streams."""
        forms = {}
        for number in numbers:
            line = self.lines[number]
            forms[line.stream] = forms.get(line.stream, "") + line.form
        return {stream: forms[stream] for stream in forms if forms[stream] != ""}
