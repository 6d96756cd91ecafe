"""Two judged yards side by side, and the least record that parts them.

Records go in groups: to those of one name, or of all names below one, both yards do the same. What
they write for a group from a level to the next bound is one form for each stream; texts for all its
records are alike only if the forms are, so that few names, levels and messages need be tried.
"""

from recordyard.cuts import single_level, spans_of
from recordyard.forms import LEVEL_MARK, MESSAGE_MARK, NAME_MARK, filled
from recordyard.orders import name_order, next_word, written_name


class Ground:
    """All records, as they go at two sights; names and levels contain what both of them need."""

    def __init__(self, one, other, names, levels):
        self.one = one
        self.other = other
        self.taken = {name: True for name in names}
        self.spans = spans_of(levels)
        self.alike_raw = {}
        self.pairs = {}
        self.cases = []
        for name in names:
            for below in (False, True):
                self.cases.append((name, below, (one.trace(name, below), other.trace(name, below))))
        self.cases = sorted(self.cases, key=least_name_order)

    def least(self, one):
        """The least record for which the one sight, perhaps altered, differs from the other one, or None."""
        best = None
        doubts = {}
        for name, below, traces in self.cases:
            if best is not None and name_order(best[0]) < name_order(first_name(name, below)):
                return best
            if traces not in doubts:
                doubts[traces] = self.doubts(one, one.lane(traces[0]), self.other.lane(traces[1]))
            found = self.least_of(name, below, doubts[traces]) if doubts[traces] else None
            if best is None or (found is not None and name_order(found[0]) < name_order(best[0])):
                best = found
        return best

    def doubts(self, one, lane, other_lane):
        """The spans of levels in which two lanes may differ, each with the lines that are written there."""
        found = []
        for low, high in self.spans:
            numbers = one.active(lane, low)
            other_numbers = self.other.active(other_lane, low)
            level = single_level(low, high)
            same_words = level == 0 or self.one.level_words.get(level) == self.other.level_words.get(level)
            if not same_words or not self.are_alike_raw(numbers, other_numbers):
                found.append((low, level, numbers, other_numbers))
        return found

    def are_alike_raw(self, numbers, other_numbers):
        """Whether lines write the same, if levels have the same names."""
        key = (numbers, other_numbers)
        if key not in self.alike_raw:
            self.alike_raw[key] = self.one.raw(numbers) == self.other.raw(other_numbers)
        return self.alike_raw[key]

    def pair_of(self, doubt):
        """What the two sights write in a span, or None if this is the same for all names."""
        _, level, numbers, other_numbers = doubt
        key = (level, numbers, other_numbers)
        if key not in self.pairs:
            pair = (self.one.forms_at(numbers, level), self.other.forms_at(other_numbers, level))
            self.pairs[key] = None if pair[0] == pair[1] else pair
        return self.pairs[key]

    def least_of(self, name, below, doubts):
        """The least record of a name, or of those below it, that parts the sights, or None."""
        if not below:
            found = self.least_at(written_name(name), doubts)
            return None if found is None else (name, *found)
        if all(self.pair_of(doubt) is None for doubt in doubts):
            return None
        # It ends soon: of two free names that differ in a letter, at most one hides the difference.
        word = "a"
        while True:
            longer = word if name == "" else name + "." + word
            if longer not in self.taken and longer != "root":
                found = self.least_at(longer, doubts)
                if found is not None:
                    return (longer, *found)
            word = next_word(word)

    def least_at(self, text, doubts):
        """The least level and message that part the sights if this is the name that is written, or None."""
        for doubt in doubts:
            pair = self.pair_of(doubt)
            if pair is not None:
                forms, other_forms = filled(pair[0], NAME_MARK, text), filled(pair[1], NAME_MARK, text)
                if forms != other_forms:
                    return least_beyond_name(forms, other_forms, doubt[0])
        return None


def first_name(name, below):
    """The least name that a record of a name, or of those below it, may have."""
    if not below:
        return name
    return "a" if name == "" else name + ".a"


def least_name_order(case):
    """What the order of doubtful names goes by."""
    return name_order(first_name(case[0], case[1]))


def least_beyond_name(forms, other_forms, level):
    """The least level from this one on, and the least message with it, for which unlike forms give unlike texts."""
    # Two levels, one behind the other, do not both hide a difference; of the messages "", "a", "b" two at most do.
    while filled(forms, LEVEL_MARK, str(level)) == filled(other_forms, LEVEL_MARK, str(level)):
        level += 1
    forms, other_forms = filled(forms, LEVEL_MARK, str(level)), filled(other_forms, LEVEL_MARK, str(level))
    message = ""
    while filled(forms, MESSAGE_MARK, message) == filled(other_forms, MESSAGE_MARK, message):
        message = next_word(message)
    return (level, message)
