"""Tables, which tell by finitely many rows what a judged yard does with all records."""

from recordyard.cuts import bounding, mentioned, single_level, spans_of
from recordyard.errors import BadCuts
from recordyard.forms import NAME_MARK, filled, parts_of
from recordyard.judging import refuse_strange
from recordyard.kinds import is_integer
from recordyard.orders import is_record_name, name_order, written_name
from recordyard.sights import sight_of


def mentions(yards):
    """The names that are mentioned by the yards, in their order."""
    refuse_strange(yards)
    return mentioned(yards)


def bounds(yards):
    """The levels at which something may begin to be otherwise, ascending."""
    refuse_strange(yards)
    return bounding(yards)


def table(yard, names, levels):
    """The rows for all records, cut by these names and levels."""
    refuse_strange([yard])
    if not are_names(names, mentioned([yard])) or not are_levels(levels, bounding([yard])):
        raise BadCuts()
    sight = sight_of(yard)
    spans = spans_of(list(levels))
    rows = []
    shared = {}
    for name in names:
        rows.extend(rows_of(sight, name, False, spans, {}))
        rows.extend(rows_of(sight, name, True, spans, shared))
    return rows


def rows_of(sight, name, below, spans, told):
    """The rows for the records of a name, or for those below it; told keeps outcomes that come again."""
    lane = sight.lane(sight.trace(name, below))
    text = None if below else written_name(name)
    rows = []
    for low, high in spans:
        level = single_level(low, high)
        numbers = sight.active(lane, low)
        if (numbers, level) not in told:
            told[(numbers, level)] = outcome_in_parts(sight.forms_at(numbers, level), text)
        rows.append(((name, below), (low, high), list(told[(numbers, level)])))
    return rows


def outcome_in_parts(forms, text):
    """Forms by streams as pairs of a stream and parts, with a text, if there is one, for the name."""
    if text is not None:
        forms = filled(forms, NAME_MARK, text)
    return [(stream, parts_of(forms[stream])) for stream in sorted(forms)]


def told_by(rows, record):
    """The outcome that the rows of a table tell for a record."""
    name, level, message = record
    nearest = nearest_name(rows, name)
    for (one, below), (low, high), outcome in rows:
        if one == nearest and below == (nearest != name) and low <= level and (high is None or level < high):
            words = {"name": name, "level": str(level), "message": message}
            pairs = [(stream, joined_parts(parts, words)) for stream, parts in outcome]
            return [(stream, text) for stream, text in pairs if text != ""]
    return []


def nearest_name(rows, name):
    """The longest of a name and its beginnings that has rows."""
    there = {row[0][0]: True for row in rows}
    while name not in there:
        name = name.rpartition(".")[0]
    return name


def joined_parts(parts, words):
    """The text of which these are the parts, with words in the places of the marks."""
    return "".join([part if isinstance(part, str) else words[part[0]] for part in parts])


def are_names(thing, needed):
    """Whether a thing is a list of names of records, in their order, with all that are needed."""
    if not isinstance(thing, (list, tuple)):
        return False
    if not all(isinstance(name, str) and is_record_name(name) for name in thing):
        return False
    return is_ascending([name_order(name) for name in thing]) and has_all(thing, needed)


def are_levels(thing, needed):
    """Whether a thing is a list of levels from 1 on, ascending, with all that are needed."""
    if not isinstance(thing, (list, tuple)):
        return False
    if not all(is_integer(level) and level >= 1 for level in thing):
        return False
    return is_ascending(thing) and has_all(thing, needed)


def is_ascending(row):
    """Whether each item of a row is less than the next one."""
    return all(row[place] < row[place + 1] for place in range(len(row) - 1))


def has_all(row, needed):
    """Whether all that is needed stands in a row."""
    there = set(row)
    return all([one in there for one in needed])
