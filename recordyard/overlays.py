"""The least way to make one yard alike to another one by levels and propagation alone."""

from recordyard.cuts import bounding, mentioned, standing_levels
from recordyard.grounds import Ground
from recordyard.judging import refuse_strange
from recordyard.sights import sight_of


def overlaid(entries):
    """The incremental settings of entries."""
    settings = {"version": 1, "incremental": True}
    for entry in entries:
        if entry[0] == "root":
            settings["root"] = {entry[1]: entry[2]}
        else:
            section, name, key, value = entry
            rows = settings.setdefault(section, {})
            row = rows.setdefault(name, {})
            row[key] = value
    return settings


def overlay(yard, goal):
    """The shortest, and then the least, list of at most two entries that make the yard alike to the goal, or None."""
    yards = [yard, goal]
    refuse_strange(yards)
    sight = sight_of(yard)
    sight.add_posts(goal.loggers())
    ground = Ground(sight, sight_of(goal), mentioned(yards), bounding(yards))
    if ground.least(sight) is None:
        return []
    entries = altering_entries(sight, standing_levels(yard) + standing_levels(goal))
    for entry in entries:
        if ground.least(sight.altered([entry])) is None:
            return [entry]
    return least_pair(ground, sight, entries)


def least_pair(ground, sight, entries):
    """The least list of two entries for two things that make the sight alike to the ground's other one, or None."""
    for place, entry in enumerate(entries):
        for later in entries[place + 1:]:
            if entry[:-1] != later[:-1] and ground.least(sight.altered([entry, later])) is None:
                return [entry, later]
    return None


def altering_entries(sight, levels):
    """All entries that set something to what it is not yet, ascending.

    The others, and those for loggers whose names no record has, can be left out of any list, so that
    no shortest list has them.
    """
    values = sorted(set([0] + levels))
    found = []
    for line in sight.lines:
        if line.name is not None:
            found.extend([("handlers", line.name, "level", value) for value in values if value != line.level])
    for name in sight.posts:
        post = sight.posts[name]
        if name == "":
            found.extend([("root", "level", value) for value in values if value != post.level])
        else:
            found.extend([("loggers", name, "level", value) for value in values if value != post.level])
            found.append(("loggers", name, "propagate", not post.propagate))
    return sorted(found)
