"""Small judged yards, records for them, and what a yard does with a record when it is really told to it."""

import random

from recordyard.copies import copied
from recordyard.filters import Filter
from recordyard.formatters import Formatter
from recordyard.handlers import NullHandler, StreamHandler
from recordyard.yards import Yard
from tests.helpers import all_loggers

NAMES = ["", "a", "b", "a.b", "A", "root.a", "c.x1", "a.b.a"]
FILTER_NAMES = ["", "a", "b", "a.b", "root", "a.", "A.b", "b.c", "a..b", "root.a"]
PIECES = ["{name}", "{message}", "{levelno}", "{levelname}", "a", "b", "1", "2", "root", "Level ", "."]
RECORD_NAMES = ["", "a", "b", "c", "aa", "ab", "a.a", "a.b", "b.a", "b.c", "c.a", "a.b.a", "a.b.b", "a.root"]
LEVELS = list(range(1, 13)) + [19, 20, 21, 22, 29, 30, 31, 32, 40, 41, 50, 51, 99]
MESSAGES = ["", "a", "b", "c", "aa", "ab"]


def order(record):
    """What the order of records goes by."""
    name, level, message = record
    return (len(name.split(".")) if name else 0, len(name), name, level, len(message), message)


RECORDS = sorted(((name, level, message) for name in RECORD_NAMES for level in LEVELS for message in MESSAGES), key=order)


def told(yard, record):
    """What a copy of a yard writes when it is told a record."""
    other = copied(yard)
    before = {stream: len(other.text(stream)) for stream in other.streams()}
    name, level, message = record
    other.getLogger(name).log(level, message)
    pairs = [(stream, other.text(stream)[before.get(stream, 0):]) for stream in other.streams()]
    return [(stream, text) for stream, text in pairs if text]


def formatter_at_random(chance):
    return Formatter("".join(chance.choice(PIECES) for _ in range(chance.randrange(4))), validate=False)


def handler_at_random(chance, yard):
    handler = StreamHandler(yard, chance.choice(["s", "t", "stderr"])) if chance.random() < 0.85 else NullHandler(yard)
    handler.setLevel(chance.choice([0, 0, 0, 0, 1, 2, 3, 5, 30]))
    handler.setTerminator(chance.choice(["\n", "\n", "", "a", "1"]))
    if chance.random() < 0.7:
        handler.setFormatter(formatter_at_random(chance))
    for _ in range(chance.choice([0, 0, 0, 1, 2])):
        handler.addFilter(Filter(chance.choice(FILTER_NAMES)))
    if chance.random() < 0.5:
        handler.setName(chance.choice("hkl"))
    return handler


def yard_at_random(seed):
    """A small judged yard, always the same one for a seed."""
    chance = random.Random(seed)
    yard = Yard()
    for _ in range(chance.randrange(3)):
        yard.add_level_name(chance.choice([1, 2, 3, 4, 5, 9, 10, 20, 30]), chance.choice(["", "a", "Level 3", "x", "1"]))
    if chance.random() < 0.3:
        yard.disable(chance.choice([1, 2, 4, 10, -3]))
    if chance.random() < 0.5:
        yard.root.setLevel(chance.choice([0, 1, 2, 3, 20]))
    handlers = [handler_at_random(chance, yard) for _ in range(chance.randrange(4))]
    for name in chance.sample(NAMES, chance.randrange(len(NAMES))):
        logger = yard.getLogger(name)
        if chance.random() < 0.4:
            logger.setLevel(chance.choice([0, 1, 2, 3, 4, 30]))
        logger.setDisabled(chance.random() < 0.2)
        logger.setPropagate(chance.random() < 0.7)
        if chance.random() < 0.2:
            logger.addFilter(Filter(chance.choice(FILTER_NAMES)))
        for handler in handlers:
            if chance.random() < 0.4:
                logger.addHandler(handler)
    return yard


def altered_at_random(yard, seed):
    """A copy of a yard in which one or two things are otherwise."""
    chance = random.Random(seed)
    other = copied(yard)
    for _ in range(chance.randrange(1, 3)):
        logger = chance.choice(all_loggers(other))
        change = chance.randrange(6)
        if change == 0:
            logger.setLevel(chance.choice([0, 1, 2, 3, 30]))
        elif change == 1:
            logger.setPropagate(not logger.propagate)
        elif change == 2:
            logger.addHandler(handler_at_random(chance, other))
        elif change == 3:
            other.add_level_name(chance.choice([1, 2, 20, 30]), chance.choice(["INFO", "a", "", "Level 2"]))
        elif logger.handlers:
            handler = chance.choice(logger.handlers)
            if change == 4:
                handler.setFormatter(formatter_at_random(chance))
            else:
                logger.removeHandler(handler)
    return other
