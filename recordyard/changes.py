"""What settings change at a judged yard."""

from recordyard.copies import copied
from recordyard.differences import difference
from recordyard.judging import refuse_strange
from recordyard.settings import configure


def laid(yard, settings):
    """A copy of the yard over which the settings are laid."""
    other = copied(yard)
    configure(other, settings)
    return other


def change(yard, settings):
    """The least record for which laying the settings over the yard changes anything, or None."""
    refuse_strange([yard])
    return difference(yard, laid(yard, settings))


def swapped(yard, one, two):
    """The least record for which it matters which of two settings is laid first, or None."""
    refuse_strange([yard])
    one_first = laid(laid(yard, one), two)
    two_first = laid(laid(yard, two), one)
    return difference(one_first, two_first)
