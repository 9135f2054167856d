"""Journals: what was written of the signs that were seen."""

from waryrig.errors import BadJournal
from waryrig.forms import is_from, is_index, is_tuple_of
from waryrig.lots import check_rig_and_lot
from waryrig.rigs import GREATEST_SIGN, SIGNS


def left(rig, lot, journal):
    """Return the faults of the lot that show the sign of each entry of the journal."""
    check_rig_and_lot(rig, lot)
    if not isinstance(journal, tuple):
        raise BadJournal(-1)
    for index, entry in enumerate(journal):
        if not is_entry(rig, entry):
            raise BadJournal(index)
    return left_by(rig, lot, journal)


def is_entry(rig, thing):
    """Tell whether this is a pair of a setting of the rig and a sign."""
    if not is_tuple_of(thing, 2, 2):
        return False
    g, sign = thing
    return is_index(g, len(rig[SIGNS])) and is_from(sign, 0, GREATEST_SIGN)


def left_by(rig, lot, journal):
    """Do what left does, of what is checked already."""
    return tuple([x for x in lot if missed(rig, x, journal) == 0])


def missed(rig, x, entries):
    """Return how many of the entries tell another sign than the fault shows."""
    return len([1 for g, sign in entries if rig[SIGNS][g][x] != sign])
