"""Lots of faults: what cures them, and what they show."""

from waryrig.errors import BadLot, BadSetting
from waryrig.forms import is_ascending
from waryrig.rigs import CURES, FAULTS, REMEDIES, SIGNS, check_fault, check_setting, made_rig


def check_lot(rig, lot):
    """Raise BadLot unless this is a lot of faults of the rig."""
    if not is_ascending(lot, rig[FAULTS]):
        raise BadLot(-1)


def check_rig_and_lot(rig, lot):
    """Check the two that the functions of this file begin with."""
    made_rig(rig)
    check_lot(rig, lot)


def all_faults(rig):
    """Return the lot of all faults."""
    made_rig(rig)
    return every_fault(rig)


def every_fault(rig):
    """Do what all_faults does, of what is checked already."""
    return tuple(range(rig[FAULTS]))


def remedies_for(rig, lot):
    """Return the remedies that cure each fault of the lot."""
    check_rig_and_lot(rig, lot)
    return common_remedies(rig, lot)


def common_remedies(rig, lot):
    """Do what remedies_for does, of what is checked already."""
    common = list(range(rig[REMEDIES]))
    for x in lot:
        common = [r for r in common if r in rig[CURES][x]]
    return tuple(common)


def least_remedy(rig, lot):
    """Return the least remedy that cures each fault of the lot, None if none does."""
    common = common_remedies(rig, lot)
    if not common:
        return None
    return common[0]


def done(rig, lot):
    """Return whether one remedy cures each fault of the lot."""
    check_rig_and_lot(rig, lot)
    return len(common_remedies(rig, lot)) > 0


def agreeing(rig, lot, x, settings):
    """Return the faults of the lot that agree with x at each of the settings."""
    check_rig_and_lot(rig, lot)
    check_fault(rig, x)
    check_settings(rig, settings)
    return agreeing_at(rig, lot, x, settings)


def check_settings(rig, settings):
    """Raise BadSetting unless this is a tuple of settings, in any order."""
    if not isinstance(settings, tuple):
        raise BadSetting(-1)
    for g in settings:
        check_setting(rig, g)


def agreeing_at(rig, lot, x, settings):
    """Do what agreeing does, of what is checked already."""
    for g in settings:
        row = rig[SIGNS][g]
        lot = tuple([y for y in lot if row[y] == row[x]])
    return lot


def one_sign(rig, lot, g):
    """Return whether all faults of the lot agree at g."""
    check_rig_and_lot(rig, lot)
    check_setting(rig, g)
    return not has_parts(rig, lot, g)


def parted(rig, lot, g):
    """Return the pairs (sign, faults of the lot that show it at g)."""
    check_rig_and_lot(rig, lot)
    check_setting(rig, g)
    return parts_at(rig, lot, g)


def parts_at(rig, lot, g):
    """Do what parted does, of what is checked already."""
    row = rig[SIGNS][g]
    shown = {}
    for x in lot:
        shown.setdefault(row[x], []).append(x)
    return tuple([(sign, tuple(shown[sign])) for sign in sorted(shown)])


def has_parts(rig, lot, g):
    """Tell whether the setting parts the lot."""
    return len(parts_at(rig, lot, g)) > 1


def alike_at(rig, lot, settings):
    """Return lists of the faults of the lot that agree at all of the settings."""
    shown = {}
    for x in lot:
        signs = tuple([rig[SIGNS][g][x] for g in settings])
        shown.setdefault(signs, []).append(x)
    return list(shown.values())
