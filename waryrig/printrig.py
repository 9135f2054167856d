"""From named rigs to texts."""

from waryrig.names import OF_FAULTS, OF_REMEDIES, OF_SETTINGS, OF_SIGNS, made_named
from waryrig.rigs import CURES, MOVES, SIGNS


def print_rig(named):
    """Return the text of a named rig."""
    rig, names = made_named(named)
    settings = names[OF_SETTINGS]
    entries = [entry("signs", names[OF_SIGNS]), entry("remedies", names[OF_REMEDIES])]
    for fault, remedies in zip(names[OF_FAULTS], rig[CURES]):
        entries.append(entry(f"fault {fault}:", [names[OF_REMEDIES][r] for r in remedies]))
    for setting, signs in zip(settings, rig[SIGNS]):
        entries.append(entry(f"setting {setting}:", [names[OF_SIGNS][sign] for sign in signs]))
    for low, high in rig[MOVES]:
        entries.append(entry("move", (settings[low], "-", settings[high])))
    return " ".join(entries)


def entry(begun, words):
    """Return an entry: how it begins, its words, and a semicolon."""
    return " ".join([begun, *words]) + ";"
