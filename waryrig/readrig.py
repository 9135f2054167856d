"""From texts to named rigs."""

from waryrig.errors import NoName, TooMany, Twice
from waryrig.names import MOST_SIGNS
from waryrig.rigs import MOST_FAULTS, MOST_MOVES, MOST_REMEDIES, MOST_SETTINGS
from waryrig.words import END, Words


def read_rig(text):
    """Return the named rig that the text tells."""
    return RigReader(Words(text)).read_all()


class RigReader:
    """Reads the entries of a rig, and keeps what they tell."""

    def __init__(self, words):
        self.words = words
        # The names that are given, with their numbers.
        self.sign_names = {}
        self.remedy_names = {}
        self.fault_names = {}
        self.setting_names = {}
        self.cures = []
        self.shown = []
        # The pairs of settings that moves join, as the keys of a dict.
        self.pairs = {}

    def read_all(self):
        """Read the text to its end, and return the named rig."""
        self.read_names("signs", self.sign_names, MOST_SIGNS)
        self.read_names("remedies", self.remedy_names, MOST_REMEDIES)
        self.read_fault()
        while self.words.ahead() == "fault":
            self.read_fault()
        self.read_setting()
        while self.words.ahead() == "setting":
            self.read_setting()
        while self.words.ahead() == "move":
            self.read_move()
        self.words.take_one_of((END,))
        return self.named_rig()

    def named_rig(self):
        """Return the named rig of all that was read."""
        faults = tuple(self.fault_names)
        remedies = tuple(self.remedy_names)
        moves = tuple(sorted(self.pairs))
        rig = (len(faults), len(remedies), tuple(self.cures), tuple(self.shown), moves)
        return rig, (faults, remedies, tuple(self.setting_names), tuple(self.sign_names))

    def give(self, numbers, most):
        """Read a name that is given to one more of its sort."""
        place = self.words.place()
        name = self.words.take_name()
        if len(numbers) >= most:
            raise TooMany(place)
        if name in numbers:
            raise Twice(place)
        numbers[name] = len(numbers)

    def read_names(self, word, numbers, most):
        """Read an entry of names that are given, behind its word."""
        self.words.take_one_of((word,))
        self.give(numbers, most)
        while self.words.ahead() != ";":
            self.give(numbers, most)
        self.words.take_one_of((";",))

    def read_fault(self):
        """Read the entry of a fault."""
        self.words.take_one_of(("fault",))
        self.give(self.fault_names, MOST_FAULTS)
        self.words.take_one_of((":",))
        remedies = []
        while self.words.ahead() != ";":
            remedies.append(self.words.take_unlike(self.remedy_names, remedies))
        self.words.take_one_of((";",))
        self.cures.append(tuple(sorted(remedies)))

    def read_setting(self):
        """Read the entry of a setting."""
        self.words.take_one_of(("setting",))
        self.give(self.setting_names, MOST_SETTINGS)
        self.words.take_one_of((":",))
        signs = [self.words.take_known(self.sign_names) for _ in self.fault_names]
        self.words.take_one_of((";",))
        self.shown.append(tuple(signs))

    def read_move(self):
        """Read the entry of a move."""
        self.words.take_one_of(("move",))
        one = self.first_end()
        self.words.take_one_of(("-",))
        place = self.words.place()
        other = self.words.take_known(self.setting_names)
        pair = (min(one, other), max(one, other))
        if one == other or pair in self.pairs:
            raise Twice(place)
        self.pairs[pair] = True
        self.words.take_one_of((";",))

    def first_end(self):
        """Read the first name of a move, and return its setting."""
        place = self.words.place()
        name = self.words.take_name()
        if len(self.pairs) >= MOST_MOVES:
            raise TooMany(place)
        if name not in self.setting_names:
            raise NoName(place)
        return self.setting_names[name]
