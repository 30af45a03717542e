"""Desks: an office and prices, with actions that can be undone and lines that are answered."""

from deedranks.answers import answered
from deedranks.entries import Entry
from deedranks.errors import InvalidDeed, InvalidPrices, NothingLeft
from deedranks.extracts import roll_text
from deedranks.office import Office, are_same
from deedranks.words import is_name, is_price

# How many items an action has, with its word.
_SIZES = {"put": 5, "turn": 2, "price": 3}


class Desk:
    """A desk, with an office without entries and without prices at first."""

    def __init__(self, plat, owners):
        # The present office and prices are never changed: each step makes new ones, and the old ones are kept for undo.
        self._office = Office(plat, owners)
        self._prices = {}
        self._past = []
        self._future = []
        self._log = []
        self._busy = False
        self._plat = plat
        self._owners = dict(owners)

    def __call__(self, line):
        return self.say(line)

    def __eq__(self, other):
        return isinstance(other, Desk) and are_same(self._office, other._office) and self._prices == other._prices

    def __len__(self):
        return len(self._office)

    def __repr__(self):
        return f"Desk({len(self._office)} entries)"

    @property
    def busy(self):
        """Whether actions are being done."""
        return self._busy

    def do(self, *actions):
        """Does all actions, or none, as one step of the history."""
        office, prices = self._behind(actions)
        if len(actions) > 0:
            self._past.append((self._office, self._prices))
            self._future = []
            self._office = office
            self._prices = prices

    def undo(self):
        """Takes the last step back."""
        if len(self._past) == 0:
            raise NothingLeft()
        self._future.append((self._office, self._prices))
        self._office, self._prices = self._past.pop()

    def redo(self):
        """Does the step again that was taken back last."""
        if len(self._future) == 0:
            raise NothingLeft()
        self._past.append((self._office, self._prices))
        self._office, self._prices = self._future.pop()

    def history(self):
        """The pair of the numbers of steps that can be undone and redone."""
        return len(self._past), len(self._future)

    def office(self):
        """An independent office in the state of the desk's own one."""
        return self._office.twin()

    def asked_prices(self):
        """The dict of the prices."""
        return {parcel: self._prices[parcel] for parcel in sorted(self._prices)}

    def tried(self, *actions):
        """The text of the roll that the desk would answer by behind these actions."""
        office, _ = self._behind(actions)
        return roll_text(office.roll())

    def say(self, line):
        """The answer to a line."""
        answer = self._answer(line)
        self._log.append((line, answer))
        return answer

    def log(self):
        """The list of the pairs (line, answer)."""
        return list(self._log)

    def twin(self):
        """An independent desk in the same state, with its history and log."""
        other = Desk(self._plat, self._owners)
        other._office = self._office
        other._prices = self._prices
        other._past = list(self._past)
        other._future = list(self._future)
        other._log = list(self._log)
        return other

    def _behind(self, actions):
        """The office and the prices behind these actions."""
        self._busy = True
        try:
            _check_actions(actions)
            office = self._office.twin()
            prices = dict(self._prices)
            for action in actions:
                _act(office, prices, action)
            return office, prices
        finally:
            self._busy = False

    def _answer(self, line):
        if line not in ("undo", "redo"):
            return answered(self._office, self._prices, line)
        try:
            if line == "undo":
                self.undo()
            else:
                self.redo()
        except NothingLeft as error:
            return f"error {error.code}"
        return "done"


def _check_actions(actions):
    for at, action in enumerate(actions):
        if not _is_action(action):
            raise InvalidDeed(at)


def _is_action(value):
    """Whether any value is a tuple of the word of an action and as many items as it has."""
    if not isinstance(value, tuple) or len(value) == 0 or not isinstance(value[0], str):
        return False
    return len(value) == _SIZES.get(value[0])


def _act(office, prices, action):
    """Does an action to an office and prices."""
    word, *items = action
    if word == "put":
        office.put(Entry(*items))
    elif word == "turn":
        office.turn_to(items[0])
    else:
        parcel, price = items
        if not is_name(parcel) or not is_price(price):
            raise InvalidPrices(parcel)
        prices[parcel] = price
