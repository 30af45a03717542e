"""Greatest sums, and movings that make plans greater."""

from deedranks.demands import check_demands, check_prices
from deedranks.errors import InvalidMoving, InvalidNumber, InvalidPlan
from deedranks.plans import is_plan, plan_sum
from deedranks.words import is_number


def greatest_sum(demands, prices, *, parcels=None):
    """The greatest sum of a plan in which only these parcels give something, None for all of them."""
    return plan_sum(greatest_plan(demands, prices, parcels=parcels))


def greatest_plan(demands, prices, *, parcels=None):
    """A plan with the greatest sum. The demands come in their order, so their totals are those of a right plan."""
    check_demands(demands)
    check_prices(prices)
    return grown_plan(demands, prices_out_of(prices, parcels), {})


def find_moving(demands, prices, plan):
    """A moving for a plan with the fewest names; None if there is none."""
    _check_plan(demands, prices, plan)
    drawing = Drawing(demands, prices, plan)
    return drawing.moving_from(drawing.lacking())


def is_moving(demands, prices, plan, value):
    """Whether any value is a moving for a plan."""
    _check_plan(demands, prices, plan)
    if not isinstance(value, (list, tuple)) or len(value) == 0 or len(value) % 2 == 1:
        return False
    if _has_twice(value[::2]) or _has_twice(value[1::2]):
        return False
    drawing = Drawing(demands, prices, plan)
    return value[0] in drawing.lacking() and drawing.leads(value)


def room(demands, prices, plan, names):
    """The room of a moving for a plan."""
    if not is_moving(demands, prices, plan, names):
        raise InvalidMoving()
    return Drawing(demands, prices, plan).room_along(names)


def moved(demands, prices, plan, names, many):
    """The plan with a number moved along a moving."""
    if not is_number(many, 1, room(demands, prices, plan, names)):
        raise InvalidNumber(many)
    drawing = Drawing(demands, prices, plan)
    drawing.move(names, many)
    return drawing.plan()


def prices_out_of(prices, parcels):
    """The prices of these parcels alone, None for all of them."""
    return {parcel: prices[parcel] for parcel in prices if parcels is None or parcel in parcels}


def grown_plan(demands, prices, plan, *, most=None):
    """The plan that a plan becomes along movings: with the greatest sum, or with a sum that is higher by most."""
    drawing = Drawing(demands, prices, plan)
    drawing.grow(most)
    return drawing.plan()


class Drawing:
    """A plan of demands at some prices, along whose movings the demands can take more."""

    def __init__(self, demands, prices, plan):
        self._names = [name for name, _, _ in demands]
        self._lots = {name: lot for name, _, lot in demands}
        self._lacks = {name: amount for name, amount, _ in demands}
        self._rests = {parcel: prices.get(parcel, 0) for _, _, lot in demands for parcel in lot}
        self._numbers = {pair: plan[pair] for pair in plan}
        for name, parcel in plan:
            self._lacks[name] -= plan[(name, parcel)]
            self._rests[parcel] -= plan[(name, parcel)]

    def plan(self):
        """The present plan."""
        return {pair: self._numbers[pair] for pair in sorted(self._numbers)}

    def lacking(self):
        """The list of the demands whose totals are below their amounts."""
        return [name for name in self._names if self._lacks[name] > 0]

    def moving_from(self, starts):
        """A list as short as can be, like a moving, that begins with one of these demands; None if there is none."""
        ahead, over, last = self._search(starts)
        if last is None:
            return None
        names = [last]
        while names[-1] is not None:
            names.append(over[names[-1]])
            names.append(ahead[names[-1]])
        return names[-2::-1]

    def led_from(self, starts):
        """The list of the demands to which such lists lead from some demands, if none of them leads to an end."""
        ahead, _, _ = self._search(starts)
        return [name for name in self._names if name in ahead]

    def leads(self, names):
        """Whether each demand leads to the parcel behind it, and each parcel to the demand behind it or to an end."""
        for at in range(0, len(names), 2):
            name, parcel = names[at:at + 2]
            if name not in self._names or parcel not in self._lots[name]:
                return False
            if at > 0 and self._number(name, names[at - 1]) == 0:
                return False
        return self._rests[names[-1]] > 0

    def room_along(self, names):
        """The greatest number that can be moved along a moving."""
        numbers = [self._number(names[at], names[at - 1]) for at in range(2, len(names), 2)]
        return min([self._lacks[names[0]], self._rests[names[-1]], *numbers])

    def move(self, names, many):
        """Moves a number along a moving."""
        self._lacks[names[0]] -= many
        self._rests[names[-1]] -= many
        for at in range(0, len(names), 2):
            self._change(names[at], names[at + 1], many)
            if at > 0:
                self._change(names[at], names[at - 1], -many)

    def grow(self, most=None):
        """Moves until the plan has the greatest sum, or its sum has risen by the number most.

        A demand that has no moving any more gets none by what is moved for others, so each one comes just once.
        """
        for name in self._names:
            names = self.moving_from([name])
            while names is not None and self._lacks[name] > 0 and most != 0:
                many = self.room_along(names)
                if most is not None:
                    many = min(many, most)
                    most -= many
                self.move(names, many)
                names = self.moving_from([name])

    def _search(self, starts):
        """Goes on from some demands until a parcel has a rest.

        Gives a dict from demands to the parcels ahead of them, None for the starts; a dict from parcels to the demands
        ahead of them; and the parcel with the rest, None if there is none.
        """
        ahead = {name: None for name in starts}
        over = {}
        queue = list(starts)
        at = 0
        while at < len(queue):
            name = queue[at]
            at += 1
            for parcel in self._lots[name]:
                if parcel in over:
                    continue
                over[parcel] = name
                if self._rests[parcel] > 0:
                    return ahead, over, parcel
                takers = [other for other in self._names if other not in ahead and self._number(other, parcel) > 0]
                for taker in takers:
                    ahead[taker] = parcel
                queue.extend(takers)
        return ahead, over, None

    def _number(self, name, parcel):
        return self._numbers.get((name, parcel), 0)

    def _change(self, name, parcel, many):
        number = self._number(name, parcel) + many
        if number == 0:
            del self._numbers[(name, parcel)]
        else:
            self._numbers[(name, parcel)] = number


def _check_plan(demands, prices, plan):
    if not is_plan(demands, prices, plan):
        raise InvalidPlan()


def _has_twice(values):
    return any([value in values[:at] for at, value in enumerate(values)])
