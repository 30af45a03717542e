"""Ways to the road over given steps."""

from deedranks.errors import InvalidStep, UnknownParcel


class Ways:
    """A plat with given steps. It never changes."""

    def __init__(self, plat, steps):
        if not isinstance(steps, (list, tuple)):
            raise InvalidStep(-1)
        for at, step in enumerate(steps):
            if not is_step(plat, step):
                raise InvalidStep(at)
        self.plat = plat
        self._steps = sorted(set(steps))
        self._fronting = [name for name in plat.names() if plat.fronts(name)]
        self._far = _distances(self._fronting, self._steps)

    def __len__(self):
        return len(self._steps)

    def __repr__(self):
        return f"Ways({len(self._steps)} steps)"

    def steps(self):
        """The ascending list of the given steps."""
        return list(self._steps)

    def with_steps(self, *steps):
        """The ways with further given steps."""
        for at, step in enumerate(steps):
            if not is_step(self.plat, step):
                raise InvalidStep(at)
        return Ways(self.plat, [*self._steps, *steps])

    def comes(self, name):
        """Whether a parcel comes to the road."""
        self._check(name)
        return name in self._far

    def way(self, name):
        """The least one of the ways of a parcel with the fewest parcels; None if it has no way."""
        if not self.comes(name):
            return None
        found = [name]
        while self._far[found[-1]] > 0:
            last = found[-1]
            found.append(min([over for over in self._overs(last) if self._far.get(over) == self._far[last] - 1]))
        return found

    def gates(self, name):
        """The ascending list of the gates of a parcel; None if it has no way."""
        if not self.comes(name):
            return None
        return [other for other in self.plat.names() if other != name and self._needs(name, other)]

    def reached(self, name):
        """The ascending list of the parcels that are reached from a parcel."""
        self._check(name)
        found = [name]
        # The list grows while it is gone through, up to its end.
        at = 0
        while at < len(found):
            found.extend([over for over in self._overs(found[at]) if over not in found])
            at += 1
        return sorted(found)

    def bare(self):
        """The ascending list of the parcels that do not come to the road."""
        return [name for name in self.plat.names() if name not in self._far]

    def _check(self, name):
        if name not in self.plat:
            raise UnknownParcel(name)

    def _overs(self, name):
        return [over for start, over in self._steps if start == name]

    def _needs(self, name, gate):
        """Whether a parcel has no way any more if another one is left out."""
        fronting = [other for other in self._fronting if other != gate]
        return name not in _distances(fronting, [step for step in self._steps if gate not in step])


def is_step(plat, value):
    """Whether any value is a step of a plat."""
    if not isinstance(value, tuple) or len(value) != 2:
        return False
    start, over = value
    return start in plat and over in plat and plat.border(start, over) > 0


def _distances(fronting, steps):
    """A dict from the parcels that come to the road to the least numbers of steps to a fronting one."""
    far = {name: 0 for name in fronting}
    ring = fronting
    while ring != []:
        ring = sorted({start for start, over in steps if over in ring and start not in far})
        many = max(list(far.values())) + 1
        for name in ring:
            far[name] = many
    return far
