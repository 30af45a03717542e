"""The fewest further steps with which all parcels come to the road, and lots that show it."""

from deedranks.ways import Ways, is_step
from deedranks.words import is_ascending


def possible_steps(plat):
    """The ascending list of all steps of a plat."""
    return [(start, over) for start in plat.names() for over in plat.neighbours(start)]


def fewest_steps(ways):
    """An answer: the fewest further steps, and as many closed lots; None if no parcel fronts the road."""
    plat = ways.plat
    fronting = [name for name in plat.names() if plat.fronts(name)]
    if fronting == []:
        return None
    given = ways.steps()
    laid, lots = _laid_steps(ways)
    return sorted([step for step in _taken_steps(fronting, laid) if step not in given]), lots


def is_answer(ways, value):
    """Whether any value is an answer."""
    if not isinstance(value, tuple) or len(value) != 2:
        return False
    further, lots = value
    if not _brings_all(ways, further):
        return False
    return isinstance(lots, (list, tuple)) and len(lots) == len(further) and _are_apart(ways, lots)


def leaves_lot(step, lot):
    """Whether a step leaves a set of parcels."""
    return step[0] in lot and step[1] not in lot


def _laid_steps(ways):
    """Steps with which all parcels come to the road, the given ones first, and the closed lots that called for them.

    As long as a parcel is bare, a least set that is reached from one is the next lot, and all steps that leave it
    are laid behind the others. So no step leaves two of the lots.
    """
    possible = possible_steps(ways.plat)
    laid = ways.steps()
    lots = []
    present = ways
    while present.bare() != []:
        lot = min([present.reached(name) for name in present.bare()], key=len)
        lots.append(lot)
        laid = laid + [step for step in possible if leaves_lot(step, lot)]
        present = Ways(ways.plat, laid)
    return laid, lots


def _taken_steps(fronting, laid):
    """One step for each parcel that does not front the road, with which it comes to there.

    Always the step that was laid first is taken. The parcels of a lot are reached from one another over steps that
    were laid ahead of those that leave the lot. So just one of the taken steps leaves each lot.
    """
    there = list(fronting)
    taken = []
    waiting = _joining(laid, there)
    while waiting != []:
        step = waiting[0]
        there.append(step[0])
        taken.append(step)
        waiting = _joining(laid, there)
    return taken


def _joining(laid, there):
    return [step for step in laid if step[0] not in there and step[1] in there]


def _brings_all(ways, further):
    """Whether any value is an ascending list of steps that are not given, with which all parcels come to the road."""
    if not isinstance(further, (list, tuple)) or not all([is_step(ways.plat, step) for step in further]):
        return False
    given = ways.steps()
    if not is_ascending(further) or any([step in given for step in further]):
        return False
    return Ways(ways.plat, [*given, *further]).bare() == []


def _are_apart(ways, lots):
    """Whether these are closed lots such that no step leaves two of them."""
    if not all([_is_closed(ways, lot) for lot in lots]):
        return False
    return all([len([lot for lot in lots if leaves_lot(step, lot)]) <= 1 for step in possible_steps(ways.plat)])


def _is_closed(ways, value):
    """Whether any value is a closed lot."""
    if not isinstance(value, (list, tuple)) or len(value) == 0:
        return False
    if not all([name in ways.plat for name in value]) or not is_ascending(value):
        return False
    if any([ways.plat.fronts(name) for name in value]):
        return False
    return not any([leaves_lot(step, value) for step in ways.steps()])
