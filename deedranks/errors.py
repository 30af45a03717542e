"""The errors of the package. Each one keeps what it is told, and its class's name as its code."""


# Python itself keeps the arguments of an error as its message, so no error writes one.
class RollError(ValueError):
    """A value, or a state, with which something cannot be done."""


class Missing(LookupError):
    """Something is asked for that is not there."""


class InvalidName(RollError):
    def __init__(self, value):
        self.value = value
        self.code = "InvalidName"


class InvalidNumber(RollError):
    def __init__(self, value):
        self.value = value
        self.code = "InvalidNumber"


class InvalidDay(RollError):
    def __init__(self, value):
        self.value = value
        self.code = "InvalidDay"


class InvalidAmount(RollError):
    def __init__(self, value):
        self.value = value
        self.code = "InvalidAmount"


class InvalidShare(RollError):
    def __init__(self, value):
        self.value = value
        self.code = "InvalidShare"


class InvalidLot(RollError):
    def __init__(self, value):
        self.value = value
        self.code = "InvalidLot"


class InvalidCell(RollError):
    def __init__(self, at):
        self.at = at
        self.code = "InvalidCell"


class InvalidRow(RollError):
    def __init__(self, at):
        self.at = at
        self.code = "InvalidRow"


class InvalidStep(RollError):
    def __init__(self, at):
        self.at = at
        self.code = "InvalidStep"


class InvalidClaim(RollError):
    def __init__(self, at):
        self.at = at
        self.code = "InvalidClaim"


class InvalidDemand(RollError):
    def __init__(self, at):
        self.at = at
        self.code = "InvalidDemand"


class InvalidPrices(RollError):
    def __init__(self, key):
        self.key = key
        self.code = "InvalidPrices"


class InvalidBounds(RollError):
    def __init__(self, key):
        self.key = key
        self.code = "InvalidBounds"


class InvalidOwners(RollError):
    def __init__(self, key):
        self.key = key
        self.code = "InvalidOwners"


class InvalidOrder(RollError):
    def __init__(self, at):
        self.at = at
        self.code = "InvalidOrder"


class InvalidDeed(RollError):
    def __init__(self, at):
        self.at = at
        self.code = "InvalidDeed"


class InvalidEntry(RollError):
    def __init__(self, at):
        self.at = at
        self.code = "InvalidEntry"


class InvalidHeirs(RollError):
    def __init__(self):
        self.code = "InvalidHeirs"


class InvalidPlan(RollError):
    def __init__(self):
        self.code = "InvalidPlan"


class InvalidMoving(RollError):
    def __init__(self):
        self.code = "InvalidMoving"


class InvalidCut(RollError):
    def __init__(self):
        self.code = "InvalidCut"


class InvalidText(RollError):
    def __init__(self, line, why):
        self.line = line
        self.why = why
        self.code = "InvalidText"


class DuplicateName(RollError):
    def __init__(self, name):
        self.name = name
        self.code = "DuplicateName"


class DuplicateNumber(RollError):
    def __init__(self, number):
        self.number = number
        self.code = "DuplicateNumber"


class TooMany(RollError):
    def __init__(self, most):
        self.most = most
        self.code = "TooMany"


class Apart(RollError):
    def __init__(self, name):
        self.name = name
        self.code = "Apart"


class NotBeside(RollError):
    def __init__(self, first, second):
        self.first = first
        self.second = second
        self.code = "NotBeside"


class SamePerson(RollError):
    def __init__(self, name):
        self.name = name
        self.code = "SamePerson"


class Lacking(RollError):
    def __init__(self, parcel):
        self.parcel = parcel
        self.code = "Lacking"


class NotOwner(RollError):
    def __init__(self, parcel):
        self.parcel = parcel
        self.code = "NotOwner"


class AlreadyVoid(RollError):
    def __init__(self, number):
        self.number = number
        self.code = "AlreadyVoid"


class NotVoid(RollError):
    def __init__(self, number):
        self.number = number
        self.code = "NotVoid"


class UnlikeLines(RollError):
    def __init__(self, first, second):
        self.first = first
        self.second = second
        self.code = "UnlikeLines"


class Unlike(RollError):
    def __init__(self, name):
        self.name = name
        self.code = "Unlike"


class Reserved(RollError):
    def __init__(self, name):
        self.name = name
        self.code = "Reserved"


class NotReserved(RollError):
    def __init__(self, name):
        self.name = name
        self.code = "NotReserved"


class OutsideLot(RollError):
    def __init__(self, parcel):
        self.parcel = parcel
        self.code = "OutsideLot"


class InsideLot(RollError):
    def __init__(self, parcel):
        self.parcel = parcel
        self.code = "InsideLot"


class Behind(RollError):
    def __init__(self, first, second):
        self.first = first
        self.second = second
        self.code = "Behind"


class Unequal(RollError):
    def __init__(self, first, second):
        self.first = first
        self.second = second
        self.code = "Unequal"


class Granted(RollError):
    def __init__(self, start, over):
        self.start = start
        self.over = over
        self.code = "Granted"


class Came(RollError):
    def __init__(self, name):
        self.name = name
        self.code = "Came"


class Sold(RollError):
    def __init__(self, parcel):
        self.parcel = parcel
        self.code = "Sold"


class Unordered(RollError):
    def __init__(self, number):
        self.number = number
        self.code = "Unordered"


class NoLeave(RollError):
    def __init__(self, person, prices):
        self.person = person
        self.prices = prices
        self.code = "NoLeave"


class UnknownParcel(Missing):
    def __init__(self, name):
        self.name = name
        self.code = "UnknownParcel"


class UnknownPerson(Missing):
    def __init__(self, name):
        self.name = name
        self.code = "UnknownPerson"


class UnknownClaim(Missing):
    def __init__(self, name):
        self.name = name
        self.code = "UnknownClaim"


class UnknownDeed(Missing):
    def __init__(self, number):
        self.number = number
        self.code = "UnknownDeed"


class UnknownEntry(Missing):
    def __init__(self, number):
        self.number = number
        self.code = "UnknownEntry"


class UnknownGrant(Missing):
    def __init__(self, start, over):
        self.start = start
        self.over = over
        self.code = "UnknownGrant"


class NothingLeft(IndexError):
    def __init__(self):
        self.code = "NothingLeft"
