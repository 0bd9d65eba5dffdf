"""The errors of the package; each keeps what it was made of."""


class LateError(Exception):
    """The base class of all errors of the package."""


class InvalidDesk(LateError):
    """No desk: what is wrong first."""

    def __init__(self, at):
        self.at = at


class InvalidHistory(LateError):
    """No history: its first wrong place, or -1."""

    def __init__(self, at):
        self.at = at


class InvalidStruck(LateError):
    """No lot of tries: its first wrong place, or -1."""

    def __init__(self, at):
        self.at = at


class InvalidText(LateError):
    """No text of what is to be read: its first wrong line, or -1."""

    def __init__(self, at):
        self.at = at


class InvalidTry(LateError):
    """No try."""

    def __init__(self, at):
        self.at = at


class InvalidIndex(LateError):
    """Nothing has this number."""

    def __init__(self, at):
        self.at = at


class InvalidSort(LateError):
    """No sort."""

    def __init__(self, at):
        self.at = at


class InvalidStep(LateError):
    """No step of a sort."""

    def __init__(self, at):
        self.at = at


class InvalidNumber(LateError):
    """Nothing that is counted: its first wrong place, or -1."""

    def __init__(self, at):
        self.at = at


class InvalidLot(LateError):
    """No lot: its first wrong place, or -1."""

    def __init__(self, at):
        self.at = at


class InvalidPlan(LateError):
    """No plan: what is wrong first."""

    def __init__(self, at):
        self.at = at


class InvalidMoves(LateError):
    """No row of moves: the first that can't be done, or -1."""

    def __init__(self, at):
        self.at = at


class InvalidOffers(LateError):
    """No row of offers: its first wrong place, or -1."""

    def __init__(self, at):
        self.at = at


class InvalidRules(LateError):
    """No rules: the first wrong one, or -1."""

    def __init__(self, at):
        self.at = at


class InvalidBound(LateError):
    """No bound."""

    def __init__(self, at):
        self.at = at


class Refused(LateError):
    """What is asked for can't come."""

    def __init__(self, at):
        self.at = at


class InvalidSize(LateError):
    """Too large, or no such thing: the word tells what."""

    def __init__(self, word):
        self.word = word


class InvalidWants(LateError):
    """No row of wants: its first wrong place, or -1."""

    def __init__(self, at):
        self.at = at


class InvalidLedger(LateError):
    """No ledger: its first wrong part, or -1."""

    def __init__(self, at):
        self.at = at


class InvalidHouse(LateError):
    """No house."""

    def __init__(self, at):
        self.at = at


class InvalidSeam(LateError):
    """Houses that can't be joined: the word tells why."""

    def __init__(self, at):
        self.at = at


class InvalidLots(LateError):
    """No lots of a seam, or no row of lots: the first wrong place, or -1."""

    def __init__(self, at):
        self.at = at


class InvalidPromise(LateError):
    """No promise."""

    def __init__(self, at):
        self.at = at


class InvalidContract(LateError):
    """No contract: its first wrong row, or -1."""

    def __init__(self, at):
        self.at = at


class InvalidCosts(LateError):
    """No costs of the guards: the first wrong place, or -1."""

    def __init__(self, at):
        self.at = at


class InvalidTools(LateError):
    """No lot of tools: its first wrong place, or -1."""

    def __init__(self, at):
        self.at = at


class InvalidWaits(LateError):
    """No lot of tools that wait: its first wrong place, or -1."""

    def __init__(self, at):
        self.at = at


class InvalidCommand(LateError):
    """No command, or one of which something isn't there."""
