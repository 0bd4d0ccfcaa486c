"""The errors [11]: each is a NearError, and so a ValueError, and none is a kind of another one.

Each class has an __init__ of its own, as a common base class for it would be one error more.
"""


class NearError(ValueError):
    """Some error of the package."""


class InvalidPorts(NearError):
    def __init__(self, given):
        self.given = given


class InvalidSide(NearError):
    def __init__(self, given):
        self.given = given


class InvalidText(NearError):
    def __init__(self, given):
        self.given = given


class InvalidName(NearError):
    def __init__(self, given):
        self.given = given


class InvalidNumbers(NearError):
    def __init__(self, given):
        self.given = given


class InvalidBegins(NearError):
    def __init__(self, given):
        self.given = given


class InvalidDoes(NearError):
    def __init__(self, given):
        self.given = given


class InvalidRefuses(NearError):
    def __init__(self, given):
        self.given = given


class InvalidIndex(NearError):
    def __init__(self, given):
        self.given = given


class InvalidState(NearError):
    def __init__(self, given):
        self.given = given


class InvalidProcesses(NearError):
    def __init__(self, given):
        self.given = given


class InvalidStanding(NearError):
    def __init__(self, given):
        self.given = given


class InvalidHands(NearError):
    def __init__(self, given):
        self.given = given


class InvalidMeetings(NearError):
    def __init__(self, given):
        self.given = given


class InvalidHand(NearError):
    def __init__(self, given):
        self.given = given


class InvalidStopped(NearError):
    def __init__(self, given):
        self.given = given


class InvalidRound(NearError):
    def __init__(self, given):
        self.given = given


class InvalidOrder(NearError):
    def __init__(self, given):
        self.given = given


class InvalidPolicy(NearError):
    def __init__(self, given):
        self.given = given


class InvalidRows(NearError):
    def __init__(self, given):
        self.given = given


class InvalidSums(NearError):
    def __init__(self, given):
        self.given = given


class InvalidCosts(NearError):
    def __init__(self, given):
        self.given = given


class InvalidCounts(NearError):
    def __init__(self, given):
        self.given = given


class InvalidWeights(NearError):
    def __init__(self, given):
        self.given = given


class InvalidDepth(NearError):
    def __init__(self, given):
        self.given = given


class InvalidCount(NearError):
    def __init__(self, given):
        self.given = given


class InvalidRanks(NearError):
    def __init__(self, given):
        self.given = given


class InvalidProcess(NearError):
    def __init__(self, given):
        self.given = given


class InvalidRules(NearError):
    def __init__(self, given):
        self.given = given


class InvalidFacts(NearError):
    def __init__(self, given):
        self.given = given


class InvalidVerdict(NearError):
    def __init__(self, given):
        self.given = given


class InvalidLine(NearError):
    def __init__(self, given):
        self.given = given


class NotDue(NearError):
    def __init__(self, side):
        self.side = side


class Refused(NearError):
    def __init__(self, side):
        self.side = side


class TooMany(NearError):
    def __init__(self, count):
        self.count = count


class Gone(NearError):
    def __init__(self, hand):
        self.hand = hand


class Stopped(NearError):
    def __init__(self, hand):
        self.hand = hand


class NoSolution(NearError):
    def __init__(self, denial):
        self.denial = denial


class NotLeft(NearError):
    def __init__(self, standing):
        self.standing = standing


class NoNet(NearError):
    pass


class Near(NearError):
    def __init__(self, far):
        self.far = far


class Still(NearError):
    def __init__(self, counts):
        self.counts = counts


class NotNumber(NearError):
    def __init__(self, word):
        self.word = word


class Struck(NearError):
    def __init__(self, standing):
        self.standing = standing


class KeptUp(NearError):
    def __init__(self, kept):
        self.kept = kept


class MayStand(NearError):
    pass


class Empty(NearError):
    pass


class NothingToUndo(NearError):
    pass


class NothingToRedo(NearError):
    pass
