"""The errors of the package. Their arguments are kept under the names that the document gives."""


class PairError(ValueError):
    """The base of all errors about values that do not fit."""


class MixedNames(PairError):
    """The names of two relations do not match as the operation requires."""


class NotSquare(PairError):
    """The sources of a relation are not its targets."""


class NotShort(PairError):
    """A term is not short."""


class NotPlain(PairError):
    """A term is not plain."""


class MixedFrames(PairError):
    """Two frames that must be equal are not."""


class MixedWorlds(PairError):
    """Two worlds that must be equal are not."""


class BadPaper(PairError):
    """A paper, or an entry of a branch, is not as it must be."""


class BadSplit(PairError):
    """A value is not a split."""


class BadSteps(PairError):
    """A value is not what the steps must be."""


class HasRest(PairError):
    """A term contains a rest where none may be."""


class BadImages(PairError):
    """Images do not fit what they are images of."""


class BadDeed(PairError):
    """A value is not a deed."""


class TooMany(PairError):
    """There is more of something than the document allows."""


class NothingDone(PairError):
    """There is nothing that could be undone or done again."""


class BadName(PairError):
    """A name is not a word, or may not be used."""

    def __init__(self, name):
        self.name = name


class TwiceTold(PairError):
    """A name occurs twice."""

    def __init__(self, name):
        self.name = name


class BadFrame(PairError):
    """A total of a frame is wrong; name is its letter."""

    def __init__(self, name):
        self.name = name


class BadWorld(PairError):
    """A sort or a letter is missing in a world, or is one too many."""

    def __init__(self, name):
        self.name = name


class NotFree(PairError):
    """A name is in use already."""

    def __init__(self, name):
        self.name = name


class NotOfKind(PairError):
    """A relation is not of the kind word; members is its first fault."""

    def __init__(self, word, members):
        self.word = word
        self.members = tuple(members)


class BadPlan(PairError):
    """A row of a plan is wrong."""

    def __init__(self, number):
        self.number = number


class ComesRound(PairError):
    """Steps lead round to where they began."""

    def __init__(self, members):
        self.members = tuple(members)


class BadTerm(PairError):
    """The part of a value at this path is wrong, or is missing."""

    def __init__(self, path):
        self.path = tuple(path)


class BadText(PairError):
    """A text cannot be read; place tells where."""

    def __init__(self, place):
        self.place = place


class NotKept(PairError):
    """The term of this number is not kept."""

    def __init__(self, number):
        self.number = number


class NotFlat(PairError):
    """The term of this number is not flat."""

    def __init__(self, number):
        self.number = number


class MixedEnds(PairError):
    """The two terms of this number do not have the same ends."""

    def __init__(self, number):
        self.number = number


class NotTotal(PairError):
    """A member has no partner by the total (name, word)."""

    def __init__(self, name, word, member):
        self.name = name
        self.word = word
        self.member = member


class NotLed(PairError):
    """A pair of a letter is not led to a pair."""

    def __init__(self, name, pair):
        self.name = name
        self.pair = tuple(pair)


class Broken(PairError):
    """Something that must hold is broken; members tells what."""

    def __init__(self, members):
        self.members = tuple(members)


class Clash(PairError):
    """Two states cannot be merged because of these spots."""

    def __init__(self, spots):
        self.spots = tuple(spots)


class NameMissing(LookupError):
    """The base of all errors about names and numbers that do not exist."""


class UnknownName(NameMissing):
    """A value is not one of the names."""

    def __init__(self, name):
        self.name = name


class NotTold(NameMissing):
    """Something was not told."""

    def __init__(self, name):
        self.name = name


class NoState(NameMissing):
    """There is no state of this number."""

    def __init__(self, number):
        self.number = number
