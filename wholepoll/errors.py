"""The refusals: each is an error class of its own, straight under PollError."""


class PollError(ValueError):
    """Any refusal."""


class NoNumber(PollError):
    """What should be a number of a fraction is none, or a fraction would be parted by 0."""


class NoBallot(PollError):
    """What should tell a ballot tells none."""


class NoSheet(PollError):
    """A line has no number of ballots."""


class NoChange(PollError):
    """A change of ballots can't be made."""


class Torn(PollError):
    """A bundle's codes can't be mended to fit its seal."""


class NoBundle(PollError):
    """No bundle with that number was taken."""


class WrongNumber(PollError):
    """There are more or fewer ballots than there must be."""

    def __init__(self, wanted, got):
        PollError.__init__(self, f"{wanted} ballots wanted, {got} got")
        self.wanted = wanted
        self.got = got


class NoWay(PollError):
    """A way of counting, or a box, can't be made of that."""


class NoRoll(PollError):
    """A roll can't be made of that, or can't take it."""


class NoTelling(PollError):
    """A telling that has not come can't be taken back."""


class NoEnvelope(PollError):
    """No standing envelope has that number."""


class NoLand(PollError):
    """A land can't be made of that."""


class TooMany(PollError):
    """More would be needed than there may be at most."""

    def __init__(self, most):
        PollError.__init__(self, f"more than {most} would be needed")
        self.most = most


class NoPoll(PollError):
    """A poll can't be made of that."""


class NoDeed(PollError):
    """That is no deed for the land, or none that came."""


class Ended(PollError):
    """A look has ended: nothing more is due."""


class Nothing(PollError):
    """There is nothing to be undone, or done anew."""


class NoText(PollError):
    """A text can't be read as what was asked for."""


class NoRow(PollError):
    """That is no row that the desk knows."""
