"""What is refused: the errors of the later points."""

from ringwalkers.errors import WalkError


class BadPhoto(WalkError):
    """A thing that is no photo of the walkers."""

    def __init__(self, photo):
        super().__init__("no photo of the walkers")
        self.photo = photo


class BadLaps(WalkError):
    """A thing that is no laps."""

    def __init__(self, laps):
        super().__init__("no laps")
        self.laps = laps


class BadGains(WalkError):
    """Gains that lead from a photo to none."""

    def __init__(self, gains):
        super().__init__("no gains from the photo")
        self.gains = gains


class BadPhotos(WalkError):
    """Photos that are no list of one or more; index tells where."""

    def __init__(self, index):
        super().__init__("no list of photos")
        self.index = index


class BadWalk(WalkError):
    """A thing that is no walk."""

    def __init__(self, walk):
        super().__init__("no walk")
        self.walk = walk


class BadHour(WalkError):
    """A thing that is no hour."""

    def __init__(self, hour):
        super().__init__("no hour")
        self.hour = hour


class BadLooks(WalkError):
    """Looks that are no list of such; index tells where."""

    def __init__(self, index):
        super().__init__("no list of looks")
        self.index = index


class BadLap(WalkError):
    """A thing that is no lap."""

    def __init__(self, lap):
        super().__init__("no lap")
        self.lap = lap


class BadPosts(WalkError):
    """A thing that is no posts of the walkers."""

    def __init__(self, posts):
        super().__init__("no posts of the walkers")
        self.posts = posts


class NoPaces(WalkError):
    """Looks that no paces fit."""

    def __init__(self):
        super().__init__("no paces fit")


class BadSpans(WalkError):
    """A thing that is no spans of pairs of walkers."""

    def __init__(self, spans):
        super().__init__("no spans of the walkers")
        self.spans = spans


class NoneWithin(WalkError):
    """Spans that no stand is within."""

    def __init__(self):
        super().__init__("no stand is within")


class BadMade(WalkError):
    """A thing that is no dict from some walkers to numbers made."""

    def __init__(self, made):
        super().__init__("no numbers made of some walkers")
        self.made = made


class BadView(WalkError):
    """A thing that is no view of a walker."""

    def __init__(self, view):
        super().__init__("no view of the walker")
        self.view = view


class BadRow(WalkError):
    """A row that does not hold all other walkers once; index tells where."""

    def __init__(self, index):
        super().__init__("no row of the others")
        self.index = index


class BadLot(WalkError):
    """A lot that is no list of unlike walkers; index tells where."""

    def __init__(self, index):
        super().__init__("no lot of the walkers")
        self.index = index


class BadPairs(WalkError):
    """Pairs that are not all of two unlike walkers; index tells where."""

    def __init__(self, index):
        super().__init__("no list of pairs of walkers")
        self.index = index


class NotWithin(WalkError):
    """A stand that is not within the laps."""

    def __init__(self, stand):
        super().__init__("not within the laps")
        self.stand = stand


class CommonWalker(WalkError):
    """A walker of two paths at once."""

    def __init__(self, name):
        super().__init__("a walker of both paths")
        self.name = name


class BadSums(WalkError):
    """A thing that is no dict from the walkers to sums."""

    def __init__(self, sums):
        super().__init__("no sums of the walkers")
        self.sums = sums


class BadNames(WalkError):
    """A thing that is no dict from the walkers to lists of names."""

    def __init__(self, names):
        super().__init__("no names for the walkers")
        self.names = names


class BadPieces(WalkError):
    """Pieces that are not the path's walkers cut up; index tells where."""

    def __init__(self, index):
        super().__init__("no pieces of the path")
        self.index = index


class BadPrices(WalkError):
    """A thing that is no dict from all pairs to prices."""

    def __init__(self, prices):
        super().__init__("no prices of the path")
        self.prices = prices


class BadOrder(WalkError):
    """A thing that is no order of all walkers."""

    def __init__(self, order):
        super().__init__("no order of the walkers")
        self.order = order


class BadWishes(WalkError):
    """Wishes that are no list of such; index tells where."""

    def __init__(self, index):
        super().__init__("no list of wishes")
        self.index = index


class BadSteps(WalkError):
    """A thing that is no number of steps."""

    def __init__(self, steps):
        super().__init__("no number of steps")
        self.steps = steps


class BadMore(WalkError):
    """A thing that is no integer."""

    def __init__(self, more):
        super().__init__("no integer")
        self.more = more


class BadChoice(WalkError):
    """An answer that is none of the overtakings that may come next."""

    def __init__(self, thing):
        super().__init__("none of what may come next")
        self.thing = thing


class BadAnswer(WalkError):
    """An answer that is no walker still to ask, and no stand."""

    def __init__(self, thing):
        super().__init__("no walker to ask and no stand")
        self.thing = thing


class BadTop(WalkError):
    """A thing that is no top."""

    def __init__(self, top):
        super().__init__("no top")
        self.top = top


class BadDeed(WalkError):
    """A thing that is no deed."""

    def __init__(self, thing):
        super().__init__("no deed")
        self.thing = thing


class WasOvertaken(WalkError):
    """Somebody who was overtaken by whom they are to overtake."""

    def __init__(self, one, other):
        super().__init__("one was overtaken by the other")
        self.one = one
        self.other = other


class BadQuestion(WalkError):
    """A thing that is no question."""

    def __init__(self, thing):
        super().__init__("no question")
        self.thing = thing


class IsWatched(WalkError):
    """A question that is watched already."""

    def __init__(self, question):
        super().__init__("watched already")
        self.question = question


class NotWatched(WalkError):
    """A question that is not watched."""

    def __init__(self, question):
        super().__init__("not watched")
        self.question = question


class WouldChange(WalkError):
    """A held question that a deed would change the answer to."""

    def __init__(self, question):
        super().__init__("a held question would change")
        self.question = question


class BadGoal(WalkError):
    """A thing that is no goal."""

    def __init__(self, goal):
        super().__init__("no goal")
        self.goal = goal


class NoCount(WalkError):
    """A thing that is no number of deeds done."""

    def __init__(self, number):
        super().__init__("not so many deeds")
        self.number = number


class BadDesk(WalkError):
    """A thing where a Desk is asked for."""

    def __init__(self, thing):
        super().__init__("no desk")
        self.thing = thing


class BadText(WalkError):
    """A text that is no desk's; line tells where."""

    def __init__(self, line):
        super().__init__("no text of a desk")
        self.line = line
