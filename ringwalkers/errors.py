"""What is refused: WalkError, and the errors of most points."""


class WalkError(ValueError):
    """Whatever the package refuses."""


class BadWalkers(WalkError):
    """Walkers that are no list of two or more unlike names; index tells where."""

    def __init__(self, index):
        super().__init__("no list of two or more unlike names")
        self.index = index


class BadPath(WalkError):
    """A thing where a Path is asked for."""

    def __init__(self, thing):
        super().__init__("no path")
        self.thing = thing


class BadStand(WalkError):
    """A thing where a stand of the path is asked for."""

    def __init__(self, stand):
        super().__init__("no stand of the path")
        self.stand = stand


class NoWalker(WalkError):
    """A thing that is none of the path's walkers."""

    def __init__(self, walker):
        super().__init__("none of the walkers")
        self.walker = walker


class NotBehind(WalkError):
    """Somebody who is not right behind whom they are to overtake."""

    def __init__(self, one, other):
        super().__init__("one is not right behind the other")
        self.one = one
        self.other = other


class BadRun(WalkError):
    """A run that cannot be walked; index tells its first wrong thing."""

    def __init__(self, index):
        super().__init__("no run from there")
        self.index = index


class BadBlocks(WalkError):
    """Blocks that cannot be walked; index tells the first wrong thing."""

    def __init__(self, index):
        super().__init__("no blocks from there")
        self.index = index


class BadTable(WalkError):
    """A thing that is no dict from all pairs to integers."""

    def __init__(self, table):
        super().__init__("no table of the path")
        self.table = table


class BadSome(WalkError):
    """Some walkers that are no list of two or more unlike ones; index tells where."""

    def __init__(self, index):
        super().__init__("no list of two or more of the walkers")
        self.index = index


class BadName(WalkError):
    """A thing that is no name, or no new one."""

    def __init__(self, name):
        super().__init__("no new name")
        self.name = name


class BadNets(WalkError):
    """A thing that is no dict from the walkers to integers."""

    def __init__(self, nets):
        super().__init__("no nets of the walkers")
        self.nets = nets


class BadNumbers(WalkError):
    """A thing that is no dict from the walkers to numbers, or to none that can be."""

    def __init__(self, numbers):
        super().__init__("no numbers of the walkers")
        self.numbers = numbers


class BadLeft(WalkError):
    """A thing that is no dict from the walkers to numbers left."""

    def __init__(self, left):
        super().__init__("no numbers left of the walkers")
        self.left = left


class BadOthers(WalkError):
    """A thing that is no dict from the walkers to numbers suffered."""

    def __init__(self, others):
        super().__init__("no other numbers of the walkers")
        self.others = others


class BadTimes(WalkError):
    """A thing that is no number of times."""

    def __init__(self, times):
        super().__init__("no number of times")
        self.times = times


class BadMany(WalkError):
    """A thing that is no number, or too great a one."""

    def __init__(self, many):
        super().__init__("not so many")
        self.many = many


class BadStep(WalkError):
    """A thing that is no step of the shortest runs."""

    def __init__(self, step):
        super().__init__("no step of the shortest runs")
        self.step = step


class BadTotal(WalkError):
    """A thing that is no total."""

    def __init__(self, total):
        super().__init__("no total")
        self.total = total


class BadNumber(WalkError):
    """A thing that is no number, or too great a one."""

    def __init__(self, number):
        super().__init__("no such number")
        self.number = number


class BadBounds(WalkError):
    """A thing that is no dict from the walkers to bounds."""

    def __init__(self, bounds):
        super().__init__("no bounds of the walkers")
        self.bounds = bounds


class BadTeams(WalkError):
    """Teams that do not hold each walker once; index tells where."""

    def __init__(self, index):
        super().__init__("no teams of the walkers")
        self.index = index


class BadTotals(WalkError):
    """Totals that are not one number for each team; index tells where."""

    def __init__(self, index):
        super().__init__("no totals of the teams")
        self.index = index


class BadChooser(WalkError):
    """A thing that cannot be asked."""

    def __init__(self, thing):
        super().__init__("nothing that can be asked")
        self.thing = thing


class BadStands(WalkError):
    """Stands that are no list of one or more; index tells where."""

    def __init__(self, index):
        super().__init__("no list of stands")
        self.index = index


class NoCommon(WalkError):
    """Stands without a common later one; ring tells why."""

    def __init__(self, ring):
        super().__init__("no common later stand")
        self.ring = ring


class SameWalker(WalkError):
    """One walker where two unlike ones are asked for."""

    def __init__(self, walker):
        super().__init__("one and the same walker")
        self.walker = walker


class BadMost(WalkError):
    """A thing that is no integer from 1 on."""

    def __init__(self, most):
        super().__init__("no integer from 1 on")
        self.most = most


class BadNoted(WalkError):
    """A thing that is no dict from the walkers to noted numbers."""

    def __init__(self, noted):
        super().__init__("no noted numbers of the walkers")
        self.noted = noted


class BadIndex(WalkError):
    """A thing that is no index, or too great a one."""

    def __init__(self, index):
        super().__init__("no such index")
        self.index = index


class BadPart(WalkError):
    """A thing that is no dict from all walkers but one."""

    def __init__(self, part):
        super().__init__("no part of the walkers")
        self.part = part


class BadNotes(WalkError):
    """A thing that is no notes of the walkers."""

    def __init__(self, notes):
        super().__init__("no notes of the walkers")
        self.notes = notes
