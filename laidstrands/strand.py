"""The calls on a strand, and the answers to them."""

from laidstrands.bobbin import Bobbin
from laidstrands.nearness import all_fine, bad_bobbins, steps
from laidstrands.ways import least_way, options_of

NO_SUCH_BOBBIN = -2
NOT_BEGUN = -11
TOO_LITTLE_LEFT = -12
THERE_ALREADY = -17
OUT_OF_BOUNDS = -22
FULL = -28
NO_WAY = -33
NOT_FINE = -33
TOO_FEW_JOINTS = -33

MOST_GAP = 10000
LEAST_LAY = 1000
MOST_LAY = 2000
MOST_LEFT = 100000
MOST_RUN = 100000
MOST_BOBBINS = 4
MOST_JOINTS = 4

BEGIN = 0
# How many numbers stand behind each call's own.
ARGUMENTS = (1, 2, 2, 2, 2, 2, 0, 0, 0, 0, 0, 1, 1, 0, 1, 0, 0, 2, 1, 0)
# The calls whose first number is a bobbin: joint, join, could, cut, places, wire, look.
OF_A_BOBBIN = (2, 3, 4, 5, 14, 17, 18)


class Strand:
    def __init__(self):
        self.begun = False
        self.restart(0)

    def restart(self, gap):
        self.gap = gap
        self.bobbins = []
        self.laid = 0
        self.passed = []
        self.cut_off = 0

    def groups(self):
        """For each bobbin the places at which its joints will lie."""
        return [bobbin.places_behind(self.laid, 0) for bobbin in self.bobbins]

    def is_fine(self, groups):
        return all_fine(groups, self.passed, self.gap)

    def best_way(self):
        options = [options_of(bobbin, self.laid) for bobbin in self.bobbins]
        return least_way(options, self.passed, self.gap)

    def cut_bobbin(self, b, metres):
        self.bobbins[b].shorten(metres)
        self.cut_off += metres

    def lasts_for(self):
        """The most strand for which the wire of all bobbins is enough."""
        return min([bobbin.lasts_for() for bobbin in self.bobbins], default=0)

    def lay_strand(self, metres):
        for bobbin in self.bobbins:
            taken = bobbin.wire_for(metres)
            self.passed.extend(bobbin.places_within(self.laid, taken))
            bobbin.shorten(taken)
        # Only now: what came by has the place that it had ahead of the run.
        self.laid += metres


def call_begin(strand, numbers):
    gap = numbers[0]
    if gap > MOST_GAP:
        return [OUT_OF_BOUNDS]
    strand.restart(gap)
    strand.begun = True
    return [0]


def call_bobbin(strand, numbers):
    lay = numbers[0]
    left = numbers[1]
    if lay < LEAST_LAY or lay > MOST_LAY or left > MOST_LEFT:
        return [OUT_OF_BOUNDS]
    if len(strand.bobbins) == MOST_BOBBINS:
        return [FULL]
    strand.bobbins.append(Bobbin(lay, left))
    return [len(strand.bobbins) - 1]


def call_joint(strand, numbers):
    bobbin = strand.bobbins[numbers[0]]
    at = numbers[1]
    if at >= bobbin.left:
        return [OUT_OF_BOUNDS]
    if at in bobbin.joints:
        return [THERE_ALREADY]
    if len(bobbin.joints) == MOST_JOINTS:
        return [FULL]
    bobbin.add_joint(at)
    return [bobbin.place(strand.laid, at)]


def joins_out_of_bounds(bobbin, metres):
    return metres == 0 or bobbin.left + metres > MOST_LEFT


def call_join(strand, numbers):
    bobbin = strand.bobbins[numbers[0]]
    metres = numbers[1]
    if joins_out_of_bounds(bobbin, metres):
        return [OUT_OF_BOUNDS]
    if len(bobbin.joints) == MOST_JOINTS and bobbin.left > 0:
        return [FULL]
    bobbin.lengthen(metres)
    return [bobbin.left]


def call_could(strand, numbers):
    b = numbers[0]
    bobbin = strand.bobbins[b]
    if joins_out_of_bounds(bobbin, numbers[1]):
        return [OUT_OF_BOUNDS]
    groups = strand.groups()
    # Only places are looked at, so a fifth joint may be asked about where a join would be refused.
    if bobbin.left > 0:
        groups[b] = groups[b] + [bobbin.place(strand.laid, bobbin.left)]
    return [1 if strand.is_fine(groups) else 0]


def call_cut(strand, numbers):
    bobbin = strand.bobbins[numbers[0]]
    if bobbin.left < numbers[1]:
        return [TOO_LITTLE_LEFT]
    strand.cut_bobbin(numbers[0], numbers[1])
    return [bobbin.left]


def call_least(strand, numbers):
    way = strand.best_way()
    if way is None:
        return [NO_WAY]
    return [sum(way)] + way


def call_cutleast(strand, numbers):
    way = strand.best_way()
    if way is None:
        return [NO_WAY]
    for b, metres in enumerate(way):
        strand.cut_bobbin(b, metres)
    return [sum(way)]


def call_fine(strand, numbers):
    return [1 if strand.is_fine(strand.groups()) else 0]


def call_bad(strand, numbers):
    bad = bad_bobbins(strand.groups(), strand.passed, strand.gap)
    return [len(bad)] + bad


def call_nearest(strand, numbers):
    places = list(strand.passed)
    for group in strand.groups():
        places.extend(group)
    if len(places) < 2:
        return [TOO_FEW_JOINTS]
    return [min(steps(places))]


def refusal_of_run(strand, metres):
    """What a run of so many metres is refused with; None if it isn't refused."""
    if metres < 1 or metres > MOST_RUN:
        return OUT_OF_BOUNDS
    # Without bobbins the wire lasts for no strand at all, so that they are missed here too.
    if metres > strand.lasts_for():
        return TOO_LITTLE_LEFT
    if not strand.is_fine(strand.groups()):
        return NOT_FINE
    return None


def call_run(strand, numbers):
    refusal = refusal_of_run(strand, numbers[0])
    if refusal is not None:
        return [refusal]
    strand.lay_strand(numbers[0])
    return [strand.laid]


def call_may(strand, numbers):
    refusal = refusal_of_run(strand, numbers[0])
    if refusal == OUT_OF_BOUNDS:
        return [OUT_OF_BOUNDS]
    return [1 if refusal is None else 0]


def call_lasts(strand, numbers):
    return [strand.lasts_for()]


def call_places(strand, numbers):
    group = strand.groups()[numbers[0]]
    return [len(group)] + group


def call_next(strand, numbers):
    firsts = [[group[0], b] for b, group in enumerate(strand.groups()) if len(group) > 0]
    # Of like places the lesser bobbin makes the lesser list.
    return min(firsts, default=[TOO_FEW_JOINTS])


def call_gone(strand, numbers):
    return [len(strand.passed)] + strand.passed


def call_wire(strand, numbers):
    if numbers[1] > MOST_RUN:
        return [OUT_OF_BOUNDS]
    return [strand.bobbins[numbers[0]].wire_for(numbers[1])]


def call_look(strand, numbers):
    bobbin = strand.bobbins[numbers[0]]
    return [bobbin.left, bobbin.lay] + bobbin.joints


def call_sums(strand, numbers):
    return [strand.laid, strand.gap, len(strand.bobbins), strand.cut_off, len(strand.passed)]


HANDLERS = (
    call_begin,
    call_bobbin,
    call_joint,
    call_join,
    call_could,
    call_cut,
    call_least,
    call_cutleast,
    call_fine,
    call_bad,
    call_nearest,
    call_run,
    call_may,
    call_lasts,
    call_places,
    call_next,
    call_gone,
    call_wire,
    call_look,
    call_sums,
)


def answer_call(strand, call, numbers):
    if call != BEGIN and not strand.begun:
        return [NOT_BEGUN]
    if call in OF_A_BOBBIN and numbers[0] >= len(strand.bobbins):
        return [NO_SUCH_BOBBIN]
    return HANDLERS[call](strand, numbers)


def answers(calls):
    """What the calls on one new strand answer: for each, how many numbers, then these."""
    strand = Strand()
    given = []
    at = 0
    while at < len(calls):
        behind = at + 1 + ARGUMENTS[calls[at]]
        answer = answer_call(strand, calls[at], calls[at + 1:behind])
        given.append(len(answer))
        given.extend(answer)
        at = behind
    return given
