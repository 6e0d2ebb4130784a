"""A web of coated lanes: where its faults lie, and which sheets go out between them."""

START = 0

# How many numbers stand behind each call's own.
NUMBERS_BEHIND = (6, 1, 3, 1, 1, 1, 1, 1, 0, 1, 3, 3, 3, 1, 1, 1, 0, 1, 0, 0)

NONE_SUCH = -2
NOT_STARTED = -11
TAKEN = -16
WRONG = -22
FULL = -28
NONE_THERE = -33

MOST_LANES = 3
MOST_PLACES = 80
LONGEST_SHEET = 60
MOST_WORTH = 1000
MOST_FAULTS = 8
MOST_SHEETS = 30

SHORT = 0
TALL = 1


class Web:
    """What is told at a start, and what lies on the lanes since.

    lengths and worths are pairs: of a short sheet, of a tall one.
    faults: number -> (lane, begin, end); sheets: number -> (lane, begin, size).
    """

    def __init__(self, lanes, long, lengths, worths):
        self.lanes = lanes
        self.long = long
        self.lengths = lengths
        self.worths = worths
        self.faults = {}
        self.sheets = {}


def may_start(lanes, long, short, tall, w0, w1):
    """Whether a web may be told so."""
    if lanes < 1 or lanes > MOST_LANES or long > MOST_PLACES:
        return False
    if short == 0 or tall <= short or tall > LONGEST_SHEET:
        return False
    return w0 <= MOST_WORTH and w1 <= MOST_WORTH


def started_web(lanes, long, short, tall, w0, w1):
    """A web without faults and sheets, or None if it is refused."""
    if not may_start(lanes, long, short, tall, w0, w1):
        return None
    return Web(lanes, long, (short, tall), (w0, w1))


def least_free(numbered):
    """The least number that is no key of the dict."""
    number = 0
    while number in numbered:
        number += 1
    return number


def taken_by_faults(web, lane):
    """Each fault of the lane as (begin, end)."""
    return [(begin, end) for on, begin, end in web.faults.values() if on == lane]


def taken_by_sheets(web, lane):
    """Each stamped sheet of the lane as (begin, end)."""
    return [(begin, begin + web.lengths[size]) for on, begin, size in web.sheets.values() if on == lane]


def sheet_lies_in(web, lane, begin, end):
    """Whether a stamped sheet takes a place of the lane from begin up to end."""
    for sheet_begin, sheet_end in taken_by_sheets(web, lane):
        if sheet_begin < end and begin < sheet_end:
            return True
    return False


def taken_places(web, parts):
    """For each place of a lane, whether one of the parts, each (begin, end), takes it."""
    taken = [False for place in range(web.long)]
    for begin, end in parts:
        for place in range(begin, end):
            taken[place] = True
    return taken


def stretches_of(web, lane):
    """The lane's stretches, rising, each as (begin, end)."""
    found = []
    begin = 0
    taken = taken_places(web, taken_by_faults(web, lane) + taken_by_sheets(web, lane))
    # A place that's taken behind the last one closes a stretch up to the lane's end.
    for place, is_taken in enumerate(taken + [True]):
        if is_taken:
            if begin < place:
                found.append((begin, place))
            begin = place + 1
    return found


def best_of(web, room):
    """The best out of so many places: (worth, how many short ones, how many tall ones)."""
    chosen = (0, 0, 0)
    for shorts in range(room // web.lengths[SHORT] + 1):
        talls = (room - shorts * web.lengths[SHORT]) // web.lengths[TALL]
        value = shorts * web.worths[SHORT] + talls * web.worths[TALL]
        # The short ones rise, so the last of like ones is that with most of them.
        if value >= chosen[0]:
            chosen = (value, shorts, talls)
    return chosen


def plan_of(web, lane):
    """The sheets of the lane's plan, rising, each as (begin, size)."""
    sheets = []
    for begin, end in stretches_of(web, lane):
        chosen = best_of(web, end - begin)
        place = begin
        for size, many in ((SHORT, chosen[1]), (TALL, chosen[2])):
            for cut in range(many):
                sheets.append((place, size))
                place += web.lengths[size]
    return sheets


def worth_of(web, lane):
    """What the sheets of the lane's plan are worth together."""
    return sum([web.worths[size] for begin, size in plan_of(web, lane)])


def worth_of_all(web):
    """What all lanes are worth together."""
    return sum([worth_of(web, lane) for lane in range(web.lanes)])


def cost_of(web, f):
    """How much more all lanes would be worth, were the fault mended."""
    # Told of another web, so that this one stays as it is.
    mended = Web(web.lanes, web.long, web.lengths, web.worths)
    mended.faults = dict(web.faults)
    mended.faults.pop(f)
    mended.sheets = dict(web.sheets)
    return worth_of_all(mended) - worth_of_all(web)


def first_fit(web, lane, begin, size):
    """The first place, begin or behind it, from which on a sheet fits, or None."""
    for stretch_begin, stretch_end in stretches_of(web, lane):
        place = max(begin, stretch_begin)
        if place + web.lengths[size] <= stretch_end:
            return place
    return None


def lay_sheet(web, lane, begin, size):
    """Put a sheet where it is known to fit, and tell its number."""
    number = least_free(web.sheets)
    web.sheets[number] = (lane, begin, size)
    return number


def counted_pairs(pairs):
    """How many pairs there are, then their numbers one behind another."""
    numbers = [len(pairs)]
    for pair in pairs:
        numbers.extend(pair)
    return numbers


def coat(web, n):
    """Make all lanes n places longer."""
    if n == 0 or web.long + n > MOST_PLACES:
        return [WRONG]
    web.long += n
    return [web.long]


def fault(web, lane, begin, end):
    """Mark the places of the lane from begin up to end as faulty."""
    if lane >= web.lanes or end <= begin or end > web.long:
        return [WRONG]
    if sheet_lies_in(web, lane, begin, end):
        return [TAKEN]
    if len(web.faults) >= MOST_FAULTS:
        return [FULL]
    number = least_free(web.faults)
    web.faults[number] = (lane, begin, end)
    return [number]


def mend(web, f):
    """Take a fault away."""
    if f not in web.faults:
        return [NONE_SUCH]
    web.faults.pop(f)
    return [len(web.faults)]


def stretches(web, lane):
    """How many stretches the lane has, and where they lie."""
    if lane >= web.lanes:
        return [WRONG]
    return counted_pairs(stretches_of(web, lane))


def best(web, s):
    """The best out of a stretch of s places, whether or not the lanes are so long."""
    if s > MOST_PLACES:
        return [WRONG]
    return list(best_of(web, s))


def plan(web, lane):
    """How many sheets the lane's plan has, and where they lie."""
    if lane >= web.lanes:
        return [WRONG]
    return counted_pairs(plan_of(web, lane))


def worth(web, lane):
    """What the lane is worth."""
    if lane >= web.lanes:
        return [WRONG]
    return [worth_of(web, lane)]


def total(web):
    """What all lanes are worth."""
    return [worth_of_all(web)]


def alone(web, size):
    """How many sheets go out of all stretches, if only those of one size are cut."""
    if size > TALL:
        return [WRONG]
    many = 0
    for lane in range(web.lanes):
        for begin, end in stretches_of(web, lane):
            many += (end - begin) // web.lengths[size]
    return [many]


def fits(web, lane, begin, size):
    """Whether all places of such a sheet are free, as 1 or 0."""
    if lane >= web.lanes or size > TALL:
        return [WRONG]
    return [1 if first_fit(web, lane, begin, size) == begin else 0]


def next_place(web, lane, begin, size):
    """The first place, begin or behind it, from which on such a sheet fits."""
    if lane >= web.lanes or size > TALL:
        return [WRONG]
    place = first_fit(web, lane, begin, size)
    return [NONE_THERE if place is None else place]


def stamp(web, lane, begin, size):
    """Stamp one sheet."""
    if lane >= web.lanes or size > TALL:
        return [WRONG]
    if first_fit(web, lane, begin, size) != begin:
        return [TAKEN]
    if len(web.sheets) >= MOST_SHEETS:
        return [FULL]
    return [lay_sheet(web, lane, begin, size)]


def follow(web, lane):
    """Stamp all sheets of the lane's plan, or none of them."""
    if lane >= web.lanes:
        return [WRONG]
    planned = plan_of(web, lane)
    if len(web.sheets) + len(planned) > MOST_SHEETS:
        return [FULL]
    for begin, size in planned:
        lay_sheet(web, lane, begin, size)
    return [len(planned)]


def lift(web, s):
    """Take a stamped sheet away, and tell its size."""
    if s not in web.sheets:
        return [NONE_SUCH]
    lifted = web.sheets.pop(s)
    return [lifted[2]]


def gain(web, f):
    """What the fault costs."""
    if f not in web.faults:
        return [NONE_SUCH]
    return [cost_of(web, f)]


def worst(web):
    """The fault that costs most, and how much; of like ones that with the least number."""
    if len(web.faults) == 0:
        return [NONE_THERE]
    numbers = sorted(web.faults)
    costs = [cost_of(web, f) for f in numbers]
    most = max(costs)
    return [numbers[costs.index(most)], most]


def sheet(web, s):
    """A stamped sheet's size, its lane, where it begins."""
    if s not in web.sheets:
        return [NONE_SUCH]
    found = web.sheets[s]
    return [found[2], found[0], found[1]]


def metres(web):
    """How many places there are, and how many are free, faulty, stamped."""
    every = web.lanes * web.long
    faulty = 0
    stamped = 0
    for lane in range(web.lanes):
        # Faults may lie over one another, so the places are counted, not the faults' lengths.
        faulty += taken_places(web, taken_by_faults(web, lane)).count(True)
        stamped += taken_places(web, taken_by_sheets(web, lane)).count(True)
    return [every, every - faulty - stamped, faulty, stamped]


def state(web):
    """How long the web is; how many lanes, faults, sheets."""
    return [web.long, web.lanes, len(web.faults), len(web.sheets)]


ANSWERED_BY = {
    1: coat, 2: fault, 3: mend, 4: stretches, 5: best, 6: plan, 7: worth, 8: total, 9: alone, 10: fits,
    11: next_place, 12: stamp, 13: follow, 14: lift, 15: gain, 16: worst, 17: sheet, 18: metres, 19: state,
}


def answer(web, call, numbers):
    """What a started web answers to one call."""
    if len(numbers) == 0:
        return ANSWERED_BY[call](web)
    if len(numbers) == 1:
        return ANSWERED_BY[call](web, numbers[0])
    return ANSWERED_BY[call](web, numbers[0], numbers[1], numbers[2])


def answers(calls):
    """Answer the calls on a new object: for each how many numbers, then these."""
    web = None
    given = []
    at = 0
    while at < len(calls):
        call = calls[at]
        behind = at + 1 + NUMBERS_BEHIND[call]
        numbers = calls[at + 1:behind]
        if call == START:
            started = started_web(numbers[0], numbers[1], numbers[2], numbers[3], numbers[4], numbers[5])
            answered = [WRONG] if started is None else [0]
            # A start that is refused leaves the web that was there.
            web = web if started is None else started
        elif web is None:
            answered = [NOT_STARTED]
        else:
            answered = answer(web, call, numbers)
        given.append(len(answered))
        given.extend(answered)
        at = behind
    return given
