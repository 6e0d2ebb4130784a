"""A web of coated lanes: where its faults lie, and which sheets go out between them."""

START = 0
COAT = 1
FAULT = 2
MEND = 3
STRETCHES = 4
BEST = 5
PLAN = 6
WORTH = 7
TOTAL = 8
ALONE = 9

# How many numbers stand behind each call's own. All twenty calls are here: one that
# comes ahead of a start is refused, and must be stepped over to reach the one behind it.
NUMBERS_BEHIND = (6, 1, 3, 1, 1, 1, 1, 1, 0, 1, 3, 3, 3, 1, 1, 1, 0, 1, 0, 0)

NONE_SUCH = -2
NOT_STARTED = -11
STAMPED_THERE = -16
WRONG = -22
FULL = -28

MOST_LANES = 3
MOST_PLACES = 80
LONGEST_SHEET = 60
MOST_WORTH = 1000
MOST_FAULTS = 8

SHORT = 0
TALL = 1


class Web:
    """What is told at a start, and what lies on the lanes since.

    lengths and worths are pairs: of a short sheet, of a tall one.
    faults: number -> (lane, begin, end); sheets: number -> (lane, begin, size).
    """

    def __init__(self, lanes, long, lengths, worths):
        self.lanes = lanes
        self.long = long
        self.lengths = lengths
        self.worths = worths
        self.faults = {}
        self.sheets = {}


def may_start(lanes, long, short, tall, w0, w1):
    """Whether a web may be told so."""
    if lanes < 1 or lanes > MOST_LANES or long > MOST_PLACES:
        return False
    if short == 0 or tall <= short or tall > LONGEST_SHEET:
        return False
    return w0 <= MOST_WORTH and w1 <= MOST_WORTH


def started_web(lanes, long, short, tall, w0, w1):
    """A web without faults and sheets, or None if it is refused."""
    if not may_start(lanes, long, short, tall, w0, w1):
        return None
    return Web(lanes, long, (short, tall), (w0, w1))


def least_free(numbered):
    """The least number that is no key of the dict."""
    number = 0
    while number in numbered:
        number += 1
    return number


def taken_by_faults(web, lane):
    """Each fault of the lane as (begin, end)."""
    return [(begin, end) for on, begin, end in web.faults.values() if on == lane]


def taken_by_sheets(web, lane):
    """Each stamped sheet of the lane as (begin, end)."""
    return [(begin, begin + web.lengths[size]) for on, begin, size in web.sheets.values() if on == lane]


def sheet_lies_in(web, lane, begin, end):
    """Whether a stamped sheet takes a place of the lane from begin up to end."""
    for sheet_begin, sheet_end in taken_by_sheets(web, lane):
        if sheet_begin < end and begin < sheet_end:
            return True
    return False


def free_places(web, lane):
    """For each place of the lane, whether it is free."""
    free = [True for place in range(web.long)]
    for begin, end in taken_by_faults(web, lane) + taken_by_sheets(web, lane):
        for place in range(begin, end):
            free[place] = False
    return free


def stretches_of(web, lane):
    """The lane's stretches, rising, each as (begin, end)."""
    found = []
    begin = 0
    # A place that isn't free behind the last one closes a stretch up to the lane's end.
    for place, is_free in enumerate(free_places(web, lane) + [False]):
        if not is_free:
            if begin < place:
                found.append((begin, place))
            begin = place + 1
    return found


def best_of(web, room):
    """The best out of so many places: (worth, how many short ones, how many tall ones)."""
    chosen = (0, 0, 0)
    for shorts in range(room // web.lengths[SHORT] + 1):
        talls = (room - shorts * web.lengths[SHORT]) // web.lengths[TALL]
        value = shorts * web.worths[SHORT] + talls * web.worths[TALL]
        # The short ones rise, so the last of like ones is that with most of them.
        if value >= chosen[0]:
            chosen = (value, shorts, talls)
    return chosen


def plan_of(web, lane):
    """The sheets of the lane's plan, rising, each as (begin, size)."""
    sheets = []
    for begin, end in stretches_of(web, lane):
        chosen = best_of(web, end - begin)
        place = begin
        for size, many in ((SHORT, chosen[1]), (TALL, chosen[2])):
            for cut in range(many):
                sheets.append((place, size))
                place += web.lengths[size]
    return sheets


def worth_of(web, lane):
    """What the sheets of the lane's plan are worth together."""
    return sum([web.worths[size] for begin, size in plan_of(web, lane)])


def counted_pairs(pairs):
    """How many pairs there are, then their numbers one behind another."""
    numbers = [len(pairs)]
    for pair in pairs:
        numbers.extend(pair)
    return numbers


def coat(web, n):
    """Make all lanes n places longer."""
    if n == 0 or web.long + n > MOST_PLACES:
        return [WRONG]
    web.long += n
    return [web.long]


def fault(web, lane, begin, end):
    """Mark the places of the lane from begin up to end as faulty."""
    if lane >= web.lanes or end <= begin or end > web.long:
        return [WRONG]
    if sheet_lies_in(web, lane, begin, end):
        return [STAMPED_THERE]
    if len(web.faults) >= MOST_FAULTS:
        return [FULL]
    number = least_free(web.faults)
    web.faults[number] = (lane, begin, end)
    return [number]


def mend(web, f):
    """Take a fault away."""
    if f not in web.faults:
        return [NONE_SUCH]
    web.faults.pop(f)
    return [len(web.faults)]


def stretches(web, lane):
    """How many stretches the lane has, and where they lie."""
    if lane >= web.lanes:
        return [WRONG]
    return counted_pairs(stretches_of(web, lane))


def best(web, s):
    """The best out of a stretch of s places, whether or not the lanes are so long."""
    if s > MOST_PLACES:
        return [WRONG]
    return list(best_of(web, s))


def plan(web, lane):
    """How many sheets the lane's plan has, and where they lie."""
    if lane >= web.lanes:
        return [WRONG]
    return counted_pairs(plan_of(web, lane))


def worth(web, lane):
    """What the lane is worth."""
    if lane >= web.lanes:
        return [WRONG]
    return [worth_of(web, lane)]


def total(web):
    """What all lanes are worth."""
    return [sum([worth_of(web, lane) for lane in range(web.lanes)])]


def alone(web, size):
    """How many sheets go out of all stretches, if only those of one size are cut."""
    if size > TALL:
        return [WRONG]
    many = 0
    for lane in range(web.lanes):
        for begin, end in stretches_of(web, lane):
            many += (end - begin) // web.lengths[size]
    return [many]


def answer(web, call, numbers):
    """What a started web answers to one call."""
    if call == COAT:
        return coat(web, numbers[0])
    if call == FAULT:
        return fault(web, numbers[0], numbers[1], numbers[2])
    if call == MEND:
        return mend(web, numbers[0])
    if call == STRETCHES:
        return stretches(web, numbers[0])
    if call == BEST:
        return best(web, numbers[0])
    if call == PLAN:
        return plan(web, numbers[0])
    if call == WORTH:
        return worth(web, numbers[0])
    if call == TOTAL:
        return total(web)
    if call == ALONE:
        return alone(web, numbers[0])
    raise NotImplementedError("this call is not built yet")


def answers(calls):
    """Answer the calls on a new object: for each how many numbers, then these."""
    web = None
    given = []
    at = 0
    while at < len(calls):
        call = calls[at]
        behind = at + 1 + NUMBERS_BEHIND[call]
        numbers = calls[at + 1:behind]
        if call == START:
            started = started_web(numbers[0], numbers[1], numbers[2], numbers[3], numbers[4], numbers[5])
            answered = [WRONG] if started is None else [0]
            # A start that is refused leaves the web that was there.
            web = web if started is None else started
        elif web is None:
            answered = [NOT_STARTED]
        else:
            answered = answer(web, call, numbers)
        given.append(len(answered))
        given.extend(answered)
        at = behind
    return given
