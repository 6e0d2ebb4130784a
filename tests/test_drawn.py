"""Over many drawn lines of calls: what holds, and that every answer is the one that the words ask for."""

import re
import unittest

from foilcuts.webs import answers
from tests.helper import (BIGGEST, Draw, alone, ask, best, coat, fault, fits, follow, following, gain, lift, mend,
                          metres, plan, sheet, stamp, start, state, stretches, total, worst, worth)

# Kinds of webs that come to many sheets, to long ones, to worthless ones, and to none at all.
LONGS = (0, 1, 7, 10, 15, 20, 33, 50, 64, 79, 80)
LENGTHS = ((1, 2), (1, 60), (2, 3), (2, 4), (3, 4), (3, 7), (4, 6), (5, 9), (8, 11), (20, 27), (59, 60))
WORTHS = ((0, 0), (0, 5), (5, 0), (1, 1), (1, 2), (2, 3), (4, 7), (10, 17), (999, 1000), (1000, 1000))
WRONG_STARTS = ((0, 10, 2, 3, 1, 1), (4, 10, 2, 3, 1, 1), (1, 81, 2, 3, 1, 1), (1, 10, 0, 3, 1, 1),
                (1, 10, 3, 3, 1, 1), (1, 10, 2, 61, 1, 1), (1, 10, 2, 3, 1001, 1), (1, 10, 2, 3, 1, 1001),
                (BIGGEST, BIGGEST, BIGGEST, BIGGEST, BIGGEST, BIGGEST))


class Model:
    """A web told place by place: each lane is a text, a row of places; sheets and faults are looked up in lists."""

    def __init__(self, lanes, long, short, tall, w0, w1):
        self.lanes, self.long, self.lengths, self.worths = lanes, long, (short, tall), (w0, w1)
        self.faults = [None] * 8
        self.sheets = [None] * 30

    def row(self, lane, without=None):
        """The lane's places: . is free, x is faulty, # is stamped."""
        row = ["."] * self.long
        for f, marked in enumerate(self.faults):
            if marked is not None and marked[0] == lane and f != without:
                row[marked[1]:marked[2]] = "x" * (marked[2] - marked[1])
        for stamped in self.sheets:
            if stamped is not None and stamped[0] == lane:
                long = self.lengths[stamped[2]]
                row[stamped[1]:stamped[1] + long] = "#" * long
        return "".join(row)

    def parts(self, lane, without=None):
        return [found.span() for found in re.finditer(r"\.+", self.row(lane, without))]

    def choice(self, room):
        short, tall = self.lengths
        return max((a * self.worths[0] + b * self.worths[1], a, b)
                   for a in range(room // short + 1) for b in range((room - a * short) // tall + 1))

    def cuts(self, lane):
        planned = []
        for place, end in self.parts(lane):
            value, shorts, talls = self.choice(end - place)
            for size in [0] * shorts + [1] * talls:
                planned.append((place, size))
                place += self.lengths[size]
        return planned

    def all_worth(self, without=None):
        return sum(self.choice(end - begin)[0]
                   for lane in range(self.lanes) for begin, end in self.parts(lane, without))

    def fits(self, lane, begin, size):
        long = self.lengths[size]
        return self.row(lane)[begin:begin + long] == "." * long

    def lay(self, lane, begin, size):
        number = self.sheets.index(None)
        self.sheets[number] = (lane, begin, size)
        return number

    def there(self, kept):
        return sum(one is not None for one in kept)

    def answer_coat(self, n):
        if not 1 <= n <= 80 - self.long:
            return [-22]
        self.long += n
        return [self.long]

    def answer_fault(self, lane, begin, end):
        if not (lane < self.lanes and begin < end <= self.long):
            return [-22]
        if "#" in self.row(lane)[begin:end]:
            return [-16]
        if None not in self.faults:
            return [-28]
        number = self.faults.index(None)
        self.faults[number] = (lane, begin, end)
        return [number]

    def answer_mend(self, f):
        if f > 7 or self.faults[f] is None:
            return [-2]
        self.faults[f] = None
        return [self.there(self.faults)]

    def answer_stretches(self, lane):
        found = self.parts(lane) if lane < self.lanes else None
        return [-22] if found is None else [len(found)] + [place for part in found for place in part]

    def answer_best(self, s):
        return [-22] if s > 80 else list(self.choice(s))

    def answer_plan(self, lane):
        found = self.cuts(lane) if lane < self.lanes else None
        return [-22] if found is None else [len(found)] + [number for cut in found for number in cut]

    def answer_worth(self, lane):
        return [sum(self.worths[size] for place, size in self.cuts(lane))] if lane < self.lanes else [-22]

    def answer_total(self):
        return [self.all_worth()]

    def answer_alone(self, size):
        if size > 1:
            return [-22]
        return [sum((end - begin) // self.lengths[size]
                    for lane in range(self.lanes) for begin, end in self.parts(lane))]

    def answer_fits(self, lane, begin, size):
        return [-22] if lane >= self.lanes or size > 1 else [int(self.fits(lane, begin, size))]

    def answer_next(self, lane, begin, size):
        if lane >= self.lanes or size > 1:
            return [-22]
        return [min([place for place in range(begin, self.long) if self.fits(lane, place, size)], default=-33)]

    def answer_stamp(self, lane, begin, size):
        if lane >= self.lanes or size > 1:
            return [-22]
        if not self.fits(lane, begin, size):
            return [-16]
        return [self.lay(lane, begin, size)] if None in self.sheets else [-28]

    def answer_follow(self, lane):
        if lane >= self.lanes:
            return [-22]
        planned = self.cuts(lane)
        if self.there(self.sheets) + len(planned) > 30:
            return [-28]
        for place, size in planned:
            self.lay(lane, place, size)
        return [len(planned)]

    def answer_lift(self, s):
        if s > 29 or self.sheets[s] is None:
            return [-2]
        size = self.sheets[s][2]
        self.sheets[s] = None
        return [size]

    def answer_gain(self, f):
        if f > 7 or self.faults[f] is None:
            return [-2]
        return [self.all_worth(f) - self.all_worth()]

    def answer_worst(self):
        costs = [(self.answer_gain(f)[0], -f) for f in range(8) if self.faults[f] is not None]
        return [-max(costs)[1], max(costs)[0]] if costs else [-33]

    def answer_sheet(self, s):
        if s > 29 or self.sheets[s] is None:
            return [-2]
        lane, begin, size = self.sheets[s]
        return [size, lane, begin]

    def answer_metres(self):
        rows = "".join(self.row(lane) for lane in range(self.lanes))
        return [len(rows), rows.count("."), rows.count("x"), rows.count("#")]

    def answer_state(self):
        return [self.long, self.lanes, self.there(self.faults), self.there(self.sheets)]


NAMES = ("start", "coat", "fault", "mend", "stretches", "best", "plan", "worth", "total", "alone", "fits", "next",
         "stamp", "follow", "lift", "gain", "worst", "sheet", "metres", "state")


def told_by_model(line):
    """What the words ask for, call by call."""
    model, given = None, []
    for call in line:
        if call[0] == 0:
            wrong = tuple(call[1:]) in WRONG_STARTS
            given.append([-22] if wrong else [0])
            model = model if wrong else Model(*call[1:])
        elif model is None:
            given.append([-11])
        else:
            given.append(getattr(model, "answer_" + NAMES[call[0]])(*call[1:]))
    return given


# How often each call that changes something is drawn in a line: some lines fill up, others give much free again.
TILTS = (("fault",) * 4 + ("mend",) * 2 + ("stamp",) * 4 + ("follow", "lift", "lift", "coat"),
         ("fault",) * 2 + ("stamp",) * 16 + ("follow", "lift"),
         ("fault",) * 12 + ("mend",) * 5 + ("stamp", "lift", "coat"),
         ("follow",) * 4 + ("lift",) * 8 + ("stamp",) * 3 + ("fault", "mend", "coat"))


class Drawn(Draw):
    """Draws calls that mostly are of the web that was started last."""

    def __init__(self, seed):
        super().__init__(seed)
        self.tilt = self.one_of(TILTS)
        self.lanes, self.long = 1, 10

    def start(self):
        self.lanes, self.long = 1 + self.below(3), self.one_of(LONGS)
        return start(self.lanes, self.long, *self.one_of(LENGTHS), *self.one_of(WORTHS))

    def wrong_start(self):
        return [0, *self.one_of(WRONG_STARTS)]

    def lane(self):
        return self.one_of((self.lanes, 3, BIGGEST)) if self.below(30) == 0 else self.below(self.lanes)

    def place(self):
        return BIGGEST - self.below(3) if self.below(40) == 0 else self.below(self.long + 3)

    def size(self):
        return self.one_of((2, 3, BIGGEST)) if self.below(40) == 0 else self.below(2)

    def number(self, most):
        return BIGGEST if self.below(60) == 0 else self.below(self.one_of((2, most // 2, most + 1)))

    def change(self):
        """A call that changes something, if it isn't refused."""
        name, lane, begin = self.one_of(self.tilt), self.lane(), self.place()
        if name == "fault":
            return fault(lane, begin, min(begin + self.one_of((0, 1, 1, 1, 2, 2, 3, 5, 9)), BIGGEST))
        if name == "mend":
            return mend(self.number(8))
        if name == "stamp":
            return stamp(lane, begin, self.size())
        if name == "follow":
            return follow(lane)
        if name == "lift":
            return lift(self.number(30))
        return coat(self.one_of((0, 1, 2, 5, 11, 40, 81, BIGGEST)))

    def question(self):
        lane, begin, size = self.lane(), self.place(), self.size()
        return self.one_of((stretches(lane), best(begin), plan(lane), worth(lane), total(), alone(size),
                            fits(lane, begin, size), following(lane, begin, size), gain(self.number(8)), worst(),
                            sheet(self.number(30)), metres(), state()))

    def line(self, calls, questions):
        """A start, then calls, so many in all; so many of a hundred only ask."""
        line = [self.start()]
        while len(line) < calls:
            if self.below(100) < questions:
                line.append(self.question())
            elif self.below(50) == 0:
                line.append(self.wrong_start())
            elif self.below(120) == 0:
                line.append(self.start())
            else:
                line.append(self.change())
        return line


class ByTheWords(unittest.TestCase):
    def check(self, line):
        given = ask(*line)
        for at, (got, asked) in enumerate(zip(given, told_by_model(line))):
            self.assertEqual(got, asked, (at, line[:at + 1]))

    def test_lines_of_200_calls(self):
        for seed in range(400):
            with self.subTest(seed=seed):
                self.check(Drawn(seed).line(200, 40))

    def test_many_changes_told_behind_each(self):
        for seed in range(120):
            with self.subTest(seed=seed):
                line = Drawn(1000 + seed).line(66, 0)
                self.check([one for call in line for one in (call, state(), metres())])

    def test_ahead_of_a_start(self):
        for seed in range(40):
            with self.subTest(seed=seed):
                draw = Drawn(2000 + seed)
                line = [draw.change(), draw.question(), draw.wrong_start(), draw.question()]
                self.check(line + draw.line(30, 50))

    def test_the_list_stays_and_is_answered_alike_twice(self):
        for seed in range(40):
            with self.subTest(seed=seed):
                line = [number for call in Drawn(3000 + seed).line(150, 50) for number in call]
                kept = list(line)
                first = answers(line)
                self.assertEqual(line, kept)
                self.assertEqual(answers(line), first)
                self.assertEqual(line, kept)


class WhatHolds(unittest.TestCase):
    """Told by the answers alone: each line of changes is asked again with other calls behind it."""

    def setUp(self):
        self.lines = [Drawn(5000 + seed).line(10 + seed % 50, 0) for seed in range(200)]

    def told(self, line):
        """The last good start's numbers, and how long the web is now."""
        given = ask(*line, state())
        begun = [call for call, answered in zip(line, given) if call[0] == 0 and answered == [0]][-1]
        return begun[1], given[-1][0], begun[3:5], begun[5:7]

    def free(self, line, lane, long):
        row = [False] * long
        given = ask(*line, stretches(lane))[-1]
        for begin, end in zip(given[1::2], given[2::2]):
            row[begin:end] = [True] * (end - begin)
        return row

    def most(self, row, lengths, worths):
        """The most that any sheets out of the free places are worth."""
        most = [0] * (len(row) + 1)
        for place in reversed(range(len(row))):
            most[place] = max([most[place + 1]] + [
                value + most[place + long] for long, value in zip(lengths, worths)
                if place + long <= len(row) and all(row[place:place + long])])
        return most[0]

    def test_no_sheets_are_worth_more_than_the_plan_and_that_can_be_cut(self):
        for line in self.lines:
            lanes, long, lengths, worths = self.told(line)
            for lane in range(lanes):
                with self.subTest(line=line, lane=lane):
                    planned, valued, told = ask(*line, plan(lane), worth(lane), state())[-3:]
                    self.assertEqual(valued, [sum(worths[size] for size in planned[2::2])])
                    self.assertEqual(valued, [self.most(self.free(line, lane, long), lengths, worths)])
                    room = 30 - told[3]
                    cuts = list(zip(planned[1::2], planned[2::2]))
                    given = ask(*line, *[stamp(lane, *cut) for cut in cuts])[len(line):]
                    self.assertEqual([number[0] >= 0 for number in given[:room]], [True] * min(room, len(cuts)))
                    self.assertEqual(given[room:], [[-28]] * (len(cuts) - room))

    def test_what_follows_the_plan_leaves_no_plan(self):
        for line in self.lines:
            for lane in range(3):
                with self.subTest(line=line, lane=lane):
                    planned, before, followed, after, again, left = ask(
                        *line, plan(lane), state(), follow(lane), state(), follow(lane), worth(lane))[-6:]
                    if planned[0] < 0:
                        self.assertEqual((followed, again), ([-22], [-22]))
                    elif before[3] + planned[0] > 30:
                        self.assertEqual((followed, after, again), ([-28], before, [-28]))
                    else:
                        self.assertEqual((followed, again, left), ([planned[0]], [0], [0]))
                        self.assertEqual(after, before[:3] + [before[3] + planned[0]])

    def test_every_place_is_one_of_three(self):
        for line in self.lines:
            with self.subTest(line=line):
                lanes, long, lengths, worths = self.told(line)
                counted = ask(*line, metres())[-1]
                self.assertEqual(counted[0], lanes * long)
                self.assertEqual(counted[0], sum(counted[1:]))
                rows = [self.free(line, lane, long) for lane in range(lanes)]
                self.assertEqual(counted[1], sum(row.count(True) for row in rows))
                taken = []
                told = ask(*line, *[sheet(s) for s in range(30)])[len(line):]
                for size, lane, begin in [one for one in told if one != [-2]]:
                    self.assertLessEqual(begin + lengths[size], long)
                    taken.extend((lane, place) for place in range(begin, begin + lengths[size]))
                self.assertEqual(len(taken), len(set(taken)))
                self.assertFalse(any(rows[lane][place] for lane, place in taken))
                self.assertEqual(counted[3], len(taken))

    def test_a_fault_that_is_mended_never_makes_less(self):
        for line in self.lines:
            costs = []
            for f in range(8):
                with self.subTest(line=line, f=f):
                    before, told, mended, after = ask(*line, total(), gain(f), mend(f), total())[-4:]
                    self.assertLessEqual(before[0], after[0])
                    if mended != [-2]:
                        costs.append((f, told[0]))
                        self.assertEqual(told[0], after[0] - before[0])
            most = max([cost for f, cost in costs], default=None)
            first = [[f, cost] for f, cost in costs if cost == most]
            self.assertEqual(ask(*line, worst())[-1], first[0] if first else [-33])

    def test_the_next_place_is_the_next(self):
        for line in self.lines[::2]:
            lanes, long, lengths, worths = self.told(line)
            for lane in range(lanes):
                for size in (0, 1):
                    with self.subTest(line=line, lane=lane, size=size):
                        fit = ask(*line, *[fits(lane, place, size) for place in range(long)])[len(line):]
                        given = ask(*line, *[following(lane, place, size) for place in range(long)])[len(line):]
                        self.assertEqual(given, [[fit.index([1], place) if [1] in fit[place:] else -33]
                                                 for place in range(long)])


if __name__ == "__main__":
    unittest.main()
