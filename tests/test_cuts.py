"""stretches, best, plan, worth, total, alone."""

import unittest

from tests.helper import BIGGEST, alone, ask, best, coat, fault, last, mend, plan, start, stretches, total, worth

KINDS = [(short, tall, w0, w1)
         for short, tall in ((1, 2), (2, 3), (2, 4), (3, 7), (5, 8), (7, 60), (59, 60))
         for w0, w1 in ((0, 0), (0, 1), (1, 0), (1, 1), (1, 2), (2, 3), (3, 7), (4, 9), (1000, 1000), (999, 1000))]


def best_by_trying(s, short, tall, w0, w1):
    """All that go out, weighed as the words say: worth, then short ones, then tall ones."""
    return max([a * w0 + b * w1, a, b] for a in range(s + 1) for b in range(s + 1) if a * short + b * tall <= s)


def most_of_a_lane(free, short, tall, w0, w1):
    """The most that any sheets out of a lane are worth, place by place from its end."""
    most = [0] * (len(free) + 1)
    for place in reversed(range(len(free))):
        most[place] = most[place + 1]
        for long, value in ((short, w0), (tall, w1)):
            if place + long <= len(free) and all(free[place:place + long]):
                most[place] = max(most[place], value + most[place + long])
    return most[0]


class Stretches(unittest.TestCase):
    def test_without_faults(self):
        self.assertEqual(last(start(long=80), stretches(0)), [1, 0, 80])

    def test_rising_whatever_the_order_of_faults(self):
        self.assertEqual(last(start(), fault(0, 7, 8), fault(0, 1, 2), fault(0, 4, 5), stretches(0)),
                         [4, 0, 1, 2, 4, 5, 7, 8, 10])

    def test_faults_side_by_side_leave_none_between(self):
        self.assertEqual(last(start(), fault(0, 2, 4), fault(0, 4, 6), stretches(0)), [2, 0, 2, 6, 10])

    def test_a_fault_up_to_the_end(self):
        self.assertEqual(last(start(), fault(0, 6, 10), stretches(0)), [1, 0, 6])

    def test_a_web_of_no_places(self):
        self.assertEqual(last(start(long=0), stretches(0)), [0])

    def test_no_such_lane(self):
        for lanes in (1, 2, 3):
            with self.subTest(lanes=lanes):
                self.assertEqual(ask(start(lanes=lanes), stretches(lanes - 1), stretches(lanes), stretches(BIGGEST)),
                                 [[0], [1, 0, 10], [-22], [-22]])


class Best(unittest.TestCase):
    def test_ordinary(self):
        self.assertEqual(last(start(short=4, tall=7, w0=3, w1=7), best(19)), [17, 1, 2])

    def test_just_as_long_as_two(self):
        self.assertEqual(last(start(short=4, tall=7, w0=1, w1=10), best(14)), [20, 0, 2])
        self.assertEqual(last(start(short=4, tall=7, w0=1, w1=10), best(13)), [11, 1, 1])
        self.assertEqual(last(start(short=4, tall=7, w0=5, w1=1), best(8)), [10, 2, 0])
        self.assertEqual(last(start(short=4, tall=7, w0=5, w1=1), best(7)), [5, 1, 0])
        self.assertEqual(last(start(short=4, tall=7, w0=5, w1=6), best(11)), [11, 1, 1])

    def test_more_short_ones_worth_more_than_fewer_tall_ones(self):
        self.assertEqual(last(start(short=3, tall=5, w0=4, w1=6), best(15)), [20, 5, 0])

    def test_of_like_ones_that_with_most_short_ones(self):
        self.assertEqual(last(start(short=2, tall=4, w0=1, w1=2), best(8)), [4, 4, 0])
        self.assertEqual(last(start(short=2, tall=4, w0=5, w1=10), best(11)), [25, 5, 0])
        self.assertEqual(last(start(short=2, tall=3, w0=2, w1=3), best(7)), [7, 2, 1])

    def test_then_as_many_tall_ones_as_go_with_them(self):
        self.assertEqual(last(start(short=2, tall=3, w0=0, w1=1), best(11)), [3, 1, 3])
        self.assertEqual(last(start(short=5, tall=6, w0=0, w1=0), best(11)), [0, 2, 0])
        self.assertEqual(last(start(short=2, tall=3, w0=1, w1=0), best(7)), [3, 3, 0])

    def test_sizes_worth_nothing(self):
        self.assertEqual(last(start(short=2, tall=3, w0=0, w1=0), best(9)), [0, 4, 0])
        self.assertEqual(last(start(short=2, tall=5, w0=0, w1=7), best(9)), [7, 2, 1])

    def test_room_for_none(self):
        self.assertEqual(ask(start(short=3, tall=4), best(0), best(2)), [[0], [0, 0, 0], [0, 0, 0]])

    def test_the_stretch_may_be_longer_than_the_web(self):
        self.assertEqual(ask(start(long=0, short=1, tall=2, w0=1000, w1=1000), best(80)), [[0], [80000, 80, 0]])

    def test_above_80(self):
        self.assertEqual(ask(start(long=80), best(80), best(81), best(BIGGEST)), [[0], [80, 40, 0], [-22], [-22]])

    def test_none_is_worth_more(self):
        for kind in KINDS:
            with self.subTest(kind=kind):
                given = ask(start(1, 0, *kind), *[best(s) for s in range(81)])[1:]
                self.assertEqual(given, [best_by_trying(s, *kind) for s in range(81)])


class Plan(unittest.TestCase):
    def test_short_ones_first_from_the_stretch_on(self):
        line = (start(long=32, short=4, tall=7, w0=3, w1=7), fault(0, 19, 21))
        self.assertEqual(last(*line, plan(0)), [5, 0, 0, 4, 1, 11, 1, 21, 0, 25, 1])

    def test_of_its_own_lane(self):
        line = (start(lanes=3, long=5, short=2, tall=5, w0=1, w1=3), fault(1, 0, 1), fault(2, 2, 3))
        self.assertEqual(ask(*line, plan(0), plan(1), plan(2))[3:], [[1, 0, 1], [2, 1, 0, 3, 0], [2, 0, 0, 3, 0]])

    def test_stretches_that_are_too_short(self):
        self.assertEqual(last(start(long=5), fault(0, 1, 2), fault(0, 3, 4), plan(0)), [0])

    def test_a_web_of_no_places(self):
        self.assertEqual(ask(start(long=0), plan(0), worth(0), total(), alone(0), alone(1)),
                         [[0], [0], [0], [0], [0], [0]])

    def test_sizes_worth_nothing_are_planned(self):
        self.assertEqual(ask(start(long=7, w0=0, w1=0), plan(0), worth(0)), [[0], [3, 0, 0, 2, 0, 4, 0], [0]])

    def test_a_fault_up_to_the_end(self):
        self.assertEqual(last(start(long=10), fault(0, 5, 10), plan(0)), [2, 0, 0, 2, 1])

    def test_as_many_as_can_be(self):
        self.assertEqual(last(start(long=80, short=1, tall=2, w0=1, w1=1), plan(0)),
                         [80] + [number for place in range(80) for number in (place, 0)])

    def test_no_such_lane(self):
        self.assertEqual(ask(start(lanes=2, long=0), plan(1), plan(2), plan(BIGGEST)), [[0], [0], [-22], [-22]])

    def test_it_changes_nothing(self):
        self.assertEqual(ask(start(long=4), plan(0), plan(0), stretches(0)),
                         [[0], [2, 0, 0, 2, 0], [2, 0, 0, 2, 0], [1, 0, 4]])


class Worth(unittest.TestCase):
    def test_of_a_lane_and_of_all(self):
        line = (start(lanes=3, long=9, short=2, tall=5, w0=10, w1=27), fault(1, 4, 5), fault(2, 0, 8))
        self.assertEqual(ask(*line, worth(0), worth(1), worth(2), total())[3:], [[47], [40], [0], [87]])

    def test_after_a_coat_and_a_mend(self):
        line = (start(long=4, w0=5, w1=9), total(), coat(1), total(), fault(0, 2, 3), total(), mend(0), total())
        self.assertEqual(ask(*line)[1:], [[10], [5], [14], [0], [10], [0], [14]])

    def test_the_most_there_is(self):
        line = (start(lanes=3, long=80, short=1, tall=2, w0=1000, w1=1000), worth(2), total())
        self.assertEqual(ask(*line)[1:], [[80000], [240000]])

    def test_no_such_lane(self):
        self.assertEqual(ask(start(lanes=2), worth(1), worth(2), worth(BIGGEST)), [[0], [10], [-22], [-22]])


class Alone(unittest.TestCase):
    def test_of_each_size_out_of_all_stretches(self):
        line = (start(lanes=2, long=20, short=3, tall=5), fault(0, 8, 9), fault(1, 0, 5))
        self.assertEqual(ask(*line, alone(0), alone(1))[3:], [[2 + 3 + 5], [1 + 2 + 3]])

    def test_just_as_long_as_two(self):
        self.assertEqual(ask(start(long=10, short=4, tall=5), alone(0), alone(1)), [[0], [2], [2]])

    def test_whatever_they_are_worth(self):
        self.assertEqual(ask(start(long=12, w0=0, w1=0), alone(0), alone(1)), [[0], [6], [4]])

    def test_no_such_size(self):
        self.assertEqual(ask(start(), alone(2), alone(BIGGEST)), [[0], [-22], [-22]])


class NoneBetter(unittest.TestCase):
    """Over many webs: the plan can be cut, and no sheets are worth more."""

    MARKS = ((), ((0, 0, 1),), ((0, 11, 24), (0, 20, 30)), ((0, 59, 60), (0, 5, 6), (0, 33, 40), (1, 0, 60)),
             ((0, 7, 8), (0, 15, 16), (0, 23, 25), (0, 41, 42), (1, 31, 32), (1, 30, 31), (1, 58, 60), (0, 0, 2)))

    def free_of(self, lane, marks):
        return [not any(on == lane and begin <= place < end for on, begin, end in marks) for place in range(60)]

    def cut(self, planned, free, lengths):
        """The places left free, once the plan is cut place by place."""
        left = list(free)
        for at in range(planned[0]):
            begin, size = planned[1 + 2 * at:3 + 2 * at]
            for place in range(begin, begin + lengths[size]):
                self.assertTrue(left[place])
                left[place] = False
        return left

    def check_lane(self, lane, kind, marks):
        line = [start(2, 60, *kind)] + [fault(*mark) for mark in marks]
        planned, valued = ask(*line, plan(lane), worth(lane))[-2:]
        self.assertEqual(len(planned), 1 + 2 * planned[0])
        self.assertEqual(planned[1::2], sorted(planned[1::2]))
        free = self.free_of(lane, marks)
        self.cut(planned, free, kind[:2])
        self.assertEqual(valued, [sum(kind[2:][size] for size in planned[2::2])])
        self.assertEqual(valued, [most_of_a_lane(free, *kind)])

    def test_plans(self):
        for kind in KINDS:
            for marks in self.MARKS:
                for lane in (0, 1):
                    with self.subTest(kind=kind, marks=marks, lane=lane):
                        self.check_lane(lane, kind, marks)


if __name__ == "__main__":
    unittest.main()
