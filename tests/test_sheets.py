"""fits, next, stamp, follow, lift, sheet."""

import unittest

from tests.helper import (BIGGEST, ask, coat, fault, fits, follow, following, last, lift, mend, metres, plan, sheet,
                          stamp, start, state, stretches, total)

# Free of lane 0: 0 to 3, 6, 9 to 12, 15 to 19; in between lie faults, one over another, and a sheet of each size.
BEGUN = (start(lanes=2, long=20, short=2, tall=3), fault(0, 4, 5), fault(0, 4, 6), stamp(0, 7, 0), stamp(0, 13, 0),
         fault(1, 3, 4), stamp(1, 10, 1))
FREE = (0, 1, 2, 3, 6, 9, 10, 11, 12, 15, 16, 17, 18, 19)
LENGTHS = (2, 3)


def behind_begun(*calls):
    return ask(*BEGUN, *calls)[len(BEGUN):]


def filled(lanes=1, long=80):
    """A web with 30 stamped sheets of 2 places, from place 0 of lane 0 on."""
    return (start(lanes=lanes, long=long),) + tuple(stamp(0, 2 * k, 0) for k in range(30))


class Fits(unittest.TestCase):
    def test_all_its_places_are_free(self):
        for size in (0, 1):
            expected = [[1 if all(place + k in FREE for k in range(LENGTHS[size])) else 0] for place in range(22)]
            with self.subTest(size=size):
                self.assertEqual(behind_begun(*[fits(0, place, size) for place in range(22)]), expected)

    def test_just_at_the_end_and_one_behind(self):
        self.assertEqual(ask(start(), fits(0, 8, 0), fits(0, 9, 0), fits(0, 7, 1), fits(0, 8, 1)),
                         [[0], [1], [0], [1], [0]])

    def test_at_and_above_the_length(self):
        for place in (10, 11, 80, BIGGEST - 1, BIGGEST):
            with self.subTest(place=place):
                self.assertEqual(ask(start(), fits(0, place, 0), fits(0, place, 1)), [[0], [0], [0]])

    def test_just_the_whole_lane(self):
        self.assertEqual(ask(start(long=60, short=59, tall=60), fits(0, 0, 1), fits(0, 1, 1), fits(0, 1, 0),
                             fits(0, 2, 0)), [[0], [1], [0], [1], [0]])

    def test_of_its_own_lane(self):
        self.assertEqual(behind_begun(fits(0, 3, 0), fits(1, 4, 0), fits(1, 7, 1), fits(1, 8, 1), fits(1, 13, 1)),
                         [[0], [1], [1], [0], [1]])

    def test_a_web_of_no_places(self):
        self.assertEqual(ask(start(long=0, short=1, tall=2), fits(0, 0, 0), fits(0, 0, 1)), [[0], [0], [0]])

    def test_after_coat_mend_and_lift(self):
        self.assertEqual(behind_begun(fits(0, 18, 1), coat(1), fits(0, 18, 1)), [[0], [21], [1]])
        self.assertEqual(behind_begun(mend(0), fits(0, 3, 0), mend(1), fits(0, 3, 0)), [[2], [0], [1], [1]])
        self.assertEqual(behind_begun(fits(0, 6, 1), lift(0), fits(0, 6, 1)), [[0], [0], [1]])

    def test_no_such_lane_or_size(self):
        for lane, begin, size in ((2, 0, 0), (3, 0, 0), (BIGGEST, 0, 0), (0, 0, 2), (0, 0, BIGGEST), (2, 0, 2),
                                  (BIGGEST, BIGGEST, BIGGEST), (2, BIGGEST, 0), (0, BIGGEST, 2), (0, 4, 2)):
            with self.subTest(lane=lane, begin=begin, size=size):
                self.assertEqual(behind_begun(fits(lane, begin, size)), [[-22]])

    def test_it_changes_nothing(self):
        self.assertEqual(ask(start(), fits(0, 0, 0), fits(0, 0, 0), state(), stretches(0)),
                         [[0], [1], [1], [10, 1, 0, 0], [1, 0, 10]])


class Next(unittest.TestCase):
    def test_the_next_place_is_the_next(self):
        for size in (0, 1):
            fitting = [place for place in range(20) if all(place + k in FREE for k in range(LENGTHS[size]))]
            expected = [[min([to for to in fitting if to >= place], default=-33)] for place in range(22)]
            with self.subTest(size=size):
                self.assertEqual(behind_begun(*[following(0, place, size) for place in range(22)]), expected)

    def test_a_place_that_fits_itself(self):
        self.assertEqual(behind_begun(following(0, 0, 0), following(0, 2, 0), following(0, 1, 1), following(0, 17, 1)),
                         [[0], [2], [1], [17]])

    def test_over_faults_and_sheets(self):
        self.assertEqual(behind_begun(following(0, 3, 0), following(0, 2, 1), following(0, 11, 1), following(0, 7, 0)),
                         [[9], [9], [15], [9]])

    def test_just_at_the_end_and_one_behind(self):
        self.assertEqual(ask(start(), following(0, 8, 0), following(0, 9, 0), following(0, 7, 1), following(0, 8, 1)),
                         [[0], [8], [-33], [7], [-33]])

    def test_at_and_above_the_length(self):
        for place in (10, 11, 80, BIGGEST):
            with self.subTest(place=place):
                self.assertEqual(ask(start(), following(0, place, 0), following(0, place, 1)), [[0], [-33], [-33]])

    def test_there_is_none(self):
        self.assertEqual(ask(start(long=0, short=1, tall=2), following(0, 0, 0)), [[0], [-33]])
        self.assertEqual(ask(start(long=2), following(0, 0, 1), following(0, 0, 0)), [[0], [-33], [0]])
        self.assertEqual(last(start(), fault(0, 2, 9), following(0, 0, 1)), [-33])
        self.assertEqual(last(start(), fault(0, 0, 10), following(0, 0, 0)), [-33])

    def test_of_its_own_lane(self):
        self.assertEqual(ask(start(lanes=2), fault(0, 0, 5), stamp(1, 3, 0), following(0, 0, 0), following(1, 0, 0),
                             following(1, 2, 0))[3:], [[5], [0], [5]])

    def test_no_such_lane_or_size(self):
        for lane, begin, size in ((2, 0, 0), (BIGGEST, 0, 0), (0, 0, 2), (0, 0, BIGGEST), (2, 0, 2),
                                  (BIGGEST, BIGGEST, BIGGEST), (2, BIGGEST, 0), (0, BIGGEST, 2)):
            with self.subTest(lane=lane, begin=begin, size=size):
                self.assertEqual(behind_begun(following(lane, begin, size)), [[-22]])

    def test_it_changes_nothing(self):
        self.assertEqual(ask(start(), following(0, 0, 0), following(0, 0, 0), state()),
                         [[0], [0], [0], [10, 1, 0, 0]])


class Stamp(unittest.TestCase):
    def test_its_number_and_its_places(self):
        self.assertEqual(ask(start(lanes=2), stamp(0, 2, 1), stamp(1, 0, 0), stamp(0, 0, 0), stretches(0),
                             stretches(1)), [[0], [0], [1], [2], [1, 5, 10], [1, 2, 10]])

    def test_what_is_left_is_planned(self):
        self.assertEqual(ask(start(), stamp(0, 3, 0), plan(0), total())[2:], [[3, 0, 1, 5, 0, 7, 1], [8]])

    def test_just_at_the_end_and_one_behind(self):
        self.assertEqual(ask(start(), stamp(0, 9, 0), stamp(0, 8, 1), stamp(0, 8, 0), state()),
                         [[0], [-16], [-16], [0], [10, 1, 0, 1]])
        self.assertEqual(ask(start(), stamp(0, 7, 1), stretches(0)), [[0], [0], [1, 0, 7]])

    def test_at_and_above_the_length(self):
        for place in (10, 11, 80, BIGGEST - 1, BIGGEST):
            with self.subTest(place=place):
                self.assertEqual(ask(start(), stamp(0, place, 0), stamp(0, place, 1), state()),
                                 [[0], [-16], [-16], [10, 1, 0, 0]])

    def test_it_fits_just_where_fits_says(self):
        for size in (0, 1):
            for place in range(22):
                with self.subTest(size=size, place=place):
                    fit, stamped, told = behind_begun(fits(0, place, size), stamp(0, place, size), state())
                    self.assertEqual(stamped, [3] if fit == [1] else [-16])
                    self.assertEqual(told, [20, 2, 3, 3 + fit[0]])

    def test_over_another_and_side_by_side(self):
        self.assertEqual(ask(start(), stamp(0, 4, 0), stamp(0, 4, 0), stamp(0, 5, 0), stamp(0, 3, 0), stamp(0, 2, 1),
                             stamp(0, 3, 1), stamp(0, 2, 0), stamp(0, 6, 1))[1:],
                         [[0], [-16], [-16], [-16], [-16], [-16], [1], [2]])

    def test_thirty_at_most(self):
        line = filled() + (stamp(0, 60, 0), stamp(0, 77, 1), state())
        self.assertEqual(ask(*line)[1:], [[k] for k in range(30)] + [[-28], [-28], [80, 1, 0, 30]])

    def test_thirty_at_most_over_all_lanes(self):
        line = [start(lanes=3, long=10, short=1, tall=2)] + [stamp(k % 3, k // 3, 0) for k in range(30)]
        self.assertEqual(ask(*line, coat(2), stamp(0, 10, 0), stamp(2, 10, 1))[1:],
                         [[k] for k in range(30)] + [[12], [-28], [-28]])

    def test_which_refusal_comes_first(self):
        line = (stamp(1, 0, 0), stamp(0, 0, 2), stamp(1, 70, 2), stamp(0, 0, 0), stamp(0, 79, 0), stamp(0, 80, 1),
                stamp(0, 60, 0))
        self.assertEqual(ask(*filled(), *line)[31:], [[-22], [-22], [-22], [-16], [-16], [-16], [-28]])

    def test_no_such_lane_or_size(self):
        for lane, begin, size in ((2, 0, 0), (BIGGEST, 0, 0), (0, 0, 2), (0, 0, BIGGEST), (2, 4, 2), (0, 4, 2),
                                  (BIGGEST, BIGGEST, BIGGEST), (2, BIGGEST, 0), (0, BIGGEST, 2)):
            with self.subTest(lane=lane, begin=begin, size=size):
                self.assertEqual(behind_begun(stamp(lane, begin, size), state()), [[-22], [20, 2, 3, 3]])

    def test_a_web_of_no_places(self):
        self.assertEqual(ask(start(long=0, short=1, tall=2), stamp(0, 0, 0), coat(1), stamp(0, 0, 0)),
                         [[0], [-16], [1], [0]])


class Follow(unittest.TestCase):
    def test_the_plan_is_stamped(self):
        line = (start(lanes=2, long=32, short=4, tall=7, w0=3, w1=7), fault(0, 19, 21), follow(0), state(), total(),
                stretches(0), stretches(1))
        self.assertEqual(ask(*line)[2:], [[5], [32, 2, 1, 5], [31], [1, 18, 19], [1, 0, 32]])
        told = ask(*line[:3], *[sheet(s) for s in range(6)])[3:]
        self.assertEqual(told, [[0, 0, 0], [1, 0, 4], [1, 0, 11], [0, 0, 21], [1, 0, 25], [-2]])

    def test_round_what_is_stamped(self):
        self.assertEqual(ask(start(lanes=2), stamp(1, 3, 0), follow(1), sheet(1), sheet(2), sheet(3), sheet(4))[2:],
                         [[3], [1, 1, 0], [0, 1, 5], [1, 1, 7], [-2]])

    def test_just_thirty(self):
        line = (start(lanes=2, long=30, short=1, tall=2, w0=1, w1=1), follow(0), state(), follow(1), state(),
                stretches(0))
        self.assertEqual(ask(*line)[1:], [[30], [30, 2, 0, 30], [-28], [30, 2, 0, 30], [0]])

    def test_thirty_one_are_too_many_and_none_is_stamped(self):
        line = (start(long=31, short=1, tall=2, w0=1, w1=1), follow(0), state(), sheet(0), stretches(0), plan(0))
        given = ask(*line)
        self.assertEqual(given[1:5], [[-28], [31, 1, 0, 0], [-2], [1, 0, 31]])
        self.assertEqual(given[5][0], 31)

    def test_thirty_with_those_that_are_there(self):
        begun = (start(lanes=2, long=40, short=2, tall=3, w0=1, w1=1), follow(0), fault(1, 20, 40))
        self.assertEqual(ask(*begun, follow(1), state(), stamp(1, 0, 0))[1:],
                         [[20], [0], [10], [40, 2, 1, 30], [-16]])
        begun = begun[:2] + (fault(1, 22, 40),)
        self.assertEqual(ask(*begun, follow(1), state(), sheet(20), lift(7), follow(1), state(), sheet(7), sheet(20),
                             sheet(29))[3:],
                         [[-28], [40, 2, 1, 20], [-2], [0], [11], [40, 2, 1, 30], [0, 1, 0], [0, 1, 2], [0, 1, 20]])

    def test_a_plan_without_sheets(self):
        self.assertEqual(ask(start(long=1), follow(0), state()), [[0], [0], [1, 1, 0, 0]])
        self.assertEqual(ask(start(long=0), follow(0), state()), [[0], [0], [0, 1, 0, 0]])
        self.assertEqual(ask(start(), fault(0, 0, 10), follow(0), state())[2:], [[0], [10, 1, 1, 0]])

    def test_a_plan_without_sheets_where_there_are_thirty(self):
        self.assertEqual(ask(*filled(lanes=2, long=61), follow(0), follow(1), follow(2), state())[31:],
                         [[0], [-28], [-22], [61, 2, 0, 30]])

    def test_twice(self):
        self.assertEqual(ask(start(lanes=2), follow(0), follow(0), state(), follow(1), follow(0), follow(1), state()),
                         [[0], [5], [0], [10, 2, 0, 5], [5], [0], [0], [10, 2, 0, 10]])

    def test_sizes_worth_nothing(self):
        self.assertEqual(ask(start(long=7, w0=0, w1=0), follow(0), sheet(2), stretches(0)),
                         [[0], [3], [0, 0, 4], [1, 6, 7]])

    def test_numbers_that_are_free_between_others(self):
        line = (start(lanes=2, long=15, short=2, tall=5, w0=2, w1=7), follow(1), stamp(0, 0, 0), stamp(0, 2, 0),
                stamp(0, 4, 0), lift(3), lift(0), follow(0))
        self.assertEqual(ask(*line)[1:], [[3], [3], [4], [5], [0], [1], [4]])
        self.assertEqual(ask(*line, *[sheet(s) for s in range(9)])[8:],
                         [[0, 0, 0], [1, 1, 5], [1, 1, 10], [0, 0, 6], [0, 0, 2], [0, 0, 4], [0, 0, 8], [1, 0, 10],
                          [-2]])

    def test_no_such_lane(self):
        self.assertEqual(behind_begun(follow(2), follow(3), follow(BIGGEST), state()),
                         [[-22], [-22], [-22], [20, 2, 3, 3]])


class Lift(unittest.TestCase):
    def test_its_size_and_its_places(self):
        line = (start(), stamp(0, 0, 1), stamp(0, 5, 0), lift(0), stretches(0), state(), lift(1), stretches(0), state())
        self.assertEqual(ask(*line)[3:], [[1], [2, 0, 5, 7, 10], [10, 1, 0, 1], [0], [1, 0, 10], [10, 1, 0, 0]])

    def test_no_such_sheet(self):
        self.assertEqual(ask(start(), lift(0), stamp(0, 0, 0), lift(1), lift(30), lift(BIGGEST), state()),
                         [[0], [-2], [0], [-2], [-2], [-2], [10, 1, 0, 1]])

    def test_a_fault_is_no_sheet(self):
        self.assertEqual(ask(start(), fault(0, 0, 1), lift(0), sheet(0), state())[2:], [[-2], [-2], [10, 1, 1, 0]])

    def test_twice(self):
        self.assertEqual(ask(start(), stamp(0, 0, 1), stamp(0, 3, 1), lift(0), lift(0), state())[3:],
                         [[1], [-2], [10, 1, 0, 1]])

    def test_the_least_free_number_is_given_again(self):
        line = [start()] + [stamp(0, 2 * k, 0) for k in range(4)] + [
            lift(2), lift(0), stamp(0, 8, 0), stamp(0, 0, 0), stamp(0, 4, 0), sheet(0), sheet(2), sheet(4)]
        self.assertEqual(ask(*line)[5:], [[0], [0], [0], [2], [4], [0, 0, 8], [0, 0, 0], [0, 0, 4]])

    def test_there_is_room_again(self):
        self.assertEqual(ask(*filled(), lift(17), stamp(0, 70, 1), stamp(0, 74, 1), sheet(17))[31:],
                         [[0], [17], [-28], [1, 0, 70]])

    def test_the_last_number(self):
        self.assertEqual(ask(*filled(), lift(30), sheet(30), sheet(29), lift(29), sheet(29))[31:],
                         [[-2], [-2], [0, 0, 58], [0], [-2]])


class Sheet(unittest.TestCase):
    def test_size_lane_begin(self):
        self.assertEqual(ask(start(lanes=3), stamp(2, 5, 1), stamp(1, 8, 0), sheet(0), sheet(1))[3:],
                         [[1, 2, 5], [0, 1, 8]])

    def test_no_such_sheet(self):
        self.assertEqual(ask(start(), sheet(0), stamp(0, 0, 0), sheet(1), sheet(30), sheet(BIGGEST)),
                         [[0], [-2], [0], [-2], [-2], [-2]])
        self.assertEqual(ask(start(), stamp(0, 0, 0), lift(0), sheet(0))[3:], [[-2]])

    def test_stays_through_coat_fault_mend_and_other_sheets(self):
        line = (start(lanes=2), stamp(1, 4, 1), coat(5), fault(1, 0, 4), mend(0), stamp(0, 0, 0), lift(1), sheet(0))
        self.assertEqual(last(*line), [1, 1, 4])

    def test_it_changes_nothing(self):
        self.assertEqual(ask(start(), stamp(0, 0, 0), sheet(0), sheet(0), metres())[2:],
                         [[0, 0, 0], [0, 0, 0], [10, 8, 0, 2]])


if __name__ == "__main__":
    unittest.main()
