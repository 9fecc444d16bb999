"""Walks: who is told what, and when, by inputs that are small enough to follow."""

import unittest

from hushnotice.walk import walked, wheeled
from tests.helps import check_walk, person

ALWAYS = ((0, 12), (12, 0))
NIGHT = ((22, 6),)


class TellingTest(unittest.TestCase):
    def test_no_notices(self):
        check_walk(self, (person(),), [], [], [])

    def test_a_notice_is_told_at_its_birth(self):
        check_walk(self, (person(),), [(0, 0, 0, 0)], [(0, 0, (0,))], [("open", 0)])
        check_walk(self, (person(),), [(0, 3, 7, 300)], [(300, 0, (0,))], [("open", 0)])

    def test_each_alone_if_not_gathered(self):
        notices = [(0, 0, 1, 4), (0, 2, 1, 4), (0, 3, 1, 4), (0, 0, 1, 5)]
        rows = [(4, 0, (0,)), (4, 0, (1,)), (4, 0, (2,)), (5, 0, (3,))]
        check_walk(self, (person(),), notices, rows, [("open", 0)] * 4)

    def test_six_persons(self):
        notices = [(one, 0, 0, 7) for one in (5, 3, 4, 0, 2, 1)]
        rows = [(7, 0, (3,)), (7, 1, (5,)), (7, 2, (4,)), (7, 3, (1,)), (7, 4, (2,)), (7, 5, (0,))]
        fates = [("open", one) for one in (5, 3, 4, 0, 2, 1)]
        check_walk(self, (person(),) * 6, notices, rows, fates)

    def test_rows_rise_by_moment_then_person_then_notices(self):
        rules = (person(gather=((0, 2),)), person())
        notices = [(1, 0, 0, 2), (0, 0, 0, 2), (0, 0, 1, 4), (1, 0, 0, 4), (0, 0, 1, 4)]
        rows = [(2, 1, (0,)), (4, 0, (1,)), (4, 0, (2,)), (4, 0, (4,)), (4, 1, (3,))]
        check_walk(self, rules, notices, rows, [("open", one) for one in (1, 0, 0, 1, 0)])


class UntilTest(unittest.TestCase):
    def test_up_to_until_and_it_too(self):
        notices = [(0, 0, 0, 0), (0, 0, 0, 8), (0, 0, 0, 9)]
        rows = [(0, 0, (0,)), (8, 0, (1,)), (9, 0, (2,))]
        check_walk(self, (person(),), notices, rows[:1], [("open", 0), ("unborn",), ("unborn",)], until=0)
        check_walk(self, (person(),), notices, rows[:1], [("open", 0), ("unborn",), ("unborn",)], until=7)
        check_walk(self, (person(),), notices, rows[:2], [("open", 0), ("open", 0), ("unborn",)], until=8)
        check_walk(self, (person(),), notices, rows, [("open", 0)] * 3, until=9)

    def test_births_at_300(self):
        check_walk(self, (person(),), [(0, 0, 0, 300)], [], [("unborn",)], until=299)
        check_walk(self, (person(),), [(0, 0, 0, 300)], [(300, 0, (0,))], [("open", 0)], until=300)

    def test_600_if_left_out(self):
        hears = [(600, 0, 0)]
        row, heard = (0, 0, (0,)), ("heard", 0, 600)
        check_walk(self, (person(),), [(0, 0, 0, 0)], [row], [heard], hears=hears)
        check_walk(self, (person(),), [(0, 0, 0, 0)], [row], [heard], hears=hears, until=600)
        check_walk(self, (person(),), [(0, 0, 0, 0)], [row], [("open", 0)], hears=hears, until=599)

    def test_a_notice_on_its_way_for_long(self):
        rules = tuple(person(((1, 0),), 4, ((0, 1),), 24, one) for one in (1, 2, 3, 4, 5, None))
        # It goes on at hour 0, is gathered till hour 1, and waits for the next hour 0; with rank 3 it is told at once.
        rows = [(312, 0, (0,)), (360, 1, (0,)), (408, 2, (0,)), (432, 3, (0,)), (456, 4, (0,)), (480, 5, (0,))]
        check_walk(self, rules, [(0, 0, 0, 300)], rows, [("given up",)])
        check_walk(self, rules, [(0, 0, 0, 300)], rows, [("given up",)], until=504)
        check_walk(self, rules, [(0, 0, 0, 300)], rows, [("open", 5)], until=503)
        check_walk(self, rules, [(0, 0, 0, 300)], rows[:5], [("open", 4)], until=479)

    def test_open_tells_the_one_to_whom_it_went_last_told_or_not(self):
        rules = (person(wait=2, further=1), person(gather=((0, 5),)))
        notice = [(0, 0, 0, 1)]
        check_walk(self, rules, notice, [(1, 0, (0,))], [("open", 0)], until=2)
        check_walk(self, rules, notice, [(1, 0, (0,))], [("open", 1)], until=3)
        check_walk(self, rules, notice, [(1, 0, (0,))], [("open", 1)], until=7)
        check_walk(self, rules, notice, [(1, 0, (0,)), (8, 1, (0,))], [("open", 1)], until=8)


class HearTest(unittest.TestCase):
    RULES = (person(), person())
    NOTICE = [(0, 0, 0, 5)]
    ROW = [(5, 0, (0,))]

    def check(self, hears, fate):
        check_walk(self, self.RULES, self.NOTICE, self.ROW, [fate], hears=hears)
        check_walk(self, self.RULES, self.NOTICE, self.ROW, [fate], hears=tuple(hears))

    def test_at_a_later_moment(self):
        self.check([(6, 0, 0)], ("heard", 0, 6))
        self.check([(600, 0, 0)], ("heard", 0, 600))

    def test_at_the_moment_at_which_it_was_told(self):
        self.check([(5, 0, 0)], ("open", 0))

    def test_ahead_of_it(self):
        self.check([(0, 0, 0), (4, 0, 0)], ("open", 0))

    def test_one_that_does_not_count_leaves_the_next_to_count(self):
        self.check([(4, 0, 0), (5, 0, 0), (7, 1, 0), (8, 0, 0)], ("heard", 0, 8))

    def test_behind_another_one(self):
        self.check([(6, 0, 0), (6, 0, 0), (7, 0, 0)], ("heard", 0, 6))

    def test_by_another_person(self):
        self.check([(6, 1, 0)], ("open", 0))

    def test_behind_until(self):
        check_walk(self, self.RULES, self.NOTICE, self.ROW, [("open", 0)], hears=[(9, 0, 0)], until=8)
        check_walk(self, self.RULES, self.NOTICE, self.ROW, [("heard", 0, 9)], hears=[(9, 0, 0)], until=9)

    def test_of_a_notice_that_is_not_born(self):
        check_walk(self, self.RULES, self.NOTICE, [], [("unborn",)], hears=[(2, 0, 0)], until=4)

    def test_of_the_notice_that_it_names(self):
        notices = [(0, 0, 0, 5), (0, 0, 0, 5), (0, 0, 0, 6)]
        rows = [(5, 0, (0,)), (5, 0, (1,)), (6, 0, (2,))]
        fates = [("open", 0), ("heard", 0, 6), ("open", 0)]
        check_walk(self, self.RULES, notices, rows, fates, hears=[(6, 0, 1), (6, 0, 2)])

    def test_while_it_lies_in_a_heap(self):
        rules = (person(gather=((0, 5),)),)
        hears = [(6, 0, 0), (10, 0, 0)]
        check_walk(self, rules, self.NOTICE, [(10, 0, (0,))], [("open", 0)], hears=hears)
        check_walk(self, rules, self.NOTICE, [(10, 0, (0,))], [("heard", 0, 11)], hears=hears + [(11, 0, 0)])

    def test_while_it_is_ready_in_hushed_hours(self):
        rules = (person(((5, 8),), 1),)
        check_walk(self, rules, self.NOTICE, [(8, 0, (0,))], [("open", 0)], hears=[(6, 0, 0), (8, 0, 0)])

    def test_two_persons_at_one_moment_in_the_turn_of_the_hears(self):
        rules = (person(wait=1, further=1), person())
        rows = [(5, 0, (0,)), (6, 1, (0,))]
        check_walk(self, rules, self.NOTICE, rows, [("heard", 1, 8)], hears=[(8, 1, 0), (8, 0, 0)])
        check_walk(self, rules, self.NOTICE, rows, [("heard", 0, 8)], hears=[(8, 0, 0), (8, 1, 0)])

    def test_it_counts_ahead_of_going_on(self):
        rules = (person(wait=3, further=1), person())
        rows = [(5, 0, (0,)), (8, 1, (0,))]
        check_walk(self, rules, self.NOTICE, rows[:1], [("heard", 0, 8)], hears=[(8, 0, 0)])
        check_walk(self, rules, self.NOTICE, rows, [("heard", 0, 9)], hears=[(9, 0, 0)])

    def test_the_further_one_at_the_moment_at_which_it_was_told(self):
        rules = (person(wait=3, further=1), person())
        rows = [(5, 0, (0,)), (8, 1, (0,))]
        check_walk(self, rules, self.NOTICE, rows, [("open", 1)], hears=[(8, 1, 0)])
        check_walk(self, rules, self.NOTICE, rows, [("heard", 1, 9)], hears=[(8, 1, 0), (9, 1, 0)])

    def test_what_is_heard_does_not_go_on(self):
        rules = (person(wait=3, further=1), person(wait=3, further=2), person())
        rows = [(5, 0, (0,)), (8, 1, (0,))]
        for one in (0, 1):
            for moment in (9, 10, 11):
                fates = [("heard", one, moment)]
                check_walk(self, rules, self.NOTICE, rows, fates, hears=[(moment, one, 0)])
        rows.append((11, 2, (0,)))
        check_walk(self, rules, self.NOTICE, rows, [("heard", 1, 12)], hears=[(12, 1, 0)])

    def test_what_is_heard_is_not_given_up(self):
        rules = (person(wait=3),)
        check_walk(self, rules, self.NOTICE, self.ROW, [("heard", 0, 8)], hears=[(8, 0, 0)])

    def test_what_is_given_up_may_be_heard_still(self):
        rules = (person(wait=3),)
        check_walk(self, rules, self.NOTICE, self.ROW, [("given up",)], until=8)
        check_walk(self, rules, self.NOTICE, self.ROW, [("given up",)], hears=[(9, 0, 0)], until=8)
        check_walk(self, rules, self.NOTICE, self.ROW, [("heard", 0, 9)], hears=[(9, 0, 0), (10, 0, 0)])

    def test_what_is_given_up_may_be_heard_by_each_that_was_told(self):
        rules = (person(wait=3, further=1), person(wait=3))
        rows = [(5, 0, (0,)), (8, 1, (0,))]
        for one in (0, 1):
            check_walk(self, rules, self.NOTICE, rows, [("heard", one, 20)], hears=[(20, one, 0)])


class GoingOnTest(unittest.TestCase):
    def test_as_many_moments_later_as_the_wait_tells(self):
        for wait in (1, 2, 24):
            rules = (person(wait=wait, further=1), person())
            rows = [(5, 0, (0,)), (5 + wait, 1, (0,))]
            check_walk(self, rules, [(0, 0, 0, 5)], rows, [("open", 1)])
            check_walk(self, rules, [(0, 0, 0, 5)], rows[:1], [("open", 0)], until=4 + wait)

    def test_never_without_a_wait(self):
        rules = (person(further=1), person())
        check_walk(self, rules, [(0, 0, 0, 5)], [(5, 0, (0,))], [("open", 0)])

    def test_the_wait_is_counted_from_the_telling_on(self):
        rules = (person(NIGHT, 4, ((0, 3),), 2, 1), person())
        rows = [(6, 0, (0,)), (8, 1, (0,))]
        check_walk(self, rules, [(0, 0, 0, 1)], rows, [("open", 1)])
        rows = [(13, 0, (0,)), (15, 1, (0,))]
        check_walk(self, rules, [(0, 0, 0, 10)], rows, [("open", 1)])

    def test_never_if_it_was_not_told(self):
        rules = (person(ALWAYS, 4, (), 2, 1), person())
        check_walk(self, rules, [(0, 0, 0, 5)], [], [("open", 0)])

    def test_given_up_if_there_is_no_further_one(self):
        rules = (person(wait=2),)
        check_walk(self, rules, [(0, 0, 0, 5)], [(5, 0, (0,))], [("given up",)])
        check_walk(self, rules, [(0, 0, 0, 5)], [(5, 0, (0,))], [("given up",)], until=7)
        check_walk(self, rules, [(0, 0, 0, 5)], [(5, 0, (0,))], [("open", 0)], until=6)

    def test_given_up_if_a_person_is_its_own_further_one(self):
        rules = (person(wait=2, further=0), person())
        check_walk(self, rules, [(0, 0, 0, 5)], [(5, 0, (0,))], [("given up",)])

    def test_given_up_at_the_end_of_a_ring(self):
        rules = (person(wait=2, further=1), person(wait=2, further=2), person(wait=2, further=0))
        rows = [(5, 1, (0,)), (7, 2, (0,)), (9, 0, (0,))]
        check_walk(self, rules, [(1, 0, 0, 5)], rows, [("given up",)], until=11)
        check_walk(self, rules, [(1, 0, 0, 5)], rows, [("open", 0)], until=10)

    def test_given_up_at_a_ring_behind_others(self):
        rules = (person(wait=2, further=1), person(wait=3, further=2), person(wait=4, further=1))
        rows = [(5, 0, (0,)), (7, 1, (0,)), (10, 2, (0,))]
        check_walk(self, rules, [(0, 0, 0, 5)], rows, [("given up",)])

    def test_the_rank_is_one_greater(self):
        for rank in range(4):
            for least in range(5):
                rules = (person(wait=2, further=1), person(ALWAYS, least))
                rows = [(5, 0, (0,))]
                if min(rank + 1, 3) >= least:
                    rows.append((7, 1, (0,)))
                with self.subTest(rank=rank, least=least):
                    check_walk(self, rules, [(0, rank, 0, 5)], rows, [("open", 1)])

    def test_the_rank_rises_at_each_person_up_to_3(self):
        leasts = (0, 1, 2, 3, 3, 4)
        rules = tuple(person(ALWAYS, leasts[one], (), 1, one + 1) for one in range(5)) + (person(ALWAYS, 4),)
        rows = [(5 + one, one, (0,)) for one in range(5)]
        check_walk(self, rules, [(0, 0, 0, 5)], rows, [("open", 5)])

    def test_the_rank_is_not_greater_than_that(self):
        rules = (person(wait=1, further=1), person(wait=1, further=2), person(ALWAYS, 3))
        check_walk(self, rules, [(0, 0, 0, 5)], [(5, 0, (0,)), (6, 1, (0,))], [("open", 2)])
        check_walk(self, rules, [(0, 1, 0, 5)], [(5, 0, (0,)), (6, 1, (0,)), (7, 2, (0,))], [("open", 2)])

    def test_what_was_told_together_goes_on_each_by_itself(self):
        rules = (person(gather=((0, 2),), wait=3, further=1), person())
        notices = [(0, 0, 0, 5), (0, 0, 0, 6), (0, 0, 0, 6)]
        rows = [(7, 0, (0, 1, 2)), (10, 1, (0,)), (10, 1, (2,))]
        fates = [("open", 1), ("heard", 0, 9), ("open", 1)]
        check_walk(self, rules, notices, rows, fates, hears=[(9, 0, 1)])

    def test_each_person_is_told_once(self):
        # Notice 1 comes to person 1 first, notice 0 goes on to it; each goes round once.
        rules = (person(wait=1, further=1), person(wait=1, further=0))
        notices = [(0, 0, 0, 5), (1, 0, 0, 5)]
        rows = [(5, 0, (0,)), (5, 1, (1,)), (6, 0, (1,)), (6, 1, (0,))]
        check_walk(self, rules, notices, rows, [("given up",)] * 2)


class HeapTest(unittest.TestCase):
    def test_told_together_when_the_heap_is_shut(self):
        rules = (person(gather=((0, 4),)),)
        notices = [(0, 0, 0, 1), (0, 1, 0, 1), (0, 2, 0, 3), (0, 0, 0, 4)]
        check_walk(self, rules, notices, [(5, 0, (0, 1, 2, 3))], [("open", 0)] * 4)
        check_walk(self, rules, notices, [], [("open", 0)] * 4, until=4)
        check_walk(self, rules, notices, [(5, 0, (0, 1, 2, 3))], [("open", 0)] * 4, until=5)

    def test_spans_of_1_and_12(self):
        rules = (person(gather=((0, 1), (7, 12))),)
        check_walk(self, rules, [(0, 0, 0, 1), (0, 0, 7, 1)], [(2, 0, (0,)), (13, 0, (1,))], [("open", 0)] * 2)

    def test_what_comes_as_a_heap_is_shut_begins_another_one(self):
        rules = (person(gather=((0, 4),)),)
        notices = [(0, 0, 0, 1), (0, 0, 0, 5), (0, 0, 0, 8), (0, 0, 0, 9)]
        rows = [(5, 0, (0,)), (9, 0, (1, 2)), (13, 0, (3,))]
        check_walk(self, rules, notices, rows, [("open", 0)] * 4)

    def test_what_goes_on_as_a_heap_is_shut_begins_another_one(self):
        rules = (person(wait=2, further=1), person(gather=((0, 4),)))
        notices = [(1, 0, 0, 1), (0, 0, 0, 2), (0, 0, 0, 3), (1, 0, 0, 5)]
        rows = [(2, 0, (1,)), (3, 0, (2,)), (5, 1, (0, 1)), (9, 1, (2, 3))]
        check_walk(self, rules, notices, rows, [("open", 1)] * 4)

    def test_one_for_each_kind(self):
        rules = (person(gather=((0, 4), (1, 4), (2, 3))),)
        notices = [(0, 0, 0, 1), (0, 0, 1, 1), (0, 0, 2, 2), (0, 0, 3, 2), (0, 0, 0, 3), (0, 0, 1, 4)]
        rows = [(2, 0, (3,)), (5, 0, (0, 4)), (5, 0, (1, 5)), (5, 0, (2,))]
        check_walk(self, rules, notices, rows, [("open", 0)] * 6)

    def test_one_for_each_person(self):
        rules = (person(gather=((0, 4),)), person(gather=((0, 4),)), person())
        notices = [(0, 0, 0, 1), (1, 0, 0, 1), (2, 0, 0, 1), (0, 0, 0, 2), (1, 0, 0, 3)]
        rows = [(1, 2, (2,)), (5, 0, (0, 3)), (5, 1, (1, 4))]
        check_walk(self, rules, notices, rows, [("open", one) for one in (0, 1, 2, 0, 1)])

    def test_rank_3_is_ready_alone_at_once(self):
        rules = (person(gather=((0, 4),)),)
        notices = [(0, 0, 0, 1), (0, 3, 0, 2), (0, 2, 0, 3), (0, 3, 0, 5), (0, 3, 0, 5)]
        rows = [(2, 0, (1,)), (5, 0, (0, 2)), (5, 0, (3,)), (5, 0, (4,))]
        check_walk(self, rules, notices, rows, [("open", 0)] * 5)

    def test_rank_3_at_the_further_one(self):
        rules = (person(gather=((0, 2),), wait=2, further=1), person(gather=((0, 6),)))
        notices = [(0, 2, 0, 1), (0, 1, 0, 1)]
        rows = [(3, 0, (0, 1)), (5, 1, (0,)), (11, 1, (1,))]
        check_walk(self, rules, notices, rows, [("open", 1)] * 2)

    def test_what_goes_on_lies_with_what_is_born(self):
        rules = (person(wait=2, further=1), person(gather=((0, 6),)))
        notices = [(1, 0, 0, 1), (0, 0, 0, 1), (1, 0, 0, 2), (0, 0, 0, 3), (1, 0, 0, 6)]
        rows = [(1, 0, (1,)), (3, 0, (3,)), (7, 1, (0, 1, 2, 3, 4))]
        check_walk(self, rules, notices, rows, [("open", 1)] * 5)

    def test_notices_rise_though_they_came_in_another_turn(self):
        rules = (person(wait=4, further=1), person(gather=((0, 6),)))
        notices = [(0, 0, 0, 1), (1, 0, 0, 2), (1, 0, 0, 6)]
        rows = [(1, 0, (0,)), (8, 1, (0, 1, 2))]
        check_walk(self, rules, notices, rows, [("open", 1)] * 3)

    def test_heard_ones_are_left_out(self):
        rules = (person(wait=2, further=1), person(gather=((0, 6),)))
        notices = [(0, 0, 0, 1), (0, 0, 0, 1), (1, 0, 0, 4)]
        rows = [(1, 0, (0,)), (1, 0, (1,)), (9, 1, (1, 2))]
        fates = [("heard", 0, 5), ("open", 1), ("open", 1)]
        check_walk(self, rules, notices, rows, fates, hears=[(5, 0, 0)])

    def test_heard_at_the_moment_at_which_the_heap_is_shut(self):
        rules = (person(wait=2, further=1), person(gather=((0, 6),)))
        notices = [(0, 0, 0, 1), (1, 0, 0, 4)]
        rows = [(1, 0, (0,)), (9, 1, (1,))]
        check_walk(self, rules, notices, rows, [("heard", 0, 9), ("open", 1)], hears=[(9, 0, 0)])

    def test_nothing_is_told_of_none(self):
        rules = (person(wait=2, further=1), person(gather=((0, 6),), wait=1))
        notices = [(0, 0, 0, 1), (0, 0, 0, 2)]
        rows = [(1, 0, (0,)), (2, 0, (1,))]
        fates = [("heard", 0, 5), ("heard", 0, 9)]
        check_walk(self, rules, notices, rows, fates, hears=[(5, 0, 0), (9, 0, 1)])

    def test_a_heap_of_heard_ones_still_takes_others_till_it_is_shut(self):
        rules = (person(wait=2, further=1), person(gather=((0, 6),)))
        notices = [(0, 0, 0, 1), (1, 0, 0, 8)]
        rows = [(1, 0, (0,)), (9, 1, (1,))]
        check_walk(self, rules, notices, rows, [("heard", 0, 4), ("open", 1)], hears=[(4, 0, 0)])


class HushedTest(unittest.TestCase):
    def test_the_least_rank_is_let_by(self):
        for least in range(5):
            for rank in range(4):
                rules = (person(NIGHT, least),)
                moment = 23 if rank >= least else 30
                with self.subTest(least=least, rank=rank):
                    check_walk(self, rules, [(0, rank, 0, 23)], [(moment, 0, (0,))], [("open", 0)])

    def test_from_begin_on_and_ahead_of_end(self):
        rules = (person(((9, 12),), 1),)
        notices = [(0, 0, 0, 8), (0, 0, 0, 9), (0, 0, 0, 11), (0, 0, 0, 12), (0, 0, 0, 33)]
        rows = [(8, 0, (0,)), (12, 0, (1,)), (12, 0, (2,)), (12, 0, (3,)), (36, 0, (4,))]
        check_walk(self, rules, notices, rows, [("open", 0)] * 5)
        check_walk(self, rules, notices, rows[:1], [("open", 0)] * 3 + [("unborn",)] * 2, until=11)

    def test_of_each_person_its_own(self):
        rules = (person(((9, 12),), 1), person(((9, 12),), 0), person(((10, 13),), 1), person())
        notices = [(one, 0, 0, 9) for one in range(4)]
        rows = [(9, 1, (1,)), (9, 2, (2,)), (9, 3, (3,)), (12, 0, (0,))]
        check_walk(self, rules, notices, rows, [("open", one) for one in range(4)])

    def test_least_4_lets_none_by(self):
        rules = (person(ALWAYS, 4),)
        check_walk(self, rules, [(0, rank, 0, 5) for rank in range(4)], [], [("open", 0)] * 4)

    def test_always_hushed(self):
        rules = (person(ALWAYS, 2, ((0, 3),), 2, 1), person())
        notices = [(0, 0, 1, 5), (0, 1, 0, 5), (0, 2, 1, 6), (0, 3, 0, 7)]
        rows = [(6, 0, (2,)), (7, 0, (3,)), (8, 1, (2,)), (9, 1, (3,))]
        check_walk(self, rules, notices, rows, [("open", 0), ("open", 0), ("open", 1), ("open", 1)])

    def test_always_hushed_at_the_further_one(self):
        rules = (person(wait=2, further=1), person(ALWAYS, 4, (), 2, 0))
        rows = [(5, 0, (0,))]
        check_walk(self, rules, [(0, 3, 0, 5)], rows, [("open", 1)])
        check_walk(self, rules, [(0, 3, 0, 5)], rows, [("heard", 0, 50)], hears=[(20, 1, 0), (50, 0, 0)])

    def test_a_heap_that_is_shut_in_hushed_hours(self):
        rules = (person(NIGHT, 2, ((0, 3), (1, 3))),)
        notices = [(0, 0, 0, 21), (0, 1, 0, 22), (0, 0, 1, 23), (0, 1, 0, 26), (0, 0, 0, 28)]
        rows = [(30, 0, (0, 1)), (30, 0, (2,)), (30, 0, (3, 4))]
        check_walk(self, rules, notices, rows, [("open", 0)] * 5)

    def test_the_greatest_rank_of_a_heap_lets_all_of_it_by(self):
        rules = (person(NIGHT, 2, ((0, 3), (1, 3))),)
        notices = [(0, 0, 0, 22), (0, 2, 0, 22), (0, 1, 0, 23), (0, 1, 1, 23), (0, 0, 1, 23)]
        rows = [(25, 0, (0, 1, 2)), (30, 0, (3, 4))]
        check_walk(self, rules, notices, rows, [("open", 0)] * 5)

    def test_a_greater_one_does_not_let_others_by_that_are_ready_apart(self):
        rules = (person(NIGHT, 2, ((0, 1),)),)
        notices = [(0, 0, 1, 22), (0, 1, 0, 22), (0, 2, 1, 23), (0, 3, 0, 23)]
        rows = [(23, 0, (2,)), (23, 0, (3,)), (30, 0, (0,)), (30, 0, (1,))]
        check_walk(self, rules, notices, rows, [("open", 0)] * 4)

    def test_a_heard_one_lets_none_by(self):
        # Notice 0 would press enough, but is heard by the one ahead while it lies in the heap.
        rules = (person(wait=1, further=1), person(NIGHT, 2, ((0, 4),)))
        notices = [(0, 1, 0, 22), (1, 1, 0, 24)]
        rows = [(22, 0, (0,)), (27, 1, (0, 1))]
        check_walk(self, rules, notices, rows, [("open", 1)] * 2)
        rows = [(22, 0, (0,)), (30, 1, (1,))]
        check_walk(self, rules, notices, rows, [("heard", 0, 26), ("open", 1)], hears=[(26, 0, 0)])

    def test_heard_while_it_is_ready(self):
        rules = (person(wait=1, further=1), person(NIGHT, 4, ((0, 2),)))
        notices = [(0, 0, 0, 22), (0, 0, 0, 22), (0, 0, 1, 22)]
        rows = [(22, 0, (0,)), (22, 0, (1,)), (22, 0, (2,)), (30, 1, (0,))]
        fates = [("open", 1), ("heard", 0, 28), ("heard", 0, 30)]
        check_walk(self, rules, notices, rows, fates, hears=[(28, 0, 1), (30, 0, 2)])


class ToldTest(unittest.TestCase):
    RULES = (person(NIGHT, 2, ((0, 3),), 2, 1), person())
    NOTICES = [(0, 0, 0, 4), (0, 2, 1, 4), (0, 0, 0, 5)]
    HEARS = [(9, 0, 0), (20, 1, 1)]

    def test_kinds_of_what_is_told(self):
        for call in (walked, wheeled):
            told = call(self.RULES, self.NOTICES, hears=self.HEARS)
            self.assertEqual([type(part) for part in (told, *told)], [tuple, list, list])
            for row in told[0]:
                self.assertEqual([type(part) for part in (row, *row)], [tuple, int, int, tuple])
            for fate in told[1]:
                self.assertIs(type(fate), tuple)

    def test_what_is_told_may_be_changed(self):
        for call in (walked, wheeled):
            told = call(self.RULES, self.NOTICES, hears=self.HEARS)
            rows, fates = list(told[0]), list(told[1])
            told[0].clear()
            told[1].append("changed")
            self.assertEqual(call(self.RULES, self.NOTICES, hears=self.HEARS), (rows, fates))

    def test_what_is_handed_in_may_be_changed(self):
        for call in (walked, wheeled):
            notices, hears = list(self.NOTICES), list(self.HEARS)
            told = call(self.RULES, notices, hears=hears)
            notices.clear()
            hears.clear()
            self.assertEqual(told, call(self.RULES, self.NOTICES, hears=self.HEARS))
            self.assertEqual(call(self.RULES, notices, hears=hears), ([], []))

    def test_parameters_by_their_names_in_any_turn(self):
        for call in (walked, wheeled):
            told = call(self.RULES, self.NOTICES, hears=self.HEARS, until=19)
            self.assertEqual(call(self.RULES, self.NOTICES, until=19, hears=self.HEARS), told)
            self.assertEqual(
                call(self.RULES, self.NOTICES, until=19),
                call(self.RULES, self.NOTICES, hears=[], until=19),
            )
            with self.assertRaises(TypeError):
                call(self.RULES, self.NOTICES, self.HEARS)


if __name__ == "__main__":
    unittest.main()
