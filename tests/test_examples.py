"""The examples of the document, by points."""

import unittest

from tests.sessions import check_session


class Examples(unittest.TestCase):
    def test_point_4(self):
        check_session(self, """
            >>> from basketrope.towers import is_tower, tower_error
            >>> U = (2, (1, 3))
            >>> [is_tower(U), tower_error((0, ())), tower_error((2, None)), tower_error((2, (1, 0)))]
            [True, (None, 'excess'), (None, 'weights'), (1, 'weight')]
        """)

    def test_point_5(self):
        check_session(self, """
            >>> from basketrope.towers import is_group, weight_of
            >>> T = (4, (3, 4, 9, 20))
            >>> [is_group(T, (0, 2)), is_group(T, (2, 0)), is_group(T, (4,)), weight_of(T, (0, 2)), weight_of(T, ())]
            [True, False, False, 12, 0]
        """)

    def test_point_6_possible_moves(self):
        check_session(self, """
            >>> from basketrope.moves import after_move, is_move
            >>> U = (2, (1, 3))
            >>> [is_move(U, (0,), ((1,), (0,))), is_move(U, (), ((1,), ())), after_move(U, (0,), ((1,), (0,)))]
            [True, False, (1,)]
        """)

    def test_point_6_move_between(self):
        check_session(self, """
            >>> from basketrope.moves import move_between
            >>> U = (2, (1, 3))
            >>> [move_between(U, (0,), (1,)), move_between(U, (1,), (0,)), move_between(U, (), (1,)), move_between(U, (0,), (0,))]
            [((1,), (0,)), None, None, None]
        """)

    def test_point_7_plans(self):
        check_session(self, """
            >>> from basketrope.moves import groups_of, is_plan
            >>> U = (2, (1, 3))
            >>> P = (((0,), ()), ((1,), (0,)))
            >>> [is_plan(U, (), P), is_plan(U, (0,), P), groups_of(U, (), P)]
            [True, False, ((), (0,), (1,))]
        """)

    def test_point_8_sums(self):
        check_session(self, """
            >>> from basketrope.plans import sums_of
            >>> U = (2, (1, 3))
            >>> [sums_of(U), sums_of((1, (2, 2))), sums_of((1, ()))]
            [(0, 1, 3, 4), (0, 2, 4), (0,)]
        """)

    def test_point_8_certificate(self):
        check_session(self, """
            >>> from basketrope.plans import certificate
            >>> U = (2, (1, 3))
            >>> V = (1, (1, 3))
            >>> [certificate(U, (), (0, 1)), certificate(V, (), (1,)), certificate(U, (1,), (0,))]
            [('plan', (((0,), ()), ((1,), (0,)), ((0,), ()))), ('gap', 1, 3), ('light',)]
        """)

    def test_point_8_certificate_holds(self):
        check_session(self, """
            >>> from basketrope.plans import certificate_holds
            >>> V = (1, (1, 3))
            >>> [certificate_holds(V, (), (1,), ('gap', 1, 3)), certificate_holds(V, (), (0,), ('gap', 1, 3)), certificate_holds(V, (1,), (0,), ('light',)), certificate_holds((1, (1, 9)), (), (1,), ('gap', 2, 9))]
            [True, False, True, True]
        """)

    def test_point_8_fewest_moves(self):
        check_session(self, """
            >>> from basketrope.plans import fewest_moves, find_plan
            >>> U = (2, (1, 3))
            >>> V = (1, (1, 3))
            >>> T = (4, (3, 4, 9, 20))
            >>> [fewest_moves(U, (), (0, 1)), fewest_moves(T, (), (0, 1, 2, 3)), fewest_moves(V, (), (1,)), find_plan(U, (0,), (1,)), find_plan(U, (0,), (0,))]
            [3, 11, None, (((1,), (0,)),), ()]
        """)

    def test_point_10_stuck(self):
        check_session(self, """
            >>> from basketrope.reach import reach_weight, stuck_person
            >>> T = (4, (3, 4, 9, 20))
            >>> W = (3, (3, 4, 9, 20))
            >>> [stuck_person(T), reach_weight(T), stuck_person(W), reach_weight(W), stuck_person((1, (5, 5)))]
            [None, 36, 3, 16, 0]
        """)

    def test_point_10_reach(self):
        check_session(self, """
            >>> from basketrope.reach import can_reach, never_down
            >>> W = (3, (20, 3, 9, 4))
            >>> [can_reach(W, (2, 3)), can_reach(W, (0,)), never_down(W)]
            [True, False, (0,)]
        """)

    def test_point_10_least_excess(self):
        check_session(self, """
            >>> from basketrope.reach import least_excess
            >>> [least_excess((1, (3, 4, 9, 20))), least_excess((9, (1, 2, 4))), least_excess((9, ()))]
            [4, 1, 1]
        """)

    def test_point_12_load(self):
        check_session(self, """
            >>> from basketrope.values import Load
            >>> load = Load((9, 3, 9))
            >>> [load.weights, load.total, len(load)]
            [(3, 9, 9), 21, 3]
        """)

    def test_point_12_operators(self):
        check_session(self, """
            >>> from basketrope.values import Load
            >>> one = Load((3, 9, 9))
            >>> other = Load((9,))
            >>> [one[1], (one + other).weights, (one - other).weights, other in one, one in other]
            [9, (3, 9, 9, 9), (3, 9), True, False]
        """)

    def test_point_12_text_and_equality(self):
        check_session(self, """
            >>> from basketrope.values import Load
            >>> load = Load((12000, 9))
            >>> [str(load), load == Load((9, 12000)), load == (9, 12000)]
            ['       9  12,000', True, False]
        """)

    def test_point_12_basket(self):
        check_session(self, """
            >>> from basketrope.values import Basket, Load
            >>> basket = Basket(2)
            >>> [basket(Load((3,)), Load((1,))), basket(Load((3,)), Load(())), basket(Load((1,)), Load((1,))), basket.rides, basket.excess]
            [2, None, None, 1, 2]
        """)

    def test_point_16_promise(self):
        check_session(self, """
            >>> from basketrope.promises import Promise
            >>> made = Promise(3)
            >>> [made.least, made.beyond(5)]
            [3, 2]
        """)

    def test_point_17_tower_text(self):
        check_session(self, """
            >>> from basketrope.texts import tower_text
            >>> V = (1, (1, 3))
            >>> [tower_text(V), tower_text((1, ()))]
            ['1 / 1,3', '1 / -']
        """)

    def test_point_17_parse_tower(self):
        check_session(self, """
            >>> from basketrope.texts import parse_tower
            >>> parse_tower('1 / 1,0')
            raises BadText(2)
        """)

    def test_point_9_count_plans(self):
        check_session(self, """
            >>> from basketrope.counting import count_plans
            >>> U = (2, (1, 3))
            >>> V = (1, (1, 3))
            >>> [count_plans(U, (), (0, 1)), count_plans((1, (1, 1)), (), (0, 1)), count_plans(V, (), (1,)), count_plans(V, (1,), (1,))]
            [1, 2, 0, 1]
        """)

    def test_point_9_each_plan(self):
        check_session(self, """
            >>> from basketrope.counting import each_plan
            >>> list(each_plan((1, (1, 1)), (), (0, 1)))
            [(((0,), ()), ((1,), ())), (((1,), ()), ((0,), ()))]
        """)

    def test_point_11_stones_for(self):
        check_session(self, """
            >>> from basketrope.stones import fewest_stones, stones_for
            >>> T = (4, (3, 4, 9, 20))
            >>> V = (1, (1, 3))
            >>> [stones_for(T), stones_for(V), stones_for((1, (100,))), fewest_stones((1, (100,)))]
            [(), (2,), (1, 2, 4, 8, 16, 32, 64), 7]
        """)

    def test_point_11_stones_hold(self):
        check_session(self, """
            >>> from basketrope.stones import stones_hold
            >>> V = (1, (1, 3))
            >>> [stones_hold(V, (2,)), stones_hold(V, (5,)), stones_hold(V, (5, 1)), stones_hold(V, ())]
            [True, False, True, False]
        """)

    def test_point_13_hoist(self):
        check_session(self, """
            >>> from basketrope.hoists import Hoist
            >>> V = (1, (1, 3))
            >>> hoist = Hoist(V)
            >>> [hoist.tower == V, hoist.reach, hoist.is_free, len(hoist)]
            [True, 1, False, 0]
        """)

    def test_point_13_attributes(self):
        check_session(self, """
            >>> from basketrope.hoists import Hoist
            >>> [Hoist.MOST_EDITS, Hoist((1, ())).is_free]
            [60, True]
        """)

    def test_point_13_edits(self):
        check_session(self, """
            >>> from basketrope.hoists import Hoist
            >>> V = (1, (1, 3))
            >>> hoist = Hoist(V)
            >>> [hoist.weigh(1, 2), hoist.is_free, hoist.come(9), hoist.reach, hoist.loosen(6), hoist.leave(0), hoist.tower]
            [1, True, 2, 3, 3, 4, (6, (2, 9))]
        """)

    def test_point_14_undo(self):
        check_session(self, """
            >>> from basketrope.hoists import Hoist
            >>> V = (1, (1, 3))
            >>> hoist = Hoist(V)
            >>> [hoist.loosen(2), hoist.is_free, hoist.undo(), hoist.is_free]
            [1, True, 0, False]
        """)

    def test_point_15_attempt(self):
        check_session(self, """
            >>> from basketrope.hoists import Hoist
            >>> V = (1, (1, 3))
            >>> hoist = Hoist(V)
            >>> hoist.attempt([('come', 9), ('weigh', 3, 1)])
            raises Rejected(1)
        """)

    def test_point_15_state(self):
        check_session(self, """
            >>> from basketrope.hoists import Hoist
            >>> hoist = Hoist((1, ()))
            >>> [hoist.come(8), hoist.state(), hoist.state(version=0)]
            [1, (1, (8,)), (1, ())]
        """)

    def test_point_15_certificate(self):
        check_session(self, """
            >>> from basketrope.hoists import Hoist
            >>> V = (1, (1, 3))
            >>> Hoist(V).certificate((1,))
            ('gap', 1, 3)
        """)

    def test_point_15_walk(self):
        check_session(self, """
            >>> from basketrope.hoists import Hoist
            >>> list(Hoist((3, (20, 3, 9, 4))).walk())
            [(1, 0), (3, 2), (2, 1), (0, -1)]
        """)

    def test_point_15_edits(self):
        check_session(self, """
            >>> from basketrope.hoists import Hoist
            >>> hoist = Hoist((1, (7,)))
            >>> [hoist.weigh(0, 8), hoist.edits()]
            [1, (('weigh', 0, 8),)]
        """)

    def test_point_15_read(self):
        check_session(self, """
            >>> from basketrope.hoists import Hoist
            >>> Hoist.read('1 / 1,3').tower
            (1, (1, 3))
        """)

    def test_point_15_text_and_equality(self):
        check_session(self, """
            >>> from basketrope.hoists import Hoist
            >>> V = (1, (1, 3))
            >>> [str(Hoist(V)), Hoist(V) == Hoist((1, (3, 1)))]
            ['2 people, excess 1, reach 1, 0 edits', True]
        """)

    def test_point_16_promised_hoist(self):
        check_session(self, """
            >>> from basketrope.hoists import PromisedHoist
            >>> U = (2, (1, 3))
            >>> hoist = PromisedHoist(U, 3)
            >>> [hoist.beyond(hoist.reach), hoist.come(50), hoist.reach, hoist.leave(0)]
            raises TooLow(0)
        """)

    def test_point_18_shell(self):
        check_session(self, """
            >>> from basketrope.hoists import Hoist
            >>> from basketrope.shells import Shell
            >>> Shell(Hoist((1, ()))).execute('tower')
            '1 / -'
        """)

    def test_point_18_execute(self):
        check_session(self, """
            >>> from basketrope.hoists import Hoist
            >>> from basketrope.shells import Shell
            >>> V = (1, (1, 3))
            >>> shell = Shell(Hoist(V))
            >>> [shell.execute('reach'), shell.execute('stones'), shell.execute('least'), shell.execute('loosen 2'), shell.execute('free'), shell.execute('stones'), shell.execute('leave')]
            ['1', '2', '2', 'ok 1', 'yes', '-', 'unknown command']
        """)


if __name__ == "__main__":
    unittest.main()
