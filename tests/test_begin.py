"""Promise 1: br_begin."""

from tests.helper import (
    GREATER, LESS, OWN_ID, BridgeCase, begin, bridge_after, changed, frame, off, on, parts, said, told)
from treebridge.bridge import answers

GREATEST_ID = 18446744073709551615


class Answers(BridgeCase):
    def test_from_1_to_16_ports(self):
        for n in range(1, 17):
            with self.subTest(n=n):
                self.assertEqual(answers(begin(n=n)), [1, 0])

    def test_later_refusals(self):
        for n in (0, 17, 18, 65536, 4294967295):
            with self.subTest(n=n):
                self.assertEqual(answers(begin() + begin(n=n)), [1, 0, 1, -1])

    def test_there_are_n_ports(self):
        for n in (1, 2, 15, 16):
            with self.subTest(n=n):
                found = self.answers_of(begin(n=n), off(n), off(n + 1))
                self.assertEqual(found, [[0], [0], [-1]])


class WhatStays(BridgeCase):
    def test_refused_begin_changes_nothing(self):
        for n in (0, 17, 4294967295):
            with self.subTest(n=n):
                calls = [begin(n=3), on(1), frame(1, said(LESS, 5, LESS, 1)), begin(77, n), on(2)]
                self.check_last(calls + [frame(2, said(GREATER, 0, GREATER, 1))], [told(LESS, 15, 2, age=1)])

    def test_refused_begin_keeps_the_number_of_ports(self):
        found = self.answers_of(begin(n=3), begin(n=17), off(3), off(4))
        self.assertEqual(found, [[0], [-1], [0], [-1]])


class WhatBegins(BridgeCase):
    def test_all_ports_are_off(self):
        worse = said(GREATER, 0, GREATER, 1)
        for place in (1, 2, 16):
            with self.subTest(place=place):
                self.check_last([begin(n=16), frame(place, worse)], [])
                self.check_last([begin(n=16), on(place), frame(place, worse)], [told(OWN_ID, 0, place)])

    def test_it_is_the_root_of_cost_0(self):
        self.check_tree([begin(n=16)], OWN_ID, 0, 0)

    def test_later_begin_gives_a_new_bridge(self):
        old = [begin(5, n=16), on(1), on(2), frame(1, said(1, 5, 1, 1)), frame(2, changed())]
        self.check_tree(old + [begin(n=16)], OWN_ID, 0, 0)
        worse = said(GREATER, 0, GREATER, 1)
        self.check_last(old + [begin(n=16), frame(1, worse)], [])
        self.check_last(old + [begin(n=16), on(1), frame(1, worse)], [told(OWN_ID, 0, 1)])

    def test_later_begin_gives_its_own_number_of_ports(self):
        found = self.answers_of(begin(n=16), begin(n=2), off(2), off(3))
        self.assertEqual(found, [[0], [0], [0], [-1]])

    def test_times_are_the_first_ones_again(self):
        lesser = said(LESS, 5, LESS, 1, oldest=40, between=4, wait=30)
        worse = said(GREATER, 0, GREATER, 1)
        calls = [begin(), on(1), frame(1, lesser), begin(), on(1), frame(1, worse)]
        self.check_last(calls, [told(OWN_ID, 0, 1, oldest=20, between=2, wait=15)])

    def test_inner_state(self):
        bridge = bridge_after(begin(n=2))
        self.assertEqual((bridge.own_id, bridge.root, bridge.cost, bridge.root_port), (OWN_ID, OWN_ID, 0, 0))
        self.assertEqual((bridge.telling, bridge.asking, bridge.changing), (0, None, None))
        self.assertEqual((bridge.change_found, bridge.change_there), (False, False))
        self.assertEqual(bridge.addresses.heard, {})
        for port in bridge.ports:
            self.assertEqual((port.state, port.age, port.wait, port.hold), (0, None, None, None))
            self.assertEqual((port.to_tell, port.to_call_known, port.way_cost), (False, False, 0))
            # "Nothing else": nothing leads the nets yet.
            leader = port.leader
            self.assertEqual((leader.root, leader.cost, leader.bridge, leader.port), (0, 0, 0, 0))


class Ids(BridgeCase):
    def test_least_id(self):
        # Nothing that's said has a lesser root: the bridge stays the root.
        worse = said(0, 1, 0, 32769)
        self.check_last([begin(0), on(1), frame(1, worse)], [told(0, 0, 1, own=0)])

    def test_greatest_id(self):
        # All of the bits of the id, and the address of its lower 48.
        own = GREATEST_ID
        worse = said(own, 1, own, 32769)
        self.check_last([begin(own), on(1), frame(1, worse)], [told(own, 0, 1, own=own)])
        lesser = said(own - 1, 0, own - 1, 1)
        calls = [begin(own), on(1), on(2), frame(1, lesser)]
        self.check_last(calls, [told(own - 1, 10, 2, own=own, age=1)])

    def test_numbers_answered_are_whole_numbers(self):
        flat = answers(begin() + on(1) + frame(1, changed()))
        self.assertEqual({type(number) for number in flat}, {int})
        self.assertEqual(len(parts(flat)), 3)
