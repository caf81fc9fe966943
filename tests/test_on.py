"""Promise 2: br_on."""

from tests.helper import GREATER, LESS, OWN_ID, BridgeCase, begin, bridge_after, changed, frame, off, on, said, told
from treebridge.bridge import br_on

WORSE = said(GREATER, 0, GREATER, 1)


class Answers(BridgeCase):
    def test_ports_that_there_are(self):
        for n in (1, 3, 16):
            for place in (1, n):
                with self.subTest(n=n, place=place):
                    self.assertEqual(self.answers_of(begin(n=n), on(place)), [[0], [0]])

    def test_ports_that_there_are_not(self):
        for n in (1, 3, 16):
            for place in (0, n + 1, 32769, 4294967295):
                with self.subTest(n=n, place=place):
                    self.assertEqual(self.answers_of(begin(n=n), on(place)), [[0], [-1]])

    def test_costs(self):
        for cost, answer in ((0, -1), (1, 0), (2, 0), (65534, 0), (65535, 0), (65536, -1), (4294967295, -1)):
            with self.subTest(cost=cost):
                self.assertEqual(self.answers_of(begin(), on(1, cost)), [[0], [answer]])

    def test_cost_counts_on_a_port_that_is_on_too(self):
        self.assertEqual(self.answers_of(begin(), on(1), on(1, 0), on(1, 65536)), [[0], [0], [-1], [-1]])

    def test_nothing_is_sent(self):
        calls = [begin(), on(1), frame(1, said(LESS, 5, LESS, 1))]
        self.check_last(calls + [on(2)], [])


class WhatIsDone(BridgeCase):
    def test_a_refused_port_stays_off(self):
        for cost in (0, 65536):
            with self.subTest(cost=cost):
                self.check_last([begin(), on(1, cost), frame(1, WORSE)], [])

    def test_only_this_port_is_on(self):
        for place, expected in ((1, []), (2, [told(OWN_ID, 0, 2)]), (3, [])):
            with self.subTest(place=place):
                self.check_last([begin(), on(2), frame(place, WORSE)], expected)

    def test_the_cost_is_the_ways(self):
        for cost in (1, 10, 65535):
            with self.subTest(cost=cost):
                self.check_tree([begin(n=16), on(1, cost), frame(1, said(LESS, 5, LESS, 1))], LESS, 5 + cost, 1)

    def test_the_port_is_led(self):
        self.check_last([begin(), on(3), frame(3, changed())], [told(OWN_ID, 0, 3, byte=129)])

    def test_it_leads_to_the_root_that_the_bridge_has(self):
        bridge = bridge_after(begin(), on(1), frame(1, said(LESS, 5, LESS, 1)), on(2))
        leader = bridge.ports[1].leader
        self.assertEqual((leader.root, leader.cost, leader.bridge, leader.port), (LESS, 15, OWN_ID, 32770))

    def test_state_and_notes(self):
        bridge = bridge_after(begin(), on(2, 7))
        port = bridge.ports[1]
        # Blocking first, but states lets a port that's led listen at once.
        self.assertEqual((port.state, port.wait, port.age, port.hold), (2, 0, None, None))
        self.assertEqual((port.to_tell, port.to_call_known, port.way_cost), (False, False, 7))
        leader = port.leader
        self.assertEqual((leader.root, leader.cost, leader.bridge, leader.port), (OWN_ID, 0, OWN_ID, 32770))
        self.assertEqual([other.state for other in bridge.ports], [0, 2, 0])


class OnAlready(BridgeCase):
    def test_the_cost_stays(self):
        calls = [begin(n=16), on(1, 10), on(1, 99), frame(1, said(LESS, 5, LESS, 1))]
        self.check_tree(calls, LESS, 15, 1)

    def test_what_it_knows_stays(self):
        calls = [begin(n=16), on(1, 10), frame(1, said(LESS, 5, LESS, 1)), on(1, 10)]
        self.check_tree(calls, LESS, 15, 1)

    def test_nothing_is_done(self):
        port = bridge_after(begin(), on(1), frame(1, changed()), frame(1, changed()), on(1, 5)).ports[0]
        self.assertEqual((port.hold, port.to_tell, port.to_call_known, port.way_cost), (0, True, True, 10))

    def test_wait_does_not_begin_again(self):
        bridge = bridge_after(begin(), on(1))
        bridge.ports[0].wait = 9
        self.assertEqual(br_on(bridge, 1, 5), [0])
        self.assertEqual((bridge.ports[0].state, bridge.ports[0].wait), (2, 9))

    def test_on_again_behind_off_takes_the_new_cost(self):
        calls = [begin(n=16), on(1, 10), off(1), on(1, 99), frame(1, said(LESS, 5, LESS, 1))]
        self.check_tree(calls, LESS, 104, 1)
