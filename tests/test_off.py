"""Promise 3: br_off."""

from tests.helper import (
    GREATER, LEAST, LESS, OWN_ID, BridgeCase, asked, begin, bridge_after, changed, frame, off, on, said, sent, told)
from treebridge.bridge import br_off

WORSE = said(GREATER, 0, GREATER, 1)


class Answers(BridgeCase):
    def test_ports_that_there_are_not(self):
        for n in (1, 3, 16):
            for place in (0, n + 1, 32769, 4294967295):
                with self.subTest(n=n, place=place):
                    self.assertEqual(self.answers_of(begin(n=n), off(place)), [[0], [-1]])

    def test_a_port_that_is_off(self):
        self.assertEqual(self.answers_of(begin(), off(1)), [[0], [0]])
        self.assertEqual(self.answers_of(begin(), on(1), off(1), off(1)), [[0], [0], [0], [0]])

    def test_a_port_that_is_on(self):
        self.assertEqual(self.answers_of(begin(), on(1), off(1)), [[0], [0], [0]])


class ThePort(BridgeCase):
    def test_it_is_off(self):
        self.check_last([begin(), on(1), off(1), frame(1, WORSE)], [])

    def test_others_stay_on(self):
        self.check_last([begin(), on(1), on(2), off(1), frame(2, WORSE)], [told(OWN_ID, 0, 2)])

    def test_its_hold_is_gone(self):
        calls = [begin(), on(1), frame(1, WORSE), off(1), on(1), frame(1, WORSE)]
        self.check_last(calls, [told(OWN_ID, 0, 1)])

    def test_its_notes_are_gone(self):
        # The second time hold ran, and a change was to be called known.
        calls = [begin(), on(1), frame(1, changed()), frame(1, changed()), off(1), on(1), frame(1, WORSE)]
        self.check_last(calls, [told(OWN_ID, 0, 1, byte=1)])

    def test_what_it_knew_is_gone(self):
        calls = [begin(n=16), on(1), frame(1, said(LESS, 5, LESS, 1)), off(1), on(1)]
        self.check_tree(calls, OWN_ID, 0, 0)

    def test_inner_state(self):
        bridge = bridge_after(begin(), on(1), frame(1, said(LESS, 5, LESS, 1, age=3)), on(2, 7), on(3))
        port = bridge.ports[1]
        port.state, port.wait, port.hold, port.age = 4, 3, 0, 6
        port.to_tell = port.to_call_known = True
        br_off(bridge, 2)
        self.assertEqual((port.state, port.wait, port.hold, port.age), (0, None, None, None))
        self.assertEqual((port.to_tell, port.to_call_known, port.way_cost), (False, False, 7))
        leader = port.leader
        self.assertEqual((leader.root, leader.cost, leader.bridge, leader.port), (LESS, 15, OWN_ID, 32770))

    def test_no_change_is_found_by_it(self):
        bridge = bridge_after(begin(), on(1), on(2))
        bridge.ports[0].state = 4
        self.assertEqual(br_off(bridge, 1), [0])
        self.assertEqual((bridge.change_found, bridge.change_there), (False, False))

    def test_off_ports_are_led_by_update_too(self):
        bridge = bridge_after(begin(), on(1), on(2), off(2), frame(1, said(LESS, 5, LESS, 1)))
        leader = bridge.ports[1].leader
        self.assertEqual((leader.root, leader.cost, leader.bridge, leader.port), (LESS, 15, OWN_ID, 32770))


class Addresses(BridgeCase):
    def test_those_by_the_port_are_forgotten(self):
        bridge = bridge_after(begin(), on(1), on(2))
        bridge.addresses.hear(0xA, 1)
        bridge.addresses.hear(0xB, 2)
        bridge.addresses.hear(0xC, 1)
        br_off(bridge, 1)
        self.assertEqual(bridge.addresses.heard, {0xB: (2, 0)})

    def test_those_by_a_port_that_is_off_already_stay(self):
        bridge = bridge_after(begin(), on(2))
        bridge.addresses.hear(0xA, 1)
        br_off(bridge, 1)
        self.assertEqual(bridge.addresses.heard, {0xA: (1, 0)})


class AnotherRootPort(BridgeCase):
    ways = [begin(n=16), on(1), on(2), on(3),
            frame(1, said(LEAST, 5, LEAST, 1)), frame(2, said(LEAST, 6, LESS, 1, age=4))]

    def test_the_next_best_becomes_the_root_port(self):
        self.check_tree(self.ways, LEAST, 15, 1)
        self.check_tree(self.ways + [off(1)], LEAST, 16, 2, age=5)

    def test_nothing_is_sent(self):
        self.check_last(self.ways + [off(1)], [])

    def test_the_port_that_went_off_is_led(self):
        # Else it would be kept as it was: its way is less than the bridge's new one.
        leader = bridge_after(*self.ways, off(1)).ports[0].leader
        self.assertEqual((leader.root, leader.cost, leader.bridge, leader.port), (LEAST, 16, OWN_ID, 32769))

    def test_it_listens(self):
        before = bridge_after(*self.ways)
        self.assertEqual([port.state for port in before.ports[:3]], [2, 1, 2])
        after = bridge_after(*self.ways, off(1))
        self.assertEqual([port.state for port in after.ports[:3]], [0, 2, 2])
        self.assertEqual(after.ports[1].wait, 0)

    def test_another_port_off_leaves_the_root_port(self):
        self.check_tree(self.ways + [off(2)], LEAST, 15, 1)
        self.check_tree(self.ways + [off(3)], LEAST, 15, 1)

    def test_times_stay(self):
        times = {"oldest": 40, "between": 4, "wait": 30}
        calls = [begin(n=16), on(1), on(2), frame(1, said(LEAST, 5, LEAST, 1, **times)),
                 frame(2, said(LEAST, 6, LESS, 1)), off(1)]
        self.check_tree(calls, LEAST, 16, 2, **times)


class ItBecomesTheRoot(BridgeCase):
    follower = [begin(n=16), on(1), frame(1, said(LESS, 5, LESS, 1, oldest=40, between=4, wait=30))]

    def test_all_tell_in_order_with_a_change_and_its_own_times(self):
        calls = self.follower + [on(4), on(2), on(3), off(3), off(1)]
        self.check_last(calls, [told(OWN_ID, 0, 2, byte=1), told(OWN_ID, 0, 4, byte=1)])

    def test_hold_runs_so_it_is_noted(self):
        calls = self.follower + [on(2), on(3), frame(2, WORSE), off(1)]
        self.check_last(calls, [told(OWN_ID, 0, 3, byte=1)])
        self.assertEqual([port.to_tell for port in bridge_after(*calls).ports[:3]], [False, True, False])

    def test_it_is_the_root_then(self):
        self.check_tree(self.follower + [off(1)], OWN_ID, 0, 0)

    def test_ports_that_another_led_are_led_again(self):
        # Port 2 is blocked by LEAST's way; without port 1 and 2 nothing else leads port 3.
        calls = [begin(n=16), on(1), on(2), frame(1, said(LEAST, 5, LEAST, 1)), frame(2, said(LEAST, 6, LESS, 1)),
                 on(3), off(1), off(2)]
        self.check_last(calls, [told(OWN_ID, 0, 3, byte=1)])

    def test_timers_and_changes(self):
        calls = self.follower + [on(2), frame(2, changed())]
        before = bridge_after(*calls)
        self.assertEqual((before.telling, before.asking, before.changing), (None, 0, None))
        self.assertEqual((before.change_found, before.change_there), (True, False))
        after = bridge_after(*calls, off(1))
        self.assertEqual((after.telling, after.asking, after.changing), (0, None, 0))
        self.assertEqual((after.change_found, after.change_there), (True, True))
        self.assertEqual((after.times.oldest, after.times.between, after.times.wait), (20, 2, 15))

    def test_a_bridge_that_was_the_root_does_not_become_it(self):
        calls = [begin(), on(1), on(2), off(1)]
        self.check_last(calls, [])
        bridge = bridge_after(*calls)
        self.assertEqual((bridge.change_found, bridge.change_there, bridge.changing), (False, False, None))
        bridge.telling = 1
        br_off(bridge, 2)
        self.assertEqual(bridge.telling, 1)

    def test_the_age_told_by_the_root_is_0(self):
        calls = [begin(), on(1), frame(1, said(LESS, 5, LESS, 1, age=7)), on(2), off(1)]
        self.check_last(calls, [told(OWN_ID, 0, 2, byte=1, age=0)])


class AChangeIsFoundByTheWay(BridgeCase):
    def test_a_port_that_forwarded_is_blocked(self):
        # The root port goes off; of two others that know a way one forwarded: blocked, it's a change to ask for.
        bridge = bridge_after(begin(), on(1), on(2), on(3), frame(1, said(LEAST, 5, LEAST, 1)),
                              frame(2, said(LEAST, 6, LESS, 1)), frame(3, said(LEAST, 7, LESS, 2)))
        bridge.ports[2].state = 4
        self.assertEqual(sent(br_off(bridge, 1)), [asked(2)])
        self.assertEqual([port.state for port in bridge.ports], [0, 2, 1])
        self.assertEqual((bridge.asking, bridge.change_found), (0, True))
