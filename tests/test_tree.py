"""What promises 2 to 4 lean on: choose, ports led, states, a change is found."""

from tests.helper import (
    LEAST, LESS, OWN_ID, BridgeCase, asked, begin, bridge_after, changed, frame, off, on, said, sent, told)
from treebridge.bridge import br_frame, br_on
from treebridge.words import Leader


class Choose(BridgeCase):
    """Ports 1 and 2 hear of a way each, in either order; which one is the root port?"""

    def check_choice(self, first, second, root, cost, root_port, costs=(10, 10)):
        one, two = frame(1, said(*first)), frame(2, said(*second))
        begun = [begin(n=16), on(1, costs[0]), on(2, costs[1])]
        self.check_tree(begun + [one, two], root, cost, root_port)
        self.check_tree(begun + [two, one], root, cost, root_port)

    def test_root(self):
        self.check_choice((20, 0, 1, 1), (19, 99, 50, 50), 19, 109, 2)
        self.check_choice((19, 99, 50, 50), (20, 0, 1, 1), 19, 109, 1)

    def test_cost(self):
        self.check_choice((20, 6, 1, 1), (20, 5, 50, 50), 20, 15, 2)
        self.check_choice((20, 5, 50, 50), (20, 6, 1, 1), 20, 15, 1)

    def test_cost_with_the_ways_own(self):
        self.check_choice((20, 5, 1, 1), (20, 9, 50, 50), 20, 10, 2, costs=(6, 1))
        self.check_choice((20, 9, 50, 50), (20, 5, 1, 1), 20, 10, 1, costs=(1, 6))

    def test_bridge(self):
        self.check_choice((20, 5, 31, 1), (20, 5, 30, 50), 20, 15, 2)
        self.check_choice((20, 5, 30, 50), (20, 5, 31, 1), 20, 15, 1)
        # The sums are the same, though the costs aren't.
        self.check_choice((20, 5, 31, 1), (20, 9, 30, 50), 20, 10, 2, costs=(5, 1))

    def test_port(self):
        self.check_choice((20, 5, 30, 8), (20, 5, 30, 7), 20, 15, 2)
        self.check_choice((20, 5, 30, 7), (20, 5, 30, 8), 20, 15, 1)

    def test_place(self):
        self.check_choice((20, 5, 30, 7), (20, 5, 30, 7), 20, 15, 1)

    def test_a_root_not_less_than_this_id(self):
        # Another bridge leads the nets, but to this bridge or to one that's no better.
        self.check_tree([begin(n=16), on(1), frame(1, said(OWN_ID, 0, LESS, 1))], OWN_ID, 0, 0)

    def test_the_root_next_to_this_id(self):
        self.check_tree([begin(n=16), on(1), frame(1, said(OWN_ID - 1, 0, LESS, 1))], OWN_ID - 1, 10, 1)

    def test_a_port_led_by_another_port_of_this_bridge(self):
        self.check_tree([begin(n=16), on(2), frame(2, said(20, 0, OWN_ID, 32769))], 20, 10, 2)

    def test_ports_that_are_off(self):
        calls = [begin(n=16), on(1), on(2), frame(1, said(LEAST, 5, LEAST, 1)), frame(2, said(LESS, 5, LESS, 1))]
        self.check_tree(calls + [off(1)], OWN_ID, 0, 0)

    def test_a_better_way_moves_the_root_port(self):
        calls = [begin(n=16), on(1), on(2), frame(1, said(LESS, 5, LESS, 1)), frame(2, said(LEAST, 5, LEAST, 1))]
        self.check_tree(calls, LEAST, 15, 2)
        self.assertEqual(bridge_after(*calls).telling, None)

    def test_costs_of_any_size_are_compared_whole(self):
        # The sum of port 1's way is above 32 bits; its lower ones would be less.
        greatest = 0xFFFFFFFF
        self.check_choice((20, greatest, 30, 1), (20, greatest - 8, 31, 1), 20, greatest - 7, 2, costs=(3, 1))


class PortsLed(BridgeCase):
    """Port 1 is the root port (root 20, cost 15); is port 2 led, once it has heard this?"""

    def is_led(self, *heard):
        bridge = bridge_after(begin(), on(1), on(2), frame(1, said(20, 5, 30, 7)), frame(2, said(*heard)))
        self.assertEqual(bridge.root_port, 1)
        return bridge.is_led(bridge.ports[1])

    def led_by_itself(self, leader, own=OWN_ID):
        """Port 2 is given its leader by hand; what does update make of it?"""
        bridge = bridge_after(begin(own), on(1), on(2), frame(1, said(20, 5, 30, 7)))
        port = bridge.ports[1]
        port.leader = Leader(*leader)
        bridge.update_tree()
        now = port.leader
        if bridge.is_led(port):
            self.assertEqual((now.root, now.cost, now.bridge, now.port), (20, 15, own, 32770))
        else:
            self.assertEqual((now.root, now.cost, now.bridge, now.port), leader)
        return bridge.is_led(port)

    def test_heard(self):
        self.assertFalse(self.is_led(20, 6, OWN_ID + 1, 1))
        self.assertFalse(self.is_led(20, 15, OWN_ID - 1, 1))
        self.assertTrue(self.is_led(20, 15, OWN_ID + 1, 1))
        self.assertTrue(self.is_led(20, 16, 1, 1))
        self.assertTrue(self.is_led(21, 0, 0, 0))

    def test_another_root(self):
        self.assertTrue(self.led_by_itself((21, 0, 1, 1)))

    def test_cost(self):
        self.assertTrue(self.led_by_itself((20, 16, 1, 1)))
        self.assertFalse(self.led_by_itself((20, 14, OWN_ID + 1, 60000)))

    def test_bridge(self):
        self.assertTrue(self.led_by_itself((20, 15, OWN_ID + 1, 1)))
        self.assertFalse(self.led_by_itself((20, 15, OWN_ID - 1, 60000)))

    def test_port(self):
        self.assertTrue(self.led_by_itself((20, 15, OWN_ID, 32771)))
        self.assertTrue(self.led_by_itself((20, 15, OWN_ID, 32770)))
        self.assertFalse(self.led_by_itself((20, 15, OWN_ID, 32769)))

    def test_led_already_is_led_anew(self):
        self.assertTrue(self.led_by_itself((20, 3, OWN_ID, 32770)))

    def test_all_that_are_led_follow_a_new_root(self):
        bridge = bridge_after(begin(), on(1), on(2), frame(1, said(20, 5, 30, 7)))
        leader = bridge.ports[1].leader
        self.assertEqual((leader.root, leader.cost, leader.bridge, leader.port), (20, 15, OWN_ID, 32770))
        root_ports = bridge.ports[0].leader
        self.assertEqual((root_ports.root, root_ports.cost, root_ports.bridge, root_ports.port), (20, 5, 30, 7))


class States(BridgeCase):
    def test_the_root_ports_notes_are_gone(self):
        calls = [begin(), on(1), frame(1, changed()), frame(1, changed())]
        before = bridge_after(*calls).ports[0]
        self.assertEqual((before.to_tell, before.to_call_known), (True, True))
        after = bridge_after(*calls, frame(1, said(LESS, 5, LESS, 1, age=3))).ports[0]
        self.assertEqual((after.to_tell, after.to_call_known), (False, False))
        self.assertEqual((after.state, after.wait, after.age, after.hold), (2, 0, 3, 0))

    def test_a_led_ports_notes_stay(self):
        calls = [begin(), on(1), on(2), frame(2, changed()), frame(2, changed()), frame(1, said(LESS, 5, LESS, 1))]
        port = bridge_after(*calls).ports[1]
        self.assertEqual((port.to_tell, port.to_call_known), (True, True))

    def test_a_led_ports_age_stops(self):
        # Port 1 knew a way to 30; with the root 20 it's led again.
        calls = [begin(), on(1), on(2), frame(1, said(30, 5, 30, 7, age=3)), frame(2, said(20, 5, 20, 7))]
        port = bridge_after(*calls).ports[0]
        self.assertIsNone(port.age)

    def test_another_ports_notes_are_gone_and_it_is_blocked(self):
        calls = [begin(), on(1), on(2), frame(2, changed()), frame(2, changed()), frame(1, said(20, 5, 30, 7)),
                 frame(2, said(20, 6, 31, 7, age=4))]
        port = bridge_after(*calls).ports[1]
        self.assertEqual((port.to_tell, port.to_call_known), (False, False))
        self.assertEqual((port.state, port.wait, port.age), (1, None, 4))

    def test_from_blocking_it_listens(self):
        calls = [begin(), on(1), on(2), frame(1, said(20, 5, 30, 7)), frame(2, said(20, 6, 31, 7))]
        self.assertEqual([port.state for port in bridge_after(*calls).ports], [2, 1, 0])
        port = bridge_after(*calls, frame(1, said(19, 5, 30, 7))).ports[1]
        self.assertEqual((port.state, port.wait), (2, 0))

    def test_from_other_states_nothing(self):
        for state in (2, 3, 4):
            with self.subTest(state=state):
                bridge = bridge_after(begin(), on(1), on(2))
                for port in bridge.ports[:2]:
                    port.state, port.wait = state, 9
                br_frame(bridge, 1, said(20, 5, 30, 7))
                self.assertEqual([(port.state, port.wait) for port in bridge.ports[:2]], [(state, 9)] * 2)

    def test_ports_that_are_off_stay_off(self):
        bridge = bridge_after(begin(), on(1))
        bridge.ports[2].to_tell = True
        br_on(bridge, 2, 5)
        br_frame(bridge, 1, said(20, 5, 30, 7))
        self.assertEqual([port.state for port in bridge.ports], [2, 2, 0])
        self.assertTrue(bridge.ports[2].to_tell)


class BlockedPorts(BridgeCase):
    """Port 2 hears a way that blocks it, in each of its states."""

    def blocked(self, state):
        bridge = bridge_after(begin(), on(1), on(2), frame(1, said(20, 5, 30, 7)))
        bridge.ports[1].state, bridge.ports[1].wait = state, 9
        frames = sent(br_frame(bridge, 2, said(20, 6, 31, 7)))
        self.assertEqual((bridge.ports[1].state, bridge.ports[1].wait), (1, None))
        return bridge, frames

    def test_that_listened(self):
        bridge, frames = self.blocked(2)
        self.assertEqual((frames, bridge.change_found, bridge.asking), ([], False, None))

    def test_that_learned_or_forwarded(self):
        for state in (3, 4):
            with self.subTest(state=state):
                bridge, frames = self.blocked(state)
                self.assertEqual((frames, bridge.change_found, bridge.asking), ([asked(1)], True, 0))
                self.assertEqual((bridge.change_there, bridge.changing), (False, None))

    def test_that_was_blocked(self):
        bridge = bridge_after(begin(), on(1), on(2), frame(1, said(20, 5, 30, 7)), frame(2, said(20, 6, 31, 7)))
        bridge.ports[1].wait = 9
        self.assertEqual(br_frame(bridge, 2, said(20, 6, 31, 7)), [0])
        self.assertEqual((bridge.ports[1].state, bridge.ports[1].wait, bridge.change_found), (1, 9, False))

    def test_a_change_found_by_the_root(self):
        bridge = bridge_after(begin(), on(1), on(2))
        bridge.ports[1].state = 4
        self.assertEqual(br_frame(bridge, 2, said(OWN_ID, 0, OWN_ID, 32769)), [0])
        self.assertEqual((bridge.change_found, bridge.change_there, bridge.changing), (True, True, 0))
        self.assertEqual(bridge.ports[1].state, 1)

    def test_the_old_root_port_is_blocked_and_the_new_one_asks(self):
        # Port 2's way is better by its cost; port 1's net is led by a bridge that's nearer than this one.
        bridge = bridge_after(begin(), on(1), on(2), on(3), frame(1, said(20, 5, 30, 7)))
        for port in bridge.ports:
            port.state, port.hold = 4, None
        frames = sent(br_frame(bridge, 2, said(20, 3, 31, 7, byte=128)))
        self.assertEqual(frames, [asked(2), told(20, 13, 3, age=1)])
        self.assertEqual([port.state for port in bridge.ports], [1, 4, 4])
        self.assertEqual((bridge.change_found, bridge.asking), (False, None))

    def test_a_change_is_found_in_states_by_one_that_stops_being_the_root(self):
        # Asked by states, and again since a change was found: the document names both.
        bridge = bridge_after(begin(n=2), on(1), on(2))
        bridge.ports[1].leader = Leader(20, 1, 19, 1)
        bridge.ports[1].state = 4
        frames = sent(br_frame(bridge, 1, said(20, 0, 20, 7)))
        self.assertEqual(frames, [asked(1), asked(1)])
        self.assertEqual((bridge.asking, bridge.change_found, bridge.telling), (0, True, None))
