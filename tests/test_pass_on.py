"""Promise 4, br_frame: frames that aren't messages are learned from and passed on.

No call of these brings a port further than listening, so the states are set by hand.
"""

import unittest

from tests.helper import BRIDGES, begin, bridge_after, frame_to, on, row, sent
from treebridge.bridge import br_frame
from treebridge.tree import Bridge

GROUP = 0x010000000000
EVERYONE = 0xFFFFFFFFFFFF


def bridge_with(*states):
    bridge = bridge_after(begin(n=len(states)), *[on(place + 1) for place in range(len(states))])
    for port, state in zip(bridge.ports, states):
        port.state = state
    return bridge


def data(target, sender, rest=(8, 0, 1, 2, 3)):
    return frame_to(target, sender, list(rest))


class PassOnCase(unittest.TestCase):
    def check(self, bridge, place, bytes_, places):
        before = list(bytes_)
        self.assertEqual(sent(br_frame(bridge, place, bytes_)), [(other, before) for other in places])
        self.assertEqual(bytes_, before)


class Learning(PassOnCase):
    def test_by_state(self):
        for state, expected in ((0, {}), (1, {}), (2, {}), (3, {0xA: (1, 0)}), (4, {0xA: (1, 0)})):
            with self.subTest(state=state):
                bridge = bridge_with(state, 4)
                br_frame(bridge, 1, data(0xB, 0xA))
                self.assertEqual(bridge.addresses.heard, expected)

    def test_groups_are_not_learned(self):
        for sender in (GROUP, EVERYONE, BRIDGES, 0x010000000001, 0x030000000000):
            with self.subTest(sender=sender):
                bridge = bridge_with(4, 4)
                self.check(bridge, 1, data(0xB, sender), [2])
                self.assertEqual(bridge.addresses.heard, {})

    def test_bits_beside_bit_40(self):
        for sender in (0, 0x020000000000, 0x008000000000, 0xFEFFFFFFFFFF):
            with self.subTest(sender=sender):
                bridge = bridge_with(3)
                br_frame(bridge, 1, data(0xB, sender))
                self.assertEqual(bridge.addresses.heard, {sender: (1, 0)})

    def test_the_whole_address(self):
        bridge = bridge_with(4)
        br_frame(bridge, 1, data(0xB, 0x020304050607))
        self.assertEqual(bridge.addresses.heard, {0x020304050607: (1, 0)})

    def test_an_address_moves(self):
        bridge = bridge_with(4, 4, 4)
        br_frame(bridge, 1, data(0xB, 0xA))
        self.check(bridge, 3, data(0xA, 0xC), [1])
        br_frame(bridge, 2, data(0xB, 0xA))
        self.check(bridge, 3, data(0xA, 0xC), [2])

    def test_heard_of_again_its_age_is_0_and_it_is_the_last(self):
        bridge = bridge_with(4)
        bridge.addresses.heard = {0xA: (1, 7), 0xC: (1, 5)}
        br_frame(bridge, 1, data(0xB, 0xA))
        self.assertEqual(list(bridge.addresses.heard.items()), [(0xC, (1, 5)), (0xA, (1, 0))])

    def test_frames_to_kept_addresses_are_learned_from(self):
        for state in (3, 4):
            bridge = bridge_with(state, 4)
            self.check(bridge, 1, data(BRIDGES + 1, 0xA), [])
            self.assertEqual(bridge.addresses.heard, {0xA: (1, 0)})

    def test_1024_at_most(self):
        bridge = bridge_with(4, 4)
        for address in range(1024):
            br_frame(bridge, 1, data(0xFFFFFF, address))
        self.assertEqual(list(bridge.addresses.heard), list(range(1024)))
        # The first one is heard of again, so the second is the last, and is forgotten.
        br_frame(bridge, 1, data(0xFFFFFF, 0))
        self.assertEqual(len(bridge.addresses.heard), 1024)
        br_frame(bridge, 2, data(0xFFFFFF, 5000))
        self.assertEqual(list(bridge.addresses.heard), list(range(2, 1024)) + [0, 5000])


class PassingOn(PassOnCase):
    def test_unknown_by_all_others_in_order(self):
        self.check(bridge_with(4, 4, 4, 4), 2, data(0xB, 0xA), [1, 3, 4])

    def test_never_by_a_port_that_does_not_forward(self):
        for state in (0, 1, 2, 3):
            for target in (0xB, 0xC, GROUP, EVERYONE):
                with self.subTest(state=state, target=target):
                    bridge = bridge_with(state, 4, 4)
                    bridge.addresses.hear(0xC, 2)
                    self.check(bridge, 1, data(target, 0xA), [])

    def test_never_to_a_port_that_does_not_forward(self):
        for state in (0, 1, 2, 3):
            for target in (0xB, GROUP, EVERYONE):
                with self.subTest(state=state, target=target):
                    self.check(bridge_with(4, state, 4), 1, data(target, 0xA), [3])

    def test_to_a_known_address(self):
        bridge = bridge_with(4, 4, 4)
        bridge.addresses.hear(0xB, 3)
        self.check(bridge, 1, data(0xB, 0xA), [3])

    def test_known_by_a_port_that_does_not_forward(self):
        for state in (0, 1, 2, 3):
            with self.subTest(state=state):
                bridge = bridge_with(4, 4, state)
                bridge.addresses.hear(0xB, 3)
                self.check(bridge, 1, data(0xB, 0xA), [])

    def test_known_by_the_same_port(self):
        bridge = bridge_with(4, 4, 4)
        bridge.addresses.hear(0xB, 1)
        self.check(bridge, 1, data(0xB, 0xA), [])

    def test_to_its_own_sender(self):
        # The sender is learned first.
        self.check(bridge_with(4, 4, 4), 1, data(0xA, 0xA), [])

    def test_the_sender_that_moved_is_known_by_its_new_port(self):
        bridge = bridge_with(4, 4, 4)
        bridge.addresses.hear(0xA, 3)
        self.check(bridge, 1, data(0xA, 0xA), [])

    def test_groups_by_all_others(self):
        for target in (GROUP, EVERYONE, 0x01005E000001):
            with self.subTest(target=target):
                self.check(bridge_with(4, 4, 4), 1, data(target, 0xA), [2, 3])

    def test_kept_addresses(self):
        for target in range(BRIDGES + 1, BRIDGES + 16):
            with self.subTest(target=target):
                self.check(bridge_with(4, 4, 4), 1, data(target, 0xA), [])

    def test_addresses_beside_the_kept_ones(self):
        for target in (BRIDGES - 1, BRIDGES + 16, BRIDGES + 17, 0x0180C3000001):
            with self.subTest(target=target):
                self.check(bridge_with(4, 4, 4), 1, data(target, 0xA), [2, 3])

    def test_as_they_are(self):
        for rest in ([0, 0], [255, 255], list(range(256)) * 7, [9] * (2048 - 12)):
            with self.subTest(length=len(rest)):
                self.check(bridge_with(4, 4), 1, data(0xB, 0xA, rest), [2])

    def test_one_port_alone(self):
        self.check(bridge_with(4), 1, data(0xB, 0xA), [])

    def test_nothing_comes_of_a_frame_but_that(self):
        bridge = bridge_with(4, 4)
        br_frame(bridge, 1, data(0xB, 0xA, row(7, 2) + [0x42, 0x42, 3, 0, 0, 0, 128]))
        self.assertEqual((bridge.change_found, bridge.root_port), (False, 0))


class ListeningPorts(PassOnCase):
    def test_new_ports_do_not_pass_on(self):
        bridge = Bridge(9, 3)
        for place in (1, 2, 3):
            self.check(bridge, place, data(0xB, 0xA), [])
        self.assertEqual(bridge.addresses.heard, {})
