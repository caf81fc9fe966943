"""The whole program: bridges joined by nets agree on a tree, and no frame goes round."""

import unittest

from tests.helper import begin, bridge_after, data, frame, off, on, port, sent
from treebridge.bridge import answer_call

EVERYONE = 0xFFFFFFFFFFFF
MOST_FRAMES = 2000


class Nets:
    """Each net is a list of ends: (the bridge's id, the port's place). A frame comes to all other ends of its net."""

    def __init__(self, nets):
        self.nets = nets
        self.bridges = {}
        self.net_of = {}
        for net, ends in enumerate(nets):
            for end in ends:
                self.net_of[end] = net
        for own in sorted({own for own, place in self.net_of}):
            places = [place for other, place in self.net_of if other == own]
            self.bridges[own] = bridge_after(begin(own, max(places)), *[on(place) for place in sorted(places)])

    def carry(self, under_way):
        """Frames come to where they're going, till none is under way; how often one came onto each net."""
        came = [0] * len(self.nets)
        carried = 0
        while under_way:
            net, sender, bytes_ = under_way.pop(0)
            came[net] += 1
            carried += 1
            if carried > MOST_FRAMES:
                raise AssertionError("frames go round")
            for end in self.nets[net]:
                if end != sender:
                    under_way += self.sends(end[0], frame(end[1], bytes_))
        return came

    def sends(self, own, call):
        answer = answer_call(self.bridges[own], call)
        return [(self.net_of[own, place], (own, place), bytes_) for place, bytes_ in sent(answer)]

    def second(self):
        for own in self.bridges:
            self.carry(self.sends(own, [4]))

    def turn_off(self, own, place):
        self.carry(self.sends(own, off(place)))

    def turn_on(self, own, place):
        self.carry(self.sends(own, on(place)))

    def from_host(self, net, sender, target=EVERYONE):
        return self.carry([(net, None, data(target, sender))])

    def states(self):
        return {end: answer_call(self.bridges[end[0]], port(end[1]))[1] for end in sorted(self.net_of)}

    def roots(self):
        return {answer_call(bridge, [6])[1] for bridge in self.bridges.values()}


RING = [[(1, 1), (2, 1)], [(2, 2), (3, 1)], [(3, 2), (1, 2)]]
TWINS = [[(1, 1), (2, 1)], [(1, 2), (2, 2)]]
LOOP = [[(1, 1), (1, 2)], [(1, 3)]]
MESH = [[(one, two), (two, one)] for one in range(1, 5) for two in range(one + 1, 5)]
SHARED = [[(1, 1), (2, 1), (3, 1)], [(1, 2), (2, 2), (3, 2)], [(3, 3), (4, 1)], [(4, 2), (2, 3)]]
ALL = {"ring": RING, "twins": TWINS, "loop": LOOP, "mesh": MESH, "shared": SHARED}


class Trees(unittest.TestCase):
    def settled(self, nets):
        joined = Nets(nets)
        for nothing in range(50):
            joined.second()
        return joined

    def check_once(self, joined):
        for net in range(len(joined.nets)):
            self.assertEqual(joined.from_host(net, 0xA0 + net), [1] * len(joined.nets))

    def test_all_know_the_least_as_the_root(self):
        for name, nets in ALL.items():
            with self.subTest(name):
                self.assertEqual(self.settled(nets).roots(), {1})

    def test_each_net_has_a_frame_once(self):
        for name, nets in ALL.items():
            with self.subTest(name):
                self.check_once(self.settled(nets))

    def test_which_ports_are_blocked(self):
        for name, ends in (("ring", [(3, 1)]), ("twins", [(2, 2)]), ("loop", [(1, 2)]),
                           ("mesh", [(3, 2), (4, 2), (4, 3)])):
            with self.subTest(name):
                states = self.settled(ALL[name]).states()
                self.assertEqual([end for end in states if states[end] != 4], ends)
                self.assertEqual({states[end] for end in ends}, {1})

    def test_at_no_second_does_a_frame_come_twice(self):
        for name, nets in ALL.items():
            with self.subTest(name):
                joined = Nets(nets)
                for number in range(50):
                    joined.second()
                    for net in range(len(nets)):
                        self.assertLessEqual(max(joined.from_host(net, 0xA0 + net)), 1, number)

    def test_without_the_ways_to_the_root_another_way_is_found(self):
        joined = self.settled(RING)
        joined.turn_off(3, 2)
        for number in range(50):
            joined.second()
            for net in range(3):
                self.assertLessEqual(max(joined.from_host(net, 0xA0 + net)), 1, number)
        self.assertEqual(joined.states(), {(1, 1): 4, (1, 2): 4, (2, 1): 4, (2, 2): 4, (3, 1): 4, (3, 2): 0})
        self.assertEqual(joined.from_host(0, 0xA0), [1, 1, 1])

    def test_without_the_root_another_root_is_found(self):
        joined = self.settled(MESH)
        for place in (2, 3, 4):
            joined.turn_off(1, place)
        for number in range(75):
            joined.second()
            for net in range(len(MESH)):
                self.assertLessEqual(max(joined.from_host(net, 0xA0 + net)), 1, number)
        # The one that's alone is its own root.
        self.assertEqual(joined.roots(), {1, 2})
        self.assertEqual(joined.from_host(5, 0xA5), [1] * 6)
        joined.turn_on(1, 4)
        for number in range(75):
            joined.second()
            for net in range(len(MESH)):
                self.assertLessEqual(max(joined.from_host(net, 0xA0 + net)), 1, number)
        self.assertEqual(joined.roots(), {1})
        self.assertEqual(joined.from_host(5, 0xA5), [1] * 6)

    def test_known_addresses_have_their_frames_by_the_way_alone(self):
        joined = self.settled(RING)
        joined.from_host(1, 0xB)
        # From the net of 2 and 3 to that of 1 and 2, by 2 alone.
        joined.from_host(0, 0xA, 0xB)
        self.assertEqual(joined.from_host(0, 0xA, 0xB), [1, 1, 0])
        self.assertEqual(joined.from_host(1, 0xB, 0xA), [1, 1, 0])
        self.assertEqual(joined.from_host(0, 0xC, 0xA), [1, 0, 0])
