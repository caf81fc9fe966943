"""Promise 4, br_frame: frames that aren't messages are learned from and passed on."""

from tests.helper import (
    BRIDGES, LESS, OWN_ID, BridgeCase, asked, begin, bridge_after, data, find, frame, off, on, port, reach, row, said,
    seconds)

GROUP = 0x010000000000
EVERYONE = 0xFFFFFFFFFFFF

ADDRESS_B_BY_3 = frame(3, data(EVERYONE, 0xB))


class PassOnCase(BridgeCase):
    def check(self, calls, place, bytes_, places):
        """The frame, as it is, is passed on by the ports at these places, in this order, and by no others."""
        self.check_last(list(calls) + [frame(place, bytes_)], [(other, bytes_) for other in places])


class Reached(BridgeCase):
    """That the calls which the other tests begin with lead where they are to."""

    def test_states(self):
        for states in ((0, 1, 2, 3, 4), (4, 3, 2, 1, 0), (1, 1), (3,), (4, 4, 4), (4, 1, 4)):
            with self.subTest(states=states):
                self.check_states(reach(*states), *states)


class Learning(PassOnCase):
    def test_by_state(self):
        for state, place in ((0, 0), (1, 0), (2, 0), (3, 1), (4, 1)):
            with self.subTest(state=state):
                self.check_find(reach(state, 4) + [frame(1, data(0xB, 0xA))], {0xA: place, 0xB: 0})

    def test_groups_are_not_learned(self):
        for sender in (GROUP, EVERYONE, BRIDGES, 0x010000000001, 0x030000000000):
            with self.subTest(sender=sender):
                self.check(reach(4, 4), 1, data(0xB, sender), [2])
                self.check_find(reach(4, 4) + [frame(1, data(0xB, sender))], {sender: 0})
                self.check_find(reach(3) + [frame(1, data(0xB, sender))], {sender: 0})

    def test_bits_beside_bit_40(self):
        for sender in (0, 0x020000000000, 0x008000000000, 0xFEFFFFFFFFFF):
            for state in (3, 4):
                with self.subTest(sender=sender, state=state):
                    self.check_find(reach(state) + [frame(1, data(0xB, sender))], {sender: 1})

    def test_the_whole_address(self):
        calls = reach(4) + [frame(1, data(0xB, 0x020304050607))]
        self.check_find(calls, {0x020304050607: 1, 0x0304050607: 0, 0x020304050600: 0})

    def test_an_address_moves(self):
        calls = reach(4, 4, 4) + [frame(1, data(0xB, 0xA))]
        self.check(calls, 3, data(0xA, 0xC), [1])
        calls += [frame(2, data(0xB, 0xA))]
        self.check(calls, 3, data(0xA, 0xC), [2])
        self.check_find(calls, {0xA: 2})

    def test_an_address_moves_to_a_port_that_learns(self):
        calls = reach(4, 3, 4) + [frame(1, data(0xB, 0xA)), frame(2, data(0xB, 0xA))]
        self.check_find(calls, {0xA: 2})
        self.check(calls, 3, data(0xA, 0xC), [])

    def test_a_port_that_only_listens_does_not_move_it(self):
        for state in (0, 1, 2):
            with self.subTest(state=state):
                self.check_find(reach(4, state) + [frame(1, data(0xB, 0xA)), frame(2, data(0xB, 0xA))], {0xA: 1})

    def test_frames_to_kept_addresses_are_learned_from(self):
        for state in (3, 4):
            for target in (BRIDGES + 1, BRIDGES + 15):
                with self.subTest(state=state, target=target):
                    self.check(reach(state, 4), 1, data(target, 0xA), [])
                    self.check_find(reach(state, 4) + [frame(1, data(target, 0xA))], {0xA: 1})

    def test_those_by_a_port_that_goes_off_are_forgotten(self):
        calls = reach(4, 4, 4) + [frame(1, data(0xF, 0xA)), frame(2, data(0xF, 0xB)), frame(1, data(0xF, 0xC)), off(1)]
        self.check_find(calls, {0xA: 0, 0xB: 2, 0xC: 0})
        self.check(calls, 2, data(0xA, 0xD), [3])

    def test_those_by_a_port_that_is_blocked_stay(self):
        calls = reach(4, 4, 4) + [ADDRESS_B_BY_3, frame(3, said(OWN_ID, 0, OWN_ID, 32769))]
        self.check_states(calls, 4, 4, 1)
        self.check_find(calls, {0xB: 3})
        self.check(calls, 1, data(0xB, 0xA), [])


class TheMostAddresses(BridgeCase):
    """More frames than one list of calls may have, so the bridge itself is called, call by call."""

    def heard(self, senders):
        frames = [frame(1, data(EVERYONE, sender)) for sender in senders]
        return bridge_after(*reach(4, 4), *frames)

    def known(self, bridge, addresses):
        return [address for address in addresses if bridge.addresses.place_of(address) != 0]

    def test_1024_are_known(self):
        bridge = self.heard(range(1024))
        self.assertEqual(self.known(bridge, range(1030)), list(range(1024)))

    def test_one_more(self):
        bridge = self.heard(list(range(1024)) + [5000])
        self.assertEqual(self.known(bridge, range(1030)), list(range(1, 1024)))
        self.assertEqual(bridge.addresses.place_of(5000), 1)

    def test_some_more(self):
        bridge = self.heard(range(1500))
        self.assertEqual(self.known(bridge, range(1500)), list(range(476, 1500)))

    def test_one_heard_again_is_the_first_again(self):
        # 0 is heard of again, so 1 is the last, and is forgotten.
        bridge = self.heard(list(range(1024)) + [0])
        self.assertEqual(self.known(bridge, range(1030)), list(range(1024)))
        bridge = self.heard(list(range(1024)) + [0, 5000])
        self.assertEqual(self.known(bridge, range(1030)), [0] + list(range(2, 1024)))

    def test_those_that_were_forgotten_leave_room(self):
        calls = [frame(2, data(EVERYONE, 6000 + place)) for place in range(24)]
        calls += [frame(1, data(EVERYONE, sender)) for sender in range(1000)]
        calls += [off(2), frame(1, data(EVERYONE, 7000))]
        bridge = bridge_after(*reach(4, 4), *calls)
        self.assertEqual(self.known(bridge, range(8000)), list(range(1000)) + [7000])

    def test_the_order_stays_as_they_grow_older(self):
        frames = [frame(1, data(EVERYONE, sender)) for sender in range(1024)]
        bridge = bridge_after(*reach(4, 4), *frames, *seconds(3), frame(2, data(EVERYONE, 5000)))
        self.assertEqual(self.known(bridge, range(1030)), list(range(1, 1024)))


class PassingOn(PassOnCase):
    def test_unknown_by_all_others_in_order(self):
        self.check(reach(4, 4, 4, 4), 2, data(0xB, 0xA), [1, 3, 4])

    def test_never_by_a_port_that_does_not_forward(self):
        for state in (0, 1, 2, 3):
            for target in (0xB, 0xC, GROUP, EVERYONE):
                with self.subTest(state=state, target=target):
                    self.check(reach(state, 4, 4) + [ADDRESS_B_BY_3], 1, data(target, 0xA), [])

    def test_never_to_a_port_that_does_not_forward(self):
        for state in (0, 1, 2, 3):
            for target in (0xB, GROUP, EVERYONE):
                with self.subTest(state=state, target=target):
                    self.check(reach(4, state, 4), 1, data(target, 0xA), [3])

    def test_to_a_known_address(self):
        self.check(reach(4, 4, 4) + [ADDRESS_B_BY_3], 1, data(0xB, 0xA), [3])

    def test_known_by_a_port_that_learns(self):
        self.check(reach(4, 4, 3) + [ADDRESS_B_BY_3], 1, data(0xB, 0xA), [])

    def test_known_by_a_port_that_no_longer_forwards(self):
        # Blocked, and then listening again: its own words stop coming.
        calls = reach(4, 4, 4) + [ADDRESS_B_BY_3, frame(3, said(OWN_ID, 0, OWN_ID, 32769, age=14))]
        self.check(calls, 1, data(0xB, 0xA), [])
        calls += seconds(6)
        self.check_states(calls, 4, 4, 2)
        self.check_find(calls, {0xB: 3})
        self.check(calls, 1, data(0xB, 0xA), [])

    def test_known_by_the_same_port(self):
        self.check(reach(4, 4, 4) + [frame(1, data(EVERYONE, 0xB))], 1, data(0xB, 0xA), [])

    def test_to_its_own_sender(self):
        # The sender is learned first.
        self.check(reach(4, 4, 4), 1, data(0xA, 0xA), [])

    def test_the_sender_that_moved_is_known_by_its_new_port(self):
        self.check(reach(4, 4, 4) + [ADDRESS_B_BY_3], 1, data(0xB, 0xB), [])

    def test_to_one_that_is_forgotten(self):
        calls = reach(4, 4, 4) + [ADDRESS_B_BY_3]
        self.check(calls + seconds(14), 1, data(0xB, 0xA), [3])
        self.check(calls + seconds(15), 1, data(0xB, 0xA), [2, 3])

    def test_groups_by_all_others(self):
        for target in (GROUP, EVERYONE, 0x01005E000001):
            with self.subTest(target=target):
                self.check(reach(4, 4, 4), 1, data(target, 0xA), [2, 3])

    def test_kept_addresses(self):
        for target in range(BRIDGES + 1, BRIDGES + 16):
            with self.subTest(target=target):
                self.check(reach(4, 4, 4), 1, data(target, 0xA), [])

    def test_addresses_beside_the_kept_ones(self):
        for target in (BRIDGES - 1, BRIDGES + 16, BRIDGES + 17, 0x0180C3000001):
            with self.subTest(target=target):
                self.check(reach(4, 4, 4), 1, data(target, 0xA), [2, 3])

    def test_as_they_are(self):
        for rest in ([0, 0], [255, 255], list(range(256)) * 7, [9] * (2048 - 12)):
            with self.subTest(length=len(rest)):
                self.check(reach(4, 4), 1, data(0xB, 0xA, rest), [2])

    def test_one_port_alone(self):
        self.check(reach(4), 1, data(0xB, 0xA), [])

    def test_hold_does_not_stop_frames(self):
        # The first frame holds back nothing of the second.
        self.check(reach(4, 4) + [frame(1, data(0xB, 0xA))], 1, data(0xB, 0xA), [2])

    def test_nothing_comes_of_a_frame_but_that(self):
        calls = reach(4, 4) + [port(1), port(2), [6]]
        inside = frame(1, data(0xB, 0xA, row(7, 2) + [0x42, 0x42, 3, 0, 0, 0, 128]))
        before = self.answers_of(*calls)[-3:]
        self.check_answers(reach(4, 4) + [inside, port(1), port(2), [6]], before)
        self.check_answers(reach(4, 4) + [inside, find(0xA), find(0xB)], [[1], [0]])


class AFollower(PassOnCase):
    """The root port and one that's led forward; a third port is blocked."""

    calls = [begin(), on(1), on(2), on(3), frame(1, said(LESS, 5, LESS, 1, oldest=200)),
             frame(3, said(LESS, 6, LESS + 1, 1))] + seconds(30)

    def test_states(self):
        self.check_states(self.calls, 4, 4, 1)

    def test_from_each_port(self):
        self.check(self.calls, 1, data(0xB, 0xA), [2])
        self.check(self.calls, 2, data(0xB, 0xA), [1])
        self.check(self.calls, 3, data(0xB, 0xA), [])
        self.check_find(self.calls + [frame(3, data(0xB, 0xA))], {0xA: 0})


class APortThatForwardedIsBlocked(BridgeCase):
    """A change is found then: by the root it's told, by another it's asked for."""

    def test_by_the_root(self):
        # The change of the beginning is over.
        calls = reach(4, 4) + seconds(36)
        self.check_last(calls, [(place, self.words(place, 0)) for place in (1, 2)])
        calls += [frame(2, said(OWN_ID, 0, OWN_ID, 32769))]
        self.check_last(calls, [])
        self.check_states(calls, 4, 1)
        self.check_last(calls + seconds(2), [(1, self.words(1, 1))])

    def words(self, place, byte):
        return said(OWN_ID, 0, OWN_ID, 32768 + place, sender=OWN_ID % 2 ** 48, byte=byte)

    def test_by_another(self):
        way = said(LESS, 5, LESS, 1, oldest=200, byte=128)
        other = said(LESS, 6, LESS + 1, 1)
        calls = [begin(), on(1), on(2), frame(1, way)] + seconds(30)
        # Found as they forwarded, and called known.
        self.check_sent(calls, [[asked(1)]])
        calls += [frame(1, way), frame(2, other)]
        self.check_last(calls, [asked(1)])
        self.check_states(calls, 4, 1)

    def test_by_another_that_listened_or_learned(self):
        way = said(LESS, 5, LESS, 1, oldest=200)
        other = said(LESS, 6, LESS + 1, 1)
        for how_many, expected in ((14, []), (15, [asked(1)]), (29, [asked(1)])):
            with self.subTest(seconds=how_many):
                calls = [begin(), on(1), on(2), frame(1, way)] + seconds(how_many) + [frame(2, other)]
                self.check_last(calls, expected)
                self.check_states(calls, 2 if how_many == 14 else 3, 1)
