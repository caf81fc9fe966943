"""Promise 6: br_port, br_root, br_find."""

from tests.helper import (
    GREATER, LEAST, LESS, OWN_ID, ROOT, SECOND, BridgeCase, begin, changed, data, find, frame, off, on, port, reach,
    said, seconds, told)

WAY = said(LESS, 5, LESS, 7)
EVERYONE = 0xFFFFFFFFFFFF


class Ports(BridgeCase):
    def test_ports_that_there_are_not(self):
        for n in (1, 3, 16):
            for place in (0, n + 1, 32769, 4294967295):
                with self.subTest(n=n, place=place):
                    self.check_answers([begin(n=n), on(1), port(place)], [[-1]])

    def test_ports_that_there_are(self):
        for n in (1, 3, 16):
            for place in (1, n):
                with self.subTest(n=n, place=place):
                    self.check_answers([begin(n=n), port(place)], [[0, 0, 0, 0, 0, 0]])

    def test_one_that_was_never_on(self):
        # As long as it isn't led: another port that goes on leaves it as it is.
        self.check_answers([begin(), on(1), SECOND, port(2)], [[0, 0, 0, 0, 0, 0]])
        self.check_answers([begin(), off(2), port(2)], [[0, 0, 0, 0, 0, 0]])
        self.check_answers([begin(), on(2, 0), port(2)], [[0, 0, 0, 0, 0, 0]])

    def test_one_that_was_never_on_but_is_led(self):
        calls = [begin(), on(1), frame(1, WAY), port(2)]
        self.check_answers(calls, [[0, 0, LESS, 15, OWN_ID, 32770]])
        self.check_answers([begin(), on(1), off(1), port(2)], [[0, 0, OWN_ID, 0, OWN_ID, 32770]])

    def test_one_that_was_on_before(self):
        calls = [begin(), on(2), off(2), port(2)]
        self.check_answers(calls, [[0, 0, OWN_ID, 0, OWN_ID, 32770]])
        calls = [begin(), on(1), on(2), frame(1, WAY), off(2), port(2)]
        self.check_answers(calls, [[0, 0, LESS, 15, OWN_ID, 32770]])
        calls = [begin(), on(1), on(2), frame(1, WAY), off(1), port(1)]
        self.check_answers(calls, [[0, 0, OWN_ID, 0, OWN_ID, 32769]])

    def test_each_state(self):
        for state in (2, 3, 4):
            with self.subTest(state=state):
                self.check_answers(reach(0, state) + [port(2)], [[0, state, OWN_ID, 0, OWN_ID, 32770]])
        self.check_answers(reach(0, 1) + [port(2)], [[0, 1, OWN_ID, 0, OWN_ID, 1]])

    def test_the_root_port_tells_what_it_heard(self):
        # The cost is the one that was said, without the way's.
        self.check_answers([begin(), on(1), frame(1, WAY), port(1)], [[0, 2, LESS, 5, LESS, 7]])

    def test_a_blocked_port_tells_what_it_heard(self):
        calls = [begin(), on(1), on(2), frame(1, WAY), frame(2, said(LESS, 6, LESS + 1, 65535)), port(2)]
        self.check_answers(calls, [[0, 1, LESS, 6, LESS + 1, 65535]])

    def test_the_greatest_numbers(self):
        own = 2 ** 64 - 1
        way = said(own - 1, 4294967295, own, 65535)
        calls = [begin(own, 16), on(16, 65535), frame(16, way), port(16), port(1), ROOT]
        self.check_answers(calls, [[0, 2, own - 1, 4294967295, own, 65535], [0, 0, own - 1, 4295032830, own, 32769],
                                   [0, own - 1, 4295032830, 16]])

    def test_what_is_not_better_is_not_told(self):
        calls = [begin(), on(1), frame(1, said(GREATER, 0, GREATER, 1)), port(1)]
        self.check_answers(calls, [[0, 2, OWN_ID, 0, OWN_ID, 32769]])


class TheRoot(BridgeCase):
    def test_as_the_root(self):
        for own in (0, 9, OWN_ID, 2 ** 64 - 1):
            with self.subTest(own=own):
                self.check_answers([begin(own), ROOT], [[0, own, 0, 0]])
                self.check_answers([begin(own), on(1), SECOND, ROOT], [[0, own, 0, 0]])

    def test_not_as_the_root(self):
        self.check_root([begin(), on(1, 10), frame(1, WAY)], LESS, 15, 1)
        self.check_root([begin(), on(1), on(3, 65535), frame(3, WAY)], LESS, 65540, 3)

    def test_as_the_root_again(self):
        calls = [begin(), on(1), frame(1, WAY)]
        self.check_root(calls + [off(1)], OWN_ID, 0, 0)
        self.check_root(calls + seconds(20), OWN_ID, 0, 0)
        self.check_root(calls + [begin()], OWN_ID, 0, 0)

    def test_a_cost_of_more_than_32_bits(self):
        way = frame(1, said(LESS, 4294967295, LESS, 1))
        for cost in (1, 2, 65535):
            with self.subTest(cost=cost):
                calls = [begin(), on(1, cost), on(2), way]
                self.check_root(calls, LESS, 4294967295 + cost, 1)
                self.check_answers(calls + [port(2)], [[0, 2, LESS, 4294967295 + cost, OWN_ID, 32770]])
                # A message tells the lower 32 bits.
                self.check_last(calls, [told(LESS, cost - 1, 2, age=1)])

    def test_a_cost_of_more_than_32_bits_is_compared_whole(self):
        # Port 2's 4294967295 is less than 4294967296, though that's told as 0.
        calls = [begin(), on(1, 1), on(2, 65535), frame(1, said(LESS, 4294967295, LESS, 1))]
        calls += [frame(2, said(LESS, 4294967295, LESS, 2))]
        self.check_root(calls, LESS, 4294967296, 1)
        self.check_states(calls, 2, 1)
        # By port 2 it's 65535 then, less than what port 1 knows: port 1 is led.
        calls += [frame(2, said(LESS, 0, LESS, 2))]
        self.check_root(calls, LESS, 65535, 2)
        self.check_answers(calls + [port(1)], [[0, 2, LESS, 65535, OWN_ID, 32769]])


class Addresses(BridgeCase):
    heard = reach(4, 4, 3) + [frame(2, data(EVERYONE, 0x020304050607)), frame(3, data(EVERYONE, 0xC))]

    def test_known_ones(self):
        self.check_find(self.heard, {0x020304050607: 2, 0xC: 3})

    def test_unknown_ones(self):
        self.check_find([begin()], {0: 0, 0xC: 0, EVERYONE: 0})
        self.check_find(self.heard, {0: 0, 0xD: 0, 0x020304050606: 0, 0x0304050607: 0})

    def test_those_that_a_frame_is_sent_to(self):
        self.check_find(self.heard + [frame(1, data(0xE, 0xF))], {0xE: 0, 0xF: 1})

    def test_the_bridges_own(self):
        self.check_find(self.heard, {OWN_ID % 2 ** 48: 0, OWN_ID: 0, 0x0180C2000000: 0})

    def test_groups(self):
        self.check_find(self.heard, {EVERYONE: 0, 0x010304050607: 0})

    def test_more_than_48_bits(self):
        self.check_find(self.heard, {2 ** 48: 0, 0xC + 2 ** 48: 0, 0xC + 2 ** 63: 0, 0x020304050607 + 2 ** 48: 0,
                                     2 ** 64 - 1: 0})

    def test_forgotten_ones(self):
        self.check_find(self.heard + seconds(15), {0x020304050607: 0, 0xC: 0})
        self.check_find(self.heard + [off(2)], {0x020304050607: 0, 0xC: 3})

    def test_the_least_and_the_greatest(self):
        calls = reach(4) + [frame(1, data(0xB, 0)), frame(1, data(0xB, 0xFEFFFFFFFFFF))]
        self.check_find(calls, {0: 1, 0xFEFFFFFFFFFF: 1})

    def test_it_is_one_number(self):
        self.check_answers(self.heard + [find(0xC), find(0xD)], [[3], [0]])


class NothingIsDone(BridgeCase):
    def test_between_other_calls(self):
        calls = [begin(), on(1), on(2), frame(1, WAY), frame(2, changed())] + seconds(45)
        calls += [frame(1, data(0xB, 0xA)), frame(2, data(0xA, 0xB)), off(1), SECOND, frame(1, said(LEAST, 0, LEAST, 1))]
        asked_for = [port(0), port(1), port(2), port(3), ROOT, find(0xA), find(0xB), find(2 ** 60)]
        mixed = []
        for call in calls:
            mixed += [call] + asked_for
        plain = self.answers_of(*calls)
        self.assertEqual(self.answers_of(*mixed)[::len(asked_for) + 1], plain)
