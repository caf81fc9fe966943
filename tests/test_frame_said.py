"""Promise 4, br_frame: what's said."""

from tests.helper import (
    GREATER, LEAST, LESS, OWN_ID, BridgeCase, asked, begin, bridge_after, changed, frame, off, on, said, sent,
    told)
from treebridge.bridge import br_frame

WORSE = said(GREATER, 0, GREATER, 1)
WAY = said(LESS, 5, LESS, 1)


def leader_of(bridge, place):
    leader = bridge.ports[place - 1].leader
    return (leader.root, leader.cost, leader.bridge, leader.port)


class Better(BridgeCase):
    """Each step, on port 1, which knows one way; port 2 tells if the new one is better."""

    def is_better(self, known, new, own=OWN_ID):
        calls = [begin(own), on(1), frame(1, said(*known)), on(2), frame(1, said(*new))]
        bridge = bridge_after(*calls)
        better = leader_of(bridge, 1) == new
        if known != new:
            self.assertEqual(leader_of(bridge, 1), new if better else known)
        frames = self.last_sent(*calls)
        self.assertEqual([place for place, bytes_ in frames], [2] if better or frames else [])
        return bool(frames)

    def test_root(self):
        self.assertTrue(self.is_better((20, 5, 30, 7), (19, 99, 99, 99)))
        self.assertFalse(self.is_better((20, 5, 30, 7), (21, 0, 0, 0)))

    def test_cost(self):
        self.assertTrue(self.is_better((20, 5, 30, 7), (20, 4, 99, 99)))
        self.assertFalse(self.is_better((20, 5, 30, 7), (20, 6, 0, 0)))

    def test_bridge(self):
        self.assertTrue(self.is_better((20, 5, 30, 7), (20, 5, 29, 99)))
        self.assertFalse(self.is_better((20, 5, 30, 7), (20, 5, 31, 0)))

    def test_the_same_bridge_that_is_another(self):
        for port in (0, 6, 7, 8, 65535):
            with self.subTest(port=port):
                self.assertTrue(self.is_better((20, 5, 30, 7), (20, 5, 30, port)))
                self.assertTrue(self.is_better((20, 5, GREATER, 7), (20, 5, GREATER, port)))

    def test_own_way_is_not_counted(self):
        # What the port knows is compared, not what the bridge makes of it (cost 15).
        self.assertFalse(self.is_better((20, 5, 30, 7), (20, 10, 30, 7)))

    def test_the_whole_of_the_numbers_counts(self):
        high = 0x8000000000000000
        self.assertTrue(self.is_better((high, 5, 30, 7), (high - 1, 5, 30, 7), own=high + 1))
        self.assertTrue(self.is_better((20, 0x80000000, 30, 7), (20, 0x7FFFFFFF, 30, 7)))
        self.assertTrue(self.is_better((20, 5, high, 7), (20, 5, high - 1, 7)))

    def test_this_bridge(self):
        # Port 2 hears what port 1, 2 or 3 of this bridge says; it answers if that's not better and it's led.
        for port, better in ((32769, True), (32770, True), (32771, False), (0, True), (65535, False)):
            with self.subTest(port=port):
                calls = [begin(), on(2), frame(2, said(OWN_ID, 0, OWN_ID, port))]
                self.check_last(calls, [] if better else [told(OWN_ID, 0, 2)])
                still_led = port >= 32770
                again = calls + [frame(2, changed())]
                self.assertEqual(bridge_after(*again).change_found, still_led)

    def test_this_bridge_on_a_port_that_is_not_led(self):
        # Port 3 knows port 2 of this bridge; port 1's is less, port 2's the same, port 4's greater.
        for port, better in ((32769, True), (32770, True), (32772, False)):
            with self.subTest(port=port):
                calls = [begin(n=4), on(3), frame(3, said(OWN_ID, 0, OWN_ID, 32770)),
                         frame(3, said(OWN_ID, 0, OWN_ID, port, age=9))]
                self.check_last(calls, [])
                bridge = bridge_after(*calls)
                self.assertEqual(bridge.ports[2].age, 9 if better else 0)
                self.assertEqual(leader_of(bridge, 3)[3], port if better else 32770)

    def test_compared_with_what_is_led(self):
        # A port that's led knows the bridge's own root, cost and id.
        for new, better in (((OWN_ID - 1, 9, GREATER, 9), True), ((OWN_ID, 0, OWN_ID - 1, 9), True),
                            ((OWN_ID, 0, OWN_ID + 1, 0), False), ((OWN_ID, 1, 0, 0), False),
                            ((OWN_ID + 1, 0, 0, 0), False)):
            with self.subTest(new=new):
                calls = [begin(), on(1), frame(1, said(*new))]
                self.check_last(calls, [] if better else [told(OWN_ID, 0, 1)])


class BetterOnTheRootPort(BridgeCase):
    def test_all_tell_in_order(self):
        calls = [begin(n=5), on(5), on(3), on(2), on(1), frame(2, WAY)]
        self.check_last(calls, [told(LESS, 15, place, age=1) for place in (1, 3, 5)])

    def test_ports_that_are_not_led_do_not_tell(self):
        # Port 3 is blocked: another leads its net.
        calls = [begin(), on(1), on(3), frame(1, WAY), frame(3, said(LESS, 6, LESS + 1, 1)), on(2), frame(1, WAY)]
        self.check_last(calls, [told(LESS, 15, 2, age=1)])

    def test_hold_runs_so_it_is_noted(self):
        calls = [begin(), on(1), on(2), frame(1, WAY), on(3), frame(1, WAY)]
        self.check_last(calls, [told(LESS, 15, 3, age=1)])
        bridge = bridge_after(*calls)
        self.assertEqual([port.to_tell for port in bridge.ports], [False, True, False])
        self.assertEqual([port.hold for port in bridge.ports], [None, 0, 0])

    def test_its_age_is_known_and_one_more_told(self):
        for age in (0, 1, 18):
            with self.subTest(age=age):
                calls = [begin(), on(1), on(2), frame(1, said(LESS, 5, LESS, 1, age=age))]
                self.check_last(calls, [told(LESS, 15, 2, age=age + 1)])
                self.assertEqual(bridge_after(*calls).ports[0].age, age)

    def test_a_root_port_that_does_not_age(self):
        # No call leads there; the age told is 0 then.
        bridge = bridge_after(begin(), on(1), frame(1, WAY), on(2))
        bridge.ports[0].age = None
        self.assertEqual(sent(br_frame(bridge, 2, WORSE)), [told(LESS, 15, 2, age=0)])

    def test_too_old_to_be_told(self):
        for age, oldest in ((19, 20), (0, 1), (254, 255)):
            with self.subTest(age=age):
                calls = [begin(), on(1), on(2), frame(1, said(LESS, 5, LESS, 1, age=age, oldest=oldest))]
                self.check_last(calls, [])
                port = bridge_after(*calls).ports[1]
                self.assertEqual((port.hold, port.to_tell), (None, False))

    def test_older_than_things_may_be_is_not_told(self):
        # Port 1's times go on to hold, when port 2 with its older way becomes the root port.
        for age, expected in ((3, [told(LEAST, 16, 3, age=4, oldest=5)]), (4, []), (18, [])):
            with self.subTest(age=age):
                calls = [begin(), on(1), on(2), frame(1, said(LEAST, 5, LEAST, 1, oldest=5)),
                         frame(2, said(LEAST, 6, LESS, 7, age=age)), off(1), on(3), frame(3, WORSE)]
                self.check_last(calls, expected)

    def test_too_old_to_be_told_keeps_the_notes(self):
        old = said(LESS, 5, LESS, 1, age=19)
        calls = [begin(), on(1), frame(1, old), on(2), frame(2, changed())]
        self.check_last(calls, [asked(1)])
        self.assertTrue(bridge_after(*calls).ports[1].to_call_known)
        # Once what's known is young enough, the change is called known.
        self.check_last(calls + [frame(1, WAY)], [told(LESS, 15, 2, age=1, byte=128)])

    def test_the_times_hold(self):
        times = {"oldest": 7, "between": 3, "wait": 4}
        calls = [begin(n=16), on(1), on(2), frame(1, said(LESS, 5, LESS, 1, **times))]
        self.check_last(calls, [told(LESS, 15, 2, age=1, **times)])
        self.check_tree(calls, LESS, 15, 1, **times)
        # A later message's times take their place.
        self.check_tree(calls + [frame(1, WAY)], LESS, 15, 1)

    def test_whether_there_is_a_change(self):
        changed_way = said(LESS, 5, LESS, 1, byte=1)
        calls = [begin(), on(1), on(2), frame(1, changed_way)]
        self.check_last(calls, [told(LESS, 15, 2, age=1, byte=1)])
        self.check_last(calls + [on(3), frame(1, WAY)], [told(LESS, 15, 3, age=1)])

    def test_a_change_called_known(self):
        known = said(LESS, 5, LESS, 1, byte=128)
        calls = [begin(n=5), on(1), on(2), frame(1, WAY), frame(2, changed())]
        self.check_last(calls, [asked(1)])
        # A change was found already: not asked again, till it's called known.
        self.check_last(calls + [frame(2, changed())], [])
        self.check_last(calls + [frame(1, WAY), frame(2, changed())], [])
        self.check_last(calls + [frame(1, known), frame(2, changed())], [asked(1)])
        before, after = bridge_after(*calls), bridge_after(*calls, frame(1, known))
        self.assertEqual((before.change_found, before.asking), (True, 0))
        self.assertEqual((after.change_found, after.asking), (False, None))

    def test_a_change_called_known_is_not_told_on(self):
        known = said(LESS, 5, LESS, 1, byte=129)
        self.check_last([begin(), on(1), on(2), frame(1, known)], [told(LESS, 15, 2, age=1, byte=1)])

    def test_asking_without_a_found_change_stops_only_when_known(self):
        bridge = bridge_after(begin(), on(1), frame(1, WAY))
        bridge.asking = 1
        br_frame(bridge, 1, WAY)
        self.assertEqual(bridge.asking, 1)
        br_frame(bridge, 1, said(LESS, 5, LESS, 1, byte=128))
        self.assertIsNone(bridge.asking)


class BetterOnAnotherPort(BridgeCase):
    """Port 1 is the root port; port 2 hears what's better for it, but doesn't become the root port."""

    ways = [begin(n=16), on(1), on(2), frame(1, said(LEAST, 5, LEAST, 1))]
    second = said(LEAST, 6, LESS, 3, age=4, oldest=7, between=3, wait=4, byte=129)

    def test_nothing_is_told(self):
        self.check_last(self.ways + [on(3), frame(2, self.second)], [])

    def test_its_times_and_change_do_not_hold(self):
        calls = self.ways + [frame(2, self.second)]
        self.check_tree(calls, LEAST, 15, 1)
        bridge = bridge_after(*calls)
        self.assertEqual((bridge.times.oldest, bridge.times.between, bridge.times.wait), (20, 2, 15))
        self.assertFalse(bridge.change_there)

    def test_it_does_not_call_a_change_known(self):
        calls = self.ways + [on(3), frame(3, changed()), frame(2, self.second)]
        bridge = bridge_after(*calls)
        self.assertEqual((bridge.change_found, bridge.asking), (True, 0))

    def test_it_is_what_the_port_knows_and_the_port_is_blocked(self):
        bridge = bridge_after(*self.ways, frame(2, self.second))
        self.assertEqual(leader_of(bridge, 2), (LEAST, 6, LESS, 3))
        port = bridge.ports[1]
        self.assertEqual((port.state, port.wait, port.age, port.to_tell, port.to_call_known),
                         (1, None, 4, False, False))

    def test_not_better_is_not_answered_there(self):
        calls = self.ways + [frame(2, self.second), on(3)]
        self.check_last(calls + [frame(2, said(LEAST, 7, LESS, 3))], [])
        self.check_last(calls + [frame(2, WORSE)], [])


class NotBetter(BridgeCase):
    def test_on_a_port_that_is_led(self):
        self.check_last([begin(), on(1), on(2), frame(2, WORSE)], [told(OWN_ID, 0, 2)])

    def test_on_a_port_that_is_led_by_a_bridge_that_is_not_the_root(self):
        calls = [begin(), on(1), frame(1, said(LESS, 5, LESS, 1, age=2)), on(2)]
        self.check_last(calls + [frame(2, said(LESS, 15, GREATER, 1))], [told(LESS, 15, 2, age=3)])

    def test_hold_runs_so_it_is_noted(self):
        calls = [begin(), on(1), frame(1, WORSE)]
        self.assertFalse(bridge_after(*calls).ports[0].to_tell)
        calls += [frame(1, WORSE)]
        self.check_last(calls, [])
        port = bridge_after(*calls).ports[0]
        self.assertEqual((port.to_tell, port.hold), (True, 0))

    def test_hold_does_not_begin_again_when_it_is_noted(self):
        bridge = bridge_after(begin(), on(1))
        bridge.ports[0].hold = 5
        self.assertEqual(br_frame(bridge, 1, WORSE), [0])
        self.assertEqual((bridge.ports[0].hold, bridge.ports[0].to_tell), (5, True))

    def test_telling_takes_both_notes_away(self):
        bridge = bridge_after(begin(), on(1))
        port = bridge.ports[0]
        port.to_tell = port.to_call_known = True
        self.assertEqual(sent(br_frame(bridge, 1, WORSE)), [told(OWN_ID, 0, 1, byte=128)])
        self.assertEqual((port.to_tell, port.to_call_known, port.hold), (False, False, 0))

    def test_on_the_root_port(self):
        calls = [begin(), on(1), frame(1, WAY), on(2)]
        self.check_last(calls + [frame(1, said(LESS, 6, LESS, 1))], [])
        self.check_last(calls + [frame(1, WORSE)], [])

    def test_its_times_and_change_do_not_hold(self):
        worse = said(GREATER, 0, GREATER, 1, oldest=7, between=3, wait=4, byte=129)
        self.check_last([begin(), on(1), frame(1, worse)], [told(OWN_ID, 0, 1)])
        bridge = bridge_after(begin(), on(1), frame(1, changed()), frame(1, worse))
        self.assertTrue(bridge.change_found)


class NoLongerTheRoot(BridgeCase):
    def test_telling_stops(self):
        self.assertEqual(bridge_after(begin(), on(1)).telling, 0)
        bridge = bridge_after(begin(), on(1), frame(1, WAY))
        self.assertEqual((bridge.telling, bridge.asking, bridge.changing), (None, None, None))
        self.assertEqual((bridge.change_found, bridge.change_there), (False, False))

    def test_a_change_found_is_asked_for_first(self):
        calls = [begin(), on(1), on(2), on(3), frame(2, changed())]
        before = bridge_after(*calls)
        self.assertEqual((before.asking, before.changing, before.change_there), (None, 0, True))
        calls += [frame(1, WAY)]
        # Port 2's hold runs: it told of the change.
        self.check_last(calls, [asked(1), told(LESS, 15, 3, age=1)])
        bridge = bridge_after(*calls)
        self.assertEqual((bridge.telling, bridge.asking, bridge.changing), (None, 0, None))
        self.assertEqual((bridge.change_found, bridge.change_there), (True, False))

    def test_a_change_called_known_at_once(self):
        calls = [begin(), on(1), on(2), frame(2, changed()), frame(1, said(LESS, 5, LESS, 1, byte=128))]
        self.check_last(calls, [asked(1)])
        bridge = bridge_after(*calls)
        self.assertEqual((bridge.asking, bridge.change_found), (None, False))

    def test_a_better_message_that_leaves_it_the_root(self):
        # Port 2 hears port 1 of this same bridge: it's blocked, the bridge is the root still.
        calls = [begin(), on(1), on(2), frame(1, changed()), frame(2, said(OWN_ID, 0, OWN_ID, 32769))]
        self.check_last(calls, [])
        bridge = bridge_after(*calls)
        self.assertEqual((bridge.telling, bridge.asking, bridge.changing), (0, None, 0))
        self.assertEqual([port.state for port in bridge.ports], [2, 1, 0])

    def test_a_bridge_that_was_not_the_root_does_not_ask_again(self):
        calls = [begin(), on(1), on(2), frame(1, WAY), frame(2, changed())]
        self.check_last(calls + [frame(1, said(LEAST, 5, LEAST, 1))], [])
        bridge = bridge_after(*calls)
        bridge.asking = 1
        self.assertEqual(br_frame(bridge, 1, said(LEAST, 5, LEAST, 1)), [0])
        self.assertEqual((bridge.asking, bridge.change_found), (1, True))

    def test_its_own_words_make_it_the_root_without_more(self):
        # The document names no becoming the root here: only update and states.
        calls = [begin(5), on(1), frame(1, said(1, 9, 7, 1)), frame(1, said(1, 9, 5, 32769))]
        self.check_last(calls, [])
        bridge = bridge_after(*calls)
        self.assertEqual((bridge.root, bridge.cost, bridge.root_port), (5, 0, 0))
        self.assertEqual((bridge.telling, bridge.change_found), (None, False))
        self.assertEqual((leader_of(bridge, 1), bridge.ports[0].age), ((5, 0, 5, 32769), None))

    def test_its_own_words_do_not_stop_asking(self):
        calls = [begin(), on(1), on(2), frame(1, WAY), frame(2, changed()), frame(1, said(LEAST, 0, OWN_ID, 32769))]
        self.check_root(calls, OWN_ID, 0, 0)
        self.assertEqual(bridge_after(*calls).asking, 0)
