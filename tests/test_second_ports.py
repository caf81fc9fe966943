"""Promise 5, br_second: the ports' waits and holds, and the addresses, each behind what goes ahead of it."""

from tests.helper import (
    GREATER, LEAST, LESS, OWN_ID, SECOND, BridgeCase, asked, begin, changed, data, frame, off, on, port, reach, said,
    seconds, told)

WAY = said(LESS, 5, LESS, 1)
LONG_WAY = said(LESS, 5, LESS, 1, oldest=200)
WORSE = said(GREATER, 0, GREATER, 1)
EVERYONE = 0xFFFFFFFFFFFF


class Waiting(BridgeCase):
    def test_listening_learning_forwarding(self):
        calls = [begin(), on(1), on(2)]
        for how_many, state in ((0, 2), (14, 2), (15, 3), (29, 3), (30, 4), (60, 4)):
            with self.subTest(seconds=how_many):
                self.check_states(calls + seconds(how_many), state, state, 0)

    def test_each_port_waits_by_itself(self):
        calls = [begin(), on(2)] + seconds(10) + [on(1)] + seconds(5)
        self.check_states(calls, 2, 3)
        self.check_states(calls + seconds(10), 3, 3)
        self.check_states(calls + seconds(15), 3, 4)
        self.check_states(calls + seconds(25), 4, 4)

    def test_the_time_to_wait_is_the_messages(self):
        for wait in (1, 2, 4, 14, 16, 30):
            with self.subTest(wait=wait):
                calls = [begin(), on(1), on(2), frame(1, said(LESS, 5, LESS, 1, oldest=200, wait=wait))]
                self.check_states(calls + seconds(wait - 1), 2, 2)
                self.check_states(calls + seconds(wait), 3, 3)
                self.check_states(calls + seconds(2 * wait - 1), 3, 3)
                self.check_states(calls + seconds(2 * wait), 4, 4)

    def test_a_time_to_wait_of_0(self):
        # A timer counts to 1 first.
        calls = [begin(), on(1), frame(1, said(LESS, 5, LESS, 1, wait=0))]
        self.check_states(calls, 2)
        self.check_states(calls + [SECOND], 3)
        self.check_states(calls + seconds(2), 4)

    def test_parts_of_a_second_do_not_count(self):
        calls = [begin(), on(1), frame(1, said(LESS, 5, LESS, 1, wait=(2, 255)))]
        self.check_states(calls + [SECOND], 2)
        self.check_states(calls + seconds(2), 3)

    def test_a_shorter_time_that_comes_to_hold(self):
        calls = [begin(), on(1), on(2)] + seconds(10) + [frame(1, said(LESS, 5, LESS, 1, wait=4))]
        self.check_states(calls, 2, 2)
        self.check_states(calls + [SECOND], 3, 3)
        self.check_states(calls + seconds(4), 3, 3)
        self.check_states(calls + seconds(5), 4, 4)

    def test_a_longer_time_that_comes_to_hold(self):
        calls = [begin(), on(1)] + seconds(14) + [frame(1, said(LESS, 5, LESS, 1, oldest=200, wait=20))]
        self.check_states(calls + seconds(5), 2)
        self.check_states(calls + seconds(6), 3)

    def test_a_port_that_is_off_does_not_wait(self):
        calls = [begin(), on(1)] + seconds(10) + [off(1)]
        self.check_states(calls + seconds(40), 0)
        self.check_states(calls + [on(1)] + seconds(14), 2)
        self.check_states(calls + [on(1)] + seconds(15), 3)

    def test_a_blocked_port_does_not_wait(self):
        calls = [begin(), on(1), on(2), frame(1, LONG_WAY)] + seconds(14) + [frame(2, said(LESS, 6, LESS + 1, 1))]
        self.check_states(calls + seconds(100), 4, 1)

    def test_a_port_that_was_blocked_listens_anew(self):
        calls = [begin(), on(1), on(2), frame(1, LONG_WAY)] + seconds(14) + [frame(2, said(LESS, 6, LESS + 1, 1))]
        calls += [SECOND, frame(1, said(LESS, 1, LESS, 1, oldest=200)), frame(1, said(LEAST, 1, LESS, 1, oldest=200))]
        self.check_states(calls, 3, 2)
        self.check_states(calls + seconds(14), 3, 2)
        self.check_states(calls + seconds(15), 4, 3)

    def test_on_again_while_on_changes_nothing(self):
        calls = [begin(), on(1)] + seconds(14) + [on(1)]
        self.check_states(calls + [SECOND], 3)

    def test_what_leads_the_net_stays(self):
        calls = [begin(), on(1)] + seconds(30) + [port(1)]
        self.check_answers(calls, [[0, 4, OWN_ID, 0, OWN_ID, 32769]])


class AChangeWhenAPortForwards(BridgeCase):
    def test_by_the_root(self):
        calls = [begin(), on(1)]
        self.check_sent(calls + seconds(32), [[told(OWN_ID, 0, 1)], [], [told(OWN_ID, 0, 1, byte=1)]])

    def test_not_when_it_learns(self):
        self.check_sent([begin(), on(1)] + seconds(28), [[told(OWN_ID, 0, 1)], []] * 6 + [[told(OWN_ID, 0, 1)]])
        self.check_sent([begin(), on(1), on(2), frame(1, LONG_WAY)] + seconds(29), [[]] * 29)

    def test_by_the_root_it_lasts_35_seconds(self):
        # Found in second 30, it's over in second 65.
        calls = [begin(), on(1)]
        self.check_last(calls + seconds(64) + [frame(1, WAY)], [asked(1)])
        self.check_last(calls + seconds(65) + [frame(1, WAY)], [])
        self.check_sent(calls + seconds(66), [[told(OWN_ID, 0, 1, byte=1)], [], [told(OWN_ID, 0, 1)]])

    def test_by_another_that_leads_a_net(self):
        calls = [begin(), on(1), on(2), frame(1, LONG_WAY)]
        # Both ports forward in the same second: it's asked once, and goes on each second second.
        self.check_sent(calls + seconds(34), [[], [asked(1)], [], [asked(1)], [], [asked(1)]])

    def test_by_another_whose_ports_forward_one_by_one(self):
        calls = [begin(), on(1), on(2), on(3), frame(1, said(LESS, 5, LESS, 1, oldest=200, wait=4))]
        calls += seconds(2) + [off(3), on(3)] + seconds(6)
        known = frame(1, said(LESS, 5, LESS, 1, oldest=200, wait=4, byte=128))
        self.check_sent(calls, [[asked(1)]])
        self.check_sent(calls + [known] + seconds(2), [[], [asked(1)]])

    def test_one_whose_only_port_is_the_root_port(self):
        calls = [begin(n=1), on(1), frame(1, LONG_WAY)] + seconds(40)
        self.check_sent(calls, [[]] * 40)
        self.check_states(calls, 4)

    def test_one_whose_other_port_is_led_by_another(self):
        for other in (LESS + 1, GREATER):
            with self.subTest(other=other):
                calls = [begin(n=2), on(1), on(2), frame(1, LONG_WAY), frame(2, said(LESS, 6, other, 1))] + seconds(40)
                self.check_sent(calls, [[]] * 40)
                self.check_states(calls, 4, 1)

    def test_one_whose_other_port_is_off(self):
        # Ports that are off are led, too.
        calls = [begin(n=2), on(1), frame(1, LONG_WAY)] + seconds(31)
        self.check_sent(calls, [[], [asked(1)], []])
        calls = [begin(n=2), on(1), on(2), off(2), frame(1, LONG_WAY)] + seconds(31)
        self.check_sent(calls, [[], [asked(1)], []])

    def test_one_that_leads_the_net_of_one_port_by_another(self):
        # Port 2 hears this bridge's port 1: the net is this bridge's, though the port isn't led.
        calls = [begin(n=2), on(1), on(2), frame(1, LONG_WAY), frame(2, said(LESS, 15, OWN_ID, 32769))]
        self.check_answers(calls + [port(2)], [[0, 1, LESS, 15, OWN_ID, 32769]])
        self.check_sent(calls + seconds(31), [[], [asked(1)], []])

    def test_one_whose_other_port_was_never_led(self):
        # To the root 0 nothing is less than what a port that was never on tells.
        way = said(0, 5, LESS, 1, oldest=200)
        self.check_sent([begin(n=2), on(1), frame(1, way)] + seconds(40), [[]] * 40)

    def test_as_the_root_by_its_own_words(self):
        # The one port's net is led by this bridge, by a lesser port: it's blocked, and nothing forwards.
        calls = [begin(n=1), on(1), frame(1, said(OWN_ID, 0, OWN_ID, 1))] + seconds(19)
        self.check_states(calls, 1)


class Holding(BridgeCase):
    def test_without_something_noted(self):
        calls = [begin(), on(1), frame(1, WAY), on(2), frame(2, WORSE)]
        self.check_sent(calls + seconds(3), [[told(LESS, 15, 2, age=1)], [], [], []])
        # It has stopped: the next one is told at once.
        self.check_last(calls + [SECOND, frame(2, WORSE)], [told(LESS, 15, 2, age=2)])

    def test_with_something_noted(self):
        calls = [begin(), on(1), frame(1, WAY), on(2), frame(2, WORSE), frame(2, WORSE)]
        self.check_sent(calls + seconds(3), [[], [told(LESS, 15, 2, age=2)], [], []])

    def test_noted_twice_is_told_once(self):
        calls = [begin(), on(1), frame(1, WAY), on(2), frame(2, WORSE), frame(2, WORSE), frame(2, WORSE)]
        self.check_sent(calls + seconds(3), [[], [told(LESS, 15, 2, age=2)], [], []])

    def test_telling_what_was_noted_begins_hold_anew(self):
        calls = [begin(), on(1), frame(1, WAY), on(2), frame(2, WORSE), frame(2, WORSE), SECOND, frame(2, WORSE)]
        self.check_sent(calls + seconds(2), [[], [told(LESS, 15, 2, age=3)], []])

    def test_a_change_to_be_called_known(self):
        calls = [begin(), on(1), frame(1, WAY), on(2), frame(2, WORSE), frame(2, changed()), SECOND]
        self.check_sent(calls, [[asked(1)], [told(LESS, 15, 2, age=2, byte=128)]])
        # It's called known once.
        self.check_last(calls + [SECOND, frame(2, WORSE)], [told(LESS, 15, 2, age=3)])

    def test_port_by_port_in_order(self):
        calls = [begin(), on(1), frame(1, WAY), on(3), on(2)]
        calls += [frame(3, WORSE), frame(3, WORSE), frame(2, WORSE), frame(2, WORSE), SECOND]
        self.check_last(calls, [told(LESS, 15, 2, age=2), told(LESS, 15, 3, age=2)])

    def test_what_is_told_is_what_holds_then(self):
        calls = [begin(), on(1), frame(1, WAY), on(2), frame(2, WORSE), frame(2, WORSE)]
        calls += [frame(1, said(LEAST, 1, LEAST, 1, oldest=30, between=3, wait=16, byte=1)), SECOND]
        self.check_last(calls, [told(LEAST, 11, 2, age=2, oldest=30, between=3, wait=16, byte=1)])

    def test_a_note_that_is_gone_is_not_told(self):
        # Port 2 becomes the root port, goes off, or is blocked meanwhile.
        calls = [begin(), on(1), frame(1, WAY), on(2), frame(2, WORSE), frame(2, WORSE)]
        self.check_sent(calls + [frame(2, said(LEAST, 1, LEAST, 1)), SECOND], [[told(LEAST, 11, 1, age=1)], []])
        self.check_sent(calls + [off(2), SECOND], [[], []])
        self.check_sent(calls + [frame(2, said(LESS, 6, LESS + 1, 1)), SECOND], [[], []])

    def test_the_hold_of_a_port_that_is_not_led_any_more_stops_all_the_same(self):
        # Port 2 has told and becomes the root port; by the bridge's own words it's led again.
        told_first = [begin(), on(1), on(2), frame(2, WORSE), frame(2, said(LESS, 6, LESS, 1))]
        led_again = [frame(2, said(LEAST, 0, OWN_ID, 32770)), frame(2, WORSE)]
        self.check_sent(told_first + led_again, [[], []])
        self.check_sent(told_first + [SECOND] + led_again, [[], [], [told(OWN_ID, 0, 2)]])


class TooOldToBeTold(BridgeCase):
    def way(self, **more):
        return frame(1, said(LESS, 5, LESS, 1, **more))

    def test_the_last_age_that_is_told(self):
        calls = [begin(), on(1), on(2), self.way(age=1, oldest=4), frame(2, WORSE), SECOND]
        self.check_last(calls, [told(LESS, 15, 2, age=3, oldest=4)])
        calls = [begin(), on(1), on(2), self.way(age=1, oldest=3), frame(2, WORSE), SECOND]
        self.check_last(calls, [])

    def test_hold_has_stopped_and_is_not_begun(self):
        calls = [begin(), on(1), on(2), self.way(age=1, oldest=3), frame(2, WORSE), SECOND, self.way(oldest=3)]
        self.check_last(calls, [told(LESS, 15, 2, age=1, oldest=3)])

    def test_the_notes_stay(self):
        calls = [begin(), on(1), on(2), self.way(age=1, oldest=3), frame(2, changed()), SECOND]
        self.check_sent(calls, [[asked(1)], []])
        self.check_last(calls + [self.way(oldest=3)], [told(LESS, 15, 2, age=1, oldest=3, byte=128)])

    def test_what_stayed_noted_is_not_told_by_itself(self):
        # Port 3 knows a younger way. Hold doesn't run any more, so nothing runs out once that way is taken.
        calls = [begin(), on(1), on(2), on(3), self.way(age=18), frame(3, said(LESS, 6, LESS + 1, 1))]
        calls += [frame(2, WORSE), SECOND, off(1)]
        self.check_sent(calls + seconds(3), [[], [], [], [], []])
        self.check_last(calls + seconds(3) + [frame(2, WORSE)], [told(LESS, 16, 2, age=5)])

    def test_what_stayed_noted_is_told_when_the_bridge_has_become_the_root(self):
        calls = [begin(), on(1), on(2), self.way(age=1, oldest=3), frame(2, changed())] + seconds(2)
        self.check_last(calls, [asked(1), told(OWN_ID, 0, 1, byte=1), told(OWN_ID, 0, 2, byte=129)])


class OldAddresses(BridgeCase):
    """Port 1 and 2 forward from second 30 on; the change of that is over in second 65."""

    quiet = reach(4, 4) + seconds(36)

    def test_299_and_300(self):
        calls = self.quiet + [frame(1, data(EVERYONE, 0xA))]
        self.check_find(calls + seconds(299), {0xA: 1})
        self.check_find(calls + seconds(300), {0xA: 0})

    def test_each_has_its_own_age(self):
        calls = self.quiet + [frame(1, data(EVERYONE, 0xA))] + seconds(100) + [frame(2, data(EVERYONE, 0xB))]
        self.check_find(calls + seconds(199), {0xA: 1, 0xB: 2})
        self.check_find(calls + seconds(200), {0xA: 0, 0xB: 2})
        self.check_find(calls + seconds(299), {0xA: 0, 0xB: 2})
        self.check_find(calls + seconds(300), {0xA: 0, 0xB: 0})

    def test_heard_of_again_it_is_young(self):
        for place in (1, 2):
            with self.subTest(place=place):
                calls = self.quiet + [frame(1, data(EVERYONE, 0xA))] + seconds(299)
                calls += [frame(place, data(EVERYONE, 0xA))]
                self.check_find(calls + seconds(299), {0xA: place})
                self.check_find(calls + seconds(300), {0xA: 0})

    def test_being_sent_to_does_not_make_it_young(self):
        calls = self.quiet + [frame(1, data(EVERYONE, 0xA))] + seconds(299) + [frame(2, data(0xA, 0xB))]
        self.check_find(calls + [SECOND], {0xA: 0, 0xB: 2})

    def test_with_a_change_the_time_to_wait(self):
        calls = reach(4, 4) + [frame(1, data(EVERYONE, 0xA))]
        self.check_find(calls + seconds(14), {0xA: 1})
        self.check_find(calls + seconds(15), {0xA: 0})

    def test_the_time_to_wait_that_holds(self):
        for wait in (2, 4, 16, 200):
            with self.subTest(wait=wait):
                calls = [begin(), on(1), on(2)] + seconds(30)
                calls += [frame(1, said(LESS, 5, LESS, 1, oldest=255, wait=wait, byte=1))]
                calls += [frame(2, data(EVERYONE, 0xA))]
                self.check_find(calls + seconds(wait - 1), {0xA: 2})
                self.check_find(calls + seconds(wait), {0xA: 0})

    def test_a_time_to_wait_of_0_and_1(self):
        for wait in (0, 1):
            with self.subTest(wait=wait):
                calls = reach(4, 4) + [frame(1, said(LESS, 5, LESS, 1, oldest=255, wait=wait, byte=1))]
                calls += [frame(2, data(EVERYONE, 0xA))]
                self.check_find(calls, {0xA: 2})
                self.check_find(calls + [SECOND], {0xA: 0})

    def test_without_a_change_the_time_to_wait_does_not_count(self):
        calls = reach(4, 4) + [frame(1, said(LESS, 5, LESS, 1, oldest=255, wait=1)), frame(2, data(EVERYONE, 0xA))]
        self.check_find(calls + seconds(100), {0xA: 2})

    def test_the_longest_time_to_wait_that_a_message_can_say(self):
        calls = reach(4, 4) + [frame(1, said(LESS, 5, LESS, 1, oldest=255, wait=255, byte=1))]
        calls += [frame(2, data(EVERYONE, 0xA))]
        self.check_find(calls + seconds(254), {0xA: 2})
        self.check_find(calls + seconds(255), {0xA: 0})

    def test_a_change_found_but_not_there(self):
        # One that isn't the root only asks: as long as the root doesn't say so, there's none.
        calls = self.quiet + [frame(1, said(LESS, 5, LESS, 1, oldest=255)), frame(2, changed())]
        calls += [frame(2, data(EVERYONE, 0xA))]
        self.check_find(calls + seconds(100), {0xA: 2})


class TheOrderWithinASecond(BridgeCase):
    def test_telling_ahead_of_hold(self):
        # What telling told holds till the same second's holds: the next one is told at once.
        calls = [begin(), on(1)] + seconds(2) + [frame(1, WORSE)]
        self.check_sent(calls, [[told(OWN_ID, 0, 1)], [told(OWN_ID, 0, 1)]])
        # What telling only noted is told in the same second, and once.
        calls = [begin(), on(1), SECOND, frame(1, WORSE), SECOND, frame(1, WORSE), SECOND]
        self.check_sent(calls, [[told(OWN_ID, 0, 1)], [], [told(OWN_ID, 0, 1)]])

    def test_asking_ahead_of_ages(self):
        # By the root port, a moment before its age is out.
        calls = [begin(), on(1), on(2), frame(1, WAY)] + seconds(18) + [frame(2, changed())] + seconds(2)
        self.check_last(calls, [asked(1), told(OWN_ID, 0, 1, byte=1), told(OWN_ID, 0, 2, byte=1)])

    def test_changing_ahead_of_ages(self):
        # The change of having become the root counts from the next second on.
        calls = [begin(), on(1), frame(1, said(LESS, 5, LESS, 1, oldest=1)), SECOND, off(1)]
        self.check_last(calls + seconds(34) + [on(1), frame(1, WAY)], [asked(1)])
        self.check_last(calls + seconds(35) + [on(1), frame(1, WAY)], [])

    def test_ages_ahead_of_waits(self):
        # Listening since second 0, by a time to wait of 30; with the root gone it's 15, in the same second.
        calls = [begin(), on(1), on(2), frame(2, said(LESS, 5, LESS, 1, oldest=16, wait=30))]
        self.check_states(calls + seconds(15), 2, 2)
        self.check_states(calls + seconds(16), 3, 3)

    def test_ages_ahead_of_holds(self):
        calls = [begin(), on(1), frame(1, said(LESS, 5, LESS, 1, oldest=3)), on(2), SECOND, frame(2, WORSE)]
        calls += [frame(2, WORSE), frame(1, said(LESS, 5, LESS, 1, oldest=1)), SECOND]
        # The port that was the root port tells when the age is out, the other only when its hold is.
        self.check_last(calls, [told(OWN_ID, 0, 1, byte=1), told(OWN_ID, 0, 2, byte=1)])
        calls = [begin(), on(2), frame(2, said(LESS, 5, LESS, 1, oldest=3)), on(1), SECOND, frame(1, WORSE)]
        calls += [frame(1, WORSE), frame(2, said(LESS, 5, LESS, 1, oldest=1)), SECOND]
        self.check_last(calls, [told(OWN_ID, 0, 2, byte=1), told(OWN_ID, 0, 1, byte=1)])

    def test_all_waits_ahead_of_the_first_hold(self):
        # Port 2 forwards in second 30: port 1's hold, out in that second, tells of the change.
        calls = [begin(), on(2), SECOND, on(1)] + seconds(28) + [frame(1, WORSE), SECOND]
        self.check_last(calls, [told(OWN_ID, 0, 2), told(OWN_ID, 0, 1, byte=1)])

    def test_waits_ahead_of_addresses(self):
        # A port forwards in second 30 of its own: by the change, addresses of 15 are old in that second.
        calls = reach(4, 0) + seconds(36) + [frame(1, data(EVERYONE, 0xA)), on(2)]
        self.check_find(calls + seconds(29), {0xA: 1})
        self.check_find(calls + seconds(30), {0xA: 0})

    def test_changing_ahead_of_addresses(self):
        # The change is over in second 65: an address that is 15 in that second stays, one that is 15 before goes.
        calls = reach(4, 4) + seconds(19) + [frame(1, data(EVERYONE, 0xA)), SECOND, frame(1, data(EVERYONE, 0xB))]
        self.check_find(calls + seconds(14), {0xA: 0, 0xB: 1})
        self.check_find(calls + seconds(15), {0xA: 0, 0xB: 1})
        self.check_find(calls + seconds(299), {0xA: 0, 0xB: 1})
        self.check_find(calls + seconds(300), {0xA: 0, 0xB: 0})
