"""Promise 5, br_second: the timers of the bridge (telling, asking, changing) and the ports' ages."""

from tests.helper import (
    GREATER, LEAST, LESS, OWN_ID, ROOT, SECOND, BridgeCase, asked, begin, changed, frame, off, on, port, said, seconds,
    told)

WAY = said(LESS, 5, LESS, 1)
LONG_WAY = said(LESS, 5, LESS, 1, oldest=200)
WORSE = said(GREATER, 0, GREATER, 1)


class Telling(BridgeCase):
    def test_the_root_tells_each_second_second(self):
        tells = [told(OWN_ID, 0, 1), told(OWN_ID, 0, 2)]
        self.check_sent([begin(), on(2), on(1)] + seconds(6), [[], tells, [], tells, [], tells])

    def test_it_runs_from_the_beginning_on(self):
        self.check_sent([begin(), SECOND, on(1), SECOND], [[], [told(OWN_ID, 0, 1)]])

    def test_nothing_is_told_without_a_port_that_is_on(self):
        self.check_sent([begin()] + seconds(4), [[]] * 4)
        self.check_sent([begin(), on(1), off(1)] + seconds(4), [[]] * 4)

    def test_ports_that_are_not_led_do_not_tell(self):
        calls = [begin(), on(1), on(2), on(3), frame(2, said(OWN_ID, 0, OWN_ID, 32769))]
        self.check_last(calls + seconds(2), [told(OWN_ID, 0, 1), told(OWN_ID, 0, 3)])

    def test_a_later_beginning(self):
        calls = [begin(), on(1), SECOND, begin(), on(1)] + seconds(2)
        self.check_sent(calls, [[], [told(OWN_ID, 0, 1)]])

    def test_one_that_is_not_the_root_does_not_tell_by_itself(self):
        for between in (0, 1, 2, 3):
            with self.subTest(between=between):
                way = said(LESS, 5, LESS, 1, between=between)
                calls = [begin(), on(1), on(2), frame(1, way)] + seconds(12)
                self.check_sent(calls, [[]] * 12)

    def test_it_stops_with_being_the_root(self):
        self.check_sent([begin(), on(1), on(2), SECOND, frame(1, WAY), SECOND, SECOND], [[], []])

    def test_it_runs_from_0_when_the_bridge_has_become_the_root(self):
        tells = [told(OWN_ID, 0, 2, byte=1)]
        calls = [begin(), on(1), frame(1, WAY), on(2)] + seconds(3) + [off(1)] + seconds(4)
        self.check_sent(calls, [tells, [], tells, [], tells])

    def test_it_stays_stopped_when_its_own_words_make_it_the_root(self):
        calls = [begin(), on(1), frame(1, WAY), frame(1, said(LEAST, 0, OWN_ID, 32769))]
        self.check_root(calls, OWN_ID, 0, 0)
        self.check_sent(calls + seconds(4), [[]] * 4)

    def test_the_times_between_of_0_and_1_are_gone_with_the_root(self):
        for between in (0, 1):
            with self.subTest(between=between):
                way = said(LESS, 5, LESS, 1, between=between)
                tells = [told(OWN_ID, 0, 2, byte=1)]
                calls = [begin(), on(1), frame(1, way), on(2), off(1)] + seconds(4)
                self.check_sent(calls, [tells, [], tells, [], tells])


class Asking(BridgeCase):
    calls = [begin(), on(1), frame(1, LONG_WAY), on(2), frame(2, changed())]

    def test_each_second_second(self):
        ask = [asked(1)]
        known = told(LESS, 15, 2, age=1, oldest=200, byte=128)
        self.check_sent(self.calls + seconds(6), [[asked(1), known], [], ask, [], ask, [], ask])

    def test_it_stops_when_the_change_is_called_known(self):
        known = said(LESS, 5, LESS, 1, oldest=200, byte=128)
        calls = self.calls + seconds(3) + [frame(1, known)] + seconds(4)
        self.check_sent(calls, [[told(LESS, 15, 2, age=1, oldest=200)], [], [], [], []])

    def test_it_does_not_stop_by_another_message(self):
        calls = self.calls + [SECOND, frame(1, LONG_WAY)] + seconds(3)
        self.check_sent(calls, [[told(LESS, 15, 2, age=1, oldest=200)], [asked(1)], [], [asked(1)]])

    def test_it_goes_by_the_root_port_that_there_is_then(self):
        calls = self.calls + [on(3), frame(3, said(LEAST, 0, LEAST, 1, oldest=200))] + seconds(2)
        # Port 2 had told ahead of that: what it tells of the new root was noted.
        self.check_sent(calls, [[told(LEAST, 10, 2, age=2, oldest=200)], [asked(3)]])

    def test_it_stops_when_the_bridge_has_become_the_root(self):
        calls = self.calls + [off(1)] + seconds(4)
        tells = [told(OWN_ID, 0, 2, byte=1)]
        # Port 2 has just told: it's noted first.
        self.check_sent(calls, [[], tells, tells, [], tells])

    def test_it_begins_when_a_root_that_found_a_change_is_none_any_more(self):
        calls = [begin(), on(1), on(2), frame(2, changed()), SECOND, frame(1, LONG_WAY)] + seconds(4)
        tells = told(LESS, 15, 2, age=1, oldest=200)
        self.check_sent(calls, [[asked(1), tells], [], [asked(1)], [], [asked(1)]])

    def test_without_a_change_nothing_is_asked(self):
        self.check_sent([begin(), on(1), frame(1, LONG_WAY), on(2)] + seconds(8), [[]] * 8)

    def test_the_root_port_as_its_number_is(self):
        # The bridge's own words make it the root, and nothing of becoming it is done: asking goes on, by port 0.
        calls = self.calls + [SECOND, frame(1, said(LEAST, 0, OWN_ID, 32769))]
        self.check_root(calls, OWN_ID, 0, 0)
        self.check_sent(calls + seconds(4), [[asked(0)], [], [asked(0)], []])
        self.check_answers(calls + [SECOND], [[1, 0, 21] + changed(sender=OWN_ID % 2 ** 48)])


class Changing(BridgeCase):
    """Port 1 goes off and on again, so that it doesn't forward meanwhile: that would be another change."""

    found = [begin(), on(1), frame(1, changed()), off(1)]

    def test_34_and_35_seconds(self):
        # A change that was found is asked for once the bridge is no longer the root.
        self.check_last(self.found + seconds(34) + [on(1), frame(1, WAY)], [asked(1)])
        self.check_last(self.found + seconds(35) + [on(1), frame(1, WAY)], [])

    def test_there_is_none_any_more(self):
        before, after = [told(OWN_ID, 0, 1, byte=1)], [told(OWN_ID, 0, 1)]
        calls = self.found + seconds(30) + [on(1)] + seconds(8)
        self.check_sent(calls, [[], before, [], before, [], after, [], after])

    def test_telling_goes_ahead_of_it(self):
        # Found at second 1, it's over at second 36: told of once more, in that very second.
        before, after = [told(OWN_ID, 0, 1, byte=1)], [told(OWN_ID, 0, 1)]
        calls = [begin(), on(1), SECOND, frame(1, changed()), off(1)] + seconds(29) + [on(1)] + seconds(8)
        self.check_sent(calls, [[], before, [], before, [], before, [], after])

    def test_it_runs_from_0_with_each_change(self):
        calls = self.found + seconds(20) + [on(1), frame(1, changed()), off(1)]
        self.check_last(calls + seconds(34) + [on(1), frame(1, WAY)], [asked(1)])
        self.check_last(calls + seconds(35) + [on(1), frame(1, WAY)], [])

    def test_once_over_it_does_not_run(self):
        # Else what the next root tells of, and what's found then, would be gone with each second.
        way = said(LESS, 5, LESS, 1, oldest=200, byte=1)
        calls = self.found + seconds(35) + [on(1), frame(1, way), on(2), frame(2, changed())]
        self.check_last(calls, [asked(1), told(LESS, 15, 2, age=1, oldest=200, byte=129)])
        self.check_last(calls + [SECOND, frame(2, changed())], [told(LESS, 15, 2, age=2, oldest=200, byte=129)])

    def test_a_change_that_the_root_tells_of_lasts_as_long_as_it_says(self):
        way = said(LESS, 5, LESS, 1, oldest=200, wait=200, byte=1)
        calls = [begin(), on(1), frame(1, way)] + seconds(40) + [on(2), frame(2, WORSE)]
        self.check_last(calls, [told(LESS, 15, 2, age=41, oldest=200, wait=200, byte=1)])

    def test_it_stops_with_being_the_root(self):
        # Else the change would be no longer found at 35, and asked for again.
        way = said(LESS, 5, LESS, 1, oldest=200, wait=200)
        calls = [begin(), on(1), frame(1, changed()), SECOND, frame(1, way)] + seconds(36)
        self.check_sent(calls, [[], [asked(1)]])
        self.check_last(calls + [on(2), frame(2, changed())],
                        [told(LESS, 15, 2, age=37, oldest=200, wait=200, byte=128)])


class AnAgeOnTheRootPort(BridgeCase):
    def test_it_has_become_the_root(self):
        calls = [begin(), on(1), on(2), frame(1, WAY)]
        self.check_root(calls + seconds(19), LESS, 15, 1)
        self.check_root(calls + seconds(20), OWN_ID, 0, 0)
        tells = [told(OWN_ID, 0, 1, byte=1), told(OWN_ID, 0, 2, byte=1)]
        # Telling runs from 0 then.
        self.check_sent(calls + seconds(24), [[], tells, [], tells, [], tells])
        self.check_answers(calls + seconds(20) + [port(1), port(2)],
                           [[0, 3, OWN_ID, 0, OWN_ID, 32769], [0, 3, OWN_ID, 0, OWN_ID, 32770]])

    def test_the_messages_age_counts(self):
        for age in (0, 1, 18, 19):
            with self.subTest(age=age):
                calls = [begin(), on(1), frame(1, said(LESS, 5, LESS, 1, age=age))]
                self.check_root(calls + seconds(19 - age), LESS, 15, 1)
                self.check_root(calls + seconds(20 - age), OWN_ID, 0, 0)

    def test_how_old_things_may_be_is_the_messages(self):
        for oldest in (1, 2, 6, 19, 21, 255):
            with self.subTest(oldest=oldest):
                calls = [begin(), on(1), frame(1, said(LESS, 5, LESS, 1, oldest=oldest))]
                self.check_root(calls + seconds(oldest - 1), LESS, 15, 1)
                self.check_root(calls + seconds(oldest), OWN_ID, 0, 0)

    def test_how_old_things_may_be_of_0_and_1(self):
        # Of 0 it's no message; of 1 it holds till the next second.
        calls = [begin(), on(1), on(2), frame(1, said(LESS, 5, LESS, 1, oldest=0))]
        self.check_root(calls, OWN_ID, 0, 0)
        calls = [begin(), on(1), on(2), frame(1, said(LESS, 5, LESS, 1, oldest=1))]
        self.check_root(calls, LESS, 15, 1)
        self.check_sent(calls + [SECOND], [[], [told(OWN_ID, 0, 1, byte=1), told(OWN_ID, 0, 2, byte=1)]])

    def test_parts_of_a_second_do_not_count(self):
        calls = [begin(), on(1), frame(1, said(LESS, 5, LESS, 1, age=(2, 255), oldest=(6, 255)))]
        self.check_root(calls + seconds(3), LESS, 15, 1)
        self.check_root(calls + seconds(4), OWN_ID, 0, 0)

    def test_another_message_makes_it_young_again(self):
        calls = [begin(), on(1), frame(1, WAY)] + seconds(19) + [frame(1, WAY)]
        self.check_root(calls + seconds(19), LESS, 15, 1)
        self.check_root(calls + seconds(20), OWN_ID, 0, 0)

    def test_what_is_not_better_does_not_make_it_young(self):
        calls = [begin(), on(1), frame(1, WAY)] + seconds(19) + [frame(1, said(LESS, 6, LESS, 1))]
        self.check_root(calls + [SECOND], OWN_ID, 0, 0)

    def test_the_age_that_is_told_grows(self):
        calls = [begin(), on(1), frame(1, said(LESS, 5, LESS, 1, age=3)), on(2)] + seconds(4) + [frame(2, WORSE)]
        self.check_last(calls, [told(LESS, 15, 2, age=8)])

    def test_the_times_that_hold_are_the_first_ones_again(self):
        way = said(LESS, 5, LESS, 1, oldest=6, between=4, wait=30)
        calls = [begin(), on(1), on(2), frame(1, way)] + seconds(6)
        self.check_last(calls, [told(OWN_ID, 0, 1, byte=1), told(OWN_ID, 0, 2, byte=1)])

    def test_asking_stops(self):
        # By 21 seconds it would be asked again.
        calls = [begin(), on(1), on(2), frame(1, WAY), SECOND, frame(2, changed())] + seconds(19)
        tells = [told(OWN_ID, 0, 1, byte=1), told(OWN_ID, 0, 2, byte=1)]
        self.check_sent(calls + seconds(3), [tells, [], tells, []])

    def test_another_root_port_is_chosen(self):
        calls = [begin(), on(1), on(2), on(3), frame(1, said(LEAST, 5, LEAST, 1)), SECOND,
                 frame(2, said(LEAST, 6, LESS, 7, age=1, wait=4))]
        self.check_root(calls + seconds(18), LEAST, 15, 1)
        self.check_states(calls + seconds(18), 3, 1, 3)
        # 19 seconds later both are of age 20: first port 1, then port 2.
        self.check_root(calls + seconds(19), OWN_ID, 0, 0)
        calls[-1] = frame(2, said(LEAST, 6, LESS, 7, wait=4))
        calls += seconds(19)
        self.check_sent(calls, [[]])
        self.check_answers(calls + [ROOT, port(1), port(2), port(3)], [
            [0, LEAST, 16, 2], [0, 3, LEAST, 16, OWN_ID, 32769], [0, 2, LEAST, 6, LESS, 7],
            [0, 3, LEAST, 16, OWN_ID, 32771]])
        # The times that held go on to hold; a second later port 2's age is out, too.
        self.check_root(calls + [SECOND], OWN_ID, 0, 0)
        tells = [told(OWN_ID, 0, place, byte=1) for place in (1, 2, 3)]
        self.check_sent(calls + seconds(3), [tells, [], tells])

    def test_the_next_root_is_another(self):
        # Port 2's way to LESS doesn't stay known beside LEAST: the port is led, and heard of again it's answered.
        calls = [begin(), on(1), on(2), frame(2, WAY), frame(1, said(LEAST, 5, LEAST, 1))]
        self.check_answers(calls + [port(2)], [[0, 2, LEAST, 15, OWN_ID, 32770]])
        self.check_root(calls + seconds(20), OWN_ID, 0, 0)

    def test_two_in_one_second_become_the_root_once(self):
        calls = [begin(), on(1), on(2), on(3), frame(1, said(LEAST, 5, LEAST, 1)),
                 frame(2, said(LEAST, 6, LESS, 7))] + seconds(20)
        self.check_last(calls, [told(OWN_ID, 0, place, byte=1) for place in (1, 2, 3)])
        self.check_sent(calls + seconds(2), [[], [told(OWN_ID, 0, place, byte=1) for place in (1, 2, 3)]])

    def test_two_in_one_second_of_which_the_root_port_is_the_later(self):
        calls = [begin(), on(1), on(2), on(3), frame(2, said(LEAST, 5, LEAST, 1)),
                 frame(1, said(LEAST, 6, LESS, 7))] + seconds(20)
        self.check_last(calls, [told(OWN_ID, 0, place, byte=1) for place in (1, 2, 3)])


class AnAgeOnABlockedPort(BridgeCase):
    calls = [begin(), on(1), on(2), on(3), frame(1, said(LEAST, 5, LEAST, 1, oldest=30)),
             frame(2, said(LEAST, 6, LESS, 7, age=2, oldest=5))]

    def test_it_is_led_and_listens(self):
        # How old things may be is what the root port's message says.
        self.check_answers(self.calls + seconds(27) + [port(2)], [[0, 1, LEAST, 6, LESS, 7]])
        self.check_answers(self.calls + seconds(28) + [port(2)], [[0, 2, LEAST, 15, OWN_ID, 32770]])

    def test_the_root_stays(self):
        self.check_root(self.calls + seconds(28), LEAST, 15, 1)
        self.check_last(self.calls + seconds(28), [])

    def test_its_wait_counts_in_the_same_second(self):
        # Ages go ahead of waits: listening from second 28 on, it learns at 42, not at 43.
        calls = self.calls + seconds(20) + [frame(1, said(LEAST, 5, LEAST, 1, oldest=30))]
        self.check_states(calls + seconds(21), 4, 2, 4)
        self.check_states(calls + seconds(22), 4, 3, 4)

    def test_a_message_keeps_it_blocked(self):
        calls = self.calls + seconds(27) + [frame(1, said(LEAST, 5, LEAST, 1, oldest=30)),
                                            frame(2, said(LEAST, 6, LESS, 7, age=2, oldest=5))]
        self.check_answers(calls + seconds(27) + [port(2)], [[0, 1, LEAST, 6, LESS, 7]])
        self.check_answers(calls + seconds(28) + [port(2)], [[0, 2, LEAST, 15, OWN_ID, 32770]])

    def test_by_the_bridges_own_words(self):
        # The bridge is the root all the time: it doesn't become it.
        calls = [begin(), on(1), on(2), frame(2, said(OWN_ID, 0, OWN_ID, 32769))]
        self.check_states(calls + seconds(19), 3, 1)
        self.check_states(calls + seconds(20), 3, 2)
        self.check_last(calls + seconds(20), [told(OWN_ID, 0, 1)])
        self.check_last(calls + seconds(22), [told(OWN_ID, 0, 1), told(OWN_ID, 0, 2)])

    def test_ports_that_are_led_or_off_do_not_age(self):
        calls = [begin(), on(1), on(2), frame(2, WAY), off(2)]
        self.check_answers(calls + seconds(25) + [ROOT, port(1), port(2)], [
            [0, OWN_ID, 0, 0], [0, 3, OWN_ID, 0, OWN_ID, 32769], [0, 0, OWN_ID, 0, OWN_ID, 32770]])
