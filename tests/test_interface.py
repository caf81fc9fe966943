"""The interface: how calls are handed in and answers given back."""

import copy
import unittest

import treebridge.bridge
from tests.helper import (
    GREATER, LESS, OWN_ADDRESS, OWN_ID, ROOT, SECOND, begin, changed, data, find, frame, off, on, parts, port, said,
    seconds, told)

ROUND = [begin(n=3), on(1), on(2), frame(1, said(LESS, 5, LESS, 1)), off(4), frame(2, changed()), SECOND, port(1),
         begin(7, 0), ROOT, off(1), frame(3, []), *seconds(30), frame(2, data(0xB, 0xA)), find(0xA), port(4),
         begin(3, 1), on(1), frame(1, said(GREATER, 0, GREATER, 1)), SECOND, ROOT, port(1), find(0xA)]


def flat_round():
    return sum(ROUND, [])


class Form(unittest.TestCase):
    def test_each_answer_has_its_length_before_it(self):
        own_bytes = told(LESS, 15, 2, age=1)[1]
        calls = begin(n=2) + on(1) + on(2) + on(3) + frame(1, said(LESS, 5, LESS, 1))
        self.assertEqual(treebridge.bridge.answers(calls),
                         [1, 0, 1, 0, 1, 0, 1, -1, 55, 1, 2, 52] + own_bytes)
        self.assertEqual(len(own_bytes), 52)

    def test_several_frames_in_one_answer(self):
        calls = begin() + on(1) + on(2) + on(3) + frame(1, said(LESS, 5, LESS, 1))
        one, two = told(LESS, 15, 2, age=1)[1], told(LESS, 15, 3, age=1)[1]
        self.assertEqual(treebridge.bridge.answers(calls)[8:], [109, 2, 2, 52] + one + [3, 52] + two)

    def test_all_eight_calls_in_one_list(self):
        tells = told(9, 0, 1, own=9)[1]
        calls = [0, 9, 2, 1, 1, 10, 4, 4, 5, 1, 5, 3, 6, 7, 33, 3, 1, 3, 4, 5, 6, 2, 1, 5, 1, 0, 8, 17, 6, 0, 8, 16, 6]
        self.assertEqual(treebridge.bridge.answers(calls), [
            1, 0,
            1, 0,
            1, 0,
            55, 1, 1, 52] + tells + [
            6, 0, 2, 9, 0, 9, 32769,
            1, -1,
            4, 0, 9, 0, 0,
            1, 0,
            1, 0,
            1, 0,
            6, 0, 0, 9, 0, 9, 32769,
            1, -1,
            4, 0, 9, 0, 0,
            1, 0,
            4, 0, 8, 0, 0])

    def test_each_call_alone_behind_the_first(self):
        for call, answer in (([0, 1, 0], [1, -1]), ([1, 1, 1], [1, 0]), ([2, 2], [1, 0]), ([3, 1, 0], [1, 0]),
                             ([4], [1, 0]), ([5, 0], [1, -1]), ([6], [4, 0, 9, 0, 0]), ([7, 5], [1, 0])):
            with self.subTest(call=call):
                self.assertEqual(treebridge.bridge.answers([0, 9, 2] + call), [1, 0] + answer)
                self.assertEqual(treebridge.bridge.answers([0, 9, 2] + call * 2), [1, 0] + answer * 2)

    def test_a_cost_above_32_bits_and_what_a_message_tells_of_it(self):
        lesser = frame(1, said(LESS, 4294967295, LESS, 1))
        calls = begin(n=2) + on(1, 10) + on(2) + lesser + ROOT + port(2)
        given = parts(treebridge.bridge.answers(calls))
        self.assertEqual(given[3:], [[1, 2, 52] + told(LESS, 9, 2, age=1)[1], [0, LESS, 4294967305, 1],
                                     [0, 2, LESS, 4294967305, OWN_ID, 32770]])

    def test_no_frame(self):
        self.assertEqual(treebridge.bridge.answers(begin() + frame(1, []) + off(1)), [1, 0, 1, 0, 1, 0])

    def test_frames_of_a_call_are_not_answered_again(self):
        calls = begin() + on(1) + frame(1, said(GREATER, 0, GREATER, 1)) + off(2)
        self.assertEqual(treebridge.bridge.answers(calls)[-2:], [1, 0])

    def test_numbers_of_calls_within_frames_are_no_calls(self):
        for bytes_ in ([0], [0, 1, 1], [2, 1], [3] * 20):
            with self.subTest(bytes=bytes_):
                self.assertEqual(treebridge.bridge.answers(begin() + frame(1, bytes_) + on(9)), [1, 0, 1, 0, 1, -1])

    def test_numbers_of_calls_as_what_is_handed_to_a_call_are_no_calls(self):
        for number in range(8):
            with self.subTest(number=number):
                calls = begin(number, 16) + find(number) + port(number) + off(number) + ROOT
                there_is = 0 if number > 0 else -1
                told_of_it = [6, 0, 0, 0, 0, 0, 0] if number > 0 else [1, -1]
                self.assertEqual(treebridge.bridge.answers(calls),
                                 [1, 0, 1, 0] + told_of_it + [1, there_is, 4, 0, number, 0, 0])

    def test_a_list_of_plain_whole_numbers(self):
        given = treebridge.bridge.answers(flat_round())
        self.assertIs(type(given), list)
        self.assertEqual({type(number) for number in given}, {int})

    def test_the_most_calls(self):
        calls = begin(n=16) + on(1) * 999
        self.assertEqual(treebridge.bridge.answers(calls), [1, 0] * 1000)

    def test_the_most_seconds(self):
        # All 16 ports are on, and tell each second second: 491 times.
        calls = begin(n=16) + sum([on(place) for place in range(1, 17)], []) + SECOND * 983
        given = parts(treebridge.bridge.answers(calls))
        self.assertEqual(len(given), 1000)
        self.assertEqual([answer[0] for answer in given[17:]], [0, 16] * 491 + [0])

    def test_the_longest_list(self):
        calls = begin(n=16) + on(1) + frame(1, [1] * 2048) * 7
        calls += frame(1, [1] * (16000 - len(calls) - 3))
        self.assertEqual(len(calls), 16000)
        self.assertEqual(treebridge.bridge.answers(calls), [1, 0] * 10)

    def test_the_address_is_the_ids_lower_part(self):
        self.assertEqual(OWN_ID % 2 ** 48, OWN_ADDRESS)


class NothingIsChanged(unittest.TestCase):
    def test_the_list_handed_in_stays(self):
        calls = flat_round()
        before = copy.deepcopy(calls)
        given = treebridge.bridge.answers(calls)
        self.assertEqual(calls, before)
        given.append(5)
        given[0] = 9
        self.assertEqual(calls, before)

    def test_it_is_not_changed_for_a_while_either(self):
        class Watched(list):
            def refuse(self, *arguments):
                raise AssertionError("the list that is handed in is changed")

            append = extend = insert = pop = remove = reverse = sort = clear = refuse
            __setitem__ = __delitem__ = __iadd__ = __imul__ = refuse

        self.assertEqual(treebridge.bridge.answers(Watched(flat_round())), treebridge.bridge.answers(flat_round()))


class NothingIsKept(unittest.TestCase):
    def test_the_same_list_gives_the_same(self):
        first = treebridge.bridge.answers(flat_round())
        self.assertEqual(treebridge.bridge.answers(flat_round()), first)

    def test_another_list_between(self):
        calls = flat_round()
        first = treebridge.bridge.answers(calls)
        treebridge.bridge.answers(begin(1, 16) + on(1) + on(2) + frame(1, changed()))
        self.assertEqual(treebridge.bridge.answers(calls), first)
        self.assertEqual(treebridge.bridge.answers(calls), first)
