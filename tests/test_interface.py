"""The interface: how calls are handed in and answers given back."""

import copy
import unittest

import treebridge.bridge
from tests.helper import GREATER, LESS, OWN_ADDRESS, OWN_ID, begin, changed, frame, off, on, said, told

ROUND = [begin(n=3), on(1), on(2), frame(1, said(LESS, 5, LESS, 1)), off(4), frame(2, changed()), begin(7, 0),
         off(1), frame(3, []), begin(3, 1), on(1), frame(1, said(GREATER, 0, GREATER, 1))]


def flat_round():
    return sum(ROUND, [])


class Form(unittest.TestCase):
    def test_each_answer_has_its_length_before_it(self):
        own_bytes = told(LESS, 15, 2, age=1)[1]
        calls = begin(n=2) + on(1) + on(2) + on(3) + frame(1, said(LESS, 5, LESS, 1))
        self.assertEqual(treebridge.bridge.answers(calls),
                         [1, 0, 1, 0, 1, 0, 1, -1, 55, 1, 2, 52] + own_bytes)
        self.assertEqual(len(own_bytes), 52)

    def test_several_frames_in_one_answer(self):
        calls = begin() + on(1) + on(2) + on(3) + frame(1, said(LESS, 5, LESS, 1))
        one, two = told(LESS, 15, 2, age=1)[1], told(LESS, 15, 3, age=1)[1]
        self.assertEqual(treebridge.bridge.answers(calls)[8:], [109, 2, 2, 52] + one + [3, 52] + two)

    def test_no_frame(self):
        self.assertEqual(treebridge.bridge.answers(begin() + frame(1, []) + off(1)), [1, 0, 1, 0, 1, 0])

    def test_frames_of_a_call_are_not_answered_again(self):
        calls = begin() + on(1) + frame(1, said(GREATER, 0, GREATER, 1)) + off(2)
        self.assertEqual(treebridge.bridge.answers(calls)[-2:], [1, 0])

    def test_numbers_of_calls_within_frames_are_no_calls(self):
        for bytes_ in ([0], [0, 1, 1], [2, 1], [3] * 20):
            with self.subTest(bytes=bytes_):
                self.assertEqual(treebridge.bridge.answers(begin() + frame(1, bytes_) + on(9)), [1, 0, 1, 0, 1, -1])

    def test_a_list_of_plain_whole_numbers(self):
        given = treebridge.bridge.answers(flat_round())
        self.assertIs(type(given), list)
        self.assertEqual({type(number) for number in given}, {int})

    def test_the_most_calls(self):
        calls = begin(n=16) + on(1) * 999
        self.assertEqual(treebridge.bridge.answers(calls), [1, 0] * 1000)

    def test_the_longest_list(self):
        calls = begin(n=16) + on(1) + frame(1, [1] * 2048) * 7
        calls += frame(1, [1] * (16000 - len(calls) - 3))
        self.assertEqual(len(calls), 16000)
        self.assertEqual(treebridge.bridge.answers(calls), [1, 0] * 10)

    def test_the_address_is_the_ids_lower_part(self):
        self.assertEqual(OWN_ID % 2 ** 48, OWN_ADDRESS)


class NothingIsChanged(unittest.TestCase):
    def test_the_list_handed_in_stays(self):
        calls = flat_round()
        before = copy.deepcopy(calls)
        given = treebridge.bridge.answers(calls)
        self.assertEqual(calls, before)
        given.append(5)
        given[0] = 9
        self.assertEqual(calls, before)

    def test_it_is_not_changed_for_a_while_either(self):
        class Watched(list):
            def refuse(self, *arguments):
                raise AssertionError("the list that is handed in is changed")

            append = extend = insert = pop = remove = reverse = sort = clear = refuse
            __setitem__ = __delitem__ = __iadd__ = __imul__ = refuse

        self.assertEqual(treebridge.bridge.answers(Watched(flat_round())), treebridge.bridge.answers(flat_round()))


class NothingIsKept(unittest.TestCase):
    def test_the_same_list_gives_the_same(self):
        first = treebridge.bridge.answers(flat_round())
        self.assertEqual(treebridge.bridge.answers(flat_round()), first)

    def test_another_list_between(self):
        calls = flat_round()
        first = treebridge.bridge.answers(calls)
        treebridge.bridge.answers(begin(1, 16) + on(1) + on(2) + frame(1, changed()))
        self.assertEqual(treebridge.bridge.answers(calls), first)
        self.assertEqual(treebridge.bridge.answers(calls), first)
