"""The interface: how calls stand in the list, and what the list of answers looks like."""

import unittest

from helper import (
    AnswersTest, BLOCKS, KEY, KEY_ANSWER, MARK, MARK_KEY, MARK_ROW, ONCE, REFUSAL, ZERO_BLOCKS, ZERO_KEY, ZERO_ONCE,
    answered, block_call, key_call, mark_call, stream_call,
)
from sealedrows.seals import UnknownCall, answers

MIXED = (
    key_call(KEY) + stream_call(1, 3, ONCE, [0, 0, 0]) + mark_call(34, MARK_KEY, MARK_ROW) + block_call(2, ONCE)
    + stream_call(0, 65537, ONCE, []) + key_call(ZERO_KEY) + block_call(0, ZERO_ONCE)
    + stream_call(7, 0, ZERO_ONCE, []) + mark_call(0, MARK_KEY, [])
)
MIXED_ANSWER = (
    KEY_ANSWER + answered(BLOCKS[1][:3]) + answered(MARK) + answered(BLOCKS[2])
    + REFUSAL + KEY_ANSWER + answered(ZERO_BLOCKS[0])
    + [1, 0] + answered(MARK_KEY[16:])
)


class Unchangeable(list):
    """A list that refuses to be changed, even for a while."""

    def refuse(self, *given, **named):
        raise AssertionError("what is handed in was changed")

    append = extend = insert = pop = remove = clear = sort = reverse = refuse
    __setitem__ = __delitem__ = __iadd__ = __imul__ = refuse


class InterfaceTest(AnswersTest):
    def test_written_out_by_hand(self):
        calls = [0, 32] + KEY + [2, 1, 2, 12] + ONCE + [2, 0, 255]
        self.assert_same(answers(calls), [1, 0, 3, 0, 0x10, 0xf1 ^ 255])

    def test_calls_of_different_kinds_in_order(self):
        self.assert_same(answers(MIXED), MIXED_ANSWER)

    def test_list_is_the_same_afterwards(self):
        calls = list(MIXED)
        answers(calls)
        self.assert_same(calls, MIXED)

    def test_list_is_not_changed_for_a_while_either(self):
        self.assert_same(answers(Unchangeable(MIXED)), MIXED_ANSWER)

    def test_same_list_twice_answers_the_same(self):
        self.assert_same(answers(MIXED), answers(MIXED))

    def test_nothing_is_kept_from_one_time_to_the_next(self):
        answers(key_call(ZERO_KEY) + block_call(5, ZERO_ONCE))
        self.assert_same(answers(key_call(KEY) + block_call(1, ONCE)), KEY_ANSWER + answered(BLOCKS[1]))

    def test_changing_an_answer_changes_no_later_one(self):
        answers(MIXED).clear()
        self.assert_same(answers(MIXED), MIXED_ANSWER)

    def test_plain_list_of_whole_numbers(self):
        answer = answers(MIXED)
        self.assertIs(type(answer), list)
        self.assertEqual({type(number) for number in answer}, {int})

    def test_400_calls_of_all_kinds(self):
        four = (
            key_call(KEY) + block_call(1, ONCE) + stream_call(2, 1, ONCE, [0]) + mark_call(34, MARK_KEY, MARK_ROW)
        )
        expected = KEY_ANSWER + answered(BLOCKS[1]) + answered(BLOCKS[2][:1]) + answered(MARK)
        self.assert_same(answers(four * 100), expected * 100)

    def test_a_number_of_no_call_fails(self):
        with self.assertRaises(UnknownCall):
            answers(key_call(KEY) + [7, 0])


if __name__ == "__main__":
    unittest.main()
