"""The interface: how calls stand in the list, and what the list of answers looks like."""

import unittest

from helper import (
    AnswersTest, BLOCKS, KEY, KEY_ANSWER, MARK, MARK_KEY, MARK_ROW, NOT_OPENED, ONCE, REFUSAL, ZERO_BLOCKS, ZERO_KEY,
    ZERO_ONCE, answered, block_call, data_row, drops_call, key_call, mark_call, open_call, opened, seal_call,
    sealed_row, seen_row, stream_call,
)
from sealedrows.seals import UnknownCall, answers

MIXED = (
    key_call(KEY) + stream_call(1, 3, ONCE, [0, 0, 0]) + mark_call(34, MARK_KEY, MARK_ROW) + block_call(2, ONCE)
    + stream_call(0, 65537, ONCE, []) + key_call(ZERO_KEY) + block_call(0, ZERO_ONCE)
    + stream_call(7, 0, ZERO_ONCE, []) + mark_call(0, MARK_KEY, [])
    + open_call(17, 65, ONCE, seen_row(17), sealed_row(17, 65)) + drops_call(2, ZERO_ONCE * 2, [1, 0])
    + key_call(KEY) + seal_call(17, 65, ONCE, seen_row(17), data_row(65))
    + open_call(17, 65, ONCE, seen_row(17), sealed_row(17, 65)) + seal_call(65537, 1, ONCE, [], [9])
    + drops_call(0, [], []) + open_call(1, 0, ONCE, seen_row(1), sealed_row(1, 0))
    + open_call(0, 65537, ONCE, [], []) + drops_call(3, ONCE * 3, [3, 0, 3])
)
MIXED_ANSWER = (
    KEY_ANSWER + answered(BLOCKS[1][:3]) + answered(MARK) + answered(BLOCKS[2])
    + REFUSAL + KEY_ANSWER + answered(ZERO_BLOCKS[0])
    + [1, 0] + answered(MARK_KEY[16:])
    + NOT_OPENED + answered(ZERO_BLOCKS[1] + ZERO_BLOCKS[0])
    + KEY_ANSWER + answered(sealed_row(17, 65))
    + opened(data_row(65)) + REFUSAL
    + REFUSAL + [1, 1]
    + REFUSAL + answered(BLOCKS[3] + BLOCKS[0] + BLOCKS[3])
)


class Unchangeable(list):
    """A list that refuses to be changed, even for a while."""

    def refuse(self, *given, **named):
        raise AssertionError("what is handed in was changed")

    append = extend = insert = pop = remove = clear = sort = reverse = refuse
    __setitem__ = __delitem__ = __iadd__ = __imul__ = refuse


class InterfaceTest(AnswersTest):
    def test_written_out_by_hand(self):
        calls = [0, 32] + KEY + [2, 1, 2, 12] + ONCE + [2, 0, 255]
        self.assert_same(answers(calls), [1, 0, 3, 0, 0x10, 0xf1 ^ 255])

    def test_seal_open_and_drops_written_out_by_hand(self):
        calls = [0, 32] + KEY + [4, 1, 1, 12] + ONCE + [1, 201, 1, 5]
        calls += [5, 1, 1, 12] + ONCE + [1, 201, 17, 0x15] + sealed_row(1, 1)[1:]
        calls += [6, 2, 24] + ONCE + ONCE + [2, 1, 2]
        expected = [1, 0, 18, 0, 0x15] + sealed_row(1, 1)[1:] + [2, 1, 5] + [129, 0] + BLOCKS[1] + BLOCKS[2]
        self.assert_same(answers(calls), expected)

    def test_calls_of_different_kinds_in_order(self):
        self.assert_same(answers(MIXED), MIXED_ANSWER)

    def test_list_is_the_same_afterwards(self):
        calls = list(MIXED)
        answers(calls)
        self.assert_same(calls, MIXED)

    def test_list_is_not_changed_for_a_while_either(self):
        self.assert_same(answers(Unchangeable(MIXED)), MIXED_ANSWER)

    def test_same_list_twice_answers_the_same(self):
        self.assert_same(answers(MIXED), answers(MIXED))

    def test_nothing_is_kept_from_one_time_to_the_next(self):
        answers(key_call(ZERO_KEY) + block_call(5, ZERO_ONCE))
        self.assert_same(answers(key_call(KEY) + block_call(1, ONCE)), KEY_ANSWER + answered(BLOCKS[1]))

    def test_changing_an_answer_changes_no_later_one(self):
        answers(MIXED).clear()
        self.assert_same(answers(MIXED), MIXED_ANSWER)

    def test_plain_list_of_whole_numbers(self):
        answer = answers(MIXED)
        self.assertIs(type(answer), list)
        self.assertEqual({type(number) for number in answer}, {int})

    def test_400_calls_of_all_kinds(self):
        eight = (
            key_call(KEY) + block_call(1, ONCE) + stream_call(2, 1, ONCE, [0]) + mark_call(34, MARK_KEY, MARK_ROW)
            + seal_call(1, 15, ONCE, seen_row(1), data_row(15)) + open_call(1, 15, ONCE, seen_row(1), sealed_row(1, 15))
            + open_call(1, 0, ONCE, seen_row(1), sealed_row(0, 0)) + drops_call(2, ONCE * 2, [3, 0])
        )
        expected = (
            KEY_ANSWER + answered(BLOCKS[1]) + answered(BLOCKS[2][:1]) + answered(MARK)
            + answered(sealed_row(1, 15)) + opened(data_row(15)) + NOT_OPENED + answered(BLOCKS[3] + BLOCKS[0])
        )
        self.assertLessEqual(len(eight * 50), 30000)
        self.assert_same(answers(eight * 50), expected * 50)

    def test_400_calls_of_each_kind(self):
        kinds = (
            (key_call(KEY), KEY_ANSWER),
            (block_call(1, ONCE), answered(BLOCKS[1])),
            (stream_call(2, 1, ONCE, [0]), answered(BLOCKS[2][:1])),
            (mark_call(34, MARK_KEY, MARK_ROW), answered(MARK)),
            (seal_call(1, 15, ONCE, seen_row(1), data_row(15)), answered(sealed_row(1, 15))),
            (open_call(1, 15, ONCE, seen_row(1), sealed_row(1, 15)), opened(data_row(15))),
            (drops_call(1, ONCE, [3]), answered(BLOCKS[3])),
        )
        for call, answer in kinds:
            with self.subTest(call=call[0]):
                self.assert_same(answers(key_call(KEY) + call * 399), KEY_ANSWER + answer * 399)

    def test_close_to_30000_numbers(self):
        filling = 30000 - len(MIXED) - len(stream_call(0, 0, ONCE, []))
        calls = MIXED + stream_call(0, filling, ONCE, [0] * filling)
        self.assertEqual(len(calls), 30000)
        answer = answers(calls)
        expected = MIXED_ANSWER + [filling + 1, 0] + BLOCKS[0] + BLOCKS[1] + BLOCKS[2] + BLOCKS[3]
        self.assert_same(answer[:len(expected)], expected)
        self.assertEqual(len(answer), len(MIXED_ANSWER) + filling + 2)

    def test_long_message_sealed_and_opened_in_one_list(self):
        n = 14000
        sealed = answers(key_call(KEY) + seal_call(n, n, ONCE, seen_row(n), data_row(n)))[4:]
        calls = key_call(KEY) + open_call(n, n, ONCE, seen_row(n), sealed) + drops_call(1, ONCE, [0])
        self.assert_same(answers(calls), KEY_ANSWER + opened(data_row(n)) + answered(BLOCKS[0]))

    def test_as_many_drops_as_the_list_holds(self):
        call = drops_call(16, ONCE * 16, [0, 1, 2, 3] * 4)
        many = (30000 - len(key_call(KEY))) // len(call)
        blocks = (BLOCKS[0] + BLOCKS[1] + BLOCKS[2] + BLOCKS[3]) * 4
        self.assert_same(answers(key_call(KEY) + call * many), KEY_ANSWER + answered(blocks) * many)

    def test_a_number_of_no_call_fails(self):
        with self.assertRaises(UnknownCall):
            answers(key_call(KEY) + [7, 0])


if __name__ == "__main__":
    unittest.main()
