"""Point 1: ae_key, the key from now on."""

import unittest

from helper import (
    AnswersTest, BLOCKS, KEY, KEY_ANSWER, MARK, MARK_KEY, MARK_ROW, ONCE, ZERO_BLOCKS, ZERO_KEY, ZERO_ONCE,
    answered, block_call, combined, data_row, drops_call, key_call, mark_call, open_call, opened, seal_call,
    sealed_row, seen_row, stream_call,
)
from sealedrows.seals import answers


class KeyTest(AnswersTest):
    def test_answers_0_alone(self):
        self.assert_same(answers(key_call(KEY)), [1, 0])

    def test_answers_0_alone_each_time(self):
        self.assert_same(answers(key_call(KEY) + key_call(ZERO_KEY) + key_call(KEY)), [1, 0, 1, 0, 1, 0])

    def test_counts_for_all_calls_behind_it(self):
        calls = (
            key_call(KEY) + block_call(1, ONCE) + block_call(2, ONCE) + stream_call(3, 64, ONCE, [0] * 64)
            + seal_call(1, 17, ONCE, seen_row(1), data_row(17)) + open_call(1, 17, ONCE, seen_row(1), sealed_row(1, 17))
            + drops_call(1, ONCE, [0])
        )
        expected = (
            KEY_ANSWER + answered(BLOCKS[1]) + answered(BLOCKS[2]) + answered(BLOCKS[3])
            + answered(sealed_row(1, 17)) + opened(data_row(17))
            + answered(BLOCKS[0])
        )
        self.assert_same(answers(calls), expected)

    def test_second_key_takes_the_place_of_the_first(self):
        calls = (
            key_call(KEY) + block_call(1, ONCE)
            + key_call(ZERO_KEY) + block_call(1, ZERO_ONCE) + stream_call(0, 64, ZERO_ONCE, [255] * 64)
        )
        expected = (
            KEY_ANSWER + answered(BLOCKS[1])
            + KEY_ANSWER + answered(ZERO_BLOCKS[1]) + answered(combined([255] * 64, ZERO_BLOCKS[0]))
        )
        self.assert_same(answers(calls), expected)

    def test_second_key_straight_behind_the_first(self):
        calls = key_call(ZERO_KEY) + key_call(KEY) + block_call(1, ONCE)
        self.assert_same(answers(calls), KEY_ANSWER + KEY_ANSWER + answered(BLOCKS[1]))

    def test_first_key_may_come_back(self):
        calls = key_call(KEY) + key_call(ZERO_KEY) + key_call(KEY) + block_call(1, ONCE)
        self.assert_same(answers(calls), KEY_ANSWER * 3 + answered(BLOCKS[1]))

    def test_key_of_ae_mark_is_not_the_key_from_now_on(self):
        calls = key_call(KEY) + mark_call(34, MARK_KEY, MARK_ROW) + block_call(1, ONCE)
        self.assert_same(answers(calls), KEY_ANSWER + answered(MARK) + answered(BLOCKS[1]))


if __name__ == "__main__":
    unittest.main()
