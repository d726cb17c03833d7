"""Ahead of the points: -2 where n is above 65536."""

import unittest

from helper import (
    AnswersTest, BLOCKS, KEY, KEY_ANSWER, MARK, MARK_KEY, MARK_ROW, ONCE, REFUSAL, ZERO_BLOCKS, ZERO_KEY, ZERO_ONCE,
    answered, block_call, key_call, mark_call, stream_call,
)
from sealedrows.seals import answers

TOO_MANY = (65537, 65538, 4294967295)


class RefusalTest(AnswersTest):
    def test_stream_is_refused(self):
        for n in TOO_MANY:
            with self.subTest(n=n):
                self.assert_same(answers(key_call(KEY) + stream_call(1, n, ONCE, [])), [1, 0, 1, -2])

    def test_mark_is_refused(self):
        for n in TOO_MANY:
            with self.subTest(n=n):
                self.assert_same(answers(key_call(KEY) + mark_call(n, MARK_KEY, [])), [1, 0, 1, -2])

    def test_a_large_counter_is_no_reason(self):
        for counter in (65536, 65537, 4294967295):
            with self.subTest(counter=counter):
                calls = key_call(KEY) + stream_call(counter, 0, ONCE, []) + block_call(counter, ONCE)
                self.assert_same(answers(calls)[:6], KEY_ANSWER + [1, 0] + [65, 0])

    def test_stream_of_29000_is_answered(self):
        answer = answers(key_call(KEY) + stream_call(0, 29000, ONCE, [0] * 29000))
        self.assertEqual(len(answer), 2 + 1 + 29001)
        self.assert_same(answer[:4], KEY_ANSWER + [29001, 0])
        self.assert_same(answer[4:260], BLOCKS[0] + BLOCKS[1] + BLOCKS[2] + BLOCKS[3])

    def test_mark_of_29000_is_answered(self):
        answer = answers(key_call(KEY) + mark_call(29000, MARK_KEY, [0] * 29000))
        self.assert_same(answer[:4], KEY_ANSWER + [17, 0])
        self.assertEqual(len(answer), 2 + 1 + 17)

    def test_65536_itself_is_answered(self):
        # Longer than the interface hands in, but it is the bound that the document names.
        calls = key_call(KEY) + stream_call(0, 65536, ONCE, [0] * 65536) + mark_call(65536, MARK_KEY, [0] * 65536)
        answer = answers(calls)
        self.assert_same(answer[:4], KEY_ANSWER + [65537, 0])
        self.assert_same(answer[4:68], BLOCKS[0])
        self.assert_same(answer[4 + 65536:4 + 65536 + 2], [17, 0])

    def test_calls_behind_a_refusal_are_answered_as_if_it_had_not_been(self):
        refused = stream_call(1, 65537, ZERO_ONCE, []) + mark_call(4294967295, ZERO_KEY, [])
        others = block_call(1, ONCE) + stream_call(2, 64, ONCE, [0] * 64) + mark_call(34, MARK_KEY, MARK_ROW)
        others_answer = answered(BLOCKS[1]) + answered(BLOCKS[2]) + answered(MARK)
        self.assert_same(answers(key_call(KEY) + refused + others), KEY_ANSWER + REFUSAL * 2 + others_answer)
        self.assert_same(answers(key_call(KEY) + others), KEY_ANSWER + others_answer)

    def test_refusals_between_calls(self):
        calls = (
            key_call(KEY) + mark_call(65537, MARK_KEY, []) + block_call(0, ONCE)
            + stream_call(0, 4294967295, ONCE, []) + key_call(ZERO_KEY)
            + stream_call(0, 65537, ONCE, []) + block_call(1, ZERO_ONCE)
        )
        expected = (
            KEY_ANSWER + REFUSAL + answered(BLOCKS[0]) + REFUSAL + KEY_ANSWER + REFUSAL + answered(ZERO_BLOCKS[1])
        )
        self.assert_same(answers(calls), expected)


if __name__ == "__main__":
    unittest.main()
