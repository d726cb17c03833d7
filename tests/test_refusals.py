"""Ahead of the points: -2 where n or s is above 65536, and where the n of ae_drops is not 1 to 16."""

import unittest

from helper import (
    AnswersTest, BLOCKS, KEY, KEY_ANSWER, MARK, MARK_KEY, MARK_ROW, ONCE, REFUSAL, ZERO_BLOCKS, ZERO_KEY, ZERO_ONCE,
    answered, block_call, data_row, drops_call, key_call, mark_call, open_call, opened, row, seal_call, sealed_row,
    seen_row, stream_call,
)
from sealedrows.seals import answers

TOO_MANY = (65537, 65538, 4294967295)
FEW = (0, 1, 16, 17)

# Made with OpenSSL: of 65536 zeros seen and 65536 zeros sealed, under KEY with ONCE.
LONGEST_MARK = row("5efd73920222ef6a6339afd8dc338ef2")


# s and n where at least one is too large; the other's row is handed in all the same.
def lengths_to_refuse():
    found = [(s, n) for s in TOO_MANY for n in FEW]
    found += [(s, n) for s in FEW for n in TOO_MANY]
    found += [(s, n) for s in TOO_MANY for n in TOO_MANY]
    return found


def row_where_short(make_row, many, beyond=0):
    return make_row(many + beyond) if many <= 65536 else []


def refused_seal(s, n):
    return seal_call(s, n, ONCE, row_where_short(seen_row, s), row_where_short(data_row, n))


def refused_open(s, n):
    return open_call(s, n, ONCE, row_where_short(seen_row, s), row_where_short(data_row, n, 16))


class RefusalTest(AnswersTest):
    def test_stream_is_refused(self):
        for n in TOO_MANY:
            with self.subTest(n=n):
                self.assert_same(answers(key_call(KEY) + stream_call(1, n, ONCE, [])), [1, 0, 1, -2])

    def test_mark_is_refused(self):
        for n in TOO_MANY:
            with self.subTest(n=n):
                self.assert_same(answers(key_call(KEY) + mark_call(n, MARK_KEY, [])), [1, 0, 1, -2])

    def test_seal_is_refused(self):
        for s, n in lengths_to_refuse():
            with self.subTest(s=s, n=n):
                self.assert_same(answers(key_call(KEY) + refused_seal(s, n)), [1, 0, 1, -2])

    def test_open_is_refused(self):
        for s, n in lengths_to_refuse():
            with self.subTest(s=s, n=n):
                self.assert_same(answers(key_call(KEY) + refused_open(s, n)), [1, 0, 1, -2])

    def test_open_with_the_right_mark_is_refused_too(self):
        calls = key_call(KEY) + open_call(65537, 17, ONCE, [], sealed_row(0, 17))
        self.assert_same(answers(calls), KEY_ANSWER + REFUSAL)

    def test_drops_are_refused(self):
        for n in (0, 17, 18, 65536, 65537, 4294967295):
            with self.subTest(n=n):
                self.assert_same(answers(key_call(KEY) + drops_call(n, [], [])), [1, 0, 1, -2])

    def test_drops_of_1_to_16_are_answered(self):
        for n in range(1, 17):
            with self.subTest(n=n):
                answer = answers(key_call(KEY) + drops_call(n, ONCE * n, [1] * n))
                self.assert_same(answer, KEY_ANSWER + answered(BLOCKS[1] * n))

    def test_a_large_counter_of_drops_is_no_reason(self):
        answer = answers(key_call(KEY) + drops_call(1, ONCE, [4294967295]))
        self.assert_same(answer, KEY_ANSWER + answered(BLOCKS[4294967295]))

    def test_a_large_counter_is_no_reason(self):
        for counter in (65536, 65537, 4294967295):
            with self.subTest(counter=counter):
                calls = key_call(KEY) + stream_call(counter, 0, ONCE, []) + block_call(counter, ONCE)
                self.assert_same(answers(calls)[:6], KEY_ANSWER + [1, 0] + [65, 0])

    def test_stream_of_29000_is_answered(self):
        answer = answers(key_call(KEY) + stream_call(0, 29000, ONCE, [0] * 29000))
        self.assertEqual(len(answer), 2 + 1 + 29001)
        self.assert_same(answer[:4], KEY_ANSWER + [29001, 0])
        self.assert_same(answer[4:260], BLOCKS[0] + BLOCKS[1] + BLOCKS[2] + BLOCKS[3])

    def test_mark_of_29000_is_answered(self):
        answer = answers(key_call(KEY) + mark_call(29000, MARK_KEY, [0] * 29000))
        self.assert_same(answer[:4], KEY_ANSWER + [17, 0])
        self.assertEqual(len(answer), 2 + 1 + 17)

    def test_65536_itself_is_answered(self):
        # Longer than the interface hands in, but it is the bound that the document names.
        calls = key_call(KEY) + stream_call(0, 65536, ONCE, [0] * 65536) + mark_call(65536, MARK_KEY, [0] * 65536)
        answer = answers(calls)
        self.assert_same(answer[:4], KEY_ANSWER + [65537, 0])
        self.assert_same(answer[4:68], BLOCKS[0])
        self.assert_same(answer[4 + 65536:4 + 65536 + 2], [17, 0])

    def test_65536_itself_is_sealed_and_opened(self):
        # Longer than the interface hands in, as above.
        zeros = [0] * 65536
        sealed = answers(key_call(KEY) + seal_call(65536, 65536, ONCE, zeros, zeros))
        self.assert_same(sealed[:4], KEY_ANSWER + [65553, 0])
        self.assert_same(sealed[4:132], BLOCKS[1] + BLOCKS[2])
        self.assert_same(sealed[-16:], LONGEST_MARK)
        answer = answers(key_call(KEY) + open_call(65536, 65536, ONCE, zeros, sealed[4:]))
        self.assert_same(answer, KEY_ANSWER + opened(zeros))

    def test_calls_behind_a_refusal_are_answered_as_if_it_had_not_been(self):
        refused = (
            stream_call(1, 65537, ZERO_ONCE, []), mark_call(4294967295, ZERO_KEY, []), drops_call(0, [], []),
            drops_call(17, [], []), refused_seal(65537, 17), refused_seal(17, 65537), refused_seal(65537, 65537),
            refused_open(65537, 17), refused_open(17, 65537), refused_open(4294967295, 4294967295),
        )
        others = (
            block_call(1, ONCE) + stream_call(2, 64, ONCE, [0] * 64) + mark_call(34, MARK_KEY, MARK_ROW)
            + seal_call(1, 16, ONCE, seen_row(1), data_row(16))
            + open_call(16, 1, ONCE, seen_row(16), sealed_row(16, 1)) + drops_call(1, ONCE, [3])
        )
        others_answer = (
            answered(BLOCKS[1]) + answered(BLOCKS[2]) + answered(MARK)
            + answered(sealed_row(1, 16)) + opened(data_row(1)) + answered(BLOCKS[3])
        )
        self.assert_same(answers(key_call(KEY) + others), KEY_ANSWER + others_answer)
        for place, call in enumerate(refused):
            with self.subTest(place=place):
                self.assert_same(answers(key_call(KEY) + call + others), KEY_ANSWER + REFUSAL + others_answer)
        answer = answers(key_call(KEY) + sum(refused, []) + others)
        self.assert_same(answer, KEY_ANSWER + REFUSAL * len(refused) + others_answer)

    def test_refusals_between_calls(self):
        calls = (
            key_call(KEY) + mark_call(65537, MARK_KEY, []) + block_call(0, ONCE)
            + stream_call(0, 4294967295, ONCE, []) + key_call(ZERO_KEY)
            + stream_call(0, 65537, ONCE, []) + block_call(1, ZERO_ONCE)
        )
        expected = (
            KEY_ANSWER + REFUSAL + answered(BLOCKS[0]) + REFUSAL + KEY_ANSWER + REFUSAL + answered(ZERO_BLOCKS[1])
        )
        self.assert_same(answers(calls), expected)


if __name__ == "__main__":
    unittest.main()
