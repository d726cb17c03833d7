"""Point 5: ae_seal, a message sealed as in RFC 8439 2.8, the mark behind it."""

import unittest

from helper import (
    AnswersTest, BLOCKS, KEY, KEY_ANSWER, ONCE, SEAL_MARKS, ZERO_KEY, answered, combined, data_row, key_call, mark_call,
    row, seal_call, sealed_row, seen_row, stream_call, text_row,
)
from sealedrows.seals import answers

# RFC 8439 2.8.2.
RFC_KEY = list(range(0x80, 0xa0))
RFC_ONCE = row("070000004041424344454647")
RFC_SEEN = row("50515253c0c1c2c3c4c5c6c7")
RFC_DATA = text_row(
    "Ladies and Gentlemen of the class of '99: If I could offer you only one tip for the future, "
    "sunscreen would be it."
)
RFC_SEALED = row(
    "d31a8d34648e60db7b86afbc53ef7ec2a4aded51296e08fea9e2b5a736ee62d6"
    "3dbea45e8ca9671282fafb69da92728b1a71de0a9e060b2905d6a5b67ecd3b36"
    "92ddbd7f2d778b8c9803aee328091b58fab324e4fad675945585808b4831d7bc"
    "3ff4def08e4b7a9de576d26586cec64b6116"
)
RFC_MARK = row("1ae10b594f09e26a7e902ecbd0600691")

# Made with OpenSSL, as SEAL_MARKS, for rows as long as the list of calls can hold.
LONG_MARKS = {
    (14000, 15000): "d8f3bbc8c4da90c33394d521569f1218",
    (15000, 14000): "be05ec00c28935bc9f28bc78a9e74ee5",
    (29000, 0): "dffceedeb05c2fe7b10ea61510a78135",
    (0, 29000): "7e959669a579a7460547343737d45810",
}


def seal_answer(key, once, seen, data):
    return answers(key_call(key) + seal_call(len(seen), len(data), once, seen, data))


class SealTest(AnswersTest):
    def test_rfc_2_8_2(self):
        answer = seal_answer(RFC_KEY, RFC_ONCE, RFC_SEEN, RFC_DATA)
        self.assert_same(answer, KEY_ANSWER + answered(RFC_SEALED + RFC_MARK))

    def test_lengths_round_a_part_and_a_block(self):
        for s, n in SEAL_MARKS:
            with self.subTest(s=s, n=n):
                answer = seal_answer(KEY, ONCE, seen_row(s), data_row(n))
                self.assert_same(answer, KEY_ANSWER + answered(sealed_row(s, n)))

    def test_answer_has_n_and_17_numbers(self):
        for s, n in SEAL_MARKS:
            with self.subTest(s=s, n=n):
                answer = seal_answer(KEY, ONCE, seen_row(s), data_row(n))
                self.assert_same(answer[:4], KEY_ANSWER + [n + 17, 0])
                self.assertEqual(len(answer), 2 + 1 + n + 17)

    def test_both_rows_empty(self):
        self.assert_same(seal_answer(KEY, ONCE, [], []), KEY_ANSWER + answered(row(SEAL_MARKS[0, 0])))

    def test_long_rows(self):
        for (s, n), mark in LONG_MARKS.items():
            with self.subTest(s=s, n=n):
                answer = seal_answer(KEY, ONCE, seen_row(s), data_row(n))
                stream = answers(key_call(KEY) + stream_call(1, n, ONCE, data_row(n)))
                self.assert_same(answer, KEY_ANSWER + answered(stream[4:] + row(mark)))

    def test_rows_of_255s(self):
        answer = seal_answer(KEY, ONCE, [255] * 32, [255] * 128)
        sealed = combined([255] * 128, BLOCKS[1] + BLOCKS[2])
        lengths = [32] + [0] * 7 + [128] + [0] * 7
        marked = [255] * 32 + sealed + lengths
        mark = answers(key_call(KEY) + mark_call(len(marked), BLOCKS[0][:32], marked))[4:]
        self.assert_same(answer, KEY_ANSWER + answered(sealed + mark))

    def test_seen_changes_the_mark_alone(self):
        one = seal_answer(KEY, ONCE, [1], data_row(20))
        other = seal_answer(KEY, ONCE, [2], data_row(20))
        self.assert_same(one[:24], other[:24])
        self.assertNotEqual(one[24:], other[24:])

    def test_zeros_at_the_end_of_a_row_count(self):
        without = seal_answer(KEY, ONCE, [9], data_row(20))
        self.assertNotEqual(without[24:], seal_answer(KEY, ONCE, [9, 0], data_row(20))[24:])

    def test_key_that_came_last_counts(self):
        calls = key_call(ZERO_KEY) + key_call(KEY) + seal_call(17, 65, ONCE, seen_row(17), data_row(65))
        self.assert_same(answers(calls), KEY_ANSWER * 2 + answered(sealed_row(17, 65)))

    def test_each_call_is_by_itself(self):
        call = seal_call(15, 64, ONCE, seen_row(15), data_row(64))
        calls = key_call(KEY) + call + seal_call(1, 1, ONCE, seen_row(1), data_row(1)) + call
        sealed = answered(sealed_row(15, 64))
        self.assert_same(answers(calls), KEY_ANSWER + sealed + answered(sealed_row(1, 1)) + sealed)


if __name__ == "__main__":
    unittest.main()
