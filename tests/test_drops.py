"""Point 2, its second sentence: ae_drops, blocks one behind another, each of its own twelve bytes and counter."""

import hashlib
import unittest

from helper import (
    AnswersTest, BLOCKS, KEY, KEY_ANSWER, ONCE, ZERO_BLOCKS, ZERO_KEY, ZERO_ONCE, answered, block_call, drops_call,
    key_call, row,
)
from sealedrows.seals import answers

# RFC 8439 A.1, vector 5: of ZERO_KEY with the counter 0.
ONCE_OF_2 = [0] * 11 + [2]
BLOCK_OF_2 = row(
    "c2c64d378cd536374ae204b9ef933fcd1a8b2288b3dfa49672ab765b54ee27c7"
    "8a970e0e955c14f3a88e741b97c286f75f8fc299e8148362fa198a39531bed6d"
)

# Made with OpenSSL: of KEY, with the counter 4294967295 and with 0.
RISING_ONCE = list(range(12))
RISING_BLOCK = row(
    "14eed149cd60a456f359e704f9d4b07f940a2f5c6c971747df044f3475b76959"
    "5bdb46b77c657b6c9369512a23d0d16e8cd2b886d11b4d66c9b328b3725463e2"
)
FULL_ONCE = [255] * 12
FULL_BLOCK = row(
    "2781d1c655ae513fcbaba764285180b734e51674b8efdd53891019f3c3ed2ee7"
    "d0473df77098eda607a319ad33a76332a684d751430f5dd19360e1b968485ba5"
)

SIXTEEN_ONCES = [list(range(12 * place, 12 * place + 12)) for place in range(16)]
SIXTEEN_COUNTERS = [0x10000001 * place for place in range(16)]
# Made with OpenSSL: SHA-256 of the sixteen blocks of KEY.
SIXTEEN_DIGEST = "50ba9fcb143d3c16e12fd46995a56123c7418b6aa1c52974a6cc4b4b4979d06a"


def drops_answer(key, onces, counters):
    return answers(key_call(key) + drops_call(len(counters), sum(onces, []), counters))


def blocks_one_by_one(key, onces, counters):
    made = []
    for once, counter in zip(onces, counters):
        made += answers(key_call(key) + block_call(counter, once))[4:]
    return made


class DropsTest(AnswersTest):
    def test_one_block(self):
        for counter, block in BLOCKS.items():
            with self.subTest(counter=counter):
                self.assert_same(drops_answer(KEY, [ONCE], [counter]), KEY_ANSWER + answered(block))

    def test_rfc_a_1(self):
        answer = drops_answer(ZERO_KEY, [ZERO_ONCE, ONCE_OF_2], [1, 0])
        self.assert_same(answer, KEY_ANSWER + answered(ZERO_BLOCKS[1] + BLOCK_OF_2))

    def test_each_block_of_its_own_once_and_counter(self):
        answer = drops_answer(KEY, [RISING_ONCE, ONCE, FULL_ONCE], [4294967295, 1, 0])
        self.assert_same(answer, KEY_ANSWER + answered(RISING_BLOCK + BLOCKS[1] + FULL_BLOCK))

    def test_order_is_that_of_the_rows(self):
        answer = drops_answer(KEY, [FULL_ONCE, RISING_ONCE], [0, 4294967295])
        self.assert_same(answer, KEY_ANSWER + answered(FULL_BLOCK + RISING_BLOCK))

    def test_sixteen_blocks(self):
        answer = drops_answer(KEY, SIXTEEN_ONCES, SIXTEEN_COUNTERS)
        self.assert_same(answer[:4], KEY_ANSWER + [1025, 0])
        self.assertEqual(hashlib.sha256(bytes(answer[4:])).hexdigest(), SIXTEEN_DIGEST)

    def test_the_blocks_that_ae_block_gives(self):
        for n in (1, 2, 3, 15, 16):
            with self.subTest(n=n):
                onces = SIXTEEN_ONCES[:n]
                counters = SIXTEEN_COUNTERS[:n]
                expected = blocks_one_by_one(KEY, onces, counters)
                self.assertEqual(len(expected), 64 * n)
                self.assert_same(drops_answer(KEY, onces, counters), KEY_ANSWER + answered(expected))

    def test_the_same_once_and_counter_twice(self):
        self.assert_same(drops_answer(KEY, [ONCE] * 2, [3] * 2), KEY_ANSWER + answered(BLOCKS[3] * 2))
        self.assert_same(drops_answer(KEY, [ONCE] * 16, [3] * 16), KEY_ANSWER + answered(BLOCKS[3] * 16))

    def test_the_same_once_and_other_counters(self):
        counters = [2, 4294967295, 0, 1]
        expected = BLOCKS[2] + BLOCKS[4294967295] + BLOCKS[0] + BLOCKS[1]
        self.assert_same(drops_answer(KEY, [ONCE] * 4, counters), KEY_ANSWER + answered(expected))

    def test_key_that_came_last_counts(self):
        call = drops_call(1, ONCE, [1])
        calls = key_call(ZERO_KEY) + key_call(KEY) + call + key_call(ZERO_KEY) + drops_call(1, ZERO_ONCE, [0]) + call
        answer = answers(calls)
        known = KEY_ANSWER * 2 + answered(BLOCKS[1]) + KEY_ANSWER + answered(ZERO_BLOCKS[0])
        self.assert_same(answer[:len(known)], known)
        self.assert_same(answer[len(known):], answered(blocks_one_by_one(ZERO_KEY, [ONCE], [1])))


if __name__ == "__main__":
    unittest.main()
