"""Point 2, its first sentence: ae_block, the block of RFC 8439 2.3."""

import unittest

from helper import (
    AnswersTest, BLOCKS, KEY, KEY_ANSWER, ONCE, ZERO_BLOCKS, ZERO_KEY, ZERO_ONCE, answered, block_call, key_call, row,
)
from sealedrows.seals import answers


def block_answer(key, counter, once):
    return answers(key_call(key) + block_call(counter, once))


class BlockTest(AnswersTest):
    def test_rfc_2_3_2(self):
        self.assert_same(block_answer(KEY, 1, ONCE), KEY_ANSWER + answered(BLOCKS[1]))

    def test_answer_is_0_and_64_bytes(self):
        answer = block_answer(KEY, 1, ONCE)
        self.assert_same(answer[2:4], [65, 0])
        self.assertEqual(len(answer), 2 + 1 + 65)

    def test_counter_0(self):
        self.assert_same(block_answer(KEY, 0, ONCE), KEY_ANSWER + answered(BLOCKS[0]))

    def test_counter_4294967295(self):
        self.assert_same(block_answer(KEY, 4294967295, ONCE), KEY_ANSWER + answered(BLOCKS[4294967295]))

    def test_rfc_a_1_of_zeros(self):
        for counter in (0, 1):
            with self.subTest(counter=counter):
                expected = KEY_ANSWER + answered(ZERO_BLOCKS[counter])
                self.assert_same(block_answer(ZERO_KEY, counter, ZERO_ONCE), expected)

    def test_rfc_a_1_key_ends_in_1(self):
        made = row(
            "3aeb5224ecf849929b9d828db1ced4dd832025e8018b8160b82284f3c949aa5a"
            "8eca00bbb4a73bdad192b5c42f73f2fd4e273644c8b36125a64addeb006c13a0"
        )
        self.assert_same(block_answer([0] * 31 + [1], 1, ZERO_ONCE), KEY_ANSWER + answered(made))

    def test_rfc_a_1_once_ends_in_2(self):
        made = row(
            "c2c64d378cd536374ae204b9ef933fcd1a8b2288b3dfa49672ab765b54ee27c7"
            "8a970e0e955c14f3a88e741b97c286f75f8fc299e8148362fa198a39531bed6d"
        )
        self.assert_same(block_answer(ZERO_KEY, 0, [0] * 11 + [2]), KEY_ANSWER + answered(made))

    def test_400_calls(self):
        calls = key_call(KEY) + block_call(2, ONCE) * 399
        self.assert_same(answers(calls), KEY_ANSWER + answered(BLOCKS[2]) * 399)


if __name__ == "__main__":
    unittest.main()
