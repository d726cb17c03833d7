"""Point 3: ae_stream, a row by exclusive or with the blocks of counter, counter + 1 and so on."""

import unittest

from helper import AnswersTest, BLOCKS, KEY, KEY_ANSWER, ONCE, answered, combined, key_call, row, stream_call, text_row
from sealedrows.seals import answers

# RFC 8439 2.4.2, counter 1.
RFC_ONCE = row("000000000000004a00000000")
RFC_DATA = text_row(
    "Ladies and Gentlemen of the class of '99: If I could offer you only one tip for the future, "
    "sunscreen would be it."
)
RFC_MADE = row(
    "6e2e359a2568f98041ba0728dd0d6981e97e7aec1d4360c20a27afccfd9fae0b"
    "f91b65c5524733ab8f593dabcd62b3571639d624e65152ab8f530c359f0861d8"
    "07ca0dbf500d6a6156a38e088a22b65e52bc514d16ccf806818ce91ab7793736"
    "5af90bbf74a35be6b40b8eedf2785e42874d"
)


def stream_answer(counter, once, data):
    return answers(key_call(KEY) + stream_call(counter, len(data), once, data))


class StreamTest(AnswersTest):
    def test_rfc_2_4_2(self):
        self.assert_same(stream_answer(1, RFC_ONCE, RFC_DATA), KEY_ANSWER + answered(RFC_MADE))

    def test_a_second_time_gives_the_row_back(self):
        self.assert_same(stream_answer(1, RFC_ONCE, RFC_MADE), KEY_ANSWER + answered(RFC_DATA))

    def test_n_0_answers_0_alone(self):
        self.assert_same(stream_answer(1, RFC_ONCE, []), KEY_ANSWER + [1, 0])

    def test_lengths_round_a_block(self):
        for n in (1, 2, 63, 64, 65, 113):
            with self.subTest(n=n):
                expected = KEY_ANSWER + answered(RFC_MADE[:n])
                self.assert_same(stream_answer(1, RFC_ONCE, RFC_DATA[:n]), expected)

    def test_several_blocks(self):
        pad = BLOCKS[0] + BLOCKS[1] + BLOCKS[2] + BLOCKS[3]
        for n in (127, 128, 129, 192, 193, 256):
            with self.subTest(n=n):
                data = [(7 * place) % 256 for place in range(n)]
                self.assert_same(stream_answer(0, ONCE, data), KEY_ANSWER + answered(combined(data, pad)))

    def test_row_of_255s(self):
        pad = BLOCKS[2] + BLOCKS[3]
        self.assert_same(stream_answer(2, ONCE, [255] * 128), KEY_ANSWER + answered(combined([255] * 128, pad)))

    def test_last_counter_alone(self):
        for n in (1, 63, 64):
            with self.subTest(n=n):
                expected = KEY_ANSWER + answered(BLOCKS[4294967295][:n])
                self.assert_same(stream_answer(4294967295, ONCE, [0] * n), expected)

    def test_past_the_last_counter_is_0_again(self):
        pad = BLOCKS[4294967295] + BLOCKS[0] + BLOCKS[1] + BLOCKS[2]
        for n in (65, 128, 129, 256):
            with self.subTest(n=n):
                expected = KEY_ANSWER + answered(pad[:n])
                self.assert_same(stream_answer(4294967295, ONCE, [0] * n), expected)

    def test_each_call_begins_at_its_own_counter(self):
        calls = key_call(KEY) + stream_call(1, 10, ONCE, [0] * 10) + stream_call(1, 64, ONCE, [0] * 64)
        self.assert_same(answers(calls), KEY_ANSWER + answered(BLOCKS[1][:10]) + answered(BLOCKS[1]))


if __name__ == "__main__":
    unittest.main()
