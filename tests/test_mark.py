"""Point 4: ae_mark, Poly1305 of RFC 8439 2.5."""

import unittest

from helper import AnswersTest, KEY, KEY_ANSWER, MARK, MARK_KEY, MARK_ROW, answered, key_call, mark_call, row, text_row
from sealedrows.seals import answers

HALF = "36e5f6b5c5e06070f0efca96227a863e"
CONTRIBUTION = text_row(
    "Any submission to the IETF intended by the Contributor for publication as all or part of an IETF "
    "Internet-Draft or RFC and any statement made within the context of an IETF activity is considered an "
    "\"IETF Contribution\". Such statements include oral statements in IETF sessions, as well as written and "
    "electronic communications made at any time or place, which are addressed to"
)
JABBERWOCKY = text_row(
    "'Twas brillig, and the slithy toves\nDid gyre and gimble in the wabe:\n"
    "All mimsy were the borogoves,\nAnd the mome raths outgrabe."
)


def zeros(many):
    return "00" * many


# RFC 8439 A.3: key, row, mark.
RFC_VECTORS = (
    (row(zeros(32)), row(zeros(64)), row(zeros(16))),
    (row(zeros(16) + HALF), CONTRIBUTION, row(HALF)),
    (row(HALF + zeros(16)), CONTRIBUTION, row("f3477e7cd95417af89a6b8794c310cf0")),
    (
        row("1c9240a5eb55d38af333888604f6b5f0473917c1402b80099dca5cbc207075c0"),
        JABBERWOCKY,
        row("4541669a7eaaee61e708dc7cbcc5eb62"),
    ),
    (row("02" + zeros(31)), row("ff" * 16), row("03" + zeros(15))),
    (row("02" + zeros(15) + "ff" * 16), row("02" + zeros(15)), row("03" + zeros(15))),
    (row("01" + zeros(31)), row("ff" * 16 + "f0" + "ff" * 15 + "11" + zeros(15)), row("05" + zeros(15))),
    (row("01" + zeros(31)), row("ff" * 16 + "fb" + "fe" * 15 + "01" * 16), row(zeros(16))),
    (row("02" + zeros(31)), row("fd" + "ff" * 15), row("fa" + "ff" * 15)),
    (
        row("01" + zeros(7) + "04" + zeros(23)),
        row("e33594d7505e43b9" + zeros(8) + "3394d7505e4379cd01" + zeros(7) + zeros(16) + "01" + zeros(15)),
        row("14" + zeros(7) + "55" + zeros(7)),
    ),
    (
        row("01" + zeros(7) + "04" + zeros(23)),
        row("e33594d7505e43b9" + zeros(8) + "3394d7505e4379cd01" + zeros(7) + zeros(16)),
        row("13" + zeros(15)),
    ),
)

# Made with OpenSSL: the marks of the rows 1, 2, 3 .. of n bytes under MARK_KEY.
MARKS_BY_LENGTH = {
    0: "0103808afb0db2fd4abff6af4149f51b",
    1: "905e155258b7746eca7f8d10905ed12a",
    15: "8890d74917eddce2c501d596b538ca9d",
    16: "e1166a3cc0d965fce45dc81964436973",
    17: "74513df2698321d9062a6f1a7e62386c",
    32: "98656df6e650886daefb77f70957ab5c",
}

# Made with OpenSSL: the marks of n bytes of 255 under a key of 255s.
MARKS_OF_255S = {
    0: "ffffffffffffffffffffffffffffffff",
    1: "23feffef23f8ffef23f8ffef23f8ffef",
    15: "fbff27e6030028e6030028e6030028ee",
    16: "fbffff17faffff17faffff17faffff17",
    17: "7cfe7ff768f81f2763f8bf565df85f86",
    32: "5400801f3f00204f3900c07e330060ae",
    29000: "0735e60fc0481d50463a79a5202de6eb",
}


def mark_answer(mark_key, b):
    return answers(key_call(KEY) + mark_call(len(b), mark_key, b))


class MarkTest(AnswersTest):
    def test_rfc_2_5_2(self):
        self.assert_same(mark_answer(MARK_KEY, MARK_ROW), KEY_ANSWER + answered(MARK))

    def test_rfc_a_3(self):
        for place, (mark_key, b, mark) in enumerate(RFC_VECTORS, start=1):
            with self.subTest(vector=place):
                self.assert_same(mark_answer(mark_key, b), KEY_ANSWER + answered(mark))

    def test_lengths_round_a_part(self):
        for n, mark in MARKS_BY_LENGTH.items():
            with self.subTest(n=n):
                self.assert_same(mark_answer(MARK_KEY, list(range(1, n + 1))), KEY_ANSWER + answered(row(mark)))

    def test_keys_and_rows_of_255s(self):
        for n, mark in MARKS_OF_255S.items():
            with self.subTest(n=n):
                self.assert_same(mark_answer([255] * 32, [255] * n), KEY_ANSWER + answered(row(mark)))

    def test_zeros_behind_a_short_part_count(self):
        short = mark_answer(MARK_KEY, [9] * 15)
        self.assertNotEqual(short, mark_answer(MARK_KEY, [9] * 15 + [0]))
        self.assertNotEqual(mark_answer(MARK_KEY, []), mark_answer(MARK_KEY, [0]))

    def test_last_reduction_at_the_prime(self):
        # Under a factor of 1 and with nothing added, three parts sum to the prime where the first is 251, 255 ..
        key = [1] + [0] * 31
        for first, mark in ((250, [250] + [255] * 15), (251, [0] * 16), (252, [1] + [0] * 15), (255, [4] + [0] * 15)):
            with self.subTest(first=first):
                b = [first] + [255] * 15 + [0] * 32
                self.assert_same(mark_answer(key, b), KEY_ANSWER + answered(mark))

    def test_key_of_the_object_does_not_matter(self):
        for key in (KEY, [255] * 32):
            calls = key_call(key) + mark_call(34, MARK_KEY, MARK_ROW)
            self.assert_same(answers(calls), KEY_ANSWER + answered(MARK))


if __name__ == "__main__":
    unittest.main()
