"""Point 6: ae_open, the message where the mark is the one that it ought to be, else 0."""

import unittest

from helper import (
    AnswersTest, KEY, KEY_ANSWER, NOT_OPENED, ONCE, SEAL_MARKS, ZERO_KEY, data_row, key_call, open_call, opened, row,
    seal_call, sealed_row, seen_row,
)
from sealedrows.seals import answers

# RFC 8439 A.5.
RFC_KEY = row("1c9240a5eb55d38af333888604f6b5f0473917c1402b80099dca5cbc207075c0")
RFC_ONCE = row("000000000102030405060708")
RFC_SEEN = row("f33388860000000000004e91")
RFC_SEALED = row(
    "64a0861575861af460f062c79be643bd5e805cfd345cf389f108670ac76c8cb2"
    "4c6cfc18755d43eea09ee94e382d26b0bdb7b73c321b0100d4f03b7f355894cf"
    "332f830e710b97ce98c8a84abd0b948114ad176e008d33bd60f982b1ff37c855"
    "9797a06ef4f0ef61c186324e2b3506383606907b6a7c02b0f9f6157b53c867e4"
    "b9166c767b804d46a59b5216cde7a4e99040c5a40433225ee282a1b0a06c523e"
    "af4534d7f83fa1155b0047718cbc546a0d072b04b3564eea1b422273f548271a"
    "0bb2316053fa76991955ebd63159434ecebb4e466dae5a1073a6727627097a10"
    "49e617d91d361094fa68f0ff77987130305beaba2eda04df997b714d6c6f2c29"
    "a6ad5cb4022b02709b"
)
RFC_MARK = row("eead9d67890cbb22392336fea1851f38")
RFC_MESSAGE = list(
    (
        "Internet-Drafts are draft documents valid for a maximum of six months and may be updated, replaced, or "
        "obsoleted by other documents at any time. It is inappropriate to use Internet-Drafts as reference material "
        "or to cite them other than as /\u201cwork in progress./\u201d"
    ).encode("utf-8")
)

LENGTHS = ((0, 0), (0, 17), (1, 1), (15, 16), (16, 64), (17, 65))


def open_answer(key, once, seen, data):
    return answers(key_call(key) + open_call(len(seen), len(data) - 16, once, seen, data))


def changed(numbers, place, bit=1):
    other = list(numbers)
    other[place] ^= bit
    return other


class OpenTest(AnswersTest):
    def assert_not_opened(self, key, once, seen, data):
        self.assert_same(open_answer(key, once, seen, data), KEY_ANSWER + NOT_OPENED)

    def test_rfc_a_5(self):
        answer = open_answer(RFC_KEY, RFC_ONCE, RFC_SEEN, RFC_SEALED + RFC_MARK)
        self.assert_same(answer, KEY_ANSWER + opened(RFC_MESSAGE))

    def test_rfc_a_5_with_one_byte_changed(self):
        data = RFC_SEALED + RFC_MARK
        for place in (0, 264, 265, 280):
            with self.subTest(place=place):
                self.assert_not_opened(RFC_KEY, RFC_ONCE, RFC_SEEN, changed(data, place))

    def test_what_was_sealed(self):
        for s, n in SEAL_MARKS:
            with self.subTest(s=s, n=n):
                sealed = answers(key_call(KEY) + seal_call(s, n, ONCE, seen_row(s), data_row(n)))[4:]
                self.assertEqual(len(sealed), n + 16)
                answer = open_answer(KEY, ONCE, seen_row(s), sealed)
                self.assert_same(answer, KEY_ANSWER + opened(data_row(n)))

    def test_what_openssl_sealed(self):
        for s, n in SEAL_MARKS:
            with self.subTest(s=s, n=n):
                answer = open_answer(KEY, ONCE, seen_row(s), sealed_row(s, n))
                self.assert_same(answer, KEY_ANSWER + opened(data_row(n)))

    def test_long_rows(self):
        for s, n in ((14000, 15000), (29000, 0), (0, 28984)):
            with self.subTest(s=s, n=n):
                sealed = answers(key_call(KEY) + seal_call(s, n, ONCE, seen_row(s), data_row(n)))[4:]
                self.assert_same(open_answer(KEY, ONCE, seen_row(s), sealed), KEY_ANSWER + opened(data_row(n)))
                self.assert_not_opened(KEY, ONCE, seen_row(s), changed(sealed, n))

    def test_n_0_with_the_right_mark_answers_1_alone(self):
        for s in (0, 1, 15, 16, 17):
            with self.subTest(s=s):
                self.assert_same(open_answer(KEY, ONCE, seen_row(s), sealed_row(s, 0)), [1, 0, 1, 1])

    def test_n_0_with_a_wrong_mark_answers_0_alone(self):
        for s in (0, 1, 15, 16, 17):
            for place in (0, 15):
                with self.subTest(s=s, place=place):
                    data = changed(sealed_row(s, 0), place)
                    self.assert_same(open_answer(KEY, ONCE, seen_row(s), data), [1, 0, 1, 0])

    def test_mark_changed(self):
        for s, n in LENGTHS:
            for place in range(n, n + 16):
                for bit in (1, 128):
                    with self.subTest(s=s, n=n, place=place, bit=bit):
                        self.assert_not_opened(KEY, ONCE, seen_row(s), changed(sealed_row(s, n), place, bit))

    def test_sealed_bytes_changed(self):
        for s, n in LENGTHS:
            for place in range(n):
                with self.subTest(s=s, n=n, place=place):
                    self.assert_not_opened(KEY, ONCE, seen_row(s), changed(sealed_row(s, n), place))

    def test_seen_changed(self):
        for s, n in LENGTHS:
            for place in range(s):
                with self.subTest(s=s, n=n, place=place):
                    self.assert_not_opened(KEY, ONCE, changed(seen_row(s), place), sealed_row(s, n))

    def test_once_changed(self):
        for s, n in LENGTHS:
            for place in range(12):
                with self.subTest(s=s, n=n, place=place):
                    self.assert_not_opened(KEY, changed(ONCE, place), seen_row(s), sealed_row(s, n))

    def test_another_key(self):
        for s, n in LENGTHS:
            for key in (ZERO_KEY, changed(KEY, 0), changed(KEY, 31)):
                with self.subTest(s=s, n=n, key=key):
                    self.assert_not_opened(key, ONCE, seen_row(s), sealed_row(s, n))

    def test_another_key_in_between(self):
        call = open_call(17, 65, ONCE, seen_row(17), sealed_row(17, 65))
        calls = key_call(KEY) + call + key_call(ZERO_KEY) + call + key_call(KEY) + call
        right = KEY_ANSWER + opened(data_row(65))
        self.assert_same(answers(calls), right + KEY_ANSWER + NOT_OPENED + right)

    def test_mark_of_zeros(self):
        for s, n in LENGTHS:
            with self.subTest(s=s, n=n):
                self.assert_not_opened(KEY, ONCE, seen_row(s), sealed_row(s, n)[:n] + [0] * 16)

    def test_mark_of_another_message(self):
        data = sealed_row(16, 64)[:64] + sealed_row(16, 65)[65:]
        self.assert_not_opened(KEY, ONCE, seen_row(16), data)

    def test_zeros_at_the_end_of_seen_count(self):
        self.assert_not_opened(KEY, ONCE, seen_row(15) + [0], sealed_row(15, 16))
        self.assert_not_opened(KEY, ONCE, [0] * 16, sealed_row(0, 16))

    def test_bytes_moved_from_seen_to_the_sealed_ones(self):
        data = sealed_row(16, 64)
        self.assert_not_opened(KEY, ONCE, [], seen_row(16) + data)
        self.assert_not_opened(KEY, ONCE, seen_row(16) + data[:16], data[16:])

    def test_calls_behind_one_that_was_not_opened(self):
        wrong = open_call(1, 1, ONCE, seen_row(1), changed(sealed_row(1, 1), 16))
        right = open_call(1, 1, ONCE, seen_row(1), sealed_row(1, 1))
        expected = KEY_ANSWER + NOT_OPENED + opened(data_row(1)) + NOT_OPENED
        self.assert_same(answers(key_call(KEY) + wrong + right + wrong), expected)


if __name__ == "__main__":
    unittest.main()
