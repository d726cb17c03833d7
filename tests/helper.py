"""Builds lists of calls and the lists that they ought to be answered with, and compares these."""

import unittest


def row(text):
    return list(bytes.fromhex(text))


def text_row(text):
    return list(text.encode("ascii"))


def counted(numbers):
    return [len(numbers)] + numbers


def key_call(key):
    return [0] + counted(key)


def block_call(counter, once):
    return [1, counter] + counted(once)


def stream_call(counter, n, once, data):
    return [2, counter, n] + counted(once) + counted(data)


def mark_call(n, key, b):
    return [3, n] + counted(key) + counted(b)


def answered(made):
    return counted([0] + made)


def combined(data, pad):
    return [x ^ y for x, y in zip(data, pad)]


class AnswersTest(unittest.TestCase):
    # assertEqual would seek out every difference of two long lists, which takes minutes: the first one tells enough.
    def assert_same(self, answer, expected):
        for place, (got, wanted) in enumerate(zip(answer, expected)):
            if got != wanted:
                self.fail(f"at {place} the answer has {got}, not {wanted}")
        self.assertEqual(len(answer), len(expected))


KEY_ANSWER = [1, 0]
REFUSAL = [1, -2]

# The key and the twelve bytes of RFC 8439 2.3.2.
KEY = list(range(32))
ONCE = row("000000090000004a00000000")

# The blocks of KEY and ONCE. That of counter 1 stands in RFC 8439 2.3.2, the others were made with OpenSSL.
BLOCKS = {
    0: row(
        "8adc91fd9ff4f0f51b0fad50ff15d637e40efda206cc52c783a74200503c1582"
        "cd9833367d0a54d57d3c9e998f490ee69ca34c1ff9e939a75584c52d690a35d4"
    ),
    1: row(
        "10f1e7e4d13b5915500fdd1fa32071c4c7d1f4c733c068030422aa9ac3d46c4e"
        "d2826446079faa0914c2d705d98b02a2b5129cd1de164eb9cbd083e8a2503c4e"
    ),
    2: row(
        "0a88837739d7bf4ef8ccacb0ea2bb9d69d56c394aa351dfda5bf459f0a2e9fe8"
        "e721f89255f9c486bf21679c683d4f9c5cf2fa27865526005b06ca374c86af3b"
    ),
    3: row(
        "dcbfbdcb83be65862ed5c20eae5a43241d6a92da6dca9a156be25297f51c2718"
        "8a861e93cc3aeb129a76598baccd27453ac6941b4b4e1e5153a9fee95d1ba00e"
    ),
    4294967295: row(
        "ff2941b8d740f6cbb50936bf997ebd5218cb108dc53f41c64841d0218167430c"
        "a03b770ca74ccb642a28194d1dedd2ed13151e25ec5d7faeb6d060bfb7e6b146"
    ),
}

# RFC 8439 A.1, vectors 1 and 2: key and twelve bytes of zeros, counters 0 and 1.
ZERO_KEY = [0] * 32
ZERO_ONCE = [0] * 12
ZERO_BLOCKS = {
    0: row(
        "76b8e0ada0f13d90405d6ae55386bd28bdd219b8a08ded1aa836efcc8b770dc7"
        "da41597c5157488d7724e03fb8d84a376a43b8f41518a11cc387b669b2ee6586"
    ),
    1: row(
        "9f07e7be5551387a98ba977c732d080dcb0f29a048e3656912c6533e32ee7aed"
        "29b721769ce64e43d57133b074d839d531ed1f28510afb45ace10a1f4b794d6f"
    ),
}

# RFC 8439 2.5.2.
MARK_KEY = row("85d6be7857556d337f4452fe42d506a80103808afb0db2fd4abff6af4149f51b")
MARK_ROW = text_row("Cryptographic Forum Research Group")
MARK = row("a8061dc1305136c6c22b8baf0c0127a9")
