"""Builds lists of calls and the lists that they ought to be answered with, and compares these."""

import unittest


def row(text):
    return list(bytes.fromhex(text))


def text_row(text):
    return list(text.encode("ascii"))


def counted(numbers):
    return [len(numbers)] + numbers


def key_call(key):
    return [0] + counted(key)


def block_call(counter, once):
    return [1, counter] + counted(once)


def stream_call(counter, n, once, data):
    return [2, counter, n] + counted(once) + counted(data)


def mark_call(n, key, b):
    return [3, n] + counted(key) + counted(b)


def seal_call(s, n, once, seen, data):
    return [4, s, n] + counted(once) + counted(seen) + counted(data)


def open_call(s, n, once, seen, data):
    return [5, s, n] + counted(once) + counted(seen) + counted(data)


def drops_call(n, once, counters):
    return [6, n] + counted(once) + counted(counters)


def answered(made):
    return counted([0] + made)


def opened(message):
    return counted([1] + message)


def combined(data, pad):
    return [x ^ y for x, y in zip(data, pad)]


class AnswersTest(unittest.TestCase):
    # assertEqual would seek out every difference of two long lists, which takes minutes: the first one tells enough.
    def assert_same(self, answer, expected):
        for place, (got, wanted) in enumerate(zip(answer, expected)):
            if got != wanted:
                self.fail(f"at {place} the answer has {got}, not {wanted}")
        self.assertEqual(len(answer), len(expected))


KEY_ANSWER = [1, 0]
REFUSAL = [1, -2]
NOT_OPENED = [1, 0]

# The key and the twelve bytes of RFC 8439 2.3.2.
KEY = list(range(32))
ONCE = row("000000090000004a00000000")

# The blocks of KEY and ONCE. That of counter 1 stands in RFC 8439 2.3.2, the others were made with OpenSSL.
BLOCKS = {
    0: row(
        "8adc91fd9ff4f0f51b0fad50ff15d637e40efda206cc52c783a74200503c1582"
        "cd9833367d0a54d57d3c9e998f490ee69ca34c1ff9e939a75584c52d690a35d4"
    ),
    1: row(
        "10f1e7e4d13b5915500fdd1fa32071c4c7d1f4c733c068030422aa9ac3d46c4e"
        "d2826446079faa0914c2d705d98b02a2b5129cd1de164eb9cbd083e8a2503c4e"
    ),
    2: row(
        "0a88837739d7bf4ef8ccacb0ea2bb9d69d56c394aa351dfda5bf459f0a2e9fe8"
        "e721f89255f9c486bf21679c683d4f9c5cf2fa27865526005b06ca374c86af3b"
    ),
    3: row(
        "dcbfbdcb83be65862ed5c20eae5a43241d6a92da6dca9a156be25297f51c2718"
        "8a861e93cc3aeb129a76598baccd27453ac6941b4b4e1e5153a9fee95d1ba00e"
    ),
    4294967295: row(
        "ff2941b8d740f6cbb50936bf997ebd5218cb108dc53f41c64841d0218167430c"
        "a03b770ca74ccb642a28194d1dedd2ed13151e25ec5d7faeb6d060bfb7e6b146"
    ),
}

# RFC 8439 A.1, vectors 1 and 2: key and twelve bytes of zeros, counters 0 and 1.
ZERO_KEY = [0] * 32
ZERO_ONCE = [0] * 12
ZERO_BLOCKS = {
    0: row(
        "76b8e0ada0f13d90405d6ae55386bd28bdd219b8a08ded1aa836efcc8b770dc7"
        "da41597c5157488d7724e03fb8d84a376a43b8f41518a11cc387b669b2ee6586"
    ),
    1: row(
        "9f07e7be5551387a98ba977c732d080dcb0f29a048e3656912c6533e32ee7aed"
        "29b721769ce64e43d57133b074d839d531ed1f28510afb45ace10a1f4b794d6f"
    ),
}

# RFC 8439 2.5.2.
MARK_KEY = row("85d6be7857556d337f4452fe42d506a80103808afb0db2fd4abff6af4149f51b")
MARK_ROW = text_row("Cryptographic Forum Research Group")
MARK = row("a8061dc1305136c6c22b8baf0c0127a9")


def seen_row(s):
    return [(201 + 3 * place) % 256 for place in range(s)]


def data_row(n):
    return [(5 + 7 * place) % 256 for place in range(n)]


# Made with OpenSSL: by s and n, the marks of seen_row(s) and data_row(n) sealed under KEY with ONCE.
SEAL_MARKS = {
    (0, 0): "8e62f3b3c9fdbfce61fa1a01cbd7e08b",
    (0, 1): "1f5fdf314008ee75fa06e6ba9eebec4c",
    (0, 15): "f3c5b1c89960c60b4c7196ddbf722e53",
    (0, 16): "7bc0031d477768b2c05e78d9d0d4c9cf",
    (0, 17): "e603343c26c0bc2908316b4466543d60",
    (0, 63): "549b62c7aa97d8b740c294563261eb95",
    (0, 64): "5b538cb64e1df1809da797b4af4a2707",
    (0, 65): "286abeedc34982efe443b1fa28ff9cbb",
    (1, 0): "1c68a2a256e09f06c884062562c731e2",
    (1, 1): "aa4aa4965d37a07d7ebe19cb3eb07b4b",
    (1, 15): "7eb1762db78f7813d028caed5f37bd51",
    (1, 16): "06acc88164a61aba4416ace9709958ce",
    (1, 17): "6ca744536a2aca95344195c6722139cb",
    (1, 63): "b34a0e2ce4c32641e8949301f90e1137",
    (1, 64): "ba02381b88493f0a457a965f76f84ca8",
    (1, 65): "25fec5aaabb29bde0c998bb9aea9873e",
    (15, 0): "d81587b40a1d120aa742994b19afd9de",
    (15, 1): "23e51447b0fe065366178b2560f8b72b",
    (15, 15): "fc4be7dd0957dfe8b7813b48817ff931",
    (15, 16): "7f463932b76d818f2c6f1d4492e194ae",
    (15, 17): "0485b5c76fec842b459ade2554a1c488",
    (15, 63): "d3ef6d7ebf0b142457b15504e3cf58f9",
    (15, 64): "daa7976d63912cedb396586260b9946a",
    (15, 65): "dfd6f1e89ad6d8eb6f443d36c8c16f29",
    (16, 0): "442df94faa814b47cafa860b493376a1",
    (16, 1): "0466179a5a9d45dc5610ff443bb58af9",
    (16, 15): "d8cce930b4f51d72a87aaf675c3cccff",
    (16, 16): "60c73b85610cc0181d6891636d9e677c",
    (16, 17): "4e090dfbf15713dbb574904d762cc026",
    (16, 63): "c74113cfeddb595f2a3b6c0ec19f18c8",
    (16, 64): "cef93cbe9161722887206f6c3e895439",
    (16, 65): "297dfe2f95f81285bf52aa40bba5c81f",
    (17, 0): "7b19ff9cd41f50502491baac90a0710b",
    (17, 1): "b42cc0b022d527f523759ab8f94f2b47",
    (17, 15): "8d9392477c2d008b75df4adb1ad76c4d",
    (17, 16): "108ee49b2944a231eacc2cd72b3908ca",
    (17, 17): "63f7a758fec448a439b1f0d7f3462ef4",
    (17, 63): "fde884bd641f40bd7db9eabb9bb9593b",
    (17, 64): "04a1aeac08a55886da9eed1919a395ac",
    (17, 65): "02a436ffc91c17ff0a71767917787c8b",
}


# What ae_seal ought to give for seen_row(s) and data_row(n): the sealed bytes and the mark behind them.
def sealed_row(s, n):
    return combined(data_row(n), BLOCKS[1] + BLOCKS[2]) + row(SEAL_MARKS[s, n])
