"""The published examples.

Of FIPS 197: the key schedules of appendix A, the rounds of appendices B and C. Of the counter mode
with its tag (SP 800-38D): the examples that go with its proposal. Of FIPS 180: the texts of its
examples and their digests.

They were not copied from the publications. The values of FIPS 197 were worked out, and held against
other implementations. Of the counter mode the keys and texts were written down from memory; the
ciphertexts and tags, and the values of the tag's own function, are what another implementation made
of them. The digests were written down from memory, and held against another implementation.
"""


def from_hex(text):
    """The bytes of hex digits; blanks and line ends between them don't matter."""
    return list(bytes.fromhex(text))


def rows_from_hex(text):
    """Of each line its bytes."""
    return [from_hex(line) for line in text.split("\n") if line.strip()]


# Appendix A: a key, and its round keys, a line each.
SCHEDULE_16 = rows_from_hex("""
    2b7e1516 28aed2a6 abf71588 09cf4f3c
    a0fafe17 88542cb1 23a33939 2a6c7605
    f2c295f2 7a96b943 5935807a 7359f67f
    3d80477d 4716fe3e 1e237e44 6d7a883b
    ef44a541 a8525b7f b671253b db0bad00
    d4d1c6f8 7c839d87 caf2b8bc 11f915bc
    6d88a37a 110b3efd dbf98641 ca0093fd
    4e54f70e 5f5fc9f3 84a64fb2 4ea6dc4f
    ead27321 b58dbad2 312bf560 7f8d292f
    ac7766f3 19fadc21 28d12941 575c006e
    d014f9a8 c9ee2589 e13f0cc8 b6630ca6
""")
SCHEDULE_24 = rows_from_hex("""
    8e73b0f7 da0e6452 c810f32b 809079e5
    62f8ead2 522c6b7b fe0c91f7 2402f5a5
    ec12068e 6c827f6b 0e7a95b9 5c56fec2
    4db7b4bd 69b54118 85a74796 e92538fd
    e75fad44 bb095386 485af057 21efb14f
    a448f6d9 4d6dce24 aa326360 113b30e6
    a25e7ed5 83b1cf9a 27f93943 6a94f767
    c0a69407 d19da4e1 ec1786eb 6fa64971
    485f7032 22cb8755 e26d1352 33f0b7b3
    40beeb28 2f18a259 6747d26b 458c553e
    a7e1466c 9411f1df 821f750a ad07d753
    ca400538 8fcc5006 282d166a bc3ce7b5
    e98ba06f 448c773c 8ecc7204 01002202
""")
SCHEDULE_32 = rows_from_hex("""
    603deb10 15ca71be 2b73aef0 857d7781
    1f352c07 3b6108d7 2d9810a3 0914dff4
    9ba35411 8e6925af a51a8b5f 2067fcde
    a8b09c1a 93d194cd be49846e b75d5b9a
    d59aecb8 5bf3c917 fee94248 de8ebe96
    b5a9328a 2678a647 98312229 2f6c79b3
    812c81ad dadf48ba 24360af2 fab8b464
    98c5bfc9 bebd198e 268c3ba7 09e04214
    68007bac b2df3316 96e939e4 6c518d80
    c814e204 76a9fb8a 5025c02d 59c58239
    de136967 6ccc5a71 fa256395 9674ee15
    5886ca5d 2e2f31d7 7e0af1fa 27cf73c3
    749c47ab 18501dda e2757e4f 7401905a
    cafaaae3 e4d59b34 9adf6ace bd10190d
    fe4890d1 e6188d0b 046df344 706c631e
""")

# Appendices B and C: the key, the text, and the state at the start of each
# round, the cipher's output last.
KEY_B = from_hex("2b7e151628aed2a6abf7158809cf4f3c")
TEXT_B = from_hex("3243f6a8885a308d313198a2e0370734")
STATES_B = rows_from_hex("""
    193de3bea0f4e22b9ac68d2ae9f84808
    a49c7ff2689f352b6b5bea43026a5049
    aa8f5f0361dde3ef82d24ad26832469a
    486c4eee671d9d0d4de3b138d65f58e7
    e0927fe8c86363c0d9b1355085b8be01
    f1006f55c1924cef7cc88b325db5d50c
    260e2e173d41b77de86472a9fdd28b25
    5a4142b11949dc1fa3e019657a8c040c
    ea835cf00445332d655d98ad8596b0c5
    eb40f21e592e38848ba113e71bc342d2
    3925841d02dc09fbdc118597196a0b32
""")
KEY_C1 = from_hex("000102030405060708090a0b0c0d0e0f")
TEXT_C1 = from_hex("00112233445566778899aabbccddeeff")
STATES_C1 = rows_from_hex("""
    00102030405060708090a0b0c0d0e0f0
    89d810e8855ace682d1843d8cb128fe4
    4915598f55e5d7a0daca94fa1f0a63f7
    fa636a2825b339c940668a3157244d17
    247240236966b3fa6ed2753288425b6c
    c81677bc9b7ac93b25027992b0261996
    c62fe109f75eedc3cc79395d84f9cf5d
    d1876c0f79c4300ab45594add66ff41f
    fde3bad205e5d0d73547964ef1fe37f1
    bd6e7c3df2b5779e0b61216e8b10b689
    69c4e0d86a7b0430d8cdb78070b4c55a
""")
KEY_C2 = from_hex("000102030405060708090a0b0c0d0e0f1011121314151617")
TEXT_C2 = from_hex("00112233445566778899aabbccddeeff")
STATES_C2 = rows_from_hex("""
    00102030405060708090a0b0c0d0e0f0
    4f63760643e0aa85aff8c9d041fa0de4
    cb02818c17d2af9c62aa64428bb25fd7
    f75c7778a327c8ed8cfebfc1a6c37f53
    22ffc916a81474416496f19c64ae2532
    80121e0776fd1d8a8d8c31bc965d1fee
    671ef1fd4e2a1e03dfdcb1ef3d789b30
    0c0370d00c01e622166b8accd6db3a2c
    7255dad30fb80310e00d6c6b40d0527c
    a906b254968af4e9b4bdb2d2f0c44336
    88ec930ef5e7e4b6cc32f4c906d29414
    afb73eeb1cd1b85162280f27fb20d585
    dda97ca4864cdfe06eaf70a0ec0d7191
""")
KEY_C3 = from_hex("000102030405060708090a0b0c0d0e0f101112131415161718191a1b1c1d1e1f")
TEXT_C3 = from_hex("00112233445566778899aabbccddeeff")
STATES_C3 = rows_from_hex("""
    00102030405060708090a0b0c0d0e0f0
    4f63760643e0aa85efa7213201a4e705
    1859fbc28a1c00a078ed8aadc42f6109
    975c66c1cb9f3fa8a93a28df8ee10f63
    1c05f271a417e04ff921c5c104701554
    c357aae11b45b7b0a2c7bd28a8dc99fa
    7f074143cb4e243ec10c815d8375d54c
    d653a4696ca0bc0f5acaab5db96c5e7d
    5aa858395fd28d7d05e1a38868f3b9c5
    4a824851c57e7e47643de50c2af3e8c9
    c14907f6ca3b3aa070e9aa313b52b5ec
    5f9c6abfbac634aa50409fa766677653
    516604954353950314fb86e401922521
    627bceb9999d5aaac945ecf423f56da5
    8ea2b7ca516745bfeafc49904b496089
""")

# Appendix C, the equivalent way back: the state at the start of each round, the
# text again last.
STATES_BACK_C1 = rows_from_hex("""
    7ad5fda789ef4e272bca100b3d9ff59f
    54d990a16ba09ab596bbf40ea111702f
    3e1c22c0b6fcbf768da85067f6170495
    b458124c68b68a014b99f82e5f15554c
    e8dab6901477d4653ff7f5e2e747dd4f
    36339d50f9b539269f2c092dc4406d23
    2d6d7ef03f33e334093602dd5bfb12c7
    3bd92268fc74fb735767cbe0c0590e2d
    a7be1a6997ad739bd8c9ca451f618b61
    6353e08c0960e104cd70b751bacad0e7
    00112233445566778899aabbccddeeff
""")
STATES_BACK_C2 = rows_from_hex("""
    793e76979c3403e9aab7b2d10fa96ccc
    c494bffae62322ab4bb5dc4e6fce69dd
    d37e3705907a1a208d1c371e8c6fbfb5
    406c501076d70066e17057ca09fc7b7f
    fe7c7e71fe7f807047b95193f67b8e4b
    85e5c8042f8614549ebca17b277272df
    cd54c7283864c0c55d4c727e90c9a465
    93faa123c2903f4743e4dd83431692de
    68cc08ed0abbd2bc642ef555244ae878
    1fb5430ef0accf64aa370cde3d77792c
    84e1dd691a41d76f792d389783fbac70
    6353e08c0960e104cd70b751bacad0e7
    00112233445566778899aabbccddeeff
""")
STATES_BACK_C3 = rows_from_hex("""
    aa5ece06ee6e3c56dde68bac2621bebf
    d1ed44fd1a0f3f2afa4ff27b7c332a69
    cfb4dbedf4093808538502ac33de185c
    78e2acce741ed5425100c5e0e23b80c7
    d6f3d9dda6279bd1430d52a0e513f3fe
    beb50aa6cff856126b0d6aff45c25dc4
    f6e062ff507458f9be50497656ed654c
    d22f0c291ffe031a789d83b2ecc5364c
    2e6e7a2dafc6eef83a86ace7c25ba934
    9cf0a62049fd59a399518984f26be178
    88db34fb1f807678d3f833c2194a759e
    ad9c7e017e55ef25bc150fe01ccb6395
    84e1fd6b1a5c946fdf4938977cfbac23
    6353e08c0960e104cd70b751bacad0e7
    00112233445566778899aabbccddeeff
""")

EXAMPLES = [(KEY_B, TEXT_B, STATES_B), (KEY_C1, TEXT_C1, STATES_C1), (KEY_C2, TEXT_C2, STATES_C2),
            (KEY_C3, TEXT_C3, STATES_C3)]
EXAMPLES_BACK = [(KEY_C1, TEXT_C1, STATES_C1, STATES_BACK_C1), (KEY_C2, TEXT_C2, STATES_C2, STATES_BACK_C2),
                 (KEY_C3, TEXT_C3, STATES_C3, STATES_BACK_C3)]

# The counter mode's examples: the key, the first counter's text, what is only
# tagged, the text, the ciphertext, the tag's own function of the last two
# with their lengths, and the tag.
LONG_TEXT = from_hex("""
    d9313225f88406e5a55909c5aff5269a 86a7a9531534f7da2e4c303d8a318a72
    1c3c0c95956809532fcf0e2449a6b525 b16aedf5aa0de657ba637b391aafd255
""")
BESIDE = from_hex("feedfacedeadbeeffeedfacedeadbeefabaddad2")
KEY_G = from_hex("feffe9928665731c6d6a8f9467308308")
START_G = from_hex("cafebabefacedbaddecaf888")
SEALED = [
    ([0] * 16, [0] * 12, [], [], [],
     from_hex("00000000000000000000000000000000"), from_hex("58e2fccefa7e3061367f1d57a4e7455a")),
    ([0] * 16, [0] * 12, [], [0] * 16, from_hex("0388dace60b6a392f328c2b971b2fe78"),
     from_hex("f38cbb1ad69223dcc3457ae5b6b0f885"), from_hex("ab6e47d42cec13bdf53a67b21257bddf")),
    (KEY_G, START_G, [], LONG_TEXT, from_hex("""
        42831ec2217774244b7221b784d0d49c e3aa212f2c02a4e035c17e2329aca12e
        21d514b25466931c7d8f6a5aac84aa05 1ba30b396a0aac973d58e091473f5985
     """), from_hex("7f1b32b81b820d02614f8895ac1d4eac"), from_hex("4d5c2af327cd64a62cf35abd2ba6fab4")),
    (KEY_G, START_G, BESIDE, LONG_TEXT[:60], from_hex("""
        42831ec2217774244b7221b784d0d49c e3aa212f2c02a4e035c17e2329aca12e
        21d514b25466931c7d8f6a5aac84aa05 1ba30b396a0aac973d58e091
     """), from_hex("698e57f70e6ecc7fd9463b7260a9ae5f"), from_hex("5bc94fbc3221a5db94fae95ae7121a47")),
    (KEY_G + KEY_G[:8], START_G, BESIDE, LONG_TEXT[:60], from_hex("""
        3980ca0b3c00e841eb06fac4872a2757 859e1ceaa6efd984628593b40ca1e19c
        7d773d00c144c525ac619d18c84a3f47 18e2448b2fe324d9ccda2710
     """), from_hex("ed2ce3062e4a8ec06db8b4c490e8a268"), from_hex("2519498e80f1478f37ba55bd6d27618c")),
    (KEY_G + KEY_G, START_G, BESIDE, LONG_TEXT[:60], from_hex("""
        522dc1f099567d07f47f37a32a84427d 643a8cdcbfe5c0c97598a2bd2555d1aa
        8cb08e48590dbb3da7b08b1056828838 c5f61e6393ba7a0abcc9f662
     """), from_hex("8bd0c4d8aacd391e67cca447e8c38f65"), from_hex("76fc6ece0f4e1768cddf8853bb2d551b")),
]

# The digests: the words at the start, and the digests of texts.
START_160 = [0x67452301, 0xEFCDAB89, 0x98BADCFE, 0x10325476, 0xC3D2E1F0]
TWO_BLOCKS = "abcdbcdecdefdefgefghfghighijhijkijkljklmklmnlmnomnopnopq"
DIGESTS_160 = {
    "": "da39a3ee5e6b4b0d3255bfef95601890afd80709",
    "abc": "a9993e364706816aba3e25717850c26c9cd0d89d",
    TWO_BLOCKS: "84983e441c3bd26ebaae4aa1f95129e5e54670f1",
}
START_256 = [0x6A09E667, 0xBB67AE85, 0x3C6EF372, 0xA54FF53A, 0x510E527F, 0x9B05688C, 0x1F83D9AB, 0x5BE0CD19]
DIGESTS_256 = {
    "": "e3b0c44298fc1c149afbf4c8996fb92427ae41e4649b934ca495991b7852b855",
    "abc": "ba7816bf8f01cfea414140de5dae2223b00361a396177a9cb410ff61f20015ad",
    TWO_BLOCKS: "248d6a61d20638b8e5c026930c3e6039a33ce45964ff2167f6ecedd419db06c1",
}
