import unittest

from leafturner import lines

SIGNS = [chr(code) for code in range(33, 127) if code != 37]
OTHERS = [chr(code) for code in list(range(32)) + [37, 127, 128, 160, 255, 0x661, 0x2028, 0x1F600]]


class Words(unittest.TestCase):
    """[280]."""

    def test_words(self):
        self.assertEqual(lines.words_of("show"), ["show"])
        self.assertEqual(lines.words_of("machine f 2 / 1:1 0:0"), ["machine", "f", "2", "/", "1:1", "0:0"])
        self.assertEqual(lines.words_of("~ ! -"), ["~", "!", "-"])
        self.assertEqual(lines.words_of(" ".join(["w"] * 500)), ["w"] * 500)

    def test_each_sign(self):
        self.assertEqual(lines.words_of("".join(SIGNS)), ["".join(SIGNS)])
        for sign in SIGNS:
            self.assertEqual(lines.words_of(f"a {sign} b"), ["a", sign, "b"])

    def test_malformed_lines(self):
        for line in ("", " ", "  ", " a", "a ", "a  b", "a b ", " a b", "a   b", "a\tb", "a\nb", "a\n", "\n", "a\r",
                     "a % b", "%", "a%", "\u00a0"):
            self.assertIsNone(lines.words_of(line), repr(line))
        for other in OTHERS:
            for line in (other, "a" + other, "a " + other + " b"):
                self.assertIsNone(lines.words_of(line), repr(line))

    def test_lists_are_not_shared(self):
        lines.words_of("a b").append("c")
        self.assertEqual(lines.words_of("a b"), ["a", "b"])


class Names(unittest.TestCase):
    """[281]."""

    def test_names(self):
        for word in ("a", "z", "abcdefghijkl", "zzzzzzzzzzzz", "machine"):
            self.assertIs(lines.is_name(word), True)
        for word in ("", "a" * 13, "A", "aB", "a1", "1", "-", "a b", "a-", "\u00e9", "\u03b1", "a\n", "`", "{"):
            self.assertIs(lines.is_name(word), False, word)

    def test_lengths(self):
        for length in range(20):
            self.assertIs(lines.is_name("m" * length), 1 <= length <= 12)


class Numbers(unittest.TestCase):
    """[281]."""

    def test_all_numbers(self):
        for number in range(100):
            self.assertEqual(lines.number_in(str(number)), number)

    def test_no_numbers(self):
        for word in ("", "00", "01", "09", "100", "101", "999", "-", "-0", "-1", "+1", "a", "1a", "a1", "1.", " 1", "1 ",
                     "1\n", "\u0661", "\u00b2", "1_0", "0x1", "000", "1" * 5000):
            self.assertIsNone(lines.number_in(word), word[:5])


class Telling(unittest.TestCase):
    """[281] and [282]."""

    def test_told_and_untold(self):
        self.assertEqual(lines.told(""), "-")
        self.assertEqual(lines.untold("-"), "")
        for text in ("a", "0", "abAB", "0" * 60, "--", "-a"):
            self.assertEqual(lines.told(text), text)
            self.assertEqual(lines.untold(text), text)
        for text in ("", "a", "01"):
            self.assertEqual(lines.untold(lines.told(text)), text)


if __name__ == "__main__":
    unittest.main()
