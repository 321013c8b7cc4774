"""Point [56], and [66] of grounds: grounds told and read as texts."""

import random
import unittest

from lawsleft.grounds import is_ground
from lawsleft.groundtexts import print_ground, read_ground
from tests.samples import BARE, JUNK, SENDING, WIDE, refusal

TOLD = "cells a 2, b 3; deeds send 5; exits done, full"
GROUND = ((("a", 2), ("b", 3)), (("send", 5),), ("done", "full"))
MOST = ((("a", 2), ("b", 2), ("c", 4), ("d", 4)), (("k", 99), ("m", 1), ("p", 10)), ("done", "full", "lost", "gone"))
MOST_TOLD = "cells a 2, b 2, c 4, d 4; deeds k 99, m 1, p 10; exits done, full, lost, gone"


def listed(part, many):
    """Return the sorts of so many entries, n for a name and 0 for a number."""
    return ",".join([part] * many).replace(",", " , ").split()


SENTENCES = [
    ["cells"] + listed("n 0", cells) + [";", "deeds"] + listed("n 0", kinds) + [";", "exits"] + listed("n", exits)
    for cells in range(5) for kinds in range(4) for exits in range(1, 5)
]


class Read(unittest.TestCase):
    def refused(self, text, word, place):
        self.assertEqual(refusal(read_ground, text), (word, place))

    def test_the_examples(self):
        self.assertEqual(read_ground(TOLD), GROUND)
        self.assertEqual(read_ground(text="cells; deeds; exits done"), BARE)
        self.assertEqual(read_ground("cells a 2; deeds send 5, log 1; exits done, full"),
                         ((("a", 2),), (("send", 5), ("log", 1)), ("done", "full")))
        self.assertEqual(read_ground("cells c 2; deeds send 5; exits done, full"),
                         ((("c", 2),), (("send", 5),), ("done", "full")))

    def test_blanks(self):
        self.assertEqual(read_ground("  cells a 2,b 3;deeds send 5;exits done,full  "), GROUND)
        self.assertEqual(read_ground("cells   a   2  ,  b   3   ; deeds  send 5 ;exits done  , full"), GROUND)
        self.assertEqual(read_ground("cells;deeds;exits done"), BARE)

    def test_how_many_there_may_be(self):
        self.assertEqual(read_ground(MOST_TOLD), MOST)
        self.refused("cells a 1, b 1, c 1, d 1, e 1; deeds; exits done", "TooMany", 26)
        self.refused("cells; deeds a 1, b 1, c 1, d 1; exits done", "TooMany", 28)
        self.refused("cells; deeds; exits a, b, c, d, e", "TooMany", 32)
        self.refused("cells a 1, b 1, c 1, d 1, a 1; deeds; exits done", "TooMany", 26)
        self.refused("cells; deeds a 1, b 1, c 1, b 1; exits done", "TooMany", 28)
        self.refused("cells; deeds; exits a, b, c, d, a", "TooMany", 32)

    def test_words_that_cannot_stand(self):
        self.refused("", "BadText", 0)
        self.refused("deeds; cells; exits done", "BadText", 0)
        self.refused("cells, deeds; exits done", "BadText", 5)
        self.refused("cells a; deeds; exits done", "BadText", 7)
        self.refused("cells a 2 b 3; deeds; exits done", "BadText", 10)
        self.refused("cells a 2,; deeds; exits done", "BadText", 10)
        self.refused("cells ,a 2; deeds; exits done", "BadText", 6)
        self.refused("cells 2 a; deeds; exits done", "BadText", 6)
        self.refused("cells a -1; deeds; exits done", "BadText", 8)
        self.refused("cells a 02; deeds; exits done", "BadText", 8)
        self.refused("cells; deeds k; exits done", "BadText", 14)
        self.refused("cells; deeds; exits", "BadText", 19)
        self.refused("cells; deeds; exits;", "BadText", 19)
        self.refused("cells; deeds; exits done;", "BadText", 24)
        self.refused("cells; deeds; exits done full", "BadText", 25)
        self.refused("cells; deeds; exits done 1", "BadText", 25)
        self.refused("cells; deeds exits done", "BadText", 13)
        self.refused("cells; deeds; exits done, law", "BadText", 26)
        self.refused("cells; deeds; exits abcdefghijklm", "BadText", 20)

    def test_each_word_left_out_put_in_and_exchanged(self):
        words = TOLD.replace(",", " ,").replace(";", " ;").split()
        for at in range(len(words) + 1):
            self.judged(words[:at] + words[at + 1:])
            for other in ("cells", "deeds", "exits", "q", "3", ",", ";", ":", "2a", "law"):
                self.judged(words[:at] + [other] + words[at:])
                self.judged(words[:at] + [other] + words[at + 1:])

    def judged(self, words):
        """Ask that these words are read, or refused at the first one with which no ground goes on."""
        sorts = ["n" if word in ("a", "b", "q", "send", "done", "full") else "0" if word.isdigit() else word for word in words]
        met = 0
        for sentence in SENTENCES:
            met = max(met, next((index for index, (one, two) in enumerate(zip(sorts, sentence)) if one != two),
                                min(len(sorts), len(sentence))))
        text = " ".join(words)
        expected = None if sorts in SENTENCES else ("BadText", len(" ".join(words[:met])) + (0 < met < len(words)))
        self.assertEqual(refusal(read_ground, text), expected, text)

    def test_names_that_stand_further_left(self):
        self.refused("cells a 2, a 3; deeds; exits done", "Twice", 11)
        self.refused("cells a 2; deeds b 1, b 1; exits done", "Twice", 22)
        self.refused("cells a 2; deeds a 1; exits done", "Twice", 17)
        self.refused("cells; deeds; exits a, a", "Twice", 23)
        self.refused("cells a 2; deeds; exits a", "Twice", 24)
        self.refused("cells; deeds k 2; exits a, k", "Twice", 27)

    def test_sizes_and_prices(self):
        for size in range(1, 9):
            self.assertEqual(read_ground("cells a " + str(size) + "; deeds; exits x")[0], (("a", size),))
        for size in (0, 9, 10, 64, 999999):
            self.refused("cells a " + str(size) + "; deeds; exits x", "BadNumber", 8)
        for price in (1, 9, 10, 99):
            self.assertEqual(read_ground("cells; deeds k " + str(price) + "; exits x")[1], (("k", price),))
        for price in (0, 100, 999999):
            self.refused("cells; deeds k " + str(price) + "; exits x", "BadNumber", 15)

    def test_sizes_that_multiply_to_too_many_states(self):
        self.assertEqual(read_ground("cells a 8, b 8, c 1, d 1; deeds; exits x")[0][3], ("d", 1))
        self.refused("cells a 8, b 8, c 2; deeds; exits x", "TooMany", 18)
        self.refused("cells a 5, b 5, c 3; deeds; exits x", "TooMany", 18)
        self.refused("cells a 8, b 8, c 2, c 9; deeds; exits x", "TooMany", 18)
        self.refused("cells a 8, b 8, c 9; deeds; exits x", "BadNumber", 18)
        self.refused("cells a 8, b 8, a 2; deeds; exits x", "Twice", 16)
        self.assertEqual(read_ground("cells a 4, b 4, c 4; deeds; exits x")[0], (("a", 4), ("b", 4), ("c", 4)))
        self.refused("cells a 4, b 4, c 4, d 2; deeds; exits x", "TooMany", 23)

    def test_a_text_is_refused_for_its_first_wrong_word(self):
        self.refused("cells a 0, a 0", "BadNumber", 8)
        self.refused("cells a 2, a 0", "Twice", 11)
        self.refused("cells a 2, a", "Twice", 11)
        self.refused("cells a 9; ;", "BadNumber", 8)


class Told(unittest.TestCase):
    def test_the_examples(self):
        self.assertEqual(print_ground(GROUND), TOLD)
        self.assertEqual(print_ground(ground=BARE), "cells; deeds; exits done")
        self.assertEqual(print_ground(MOST), MOST_TOLD)
        self.assertEqual(print_ground(SENDING), "cells c 2; deeds send 1; exits done, full")

    def test_there_and_back(self):
        chance = random.Random(7)
        for _ in range(300):
            names = chance.sample(["a", "b1", "cell", "abcdefghijkl", "x0", "done", "put", "say", "k", "z9z"], 10)
            cells = tuple((names.pop(), chance.randint(1, 8)) for _ in range(chance.randint(0, 4)))
            kinds = tuple((names.pop(), chance.randint(1, 99)) for _ in range(chance.randint(0, 3)))
            ground = (cells, kinds, tuple(names[:chance.randint(1, min(4, len(names)))]))
            if not is_ground(ground):
                self.assertEqual(refusal(print_ground, ground), ("BadGround", (0, -1)))
                continue
            told = print_ground(ground)
            self.assertEqual(read_ground(told), ground)
            self.assertEqual(print_ground(read_ground(told.replace(",", " , ").replace(" ", "  "))), told)

    def test_wrong_grounds(self):
        self.assertEqual(refusal(print_ground, ((), (), ())), ("BadGround", (2, -1)))
        self.assertEqual(refusal(print_ground, (WIDE[0], WIDE[1], ("a",))), ("BadGround", (2, 0)))
        for thing in JUNK:
            self.assertEqual(refusal(print_ground, thing)[0], "BadGround")


if __name__ == "__main__":
    unittest.main()
