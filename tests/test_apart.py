"""Promise [8], and [2] and [3] where they speak of signs that are kept apart."""

import random
import unittest

from helps import SIGN_LOOKS, SIGNS, drawn_signs, grown_signs, things_look_alike
from palmhall.apart import most_apart


def most_by_search(signs):
    """The greatest number of signs that are apart, by trying all choices."""
    if not signs:
        return 0
    first, rest = signs[0], signs[1:]
    clear = [sign for sign in rest if not things_look_alike(first, sign)]
    with_first = 1 + most_by_search(clear)
    if len(clear) == len(rest):
        return with_first
    return max(with_first, most_by_search(rest))


class Apart(unittest.TestCase):
    def check(self, signs):
        before = list(signs)
        told = most_apart(signs)
        self.assertEqual(signs, before)
        self.assertIs(type(told), tuple)
        kept, pairs = told
        self.assertIs(type(kept), list)
        self.assertIs(type(pairs), list)
        self.check_kept(signs, kept)
        self.check_pairs(signs, pairs)
        self.assertEqual(len(kept), len(signs) - len(pairs))
        return kept, pairs

    def check_kept(self, signs, kept):
        chosen = set(kept)
        self.assertEqual(kept, [sign for sign in signs if sign in chosen])
        for sign in kept:
            self.assertFalse(chosen & set(SIGN_LOOKS[sign]))

    def check_pairs(self, signs, pairs):
        paired = []
        for pair in pairs:
            self.assertIs(type(pair), tuple)
            one, other = pair
            self.assertTrue(things_look_alike(one, other))
            paired += [one, other]
        self.assertEqual(len(set(paired)), len(paired))
        self.assertLessEqual(set(paired), set(signs))

    def test_the_empty_list(self):
        self.assertEqual(most_apart([]), ([], []))

    def test_one_sign(self):
        for sign in SIGNS:
            self.assertEqual(most_apart([sign]), ([sign], []))

    def test_two_signs(self):
        one = ("in", 1, 1, "chin")
        for other in SIGNS:
            if other != one:
                kept, pairs = self.check([one, other])
                self.assertEqual(len(pairs), int(things_look_alike(one, other)))

    def test_a_star_keeps_its_rays(self):
        middle = ("in", 1, 1, "chin")
        rays = SIGN_LOOKS[middle]
        kept, pairs = self.check([middle] + rays)
        self.assertEqual(kept, rays)
        self.assertEqual(len(pairs), 1)

    def test_a_path_needs_new_partners(self):
        path = [
            ("in", 1, 1, "chin"), ("out", 1, 1, "chin"), ("out", 6, 1, "chin"),
            ("out", 6, 6, "chin"), ("out", 6, 6, "brow"), ("in", 6, 6, "brow"),
        ]
        chance = random.Random(1)
        for _ in range(200):
            chance.shuffle(path)
            self.assertEqual(len(self.check(list(path))[0]), 3)

    def test_no_choice_of_a_small_list_has_more(self):
        chance = random.Random(2)
        for many in range(17):
            for _ in range(60):
                for signs in (drawn_signs(chance, many), grown_signs(chance, max(many, 1))):
                    self.assertEqual(len(self.check(signs)[0]), most_by_search(signs))

    def test_all_lists_within_one_web_of_look_alikes(self):
        web = [
            (palm, price, 2, place)
            for palm in ("in", "out") for price in (3, 8) for place in ("chin", "brow")
        ]
        for choice in range(2 ** len(web)):
            signs = [sign for at, sign in enumerate(web) if choice >> at & 1]
            self.assertEqual(len(self.check(signs)[0]), most_by_search(signs))

    def test_lists_up_to_200(self):
        chance = random.Random(3)
        for many in list(range(1, 60, 6)) + [64, 100, 150, 199, 200]:
            for _ in range(4):
                self.check(drawn_signs(chance, many))
                self.check(grown_signs(chance, many))
        self.check(SIGNS[:200])
        self.check(SIGNS[-200:][::-1])

    def test_lists_told_are_new_each_time(self):
        signs = grown_signs(random.Random(4), 40)
        first = most_apart(signs)
        wanted = (list(first[0]), list(first[1]))
        second = most_apart(signs)
        self.assertEqual(second, wanted)
        first[0].clear()
        first[1].append("other")
        self.assertEqual(second, wanted)
        self.assertEqual(most_apart(signs), wanted)

    def test_the_list_handed_in_is_not_the_list_told(self):
        signs = [("in", 1, 1, "chin"), ("in", 2, 1, "chin")]
        kept, pairs = most_apart(signs)
        kept.clear()
        self.assertEqual(len(signs), 2)
        kept, pairs = most_apart(signs)
        signs.clear()
        self.assertEqual(len(kept), 2)


if __name__ == "__main__":
    unittest.main()
