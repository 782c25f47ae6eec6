import unittest

from stampword.words import LETTERS, FreshWords, numbered_word


class Words(unittest.TestCase):
    def test_letters(self):
        self.assertEqual(len(LETTERS), 26)
        self.assertEqual(list(LETTERS), [chr(code) for code in range(ord("a"), ord("z") + 1)])

    def test_numbered_words_are_words_each_once(self):
        words = [numbered_word(number) for number in range(20000)]
        self.assertEqual(len(set(words)), 20000)
        for word in words:
            self.assertRegex(word, r"\A[a-z]{1,4}\Z")
        self.assertEqual([words[at] for at in (0, 25, 26, 701, 702)], ["a", "z", "aa", "zz", "aaa"])

    def test_a_word_stays_where_nothing_else_has_it(self):
        words = FreshWords(["a", "b"])
        self.assertEqual(words.fresh("c"), "c")
        self.assertEqual(words.fresh("d"), "d")

    def test_no_word_is_taken_or_given_twice(self):
        taken = ["a", "c", "ab"]
        words = FreshWords(taken)
        given = [words.fresh(word) for word in ["a", "b", "d", "b", "d", "a", "e", "ab", "aa"] + ["a"] * 1000]
        self.assertEqual(len(set(given + taken)), len(given) + len(taken))
        for word in given:
            self.assertRegex(word, r"\A[a-z]+\Z")
        self.assertEqual(taken, ["a", "c", "ab"])


if __name__ == "__main__":
    unittest.main()
