import unittest

from checks import found_for_all
from oracles import word
from roughroads.status import needed_status, used_status
from samples import ALONE, CLEAR, LINE, ROUGH, SMALL, TWIN, drawn_webs


def words(web, kind):
    """Return for each road the word of Stage 6, by trying all lengths."""
    by_lengths = found_for_all(web, kind)
    return [word([road in roads for roads in by_lengths.values()]) for road in range(len(web[1]))]


class StatusTest(unittest.TestCase):
    def test_examples(self):
        self.assertEqual([used_status(ROUGH), needed_status(ROUGH)],
                         [["sometimes", "always", "sometimes"], ["sometimes", "sometimes", "sometimes"]])
        self.assertEqual([used_status(CLEAR), needed_status(CLEAR)],
                         [["always", "always", "never"], ["always", "always", "never"]])

    def test_against_all_lengths(self):
        seen_used, seen_needed = set(), set()
        for web in SMALL + drawn_webs(60):
            self.assertEqual(used_status(web), words(web, "used"), web)
            self.assertEqual(needed_status(web), words(web, "needed"), web)
            seen_used.update(used_status(web))
            seen_needed.update(needed_status(web))
        self.assertEqual([seen_used, seen_needed], [{"always", "sometimes", "never"}] * 2)

    def test_certain_webs(self):
        self.assertEqual([used_status(TWIN), needed_status(TWIN)], [["always"] * 2, ["never"] * 2])
        self.assertEqual([used_status(LINE), needed_status(LINE)], [["always"] * 3, ["always"] * 3])
        self.assertEqual([used_status(ALONE), needed_status(ALONE)], [[], []])
        edge = (2, ((0, 1, 0, 99), (0, 1, 99, 99)))
        self.assertEqual([used_status(edge), needed_status(edge)], [["always", "sometimes"], ["sometimes", "never"]])
        apart = (2, ((0, 1, 0, 98), (0, 1, 99, 99)))
        self.assertEqual([used_status(apart), needed_status(apart)], [["always", "never"], ["always", "never"]])


if __name__ == "__main__":
    unittest.main()
