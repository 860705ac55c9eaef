"""The helpers of the tests themselves."""

import unittest

from keptopen.errors import InvalidPaper, NotUsable
from keptopen.kinds import is_name
from support import ANY, DRAWN, HALLS, NO_HALLS, TIGHT, WRONG_HALLS, Case, same, slow_wholes


class Helpers(Case):
    def test_same_tells_true_from_one(self):
        self.assertTrue(same((1, ("a", [None])), (1, ("a", [None]))))
        for other in (True, (1,), "1", None):
            self.assertFalse(same(1, other))
        self.assertFalse(same((1, (True,)), (1, (1,))))
        self.assertFalse(same([1], (1,)))
        self.assertFalse(same((1,), (1, 1)))

    def test_refuses_wants_just_this_error(self):
        def refuse(error):
            raise error

        self.refuses(NotUsable("m", 1), refuse, NotUsable("m", 1))
        for error in (NotUsable("m", True), NotUsable("m", 2), NotUsable("hall", 1), InvalidPaper("m", 1)):
            with self.assertRaises((AssertionError, InvalidPaper)):
                self.refuses(NotUsable("m", 1), refuse, error)
        with self.assertRaises(AssertionError):
            self.refuses(NotUsable("m", 1), is_name, "a")

    def test_halls_are_of_both_kinds(self):
        for halls in (HALLS, DRAWN, TIGHT):
            kept = [len(slow_wholes(hall)) > 0 for hall in halls]
            self.assertGreater(kept.count(True), 4)
            self.assertGreater(kept.count(False), 4)
        self.assertEqual(NO_HALLS, ANY + WRONG_HALLS)


if __name__ == "__main__":
    unittest.main()
