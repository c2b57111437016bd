import unittest

from boundbook.plan import pile_of


def pile(rows, columns, steps):
    """The pile's leaves from the top, each as row, column, back up, head below."""
    return [(leaf.row, leaf.column, leaf.back_up, leaf.head_below) for leaf in pile_of(rows, columns, steps)]


def columns_of(columns, steps):
    """The pile of a sheet with one row: each leaf's column, and b where its back is up."""
    return " ".join([f"{leaf[1]}{'fb'[leaf[2]]}" for leaf in pile(1, columns, steps)])


class TestEachStep(unittest.TestCase):
    def test_sideways(self):
        self.assertEqual(pile(1, 2, [0]), [(0, 0, 1, 0), (0, 1, 0, 0)])
        self.assertEqual(pile(1, 2, [1]), [(0, 1, 1, 0), (0, 0, 0, 0)])
        self.assertEqual(pile(1, 2, [4]), [(0, 1, 0, 0), (0, 0, 1, 0)])
        self.assertEqual(pile(1, 2, [5]), [(0, 0, 0, 0), (0, 1, 1, 0)])
        self.assertEqual(pile(1, 2, [8]), [(0, 0, 0, 0), (0, 1, 0, 0)])
        self.assertEqual(pile(1, 2, [9]), [(0, 1, 0, 0), (0, 0, 0, 0)])

    def test_the_other_way(self):
        self.assertEqual(pile(2, 1, [2]), [(0, 0, 1, 1), (1, 0, 0, 0)])
        self.assertEqual(pile(2, 1, [3]), [(1, 0, 1, 1), (0, 0, 0, 0)])
        self.assertEqual(pile(2, 1, [6]), [(1, 0, 0, 0), (0, 0, 1, 1)])
        self.assertEqual(pile(2, 1, [7]), [(0, 0, 0, 0), (1, 0, 1, 1)])
        self.assertEqual(pile(2, 1, [10]), [(0, 0, 0, 0), (1, 0, 0, 0)])
        self.assertEqual(pile(2, 1, [11]), [(1, 0, 0, 0), (0, 0, 0, 0)])

    def test_no_step(self):
        self.assertEqual(pile(1, 1, []), [(0, 0, 0, 0)])


class TestStepsTogether(unittest.TestCase):
    def test_what_is_nearest_to_the_middle_line_stays_so(self):
        self.assertEqual(columns_of(4, [0, 0]), "2b 1f 0b 3f")
        self.assertEqual(columns_of(4, [1, 0]), "0b 3f 2b 1f")
        self.assertEqual(columns_of(4, [4, 0]), "1f 2b 3f 0b")
        self.assertEqual(columns_of(4, [5, 8]), "0f 3b 1f 2b")

    def test_what_is_cut_keeps_its_order(self):
        self.assertEqual(columns_of(4, [8, 8]), "0f 2f 1f 3f")
        self.assertEqual(columns_of(4, [9, 8]), "2f 0f 3f 1f")
        self.assertEqual(columns_of(4, [8, 0]), "2b 0b 1f 3f")

    def test_both_ways(self):
        self.assertEqual(pile(2, 2, [0, 2]), [(0, 1, 1, 1), (0, 0, 0, 1), (1, 0, 1, 0), (1, 1, 0, 0)])
        self.assertEqual(pile(2, 2, [10, 5]), [(0, 0, 0, 0), (1, 0, 0, 0), (1, 1, 1, 0), (0, 1, 1, 0)])

    def test_a_head_turned_twice_is_above(self):
        self.assertEqual(pile(4, 1, [2, 2]), [(2, 0, 1, 1), (1, 0, 0, 0), (0, 0, 1, 1), (3, 0, 0, 0)])

    def test_rows_by_columns(self):
        self.assertEqual(len(pile(8, 4, [0, 2, 8, 6, 11])), 32)
        self.assertEqual(len(pile(4, 8, [0, 2, 8, 6, 1])), 32)


def move_leaf(leaf, step, size, height):
    axis = 0 if step % 4 < 2 else 1
    middle = size[axis] // 2
    first_half = leaf["at"][axis] < middle
    if first_half != (step % 2 == 0):
        leaf["at"][axis] %= middle
        leaf["z"] += height if 4 <= step < 8 else 0
        return
    if step >= 8:
        leaf["at"][axis] %= middle
        leaf["z"] += height
        return
    leaf["at"][axis] = (size[axis] - 1 - leaf["at"][axis]) % middle
    leaf["back"] ^= 1
    leaf["head"] ^= axis
    leaf["z"] = height - 1 - leaf["z"] + (height if step < 4 else 0)


def pile_by_moving(rows, columns, steps):
    """The pile once more, told by where each single leaf comes to lie."""
    leaves = [{"row": r, "column": c, "at": [c, r], "z": 0, "back": 0, "head": 0}
              for r in range(rows) for c in range(columns)]
    size = [columns, rows]
    height = 1
    for step in steps:
        for leaf in leaves:
            move_leaf(leaf, step, size, height)
        size[0 if step % 4 < 2 else 1] //= 2
        height *= 2
    assert sorted(leaf["z"] for leaf in leaves) == list(range(rows * columns))
    leaves.sort(key=lambda leaf: -leaf["z"])
    return [(leaf["row"], leaf["column"], leaf["back"], leaf["head"]) for leaf in leaves]


def plans(rows, columns):
    """Every plan there is for such a sheet."""
    if rows == 1 and columns == 1:
        yield []
    for step in range(12):
        if step % 4 < 2 and columns > 1:
            for rest in plans(rows, columns // 2):
                yield [step] + rest
        if step % 4 >= 2 and rows > 1:
            for rest in plans(rows // 2, columns):
                yield [step] + rest


class TestAgainstMovingEachLeaf(unittest.TestCase):
    def test_every_plan_of_up_to_eight_places(self):
        for rows, columns in ((1, 2), (2, 1), (2, 2), (1, 4), (4, 1), (2, 4), (4, 2), (1, 8), (8, 1)):
            for steps in plans(rows, columns):
                expected = pile_by_moving(rows, columns, steps)
                self.assertEqual(pile(rows, columns, steps), expected, (rows, columns, steps))


class TestPlansThatCannotBe(unittest.TestCase):
    def test_what_is_not_even(self):
        for step in range(12):
            self.assertIsNone(pile_of(1, 1, [step]))
            self.assertIsNone(pile_of(2, 1, [step]) if step % 4 < 2 else pile_of(1, 2, [step]))

    def test_more_than_one_place_is_left(self):
        for rows, columns, steps in ((1, 2, []), (2, 1, []), (2, 2, [0]), (2, 2, [2]), (1, 4, [0])):
            self.assertIsNone(pile_of(rows, columns, steps))

    def test_going_on_behind_one_place(self):
        for step in range(12):
            self.assertIsNone(pile_of(1, 2, [0, step]))


if __name__ == "__main__":
    unittest.main()
