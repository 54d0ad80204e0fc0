"""Call 1, read: texts of trees, and the fault of bytes that are none."""

import unittest

from tests.helper import clades, kinds_of, read, run, text, told_text


def nested(count):
    """A text with this many brackets within one another, of one kind more."""
    return "(" * count + "0" + "".join(f",{kind})" for kind in range(1, count + 1)) + ";"


class ReadTrees(unittest.TestCase):
    def reads(self, words, kinds, sets):
        got = run(read(3, words), clades(3))
        self.assertEqual(got, [[len(sets)], [len(sets), kinds] + sets], words)

    def test_ordinary_trees(self):
        self.reads("(1,2);", 6, [6])
        self.reads("((1,2),(3,4));", 30, [30, 24, 6])
        self.reads("((0,1,2),3,(4,5));", 63, [63, 48, 7])

    def test_parts_in_any_order(self):
        for words in ("((1,2),(3,10));", "((10,3),(1,2));", "((2,1),(10,3));", "((3,10),(2,1));"):
            self.reads(words, 1038, [1038, 1032, 6])
            self.assertEqual(run(read(0, words), text(0))[1], told_text("((1,2),(3,10));"))

    def test_one_kind(self):
        for kind in range(64):
            self.reads(f"{kind};", 2 ** kind, [])

    def test_all_kinds(self):
        words = "(" + ",".join(str(kind) for kind in range(63, -1, -1)) + ");"
        self.reads(words, 2 ** 64 - 1, [2 ** 64 - 1])

    def test_63_brackets_within_one_another(self):
        self.reads(nested(63), 2 ** 64 - 1, [2 ** (n + 1) - 1 for n in range(63, 0, -1)])

    def test_63_brackets_open_to_the_right(self):
        words = "".join(f"({kind}," for kind in range(63)) + "63" + ")" * 63 + ";"
        self.reads(words, 2 ** 64 - 1, [2 ** 64 - 2 ** n for n in range(63)])

    def test_one_digit_number_beside_longer_ones_that_begin_with_it(self):
        self.reads("(3,31);", kinds_of(3, 31), [kinds_of(3, 31)])
        self.reads("(31,3);", kinds_of(3, 31), [kinds_of(3, 31)])

    def test_takes_the_place_of_what_was_there(self):
        got = run(read(0, "(1,2);"), read(0, "7;"), clades(0))
        self.assertEqual(got, [[1], [0], [0, 128]])


class ReadFaults(unittest.TestCase):
    def fault(self, words, fault):
        got = run(read(0, "(1,2);"), read(0, words), text(0))
        self.assertEqual(got[1], [-6, fault], words)
        self.assertEqual(got[2], told_text("(1,2);"), words)

    def test_examples_of_the_document(self):
        self.fault("(3,3", 4)
        self.fault("(3,3);", 4)
        self.fault("(" * 64, 63)
        self.fault("((1,2),(3,64));", 11)
        self.fault("(5)", 2)
        self.fault("", 0)

    def test_bytes_behind_the_end(self):
        self.fault("(1,2);;", 6)
        self.fault("(1,2);\n", 6)
        self.fault("5; ", 2)
        self.fault("5;5;", 2)
        self.fault("5;)", 2)
        self.fault("5;(", 2)
        self.fault("5;,", 2)

    def test_cut_short(self):
        words = "((0,10),(3,4,(5,63)),6);"
        for length in range(len(words)):
            self.fault(words[:length], length)

    def test_cut_short_with_63_brackets(self):
        words = nested(63)
        for length in range(len(words)):
            self.fault(words[:length], length)

    def test_a_kind_twice(self):
        self.fault("(1,1);", 4)
        self.fault("(0,0);", 3)
        self.fault("(7,7);", 3)
        self.fault("(9,9);", 3)
        self.fault("(63,63);", 5)
        self.fault("((1,2),(3,2));", 11)
        self.fault("(12,(1,12));", 8)

    def test_a_kind_twice_where_no_longer_number_is_left(self):
        self.fault("(6,60,61,62,63,6", 15)
        self.fault("(60,61,62,63,6", 14)
        self.fault("(6,60,61,62,6", 13)
        self.fault("(6,60,61,62,64", 13)
        self.fault("(6,60,61,62,63)", 15)
        self.fault("(1,10,11,12,13,14,15,16,17,18,19,1", 33)

    def test_zero_in_front(self):
        self.fault("00;", 1)
        self.fault("01;", 1)
        self.fault("(0,01);", 3)
        self.fault("(1,02);", 4)

    def test_numbers_that_are_no_kinds(self):
        self.fault("64;", 1)
        self.fault("69;", 1)
        self.fault("70;", 1)
        self.fault("99;", 1)
        self.fault("100;", 2)
        self.fault("630;", 2)
        self.fault("(1,640);", 4)

    def test_signs_that_no_text_has_there(self):
        self.fault(")", 0)
        self.fault(",", 0)
        self.fault(";", 0)
        self.fault("();", 1)
        self.fault("(,1);", 1)
        self.fault("(;", 1)
        self.fault("(1,);", 3)
        self.fault("(1,,2);", 3)
        self.fault("(1,;", 3)
        self.fault("(1;", 2)
        self.fault("(1,2;", 4)
        self.fault("(1(2,3));", 2)
        self.fault("(1,2)3;", 5)
        self.fault("(1,2)(3,4);", 5)
        self.fault("(1,2));", 5)
        self.fault("(1,2),3;", 5)
        self.fault("1,2;", 1)
        self.fault("1);", 1)
        self.fault("((1,2));", 6)
        self.fault("((1,2),3", 8)

    def test_bytes_that_no_text_has(self):
        self.fault(" (1,2);", 0)
        self.fault("(1, 2);", 3)
        self.fault("(1,2) ;", 5)
        self.fault("-1;", 0)
        self.fault("(a,b);", 1)
        for byte in range(256):
            if byte not in b"0123456789(":
                self.fault(bytes([byte]), 0)
            if byte not in b"0123456789,":
                self.fault(b"(1" + bytes([byte]), 2)
            if byte not in b";":
                self.fault(b"(1,2)" + bytes([byte]), 5)

    def test_a_comma_when_no_kind_is_left(self):
        words = "(" + ",".join(str(kind) for kind in range(64))
        self.fault(words, len(words))
        self.fault(words + ",", len(words))
        self.fault(words + ",1", len(words))

    def test_kinds_that_brackets_around_still_need(self):
        words = "((" + ",".join(str(kind) for kind in range(63))
        self.fault(words, len(words))
        self.fault(words + ",", len(words))
        self.fault(words + ",63", len(words))
        self.fault(words + "),", len(words) + 2)
        self.fault(words + "),(", len(words) + 2)
        self.fault(words + "),63),", len(words) + 5)
        words = "((" + ",".join(str(kind) for kind in range(62)) + "),"
        self.fault(words + "(", len(words) + 1)
        self.fault(words + "((", len(words) + 1)
        self.fault(words + "(62)", len(words) + 3)

    def test_brackets_need_two_parts_each(self):
        self.fault("(" * 63, 63)
        self.fault("(" * 63 + "(", 63)
        self.fault("(" * 63 + "0,(", 63 + 2)
        self.fault("(" * 63 + "0,1,", 63 + 3)
        self.fault("(" * 62 + "0,(", 62 + 3)
        self.fault("(" * 62 + "0,((", 62 + 3)
        self.fault("(0," + "(" * 63, 3 + 62)

    def test_2600_bytes(self):
        self.fault("(" * 2600, 63)
        self.fault("(1,2);" + " " * 2594, 6)
        self.fault("1" * 2600, 2)
        self.fault(nested(63) + ";" * (2600 - len(nested(63))), len(nested(63)))
        self.fault(bytes(2600), 0)


if __name__ == "__main__":
    unittest.main()
