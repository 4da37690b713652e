import unittest

from tests.helpers import ask, changed, fill, form_of, load, load_numbers, loaded, set_own, written

FOUR_COLUMNS = "a:number;b:number;c:number;d:number;"
FOUR_TABLES = "table a{}table b{}table c{}table d{}"


class Holding(unittest.TestCase):
    def test_the_empty_text(self):
        self.assertEqual(loaded(""), [0, 0, 0])
        self.assertEqual(loaded(" \t\r\n# nothing"), [0, 0, 0])
        self.assertEqual(loaded("#"), [0, 0, 0])

    def test_tables_and_columns_are_counted(self):
        self.assertEqual(loaded("table p { a: number from 0 to 9; b: number from 0 to 9; }"), [0, 1, 2])
        self.assertEqual(loaded("table t{}"), [0, 1, 0])
        self.assertEqual(loaded("table t{" + FOUR_COLUMNS + "}table u{" + FOUR_COLUMNS + "}"), [0, 2, 8])
        self.assertEqual(loaded(FOUR_TABLES), [0, 4, 0])

    def test_each_kind_of_column(self):
        for kind in ("number", "number from 1 to 2", "number from -2 to -1", "number from -0 to 0",
                     "number from -1000000 to 1000000", "number from 7 to 7", "ref t", "ref t none",
                     "ref t cascade", "ref t none cascade", "ref t none clear"):
            self.assertEqual(loaded("table t { c: " + kind + "; }"), [0, 1, 1], kind)
            self.assertEqual(loaded("table t { c: " + kind + " unique; }"), [0, 1, 1], kind)

    def test_references_to_this_table_and_to_a_later_one(self):
        self.assertEqual(loaded("table a{x:ref a;y:ref c;}table b{x:ref a;}table c{}"), [0, 3, 3])

    def test_blanks_and_remarks_part_tokens(self):
        self.assertEqual(loaded("table\tt\r{\nc # c: \x01\xff table }\n:number# the end ;\n;}#"), [0, 1, 1])
        self.assertEqual(loaded("table#\nt#\n{c:number from#1\n1 to 2;}"), [0, 1, 1])

    def test_each_of_the_four_blanks_parts_two_words(self):
        for blank in "\t\n\r ":
            self.assertEqual(loaded("table" + blank + "t{}"), [0, 1, 0], ord(blank))

    def test_no_other_byte_parts_tokens(self):
        for byte in list(range(0, 9)) + [11, 12] + list(range(14, 32)) + list(range(127, 256)):
            self.assertEqual(loaded("table" + chr(byte) + "t{}"), [1, 1, 5], byte)

    def test_tokens_may_touch(self):
        self.assertEqual(loaded("table t{c:number from 1to 2;}"), [0, 1, 1])
        self.assertEqual(loaded("table t{c:number from-1to-1unique;}"), [0, 1, 1])

    def test_names(self):
        self.assertEqual(loaded("table abcdefghij_9 { z_: number; tables: number; }"), [0, 1, 2])
        self.assertEqual(loaded("table t { t: number; } table u { t: number; u: number; }"), [0, 2, 3])


class Faults(unittest.TestCase):
    def fault(self, text, kind, place):
        self.assertEqual(loaded(text), [1, kind, place], text)

    def test_1_a_byte_that_begins_no_token(self):
        for sign in "A_.?,\"/<|~@[`Z\x00\xff":
            self.fault(sign, 1, 0)
        self.fault("table _t{}", 1, 6)
        self.fault("table T{}", 1, 6)
        self.fault("table tT{}", 1, 7)
        self.fault("table t{}  $", 1, 11)
        self.fault("table t{c:number from +1 to 2;}", 1, 22)

    def test_2_a_word_too_long(self):
        self.fault("table abcdefghijklm{}", 2, 6)
        self.fault("tableabcdefgh t{}", 2, 0)
        self.fault("table t{abc4567_9abcd:number;}", 2, 8)
        self.assertEqual(loaded("table abcdefghijkl{}"), [0, 1, 0])

    def test_2_a_number_not_as_told(self):
        for number in ("00", "01", "007", "1000001", "9999999", "12345678", "0000000000", "1" * 4000):
            self.fault("table t{c:number from " + number + " to 2;}", 2, 22)
            self.fault("table t{c:number from 0 to " + number + ";}", 2, 27)
            self.fault("table t{c:number from -" + number + " to 2;}", 2, 23)
        self.assertEqual(loaded("table t{c:number from 0 to 1000000;}"), [0, 1, 1])

    def test_2_counts_also_where_such_a_token_may_not_stand(self):
        self.fault("00", 2, 0)
        self.fault("table 00", 2, 6)
        self.fault("abcdefghijklm", 2, 0)
        self.fault("table t abcdefghijklm", 2, 8)

    def test_3_a_token_that_cannot_stand(self):
        for text, place in (("tables", 0), ("1", 0), ("{", 0), ("number", 0), ("}", 0), ("table 1", 6),
                            ("table {", 6), ("table t;", 7), ("table t t", 8), ("table t{}}", 9),
                            ("table t{;", 8), ("table t{1", 8), ("table t{c;", 9), ("table t{c number", 10),
                            ("table t{c:c", 10), ("table t{c:;", 10), ("table t{c:unique", 10),
                            ("table t{c:number:", 16), ("table t{c:number}", 16), ("table t{c:number 1", 17),
                            ("table t{c:number none", 17), ("table t{c:number clear", 17),
                            ("table t{c:number to", 17), ("table t{c:number from to", 22),
                            ("table t{c:number from --1", 23), ("table t{c:number from 1 2", 24),
                            ("table t{c:number from 1;", 23), ("table t{c:number from 1 to;", 26),
                            ("table t{c:number from 1 to - a", 29), ("table t{c:number from 1 to 2 from", 29),
                            ("table t{c:number unique unique", 24), ("table t{c:number unique from", 24)):
            self.fault(text, 3, place)

    def test_3_in_references(self):
        for rest, place in ((";", 13), (" 1", 14), (" none", 14), (" t;;", 16), (" t none none", 21),
                            (" t cascade none", 24), (" t cascade clear", 24), (" t cascade cascade", 24),
                            (" t none clear cascade", 27), (" t none cascade clear", 29),
                            (" t none clear clear", 27), (" t unique none", 23), (" t unique clear", 23),
                            (" t from", 16), (" t u", 16), (" t}", 15)):
            self.fault("table t{c:ref" + rest, 3, place)

    def test_3_the_nine_words_are_no_names(self):
        for word in ("table", "number", "from", "to", "ref", "none", "cascade", "clear", "unique"):
            self.fault("table " + word + "{}", 3, 6)
            self.fault("table t{" + word + ":number;}", 3, 8)
            self.fault("table t{c:ref " + word + ";}", 3, 14)

    def test_4_the_text_ends_early(self):
        whole = "table t { c : number from - 1 to - 0 unique ; d : ref t none clear ; }"
        parts = whole.split(" ")
        for count in range(1, len(parts)):
            text = " ".join(parts[:count])
            self.fault(text, 4, len(text))
        self.assertEqual(loaded(whole), [0, 1, 2])
        self.fault("table t{ ", 4, 9)
        self.fault("table t{ # }", 4, 12)

    def test_5_a_fifth_table(self):
        self.fault(FOUR_TABLES + " table", 5, 37)
        self.fault(FOUR_TABLES + "table a{", 5, 36)
        self.fault(FOUR_TABLES + "a", 3, 36)
        self.fault(FOUR_TABLES + "A", 1, 36)
        self.fault(FOUR_TABLES + "tabletabletable", 2, 36)

    def test_5_a_fifth_column_whatever_stands_there(self):
        start = "table t{" + FOUR_COLUMNS
        for rest in ("e:number;}", "a", "table", "1", "00", "abcdefghijklm", "A", "\xff", ";", ":", "{", "-"):
            self.fault(start + rest, 5, len(start))
            self.fault(start + " #\n" + rest, 5, len(start) + 3)
        self.fault(start, 5, len(start))
        self.fault(start + " # }", 5, len(start) + 4)
        self.assertEqual(loaded(start + "}"), [0, 1, 4])

    def test_6_a_name_twice(self):
        self.fault("table t{}table t", 6, 15)
        self.fault("table t{}table u{}table t{}", 6, 24)
        self.fault("table t{c:number;d:number;c", 6, 26)
        self.fault("table t{c:number; c:", 6, 18)

    def test_8_a_range_the_wrong_way_round(self):
        self.fault("table t{c:number from 2 to 1;}", 8, 27)
        self.fault("table t{c:number from -1 to -2;}", 8, 28)
        self.fault("table t{c:number from 0 to - 1", 8, 27)
        self.fault("table t{c:number from 2 to 1", 8, 27)
        self.fault("table t{c:number from 2 to -", 4, 28)
        self.fault("table t{c:number from 2 to -;", 3, 28)
        self.fault("table t{c:number from 2 to -01;", 2, 28)

    def test_8_clear_where_none_is_not_allowed(self):
        self.fault("table t{c:ref t clear;}", 8, 16)
        self.fault("table t{c:ref nowhere clear", 8, 22)

    def test_7_a_reference_to_no_table(self):
        self.fault("table t{c:ref u;}", 7, 14)
        self.fault("table t{c:ref t;d:ref v;e:ref u;}table u{f:ref w;}", 7, 22)
        self.fault("table t{c:number;d:ref c;}", 7, 23)

    def test_7_only_if_there_is_no_other_fault(self):
        self.fault("table t{c:ref u;}A", 1, 17)
        self.fault("table t{c:ref u;}00", 2, 17)
        self.fault("table t{c:ref u;};", 3, 17)
        self.fault("table t{c:ref u;", 4, 16)
        self.fault("table t{c:ref u;}table t{}", 6, 23)
        self.fault("table t{c:ref u;d:number from 1 to 0;}", 8, 35)

    def test_of_two_faults_the_first_one(self):
        self.fault("table t{c:number from 3 to 2;} A", 8, 27)
        self.fault("table 1 A", 3, 6)
        self.fault("table A 1", 1, 6)
        self.fault("table abcdefghijklm A", 2, 6)
        self.fault("table t{} table t{A", 6, 16)


class Refusals(unittest.TestCase):
    def test_a_number_that_is_no_byte(self):
        for number in (-1, 256, 10 ** 18, -10 ** 18):
            self.assertEqual(ask(load_numbers([number])), [[-1]])
            self.assertEqual(ask(load_numbers([65, 35, number])), [[-1]])
        self.assertEqual(ask(load_numbers([35, 0, 255])), [[0, 0, 0]])

    def test_more_than_4096(self):
        self.assertEqual(ask(load_numbers([32] * 4096)), [[0, 0, 0]])
        self.assertEqual(ask(load_numbers([32] * 4097)), [[-2]])
        self.assertEqual(ask(load_numbers([65] * 5000)), [[-2]])

    def test_a_fault_at_the_greatest_place(self):
        self.assertEqual(ask(load_numbers([ord(sign) for sign in "table"] + [32] * 4091)), [[1, 4, 4096]])

    def test_no_byte_goes_ahead_of_too_many(self):
        self.assertEqual(ask(load_numbers([32] * 4096 + [256])), [[-1]])
        self.assertEqual(ask(load_numbers([-1] + [32] * 4999)), [[-1]])


class WhatIsHeld(unittest.TestCase):
    def test_behind_a_fault_or_a_refusal_all_is_as_it_was(self):
        begin = (load("table t{c:number;}"), fill([1, 3, 4]), set_own(1, [1, 3, 5]))
        watch = (written(), changed(0), changed(1))
        before = ask(*begin, *watch)[-3:]
        self.assertEqual(before[1:], [[0, 0], [0, 1, 1, 0, 3]])
        for wrong in (load("table u{}table"), load("table u{c:ref v;}"), load_numbers([256]), load_numbers([32] * 4097)):
            self.assertEqual(ask(*begin, wrong, *watch)[-3:], before)

    def test_behind_a_load_all_tables_have_no_rows(self):
        begin = (load("table t{c:number;}"), fill([1, 3, 4]), set_own(1, [1, 3, 5]), load("table t{c:number;}"))
        self.assertEqual(ask(*begin, changed(0), changed(1))[-2:], [[0, 0], [0, 0]])
        # All its rows are new, so the session began with none.
        self.assertEqual(ask(*begin, set_own(0, [1, 3, 4]), changed(0), changed(1))[-2:], [[0, 1, 0, 0, 3], [0, 0]])

    def test_a_load_puts_another_schema_in_the_place(self):
        self.assertEqual(form_of("table u{}"), "table u {\n}\n")
        self.assertEqual(ask(load("table t{}"), load("table u{}"), written())[-1],
                         [0] + [ord(sign) for sign in "table u {\n}\n"])
        self.assertEqual(ask(load("table t{}"), load(""), written())[-1], [0])


if __name__ == "__main__":
    unittest.main()
