import unittest

from tests.helpers import ask, form_of, load, written


class TheOneForm(unittest.TestCase):
    def column(self, told, form):
        self.assertEqual(form_of("table t{c:" + told + ";}"), "table t {\n  c: " + form + ";\n}\n")
        self.assertEqual(form_of("table t{c:" + told + " unique;}"), "table t {\n  c: " + form + " unique;\n}\n")

    def test_no_tables(self):
        self.assertEqual(ask(written()), [[0]])
        self.assertEqual(ask(load("# nothing"), written()), [[0, 0, 0], [0]])

    def test_no_columns(self):
        self.assertEqual(form_of("table b{}table a{}"), "table b {\n}\ntable a {\n}\n")

    def test_the_very_bytes(self):
        self.assertEqual(ask(load("table t{}"), written())[1],
                         [0, 116, 97, 98, 108, 101, 32, 116, 32, 123, 10, 125, 10])

    def test_ranges(self):
        self.column("number", "number")
        self.column("number from -1000000 to 1000000", "number")
        self.column("number from - 5 to 1000000", "number from -5 to 1000000")
        self.column("number from -1000000 to 999999", "number from -1000000 to 999999")
        self.column("number from -999999 to 1000000", "number from -999999 to 1000000")
        self.column("number from -0 to -0", "number from 0 to 0")
        self.column("number from 3#\nto 10", "number from 3 to 10")

    def test_references(self):
        self.column("ref t", "ref t")
        self.column("ref t none", "ref t none")
        self.column("ref t cascade", "ref t cascade")
        self.column("ref t none cascade", "ref t none cascade")
        self.column("ref t none clear", "ref t none clear")

    def test_several_tables_and_columns(self):
        form = ("table shop {\n  code: number from 1 to 99 unique;\n  next_one: ref item none;\n}\n"
                "table item {\n  a: number;\n  b: ref shop cascade;\n  c: ref item none clear unique;\n}\n")
        self.assertEqual(form_of(form), form)
        self.assertEqual(form_of(form.replace("\n", "\t# a remark }\n")), form)

    def test_the_form_loads_as_what_it_tells(self):
        form = form_of("table a{x:ref b;y:number from 1 to 1 unique;}table b{z:ref a none clear;}")
        self.assertEqual(form_of(form), form)

    def test_names_with_each_letter_digit_and_underscore(self):
        form = "table abcdefghijkl {\n  mnopqrstuvwx: number;\n  yz_012345678: number;\n  z9: number;\n}\n"
        self.assertEqual(form_of(form), form)


if __name__ == "__main__":
    unittest.main()
