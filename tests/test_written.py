"""mu_write (point 12): how a question is written."""

import unittest

from tests.helper import BIGGEST, HouseCase, said, start, state, thing, write


def written(text, n=None, behind=0):
    """The text that's answered, or the refusal."""
    told = said([start(), write(text, n, behind)])[-1]
    if len(told) == 1:
        return told[0]
    if len(told) != 121 or any(told[1 + told[0]:]):
        raise AssertionError(f"{told} for {text}")
    return "".join(chr(byte) for byte in told[1:1 + told[0]])


class WrittenTest(HouseCase):
    def check_written(self, *pairs):
        for text, wanted in pairs:
            with self.subTest(text=text):
                self.assertEqual(written(text), wanted)
                if isinstance(wanted, str):
                    self.assertEqual(written(wanted), wanted)

    def check_same(self, *texts):
        self.check_written(*[(text, text) for text in texts])


class PartsTest(WrittenTest):
    def test_every_word_field_and_sign(self):
        self.check_same("all", "lent", "shown", "in 3", "in 0", "in 1234567", "light < 5", "limit = 0",
                        "material > 7", "harm < 1000000", "came = 2000", "not all", "all and lent", "all or lent")

    def test_one_blank_between(self):
        self.check_written(("  all  ", "all"), ("in3", "in 3"), ("light<5", "light < 5"), ("light   =   5", "light = 5"),
                           ("all   and   lent", "all and lent"), ("not   all", "not all"), ("in3and in4", "in 3 and in 4"),
                           ("harm>0or came=7", "harm > 0 or came = 7"), (" not in3 ", "not in 3"))

    def test_no_blank_behind_an_opening_and_before_a_closing_bracket(self):
        self.check_written(("not( all or lent )", "not (all or lent)"), ("(all or lent)and in3", "(all or lent) and in 3"),
                           ("in3and(all or lent)", "in 3 and (all or lent)"),
                           ("not(not(all or lent)and in3)", "not (not (all or lent) and in 3)"),
                           ("not(in3and(all or lent))", "not (in 3 and (all or lent))"),
                           ("not((all or lent)and in3)", "not ((all or lent) and in 3)"))

    def test_all_that_is_answered(self):
        self.check((write("in3"), [4, 105, 110, 32, 51] + [0] * 116))
        self.check((write("all", behind=255), [3, 97, 108, 108] + [0] * 117))

    def test_refusals(self):
        for text in ("", " ", "or", "all or", "(all", "all)", "in", "in 07", "in 00", "in 12345678", "notall", "ALL", "all\n",
                     "all and and all", "()", "in (3)"):
            self.assertEqual(written(text), -71, text)
        self.assertEqual(written("all", n=0), -71)
        self.assertEqual(written("all", n=120), -71)
        self.assertEqual(written("all", n=120, behind=32), "all")
        self.assertEqual(written("all", n=121, behind=32), -22)
        self.assertEqual(written("all", n=BIGGEST), -22)
        self.assertEqual(written("or", n=121), -22)

    def test_the_first_n_count_alone(self):
        self.assertEqual(written("in 34", n=4), "in 3")
        self.assertEqual(written("all or lent", n=3), "all")
        self.assertEqual(written("all or lent", n=6), -71)

    def test_it_changes_nothing(self):
        self.check((thing("a"), 0), (state(), [0, 1, 1, 0, 1]), (write("or"), -71), (write("all", n=121), -22),
                   (write("all"), [3, 97, 108, 108] + [0] * 117), (state(), [0, 1, 1, 0, 1]))


class BracketTest(WrittenTest):
    def test_brackets_round_all(self):
        self.check_written(("(all)", "all"), ("((all))", "all"), ("(all or lent)", "all or lent"),
                           ("((all and lent))", "all and lent"), ("(not all)", "not all"), ("(in 3)", "in 3"))

    def test_brackets_round_one(self):
        self.check_written(("(all) or (lent)", "all or lent"), ("(all) and (in 3)", "all and in 3"),
                           ("not (all)", "not all"), ("not (in 3)", "not in 3"), ("not (light < 5)", "not light < 5"),
                           ("not (not all)", "not not all"), ("(not all) and (not lent)", "not all and not lent"),
                           ("(not (not (all)))", "not not all"), ("(not all) or lent", "not all or lent"))

    def test_and_within_or(self):
        self.check_written(("(all and lent) or shown", "all and lent or shown"),
                           ("all or (lent and shown)", "all or lent and shown"),
                           ("(all and lent) or (shown and in 3)", "all and lent or shown and in 3"),
                           ("all or (lent and shown) or in 3", "all or lent and shown or in 3"))

    def test_or_within_and(self):
        self.check_same("(all or lent) and shown", "all and (lent or shown)", "(all or lent) and (shown or in 3)",
                        "all and (lent or shown) and in 3", "all and lent and (shown or in 3)")

    def test_within_not(self):
        self.check_same("not (all or lent)", "not (all and lent)", "not not (all and lent)", "not (not all and lent)",
                        "not (all or lent) and shown", "all and not (lent or shown)", "all or not (lent and shown)")
        self.check_written(("not ((all or lent))", "not (all or lent)"), ("(not (all and lent)) or in 3",
                           "not (all and lent) or in 3"), ("not (not (all or lent))", "not not (all or lent)"))

    def test_three_with_or(self):
        self.check_same("all or lent or shown", "(all or lent) or shown")
        self.check_written(("all or (lent or shown)", "all or lent or shown"),
                           ("((all or lent) or shown)", "(all or lent) or shown"),
                           ("((all or lent)) or shown", "(all or lent) or shown"),
                           ("(all) or ((lent) or (shown))", "all or lent or shown"))

    def test_three_with_and(self):
        self.check_same("all and lent and shown", "(all and lent) and shown")
        self.check_written(("all and (lent and shown)", "all and lent and shown"),
                           ("((all and lent)) and shown", "(all and lent) and shown"))

    def test_four_with_or(self):
        self.check_same("all or lent or shown or in 3", "(all or lent) or shown or in 3", "all or (lent or shown) or in 3",
                        "(all or lent or shown) or in 3", "((all or lent) or shown) or in 3")
        self.check_written(("all or lent or (shown or in 3)", "all or lent or shown or in 3"),
                           ("all or (lent or shown or in 3)", "all or lent or shown or in 3"),
                           ("all or (lent or (shown or in 3))", "all or lent or shown or in 3"),
                           ("all or ((lent or shown) or in 3)", "all or (lent or shown) or in 3"),
                           ("(all or lent) or (shown or in 3)", "(all or lent) or shown or in 3"),
                           ("(all or (lent or shown)) or in 3", "(all or lent or shown) or in 3"))

    def test_four_with_and(self):
        self.check_same("all and lent and shown and in 3", "(all and lent) and shown and in 3",
                        "all and (lent and shown) and in 3", "(all and lent and shown) and in 3",
                        "((all and lent) and shown) and in 3")
        self.check_written(("all and lent and (shown and in 3)", "all and lent and shown and in 3"),
                           ("all and (lent and (shown and in 3))", "all and lent and shown and in 3"),
                           ("all and ((lent and shown) and in 3)", "all and (lent and shown) and in 3"),
                           ("(all and lent) and (shown and in 3)", "(all and lent) and shown and in 3"))

    def test_mixed(self):
        self.check_same("all and lent or shown and in 3 or in 4", "(all or lent and shown) and in 3",
                        "(all and lent) and shown or in 3", "all or (lent and shown) and in 3",
                        "not ((all or lent) or shown)", "(all and (lent or shown)) and in 3")
        self.check_written(("all or ((lent and shown) and in 3)", "all or (lent and shown) and in 3"),
                           ("(all and lent or shown) or in 3", "(all and lent or shown) or in 3"),
                           ("all and lent or (shown or in 3)", "all and lent or shown or in 3"),
                           ("all and (lent and (shown or in 3))", "all and lent and (shown or in 3)"))

    def test_as_deep_as_they_go(self):
        self.check_written(("(" * 58 + "all" + ")" * 58, "all"), ("not(" * 23 + "all" + ")" * 23, "not " * 23 + "all"),
                           ("not " * 29 + "all", "not " * 29 + "all"))
        text = "(" * 12 + "all" + ")or in3" * 12
        self.assertEqual(written(text), -75)
        text = "(" * 9 + "all" + ")or in3" * 9
        self.assertEqual(written(text), "(" * 8 + "all or in 3" + ") or in 3" * 8)
        text = "all or(" * 14 + "lent" + ")" * 14
        self.assertEqual(written(text), "all or " * 14 + "lent")


class LengthTest(WrittenTest):
    def test_just_120_bytes(self):
        tail = " or light < 1234567 and limit = 1234567 and material > 1234567"
        text = "not " * 6 + "all and harm < 1234567 or came = 7" + tail
        self.assertEqual(len(text), 120)
        self.check_same(text)
        self.assertEqual(written(text.replace(" < ", "<").replace(" = ", "=").replace(" > ", ">")), text)

    def test_121_bytes(self):
        tail = " or light < 1234567 and limit = 1234567 and material > 1234567"
        text = "not " * 6 + "all and harm < 1234567 or came = 77" + tail
        self.assertEqual(len(text), 121)
        packed = text.replace(" < ", "<").replace(" = ", "=").replace(" > ", ">")
        self.assertLess(len(packed), 120)
        self.assertEqual(written(packed), -75)

    def test_119_and_less_out_of_120(self):
        self.assertEqual(written(" " * 117 + "all"), "all")
        self.assertEqual(written("all" + " " * 117), "all")
        self.assertEqual(written("not " * 29 + "lent"), "not " * 29 + "lent")
        self.assertEqual(len("not " * 29 + "lent"), 120)

    def test_as_long_as_it_can_be(self):
        self.assertEqual(written("in3" + "or in3" * 19), -75)
        self.assertEqual(written("in3" + "or in3" * 12), "in 3" + " or in 3" * 12)
        self.assertEqual(written("in3" + "or in3" * 14), "in 3" + " or in 3" * 14)
        self.assertEqual(len("in 3" + " or in 3" * 14), 116)
        self.assertEqual(written("in3" + "or in3" * 14 + "or all"), -75)

    def test_brackets_that_go_make_it_short_enough(self):
        self.assertEqual(written("((in3)or(in3)or(in3)or(in3)or(in3)or(in3)or(in3)or(in3)or(in3)or(in3)or(in3)or(in3))"),
                         "in 3" + " or in 3" * 11)

    def test_no_question_that_would_be_too_long(self):
        self.assertEqual(written("in3" + "or in3" * 18 + "or"), -71)


if __name__ == "__main__":
    unittest.main()
