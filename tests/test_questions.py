"""mu_find (point 12): what is a question, and of which things it's so."""

import unittest

from tests.helper import (AWAY, BIGGEST, HALL, HouseCase, STORE, bits, day, find, harm, home, lend, light, move, names,
                          place, said, start, state, thing)

# Place 1 is a hall, 3 a store within the store 2, 4 away within 2. On day 5:
#   thing 0 is in the hall, material 2, limit 100, harm 0, came 0, light 50
#   thing 1 is in the store 3, material 7, limit 0, harm 3, came 0, light 0
#   thing 2 is lent, material 0, limit 1000000, harm 1, came 3, light 14
#   thing 3 is in the house, material 5, limit 101, harm 0, came 3, light 50
#   thing 4 is in the store 2, material 2, limit 50, harm 2, came 5, light 0
SETTING = [start(), place(0, HALL, 5, 10), place(0, STORE, 5, 0), place(2, STORE, 5, 0), place(2, AWAY, 5, 7),
           thing("a", 2, 100, 1), thing("b", 7, 0, 3), harm(1, 3), day(3), thing("c", 0, 1000000, 0), harm(2, 1),
           lend(2, 4, 9), thing("d", 5, 101, 0), light(0, 25), day(2), thing("e", 2, 50, 2), harm(4, 2)]
HALLED, STORED, LENT, HOUSED, LATE = 0, 1, 2, 3, 4


def found(text, n=None, behind=0):
    """The things found, or the refusal."""
    told = said(SETTING + [find(text, n, behind)])[-1]
    if len(told) == 1:
        return told[0]
    count, given = told
    things = [number for number in range(24) if given >> number & 1]
    if len(things) != count or given >> 24:
        raise AssertionError(f"{told} for {text}")
    return things


class FoundTest(HouseCase):
    def check_found(self, *pairs):
        for text, wanted in pairs:
            with self.subTest(text=text):
                self.assertEqual(found(text), sorted(wanted))

    def check_none(self, *texts):
        for text in texts:
            with self.subTest(text=text):
                self.assertEqual(found(text), -71)


class WordTest(FoundTest):
    def test_all(self):
        self.check_found(("all", [0, 1, 2, 3, 4]))

    def test_lent(self):
        self.check_found(("lent", [LENT]))

    def test_shown(self):
        self.check_found(("shown", [HALLED]))

    def test_in_and_within(self):
        self.check_found(("in 0", [0, 1, 2, 3, 4]), ("in 1", [HALLED]), ("in 2", [STORED, LENT, LATE]),
                         ("in 3", [STORED]), ("in 4", [LENT]))

    def test_in_where_there_is_no_such_place(self):
        self.check_found(("in 5", []), ("in 12", []), ("in 9999999", []), ("not in 5", [0, 1, 2, 3, 4]))

    def test_light(self):
        self.check_found(("light < 50", [STORED, LENT, LATE]), ("light = 50", [HALLED, HOUSED]), ("light > 50", []),
                         ("light > 49", [HALLED, HOUSED]), ("light = 14", [LENT]), ("light = 0", [STORED, LATE]),
                         ("light < 0", []), ("light > 0", [HALLED, LENT, HOUSED]))

    def test_limit(self):
        self.check_found(("limit < 100", [STORED, LATE]), ("limit = 100", [HALLED]), ("limit > 100", [LENT, HOUSED]),
                         ("limit = 0", [STORED]), ("limit = 1000000", [LENT]), ("limit < 1000001", [0, 1, 2, 3, 4]),
                         ("limit > 999999", [LENT]), ("limit > 1000000", []), ("limit < 9999999", [0, 1, 2, 3, 4]))

    def test_material(self):
        self.check_found(("material < 2", [LENT]), ("material = 2", [HALLED, LATE]), ("material > 2", [STORED, HOUSED]),
                         ("material = 7", [STORED]), ("material = 8", []), ("material = 0", [LENT]))

    def test_harm(self):
        self.check_found(("harm < 2", [HALLED, LENT, HOUSED]), ("harm = 2", [LATE]), ("harm > 2", [STORED]),
                         ("harm = 3", [STORED]), ("harm = 0", [HALLED, HOUSED]))

    def test_came(self):
        self.check_found(("came < 3", [HALLED, STORED]), ("came = 3", [LENT, HOUSED]), ("came > 3", [LATE]),
                         ("came = 0", [HALLED, STORED]), ("came = 5", [LATE]), ("came < 6", [0, 1, 2, 3, 4]))

    def test_not(self):
        self.check_found(("not all", []), ("not lent", [0, 1, 3, 4]), ("not not lent", [LENT]),
                         ("not not not lent", [0, 1, 3, 4]), ("not harm = 0", [1, 2, 4]))

    def test_and(self):
        self.check_found(("harm = 0 and light = 50", [0, 3]), ("shown and lent", []), ("in 2 and in 3", [STORED]),
                         ("all and lent", [LENT]), ("lent and all", [LENT]), ("not all and all", []),
                         ("in 2 and harm > 0 and came = 0", [STORED]))

    def test_or(self):
        self.check_found(("shown or lent", [0, 2]), ("all or lent", [0, 1, 2, 3, 4]), ("lent or all", [0, 1, 2, 3, 4]),
                         ("not all or not all", []), ("in 3 or shown or lent", [0, 1, 2]))

    def test_what_is_so_now(self):
        self.check((place(0, HALL, 5, 0), 1), (place(0, AWAY, 5, 0), 2), (thing("a", at=1), 0), (find("shown"), bits(0)),
                   (move(0, 0), 0), (find("shown"), bits()), (find("in 1"), bits()), (lend(0, 2, 3), 0),
                   (find("lent"), bits(0)), (day(9), 9), (find("lent"), bits(0)), (home(0, 0), 0), (find("lent"), bits()),
                   (find("came = 0"), bits(0)), (light(0, 1), 0), (find("light = 0"), bits(0)), (day(1), 10),
                   (find("light = 0"), bits()), (find("light = 1"), bits(0)))

    def test_light_of_more_than_seven_digits(self):
        self.check((light(0, 10000), 0), (thing("a"), 0), (day(2000), 2000), (find("light > 9999999"), bits(0)),
                   (find("light = 9999999"), bits()), (find("light < 9999999"), bits()))

    def test_no_things(self):
        self.check((find("all"), [0, 0]), (find("all or"), -71))

    def test_thing_23_as_a_bit(self):
        many = [(thing(name), k) for k, name in enumerate(names(23))]
        self.check(*many, (thing("x", 3), 23), (find("material = 3"), [1, 8388608]), (find("all"), [24, 16777215]),
                   (find("not material = 3"), [23, 8388607]))


class BindingTest(FoundTest):
    def test_and_binds_closer_than_or(self):
        self.check_found(("all or all and not all", [0, 1, 2, 3, 4]), ("not all and all or all", [0, 1, 2, 3, 4]),
                         ("lent or shown and harm = 5", [LENT]), ("harm = 5 and shown or lent", [LENT]),
                         ("(all or all) and not all", []), ("not all and (all or all)", []))

    def test_not_binds_closer_than_and_and_or(self):
        self.check_found(("not all and not all", []), ("not lent and shown", [HALLED]), ("not all or all", [0, 1, 2, 3, 4]),
                         ("not (all and not all)", [0, 1, 2, 3, 4]), ("not (lent or shown)", [1, 3, 4]),
                         ("not lent or shown", [0, 1, 3, 4]), ("not (not all) and lent", [LENT]),
                         ("not (lent) and shown", [HALLED]), ("not lent and not shown", [1, 3, 4]))

    def test_brackets(self):
        self.check_found(("(all)", [0, 1, 2, 3, 4]), ("((lent))", [LENT]), ("(lent or shown) and in 2", [LENT]),
                         ("lent or (shown and in 2)", [LENT]), ("in 2 and (shown or lent or in 3)", [STORED, LENT]),
                         ("(in 2 and (lent or harm = 3)) or (shown and not (harm > 0))", [0, 1, 2]))

    def test_all_ways_of_three(self):
        truths = {"all": True, "not all": False}
        for first in truths:
            for second in truths:
                for third in truths:
                    a, b, c = truths[first], truths[second], truths[third]
                    for text, wanted in (
                            (f"{first} or {second} and {third}", a or (b and c)),
                            (f"{first} and {second} or {third}", (a and b) or c),
                            (f"({first} or {second}) and {third}", (a or b) and c),
                            (f"{first} and ({second} or {third})", a and (b or c)),
                            (f"not ({first} and {second}) or {third}", not (a and b) or c),
                            (f"not ({first} or {second}) and {third}", not (a or b) and c),
                            (f"{first} and {second} and {third}", a and b and c),
                            (f"{first} or {second} or {third}", a or b or c)):
                        self.check_found((text, [0, 1, 2, 3, 4] if wanted else []))


class BlankTest(FoundTest):
    def test_no_blanks(self):
        self.check_found(("light<50", [1, 2, 4]), ("in3", [STORED]), ("not(lent)", [0, 1, 3, 4]), ("(lent)or(shown)", [0, 2]),
                         ("in2and(lent)", [LENT]), ("light=50and harm=0", [0, 3]), ("came=3or in1", [0, 2, 3]),
                         ("not(harm>0)and(in0)", [0, 3]), ("(in1)or lent", [0, 2]))

    def test_many_blanks(self):
        self.check_found(("  all  ", [0, 1, 2, 3, 4]), ("   in    3   ", [STORED]), ("light    <   50", [1, 2, 4]),
                         ("(  lent   or  shown )", [0, 2]), ("not    lent", [0, 1, 3, 4]))

    def test_a_blank_first_and_last(self):
        self.check_found((" lent", [LENT]), ("lent ", [LENT]), (" lent ", [LENT]), (" (lent) ", [LENT]))

    def test_blanks_alone(self):
        self.check_none("", " ", " " * 120)

    def test_words_that_run_together(self):
        self.check_none("notall", "allandlent", "all orlent", "lent andshown", "alllent", "inin 3", "notnot all")

    def test_words_that_are_parted(self):
        self.check_none("no t all", "a ll", "li ght < 5", "sho wn", "i n 3", "all o r lent", "all an d lent")

    def test_numbers_that_are_parted(self):
        self.check_none("in 1 2", "light < 5 0", "harm = 0 0", "in 0 1")

    def test_a_word_behind_a_number_and_a_number_behind_a_word(self):
        self.check_found(("in3or in1", [0, 1]), ("in3and all", [STORED]), ("all and in3", [STORED]), ("harm=0and in1", [0]))
        self.check_none("all3", "lent 5", "3all", "in 3 all", "in3all", "and3", "not3")


class NumberTest(FoundTest):
    def test_zeros(self):
        self.check_found(("harm = 0", [0, 3]), ("in 0", [0, 1, 2, 3, 4]))
        self.check_none("harm = 00", "in 00", "harm = 000", "light > 00000000")

    def test_a_zero_first(self):
        self.check_none("in 07", "material = 07", "in 01", "light < 0000001", "came > 0123456")

    def test_zeros_behind(self):
        self.check_found(("limit = 100", [HALLED]), ("limit = 1000000", [LENT]), ("limit < 10", [STORED]))

    def test_seven_and_eight_digits(self):
        self.check_found(("light < 9999999", [0, 1, 2, 3, 4]), ("limit < 1000000", [0, 1, 3, 4]), ("in 1234567", []))
        self.check_none("light < 10000000", "light < 99999999", "in 12345678", "light < 123456789012345678901234567890")

    def test_a_number_alone(self):
        self.check_none("0", "7", "1234567", "not 5", "(5)")


class NoQuestionTest(FoundTest):
    def test_something_is_missing(self):
        self.check_none("not", "and", "or", "all and", "all or", "and all", "or all", "not and all", "all and or lent",
                        "all or or all", "all and and all", "not not", "all not", "in", "in all", "in not 3", "light",
                        "light <", "light 5", "< 5", "5", "light < all", "light < light", "light < (5)", "in (3)",
                        "light < -1")

    def test_something_is_too_much(self):
        self.check_none("all all", "lent shown", "all (lent)", "(all) lent", "(all)(lent)", "all not lent", "in 3 4",
                        "light < 5 < 6", "light << 5", "light <= 5", "light => 5", "light <> 5", "light == 5",
                        "light < 5 6", "lent = 1", "all < 5", "in = 3", "in < 3", "in 3 = 3", "shown > 0", "in light")

    def test_brackets_that_do_not_fit(self):
        self.check_none("(", ")", "()", ")(", "(all", "all)", "((all)", "(all))", "all ()", "() all", "not ()", "(not)",
                        "(all) or", "(all or)", "(or all)", "(all and) all", "all (and all)", ")all(", "all)(all",
                        "all or )", "(all)) or (all", "(in) 3", "(light) < 5", "(light <) 5", "light (< 5)", "not) all (")

    def test_words_that_are_none(self):
        self.check_none("a", "every", "lend", "show", "al", "alll", "lents", "shownn", "inn 3", "nott all", "all ands all",
                        "all orr all", "lights < 5", "ligh < 5", "place = 1", "name = 5", "x", "xor", "all xor all", "z")

    def test_a_field_by_itself(self):
        self.check_none("light", "limit", "material", "harm", "came", "not harm", "(came)", "harm and all")

    def test_a_byte_that_is_no_part(self):
        known = b"abcdefghijklmnopqrstuvwxyz0123456789()<=> "
        for byte in sorted(set(range(256)) - set(known)):
            for row in ([byte] + [ord(sign) for sign in "all"], [ord(sign) for sign in "all"] + [byte],
                        [ord(sign) for sign in "all or"] + [byte] + [ord(sign) for sign in "all"],
                        [ord(sign) for sign in "all "] + [byte] + [ord(sign) for sign in " or all"], [byte]):
                self.assertEqual(found(row), -71, row)

    def test_big_letters(self):
        self.check_none("ALL", "All", "aLl", "all AND lent", "NOT all", "In 3")


class LengthTest(FoundTest):
    def test_n_of_0(self):
        self.assertEqual(found("all", n=0), -71)
        self.assertEqual(found("", n=0), -71)

    def test_the_first_n_count_alone(self):
        self.assertEqual(found("all or lent", n=3), [0, 1, 2, 3, 4])
        self.assertEqual(found("lent or all", n=4), [LENT])
        self.assertEqual(found("lent or all", n=5), [LENT])
        self.assertEqual(found("lent or all", n=6), -71)
        self.assertEqual(found("lent or all", n=3), -71)
        self.assertEqual(found("in 34", n=4), [STORED])
        self.assertEqual(found("lent", behind=255), [LENT])
        self.assertEqual(found("lent", behind=97), [LENT])
        self.assertEqual(found("lent", n=5, behind=97), -71)
        self.assertEqual(found("lent", n=5, behind=0), -71)

    def test_n_of_120(self):
        self.assertEqual(found("lent", n=120, behind=32), [LENT])
        self.assertEqual(found("lent", n=120, behind=0), -71)
        self.assertEqual(found(" " * 116 + "lent"), [LENT])
        self.assertEqual(found(" " * 115 + "lent)"), -71)

    def test_n_of_121(self):
        self.assertEqual(found("lent", n=121, behind=32), -22)
        self.assertEqual(found("lent", n=BIGGEST, behind=32), -22)
        self.assertEqual(found("", n=121, behind=0), -22)

    def test_a_refused_one_is_one_number_and_changes_nothing(self):
        told = said(SETTING + [state(), find("", n=121), find("or"), find("all"), state()])
        self.assertEqual(told[-5], told[-1])
        self.assertEqual(told[-4:-1], [[-22], [-71], [5, 31]])


class DeepTest(FoundTest):
    def test_brackets_as_deep_as_they_go(self):
        self.assertEqual(found("(" * 58 + "all" + ")" * 58), [0, 1, 2, 3, 4])
        self.assertEqual(found("(" * 58 + "lent" + ")" * 58), [LENT])
        self.assertEqual(found("(" * 58 + "all" + ")" * 57), -71)
        self.assertEqual(found("(" * 57 + "all" + ")" * 58), -71)
        self.assertEqual(found("(" * 120), -71)
        self.assertEqual(found(")" * 120), -71)
        self.assertEqual(found("(" * 60 + ")" * 60), -71)

    def test_not_as_often_as_it_goes(self):
        for count in range(29):
            with self.subTest(count=count):
                wanted = [0, 1, 3, 4] if count % 2 else [LENT]
                self.assertEqual(found("not " * count + "lent"), wanted)
        self.assertEqual(found("not " * 29 + "lent"), [0, 1, 3, 4])
        self.assertEqual(found("not " * 30), -71)

    def test_not_and_brackets(self):
        for count in range(24):
            with self.subTest(count=count):
                wanted = [0, 1, 3, 4] if count % 2 else [LENT]
                self.assertEqual(found("not(" * count + "lent" + ")" * count), wanted)

    def test_brackets_that_open_behind_a_word(self):
        for word, wanted in (("and", [LENT]), ("or", [0, 1, 2, 3, 4])):
            count = 116 // (len(word) + 6)
            text = f"all {word}(" * count + "lent" + ")" * count
            self.assertLessEqual(len(text), 120)
            self.assertEqual(found(text), wanted)

    def test_brackets_that_close_ahead_of_a_word(self):
        count = 116 // 8
        text = "(" * count + "lent" + ")or in3" * count
        self.assertLessEqual(len(text), 120)
        self.assertEqual(found(text), [STORED, LENT])

    def test_many_parts(self):
        self.assertEqual(found("in3" + "or in3" * 19), [STORED])
        self.assertEqual(found("in3" + "or in1" * 19), [0, 1])
        self.assertEqual(found("in0" + "and in0" * 15 + "and in3"), [STORED])


if __name__ == "__main__":
    unittest.main()
