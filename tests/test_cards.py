"""What a card is: its lines and words, and every limit of races and pools."""

import unittest

from tests.samples import DAY, CallTest, card_of, pool_line

RACE = "day a\nrace 24\n"
MANY_DIGITS = "1" * 60000


class Lines(CallTest):
    def test_cards(self):
        self.assert_card(DAY)
        self.assert_card("day a\nrace 2\n")
        self.assert_card(RACE + pool_line())

    def test_the_first_line_is_the_days_and_no_other(self):
        self.assert_no_card("")
        self.assert_no_card("\n")
        self.assert_no_card("race 2\n")
        self.assert_no_card("race 2\n" + pool_line())
        self.assert_no_card("race 2\nday a\n")
        self.assert_no_card("day\nrace 2\n")
        self.assert_no_card("day a b\nrace 2\n")
        self.assert_no_card("days a\nrace 2\n")
        self.assert_no_card("Day a\nrace 2\n")
        self.assert_no_card("a day\nrace 2\n")
        self.assert_no_card("day a\nday a\nrace 2\n")
        self.assert_no_card("day a\nrace 2\nday b\n")
        self.assert_no_card(RACE + pool_line() + "day b\n")

    def test_every_line_ends_with_a_line_feed(self):
        self.assert_no_card("day a")
        self.assert_no_card("day a\nrace 2")
        self.assert_no_card(DAY[:-1])
        self.assert_no_card(DAY + "race 2")
        self.assert_no_card(DAY + "x")
        self.assert_no_card(DAY.replace("\n", "\r\n"))
        self.assert_no_card(DAY.replace("\n", "\r"))

    def test_no_line_is_empty(self):
        self.assert_no_card("\n" + DAY)
        self.assert_no_card(DAY + "\n")
        self.assert_no_card(DAY.replace("\nrace", "\n\nrace", 1))
        self.assert_no_card(DAY.replace("\npool", "\n\npool", 1))
        self.assert_no_card(DAY + " \n")

    def test_words_have_one_blank_between_them(self):
        text = "day a\nrace 5 couple 1 2\n" + pool_line()
        self.assert_card(text)
        for at, sign in enumerate(text):
            if sign == " ":
                self.assert_no_card(text[:at] + "  " + text[at + 1:])
                self.assert_no_card(text[:at] + text[at + 1:])
                self.assert_no_card(text[:at] + "\t" + text[at + 1:])
                self.assert_no_card(text[:at] + "\n" + text[at + 1:])

    def test_no_blank_stands_at_a_lines_beginning_or_end(self):
        text = "day a\nrace 5 couple 1 2\n" + pool_line()
        self.assert_no_card(" " + text)
        for at, sign in enumerate(text):
            if sign == "\n":
                self.assert_no_card(text[:at] + " " + text[at:])
                self.assert_no_card(text[:at + 1] + " " + text[at + 1:])
                self.assert_no_card(text[:at] + "   " + text[at:])

    def test_no_other_byte_stands_anywhere(self):
        text = "day a\nrace 5 couple 1 2\n" + pool_line()
        for byte in range(256):
            if chr(byte) not in "abcdefghijklmnopqrstuvwxyz0123456789 \n":
                for at in (3, 4, 5, 6, 10, 11, 25, 30, len(text) - 1):
                    self.assert_no_card(text[:at] + chr(byte) + text[at:])
                    self.assert_no_card(text[:at] + chr(byte) + text[at + 1:])
                self.assert_no_card(text + chr(byte))
                self.assert_no_card(text + chr(byte) + "\n")

    def test_races_stand_ahead_of_pools(self):
        self.assert_card("day a\nrace 2\nrace 2\n" + pool_line())
        self.assert_no_card("day a\nrace 2\n" + pool_line() + "race 2\n")
        self.assert_no_card("day a\n" + pool_line() + "race 2\n")
        self.assert_no_card("day a\nrace 2\n" + pool_line("p") + "race 2\n" + pool_line("q"))

    def test_each_line_is_a_race_or_a_pool(self):
        for line in ("races 2", "Race 2", "rac 2", "pools a", "bet a", "couple 1 2", "2", "race"):
            self.assert_no_card(f"day a\n{line}\nrace 2\n")
            self.assert_no_card(f"day a\nrace 2\n{line}\n")
            self.assert_no_card(f"day a\nrace 2\n{pool_line()}{line}\n")

    def test_long_texts(self):
        self.assert_no_card("day a\n" + "race 2\n" * 9000)
        self.assert_no_card("day a\nrace 24" + " couple 1 2" * 5000 + "\n")
        self.assert_no_card("day a\nrace " + MANY_DIGITS + "\n")
        self.assert_no_card("day " + "a" * 60000 + "\nrace 2\n")
        self.assert_no_card(" " * 65536)


class Names(CallTest):
    def assert_name(self, name):
        self.assert_card(f"day {name}\nrace 2\n")
        self.assert_card(RACE + pool_line(name))

    def assert_no_name(self, name):
        self.assert_no_card(f"day {name}\nrace 2\n")
        self.assert_no_card(RACE + pool_line(name))

    def test_names_have_1_to_12_bytes(self):
        self.assert_name("a")
        self.assert_name("abcdefghijkl")
        self.assert_name("a12345678901")
        self.assert_no_name("")
        self.assert_no_name("abcdefghijklm")
        self.assert_no_name("a123456789012")

    def test_names_have_letters_and_digits_the_first_a_letter(self):
        for name in ("z", "az", "za09", "z9", "day", "race", "pool", "none", "from", "a0"):
            self.assert_name(name)
        for name in ("0", "9", "1a", "0abc", "A", "aB", "a-b", "a_b", "a.b", "a,b", "a/b", "-a",
                     "a`", "a{", "`", "{", "a:", "a@", "a?", "?", "\xe4", "a\xe4", "a\x00", "a\x7f"):
            self.assert_no_name(name)

    def test_names_of_pools_differ(self):
        self.assert_card(RACE + pool_line("a") + pool_line("b") + pool_line("ab"))
        self.assert_no_card(RACE + pool_line("a") + pool_line("a"))
        self.assert_no_card(RACE + pool_line("a") + pool_line("b") + pool_line("a", "order 2"))
        self.assert_no_card(RACE + pool_line("x") + pool_line("b") + pool_line("b", "any 2"))

    def test_a_pool_may_be_called_like_the_day(self):
        self.assert_card(RACE + pool_line("a"))


class Numbers(CallTest):
    NO_NUMBERS = ("", "x", "-1", "+1", "-0", "1-", "1x", "x1", "1.0", "1,0", "1_0", "0x1", "1e1",
                  "?", "one", "\xb2", "\xb9", "1\xb2", "1\x00", "1\t", MANY_DIGITS)

    def test_what_is_no_number(self):
        for word in self.NO_NUMBERS:
            self.assert_no_card(f"day a\nrace {word}\n")
            self.assert_no_card(f"day a\nrace 5 couple {word} 5\n")
            self.assert_no_card(f"day a\nrace 5 couple 1 {word}\n")
            self.assert_no_pool(kind=f"legs {word}")
            self.assert_no_pool(race=word)
            self.assert_no_pool(take=word)
            self.assert_no_pool(brk=word)
            self.assert_no_pool(least=word, unit=1)
            self.assert_no_pool(unit=word)

    def test_no_0_stands_in_front(self):
        for zeros in ("0", "00", "0" * 5000):
            self.assert_no_card(f"day a\nrace {zeros}5\n")
            self.assert_no_card(f"day a\nrace 5 couple {zeros}1 2\n")
            self.assert_no_card(f"day a\nrace 5 couple 1 {zeros}2\n")
            self.assert_no_pool(kind=f"place {zeros}1")
            self.assert_no_pool(race=f"{zeros}1")
            self.assert_no_pool(take=f"{zeros}1")
            self.assert_no_pool(take=f"{zeros}0")
            self.assert_no_pool(brk=f"{zeros}1")
            self.assert_no_pool(least=f"{zeros}100")
            self.assert_no_pool(least=f"{zeros}0")
            self.assert_no_pool(unit=f"{zeros}100")

    def test_numbers_of_more_digits_than_any_limit(self):
        # Cut off at 32 or 64 bits they would be 2; Python's int reads no more than 4,300 digits.
        for word in (str(2 ** 32 + 2), str(2 ** 64 + 2), "2" * 8, "2" * 4300, "2" * 4301):
            self.assert_no_card(f"day a\nrace {word}\n")
            self.assert_no_pool(race=word)
            self.assert_no_pool(take=word)
            self.assert_no_pool(unit=word)


class Races(CallTest):
    def assert_race(self, words):
        self.assert_card(f"day a\nrace {words}\n")
        self.assert_card(f"day a\nrace 2\nrace {words}\nrace 3\n")

    def assert_no_race(self, words):
        self.assert_no_card(f"day a\nrace {words}\n")
        self.assert_no_card(f"day a\nrace 2\nrace {words}\nrace 3\n")

    def test_1_to_16_races(self):
        self.assert_no_card(card_of([], []))
        self.assert_card(card_of(["2"], []))
        self.assert_card(card_of(["2"] * 16, []))
        self.assert_card(card_of(["2"] * 16, [pool_line()]))
        self.assert_no_card(card_of(["2"] * 17, []))
        self.assert_no_card(card_of(["2"] * 17, [pool_line()]))

    def test_2_to_24_runners(self):
        for runners in range(2, 25):
            self.assert_race(str(runners))
        for runners in (0, 1, 25, 26, 99, 100, 1000, 2 ** 32 + 2):
            self.assert_no_race(str(runners))

    def test_words_too_few_or_too_many(self):
        self.assert_no_card("day a\nrace\n")
        for words in ("5 3", "5 couple", "5 couple 1", "5 couple 1 2 3", "5 couple 1 2 couple",
                      "5 couple 1 2 couple 3", "couple 1 2", "5 1 2 couple", "5 couples 1 2",
                      "5 Couple 1 2", "5 1 couple 2", "5 couple 1 2 pair 3 4"):
            self.assert_no_race(words)

    def test_couples_are_runners(self):
        self.assert_race("5 couple 1 5")
        self.assert_race("5 couple 4 5")
        self.assert_race("24 couple 23 24")
        self.assert_no_race("5 couple 0 1")
        self.assert_no_race("5 couple 0 5")
        self.assert_no_race("5 couple 1 6")
        self.assert_no_race("5 couple 5 6")
        self.assert_no_race("5 couple 6 7")
        self.assert_no_race("24 couple 24 25")

    def test_a_is_below_b(self):
        self.assert_race("5 couple 2 3")
        self.assert_no_race("5 couple 3 3")
        self.assert_no_race("5 couple 3 2")
        self.assert_no_race("5 couple 5 1")
        self.assert_no_race("5 couple 5 5")

    def test_a_is_no_b_of_a_couple_before(self):
        self.assert_race("5 couple 1 2 couple 1 3")
        self.assert_race("5 couple 1 2 couple 3 4")
        self.assert_no_race("5 couple 1 2 couple 2 3")
        self.assert_no_race("9 couple 1 2 couple 3 4 couple 2 5")

    def test_b_is_in_no_couple_before(self):
        self.assert_race("5 couple 2 3 couple 1 4")
        self.assert_no_race("5 couple 2 3 couple 1 2")
        self.assert_no_race("5 couple 1 3 couple 2 3")
        self.assert_no_race("5 couple 1 3 couple 1 3")
        self.assert_no_race("9 couple 2 3 couple 4 5 couple 1 2")
        self.assert_no_race("9 couple 2 3 couple 4 5 couple 1 3")

    def test_couples_of_another_race_do_not_count(self):
        self.assert_card("day a\nrace 5 couple 1 2\nrace 5 couple 2 3\nrace 5 couple 1 3\n")

    def test_at_most_8_couples(self):
        apart = [f" couple {2 * pair + 1} {2 * pair + 2}" for pair in range(9)]
        together = [f" couple 1 {follower}" for follower in range(2, 11)]
        for couples in (apart, together):
            self.assert_race("24" + "".join(couples[:8]))
            self.assert_no_race("24" + "".join(couples))


class Pools(CallTest):
    def test_at_most_64_pools(self):
        pools = [pool_line(f"p{number}") for number in range(65)]
        self.assert_card(RACE)
        self.assert_card(RACE + "".join(pools[:64]))
        self.assert_right(RACE + "".join(pools[:64]), [23, 1], 63)
        self.assert_refused(-4, RACE + "".join(pools[:64]), [], 64)
        self.assert_no_card(RACE + "".join(pools))

    def test_each_word_is_needed_in_its_place(self):
        words = pool_line().split()
        self.assertEqual(16, len(words))
        for at in range(16):
            self.assert_no_card(RACE + " ".join(words[:at] + words[at + 1:]) + "\n")
            self.assert_no_card(RACE + " ".join(words[:at] + ["x"] + words[at:]) + "\n")
            self.assert_no_card(RACE + " ".join(words[:at] + [words[at]] + words[at:]) + "\n")
            if at != 1:
                self.assert_no_card(RACE + " ".join(words[:at] + ["x"] + words[at + 1:]) + "\n")
        self.assert_no_card(RACE + pool_line()[:-1] + " x\n")
        self.assert_no_card(RACE + pool_line()[:-1] + " none refund\n")
        self.assert_no_card(RACE + "pool\n")

    def test_fixed_words_do_not_change_places(self):
        line = pool_line(take=1, brk=1, least=1, unit=1)
        self.assert_card(RACE + line)
        fixed = ("from", "take", "break", "least", "unit")
        for first in fixed:
            for second in fixed:
                if first != second:
                    changed = line.replace(first, "?").replace(second, first).replace("?", second)
                    self.assert_no_card(RACE + changed)

    def test_k_of_each_kind(self):
        for kind, ks in (("place", range(1, 5)), ("order", range(2, 5)), ("any", range(2, 4)),
                         ("legs", range(2, 7))):
            for k in list(range(0, 13)) + [24, 100]:
                if k in ks:
                    self.assert_pool(kind=f"{kind} {k}")
                else:
                    self.assert_no_pool(kind=f"{kind} {k}")

    def test_other_kinds(self):
        for kind in ("win 1", "Place 1", "leg 2", "placed 1", "2 order", "refund 2", "place", "1"):
            self.assert_no_pool(kind=kind)

    def test_race_is_one_of_the_card(self):
        for kind in ("place 1", "order 2", "any 2"):
            for races in (1, 2, 16):
                for race in (0, 1, races, races + 1, 17, 100):
                    text = card_of(["24"] * races, [pool_line("p", kind, race)])
                    if 1 <= race <= races:
                        self.assert_card(text)
                    else:
                        self.assert_no_card(text)

    def test_the_last_race_of_legs_is_one_of_the_card(self):
        for races in range(1, 17):
            for k in range(2, 7):
                last = races - k + 1
                if last >= 1:
                    self.assert_card(card_of(["2"] * races, [pool_line("p", f"legs {k}", last)]))
                for race in (0, max(last, 0) + 1, races, races + 1):
                    text = card_of(["2"] * races, [pool_line("p", f"legs {k}", race)])
                    self.assert_no_card(text)

    def test_the_race_has_k_interests_but_of_legs(self):
        for kind, k in (("place", 2), ("place", 3), ("place", 4), ("order", 2), ("order", 3),
                        ("order", 4), ("any", 2), ("any", 3)):
            line = pool_line("p", f"{kind} {k}", 2)
            enough = [f"{k}" if k > 1 else "2", f"{k + 2} couple 1 2 couple 1 3"]
            few = [f"{k} couple 1 2", f"{k + 1} couple 1 2 couple 1 3"]
            if k > 2:
                few.append(f"{k - 1}")
            for race in enough:
                self.assert_card(card_of(["2 couple 1 2", race, "2 couple 1 2"], [line]))
            for race in few:
                self.assert_no_card(card_of(["24", race, "24"], [line]))
        self.assert_card(card_of(["2 couple 1 2"], [pool_line("p", "place 1")]))
        self.assert_card(card_of(["2 couple 1 2"] * 6, [pool_line("p", "legs 6")]))

    def test_take(self):
        for take in (0, 1, 399, 400):
            self.assert_pool(take=take)
        for take in (401, 402, 1000, 4000, 10 ** 9):
            self.assert_no_pool(take=take)

    def test_brk(self):
        for brk in (1, 2, 999, 1000):
            self.assert_pool(brk=brk)
        for brk in (0, 1001, 10000, 10 ** 9):
            self.assert_no_pool(brk=brk)

    def test_unit(self):
        for unit in (1, 2, 9999, 10000):
            self.assert_pool(unit=unit)
        for unit in (0, 10001, 100000, 10 ** 9):
            self.assert_no_pool(unit=unit)

    def test_least_is_0_or_from_unit_to_twice_the_unit(self):
        for unit in (1, 2, 3, 100, 9999, 10000):
            for least in (0, unit, 2 * unit - 1, 2 * unit):
                self.assert_pool(unit=unit, least=least)
            for least in (unit - 1, 2 * unit + 1, 3 * unit, 10 * unit, 10 ** 9):
                if least > 0:
                    self.assert_no_pool(unit=unit, least=least)
        self.assert_no_pool(unit=100, least=1)

    def test_none(self):
        for kind in ("place 1", "place 4", "order 2", "any 2", "legs 2"):
            self.assert_pool(kind=kind, none="refund")
            self.assert_pool(kind=kind, none="carry")
            for none in ("", "none", "Refund", "refunds", "few", "0"):
                self.assert_no_pool(kind=kind, none=none)

    def test_no_fewer_of_place(self):
        for kind in ("order 2", "order 4", "any 2", "any 3", "legs 2", "legs 6"):
            self.assert_pool(kind=kind, none="fewer")
        for k in range(1, 5):
            self.assert_no_pool(kind=f"place {k}", none="fewer")

    def test_one_wrong_pool_among_others_makes_no_card(self):
        right = [pool_line(f"p{number}") for number in range(3)]
        self.assert_card(RACE + "".join(right))
        for at in range(3):
            lines = list(right)
            lines[at] = pool_line("q", take=401)
            self.assert_no_card(RACE + "".join(lines))
            self.assert_refused(-8, RACE + "".join(lines), [], 0)


if __name__ == "__main__":
    unittest.main()
