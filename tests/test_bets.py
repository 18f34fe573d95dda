"""What a bet of a card is: its line and words, and every limit of stakes and sets."""

import unittest

from poolday.pools import put
from tests.samples import BetTest, bet_of, card_of, codes, on_of, pool_line, set_of

BET = "bet order2 for 1 on 1,2 / 2,3\n"
KEY = "bet order3 for 1 key 1 with 2,3\n"
BOX = "bet any2 for 1 box 1,3,5\n"
MANY_DIGITS = "1" * 4000


class Lines(BetTest):
    def test_bets(self):
        for text in (BET, KEY, BOX, "bet win for 1 on 1\n", "bet legs2 for 1000000 on 5 / 4\n"):
            self.assert_text(text)

    def test_the_empty_text_and_one_line_feed(self):
        self.assert_no_text("")
        self.assert_no_text("\n")
        self.assert_no_text("bet\n")

    def test_the_line_has_a_line_feed(self):
        for text in (BET, KEY, BOX):
            self.assert_no_text(text[:-1])
            self.assert_no_text(text[:-1] + "\r")
            self.assert_no_text(text[:-1] + "\r\n")

    def test_nothing_stands_behind_the_line_or_ahead_of_it(self):
        for text in (BET, KEY, BOX):
            for more in ("\n", " ", " \n", "x", "x\n", "\x00", text, text[:-1]):
                self.assert_no_text(text + more)
                self.assert_no_text(more + text)

    def test_words_have_one_blank_between_them(self):
        for text in (BET, KEY, BOX):
            for at, sign in enumerate(text):
                if sign == " ":
                    for other in ("", "  ", "\t", "\n", "\x00", "\xa0", ","):
                        self.assert_no_text(text[:at] + other + text[at + 1:])

    def test_no_blank_stands_at_the_lines_beginning_or_end(self):
        for text in (BET, KEY, BOX):
            self.assert_no_text(" " + text)
            self.assert_no_text(text[:-1] + " \n")
            self.assert_no_text(text + " ")

    def test_no_other_byte_stands_anywhere(self):
        for text in (BET, KEY, BOX):
            for byte in range(256):
                if chr(byte) not in "abcdefghijklmnopqrstuvwxyz0123456789 \n,/":
                    for at in range(len(text) + 1):
                        self.assert_no_text(text[:at] + chr(byte) + text[at:])
                        self.assert_no_text(text[:at] + chr(byte) + text[at + 1:])

    def test_each_word_is_needed_in_its_place(self):
        for text in (BET, KEY, BOX):
            words = text.split()
            for at in range(len(words)):
                self.assert_no_text(" ".join(words[:at] + words[at + 1:]) + "\n")
                self.assert_no_text(" ".join(words[:at] + ["x"] + words[at:]) + "\n")
                self.assert_no_text(" ".join(words[:at] + [words[at]] + words[at:]) + "\n")
                self.assert_no_text(" ".join(words[:at] + ["x"] + words[at + 1:]) + "\n")
                self.assert_no_text(" ".join(words[:at]) + "\n")

    def test_words_too_many(self):
        for text in (BET, KEY, BOX):
            for more in ("/", "/ 3", "3", "with", "with 3", "on 1", "box 1", "for 1", "none"):
                self.assert_no_text(f"{text[:-1]} {more}\n")

    def test_words_written_otherwise(self):
        for text in (BET, KEY, BOX):
            for word in ("bet", "for", "on", "key", "with", "box"):
                if f" {word} " in f" {text}":
                    for other in (word.upper(), word.capitalize(), word + "s", word[:-1], "to"):
                        self.assert_no_text(f" {text}".replace(f" {word} ", f" {other} ")[1:])

    def test_forms_do_not_change_places(self):
        self.assert_no_form("order2", "box 1 / 2")
        self.assert_no_form("order2", "box 1,2 / 1,2")
        self.assert_no_form("order2", "on 1 with 2")
        self.assert_no_form("order2", "key 1 / 2")
        self.assert_no_form("order2", "box 1 with 2")
        self.assert_no_form("order2", "with 1 key 2")
        self.assert_no_form("order2", "1 / 2")


class Names(BetTest):
    def test_the_name_is_a_pools_of_the_card(self):
        self.assert_form("win", "on 1")
        for name in ("", "wi", "wins", "Win", "monday", "place", "0", "win1", "a" * 13, "a" * 4000):
            self.assert_no_form(name, "on 1")
        self.assert_no_text(BET, card_of(["4"], []))

    def test_pools_called_like_the_words_of_a_bet(self):
        names = ("bet", "for", "on", "box", "key", "with", "a")
        card = card_of(["4"], [pool_line(name, "order 2") for name in names])
        for name in names:
            self.assert_text(f"bet {name} for 100 on 1 / 2\n", card)
            self.assert_text(f"bet {name} for 100 box 1,2\n", card)
            self.assert_text(f"bet {name} for 100 key 1 with 2\n", card)

    def test_each_pool_is_found_by_its_name(self):
        card = card_of(["3", "4", "5"], [pool_line(f"p{race}", "place 1", race) for race in (3, 1, 2)])
        for name, runners in (("p1", 3), ("p2", 4), ("p3", 5)):
            self.assert_text(f"bet {name} for 100 on {runners}\n", card)
            self.assert_no_text(f"bet {name} for 100 on {runners + 1}\n", card)


class Stakes(BetTest):
    def assert_stake(self, stake, unit):
        self.assert_text(f"bet p for {stake} on 1\n", card_of(["4"], [pool_line("p", unit=unit)]))

    def assert_no_stake(self, stake, unit):
        self.assert_no_text(f"bet p for {stake} on 1\n", card_of(["4"], [pool_line("p", unit=unit)]))

    def test_above_0_to_1000000(self):
        for stake in (1, 2, 9, 10, 999999, 1000000):
            self.assert_stake(stake, 1)
        for stake in (0, 1000001, 1000002, 2000000, 9999999, 10000000, 2 ** 31, 2 ** 32 + 1, 2 ** 64 + 1):
            self.assert_no_stake(stake, 1)

    def test_a_multiple_of_the_unit(self):
        for unit in (2, 3, 100, 9999, 10000):
            most = 1000000 // unit * unit
            for stake in (unit, 2 * unit, 7 * unit, most - unit, most):
                self.assert_stake(stake, unit)
            for stake in (0, 1, unit - 1, unit + 1, 2 * unit - 1, most - 1, most + 1, most + unit):
                self.assert_no_stake(stake, unit)

    def test_the_unit_of_its_own_pool(self):
        card = card_of(["4"], [pool_line("p", unit=2), pool_line("q", unit=3)])
        for name, stake in (("p", 4), ("q", 9), ("p", 6), ("q", 6)):
            self.assert_text(f"bet {name} for {stake} on 1\n", card)
        for name, stake in (("p", 9), ("q", 4)):
            self.assert_no_text(f"bet {name} for {stake} on 1\n", card)

    def test_what_is_no_number(self):
        for word in ("", "x", "-1", "+1", "1-", "1.0", "1,0", "1,1", "1/1", "/", ",", "01", "001", "00", "0x1",
                     "1e1", "\xb2", "1\xb2", "1_0", "0" * 4000 + "1", MANY_DIGITS):
            self.assert_no_stake(word, 1)


class Sets(BetTest):
    def test_numbers_rise(self):
        for name, form in (("win", "on {}"), ("order2", "on {} / 2"), ("order2", "on 1 / {}"), ("any2", "box {}"),
                           ("legs2", "on {} / 1"), ("legs2", "on 1 / {}"), ("order3", "key 5 with {}"),
                           ("any3", "key 5 with {}")):
            for word in ("2,3", "1,2,3"):
                self.assert_form(name, form.format(word))
            for word in ("3,2", "2,2", "3,3", "1,1", "1,3,2", "2,1,3", "1,1,2", "1,2,2", "1,2,1", "3,2,1"):
                self.assert_no_form(name, form.format(word))

    def test_key_sets_rise(self):
        self.assert_form("order4", "key 1,2 with 3,5")
        self.assert_form("order4", "key 2,3,5 with 1")
        for keyed, others in (("2,1", "3,5"), ("1,1", "3,5"), ("1,2", "5,3"), ("1,2", "3,3,5"), ("3,2,5", "1")):
            self.assert_no_form("order4", f"key {keyed} with {others}")

    def test_no_place_between_commas_is_empty(self):
        for name, form in (("win", "on {}"), ("order2", "on {} / 2"), ("order2", "on 1 / {}"), ("any2", "box {}"),
                           ("any3", "key {} with 3,5"), ("any3", "key 1 with {}"), ("legs2", "on 1 / {}")):
            for word in (",", ",2", "2,", "2,,3", ",,", "2,3,", ",2,3", "2,,", "2, 3", "2 ,3", "2 , 3", "2 3", ""):
                self.assert_no_form(name, form.format(word))

    def test_what_is_no_number(self):
        for word in ("x", "01", "02", "00", "1x", "-1", "+1", "1.0", "1-2", "1;2", "1/2", "1\xb2", "\xb2", "\xb9",
                     "0" * 3000 + "1", str(2 ** 32 + 1), str(2 ** 64 + 1), "1" * 8, MANY_DIGITS):
            self.assert_no_form("win", f"on {word}")
            self.assert_no_form("win", f"on 1,{word}")
            self.assert_no_form("win", f"on {word},5")
            self.assert_no_form("order2", f"on {word} / 2")
            self.assert_no_form("any2", f"box 1,2,{word}")
            self.assert_no_form("any2", f"key {word} with 2")
            self.assert_no_form("any2", f"key 1 with {word}")
            self.assert_no_form("legs2", f"on {word} / 2")

    def test_numbers_are_interests(self):
        # Runner 4 is a couple's b; there is no runner 0 and no runner 6.
        for name, form in (("win", "on {}"), ("show", "on {}"), ("order2", "on {} / 2"), ("order2", "on 1 / {}"),
                           ("any2", "box 1,2,{}"), ("any2", "key {} with 1"), ("any2", "key 1 with {}"),
                           ("any3", "on 1 / 2 / {}"), ("legs2", "on {} / 1")):
            self.assert_form(name, form.format(3))
            self.assert_form(name, form.format(5))
            for number in (0, 4, 6, 7, 24, 25, 99):
                self.assert_no_form(name, form.format(number))
        for numbers in ("0,1", "3,4", "3,4,5", "4,5", "5,6", "1,2,3,5,6"):
            self.assert_no_form("win", f"on {numbers}")

    def test_each_set_of_legs_has_interests_of_its_own_race(self):
        # Interests are 1 2 3 5, then 1 2 3 4, then 1 2 3 4.
        self.assert_form("legs3", "on 5 / 4 / 4")
        self.assert_form("legs3", "on 1,2,3,5 / 1,2,3,4 / 1,2,3,4")
        for form in ("on 4 / 4 / 4", "on 5 / 5 / 4", "on 5 / 4 / 5", "on 5 / 4 / 6", "on 6 / 4 / 4", "on 5 / 6 / 4",
                     "on 1,4 / 1 / 1", "on 1 / 1,5 / 1", "on 1 / 1 / 1,5"):
            self.assert_no_form("legs3", form)

    def test_legs_that_begin_behind_the_first_race(self):
        card = card_of(["9", "2", "3", "4", "9"], [pool_line("p", "legs 3", 2)])
        self.assert_text("bet p for 100 on 2 / 3 / 4\n", card)
        for form in ("3 / 3 / 4", "2 / 4 / 4", "2 / 3 / 5"):
            self.assert_no_text(f"bet p for 100 on {form}\n", card)


class On(BetTest):
    def test_as_many_sets_as_k(self):
        for name, k in (("order2", 2), ("order3", 3), ("order4", 4), ("any2", 2), ("any3", 3), ("legs2", 2),
                        ("legs3", 3)):
            for sets in range(1, 9):
                # 5 is no interest of the second leg's race.
                form = on_of([(1, 2, 3) if name.startswith("legs") else (1, 2, 3, 5)] * sets)
                if sets == k:
                    self.assert_form(name, form)
                else:
                    self.assert_no_form(name, form)

    def test_one_set_of_place_whatever_k(self):
        for k in range(1, 5):
            card = card_of(["5"], [pool_line("p", f"place {k}")])
            self.assert_text("bet p for 100 on 1\n", card)
            self.assert_text("bet p for 100 on 1,2,3,4,5\n", card)
            for sets in range(2, 6):
                self.assert_no_text(f"bet p for 100 {on_of([[1]] * sets)}\n", card)
                self.assert_no_text(f"bet p for 100 {on_of([[number + 1] for number in range(sets)])}\n", card)

    def test_slashes_stand_between_sets(self):
        for form in ("on / 1 2", "on 1 2 /", "on / 1 / 2", "on 1 / 2 /", "on 1 / / 2", "on / /", "on /", "on 1/2",
                     "on 1/ 2", "on 1 /2", "on 1 2", "on 1 2 3", "on 1 , 2", "on 1 with 2", "on 1 // 2", "on"):
            self.assert_no_form("order2", form)
            self.assert_no_form("legs2", form)
            self.assert_no_form("any2", form)
            self.assert_no_form("win", form)

    def test_at_least_one_combination(self):
        self.assert_no_form("order2", "on 1 / 1")
        self.assert_form("order2", "on 1,2 / 1")
        self.assert_no_form("order3", "on 1,2 / 1,2 / 1,2")
        self.assert_form("order3", "on 1,2 / 1,2 / 1,2,3")
        self.assert_no_form("order4", "on 1,2,3,5 / 1 / 1 / 2")
        self.assert_no_form("any2", "on 5 / 5")
        self.assert_form("any2", "on 5 / 3,5")
        self.assert_no_form("any3", "on 1,2,3,5 / 1 / 1")
        self.assert_no_form("any3", "on 1,2 / 1,2 / 1,2")
        self.assert_form("any3", "on 1,2 / 1,2 / 2,3")

    def test_legs_may_have_one_number_several_times(self):
        self.assert_form("legs3", "on 1 / 1 / 1")


class BoxAndKey(BetTest):
    def test_order_and_any_alone(self):
        for name in ("order2", "any2"):
            self.assert_form(name, "box 1,2")
            self.assert_form(name, "key 1 with 2")
        for name in ("win", "show", "legs2", "legs3"):
            for form in ("box 1", "box 1,2", "box 1,2,3", "key 1 with 2", "key 1 with 2,3", "key 1,2 with 3"):
                self.assert_no_form(name, form)
        card = card_of(["5"] * 6, [pool_line(f"p{k}", f"place {k}") for k in range(1, 5)]
                       + [pool_line(f"l{k}", f"legs {k}") for k in range(2, 7)])
        for name in ("p1", "p2", "p3", "p4", "l2", "l3", "l4", "l5", "l6"):
            self.assert_no_text(f"bet {name} for 100 box 1,2,3,4,5\n", card)
            self.assert_no_text(f"bet {name} for 100 key 1 with 2,3,4,5\n", card)

    def test_box_has_k_numbers_at_least(self):
        for name, k in (("order2", 2), ("order3", 3), ("order4", 4), ("any2", 2), ("any3", 3)):
            for width in range(1, 5):
                form = f"box {set_of([1, 2, 3, 5][:width])}"
                if width >= k:
                    self.assert_form(name, form)
                else:
                    self.assert_no_form(name, form)

    def test_box_has_one_set(self):
        for form in ("box", "box 1 2", "box 1,2 3", "box 1,2 / 3,5", "box /", "box 1,2 with 3", "box 1,2 box 1,2"):
            self.assert_no_form("order2", form)
            self.assert_no_form("any2", form)

    def test_how_many_numbers_key_has(self):
        card = card_of(["9"], [pool_line(f"{kind}{k}", f"{kind} {k}") for kind in ("order", "any")
                               for k in (2, 3, 4) if (kind, k) != ("any", 4)])
        for name, k in (("order2", 2), ("order3", 3), ("order4", 4), ("any2", 2), ("any3", 3)):
            for keyed in range(1, 6):
                for others in range(1, 5):
                    numbers = list(range(1, 10))
                    text = (f"bet {name} for 100 key {set_of(numbers[:keyed])} with"
                            f" {set_of(numbers[keyed:keyed + others])}\n")
                    if keyed <= k - 1 and keyed + others >= k:
                        self.assert_text(text, card)
                    else:
                        self.assert_no_text(text, card)

    def test_no_number_is_in_both(self):
        for name in ("order3", "any3"):
            self.assert_form(name, "key 1,2 with 3,5")
            for form in ("key 1,2 with 2,3", "key 1,2 with 1,3,5", "key 1 with 1,2,3", "key 5 with 1,2,3,5",
                         "key 2,5 with 1,3,5"):
                self.assert_no_form(name, form)

    def test_key_has_two_sets(self):
        for form in ("key", "key 1", "key 1 with", "key with 2", "key with", "key 1 2", "key 1 with 2 3", "key 1 / 2",
                     "key 1 with 2 / 3", "key 1 with 2 with 3", "key 1 / 3 with 2", "key 1 key 2", "key  with 1"):
            self.assert_no_form("order2", form)
            self.assert_no_form("any2", form)


class Staked(BetTest):
    """Stake times combinations is at most 2^31 - 1, which is a prime: the last right product is 1 below."""

    SETS = on_of([range(4, 24), range(12, 22), range(5, 21)])

    def test_on_in_a_race(self):
        # 2,718 combinations; 2,718 times 790,097 is 2^31 - 2.
        self.assertEqual(2 ** 31 - 2, 2718 * 790097)
        self.assertEqual(1 + 2 * 2718, len(put(codes(self.CARD), bet_of("big", 790097, self.SETS), [])))
        self.assert_text(f"bet big for 790097 {self.SETS}\n")
        self.assert_no_text(f"bet big for 790098 {self.SETS}\n")

    def test_legs(self):
        card = card_of(["24"] * 6, [pool_line("p", "legs 4", unit=1), pool_line("q", "legs 6", unit=1)])
        eight = range(1, 9)
        # 4,096 combinations: the product would be just 2^31.
        self.assert_no_text(f"bet p for 524288 {on_of([eight] * 4)}\n", card)
        self.assert_text(f"bet p for 524287 {on_of([eight] * 4)}\n", card)
        # Cut off at 32 bits the product would be 0.
        self.assert_no_text(f"bet p for 1000000 {on_of([range(1, 17)] * 4)}\n", card)
        self.assert_no_text(f"bet q for 12 {on_of([range(1, 25)] * 6)}\n", card)
        self.assert_no_text(f"bet q for 1000000 {on_of([range(1, 25)] * 6)}\n", card)

    def test_box_and_key(self):
        card = card_of(["24"], [pool_line("p", "order 4", unit=1), pool_line("q", "any 3", unit=1)])
        whole = set_of(range(1, 25))
        rest = set_of(range(2, 25))
        for name, form, count in (("p", f"box {whole}", 24 * 23 * 22 * 21),
                                  ("p", f"key 1 with {rest}", 4 * 23 * 22 * 21)):
            most = (2 ** 31 - 1) // count
            self.assert_text(f"bet {name} for {most} {form}\n", card)
            self.assert_no_text(f"bet {name} for {most + 1} {form}\n", card)
            self.assert_no_text(f"bet {name} for 1000000 {form}\n", card)
        self.assert_text(f"bet q for 1000000 box {whole}\n", card)


class Long(BetTest):
    def test_a_bet_of_4096_bytes_is_read_and_a_longer_one_is_not(self):
        for text in ("x", "\n", "bet win for 1 on 1\n", "bet win for 1 on 1,", " ", "/", "1,"):
            longer = text * 4200
            self.assert_bet_refused(-6, self.CARD, longer[:4096])
            self.assert_bet_refused(-2, self.CARD, longer[:4097])
            self.assert_bet_refused(-2, self.CARD, longer[:4200])

    def test_long_words(self):
        self.assert_no_form("win", "on " + "1," * 2000 + "1")
        self.assert_no_form("win", "on 1" + " / 1" * 1000)
        self.assert_no_form("win", "on 1" + "0" * 4000)
        self.assert_no_form("win", "on 1" + " " * 4000)


if __name__ == "__main__":
    unittest.main()
