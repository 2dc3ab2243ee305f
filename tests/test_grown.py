"""The least set that has some marks and meets some rules: point [9]."""

import unittest
from itertools import combinations, permutations, product

from markbox.rules import grown
from samples import Told, met_by_words, mixed, subsets

FAR = 10 ** 20


def least_by_words(rules, marks, many):
    """What all sets below many have that have the marks and meet the rules."""
    fitting = [whole for whole in subsets(many) if set(marks) <= set(whole)]
    fitting = [whole for whole in fitting if all(met_by_words(rule, whole) for rule in rules)]
    return sorted(set(range(many)).intersection(*fitting))


def chain(start, length):
    """Rules from each mark to the one behind it."""
    return [([start + k], [start + k + 1]) for k in range(length)]


class Ordinary(Told):
    def test_no_rules(self):
        self.assertTold(grown([], []), [])
        self.assertTold(grown([], [0, 3]), [0, 3])
        self.assertTold(grown([], [3, 0, 3, 1]), [0, 1, 3])

    def test_a_rule_that_is_met(self):
        self.assertTold(grown([([0], [1])], [0, 1]), [0, 1])
        self.assertTold(grown([([0], [1])], [2]), [2])
        self.assertTold(grown([([0], [1])], [1]), [1])
        self.assertTold(grown([([0], [1])], []), [])

    def test_a_rule_that_is_not_met(self):
        self.assertTold(grown([([0], [1])], [0]), [0, 1])
        self.assertTold(grown([([1], [0, 2, 3])], [1]), [0, 1, 2, 3])
        self.assertTold(grown([([1], [0, 2, 3])], [1, 2]), [0, 1, 2, 3])

    def test_a_rule_is_not_met_by_some_of_those_ahead(self):
        rules = [([0, 1], [2])]
        self.assertTold(grown(rules, [0]), [0])
        self.assertTold(grown(rules, [1]), [1])
        self.assertTold(grown(rules, [0, 1]), [0, 1, 2])

    def test_nothing_ahead(self):
        self.assertTold(grown([([], [1, 4])], []), [1, 4])
        self.assertTold(grown([([], [1, 4])], [2]), [1, 2, 4])
        self.assertTold(grown([([1], [0]), ([], [1])], []), [0, 1])
        self.assertTold(grown([([], [1]), ([1], [0])], []), [0, 1])

    def test_nothing_behind(self):
        self.assertTold(grown([([0], []), ([], [])], [0, 1]), [0, 1])
        self.assertTold(grown([([0], []), ([], [])], []), [])

    def test_rules_in_a_ring(self):
        rules = [([0], [1]), ([1], [2]), ([2], [0])]
        for order in permutations(rules):
            for start in range(3):
                self.assertTold(grown(list(order), [start]), [0, 1, 2])
            self.assertTold(grown(list(order), [3]), [3])

    def test_any_order_and_more_than_once(self):
        for ahead in permutations([0, 4, 4]):
            for behind in permutations([2, 7, 2]):
                for marks in permutations([4, 0, 4, 5]):
                    rules = [(list(ahead), list(behind))]
                    self.assertTold(grown(rules, list(marks)), [0, 2, 4, 5, 7])

    def test_a_rule_more_than_once(self):
        rules = [([1], [2]), ([0], [1]), ([1], [2]), ([0], [1]), ([1], [3])]
        self.assertTold(grown(rules, [0]), [0, 1, 2, 3])
        self.assertTold(grown(rules, [2]), [2])

    def test_the_arguments_by_name_and_the_place_of_the_function(self):
        self.assertTold(grown(rules=[([0], [1])], marks=[0]), [0, 1])
        self.assertEqual(grown.__module__, "markbox.rules")


class Chains(Told):
    def test_in_every_order_of_the_rules(self):
        for rules in permutations(chain(0, 5)):
            for start in range(6):
                self.assertTold(grown(list(rules), [start]), list(range(start, 6)))

    def test_the_last_rule_first(self):
        self.assertTold(grown(chain(0, 8)[::-1], [0]), list(range(9)))
        self.assertTold(grown(chain(0, 8)[::-1], [5]), [5, 6, 7, 8])

    def test_a_long_chain(self):
        for rules in (chain(0, 5000), chain(0, 5000)[::-1]):
            self.assertTold(grown(rules, [0]), list(range(5001)))
            self.assertTold(grown(rules, [4999]), [4999, 5000])

    def test_a_chain_with_a_gap(self):
        rules = chain(0, 9)
        del rules[4]
        for order in (rules, rules[::-1]):
            self.assertTold(grown(order, [0]), [0, 1, 2, 3, 4])
            self.assertTold(grown(order, [0, 5]), list(range(10)))

    def test_rules_that_need_marks_of_several_others(self):
        rules = [([0], [1]), ([0], [2]), ([1, 2], [3]), ([1, 3], [4]), ([2, 4], [5, 6]), ([0, 6], [7]), ([8], [9])]
        for order in (rules, rules[::-1], rules[3:] + rules[:3]):
            self.assertTold(grown(order, [0]), [0, 1, 2, 3, 4, 5, 6, 7])
            self.assertTold(grown(order, [1]), [1])
            self.assertTold(grown(order, [1, 2]), [1, 2, 3, 4, 5, 6])

    def test_a_rule_that_needs_all_of_a_chain(self):
        for ahead in permutations([1, 2, 3, 4]):
            rules = [(list(ahead), [9]), *chain(0, 4)[::-1]]
            self.assertTold(grown(rules, [0]), [0, 1, 2, 3, 4, 9])
            self.assertTold(grown(rules[::-1], [0]), [0, 1, 2, 3, 4, 9])
            self.assertTold(grown(rules, [2]), [2, 3, 4])

    def test_several_rules_that_wait_for_one_mark(self):
        rules = [([1, 2], [3]), ([1, 4], [5]), ([1], [6]), ([6], [4]), ([0], [1])]
        for order in permutations(rules):
            self.assertTold(grown(list(order), [0]), [0, 1, 4, 5, 6])


class FarMarks(Told):
    def test_marks_far_beyond_any_table(self):
        self.assertTold(grown([([FAR], [FAR + 1, 8])], [FAR]), [8, FAR, FAR + 1])
        self.assertTold(grown([([FAR], [FAR + 1])], [FAR + 1, 9]), [9, FAR + 1])
        self.assertTold(grown([], [FAR, 8, 100]), [8, 100, FAR])

    def test_a_chain_of_them(self):
        self.assertTold(grown(chain(FAR, 30)[::-1], [FAR]), list(range(FAR, FAR + 31)))

    def test_a_number_that_python_does_not_write_out(self):
        huge = 10 ** 5000
        self.assertTrue(grown([([0], [huge]), ([huge], [huge + 1])], [0]) == [0, huge, huge + 1])


class AgainstTheWords(Told):
    def check(self, rules, many):
        for marks in subsets(many):
            told = grown(rules, marks)
            self.assertTold(told, least_by_words(rules, marks, many))
            self.assertTold(grown(rules, told), told)

    def test_every_two_rules_of_three_marks(self):
        every = list(product(subsets(3), repeat=2))
        for rules in combinations(every, 2):
            self.check(list(rules), 3)

    def test_four_rules_of_six_marks(self):
        every = [(ahead, behind) for ahead in combinations(range(6), 2) for behind in ([0], [3], [1, 4], [5])]
        for place in range(len(every) - 3):
            picked = [every[place], every[place + 3], every[7 * place % len(every)], every[-1 - place]]
            self.check([(mixed(list(ahead)), mixed(behind)) for ahead, behind in picked], 6)

    def test_told_anew_it_stays(self):
        rules = [([3, 1], [0]), ([2], [5, FAR]), ([FAR], [1]), ([0, 5], [FAR + 2, 4])]
        for marks in ([], [2], [3, 1], [2, 3], [FAR], [FAR, 3], [0, 5, 3], [7, FAR + 2]):
            told = grown(rules, marks)
            self.assertTold(grown(rules, told), told)
            self.assertTold(grown(rules[::-1], told), told)
            self.assertLessEqual(set(marks), set(told))
            self.assertTrue(all(met_by_words(rule, told) for rule in rules))


if __name__ == "__main__":
    unittest.main()
