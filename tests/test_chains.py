"""Points 6 and 7: chains of waits."""

import unittest

from bucketline.chains import chain_of_waits, judge_chain, slowest_part
from bucketline.errors import InvalidChain, InvalidNumber, UnknownPerson
from tests.cases import Case, line_of, some_paces
from tests.simulation import hand_over_ends


class JudgeChainTest(Case):
    def setUp(self):
        # Durations 4, 3, 5 and 5.
        self.line = line_of(4, 2, 3, 5, 1)

    def test_no_hand_overs(self):
        self.assertEqual(judge_chain(self.line, []), 0)
        self.assertEqual(judge_chain(line_of(1, 1), []), 0)

    def test_one_hand_over(self):
        for bucket in (0, 1, 500, 501, 10 ** 30):
            sums = [judge_chain(self.line, [(bucket, name)]) for name in ("ann", "bob", "cid", "dan")]
            self.assertEqual(sums, [4, 3, 5, 5])

    def test_next_hand_over_of_the_same_bucket(self):
        self.assertEqual(judge_chain(self.line, [(7, "ann"), (7, "bob"), (7, "cid"), (7, "dan")]), 17)

    def test_next_bucket_to_the_one_who_handed_on(self):
        self.assertEqual(judge_chain(self.line, [(3, "dan"), (4, "cid"), (5, "bob"), (6, "ann")]), 17)

    def test_last_hand_over_of_the_next_bucket(self):
        self.assertEqual(judge_chain(self.line, [(3, "dan"), (4, "dan"), (5, "dan")]), 15)

    def test_all_kinds_of_waits(self):
        chain = [(0, "bob"), (0, "cid"), (1, "bob"), (1, "cid"), (1, "dan"), (2, "dan"), (3, "cid")]
        self.assertEqual(judge_chain(self.line, chain), 3 + 5 + 3 + 5 + 5 + 5 + 5)

    def test_two_people(self):
        self.assertEqual(judge_chain(line_of(2, 6), [(0, "ann"), (1, "ann"), (2, "ann")]), 18)
        self.fails(InvalidChain(index=1), judge_chain, line_of(2, 6), [(0, "ann"), (2, "ann")])
        self.fails(InvalidChain(index=1), judge_chain, line_of(2, 6), [(0, "ann"), (0, "ann")])
        self.fails(InvalidChain(index=0), judge_chain, line_of(2, 6), [(0, "bob")])

    def test_negative_buckets(self):
        self.fails(InvalidChain(index=0), judge_chain, self.line, [(-1, "ann")])
        self.fails(InvalidChain(index=0), judge_chain, self.line, [(-1, "bob"), (0, "ann")])
        self.fails(InvalidChain(index=0), judge_chain, self.line, [(True, "ann")])

    def test_nobody_who_hands_on(self):
        self.fails(InvalidChain(index=0), judge_chain, self.line, [(0, "eve")])
        self.fails(InvalidChain(index=0), judge_chain, self.line, [(0, "fay")])
        self.fails(InvalidChain(index=1), judge_chain, self.line, [(0, "dan"), (0, "eve")])
        self.fails(InvalidChain(index=2), judge_chain, self.line, [(0, "ann"), (0, "bob"), (0, "")])

    def test_hand_overs_that_do_not_have_to_wait(self):
        wrong = [(4, "ann"), (4, "bob"), (4, "dan"), (5, "bob"), (5, "cid"), (5, "dan"), (5, "eve"),
                 (3, "ann"), (3, "cid"), (3, "bob"), (6, "ann"), (6, "bob"), (4, "eve")]
        for item in wrong:
            self.fails(InvalidChain(index=1), judge_chain, self.line, [(4, "bob"), item])
        self.assertEqual([judge_chain(self.line, [(4, "bob"), item]) for item in [(4, "cid"), (5, "ann")]], [8, 7])

    def test_what_does_not_wait_for_the_last_hand_over(self):
        for item in [(4, "dan"), (5, "ann"), (5, "bob"), (6, "dan"), (6, "cid"), (4, "cid"), (3, "dan")]:
            self.fails(InvalidChain(index=1), judge_chain, self.line, [(4, "dan"), item])

    def test_the_first_wrong_item_counts(self):
        chain = [(0, "ann"), (0, "bob"), (2, "ann"), (-1, "ann"), (0, "nobody")]
        self.fails(InvalidChain(index=2), judge_chain, self.line, chain)
        self.fails(InvalidChain(index=1), judge_chain, self.line, [(0, "ann"), (0, "eve"), (-1, "ann")])

    def test_no_hand_over_ends_before_the_sum(self):
        for paces in some_paces(1, seed=21):
            line = line_of(*paces)
            chain = [(0, name) for name in line.names[:-1]]
            chain += [(bucket, line.names[-2]) for bucket in range(1, 9)]
            self.assertLessEqual(judge_chain(line, chain), line(8, line.names[-1]))


def expected_chain(line, ends, bucket, place):
    """Return the chain that point 7 describes, from the ends that were simulated."""
    last = len(ends) - 1
    item = (bucket, place - 1) if place else (bucket - 1, 0)
    chain = []
    while item[0] >= 0 and item[1] >= 0:
        bucket, place = item
        chain.insert(0, (bucket, line.names[place]))
        waits = []
        if place > 0:
            waits.append((ends[place - 1][bucket], 1, (bucket, place - 1)))
        if bucket > 0:
            behind = place if place == last else place + 1
            waits.append((ends[behind][bucket - 1], 0, (bucket - 1, behind)))
        item = max(waits)[2] if waits else (-1, -1)
    return chain


class ChainOfWaitsTest(Case):
    def test_against_a_simulation_of_hands(self):
        for paces in some_paces(1, seed=22):
            line = line_of(*paces)
            ends = hand_over_ends(paces, 16)
            for place, name in enumerate(line.names):
                for bucket in (0, 1, 2, 3, 5, 8, 15):
                    expected = expected_chain(line, ends, bucket, place)
                    self.assertEqual(chain_of_waits(line, bucket, name), expected, (paces, bucket, name))

    def test_the_sum_is_the_tick(self):
        for paces in some_paces(1, seed=23):
            line = line_of(*paces)
            for name in line.names:
                for bucket in (0, 1, 2, 7, 60, 500):
                    chain = chain_of_waits(line, bucket, name)
                    self.assertEqual(judge_chain(line, chain), line(bucket, name))

    def test_first_person_and_bucket_0(self):
        self.assertEqual(chain_of_waits(line_of(2, 3, 1), 0, "ann"), [])
        self.assertEqual(chain_of_waits(line_of(2, 3), 0, "ann"), [])

    def test_first_person_and_later_buckets(self):
        self.assertEqual(chain_of_waits(line_of(2, 3, 1), 1, "ann"), [(0, "ann")])
        self.assertEqual(chain_of_waits(line_of(2, 3, 1), 2, "ann"), [(0, "ann"), (0, "bob"), (1, "ann")])

    def test_of_equal_waits_the_same_bucket(self):
        # Durations 1, 1, 1 and 1: bob holds bucket 1 and cid is free in tick 3.
        expected = [(0, "ann"), (0, "bob"), (1, "ann"), (1, "bob")]
        self.assertEqual(chain_of_waits(line_of(1, 1, 1, 1, 1), 1, "cid"), expected)

    def test_the_longer_wait(self):
        # Durations 1, 1 and 5: bob holds bucket 1 in tick 3, but cid is free in tick 7.
        expected = [(0, "ann"), (0, "bob"), (0, "cid"), (1, "bob")]
        self.assertEqual(chain_of_waits(line_of(1, 1, 1, 5), 1, "cid"), expected)

    def test_two_people(self):
        line = line_of(3, 2)
        self.assertEqual(chain_of_waits(line, 0, "bob"), [(0, "ann")])
        self.assertEqual(chain_of_waits(line, 2, "bob"), [(0, "ann"), (1, "ann"), (2, "ann")])
        self.assertEqual(chain_of_waits(line, 2, "ann"), [(0, "ann"), (1, "ann")])
        self.assertEqual(len(chain_of_waits(line, 500, "bob")), 501)

    def test_bucket_0_and_bucket_500(self):
        line = line_of(*[1] * 12)
        self.assertEqual(chain_of_waits(line, 0, "lea"), [(0, name) for name in line.names[:-1]])
        chain = chain_of_waits(line, 500, "lea")
        self.assertEqual([len(chain), chain[0], chain[-1]], [1011, (0, "ann"), (500, "kim")])

    def test_wrong_buckets(self):
        for bucket in (-1, 501, 10 ** 18, True, False):
            self.fails(InvalidNumber(), chain_of_waits, line_of(2, 3, 1), bucket, "bob")
            self.fails(InvalidNumber(), chain_of_waits, line_of(2, 3, 1), bucket, "dan")

    def test_unknown_people(self):
        self.fails(UnknownPerson(name="dan"), chain_of_waits, line_of(2, 3, 1), 0, "dan")
        self.fails(UnknownPerson(name="dan"), chain_of_waits, line_of(2, 3, 1), 500, "dan")


class SlowestPartTest(Case):
    def test_two_people(self):
        self.assertEqual(slowest_part(line_of(3, 2)), ["ann", "bob"])

    def test_three_neighbors(self):
        self.assertEqual(slowest_part(line_of(3, 2, 1)), ["ann", "bob", "cid"])
        self.assertEqual(slowest_part(line_of(1, 2, 9, 1, 1, 8)), ["bob", "cid", "dan"])
        self.assertEqual(slowest_part(line_of(1, 1, 1, 1, 8)), ["cid", "dan", "eve"])

    def test_the_first_of_several(self):
        self.assertEqual(slowest_part(line_of(*[5] * 12)), ["ann", "bob", "cid"])
        self.assertEqual(slowest_part(line_of(1, 1, 6, 1, 1, 6, 1)), ["bob", "cid", "dan"])


if __name__ == "__main__":
    unittest.main()
