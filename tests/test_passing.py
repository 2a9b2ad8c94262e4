"""What can be heard: hearings, settings, papers, wants."""

import unittest
from random import Random

from alikeagain.errors import BadPaper
from alikeagain.passing import busiest, can_have, check_have, count_settings, do_serve, fewest_rounds, first_settings
from alikeagain.passing import have_paper, need_wants, serving_rounds
from alikeagain.rounds import hears, need_round

from tests import slow
from tests.nets_samples import ALL_WANTS, GREAT, HEARING, NET, NETS, OMEGA, SMALL_NETS, WANTS, params, some_nets
from tests.refusals import NO_TUPLES, Refusals, at_place, otherwise

WORDS = ("round", "tree")
FREE = (((0, 0), (0, 0)), ())
NOT_FORMS = NO_TUPLES + (
    (), ("round",), ("tree",), ("round", FREE, ()), ["round", FREE], ("rounds", FREE), (b"round", FREE), (0, FREE),
    (None, FREE), ("", FREE), (("round",), FREE), (FREE, "round"),
) + tuple((value, FREE) for value in NO_TUPLES)


def some_wants(random, net, most):
    pairs = [(one, other) for one in slow.stations(net) for other in slow.stations(net)]
    return tuple(sorted(random.sample(pairs, min(random.randrange(most + 1), len(pairs)))))


def some_hearing(random, net):
    row = [station if random.randrange(5) else None for station in slow.stations(net)]
    random.shuffle(row)
    return tuple(row)


def is_served(net, wants, faults, rounds):
    heard = [slow.hears(net, one_round, faults) for one_round in rounds]
    return all(any(row[other] == one for row in heard) for one, other in wants)


class TestHearings(Refusals, unittest.TestCase):
    def test_refusals(self):
        for function in (can_have, first_settings, count_settings, have_paper):
            self.all_refusals(function, params("net", "hearing", "faults"))
        # A hearing of nobody, so that the paper holds with the other arguments.
        ahead = params("net", "hearing", "faults")
        ahead[1] = ("hearing", (None,) * 4, ahead[1][2])
        wrongs = at_place(NOT_FORMS, BadPaper, "form", "word")
        wrongs += at_place([("tree", value) for value in NO_TUPLES], BadPaper, "tree", "word")
        wrongs += at_place([("round", value) for value in NO_TUPLES], BadPaper, "round", "word")
        self.all_refusals(check_have, ahead + [("paper", ("round", FREE), wrongs)])

    def test_all_hearings_of_small_nets(self):
        random = Random(11)
        for net in SMALL_NETS:
            hearings = slow.all_hearings(net)
            for faults in [()] + random.sample(slow.all_faults(net), 4):
                table = slow.settings_by_hearing(net, faults)
                for hearing in random.sample(hearings, min(len(hearings), 40)):
                    self.check_hearing(net, hearing, faults, table.get(hearing, []))

    def test_some_hearings_of_greater_nets(self):
        random = Random(12)
        for net in NETS[10:] + (some_nets(13, 1, (3,))[0], OMEGA):
            for faults in [()] + random.sample(slow.all_faults(net), 1):
                if len(net[1]) > 2:
                    continue
                table = slow.settings_by_hearing(net, faults) if len(net[1]) < 2 else {}
                for _ in range(10):
                    hearing = some_hearing(random, net)
                    if table:
                        self.check_hearing(net, hearing, faults, table.get(hearing, []))
                    else:
                        self.check_hearing(net, hearing, faults, self.settings_for(net, hearing, faults))

    def settings_for(self, net, hearing, faults):
        senders = slow.senders(hearing)
        return [each for each in slow.all_settings(net) if slow.hears(net, (each, senders), faults) == hearing]

    def check_hearing(self, net, hearing, faults, settings):
        self.assertIs(can_have(net, hearing, faults), bool(settings))
        self.assertEqual(first_settings(net, hearing, faults), min(settings, default=None))
        self.assertEqual(count_settings(net, hearing, faults), len(settings))
        paper = have_paper(net, hearing, faults)
        word = "round" if settings else "tree"
        self.assertEqual(paper[0], word)
        self.assertEqual(check_have(net, hearing, faults, paper), word)
        self.assertEqual(slow.paper_on_hearing(net, hearing, faults, paper), word)

    def test_hearing_of_nobody(self):
        for net in NETS + (GREAT,):
            nobody = (None,) * 2 ** net[0]
            switches = (len(net[1]) + 1) * 2 ** net[0] // 2
            zeros = ((0,) * (2 ** net[0] // 2),) * (len(net[1]) + 1)
            self.assertTrue(can_have(net, nobody, ()))
            self.assertEqual(first_settings(net, nobody, ()), zeros)
            self.assertEqual(count_settings(net, nobody, (("stuck", 0, 0, 1),)), 2 ** switches)
            self.assertEqual(have_paper(net, nobody, ())[0], "round")

    def test_by_hand(self):
        # Two messages at one switch of the net with one row.
        net = (1, ())
        self.assertEqual(first_settings(net, (1, 0), ()), ((1,),))
        self.assertIsNone(first_settings(net, (1, 0), (("stuck", 0, 0, 0),)))
        self.assertEqual(first_settings(net, (1, 0), (("stuck", 0, 0, 1),)), ((0,),))
        self.assertEqual(count_settings(net, (1, 0), (("stuck", 0, 0, 1),)), 2)
        self.assertEqual(count_settings((1, ((0, 1),)), (1, 0), ()), 2)
        self.assertEqual(count_settings((1, ((0, 1),)), (1, None), (("broken", 1, 0),)), 1)
        # Each line of the last wires, and of the first ones.
        self.assertFalse(can_have(net, (0, None), (("broken", 0, 0),)))
        self.assertFalse(can_have(net, (0, None), (("broken", 1, 0),)))
        self.assertTrue(can_have(net, (None, 1), (("broken", 0, 0), ("broken", 1, 0))))

    def test_great_nets(self):
        random = Random(14)
        for net in [GREAT] + [net for net in some_nets(15, 30, (3,)) if len(net[1]) == 3]:
            for _ in range(12):
                hearing = some_hearing(random, net)
                faults = random.choice(slow.all_faults(net))
                paper = have_paper(net, hearing, faults)
                self.assertEqual(check_have(net, hearing, faults, paper), paper[0])
                self.assertIs(can_have(net, hearing, faults), paper[0] == "round")
                if paper[0] == "round":
                    self.assertEqual(slow.hears(net, paper[1], faults), hearing)
                    self.assertEqual(first_settings(net, hearing, faults), paper[1][0])
                    self.assertGreater(count_settings(net, hearing, faults), 0)
                else:
                    self.assertIsNone(first_settings(net, hearing, faults))
                    self.assertEqual(count_settings(net, hearing, faults), 0)

    def test_a_great_net_counted_to_the_end(self):
        net = (3, ((0, 1, 2, 3, 4, 5, 6, 7),) * 3)
        straight = tuple(range(8))
        # In each of four pairs an even number of four switches is crossed.
        self.assertEqual(count_settings(net, straight, ()), 8 ** 4)
        self.assertEqual(count_settings(net, straight, (("stuck", 2, 1, 1),)), 8 ** 4)
        self.assertEqual(count_settings(net, (None,) * 7 + (6,), ()), 8 * 2 ** 12)
        self.assertEqual(have_paper(net, (2, *straight[1:2], 0, *straight[3:]), ())[0], "tree")

    def test_papers_by_other_hands(self):
        # The round may have senders whose messages are lost.
        net = (1, ())
        faults = (("broken", 0, 1),)
        self.assertEqual(check_have(net, (0, None), faults, ("round", (((0,),), (0, 1)))), "round")
        self.refused(check_have, (net, (0, None), (), ("round", (((0,),), (0, 1)))), BadPaper, word="round")
        # A tree may begin with any station that is to hear somebody.
        net = (2, ())
        hearing = (2, 1, None, 0)
        self.assertEqual(check_have(net, hearing, (), ("tree", (0, ()))), "tree")
        self.assertEqual(check_have(net, hearing, (), ("tree", (3, ()))), "tree")
        self.assertEqual(check_have(net, hearing, (), ("tree", (1, ((0, ()),)))), "tree")
        self.assertEqual(check_have(net, hearing, (), ("tree", (1, ((3, ()),)))), "tree")
        for tree in ((2, ()), (1, ()), (1, ((1, ()),)), (1, ((2, ()),)), (4, ()), (0, ((3, ()),)), (True, ((0, ()),))):
            self.refused(check_have, (net, hearing, (), ("tree", tree)), BadPaper, word="tree")

    def test_papers_with_something_otherwise(self):
        random = Random(16)
        cases = [(NET, HEARING, ()), (NET, (1, 0, None, None), ()), ((1, ((0, 1),)), (1, 0), (("stuck", 0, 0, 0),))]
        cases += [((1, ((0, 1),)), (0, 1), (("broken", 1, 0),)), ((2, ()), (1, 0, 0 + 3, 2), ())]
        cases += [((2, ((0, 1, 2, 3),)), (0, 1, 2, None), (("stuck", 0, 1, 1), ("stuck", 1, 1, 0)))]
        for net in SMALL_NETS:
            cases.append((net, some_hearing(random, net), random.choice(slow.all_faults(net))))
        for net, hearing, faults in cases:
            paper = have_paper(net, hearing, faults)
            for other in otherwise(paper):
                told = slow.paper_on_hearing(net, hearing, faults, other)
                if isinstance(told, list):
                    self.refused(check_have, (net, hearing, faults, other), BadPaper, word=told[0])
                else:
                    self.assertEqual(check_have(net, hearing, faults, other), told)

    def test_no_hearing_has_both_papers(self):
        net = (1, ((1, 0),))
        for hearing in slow.all_hearings(net):
            for faults in slow.all_faults(net):
                if can_have(net, hearing, faults):
                    for station in (0, 1):
                        for trees in ((), ((1 - station, ()),), ((1 - station, ()),) * 2):
                            args = (net, hearing, faults, ("tree", (station, trees)))
                            self.refused(check_have, args, BadPaper, word="tree")


class TestWants(Refusals, unittest.TestCase):
    def test_refusals(self):
        self.all_refusals(need_wants, params("net", "wants"))
        self.all_refusals(busiest, params("net", "wants"))
        self.all_refusals(fewest_rounds, params("net", "wants", "faults"))
        self.all_refusals(serving_rounds, params("net", "wants", "faults"))
        self.all_refusals(do_serve, params("net", "wants", "faults") + [("value", (), [])])

    def test_wants_are_told_themselves(self):
        self.assertIs(need_wants(NET, WANTS), WANTS)
        self.assertEqual(need_wants(NET, ()), ())
        self.assertEqual(need_wants(NET, ALL_WANTS[6:]), ALL_WANTS[6:])
        self.assertEqual(len(ALL_WANTS[6:]), 10)

    def test_busiest(self):
        self.assertEqual(busiest(NET, ()), 0)
        self.assertEqual(busiest(NET, ((1, 1),)), 1)
        self.assertEqual(busiest(NET, WANTS), 2)
        self.assertEqual(busiest(NET, ((0, 3), (1, 3), (2, 0), (3, 3))), 3)
        self.assertEqual(busiest(NET, ALL_WANTS[:10]), 4)
        self.assertEqual(busiest((3, ()), ((0, 1), (1, 0), (2, 2))), 1)

    def test_fewest_rounds_by_hand(self):
        self.assertEqual(fewest_rounds(NET, (), ()), 0)
        self.assertEqual(serving_rounds(NET, (), ()), ())
        self.assertEqual(fewest_rounds((1, ()), ((0, 0), (1, 1)), ()), 1)
        self.assertEqual(fewest_rounds((1, ()), ((0, 0), (1, 0)), ()), 2)
        self.assertEqual(fewest_rounds((1, ()), ((0, 0), (0, 1), (1, 0), (1, 1)), ()), 2)
        self.assertIsNone(fewest_rounds((2, ()), ((0, 2),), ()))
        self.assertIsNone(serving_rounds((2, ()), ((0, 1), (0, 2)), ()))
        self.assertIsNone(fewest_rounds((1, ()), ((0, 0), (1, 0)), (("stuck", 0, 0, 1),)))
        # Both messages need the wire 0 of the line 1.
        self.assertEqual(fewest_rounds(NET, ((0, 0), (1, 1)), ()), 2)

    def test_as_many_wants_as_can_be_in_the_first_round_may_be_too_many(self):
        for wants, fewest in ((((0, 0), (0, 2), (1, 3), (2, 3)), 2), (((0, 0), (1, 0), (1, 3), (3, 3)), 2),
                              (((0, 1), (0, 2), (1, 1), (1, 3), (2, 2), (2, 3)), 2),
                              (((0, 0), (0, 3), (1, 0), (1, 3), (3, 0), (3, 3)), 3)):
            self.check_wants(NET, wants, (), fewest)
            self.assertEqual(slow.fewest_rounds(NET, wants, ()), fewest)

    def test_fewest_rounds_without_faults(self):
        random = Random(19)
        for net in NETS[4:10]:
            for _ in range(40):
                wants = some_wants(random, net, 8)
                self.check_wants(net, wants, (), slow.fewest_rounds(net, wants, ()))

    def test_fewest_rounds_by_trying_all(self):
        random = Random(17)
        for net in SMALL_NETS + NETS[10:12]:
            for faults in [()] + random.sample(slow.all_faults(net), 3):
                for _ in range(4):
                    wants = some_wants(random, net, 10 if net[0] == 2 else 6)
                    self.check_wants(net, wants, faults, slow.fewest_rounds(net, wants, faults))

    def check_wants(self, net, wants, faults, fewest):
        rounds = serving_rounds(net, wants, faults)
        self.assertEqual(fewest_rounds(net, wants, faults), fewest)
        if fewest is None:
            self.assertIsNone(rounds)
            return
        self.assertEqual(len(rounds), fewest)
        self.assertGreaterEqual(fewest, busiest(net, wants))
        for one_round in rounds:
            need_round(net, one_round)
        self.assertTrue(is_served(net, wants, faults, rounds))
        self.assertIs(do_serve(net, wants, faults, rounds), True)

    def test_ten_wants_in_great_nets(self):
        random = Random(18)
        for net in (GREAT, OMEGA, (3, ((0, 1, 2, 3, 4, 5, 6, 7),) * 3)):
            for faults in ((), random.choice(slow.all_faults(net))):
                pairs = [(one, other) for one in range(8) for other in range(8) if first_pair(net, one, other)]
                wants = tuple(sorted(random.sample(pairs, 10)))
                fewest = fewest_rounds(net, wants, faults)
                rounds = serving_rounds(net, wants, faults)
                if fewest is None:
                    self.assertIsNone(rounds)
                else:
                    self.check_wants(net, wants, faults, fewest)

    def test_do_serve_what_serves(self):
        straight = (((0, 0), (0, 0)), (0, 1, 2, 3))
        other = (((1, 0), (0, 0)), (0, 1, 2, 3))
        wants = ((0, 0), (0, 2), (1, 0))
        self.assertIs(do_serve(NET, wants, (), (straight, other)), True)
        self.assertIs(do_serve(NET, wants, (), (other, straight, other)), True)
        self.assertIs(do_serve(NET, wants, (), (straight,)), False)
        self.assertIs(do_serve(NET, wants, (), ()), False)
        self.assertIs(do_serve(NET, (), (), ()), True)
        self.assertIs(do_serve(NET, (), (), (straight,)), True)
        self.assertIs(do_serve(NET, wants, (("broken", 2, 2),), (straight, other)), False)
        self.assertIs(do_serve(NET, wants, (("broken", 2, 3),), (straight, other)), True)
        self.assertIs(do_serve(NET, wants, (), ((straight[0], (0,)), (other[0], (0, 1)))), True)
        self.assertIs(do_serve(NET, wants, (), ((straight[0], (1,)), (other[0], (0, 1)))), False)

    def test_do_serve_any_value(self):
        straight = (((0, 0), (0, 0)), (0, 1, 2, 3))
        for value in NO_TUPLES:
            self.assertIs(do_serve(NET, (), (), value), False)
            self.assertIs(do_serve(NET, ((0, 0),), (), (straight, value)), False)
        for value in ([straight], straight, ((),), (straight, ()), (straight, (straight[0], (1, 0)))):
            self.assertIs(do_serve(NET, ((0, 0),), (), value), False)
        for value in otherwise((straight,)):
            right = isinstance(value, tuple) and all(slow_round(NET, item) for item in value)
            expected = right and any(slow.hears(NET, item, ())[0] == 0 for item in value)
            self.assertIs(do_serve(NET, ((0, 0),), (), value), expected)

    def test_hears_of_told_rounds(self):
        # What the package tells of its own rounds is what the document tells of them.
        for one_round in serving_rounds(NET, ALL_WANTS[:10], ()):
            self.assertEqual(hears(NET, one_round, ()), slow.hears(NET, one_round, ()))


def first_pair(net, one, other):
    return first_settings(net, tuple(one if station == other else None for station in range(8)), ()) is not None


def slow_round(net, value):
    try:
        need_round(net, value)
    except ValueError:
        return False
    return True


if __name__ == "__main__":
    unittest.main()
