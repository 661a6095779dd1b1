"""Points 19 to 24: rows of changes at random, made on stripes as a program over disks would."""

import unittest

from rotward.errors import Refused
from rotward.states import Plan, State
from rotward.trees import Tree
from tests.tree_rules import Chance, RulePlan, RuleTree


def leaf_data(leaf):
    """What a state has for a file."""
    return (len(leaf.data), leaf.stripes)


def bytes_of(things, media, block):
    """The things with the bytes that their stripes have."""
    told = {}
    for path, thing in things.items():
        if thing is not None:
            data = [byte for stripe in thing[1] for byte in media[stripe]]
            assert len(thing[1]) == -(-thing[0] // block)
            thing = tuple(data[:thing[0]])
        told[path] = thing
    return told


class TestRows(unittest.TestCase):
    def refused(self, state, changes, problem):
        with self.assertRaises(Refused) as caught:
            Plan(state, changes)
        self.assertEqual((caught.exception.index, caught.exception.problem), problem)

    def compare(self, plan, rule, media):
        """A plan with the rule; the blocks that are written are laid on the media."""
        self.assertEqual(plan.records, rule.records)
        self.assertEqual(plan.reads, rule.reads)
        self.assertEqual(plan.after.things, rule.tree.things(leaf_data))
        self.assertEqual(plan.after.snapshots, rule.tree.snapshots(leaf_data))
        self.assertEqual(plan.after.used(), rule.tree.used())
        told = plan.writes([list(media[stripe]) for _, stripe in plan.reads])
        self.assertEqual(told, rule.writes())
        return told

    def run_rows(self, seed, stripes, block, many):
        chance = Chance(seed)
        media = {stripe: [255] * block for stripe in range(stripes)}
        state, tree, rule_tree = State(stripes, block), Tree(), RuleTree()
        told = []
        for _ in range(many):
            changes = chance.row(rule_tree, chance.random.randrange(1, 9))
            rule = RulePlan(rule_tree, stripes, block, changes)
            if rule.refused is not None:
                self.refused(state, changes, rule.refused)
                told.append(rule.refused[1][0])
                continue
            plan = Plan(state, changes)
            for stripe, content in self.compare(plan, rule, media):
                self.assertNotIn(stripe, state.used())
                media[stripe] = content
            state, tree, rule_tree = plan.after, tree.made_all(changes), rule.tree
            self.assertEqual(bytes_of(state.things, media, block), tree.things)
            for name, things in tree.snapshots.items():
                self.assertEqual(bytes_of(state.snapshots[name], media, block), things)
            told.append(len(plan.reads))
        return told

    def test_many_stripes(self):
        told = []
        for seed in range(60):
            told += self.run_rows(seed, 60, 4, 12)
        self.assertGreater(len([row for row in told if isinstance(row, int) and row > 1]), 60)

    def test_few_stripes(self):
        told = []
        for seed in range(60):
            told += self.run_rows(100 + seed, 9, 3, 12)
        self.assertGreater(told.count("no room"), 40)
        self.assertGreater(len([row for row in told if isinstance(row, int)]), 100)

    def test_blocks_of_one_sector(self):
        for seed in range(10):
            self.run_rows(200 + seed, 30, 32, 10)
