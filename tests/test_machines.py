import random
import unittest

from oracles import all_lassos, letters_of, random_lasso, random_machine, slow_emitted, slow_normal, slow_said, slow_trace
from promiseplay.errors import InvalidLetter, InvalidMachine
from promiseplay.machines import Machine, respond, trace

LEADS = [-3, -2, -1, 0, 1, 2]
ECHO = [[(0, 0), (0, 1)]]


def with_lead(lead, rows, inputs=2, outputs=2):
    return Machine(inputs, outputs, lead, [k % outputs for k in range(max(0, -lead))], rows)


class Construction(unittest.TestCase):
    def test_attributes(self):
        opening, pairs = [1, 0], [[(1, 1), (0, 0), (1, 1)], [(0, 1), (1, 0), (1, 1)]]
        rows = [list(row) for row in pairs]
        machine = Machine(3, 2, -2, opening, rows)
        opening[0] = 0
        rows[0][0] = (0, 0)
        rows.append([(0, 0)] * 3)
        self.assertEqual((machine.inputs, machine.outputs, machine.lead, machine.opening), (3, 2, -2, (1, 0)))
        self.assertEqual(machine.rows, tuple(tuple(row) for row in pairs))
        self.assertIs(type(machine.opening), tuple)
        self.assertIs(type(machine.rows), tuple)
        self.assertEqual({type(row) for row in machine.rows}, {tuple})
        self.assertEqual({type(pair) for row in machine.rows for pair in row}, {tuple})

    def test_pairs_are_copied_too(self):
        pair = [0, 1]
        machine = Machine(1, 2, 0, (), [[pair]])
        pair[1] = 0
        self.assertEqual(machine.rows, (((0, 1),),))
        self.assertIs(type(machine.rows[0][0]), tuple)

    def test_faults(self):
        for arguments in [(0, 2, 0, [], ECHO), (2, 0, 0, [], ECHO), (0, 1, 0, [], [[]]), (-1, 2, 0, [], ECHO),
                          (2, 2, -4, [0] * 4, ECHO), (2, 2, 3, [], ECHO),
                          (2, 2, 0, [0], ECHO), (2, 2, 1, [0], ECHO), (2, 2, -1, [], ECHO), (2, 2, -1, [0, 0], ECHO),
                          (2, 2, -3, [0, 0], ECHO), (2, 2, 0, [], []), (2, 2, 0, [], [[(0, 0)]]),
                          (2, 2, 0, [], [[(0, 0)] * 3]), (2, 2, 0, [], [[(0, 0)] * 2, []]),
                          (2, 2, 0, [], [[(0, 0), (1, 0)]]), (2, 2, 0, [], [[(0, 0), (-1, 0)]]),
                          (2, 2, 0, [], [[(0, 0), (0, 2)]]), (2, 2, 0, [], [[(0, 0), (0, -1)]]),
                          (2, 2, -1, [2], ECHO), (2, 2, -1, [-1], ECHO), (2, 2, -2, [0, 2], ECHO)]:
            with self.assertRaises(InvalidMachine, msg=str(arguments)):
                Machine(*arguments)

    def test_bounds_that_are_kept(self):
        self.assertEqual(Machine(1, 1, 2, [], [[(0, 0)]]).lead, 2)
        self.assertEqual(Machine(1, 1, -3, [0, 0, 0], [[(0, 0)]]).opening, (0, 0, 0))


class Calling(unittest.TestCase):
    def test_examples(self):
        echo = Machine(2, 2, -1, [0], [[(0, 0), (0, 1)]])
        self.assertEqual(echo([1, 1, 0]), [0, 1, 1, 0])
        ahead = Machine(2, 2, 1, [], [[(0, 0), (0, 1)]])
        self.assertEqual((ahead([1, 1, 0]), respond(ahead, ((0,), (1, 1, 0)))), ([1, 0], ((), (1, 1, 0))))

    def test_the_table_of_leads(self):
        heard = [1, 0, 0, 1, 1]
        for lead, told in [(2, [0, 1, 1]), (1, [0, 0, 1, 1]), (0, [1, 0, 0, 1, 1]), (-1, [0, 1, 0, 0, 1, 1]),
                           (-2, [0, 1, 1, 0, 0, 1, 1]), (-3, [0, 1, 0, 1, 0, 0, 1, 1])]:
            machine = with_lead(lead, ECHO)
            self.assertEqual(machine(heard), told)
            self.assertEqual(machine([]), told[:max(0, -lead)])
            for count in range(len(heard) + 1):
                self.assertEqual(len(machine(heard[:count])), max(0, count - lead))

    def test_against_the_definition(self):
        chance = random.Random(1)
        for _ in range(200):
            lead = chance.choice(LEADS)
            machine = random_machine(chance, chance.randint(1, 3), chance.randint(1, 3), lead, 4)
            heard = [chance.randrange(machine.inputs) for _ in range(chance.randint(0, 12))]
            given = list(heard)
            said = machine(heard)
            self.assertEqual(said, slow_said(machine, heard))
            self.assertIs(type(said), list)
            self.assertIsNot(machine(heard), said)
            self.assertEqual(heard, given)
            for turn, letter in enumerate(said):
                hangs_on = slow_emitted(machine, heard)
                self.assertEqual(letter, hangs_on[turn + lead] if turn + lead >= 0 else machine.opening[turn])

    def test_wrong_letters(self):
        machine = with_lead(-1, ECHO)
        for heard in [[2], [-1], [0, 2], [0, 1, -1], [0, 5, 0]]:
            with self.assertRaises(InvalidLetter):
                machine(heard)


class Responding(unittest.TestCase):
    def test_against_calling(self):
        chance = random.Random(2)
        for k in range(300):
            machine = random_machine(chance, chance.randint(1, 3), chance.randint(1, 3), LEADS[k % 6], 5)
            lasso = random_lasso(chance, machine.inputs)
            for found, wanted in [(respond(machine, lasso), slow_said(machine, letters_of(lasso, 65))[:60]),
                                  (trace(machine, lasso), slow_trace(machine, lasso, 60))]:
                self.assertEqual(letters_of(found, 60), wanted)
                self.assertEqual(slow_normal(found), found)

    def test_forms_of_a_lasso(self):
        for lead in LEADS:
            machine = with_lead(lead, [[(1, 0), (0, 1)], [(0, 1), (1, 1)]])
            for head, loop in all_lassos(2, 2, 3):
                other = (head + loop + loop[:1], loop[1:] + loop[:1] + loop[1:] + loop[:1])
                self.assertEqual(respond(machine, (head, loop)), respond(machine, other))
                self.assertEqual(trace(machine, (head, loop)), trace(machine, other))

    def test_long_rounds(self):
        # A machine that counts to 5 comes round only after several loops.
        rows = [[((k + 1) % 5, 1 if k == 0 else 0)] * 2 for k in range(5)]
        self.assertEqual(respond(Machine(2, 2, 0, [], rows), ((), (0, 1))), ((), (1, 0, 0, 0, 0)))
        self.assertEqual(respond(Machine(2, 2, -2, [1, 1], rows), ((), (0, 1))), ((1, 1), (1, 0, 0, 0, 0)))
        self.assertEqual(respond(Machine(2, 2, 2, [], rows), ((), (0, 1))), ((), (0, 0, 0, 1, 0)))

    def test_the_letters_of_a_trace(self):
        machine = Machine(3, 2, 0, [], [[(0, 1), (0, 0), (0, 1)]])
        self.assertEqual(trace(machine, ((2,), (0, 1))), ((5,), (3, 1)))

    def test_wrong_letters(self):
        machine = with_lead(0, ECHO)
        for function in (respond, trace):
            for lasso in [((2,), (0,)), ((), (0, 2)), ((0,), (7,))]:
                with self.assertRaises(InvalidLetter):
                    function(machine, lasso)
