"""Points 1102, 1104 and 1105."""

import unittest
from random import Random

from codes import drawn_delays
from making import const, given, is_tuples, node
from schedules import drawn_schedule, plain_schedule
from tensorcompiler.errors import (
    ChangeError, FeedError, FormError, JournalError, KeptError, KindError, MachineError, NoRoom, PlaceError, RangeError, RuleError,
    TooWide)
from tensorcompiler.gradients import gradient_graph
from tensorcompiler.journal import journal_line
from tensorcompiler.meaning import evaluate
from tensorcompiler.scheduling import tuned_schedule
from tensorcompiler.trainer import Trainer, resume
from tensorcompiler.updating import step_graph
from training import BATCHES, FIRST, LIMITS, LINE, MACHINE, NETWORK, limit, line_step, line_trainer

STEP = step_graph(LINE, (1, 3), 3, -40, 45)
PLAIN = plain_schedule(STEP)


def state(trainer):
    return trainer.weights, trainer.steps, trainer.journal


def trained(many, **named):
    trainer = line_trainer(**named)
    for batch in BATCHES[:many]:
        trainer.step(batch, (0,), ())
    return trainer


def with_check(text):
    return f"{text} check {sum((place + 1) * ord(sign) for place, sign in enumerate(text)) % 65521}\n"


class Steps(unittest.TestCase):
    def test_before_the_first_step(self):
        trainer = line_trainer()
        self.assertEqual(state(trainer), (FIRST, 0, journal_line(0, FIRST)))
        self.assertTrue(is_tuples(trainer.weights))

    def test_several_steps(self):
        trainer = line_trainer()
        weights, journal = FIRST, journal_line(0, FIRST)
        for turn, batch in enumerate(BATCHES * 2):
            weights, loss = line_step(weights, batch, 3, -40, 45)
            found = trainer.step(batch, (turn, -7), (turn, 0))
            self.assertIs(type(found), int)
            self.assertEqual(found, loss)
            journal += journal_line(turn + 1, weights)
            self.assertEqual(state(trainer), (weights, turn + 1, journal))
            self.assertTrue(is_tuples(trainer.weights))
        self.assertEqual(len(journal.split("\n")), 12)

    def test_limits_are_reached(self):
        ends = set()
        for rate in (1, 5, 30):
            trainer = line_trainer(rate=rate, low=-20, high=15)
            weights = FIRST
            for batch in BATCHES * 2:
                weights, loss = line_step(weights, batch, rate, -20, 15)
                self.assertEqual(trainer.step(batch, (0,), ()), loss)
                self.assertEqual(trainer.weights, weights)
                ends.update(n for row in weights for n in row)
        self.assertTrue(ends >= {-20, 15})

    def test_it_goes_downhill(self):
        trainer = line_trainer(weights=((40, -40), (45,)), rate=7)
        losses = [trainer.step(BATCHES[4], (0,), ()) for _ in range(60)]
        self.assertGreater(losses[0], 20 * losses[-1])

    def test_a_network(self):
        """Parameters that are not ahead of the batch inputs; a gradient straight from point 303."""
        parameters, rate, low, high = (0, 2), 6, -50, 50
        step = step_graph(NETWORK, parameters, rate, low, high)
        gradient = gradient_graph(NETWORK, 1, 1)
        for seed in range(6):
            random = Random(seed)
            schedule = plain_schedule(step) if seed < 2 else drawn_schedule(seed, step, steps=1, changes=3)
            weights = tuple(tuple(random.randint(-5, 5) for _ in range(size)) for size in (6, 3))
            trainer = Trainer(NETWORK, parameters, rate=rate, low=low, high=high, schedule=schedule, machine=(64, 900, 300, 2, 2), weights=weights)
            for turn in range(5):
                batch = (tuple(random.randint(-3, 3) for _ in range(2)), (random.randint(-20, 20),))
                feeds = (weights[0], batch[0], weights[1], batch[1])
                slopes = evaluate(gradient, feeds + ((1,),))
                loss = evaluate(NETWORK, feeds)[0][0]
                self.assertEqual(trainer.step(batch, (random.randint(-99, 99),), drawn_delays(random.random())), loss)
                weights = tuple(tuple(limit(p - (g + 2 ** 5) // 2 ** 6, low, high) for p, g in zip(feeds[k], slopes[k])) for k in parameters)
                self.assertEqual(trainer.weights, weights)
                self.assertEqual(trainer.steps, turn + 1)

    def test_no_batch_inputs(self):
        graph = ((given("k2", -50, 50), node("mul", (0, 0)), node("sum", (1,), "k")), (2,))
        schedule = tuned_schedule(step_graph(graph, (0,), 2, -50, 50), MACHINE)
        trainer = Trainer(graph, (0,), rate=2, low=-50, high=50, schedule=schedule, machine=MACHINE, weights=((20, -33),))
        # Half of each number is taken away, the half being rounded up.
        self.assertEqual(trainer.step((), (0,), ()), 400 + 1089)
        self.assertEqual(trainer.weights, ((10, -17),))
        self.assertEqual(trainer.step((), (0,), ()), 100 + 289)
        self.assertEqual(trainer.weights, ((5, -9),))
        with self.assertRaises(FeedError):
            trainer.step(((),), (0,), ())

    def test_fillers_and_delays_do_not_matter(self):
        expected = state(trained(4))
        for seed in range(8):
            random = Random(seed)
            trainer = line_trainer()
            for batch in BATCHES[:4]:
                trainer.step(batch, tuple(random.randint(-99, 99) for _ in range(random.randint(1, 4))), drawn_delays(random.random()))
            self.assertEqual(state(trainer), expected)


class WrongSteps(unittest.TestCase):
    def test_the_trainer_stays_as_it_was(self):
        trainer = trained(2)
        before = state(trainer)
        x, y = BATCHES[2]
        for batch, filler, delays, error in (
                ((), (0,), (), FeedError), ((x,), (0,), (), FeedError), ((x, y, y), (0,), (), FeedError), ((x[1:], y), (0,), (), FeedError),
                ((x, y + (1,)), (0,), (), FeedError), (((5,) + x[1:], y), (0,), (), RangeError), ((x, (0, 0, -10)), (0,), (), RangeError),
                ((x, y), (), (), FeedError), ((x, y), (2 ** 63,), (), FeedError), ((x, y), (0,), (-1,), FeedError), ((x, y), (0,), (3, -1), FeedError),
                # The number of tuples comes first, then the feeds, the filler and the delays.
                (((5,) + x[1:],), (), (-1,), FeedError), (((5,) + x[1:], y), (), (-1,), RangeError), ((y, x), (), (-1,), FeedError)):
            with self.assertRaises(error) as caught:
                trainer.step(batch, filler, delays)
            self.assertIs(type(caught.exception), error)
            self.assertEqual(state(trainer), before)
        # And goes on as if nothing had been.
        for batch in BATCHES[2:]:
            trainer.step(batch, (0,), ())
        self.assertEqual(state(trainer), state(trained(5)))


class Making(unittest.TestCase):
    def refuse(self, error, graph=LINE, parameters=(1, 3), schedule=PLAIN, machine=MACHINE, weights=FIRST, **changed):
        with self.assertRaises(error) as caught:
            Trainer(graph, parameters, schedule=schedule, machine=machine, weights=weights, **{**LIMITS, **changed})
        self.assertIs(type(caught.exception), error)

    BAD = {"schedule": ((("odd", 0),), (), (), ()), "machine": (31, 1, 1, 1, 1), "weights": ()}

    def test_errors_of_the_step_graph(self):
        self.refuse(KindError, graph=((("odd", (), ()),), (0,)), parameters=(), rate=0, **self.BAD)
        self.refuse(FormError, graph=(LINE[0], (7,)), parameters=(), rate=0, **self.BAD)
        self.refuse(RangeError, parameters=(), **self.BAD)
        self.refuse(RangeError, rate=0, **self.BAD)
        self.refuse(RangeError, low=-51, **self.BAD)
        wide = ((given("", -2 ** 200, 5), node("clamp", (0,), 0, 1)), (1,))
        self.refuse(TooWide, graph=wide, parameters=(0,), rate=1, low=0, high=5, **self.BAD)

    def test_errors_of_build(self):
        self.refuse(MachineError, **self.BAD)
        bad = {"weights": ()}
        steps, kept, changes, places = PLAIN
        self.refuse(RuleError, schedule=((("odd", 0),), kept, changes, places), **bad)
        self.refuse(KeptError, schedule=(steps, kept[:-1], changes, places), **bad)
        self.refuse(ChangeError, schedule=(steps, kept, (("odd", (0,)),), places), **bad)
        self.refuse(TooWide, graph=((given("", 0, 2 ** 63), const("", 1)), (1,)), parameters=(0,), low=0, high=5,
                    schedule=plain_schedule(step_graph(((given("", 0, 2 ** 63), const("", 1)), (1,)), (0,), 3, 0, 5)), **bad)
        self.refuse(PlaceError, schedule=(steps, kept, changes, places[:-1]), **bad)
        self.refuse(NoRoom, machine=(64, 20, 64, 2, 4), **bad)
        self.refuse(NoRoom, machine=(64, 300, 19, 2, 4), **bad)

    def test_errors_of_the_weights(self):
        for weights, error in (
                ((), FeedError), (FIRST[:1], FeedError), (FIRST + ((1,),), FeedError), (((1,), (10,)), FeedError), (((1, 2, 3), (10,)), FeedError),
                ((FIRST[0], ()), FeedError), ((FIRST[0], (1, 2)), FeedError), (((-41, 2), (10,)), RangeError), (((1, 46), (10,)), RangeError),
                ((FIRST[0], (46,)), RangeError), (((1, 46), (10, 1)), RangeError), (((1, 2, 3), (46,)), FeedError), (((99, 99), ()), RangeError),
                (((99, 99),), FeedError), (((99, 99, 99), (1,)), FeedError)):
            self.refuse(error, weights=weights)
        for weights in (((-40, 45), (45,)), ((45, -40), (-40,))):
            self.assertEqual(line_trainer(weights=weights).weights, weights)

    def test_arguments_by_name_alone(self):
        with self.assertRaises(TypeError):
            Trainer(LINE, (1, 3), 3, -40, 45, PLAIN, MACHINE, FIRST)

    def test_properties_are_only_read(self):
        trainer = line_trainer()
        for name in ("weights", "steps", "journal"):
            self.assertIsInstance(getattr(Trainer, name), property)
            with self.assertRaises(AttributeError):
                setattr(trainer, name, None)


class Resuming(unittest.TestCase):
    def go_on(self, trainer, begin, seed):
        """Take the steps from begin on, with other fillers and delays."""
        random = Random(seed)
        for batch in BATCHES[begin:]:
            trainer.step(batch, (random.randint(-99, 99), 5), drawn_delays(random.random()))

    def refuse(self, text, trainer=None):
        trainer = trainer or trained(1)
        before = state(trainer)
        with self.assertRaises(JournalError):
            resume(trainer, text)
        self.assertEqual(state(trainer), before)

    def test_a_whole_journal(self):
        whole = trained(3)
        trainer = line_trainer()
        self.assertEqual(resume(trainer, whole.journal), 3)
        self.assertEqual(state(trainer), state(whole))
        # A trainer that has taken other steps is set all the same, also back to fewer.
        trainer = line_trainer()
        trainer.step(BATCHES[4], (0,), ())
        self.assertEqual(resume(trainer, journal_line(0, FIRST)), 0)
        self.assertEqual(state(trainer), state(line_trainer()))
        trainer = trained(5)
        self.assertEqual(resume(trainer, whole.journal), 3)
        self.assertEqual(state(trainer), state(whole))

    def test_cut_off_at_each_character(self):
        whole = trained(5)
        states = [state(trained(many)) for many in range(6)]
        for cut in range(len(whole.journal) + 1):
            text = whole.journal[:cut]
            lines = text.count("\n")
            if lines == 0:
                self.refuse(text)
                continue
            trainer = trained(cut % 3)
            self.assertEqual(resume(trainer, text), lines - 1)
            self.assertEqual(state(trainer), states[lines - 1])
            if cut % 11 == 0:
                self.go_on(trainer, lines - 1, cut)
                self.assertEqual(state(trainer), state(whole))

    def test_again_and_again(self):
        whole = trained(5)
        journal = line_trainer().journal
        for turn, batch in enumerate(BATCHES):
            trainer = line_trainer()
            self.assertEqual(resume(trainer, journal + "step 9 ; rubbish"), turn)
            trainer.step(batch, (turn,), ())
            journal = trainer.journal
        self.assertEqual(state(trainer), state(whole))

    def test_what_stands_behind_the_last_line_feed(self):
        whole = trained(2)
        for rest in ("x", " ", "step 3", "step 3 ; 1 2 ; 3 check 5", "\r", ";" * 1000, "\u2028", "\x0b\x0c"):
            trainer = line_trainer()
            self.assertEqual(resume(trainer, whole.journal + rest), 2)
            self.assertEqual(state(trainer), state(whole))

    def test_no_whole_line(self):
        for text in ("", "step", journal_line(0, FIRST)[:-1], journal_line(0, FIRST)[:-1] + "\r"):
            self.refuse(text)

    def test_lines_exchanged_doubled_and_left_out(self):
        lines = trained(4).journal.splitlines(keepends=True)
        for k in range(5):
            self.refuse("".join(lines[:k] + lines[k:k + 1] + lines[k:]))
            if k < 4:
                self.refuse("".join(lines[:k] + lines[k + 1:]))
            for other in range(k):
                changed = list(lines)
                changed[k], changed[other] = changed[other], changed[k]
                self.refuse("".join(changed))
            self.refuse("".join(lines[:k] + ["\n"] + lines[k:]))
        # Without its last line it is a journal.
        self.assertEqual(resume(line_trainer(), "".join(lines[:-1])), 3)

    def test_each_character_replaced(self):
        trainer = trained(2)
        journal = trainer.journal
        before = state(trainer)
        fresh = line_trainer()
        empty = state(fresh)
        for place, sign in enumerate(journal):
            for code in range(128):
                other = chr(code)
                if "\n" in (sign, other) or sign == other:
                    continue
                with self.assertRaises(JournalError):
                    resume(fresh, journal[:place] + other + journal[place + 1:])
        self.assertEqual(state(fresh), empty)
        self.assertEqual(resume(fresh, journal), 2)
        self.assertEqual(state(fresh), before)

    def test_other_first_weights(self):
        for weights in (((3, -2), (11,)), ((-2, 3), (10,)), ((3, 2), (10,))):
            self.refuse(trained(2, weights=weights).journal)
            self.refuse(journal_line(0, weights))
        # The first weights are those of the making, not those of a later step.
        trainer = trained(2)
        self.refuse(journal_line(0, trainer.weights), trainer)
        self.assertEqual(resume(trainer, journal_line(0, FIRST)), 0)

    def test_other_limits(self):
        whole = line_trainer(rate=1)
        for batch in BATCHES:
            whole.step(batch, (0,), ())
        numbers = [n for line in whole.journal.splitlines() for n in map(int, line.replace(";", "").split()[2:-2])]
        self.assertEqual((min(numbers), max(numbers)), (-40, 45))
        self.assertEqual(resume(line_trainer(rate=7), whole.journal), 5)
        self.refuse(whole.journal, line_trainer(low=-39))
        self.refuse(whole.journal, line_trainer(high=44))

    def test_numbers_at_the_limits(self):
        first = journal_line(0, FIRST)
        for weights, good in ((((-40, 45), (45,)), True), (((-41, 0), (0,)), False), (((0, 0), (46,)), False), (((0, 46), (0,)), False)):
            if good:
                trainer = line_trainer()
                self.assertEqual(resume(trainer, first + journal_line(1, weights)), 1)
                self.assertEqual(trainer.weights, weights)
            else:
                self.refuse(first + journal_line(1, weights))
                # A wrong line is wrong, whatever follows.
                self.refuse(first + journal_line(1, weights) + journal_line(2, FIRST))

    def test_lines_of_another_form(self):
        first = journal_line(0, FIRST)
        for line in (journal_line(2, FIRST), journal_line(1, FIRST[:1]), journal_line(1, FIRST + ((1,),)), journal_line(1, FIRST[::-1]),
                     journal_line(1, ((3, -2, 10),)), journal_line(1, ((3,), (-2, 10))), journal_line(1, FIRST)[1:], "\n", "step 1\n",
                     with_check("step 1 ; 3 -2 ; 10 ;"), with_check("step 01 ; 3 -2 ; 10"), with_check("step 1 ; 3 -02 ; 10"),
                     with_check("step 1 ; 3 -2 ; " + "0" * 71), with_check("step +1 ; 3 -2 ; 10"), journal_line(1, FIRST).replace("\n", "\r\n"),
                     journal_line(1, FIRST).replace("check", "Check"), journal_line(1, FIRST)[:-2] + "\n", journal_line(1, FIRST)[:-1] + "0\n"):
            self.refuse(first + line)
            self.refuse(first + line + journal_line(2, FIRST))
        self.refuse(journal_line(1, FIRST))
        self.refuse("\n" + first)
        self.refuse(" " + first)

    def test_what_is_not_checked(self):
        # Weights that no descent leads to.
        weights = ((7, 7), (7,))
        trainer = line_trainer()
        text = journal_line(0, FIRST) + journal_line(1, weights)
        self.assertEqual(resume(trainer, text), 1)
        self.assertEqual(state(trainer), (weights, 1, text))
        trainer.step(BATCHES[0], (0,), ())
        self.assertEqual(trainer.weights, line_step(weights, BATCHES[0], 3, -40, 45)[0])
        self.assertEqual(trainer.journal, text + journal_line(2, trainer.weights))


if __name__ == "__main__":
    unittest.main()
