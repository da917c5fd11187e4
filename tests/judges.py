"""A second way to judge answers about standings and wishes, from the words of the document [7], [8], [9]."""

from paidinparts.factors import least_factor
from paidinparts.plans import Plan
from paidinparts.standings import can_rise, open_states, open_steps, run_to
from paidinparts.wishes import broken, is_kept, judge_broken, judge_multipliers, multipliers

from tests.tools import parts_after


def negative(total):
    """A sum with all factors negated."""
    return {column: -factor for column, factor in total.items()}


def combined(first, one, second, other):
    """The first number times one sum, and the second number times another one."""
    return {column: first * one.get(column, 0) + second * other.get(column, 0) for column in [*one, *other]}


def worth(counts, total):
    """The value of a sum at a state with these counts."""
    return sum(factor * counts.get(column, 0) for column, factor in total.items())


def all_states(kinds):
    """All states of a plan, in order."""
    return [(kind, state) for kind, states, _ in kinds for state in range(len(states))]


def all_steps(kinds):
    """All steps of a plan as (kind, name, from, to), in order."""
    return [(kind, *step) for kind, _, steps in kinds for step in steps]


def lowered_checks(kinds, checks, step):
    """The checks that a step (kind, name, from, to) lowers."""
    kind, _, source, target = step
    states = {name: rows for name, rows, _ in kinds}[kind]
    return [check for check in checks if worth(states[target], check) < worth(states[source], check)]


def are_multipliers(kinds, checks, states, wish, told):
    """True if a tuple (factor, numbers) is multipliers of a wish, where these are the open states [8]."""
    factor, numbers = told
    if factor < 1 or len(numbers) != len(checks) or min([0, *numbers]) < 0:
        return False
    rows = {kind: counts for kind, counts, _ in kinds}
    return all(
        factor * worth(rows[kind][state], wish)
        >= sum(number * worth(rows[kind][state], check) for number, check in zip(numbers, checks))
        for kind, state in states
    )


def course(kinds, deeds, total):
    """The values of a sum after each step of some deeds, and at their end; the deeds are only moves of parts."""
    rows = {kind: counts for kind, counts, _ in kinds}
    ends = {(kind, name, source): target for kind, name, source, target in all_steps(kinds)}
    parts, value, along = [], 0, []
    for word, subject, detail in deeds:
        if word == "new":
            parts.append([subject, detail, 0])
            continue
        kind, amount, source = parts[subject]
        parts[subject][2] = ends[(kind, detail, source)]
        value += amount * (worth(rows[kind][parts[subject][2]], total) - worth(rows[kind][source], total))
        along.append(value)
    return along, value


def is_break(kinds, checks, wish, told):
    """True if a tuple (opening, round, times) is a break of a wish [8]; the copies in between change evenly."""
    opening, again, times = told
    if times < 0 or parts_after(kinds, opening) is None:
        return False
    if times > 0 and parts_after(kinds, again) is None:
        return False
    for check in checks:
        along, value = course(kinds, opening, check)
        if times > 0:
            more, change = course(kinds, again, check)
            for turn in {0, 1 % times, times // 3, times // 2, times - 1}:
                along = along + [value + turn * change + each for each in more]
        if min([0, *along]) < 0:
            return False
    fall = course(kinds, again, wish)[1] if times > 0 else 0
    return course(kinds, opening, wish)[1] + times * fall < 0


def are_deeds(deeds):
    """True if each of some deeds has one of the two forms of [6]."""
    forms = {"new": [str, str, int], "step": [str, int, str]}
    return all([type(each) for each in deed] == forms[deed[0]] for deed in deeds)


def copied(told):
    """The run of a break, written out from the words of the document."""
    opening, again, times = told
    deeds, made = list(opening), [deed[0] for deed in opening].count("new")
    for _ in range(times):
        first = made
        for deed in again:
            if deed[0] == "new":
                made += 1
                deeds.append(deed)
            else:
                deeds.append((deed[0], first + deed[1], deed[2]))
    return deeds


class Judged:
    """What is asked of a plan, for test cases: each answer is judged, not compared with a form."""

    def judge_wish(self, parts, wish):
        """Ask for one wish; return True if it is kept."""
        _, kinds, checks = parts
        plan = Plan(*parts)
        kept, numbers, told = is_kept(plan, wish), multipliers(plan, wish), broken(plan, wish)
        self.assertIs(kept, numbers is not None)
        self.assertIs(kept, told is None)
        self.assertIs(kept, not can_rise(plan, negative(wish)))
        if kept:
            self.assertTrue(are_multipliers(kinds, checks, open_states(plan), wish, numbers))
            self.assertIs(judge_multipliers(plan, wish, numbers), True)
        else:
            self.assertTrue(is_break(kinds, checks, wish, told))
            self.assertIs(judge_broken(plan, wish, told), True)
            self.assertLessEqual(len(told[0]) + len(told[1]), 1000)
            self.assertTrue(are_deeds(told[0] + told[1]))
        return kept

    def judge_standing(self, parts):
        """Show by [9] that exactly the states and steps that are told are open; return the states."""
        _, kinds, checks = parts
        plan = Plan(*parts)
        states, steps = open_states(plan), open_steps(plan)
        self.assertEqual(states, [place for place in all_states(kinds) if place in states])
        for kind, state in all_states(kinds):
            run = run_to(plan, kind, state)
            self.assertIs(run is None, (kind, state) not in states)
            if run is not None:
                self.judge_run_to(kinds, checks, run, kind, state)
        rising = [self.judge_wish(parts, negative(check)) is False for check in checks]
        for kind, _, _ in kinds:
            self.assertIn((kind, 0), states)
        told = []
        for step in all_steps(kinds):
            lowered = lowered_checks(kinds, checks, step)
            may = all(rising[checks.index(check)] for check in lowered)
            if (step[0], step[2]) in states and may:
                told.append(step[:3])
                self.assertIn((step[0], step[3]), states)
        self.assertEqual(steps, told)
        return states

    def judge_run_to(self, kinds, checks, run, kind, state):
        self.assertTrue(are_deeds(run))
        ended = parts_after(kinds, run)
        self.assertIsNotNone(ended)
        self.assertIn((kind, state), [(part[0], part[2]) for part in ended])
        for check in checks:
            self.assertGreaterEqual(min([0, *course(kinds, run, check)[0]]), 0)

    def judge_factor(self, parts, one, other):
        """Show that a fraction is enough and that one a little below it is not; return it."""
        plan = Plan(*parts)
        found = least_factor(plan, one, other)
        if found is None:
            for top in [0, 1, 10**9, 10**40]:
                self.assertFalse(self.judge_wish(parts, combined(top, other, -1, one)))
            return None
        top, bottom = found
        self.assertGreaterEqual(bottom, 1)
        self.assertGreaterEqual(top, 0)
        self.assertTrue(self.judge_wish(parts, combined(top, other, -bottom, one)))
        if top > 0:
            fine = 10**40
            self.assertFalse(self.judge_wish(parts, combined(top * fine - 1, other, -bottom * fine, one)))
        return found
