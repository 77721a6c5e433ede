import random
import unittest

from mergereach.drafts import Draft, number_with_sum, number_with_values
from mergereach.picks import double_pick
from mergereach.scripts import result_of, run_script
from tests.support import BLUE, ONLY_COUNTERS, RED, Case, example_schema, label_schema, produced, random_cases

KNOWN = [RED, BLUE]


class Drafts(Case):
    def test_results_and_their_numbers(self):
        draft = Draft(example_schema(), KNOWN)
        self.assertSame([draft.put(0, 1, 0), draft.put(2, 1, 0)], [2, 3])
        self.assertSame(draft.line, KNOWN + run_script(example_schema(), KNOWN, [(0, 1, 0), (2, 1, 0)]))

    def test_double_picks(self):
        draft = Draft(example_schema(), KNOWN)
        self.assertSame(draft.line[draft.put_double(0, 1, 0)], double_pick(example_schema(), RED, BLUE, RED))
        self.assertSame(draft.line[draft.put_double(1, 3, 0)], double_pick(example_schema(), BLUE, draft.line[3], RED))

    def test_scripts_inside_of_scripts(self):
        steps = [(0, 1, 0), (2, 1, 2), (3, 0, 2)]
        draft = Draft(example_schema(), KNOWN)
        draft.put(1, 0, 1)
        for number in (5, 8):
            self.assertSame(draft.put_script(steps), number)
            self.assertSame(draft.line[number - 2:number + 1], run_script(example_schema(), KNOWN, steps))

    def test_the_last_step_has_the_result(self):
        draft = Draft(example_schema(), KNOWN)
        self.assertSame(draft.script_for(1), [(1, 1, 1)])
        draft = Draft(example_schema(), KNOWN)
        first = draft.put(0, 1, 0)
        last = draft.put(0, 0, 0)
        self.assertSame(draft.script_for(last), [(0, 1, 0), (0, 0, 0)])
        steps = draft.script_for(first)
        self.assertSame(result_of(example_schema(), KNOWN, steps), ("red", "open", 6))
        steps.clear()
        self.assertEqual(len(draft.script_for(first)), 4)


class Parts(Case):
    def test_values_at_places_that_are_not_linked(self):
        for schema, known in random_cases(81, 80, 4):
            versions = produced(schema, known)
            counts = [len({row[place] for row in known}) for place in range(len(schema))]
            places = []
            for place in range(len(schema)):
                pairs = [{(row[place], row[other]) for row in versions} for other in places]
                if all(len(rows) == counts[place] * counts[other] for rows, other in zip(pairs, places)):
                    places.append(place)
            for version in versions:
                draft = Draft(schema, known)
                found = draft.line[number_with_values(draft, version, places)]
                self.assertEqual([found[place] for place in places], [version[place] for place in places])

    def test_no_places(self):
        self.assertSame(number_with_values(Draft(ONLY_COUNTERS, [(1, 2)]), (3, 4), []), 0)
        self.assertSame(number_with_values(Draft(label_schema("mine"), [("x",), ("y",)]), ("y",), [0]), 1)

    def test_sums(self):
        source = random.Random(82)
        known = [(1, 0), (0, 1), (5, -7), (100, 3)]
        for great in (1, 9, 10 ** 30):
            for _ in range(20):
                multiples = [source.randint(-great, great) for _ in range(3)]
                multiples = [1 - sum(multiples)] + multiples
                draft = Draft(ONLY_COUNTERS, known)
                wanted = tuple(sum(times * row[at] for times, row in zip(multiples, known)) for at in range(2))
                self.assertSame(draft.line[number_with_sum(draft, multiples)], wanted)
        self.assertSame(number_with_sum(Draft(ONLY_COUNTERS, [(4, 5)]), [1]), 0)


if __name__ == "__main__":
    unittest.main()
