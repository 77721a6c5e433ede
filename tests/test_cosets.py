import itertools
import math
import random
import unittest

from mergereach.cosets import Coset, separates
from mergereach.errors import InvalidVector, InvalidVectors
from mergereach.picks import pick
from mergereach.schemas import vector_of
from mergereach.scripts import run_script
from tests.support import (NO_LISTS, NO_NUMBERS, NO_TUPLES, ONLY_COUNTERS, SIXTY, Case, EqualToAll, deep_list,
                           endless_list, example_schema)

EXAMPLE = [(10,), (14,), (30,)]
# Values that are no vectors of any width.
NO_VECTORS = NO_TUPLES + [[10], [], "10", (10, "a"), ("10",), ((10,),), ([10],), (None,), (True,), (False,), (1, True),
                          (False, 0, 0), (0, 0, 0, True), {10: 1}]
LONG = [(1, 2, 3, 4, 5), (0,) * 5, (0,) * 6, (1,) * 40]


def dot(one, other):
    return sum(a * b for a, b in zip(one, other))


def mix(multiples, vectors):
    return tuple(dot(multiples, column) for column in zip(*vectors))


def gap(one, other):
    return tuple(a - b for a, b in zip(one, other))


def determinant(rows):
    if not rows:
        return 1
    return sum((-1) ** at * entry * determinant([row[:at] + row[at + 1:] for row in rows[1:]])
               for at, entry in enumerate(rows[0]) if entry)


def measure(rows, width):
    """The rank of the rows and the greatest common divisor of their minors of that size."""
    for size in range(min(len(rows), width), 0, -1):
        common = 0
        for chosen in itertools.combinations(rows, size):
            for columns in itertools.combinations(range(width), size):
                common = math.gcd(common, determinant([tuple(row[at] for at in columns) for row in chosen]))
        if common:
            return size, common
    return 0, 1


def generates(rows, vector):
    """Whether integer combinations of the rows make the vector: then it changes neither rank nor divisor."""
    return measure(rows, len(vector)) == measure(rows + [vector], len(vector))


def is_defined_separation(vectors, vector, functional):
    """Whether the functional separates the vector from the coset, in the words of the document."""
    coefficients, modulus = functional

    def same(one, other):
        return one == other if modulus == 0 else (one - other) % modulus == 0

    sums = [dot(coefficients, known) for known in vectors]
    return all(same(found, sums[0]) for found in sums) and not same(dot(coefficients, vector), sums[0])


def random_vectors(source, width, count, great):
    vectors = [tuple(source.randint(-great, great) for _ in range(width)) for _ in range(count)]
    shape = source.randrange(5)
    if shape == 0:
        return [tuple(entry * (at + 1) * 2 for at, entry in enumerate(vector)) for vector in vectors]
    if shape == 1 and width > 1:
        return [vector[:-1] + (sum(vector[:-1]) * 3 - 1,) for vector in vectors]
    if shape == 2:
        return [tuple(entry if source.randrange(2) else 0 for entry in vector) for vector in vectors]
    if shape == 3 and width > 0:
        return [(7,) + vector[1:] for vector in vectors]
    return vectors


def random_multiples(source, count, great):
    multiples = [source.randint(-great, great) for _ in range(count)]
    multiples[0] += 1 - sum(multiples)
    return multiples


def many_cases(seed, count, most_vectors=5):
    source = random.Random(seed)
    for at in range(count):
        great = source.choice([1, 2, 4, 9, 30, 10 ** 20, SIXTY])
        vectors = random_vectors(source, at % 5, source.randint(1, most_vectors), great)
        inside = mix(random_multiples(source, len(vectors), 5), vectors)
        others = [tuple(source.randint(-great, great) for _ in vectors[0]) for _ in range(4)]
        near = [inside[:place] + (inside[place] + source.choice([1, -1, 2, 6]),) + inside[place + 1:]
                for place in range(len(inside))]
        yield vectors, inside, others + near


class Making(Case):
    def refused(self, vectors, index):
        self.assertRaisesWith(InvalidVectors, {"index": index}, Coset, vectors)

    def test_examples_of_the_document(self):
        coset = Coset([(10,), (14,), (30,)])
        self.assertSame([len(coset), coset == Coset([(6,), (10,)]), coset == Coset([(10,), (12,)])], [1, True, False])
        self.refused([(1, 2), (3,)], 1)

    def test_widths_of_none_to_four(self):
        for width in range(5):
            coset = Coset([(3,) * width, (5,) * width])
            self.assertSame(coset.width(), width)
            self.assertSame(coset.vectors(), [(3,) * width, (5,) * width])
            self.refused([(3,) * width, (5,) * (width + 1)], 1)
            if width > 0:
                self.refused([(3,) * width, (5,) * width, (5,) * (width - 1)], 2)

    def test_one_to_forty_vectors(self):
        for count in range(1, 41):
            self.assertSame(Coset([(at, 0) for at in range(count)]).vectors(), [(at, 0) for at in range(count)])
        for count in (0, 41, 42, 100):
            self.refused([(1,)] * count, -1)
            self.refused(((1,),) * count, -1)
        self.refused([None] * 41, -1)

    def test_a_tuple_of_vectors(self):
        self.assertSame(Coset(((10,), (14,))).vectors(), [(10,), (14,)])
        self.assertEqual(Coset(tuple(EXAMPLE)), Coset(EXAMPLE))

    def test_values_that_are_no_lists(self):
        for vectors in NO_LISTS + [{0: (1,)}, {(1,): 0}, {(1,)}, Coset(EXAMPLE)]:
            with self.subTest(vectors=vectors):
                self.refused(vectors, -1)

    def test_items_that_are_no_vectors(self):
        for vector in NO_VECTORS + LONG:
            with self.subTest(vector=vector):
                self.refused([vector], 0)
                self.refused([vector, None], 0)
                self.refused([(1,), (2,), vector, None], 2)
                self.refused([(1, 1, 1, 1), vector, (1,)], 1)
        self.refused([(1,), ()], 1)
        self.refused([(), (1,)], 1)

    def test_a_vector_alone_is_a_list_of_no_vectors(self):
        self.refused((1, 2), 0)

    def test_bools_at_each_place(self):
        for truth in (True, False):
            for place in range(4):
                vector = tuple(truth if at == place else 1 for at in range(4))
                self.refused([(1, 1, 1, 1), vector], 1)
                self.refused([vector], 0)

    def test_unusual_values(self):
        self.refused(endless_list(), 0)
        self.refused([(1,), deep_list()], 1)
        self.refused([(deep_list(),)], 0)
        self.refused([(EqualToAll(),)], 0)

    def test_by_name(self):
        self.assertSame(Coset(vectors=[(1,)]).vectors(), [(1,)])

    def test_class_values(self):
        self.assertSame([Coset.MOST_VECTORS, Coset.MOST_ENTRIES], [40, 4])


class Stepped(Case):
    def refused(self, index, *args):
        self.assertRaisesWith(InvalidVectors, {"index": index}, Coset.stepped, *args)

    def test_example_of_the_document(self):
        coset = Coset(EXAMPLE)
        self.assertSame([Coset.stepped((10,), (4,), (20,)).vectors(), Coset.stepped((10,), (4,), (20,)) == coset],
                        [[(10,), (14,), (30,)], True])

    def test_sums_in_sequence(self):
        found = Coset.stepped((1, -2), (0, 5), (0, 0), (-SIXTY, SIXTY))
        self.assertIs(type(found), Coset)
        self.assertSame(found.vectors(), [(1, -2), (1, 3), (1, -2), (1 - SIXTY, SIXTY - 2)])

    def test_no_steps(self):
        self.assertSame(Coset.stepped((7, 8)).vectors(), [(7, 8)])
        self.assertSame(Coset.stepped(start=(7, 8)).vectors(), [(7, 8)])
        self.assertSame(Coset.stepped(()).vectors(), [()])
        self.assertSame(Coset.stepped((), (), ()).vectors(), [(), (), ()])

    def test_thirty_nine_and_forty_steps(self):
        self.assertSame(Coset.stepped((1,), *[(at,) for at in range(39)]).vectors(),
                        [(1,)] + [(at + 1,) for at in range(39)])
        self.refused(-1, (1,), *[(at,) for at in range(40)])
        self.refused(-1, None, *[None] * 40)
        self.refused(0, None, *[None] * 39)

    def test_wrong_starts(self):
        for start in NO_VECTORS + LONG:
            with self.subTest(start=start):
                self.refused(0, start)
                self.refused(0, start, (1,))
                self.refused(0, start, None)

    def test_wrong_steps(self):
        for step in NO_VECTORS + LONG + [(), (1, 2), (1, 2, 3, 4)]:
            with self.subTest(step=step):
                self.refused(1, (1,), step)
                self.refused(3, (1,), (2,), (3,), step, None)
        self.refused(1, (1, 2), (1,))
        self.refused(1, (), (1,))

    def test_off_an_object(self):
        self.assertSame(Coset(EXAMPLE).stepped((1,), (2,)).vectors(), [(1,), (3,)])

    def test_a_basis_steps_from_any_vector(self):
        for vectors, inside, _ in many_cases(1, 100):
            coset = Coset(vectors)
            self.assertEqual(Coset.stepped(inside, *coset.basis()), coset)


class Equality(Case):
    def differ(self, one, other):
        self.assertIs(one == other, False)
        self.assertIs(one != other, True)

    def test_the_same_vectors(self):
        for one, other in [([(1,)], [(1,), (1,)]), ([(0,), (1,)], [(7,), (5,), (2,)]), ([()], [(), ()]),
                           ([(10,), (14,)], [(-6,), (-2,)]), ([(0, 0), (2, 4), (3, 3)], [(1, 5), (0, 0), (0, 6)])]:
            self.assertIs(Coset(one) == Coset(other), True)
            self.assertIs(Coset(one) != Coset(other), False)

    def test_other_vectors(self):
        cosets = [Coset(vectors) for vectors in ([(0,)], [(1,)], [(0,), (2,)], [(1,), (3,)], [(0,), (1,)],
                                                 [(0,), (4,)], [(2,), (6,)], [(0, 0)], [(0, 0), (0, 2)], [()],
                                                 [(0, 0), (2, 0)], [(1, 0), (3, 0)], [(0, 1), (2, 1)])]
        for one, other in itertools.permutations(cosets, 2):
            self.differ(one, other)

    def test_widths_count(self):
        for one, other in itertools.permutations(range(5), 2):
            self.differ(Coset([(0,) * one]), Coset([(0,) * other]))

    def test_other_things(self):
        coset = Coset(EXAMPLE)
        for thing in [None, True, 1, "", [], EXAMPLE, tuple(EXAMPLE), [(4,)], {}, Coset, example_schema(), (10,)]:
            self.differ(coset, thing)
        self.assertIs(coset.__eq__(EqualToAll()), False)

    def test_the_sequence_does_not_count(self):
        source = random.Random(2)
        for vectors, inside, others in many_cases(3, 100):
            coset = Coset(vectors)
            again = vectors + [inside] + vectors[:2]
            source.shuffle(again)
            self.assertIs(Coset(again) == coset, True)
            self.assertSame(Coset(again).basis(), coset.basis())
            for other in others:
                self.assertIs(Coset(vectors + [other]) == coset, coset.contains(other))


class Basis(Case):
    def check(self, vectors):
        """The basis has all properties that the document lists."""
        coset = Coset(vectors)
        basis = coset.basis()
        self.assertSame([len(coset), coset.rank], [len(basis)] * 2)
        width = len(vectors[0])
        columns = []
        for row in basis:
            self.assertIs(type(row), tuple)
            self.assertEqual([type(entry) for entry in row], [int] * width)
            columns.append(min(at for at, entry in enumerate(row) if entry != 0))
            self.assertGreater(row[columns[-1]], 0)
        self.assertEqual(columns, sorted(set(columns)))
        for index, column in enumerate(columns):
            for earlier in basis[:index]:
                self.assertTrue(0 <= earlier[column] < basis[index][column])
        differences = [gap(vector, vectors[0]) for vector in vectors[1:]]
        self.assertEqual(measure(differences, width), measure(basis, width))
        for difference in differences:
            self.assertTrue(generates(basis, difference))
        return basis

    def test_examples_of_the_document(self):
        coset = Coset(EXAMPLE)
        self.assertSame([coset.vectors(), coset.width(), coset.basis(), coset.rank],
                        [[(10,), (14,), (30,)], 1, [(4,)], 1])
        self.assertSame(Coset([(0, 0), (2, 4), (3, 3)]).basis(), [(1, 5), (0, 6)])

    def test_known_bases(self):
        for vectors, basis in [([(1,)], []), ([(5,), (2,)], [(3,)]), ([(6,), (10,), (15,)], [(1,)]),
                               ([(0, 0, 0), (0, 0, -7)], [(0, 0, 7)]), ([(1, 1), (1, 1)], []), ([(), ()], []),
                               ([(0, 0), (0, 4), (6, 0), (3, 2)], [(3, 2), (0, 4)]),
                               ([(0, 0), (2, 3), (4, 6), (6, 9)], [(2, 3)]), ([(0, 0), (-2, 3)], [(2, -3)]),
                               ([(0, 0, 0), (2, 1, 5), (0, 3, 1)], [(2, 1, 5), (0, 3, 1)]),
                               ([(0, 0, 0), (2, 4, 5), (0, 3, 1)], [(2, 1, 4), (0, 3, 1)]),
                               ([(0, 0, 0), (2, -1, 5), (0, -3, 1)], [(2, 2, 4), (0, 3, -1)])]:
            self.assertSame(Coset(vectors).basis(), basis)
            self.check(vectors)

    def test_equal_vectors(self):
        for width in range(5):
            for count in (1, 2, 40):
                self.assertSame(self.check([(-9,) * width] * count), [])

    def test_zeros_and_units(self):
        for width in range(1, 5):
            zero = (0,) * width
            units = [tuple(int(at == place) for at in range(width)) for place in range(width)]
            self.assertSame(self.check([zero] + units[::-1]), units)
            self.assertSame(self.check([zero, zero, units[-1], zero]), units[-1:])

    def test_all_small_vectors_of_width_two(self):
        vectors = list(itertools.product((-2, 0, 3), repeat=2))
        for three in itertools.product(vectors, repeat=2):
            self.check([(1, 1), *three])

    def test_many_vectors(self):
        for vectors, _, _ in many_cases(4, 400):
            self.check(vectors)

    def test_forty_vectors_with_great_entries(self):
        source = random.Random(5)
        for width in range(1, 5):
            vectors = [tuple(6 * source.randint(-SIXTY, SIXTY) + 1 for _ in range(width)) for _ in range(40)]
            units = [tuple(6 * int(at == place) for at in range(width)) for place in range(width)]
            self.assertSame(Coset(vectors).basis(), units)
            self.check(vectors[:width + 1])

    def test_the_given_vectors_do_not_change_the_basis_twice(self):
        for vectors, inside, _ in many_cases(6, 100):
            self.assertSame(Coset(vectors + [inside]).basis(), Coset(vectors).basis())


class Containing(Case):
    def test_example_of_the_document(self):
        coset = Coset(EXAMPLE)
        self.assertSame([coset.contains((2,)), coset.contains((3,))], [True, False])

    def test_a_line(self):
        for start, step in itertools.product((-3, 0, 7), (0, 1, 4, -6)):
            coset = Coset([(start,), (start + step,)])
            for entry in range(-30, 31):
                wanted = entry == start if step == 0 else (entry - start) % step == 0
                self.assertIs(coset.contains((entry,)), wanted)

    def test_width_zero(self):
        self.assertIs(Coset([()]).contains(()), True)
        self.assertIs(Coset([(), ()]).contains(()), True)

    def test_by_the_definition(self):
        for vectors, inside, others in many_cases(7, 300):
            coset = Coset(vectors)
            differences = [gap(vector, vectors[0]) for vector in vectors[1:]]
            self.assertIs(coset.contains(inside), True)
            for vector in others:
                self.assertIs(coset.contains(vector), generates(differences, gap(vector, vectors[0])))
            for vector in vectors:
                self.assertIs(coset.contains(vector), True)

    def test_the_first_vector_counts(self):
        self.assertIs(Coset([(1, 1), (3, 1)]).contains((0, 0)), False)
        self.assertIs(Coset([(1, 1), (3, 1)]).contains((-5, 1)), True)
        self.assertIs(Coset([(1, 1), (3, 1)]).contains((2, 1)), False)
        self.assertIs(Coset([(1, 1), (3, 1)]).contains((1, 2)), False)

    def test_results_may_be_passed_in_again(self):
        great = SIXTY ** 5
        coset = Coset([(great, 0), (0, great), (great, great)])
        self.assertIs(coset.contains((0, 0)), True)
        self.assertIs(coset.contains((great + 1, 0)), False)
        self.assertIs(coset.contains((great * great, 7 * great)), True)

    def test_is_within(self):
        coset = Coset(EXAMPLE)
        self.assertSame([Coset([(2,), (10,)]).is_within(coset), coset.is_within(Coset([(2,), (10,)]))],
                        [True, False])
        self.assertIs(coset.is_within(coset), True)
        self.assertIs(coset.is_within(other=Coset([(0,), (1,)])), True)
        self.assertIs(Coset([(3,), (11,)]).is_within(coset), False)
        self.assertIs(Coset([(2,)]).is_within(coset), True)
        self.assertIs(Coset([(2,), (4,)]).is_within(coset), False)

    def test_is_within_another_width(self):
        for one, other in itertools.permutations(range(5), 2):
            self.assertIs(Coset([(0,) * one]).is_within(Coset([(0,) * other])), False)
        self.assertIs(Coset([()]).is_within(Coset([()])), True)

    def test_is_within_by_the_definition(self):
        source = random.Random(8)
        for vectors, inside, others in many_cases(9, 200):
            coset = Coset(vectors)
            for part in ([inside], others[:2], vectors[:1] + others[:1], [inside] + vectors[-1:]):
                wanted = all(coset.contains(vector) for vector in part)
                self.assertIs(Coset(part).is_within(coset), wanted)
                if wanted:
                    multiples = random_multiples(source, len(part), 9)
                    self.assertIs(coset.contains(mix(multiples, part)), True)

    def test_equal_is_within_both_ways(self):
        for vectors, _, others in many_cases(10, 100):
            one, other = Coset(vectors), Coset(vectors[:1] + others[:1])
            self.assertIs(one == other, one.is_within(other) and other.is_within(one))


class Combinations(Case):
    def check(self, vectors, vector):
        found = Coset(vectors).combination(vector)
        self.assertIs(type(found), list)
        self.assertEqual([type(entry) for entry in found], [int] * len(vectors))
        self.assertEqual(sum(found), 1)
        self.assertSame(mix(found, vectors), vector)

    def test_example_of_the_document(self):
        self.assertSame([Coset([(10,), (14,)]).combination((2,)), Coset(EXAMPLE).combination((3,))], [[3, -2], None])

    def test_one_vector(self):
        self.assertSame(Coset([(4, 5)]).combination((4, 5)), [1])
        self.assertIs(Coset([(4, 5)]).combination((5, 4)), None)

    def test_width_zero(self):
        for count in (1, 2, 40):
            found = Coset([()] * count).combination(())
            self.assertEqual([len(found), sum(found)], [count, 1])

    def test_many_vectors(self):
        for vectors, inside, others in many_cases(11, 400, 8):
            coset = Coset(vectors)
            self.check(vectors, inside)
            for vector in vectors:
                self.check(vectors, vector)
            for vector in others:
                if coset.contains(vector):
                    self.check(vectors, vector)
                else:
                    self.assertIs(coset.combination(vector), None)

    def test_forty_vectors(self):
        source = random.Random(12)
        primes = [at for at in range(2, 170) if all(at % by for by in range(2, at))]
        product = math.prod(primes[:39])
        vectors = [(0,)] + [(product // prime,) for prime in primes[:39]]
        self.check(vectors, (1,))
        # The multiples can be chosen less than the primes, except those of the first two vectors.
        for times, prime in list(zip(Coset(vectors).combination((1,))[1:], primes))[1:]:
            self.assertTrue(0 <= times < prime)
        for width in range(1, 5):
            vectors = [tuple(source.randint(-SIXTY, SIXTY) for _ in range(width)) for _ in range(40)]
            self.check(vectors, mix(random_multiples(source, 40, SIXTY), vectors))
            self.check(vectors, (0,) * width)

    def test_multiples_do_not_grow_with_the_number_of_vectors(self):
        source = random.Random(15)
        vectors = [tuple(source.randint(-SIXTY, SIXTY) for _ in range(4)) for _ in range(40)]
        for count in (6, 20, 40):
            found = Coset(vectors[:count]).combination(vectors[0])
            self.assertLess(max(abs(entry) for entry in found), SIXTY ** 6)

    def test_equal_vectors(self):
        self.check([(3, 3)] * 40, (3, 3))
        self.check([(3,), (3,), (5,), (5,), (3,)], (-7,))


class Separating(Case):
    def check(self, vectors, vector):
        coset = Coset(vectors)
        found = coset.separating(vector)
        self.assertIs(type(found), tuple)
        coefficients, modulus = found
        self.assertIs(type(coefficients), tuple)
        self.assertEqual([type(entry) for entry in coefficients], [int] * len(vector))
        self.assertIs(type(modulus), int)
        self.assertGreaterEqual(modulus, 0)
        self.assertTrue(is_defined_separation(vectors, vector, found))
        self.assertIs(separates(coset, vector, found), True)
        return modulus

    def test_example_of_the_document(self):
        self.assertSame([Coset(EXAMPLE).separating((2,)), Coset([(1, 5)]).separating((1, 5))], [None, None])

    def test_width_zero(self):
        self.assertIs(Coset([(), ()]).separating(()), None)

    def test_moduli(self):
        self.assertEqual(self.check([(1, 5)], (1, 6)), 0)
        self.assertEqual(self.check([(1, 5), (3, 5)], (7, 6)), 0)
        self.assertNotEqual(self.check([(1, 5), (3, 5)], (4, 5)), 0)
        self.assertNotEqual(self.check(EXAMPLE, (11,)), 0)
        self.assertNotEqual(self.check([(0, 0), (2, 0), (0, 2), (1, 1)], (0, 1)), 0)
        self.assertEqual(self.check([(0, 0, 0), (1, 2, 3), (1, 1, 1)], (1, 1, 2)), 0)

    def test_many_vectors(self):
        for vectors, inside, others in many_cases(13, 500):
            coset = Coset(vectors)
            self.assertIs(coset.separating(inside), None)
            for vector in others:
                if coset.contains(vector):
                    self.assertIs(coset.separating(vector), None)
                else:
                    self.check(vectors, vector)

    def test_great_entries(self):
        vectors = [(SIXTY, 1, 0, 0), (0, SIXTY, 1, 0), (0, 0, SIXTY, 1), (1, 0, 0, SIXTY), (SIXTY, 0, 0, 0)]
        self.check(vectors, (1, 1, 1, 1))
        self.check(vectors[:3], (1, 1, 1, 1))
        self.check(vectors[:1], (SIXTY, 1, 0, 1))


class Separates(Case):
    def test_example_of_the_document(self):
        coset = Coset(EXAMPLE)
        self.assertSame([separates(coset, (11,), ((1,), 4)), separates(coset, (11,), ((1,), 8)),
                         separates(coset, (12,), ((3,), 4))], [True, False, True])

    def test_all_small_functionals(self):
        vectors = [(1, 2), (3, 6), (7, 2)]
        for vector in [(1, 2), (3, 2), (0, 0), (2, 4), (1, 3), (5, 6)]:
            for first, second, modulus in itertools.product(range(-3, 4), range(-3, 4), range(9)):
                functional = ((first, second), modulus)
                self.assertIs(separates(Coset(vectors), vector, functional),
                              is_defined_separation(vectors, vector, functional))

    def test_modulus_zero_and_one(self):
        coset = Coset([(1, 5), (3, 5)])
        self.assertIs(separates(coset, (1, 6), ((0, 1), 0)), True)
        self.assertIs(separates(coset, (1, 6), ((0, 1), 1)), False)
        self.assertIs(separates(coset, (2, 5), ((1, 0), 0)), False)
        self.assertIs(separates(coset, (2, 5), ((1, 0), 2)), True)
        self.assertIs(separates(coset, (1, 5), ((0, 1), 0)), False)
        self.assertIs(separates(coset, (1, 6), ((0, 0), 0)), False)

    def test_all_given_vectors_count(self):
        self.assertIs(separates(Coset([(0,), (4,)]), (2,), ((1,), 4)), True)
        self.assertIs(separates(Coset([(0,), (4,), (10,)]), (3,), ((1,), 4)), False)
        self.assertIs(separates(Coset([(0,), (10,), (4,)]), (3,), ((1,), 4)), False)

    def test_width_zero(self):
        for modulus in (0, 1, 7):
            self.assertIs(separates(Coset([()]), (), ((), modulus)), False)

    def test_great_numbers(self):
        coset = Coset([(0, 0), (SIXTY, 1)])
        self.assertIs(separates(coset, (1, 0), ((1, -SIXTY), 0)), True)
        self.assertIs(separates(coset, (SIXTY ** 3, SIXTY ** 2), ((1, -SIXTY), 0)), False)
        self.assertIs(separates(coset, (SIXTY ** 3 + 1, SIXTY ** 2), ((1, -SIXTY), SIXTY ** 2)), True)

    def test_things_that_are_no_functionals(self):
        coset = Coset(EXAMPLE)
        wrong = NO_TUPLES + LONG + [(), (1,), (1, 4), ((1,),), ((1,), 4, 4), [(1,), 4], ([1], 4), ((), 4),
                                    ((1, 0), 4), ((1, 1, 1), 4), ((1,), -4), ((1,), -1), (4, (1,)), ((1,), (4,)),
                                    ((1,), "4"), (("1",), 4), ((True,), 4), ((False,), 4), ((1,), True),
                                    ((1,), False), ({1: 1}, 4), ({1}, 4), ((1,), None), (None, 4), (((1,),), 4),
                                    "14", ("1", "4"), endless_list(), deep_list(), ((deep_list(),), 4),
                                    ((EqualToAll(),), 4), ((1,), EqualToAll()), EqualToAll(), coset]
        wrong += [((number,), 4) for number in NO_NUMBERS] + [((1,), number) for number in NO_NUMBERS]
        for thing in wrong:
            self.assertIs(separates(coset, (11,), thing), False)

    def test_bools_at_each_place(self):
        coset = Coset([(0, 0, 0, 0)])
        self.assertIs(separates(coset, (1, 1, 1, 1), ((1, 1, 1, 1), 0)), True)
        for place in range(4):
            coefficients = tuple(True if at == place else 1 for at in range(4))
            self.assertIs(separates(coset, (1, 1, 1, 1), (coefficients, 0)), False)

    def test_by_name(self):
        self.assertIs(separates(coset=Coset(EXAMPLE), vector=(11,), thing=((1,), 4)), True)
        self.assertIs(separates(thing=((1,), 4), vector=(10,), coset=Coset(EXAMPLE)), False)


class WrongVectors(Case):
    def calls(self, coset):
        return [coset.contains, coset.combination, coset.separating,
                lambda vector: separates(coset, vector, ((1,) * coset.width(), 4)),
                lambda vector: separates(coset, vector, None)]

    def test_values_that_are_no_vectors(self):
        for width in range(5):
            coset = Coset([(1,) * width, (4,) * width])
            wrong = NO_VECTORS + LONG + [(1,) * (width + 1)]
            if width > 0:
                wrong += [(), (1,) * (width - 1), [1] * width, (1,) * (width - 1) + (True,),
                          (False,) + (1,) * (width - 1), (1,) * (width - 1) + ("1",)]
            for vector in wrong:
                for call in self.calls(coset):
                    with self.subTest(width=width, vector=vector):
                        self.assertRaisesWith(InvalidVector, {"vector": vector}, call, vector)

    def test_unusual_values(self):
        for vector in (endless_list(), deep_list(), (deep_list(),), (EqualToAll(),)):
            for call in self.calls(Coset(EXAMPLE)):
                with self.assertRaises(InvalidVector):
                    call(vector)

    def test_later_changes_do_not_change_the_error(self):
        for call in self.calls(Coset(EXAMPLE)):
            vector = [10]
            error = self.assertRaisesWith(InvalidVector, {"vector": [10]}, call, vector)
            vector.append(11)
            self.assertSame(error.vector, [10])

    def test_by_name(self):
        coset = Coset(EXAMPLE)
        self.assertIs(coset.contains(vector=(2,)), True)
        self.assertSame(sum(coset.combination(vector=(2,))), 1)
        self.assertIs(coset.separating(vector=(2,)), None)


class NothingChanges(Case):
    def state(self, coset):
        return [coset.vectors(), coset.width(), coset.basis(), coset.rank, len(coset), coset.contains((2, 3)),
                coset.combination((7, 7)), coset.separating((0, 1)), coset == Coset([(1, 1), (4, 4), (1, 7)])]

    def test_later_changes_to_the_argument(self):
        vectors = [(1, 1), (4, 4), (1, 7)]
        coset = Coset(vectors)
        before = self.state(coset)
        self.assertSame(vectors, [(1, 1), (4, 4), (1, 7)])
        vectors.append((0, 1))
        vectors[0] = (9, 9)
        self.assertSame(self.state(coset), before)

    def test_changes_to_returned_lists(self):
        coset = Coset([(1, 1), (4, 4), (1, 7)])
        before = self.state(coset)
        for returned in (coset.vectors(), coset.basis(), coset.combination((7, 7))):
            returned.clear()
        self.assertSame(self.state(coset), before)

    def test_repeated_calls_and_calls_that_fail(self):
        coset, other = Coset([(1, 1), (4, 4), (1, 7)]), Coset([(0, 0)])
        before = self.state(coset)
        for function in (coset.contains, coset.combination, coset.separating):
            self.assertRaisesWith(InvalidVector, {"vector": None}, function, None)
        self.assertIs(coset.is_within(other), False)
        self.assertRaisesWith(InvalidVectors, {"index": 0}, coset.stepped, None)
        self.assertSame(self.state(coset), before)
        self.assertSame(other.vectors(), [(0, 0)])

    def test_the_rank_cannot_be_set(self):
        with self.assertRaises(AttributeError):
            Coset(EXAMPLE).rank = 2


class CountersInReach(Case):
    def test_results_of_scripts_are_in_the_coset(self):
        source = random.Random(14)
        for _ in range(50):
            known = [(source.randint(-9, 9) * 3, source.randint(-9, 9) * 2 + 1) for _ in range(source.randint(1, 4))]
            coset = Coset([vector_of(ONLY_COUNTERS, version) for version in known])
            steps = [tuple(source.randrange(len(known) + at) for _ in range(3)) for at in range(40)]
            for version in run_script(ONLY_COUNTERS, known, steps):
                self.assertIs(coset.contains(version), True)

    def test_all_near_vectors_of_the_coset_are_produced(self):
        known = [(1, 1), (3, 2), (1, 4)]
        coset = Coset(known)
        box = range(-3, 6)
        found = set(known)
        while True:
            results = {pick(ONLY_COUNTERS, *three) for three in itertools.product(found, repeat=3)}
            near = {version for version in results if version[0] in box and version[1] in box}
            if near <= found:
                break
            found |= near
        self.assertEqual(found, {vector for vector in itertools.product(box, repeat=2) if coset.contains(vector)})


if __name__ == "__main__":
    unittest.main()
