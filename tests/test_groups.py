"""[12.1] to [12.5] and wholerises.group.groups."""

from itertools import islice, product

from wholerises.circle.products import degree_of
from wholerises.errors import InvalidOperation, InvalidRow, InvalidTable
from wholerises.group import groups as module
from wholerises.group.groups import (
    each_element, group_size, is_finite_group, is_word, matrix_of_word, orbit, order_counts, reflections, word_of)
from wholerises.kept.companions import companions, kept_table
from wholerises.kept.tables import back_table, is_definite
from wholerises.row.quotients import Quotient
from wholerises.stair.wholes import is_whole
from tests.support import (
    BROKEN, CHEBYSHEV, FIVE, GREAT, MIDDLE, NO_ROWS, OBJECTS, TURNED, WRONG, Case, balanced_rows, exchanged, multiplied,
    plain_determinant, plain_unit)

ROWS = [row for degree in (1, 2, 3, 4) for row in balanced_rows(degree)]
FINITE = [row for row in ROWS if row.height % 2 == 1 and is_definite(kept_table(row))]
SOME = [row for row in FINITE if degree_of(row) < 4] + [row for row in FINITE if degree_of(row) == 4][::4]
INFINITE = [BROKEN, FIVE, Quotient((4,), (1, 1, 1, 1)), Quotient((3,), (1, 1, 1)), Quotient((6,), (2, 2, 2))]
UNFIT = (Quotient((2,), (1,)), Quotient((), (1,)), GREAT, CHEBYSHEV, Quotient((6,), (5, 1)), Quotient((3,), (1, 1, 2)))
SHORT, FOUR = Quotient((3,), (2, 1)), Quotient((4,), (3, 1))
NO_WORDS = tuple(value for value in WRONG + OBJECTS if value != "") + (
    1, "c", "abc", "a b", "ab ", " ", "1", "aC", "\n", ("a",), ["a"], ("a", "b"), b"a")
NO_MATRICES = WRONG + OBJECTS + (
    1, (1,), (1, 2), [[1]], ([1],), ((1, 2),), ((1,), (2,)), ((1, 2), (3,)), ((True,),), ((1, 2), (3, True)), ((None,),),
    (("1",),), (((1,),),), ((0,) * 5,) * 5, ((0,) * 4,) * 3)


def letters_of(row):
    """The matrices of the letters, by the companions and their inverses."""
    one, other = companions(row)
    return {"a": one, "A": back_table(one), "b": other, "B": back_table(other)}


def plain_matrix(row, word):
    """The matrix of a word, by the definition."""
    letters = letters_of(row)
    made = plain_unit(degree_of(row))
    for letter in word:
        made = multiplied(made, letters[letter])
    return made


def words_by_length(length):
    """All words of a length, by the order of the letters."""
    return ["".join(letters) for letters in product("aAbB", repeat=length)]


def plain_elements(row, most):
    """The elements of words up to a length, in the order of their least shortest words."""
    found = {}
    for length in range(most + 1):
        for word in words_by_length(length):
            found.setdefault(plain_matrix(row, word), word)
    return found


def order_of(matrix):
    """The order of an element, by its powers."""
    order, power = 1, matrix
    while power != plain_unit(len(matrix)):
        order, power = order + 1, multiplied(power, matrix)
    return order


class Finite(Case):

    def test_constant(self):
        self.same(module.MOST_LETTERS, 200)

    def test_finite_groups(self):
        for row in ROWS:
            self.assertIs(is_finite_group(row), row in FINITE)
        self.same(len(FINITE), 36)

    def test_sizes(self):
        for row in SOME:
            letters = list(letters_of(row).values())
            seen, left = {plain_unit(degree_of(row))}, [plain_unit(degree_of(row))]
            while left:
                taken = left.pop()
                for letter in letters[::2]:
                    made = multiplied(taken, letter)
                    if made not in seen:
                        seen.add(made)
                        left.append(made)
            self.same(group_size(row), len(seen))
            self.assertLessEqual(len(seen), 576)
            elements = list(each_element(row))
            self.same(len(elements), len(seen))
            self.assertEqual(set(elements), seen)
        for row in INFINITE:
            self.assertIsNone(group_size(row))
        self.same(max(group_size(row) for row in FINITE), 576)

    def test_a_row_with_a_finite_group_need_not_be_whole(self):
        self.same((is_whole(TURNED), is_finite_group(TURNED), group_size(TURNED)), (False, True, 2))

    def test_letters_of_finite_orders(self):
        self.same([order_of(letter) for letter in letters_of(BROKEN).values()], [4, 4, 3, 3])
        self.assertIs(is_finite_group(BROKEN), False)

    def test_algebraic_rows(self):
        for row in ROWS:
            # 1 is a place of the bottoms exactly if the height is above 0.
            self.assertIs(is_whole(row) and row.height == 1, is_finite_group(row) and row.height > 0)


class Elements(Case):

    def test_their_order(self):
        for row in SOME + INFINITE:
            wanted = list(plain_elements(row, 4 if degree_of(row) < 3 else 3))
            found = list(islice(each_element(row), len(wanted)))
            self.same(found, wanted)

    def test_all_of_them_with_their_words(self):
        for row in SOME[::2]:
            wanted = plain_elements(row, 5 if degree_of(row) < 3 else 4)
            found = list(each_element(row))[:len(wanted)]
            self.same(found, list(wanted)[:len(found)])
            self.same([word_of(row, matrix) for matrix in found], [wanted[matrix] for matrix in found])

    def test_their_lengths(self):
        for row in FINITE[::3]:
            words = [word_of(row, matrix) for matrix in each_element(row)]
            self.assertLessEqual(max(len(word) for word in words), 2000)
            self.same(words[0], "")

    def test_infinite_groups_go_on(self):
        for row in INFINITE:
            found = list(islice(each_element(row), 2500))
            self.same(len(set(found)), 2500)
            table = kept_table(row)
            for matrix in found[::100]:
                self.assertEqual(multiplied(multiplied(exchanged(matrix), table), matrix), table)
                self.assertEqual(abs(plain_determinant(matrix)), 1)

    def test_they_refuse(self):
        for value in NO_ROWS:
            self.refused(InvalidRow, next, each_element(value))
        for row in UNFIT:
            self.refused(InvalidOperation, next, each_element(row))
        for action in (is_finite_group, group_size, order_counts, reflections):
            self.refused_each(InvalidRow, action, NO_ROWS)
            self.refused_each(InvalidOperation, action, UNFIT)


class Words(Case):

    def test_matrices(self):
        for row in SOME[::3] + INFINITE:
            for word in ("", "a", "A", "b", "B", "aA", "Bb", "ab", "bA", "aBAb", "abABabAABB", "a" * 200, "aB" * 100):
                self.same(matrix_of_word(row, word), plain_matrix(row, word))

    def test_matrices_refuse(self):
        self.refused_each(InvalidRow, matrix_of_word, NO_ROWS, "a")
        self.refused_each(InvalidOperation, matrix_of_word, UNFIT, "a")
        self.refused_each(InvalidOperation, lambda word: matrix_of_word(MIDDLE, word), NO_WORDS + ("a" * 201,))
        self.refused(InvalidRow, matrix_of_word, None, "c")

    def test_words(self):
        for row in SOME:
            elements = list(each_element(row))
            for matrix in elements[::1 + len(elements) // 40]:
                found = word_of(row, matrix)
                self.assertLessEqual(set(found), set("aAbB"))
                self.assertLessEqual(len(found), 2000)
                self.assertEqual(plain_matrix(row, found), matrix)
                self.assertIs(is_word(row, matrix, found), True)
            size = degree_of(row)
            zero = ((0,) * size,) * size
            self.assertIsNone(word_of(row, zero))
            self.assertIsNone(word_of(row, tuple(tuple(item * 10 ** 400 for item in line) for line in plain_unit(size))))
            self.assertIsNone(word_of(row, tuple(tuple(2 * item for item in line) for line in plain_unit(size))))

    def test_matrices_that_keep_and_are_not_in_the_group(self):
        flipped = ((-1, 0), (0, -1))
        self.assertIsNone(word_of(SHORT, flipped))
        self.assertEqual(plain_determinant(flipped), 1)
        self.same(word_of(MIDDLE, ((-1,),)), "a")

    def test_words_refuse(self):
        self.refused_each(InvalidRow, word_of, NO_ROWS, ((1,),))
        self.refused_each(InvalidTable, lambda matrix: word_of(MIDDLE, matrix), NO_MATRICES)
        self.refused_each(InvalidTable, lambda matrix: word_of(CHEBYSHEV, matrix), NO_MATRICES)
        self.refused_each(InvalidOperation, word_of, UNFIT, ((1,),))
        self.refused_each(InvalidOperation, word_of, [row for row in INFINITE if degree_of(row) == 2], plain_unit(2))
        self.refused_each(InvalidOperation, word_of, [row for row in INFINITE if degree_of(row) == 4], plain_unit(4))
        for size in (2, 3, 4):
            self.refused(InvalidOperation, word_of, MIDDLE, plain_unit(size))
        self.refused(InvalidOperation, word_of, FOUR, plain_unit(4))
        self.refused(InvalidRow, word_of, None, None)

    def test_judged_words(self):
        for row in (MIDDLE, SHORT, FOUR, BROKEN, FIVE):
            told = [(word, plain_matrix(row, word)) for length in range(4) for word in words_by_length(length)]
            for word, matrix in told[::5]:
                for other, made in told[::7]:
                    self.assertIs(is_word(row, matrix, other), made == matrix)
            for value in NO_WORDS:
                self.assertIs(is_word(row, plain_unit(degree_of(row)), value), False)
            size = degree_of(row)
            self.assertIs(is_word(row, plain_unit(size), "aA" * 1000), True)
            self.assertIs(is_word(row, plain_unit(size), "aA" * 1000 + "bB"), False)
            self.assertIs(is_word(row, plain_unit(size), "aA" * 1000 + "b"), False)
            self.assertIs(is_word(row, plain_matrix(row, "a"), "bB" * 999 + "a"), True)

    def test_judged_words_of_long_matrices(self):
        word = "aBBabAAb" * 30
        for row in (BROKEN, FIVE):
            matrix = plain_matrix(row, word)
            self.assertIs(is_word(row, matrix, word), True)
            self.assertIs(is_word(row, matrix, word[1:] + "a"), matrix == plain_matrix(row, word[1:] + "a"))
        grown = Quotient((3,), (1, 1, 1))
        matrix = plain_matrix(grown, "aB" * 900)
        self.assertIs(is_word(grown, matrix, "aB" * 900), True)
        self.assertIs(is_word(grown, matrix, "aB" * 899), False)

    def test_judged_words_refuse(self):
        self.refused_each(InvalidRow, is_word, NO_ROWS, ((1,),), "a")
        self.refused_each(InvalidTable, lambda matrix: is_word(MIDDLE, matrix, "a"), NO_MATRICES)
        self.refused_each(InvalidTable, lambda matrix: is_word(UNFIT[0], matrix, "a"), NO_MATRICES)
        self.refused_each(InvalidOperation, is_word, UNFIT, ((1,),), "a")
        for size in (2, 3, 4):
            self.refused(InvalidOperation, is_word, MIDDLE, plain_unit(size), "c")
        self.refused(InvalidOperation, is_word, BROKEN, ((1,),), "a")
        self.refused(InvalidRow, is_word, None, None, None)


class Orders(Case):

    def test_orders(self):
        for row in SOME:
            wanted = {}
            for matrix in each_element(row):
                wanted[order_of(matrix)] = wanted.get(order_of(matrix), 0) + 1
            self.same(order_counts(row), dict(sorted(wanted.items())))
            self.assertLessEqual(set(wanted), {1, 2, 3, 4, 5, 6, 8, 10, 12})
        for row in FINITE:
            found = order_counts(row)
            self.same((sum(found.values()), found[1]), (group_size(row), 1))

    def test_reflections(self):
        for row in SOME:
            size = degree_of(row)
            wanted = []
            for matrix in each_element(row):
                less = [[a - b for a, b in zip(line, unit)] for line, unit in zip(matrix, plain_unit(size))]
                rank_one = all(less[i][k] * less[j][m] == less[i][m] * less[j][k]
                               for i, j, k, m in product(range(size), repeat=4))
                if matrix != plain_unit(size) and multiplied(matrix, matrix) == plain_unit(size) and rank_one:
                    wanted.append(matrix)
            self.same(reflections(row), tuple(sorted(wanted)))
            self.assertIn(matrix_of_word(row, "Ab"), wanted)

    def test_infinite_groups_are_refused(self):
        for action in (order_counts, reflections):
            self.refused_each(InvalidOperation, action, INFINITE)
        self.refused_each(InvalidOperation, orbit, INFINITE, (1, 0))


class Orbits(Case):

    def test_orbits(self):
        for row in SOME:
            size = degree_of(row)
            elements = list(each_element(row))
            for vector in ((1,) + (0,) * (size - 1), (0,) * size, tuple(range(1, size + 1)), (10 ** 59,) * size):
                wanted = {tuple(line[0] for line in multiplied(matrix, [[item] for item in vector]))
                          for matrix in elements}
                self.same(orbit(row, vector), tuple(sorted(wanted)))
                self.assertEqual(len(elements) % len(wanted), 0)

    def test_the_greatest_orbits(self):
        for row in [row for row in FINITE if group_size(row) == 576][:2]:
            found = orbit(row, (1, 10, 1000, 10 ** 6))
            self.same((len(found), len(set(found))), (576, 576))

    def test_orbits_refuse(self):
        self.refused_each(InvalidRow, orbit, NO_ROWS, (1,))
        self.refused_each(InvalidOperation, orbit, UNFIT, (1,))
        self.refused_each(InvalidOperation, lambda vector: orbit(SHORT, vector), WRONG + OBJECTS + (
            1, (1,), (1, 2, 3), [1, 2], (True, 1), (1, None), ("1", 2), (10 ** 60, 1), ((1, 2), 3), ((1,), (2,))))
        self.refused(InvalidRow, orbit, None, None)
        self.refused(InvalidOperation, orbit, MIDDLE, (True,))
        self.same(orbit(MIDDLE, (10 ** 60 - 1,)), ((1 - 10 ** 60,), (10 ** 60 - 1,)))
