"""Points 110 and 111: writing systems, rows and chains, and reading what was written."""

import unittest
from random import Random

from kepttogether.errors import BadValue
from kepttogether.reading import read_chain, read_row, read_system
from kepttogether.writing import chain_text, row_text, system_text
from sentences import largest_systems, longest_chains, spaced, zeroed
from support import EDGE_SYSTEMS, LARGE_SYSTEMS, all_systems, drawn_chain, drawn_systems, pairs, rows

SYSTEM = (4, ((0, 1), (), (1, 2, 3)))
SYSTEMS = [system for size in (1, 2, 3) for many in (0, 1, 2) for system in all_systems(size, many)]
MANY_SYSTEMS = SYSTEMS + EDGE_SYSTEMS + LARGE_SYSTEMS + drawn_systems(200, 4, 8, 8, "written") + largest_systems(
    50, "written",
)


def drawn_chains(system, seed):
    draw = Random(f"{seed} {system}")
    if system[0] == 1:
        return []
    found = [(draw.choice(pairs(system[0])), ())]
    if system[1]:
        found += [drawn_chain(system, draw.randint(0, 9), draw, right) for right in (True, False)]
    return found


class Writing(unittest.TestCase):
    """Point 110."""

    def test_systems(self):
        self.assertEqual(system_text(SYSTEM), "4: 0 1 | - | 1 2 3")
        self.assertEqual(system_text((1, ())), "1:")
        self.assertEqual(system_text((8, ())), "8:")
        self.assertEqual(system_text((1, ((),))), "1: -")
        self.assertEqual(system_text((1, ((0,),))), "1: 0")
        self.assertEqual(system_text((2, ((), ()))), "2: - | -")
        self.assertEqual(system_text((8, (tuple(range(8)), (7,)))), "8: 0 1 2 3 4 5 6 7 | 7")

    def test_systems_by_words(self):
        for system in MANY_SYSTEMS:
            sets = ["-" if chosen == () else " ".join(map(str, chosen)) for chosen in system[1]]
            expected = f"{system[0]}:" + (" " if sets else "") + " | ".join(sets)
            self.assertEqual(system_text(system), expected)
            self.assertIs(type(system_text(system)), str)

    def test_rows(self):
        self.assertEqual(row_text((2, 0, 1, 3)), "2 0 1 3")
        self.assertEqual(row_text((0,)), "0")
        for size in range(1, 9):
            for row in rows(size)[::1 if size < 6 else 101]:
                self.assertEqual(row_text(row), " ".join(map(str, row)))

    def test_chains(self):
        self.assertEqual(chain_text(SYSTEM, ((0, 1), ((2, (0, 3)),))), "0<1 / 2: 0<3")
        self.assertEqual(chain_text(SYSTEM, ((3, 0), ())), "3<0")
        self.assertEqual(chain_text((2, ()), ((1, 0), ())), "1<0")
        chain = ((0, 1), ((1, (0, 1)), (0, (2, 3)), (2, (3, 2))))
        self.assertEqual(chain_text(SYSTEM, chain), "0<1 / 1: 0<1 / 0: 2<3 / 2: 3<2")

    def test_the_longest_texts(self):
        lengths = []
        for system in largest_systems(5, "longest") + [SYSTEM, (2, ((0,),))]:
            for chain in longest_chains(system, 4, "longest"):
                text = chain_text(system, chain)
                steps = "".join(f" / {index}: {x}<{y}" for index, (x, y) in chain[1])
                self.assertEqual(text, f"{chain[0][0]}<{chain[0][1]}{steps}")
                lengths.append(len(text))
        self.assertEqual(max(lengths), 903)
        self.assertLess(len(system_text((8, (tuple(range(8)),) * 8))), 903)

    def test_texts_have_at_most_1000_characters_so_they_can_be_read(self):
        system = (8, (tuple(range(8)),) * 8)
        chain = ((6, 7), ((7, (7, 6)), (7, (6, 7))) * 50)
        self.assertEqual(len(chain_text(system, chain)), 903)
        self.assertEqual(read_chain(system, chain_text(system, chain)), chain)
        with self.assertRaises(BadValue):
            read_chain(system, chain_text(system, chain) + " " * 98)


class ReadingAgain(unittest.TestCase):
    """Point 111."""

    def test_systems(self):
        self.assertGreater(len(SYSTEMS), 80)
        for system in MANY_SYSTEMS:
            self.assertEqual(read_system(system_text(system)), system)

    def test_rows(self):
        for size in range(1, 9):
            for row in rows(size)[::1 if size < 6 else 101]:
                self.assertEqual(read_row(size, row_text(row)), row)

    def test_chains(self):
        met = 0
        for system in MANY_SYSTEMS:
            for chain in drawn_chains(system, "read again"):
                self.assertEqual(read_chain(system, chain_text(system, chain)), chain)
                met += chain[1] != ()
        self.assertGreater(met, 100)
        for system in largest_systems(5, "longest read again") + [SYSTEM]:
            for chain in longest_chains(system, 3, "read again"):
                self.assertEqual(read_chain(system, chain_text(system, chain)), chain)

    def test_other_spaces(self):
        draw = Random("other spaces")
        for system in MANY_SYSTEMS[::3]:
            text = spaced(zeroed(system_text(system), draw), draw)
            if len(text) <= 1000:
                self.assertEqual(read_system(text), system, text)
            row = draw.choice(rows(min(5, system[0])))
            self.assertEqual(read_row(len(row), spaced(zeroed(row_text(row), draw), draw)), row)
            for chain in drawn_chains(system, "other spaces"):
                self.assertEqual(read_chain(system, spaced(zeroed(chain_text(system, chain), draw), draw)), chain)

    def test_no_spaces_where_tokens_can_stand_without(self):
        for system in MANY_SYSTEMS[::5]:
            for chain in drawn_chains(system, "no spaces"):
                self.assertEqual(read_chain(system, chain_text(system, chain).replace(" ", "")), chain)
            short = system_text(system).replace(" | ", "|").replace(": ", ":")
            self.assertEqual(read_system(short), system)


if __name__ == "__main__":
    unittest.main()
