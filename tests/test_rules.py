"""Rules 20 to 41 of books: for each clause a book that breaks it, and one next to it that does not."""

import unittest

from tests.calls import flags, judged, names_row, properties_row, maps_row, sequences_row, written

ALWAYS = flags(15)
M1, M2, M3 = 0x301, 0x302, 0x303
TAKEN = [0]


def weights(first, second, third, variable=0):
    return variable << 31 | first << 15 | second << 5 | third


def chain(first, count, last=None):
    """A dict of rows, each scalar to the next, so many steps."""
    rows = {first + k: (first + k + 1,) for k in range(count)}
    if last is not None:
        rows[first + count - 1] = (last,)
    return rows


class RulesTest(unittest.TestCase):
    def held(self, wanted, properties=None, maps=None, sequences=None, names=()):
        self.assertEqual(judged(written(properties, maps, sequences, names)), wanted)

    def broken(self, rule, record, *book, **parts):
        self.held([-5, rule, record], *book, **parts)

    def taken(self, *book, **parts):
        self.held(TAKEN, *book, **parts)


class TakingApartTest(RulesTest):
    def test_20_eight_steps(self):
        kept = {13: {(100, 130): ALWAYS}}
        self.taken(kept, {0: chain(100, 8)})
        self.broken(20, 0, kept, {0: chain(100, 9)})
        self.broken(20, 1, kept, {0: {**chain(100, 9), 50: (60,)}})
        self.broken(20, 0, kept, {0: {100: (101,), 101: (100,)}})
        self.broken(20, 1, kept, {0: {99: (98,), 100: (101, M1), 101: (100, M1)}})

    def test_20_syllables_go_by_rule_and_count(self):
        kept = {13: {(100, 130): ALWAYS}}
        self.broken(20, 0, kept, {0: chain(100, 7, 0xAC01)})
        self.broken(21, 5, kept, {0: chain(100, 6, 0xAC01)})
        self.broken(20, 0, kept, {0: chain(100, 8, 0xAC00)})
        self.broken(21, 6, kept, {0: chain(100, 7, 0xAC00)})
        self.broken(21, 0, {13: {65: ALWAYS, 0xAC00: ALWAYS}}, {0: {65: (0xAC00,), 0xAC00: (65,)}})

    def test_20_nothing_behind_the_first_has_a_step(self):
        properties = {2: {M1: 4, M2: 4, M3: 4}, 13: {M1: ALWAYS}}
        self.broken(20, 0, properties, {0: {200: (65, M1), M1: (M2,)}})
        self.taken(properties, {0: {200: (65, M3), M1: (M2,)}})
        self.broken(20, 0, properties, {0: {200: (65, 0xAC00)}})
        self.broken(20, 1, properties, {0: {200: (65, M3), 201: (65, 200)}})

    def test_21_map_0(self):
        for hangul in (0x1100, 0x1112, 0x1161, 0x1175, 0x11A8, 0x11C2, 0xAC00, 0xD7A3):
            self.broken(21, 0, {13: {hangul: ALWAYS}}, {0: {hangul: (65,)}})
            self.broken(21, 0, {13: {200: ALWAYS}}, {0: {200: (hangul,)}})
            self.broken(21, 0, {2: {M1: 4}}, {0: {200: (hangul, M1)}})
        for jamo in (0x1100, 0x1112, 0x1161, 0x1175, 0x11A8, 0x11C2):
            self.broken(21, 0, {2: {jamo: 4}}, {0: {200: (65, jamo)}})
        for other in (0x10FF, 0x1113, 0x1160, 0x1176, 0x11A7, 0x11C3, 0xABFF, 0xD7A4):
            self.taken({13: {200: ALWAYS, other: ALWAYS}}, {0: {200: (other,)}})
            self.taken({13: {200: ALWAYS, other: ALWAYS}}, {0: {other: (65,)}})
            self.taken({2: {other: 4}}, {0: {200: (65, other)}})

    def test_21_two_of_a_syllable(self):
        self.broken(21, 0, {2: {0x1161: 4}}, {0: {200: (0x1100, 0x1161)}})
        self.broken(21, 0, {2: {0x11A8: 4}}, {0: {200: (0xAC00, 0x11A8)}})

    def test_21_map_1(self):
        for hangul in (0x1100, 0x1112, 0x1161, 0x1175, 0x11A8, 0x11C2, 0xAC00, 0xD7A3):
            self.broken(21, 1, {}, {1: {65: (66,), hangul: (67,)}})
            self.taken({}, {1: {65: (hangul,)}})
        for other in (0x10FF, 0x1113, 0x1160, 0x1176, 0x11A7, 0x11C3, 0xABFF, 0xD7A4):
            self.taken({}, {1: {other: (65,)}})

    def test_21_classes(self):
        for first, last in ((0x1100, 0x1100), (0x10F0, 0x1100), (0x1112, 0x1120), (0x1150, 0x1161), (0x1175, 0x1180),
                            (0x11A0, 0x11A8), (0x11C2, 0x11D0), (0x10F0, 0x1200), (0xABF0, 0xAC00), (0xD7A3, 0xD7B0),
                            (0xB000, 0xB001)):
            self.broken(21, 1, {0: {M1: 1, (first, last): 1}, 2: {M1: 4, (first, last): 4}})
        for first, last in ((0x10F0, 0x10FF), (0x1113, 0x1160), (0x1176, 0x11A7), (0x11C3, 0x11D0), (0xABF0, 0xABFF),
                            (0xD7A4, 0xD7B0)):
            self.taken({0: {M1: 1, (first, last): 1}, 2: {M1: 4, (first, last): 4}})

    def test_21_clause_by_clause(self):
        marks = {0: {0x1100: 1}, 2: {0x1100: 4}, 13: {200: ALWAYS}}
        self.broken(21, 0, marks, {0: {200: (0x1100,)}, 1: {0x1100: (65,)}})
        self.broken(21, 1, marks, {0: {200: (65,)}, 1: {0x1100: (65,)}})
        self.broken(21, 0, marks, {0: {200: (65,)}, 1: {0x1113: (65,)}})

    def test_22(self):
        def marks(first, second):
            classes = {M1: first, M2: second} if first else {M2: second}
            return {0: {scalar: value for scalar, value in classes.items() if value}, 2: {M1: 4, M2: 4}}
        rows = {0: {200: (65, M1), 201: (200, M2)}}
        self.broken(22, 1, marks(230, 220), rows)
        self.taken(marks(220, 230), rows)
        self.taken(marks(220, 220), rows)
        self.taken(marks(230, 0), rows)
        self.taken(marks(0, 220), rows)

    def test_22_of_the_first_too(self):
        for first, second in ((230, 220), (2, 1)):
            properties = {0: {M1: first, M2: second, M3: first}, 2: {(M1, M3): 4, 200: 4}, 13: {200: ALWAYS}}
            self.broken(22, 0, properties, {0: {200: (M1, M2)}})
            self.taken(properties, {0: {200: (M2, M1)}})
            self.taken(properties, {0: {200: (M1, M3)}})

    def test_22_first_of_several(self):
        properties = {0: {M1: 230, M2: 220}, 2: {M1: 4, M2: 4}}
        self.broken(22, 1, properties, {0: {199: (66, M1), 201: (300, M2), 202: (199, M2), 300: (65, M1)}})

    def test_23_no_row_in_map_0(self):
        self.broken(23, 1, {13: {200: ALWAYS}}, {0: {200: (65,)}, 1: {200: (66,)}})
        self.taken({13: {200: ALWAYS}}, {0: {200: (65,)}, 1: {201: (66,)}})

    def test_23_eight_deep(self):
        self.taken({}, {1: chain(100, 8)})
        self.broken(23, 0, {}, {1: chain(100, 9)})
        self.broken(23, 0, {}, {1: {100: (101,), 101: (100,)}})
        self.broken(23, 0, {}, {1: {100: (65, 100)}})
        self.broken(23, 0, {}, {1: {90: (65, 100), **chain(100, 8)}})
        self.taken({}, {1: {90: (65, 101), **chain(100, 8)}})

    def test_23_syllables_count(self):
        self.taken({}, {1: chain(100, 6, 0xAC01)})
        self.broken(23, 0, {}, {1: chain(100, 7, 0xAC01)})
        self.taken({}, {1: chain(100, 7, 0xAC00)})

    def test_23_eighteen(self):
        self.taken({}, {1: {100: (101,) * 9, 101: (65, 66)}})
        self.broken(23, 0, {}, {1: {100: (101,) * 9 + (65,), 101: (65, 66)}})
        self.taken({}, {1: {100: (101,), 101: (65,) * 18}})
        self.broken(23, 0, {}, {1: {100: (101, 65), 101: (65,) * 18}})

    def test_23_of_map_0(self):
        kept = {13: {(90, 91): ALWAYS}}
        self.taken(kept, {0: {90: (101,)}, 1: chain(100, 8)})
        self.broken(23, 0, kept, {0: {90: (100,)}, 1: chain(100, 8)})
        self.broken(23, 0, {2: {M1: 4}}, {0: {90: (100, M1)}, 1: {100: (65,) * 18}})
        self.taken({2: {M1: 4}}, {0: {90: (100, M1)}, 1: {100: (65,) * 17}})

    def test_23_clause_by_clause(self):
        kept = {13: {(90, 91): ALWAYS, 120: ALWAYS}}
        self.broken(23, 11, kept, {0: {90: (100,), 120: (65,)}, 1: {**chain(100, 9), 120: (66,)}})
        self.broken(23, 1, kept, {0: {90: (100,)}, 1: chain(100, 9)})

    def test_24(self):
        marks = {2: {M1: 4}}
        self.broken(24, 0, {}, {0: {200: (65,)}})
        self.taken({13: {200: ALWAYS}}, {0: {200: (65,)}})
        self.broken(24, 0, marks, {0: {200: (65, M1), 201: (65, M1)}})
        self.broken(24, 1, {**marks, 13: {200: ALWAYS}}, {0: {200: (65, M1), 201: (65, M1), 202: (65, M1)}})
        self.taken({**marks, 13: {200: ALWAYS}}, {0: {200: (65, M1), 201: (65, M1)}})
        self.taken({**marks, 13: {201: ALWAYS}}, {0: {200: (65, M1), 201: (65, M1)}})
        self.taken(marks, {0: {200: (65, M1), 201: (66, M1)}})
        self.taken(marks, {0: {200: (65, M1)}, 1: {201: (65, M1)}, 5: {202: (65, M1)}})

    def test_24_classes(self):
        extends = {2: {200: 4, 201: 4, M1: 4}}
        self.taken(extends, {0: {200: (201, M1)}})
        self.broken(24, 0, {**extends, 0: {200: 1}}, {0: {200: (201, M1)}})
        self.broken(24, 0, {**extends, 0: {201: 1, M1: 1}}, {0: {200: (201, M1)}})
        self.taken({**extends, 0: {200: 1, 201: 1, M1: 1}, 13: {200: ALWAYS}}, {0: {200: (201, M1)}})

    def test_38(self):
        self.broken(38, 1, {0: {200: 1}, 2: {200: 4}}, {1: {199: (65,), 200: (65,)}})
        self.taken({2: {200: 4}}, {1: {199: (65,), 200: (65,)}})


class FoldingTest(RulesTest):
    def test_25_map_5(self):
        self.broken(25, 0, {}, {5: {65: (66,), 66: (67,)}})
        self.broken(25, 1, {}, {5: {66: (67,), 70: (71, 66)}})
        self.taken({}, {5: {65: (67,), 66: (67,)}})

    def test_25_map_5_taken_apart(self):
        self.broken(25, 1, {2: {M1: 4}}, {0: {200: (66, M1)}, 5: {65: (200,), 66: (67,)}})
        self.broken(25, 1, {2: {M1: 4}}, {0: {200: (66, M1)}, 5: {65: (200,), M1: (67,)}})
        self.taken({2: {M1: 4}}, {0: {200: (68, M1)}, 5: {65: (200,), 66: (67,)}})
        self.broken(25, 1, {2: {M1: 4}}, {0: {200: (68, M1)}, 5: {65: (200,), 200: (69,)}})
        self.broken(25, 1, {}, {5: {0x1161: (66,), 0xE000: (0xAC00,)}})
        self.taken({}, {5: {0x1162: (66,), 0xE000: (0xAC00,)}})

    def test_25_map_6(self):
        self.broken(25, 0, {}, {6: {65: (66,), 66: (67,)}})
        self.taken({2: {M1: 4}}, {0: {200: (66, M1)}, 6: {65: (200,), 66: (67,)}})
        self.broken(25, 2, {}, {5: {65: (67,), 68: (67,)}, 6: {65: (66,), 66: (67,)}})

    def test_25_clause_by_clause(self):
        self.broken(25, 1, {}, {5: {65: (67,), 70: (65,)}, 6: {65: (66,), 66: (67,)}})

    def test_39_map_5(self):
        rows = {1: {2: (3,), 4: (5,)}, 5: {1: (2,), 3: (4,), 5: (6,)}}
        self.broken(39, 2, {}, rows)
        self.taken({}, {**rows, 5: {1: (2,), 3: (4,)}})

    def test_39_map_1(self):
        rows = {1: {1: (7,), 2: (3,), 4: (5,)}, 5: {3: (4,), 5: (6,)}}
        self.broken(39, 1, {}, rows)
        self.taken({}, {**rows, 5: {3: (4,)}})

    def test_39_map_0(self):
        rows = {0: {99: (98,), 100: (2,)}, 1: {2: (3,), 4: (5,)}, 5: {2: (9,), 3: (4,), 5: (6,)}}
        kept = {13: {(99, 100): ALWAYS}}
        self.broken(39, 1, kept, rows)
        self.taken(kept, {**rows, 5: {2: (9,), 3: (4,)}})

    def test_39_clause_by_clause(self):
        rows = {0: {100: (2,)}, 1: {2: (3,), 4: (5,)}, 5: {1: (2,), 3: (4,), 5: (6,)}}
        self.broken(39, 3, {13: {100: ALWAYS}}, rows)
        self.broken(39, 1, {13: {100: ALWAYS}}, {**rows, 5: {3: (4,), 5: (6,)}})

    def test_39_what_is_behind_counts_too(self):
        self.broken(39, 0, {}, {1: {2: (9, 3), 4: (9, 5)}, 5: {3: (9, 4), 5: (6,)}})


class PartnersTest(RulesTest):
    def test_26(self):
        both = {13: {(40, 41): flags(13), 60: flags(13), 62: flags(13)}}
        self.taken(both, {7: {40: (41,), 41: (40,)}})
        self.broken(26, 0, both, {7: {40: (41,)}})
        self.broken(26, 0, both, {7: {40: (41,), 41: (60,), 60: (41,)}})
        self.broken(26, 0, {13: {41: flags(13)}}, {7: {40: (41,), 41: (40,)}})
        self.broken(26, 1, {13: {40: flags(13)}}, {7: {40: (41,), 41: (40,)}})

    def test_27(self):
        right = {8: {(40, 41): 13}, 9: {40: 1, 41: 2}}
        rows = {8: {40: (41,), 41: (40,)}}
        self.taken(right, rows)
        self.broken(27, 0, {8: {(40, 41): 13}}, rows)
        self.broken(27, 0, {**right, 9: {41: 2}}, rows)
        self.broken(27, 0, {**right, 9: {40: 1}}, rows)
        self.broken(27, 0, {**right, 9: {(40, 41): 1}}, rows)
        self.broken(27, 0, {**right, 9: {(40, 41): 2}}, rows)
        self.broken(27, 0, right, {8: {40: (41,)}})
        self.broken(27, 0, {**right, 8: {41: 13}}, rows)
        self.broken(27, 1, {**right, 8: {40: 13, 41: 12}}, rows)

    def test_27_goes_both_ways(self):
        properties = {8: {(40, 41): 13, 60: 13}, 9: {40: 1, 41: 2, 60: 1}}
        self.broken(27, 2, properties, {8: {40: (41,), 41: (40,), 60: (41,)}})
        self.broken(27, 0, properties, {8: {40: (41,), 41: (60,), 60: (41,)}})

    def test_27_all_brackets_have_partners(self):
        rows = {8: {40: (41,), 41: (40,)}}
        self.broken(27, 3, {8: {(40, 41): 13}, 9: {40: 1, 41: 2, 60: 1}}, rows)
        self.broken(27, 2, {8: {(40, 41): 13}, 9: {40: 1, (41, 42): 2}}, rows)
        self.broken(27, 0, {9: {60: 1}})

    def test_27_clause_by_clause(self):
        self.broken(27, 1, {8: {40: 13}, 9: {40: 1, 41: 2, 60: 1}}, {8: {40: (41,), 41: (40,)}})

    def test_27_over_what_is_no_scalar(self):
        rows = {8: {0xD7FF: (0xE000,), 0xE000: (0xD7FF,)}}
        self.assertEqual(judged((
            [8, 0xD7FF, 0xE000, 13, 9, 0xD7FF, 0xD7FF, 1, 9, 0xE000, 0xE000, 2], maps_row(rows), [], [])), TAKEN)
        rows = {8: {40: (0xD7FF,), 60: (0xE000,), 0xD7FF: (40,), 0xE000: (60,)}}
        self.assertEqual(judged((
            [8, 40, 40, 13, 8, 60, 60, 13, 8, 0xD7FF, 0xE000, 13, 9, 40, 40, 2, 9, 60, 60, 2, 9, 0xD7FF, 0xE000, 1],
            maps_row(rows), [], [])), TAKEN)
        rows = {8: {0xD7FF: (0xE000,), 0xE000: (0xD7FF,)}}
        # One range of both: what lies between has no value and needs no partner, but both would open.
        self.assertEqual(judged(([8, 0xD7FF, 0xE000, 13, 9, 0xD7FF, 0xE000, 1], maps_row(rows), [], [])), [-5, 27, 0])

    def test_28(self):
        digits = {48 + k: k + 1 for k in range(10)}
        self.taken({11: digits})
        self.taken({11: {**digits, **{0x660 + k: k + 1 for k in range(10)}}})
        self.taken({11: {k: k + 1 for k in range(10)}})
        self.broken(28, 0, {11: {key: value for key, value in digits.items() if value < 10}})
        self.broken(28, 0, {11: {key: value for key, value in digits.items() if value > 1}})
        self.broken(28, 0, {11: {0: 2}})
        self.broken(28, 0, {11: {65: 1}})
        self.broken(28, 10, {11: {**digits, 58: 1}})
        self.broken(28, 0, {11: {**digits, (50, 51): 3}})
        self.broken(28, 10, {11: {**digits, 0x660: 5}})

    def test_28_a_range_is_one_scalar(self):
        rows = [number for k in range(10) for number in (11, 48 + k, 48 + k, k + 1)]
        self.assertEqual(judged((rows, [], [], [])), TAKEN)
        rows[38] = 58
        self.assertEqual(judged((rows, [], [], [])), [-5, 28, 9])

    def test_28_numbers_that_are_no_scalars_have_no_value(self):
        self.broken(28, 0, {11: {0xE000 + k: k + 3 for k in range(8)}})

    def test_29(self):
        names = ["Zzzz", "Zyyy", "Zinh", "Latn"]
        self.taken({10: {65: 2}})
        self.broken(29, 0, {10: {65: 3}})
        self.taken({10: {65: 3}}, names=names)
        self.broken(29, 1, {10: {65: 3, 66: 4}}, names=names)
        self.broken(29, 0, {10: {65: 3}}, names=names[:3])
        self.taken({}, {10: {65: (0, 1, 2)}})
        self.broken(29, 1, {}, {10: {64: (0, 2), 65: (0, 3)}})
        self.taken({}, {10: {65: (0, 3)}}, names=names)
        self.broken(29, 0, {}, {10: {65: (4,)}}, names=names)

    def test_29_clause_by_clause(self):
        self.broken(29, 1, {1: {65: 1}, 10: {66: 9}}, {10: {65: (3,)}})

    def test_30(self):
        self.taken({}, {9: {65: (66,), 67: (66,)}})
        self.broken(30, 0, {}, {9: {65: (66,), 66: (67,)}})
        self.broken(30, 1, {}, {9: {66: (67,), 70: (71, 66)}})
        self.broken(30, 0, {13: {66: flags(11)}}, {9: {65: (66,)}})
        self.broken(30, 0, {13: {67: flags(11)}}, {9: {65: (66, 67)}})
        self.taken({13: {65: flags(11)}}, {9: {65: (66,)}})

    def test_30_taken_apart(self):
        marks = {2: {M1: 4}}
        self.broken(30, 1, marks, {0: {200: (66, M1)}, 9: {65: (200,), 66: (67,)}})
        self.broken(30, 1, {**marks, 13: {M1: flags(11)}}, {0: {200: (66, M1)}, 9: {65: (200,)}})
        self.taken({**marks, 13: {200: flags(11)}}, {0: {200: (66, M1)}, 9: {65: (200,), 200: (66,)}})
        self.broken(30, 1, {}, {9: {0x1161: (66,), 0xE000: (0xAC00,)}})


class ClassesTest(RulesTest):
    def test_31(self):
        self.taken({13: {65: flags(7, 8)}})
        self.taken({13: {65: flags(8)}})
        self.broken(31, 1, {13: {64: flags(8), 65: flags(7)}})
        self.broken(31, 0, {13: {65: flags(16)}})
        self.broken(31, 0, {13: {65: flags(7, 8, 16)}})
        self.taken({13: {65: flags(*[bit for bit in range(20) if bit not in (16,)])}})

    def test_32(self):
        self.taken({0: {(M1, M3): 230}, 2: {(M1, M3): 4}})
        self.broken(32, 0, {0: {(M1, M3): 230}})
        self.broken(32, 0, {0: {(M1, M3): 230}, 2: {(M1, M2): 4}})
        self.broken(32, 0, {0: {(M1, M3): 230}, 2: {(M2, M3): 4}})
        self.broken(32, 0, {0: {(M1, M3): 230}, 2: {M1: 4, M3: 4}})
        self.broken(32, 0, {0: {(M1, M3): 230}, 2: {M1: 4, M2: 8, M3: 4}})
        self.broken(32, 1, {0: {M1: 230, M3: 220}, 2: {(M1, M2): 4}})
        self.broken(32, 0, {0: {M1: 230}, 2: {M1: 4}, 3: {M1: 2}})
        self.broken(32, 0, {0: {(M1, M3): 230}, 2: {(M1, M3): 4}, 3: {M2: 2}})
        self.taken({0: {(M1, M3): 230}, 2: {(M1, M3): 4}, 3: {M1: 1, M2: 3}})

    def test_32_over_what_is_no_scalar(self):
        self.assertEqual(judged(([0, 0xD7FE, 0xE001, 1, 2, 0xD7FE, 0xD7FF, 4, 2, 0xE001, 0xE001, 4], [], [], [])), [-5, 32, 0])
        self.assertEqual(judged(([0, 0xD7FE, 0xE001, 1, 2, 0xD7FE, 0xE001, 4], [], [], [])), TAKEN)
        self.assertEqual(judged((
            [0, 0xD7FE, 0xE001, 1, 2, 0xD7F0, 0xD7FF, 4, 2, 0xE000, 0xE00F, 4], [], [], [])), [-5, 9, 2])

    def test_33_as_the_first(self):
        rows = {0: {199: (64,), 200: (65,)}}
        kept = flags(15)
        self.taken({2: {65: 8, 200: 8}, 13: {(199, 200): kept}}, rows)
        self.broken(33, 1, {2: {65: 8}, 13: {(199, 200): kept}}, rows)
        self.broken(33, 1, {2: {65: 8, 200: 7}, 13: {(199, 200): kept}}, rows)
        self.taken({2: {65: 3, 200: 3}, 13: {(199, 200): kept}}, rows)
        self.taken({3: {65: 2, 200: 2}, 13: {(199, 200): kept}}, rows)
        self.broken(33, 1, {3: {65: 2}, 13: {(199, 200): kept}}, rows)
        self.broken(33, 1, {3: {200: 2}, 13: {(199, 200): kept}}, rows)
        self.taken({13: {65: flags(12), 199: kept, 200: flags(12, 15)}}, rows)
        self.broken(33, 1, {13: {65: flags(12), (199, 200): kept}}, rows)
        self.broken(33, 1, {13: {199: kept, 200: flags(12, 15)}}, rows)

    def test_33_behind_the_first(self):
        rows = {0: {200: (65, M1)}}
        self.taken({2: {M1: 4}}, rows)
        for other in (1, 2, 3, 5, 6, 7, 8, 9, 10, 11, 12, 13):
            self.broken(33, 0, {2: {M1: other}}, rows)
        self.broken(33, 0, {}, rows)
        self.taken({2: {65: 10, 200: 10, M1: 10}}, rows)
        self.broken(33, 0, {2: {65: 10, 200: 10, M1: 4}}, rows)

    def test_33_first_of_two(self):
        rows = {0: {200: (65, M1)}}
        for value in (4, 8):
            self.taken({2: {65: value, 200: value, M1: 4}}, rows)
        for value in (1, 2, 3, 5, 6, 7, 9, 11, 12, 13):
            self.broken(33, 0, {2: {65: value, 200: value, M1: 4}}, rows)

    def test_33_conjuncts(self):
        rows = {0: {200: (65, M1)}}
        for first, cluster in ((1, 4), (2, 0), (3, 4)):
            for second in range(4):
                classes = {65: cluster, 200: cluster, M1: 4}
                conjuncts = {65: first, 200: first, M1: second}
                properties = {2: {key: value for key, value in classes.items() if value},
                              3: {key: value for key, value in conjuncts.items() if value}}
                fits = second in {1: (1, 3), 2: (3,), 3: (3,)}[first]
                if fits:
                    self.taken(properties, rows)
                else:
                    # A consonant as the second is no extend, which 40 would tell later.
                    self.broken(33, 0, properties, rows)
        for second in (1, 3):
            self.taken({2: {M1: 4}, 3: {M1: second}}, rows)

    def test_40(self):
        self.taken({3: {65: 2}})
        self.broken(40, 1, {2: {65: 4}, 3: {65: 2}})
        self.broken(40, 1, {2: {66: 4}, 3: {(65, 67): 2}})
        for value in (1, 3):
            self.taken({2: {M1: 4, M2: 5}, 3: {(M1, M2): value}})
            self.broken(40, 0, {3: {M1: value}})
            self.broken(40, 1, {2: {M1: 8}, 3: {M1: value}})
            self.broken(40, 2, {2: {M1: 4, M3: 5}, 3: {(M1, M3): value}})

    def test_40_over_what_is_no_scalar(self):
        self.assertEqual(judged((
            [2, 0xD7FE, 0xD7FF, 4, 2, 0xE000, 0xE001, 5, 3, 0xD7FE, 0xE001, 3], [], [], [])), TAKEN)
        self.assertEqual(judged((
            [2, 0xD7FE, 0xD7FF, 4, 2, 0xE001, 0xE001, 5, 3, 0xD7FE, 0xE001, 3], [], [], [])), [-5, 40, 2])
        self.assertEqual(judged((
            [2, 0xD7FD, 0xD7FE, 4, 2, 0xE000, 0xE001, 5, 3, 0xD7FE, 0xE001, 3], [], [], [])), [-5, 40, 2])
        self.assertEqual(judged((
            [2, 0xD7FE, 0xD7FF, 4, 3, 0xD7FE, 0xE000, 3], [], [], [])), [-5, 40, 1])

    def test_41(self):
        self.taken({2: {66: 3}, 13: {65: flags(12)}})
        self.broken(41, 1, {2: {65: 4}, 13: {65: flags(12)}})
        self.broken(41, 1, {2: {66: 3}, 13: {(65, 67): flags(12)}})
        self.broken(41, 2, {2: {66: 3}, 13: {65: flags(5), 66: flags(5, 12)}})
        self.taken({2: {66: 3}, 13: {(65, 67): flags(5)}})

    def test_41_hangul_by_its_property(self):
        self.taken({13: {0x1100: flags(12), 0xAC00: flags(12)}})
        self.broken(41, 1, {2: {0x1100: 9}, 13: {0x1100: flags(12)}})

    def test_37(self):
        for number in (2, 3, 4):
            self.taken({13: {65: flags(2)}}, {number: {65: (66,)}})
            self.broken(37, 0, {}, {number: {65: (66,)}})
            self.broken(37, 1, {13: {65: flags(2)}}, {number: {65: (66,), 66: (67,)}})
        self.broken(37, 1, {13: {65: flags(2), 66: flags(0)}})
        self.broken(37, 0, {13: {66: flags(1)}})
        self.taken({13: {65: flags(0, 2), 66: flags(1, 2), 67: flags(0, 1, 2)}})

    def test_37_clause_by_clause(self):
        self.broken(37, 1, {13: {65: flags(2), 66: flags(0)}}, {2: {65: (66,)}, 4: {67: (68,)}})
        self.broken(37, 1, {13: {65: flags(2), 66: flags(0)}}, {2: {65: (66,)}, 4: {65: (68,)}})


class WeightsTest(RulesTest):
    def held_both(self, wanted, row):
        """As a map's row, and as what a contraction comes to."""
        self.assertEqual(judged(written({}, {11: {64: (weights(1, 1, 1),), 65: row}})), wanted)
        self.assertEqual(judged(written({}, {}, {0: {(64, 65): (weights(1, 1, 1),), (65, 66): row}})), wanted)

    def test_34(self):
        full, alone = weights(7, 1, 1), weights(7, 0, 0)
        for row in ((full,), (weights(0, 1, 1),), (weights(0, 0, 1),), (0,), (weights(7, 1, 1, 1),), (full, alone),
                    (weights(0, 0, 1), alone), (0, alone), (full, alone, alone), (weights(7, 1, 1, 1), weights(7, 0, 0, 1)),
                    (weights(65535, 1023, 31, 1),), (weights(0, 1, 1), full), (full, weights(1, 0, 0)), (weights(1, 1, 1, 1),)):
            self.held_both(TAKEN, row)
        for row in ((alone,), (weights(7, 1, 0),), (weights(7, 0, 1),), (weights(0, 1, 0),), (weights(0, 1, 1, 1),),
                    (weights(0, 0, 1, 1),), (weights(0, 0, 0, 1),), (full, weights(7, 0, 0, 1)),
                    (weights(7, 1, 1, 1), alone), (alone, full), (full, weights(7, 1, 0)), (full, weights(7, 0, 1)), (full, weights(0, 1, 0)),
                    (weights(7, 0, 0, 1),)):
            self.held_both([-5, 34, 1], row)

    def test_34_clause_by_clause(self):
        wrong = (weights(7, 1, 0),)
        self.broken(34, 1, {}, {6: {1: (2,)}, 11: {65: wrong}}, {0: {(65, 66): wrong}})
        self.broken(34, 0, {}, {6: {1: (2,)}, 11: {65: (1,)}}, {0: {(65, 66): wrong}})

    def test_34_other_sequences_have_no_weights(self):
        self.taken({}, {}, {1: {(65,): (weights(0, 1, 0),)}, 2: {(65, 66): (weights(0, 1, 0),)}})

    def test_35(self):
        marks = {0: {M1: 230, M2: 220}, 2: {M1: 4, M2: 4, M3: 4}}
        self.taken(marks, {}, {0: {(65, M2, M1): (1,), (65, M1, 66, M2): (1,), (65, M1, M3, M2): (1,), (65, M1, M1): (1,)}})
        self.broken(35, 1, marks, {}, {0: {(65, 66): (1,), (65, M1, M2): (1,)}})
        self.broken(35, 0, marks, {}, {0: {(M1, 65): (1,)}})
        self.taken(marks, {}, {0: {(M3, 65): (1,)}})
        self.broken(35, 0, marks, {0: {200: (65, M1)}}, {0: {(66, 200): (1,)}})
        self.broken(35, 0, {}, {}, {0: {(65, 0xAC00): (1,)}})
        self.taken({}, {}, {0: {(0x1100, 0x1161): (1,)}})
        self.taken(marks, {}, {1: {(M1, M2): (1,)}, 2: {(M1, 0xAC00): (1,)}})

    def test_36(self):
        self.broken(36, 2, {2: {M1: 4}}, {0: {200: (65, M1)}, 11: {199: (1,), 200: (1,)}})
        self.taken({2: {M1: 4}}, {0: {200: (65, M1)}, 11: {199: (1,), 201: (1,)}})
        self.broken(36, 0, {}, {11: {0xAC00: (1,)}})
        self.taken({}, {11: {0x1100: (1,)}, 1: {65: (66,)}})
        self.taken({}, {1: {65: (66,)}, 11: {65: (1,)}})


class OrderTest(unittest.TestCase):
    """Of two rules that are broken the first is told, however late its record stands."""

    # A part of a book that breaks just one rule, by rule; they speak of scalars apart.
    WRONG = {
        20: ({}, {0: {1000: (1001,), 1001: (1000,)}}, {}),
        21: ({}, {1: {0x1100: (65,)}}, {}),
        22: ({0: {1101: 2, 1102: 1}, 2: {(1101, 1102): 4}}, {0: {1103: (65, 1101), 1104: (1103, 1102)}}, {}),
        23: ({}, {1: {1200: (1200, 65)}}, {}),
        24: ({}, {0: {1300: (65,)}}, {}),
        25: ({}, {6: {1400: (1401,), 1401: (1402,)}}, {}),
        26: ({}, {7: {1500: (1501,)}}, {}),
        27: ({9: {1600: 1}}, {}, {}),
        28: ({11: {1700: 1}}, {}, {}),
        29: ({10: {1800: 9}}, {}, {}),
        30: ({}, {9: {1900: (1901,), 1901: (1902,)}}, {}),
        31: ({13: {2000: 1 << 7}}, {}, {}),
        32: ({0: {2100: 1}}, {}, {}),
        33: ({}, {0: {2200: (66, 2201)}}, {}),
        34: ({}, {11: {2300: (32,)}}, {}),
        35: ({}, {}, {0: {(2400, 0xAC00): (1,)}}),
        36: ({}, {11: {0xAC00: (1,)}}, {}),
        37: ({13: {2500: 1}}, {}, {}),
        38: ({0: {2600: 1}, 2: {2600: 4}}, {1: {2600: (65,)}}, {}),
        39: ({}, {1: {2700: (2701,), 2702: (2703,)}, 5: {2701: (2702,), 2703: (2704,)}}, {}),
        40: ({3: {2800: 1}}, {}, {}),
        41: ({2: {2900: 8}, 13: {2900: 1 << 12}}, {}, {}),
    }

    def joined(self, *rules):
        made = ({}, {}, {})
        for rule in rules:
            for section, part in zip(made, self.WRONG[rule]):
                for number, entries in part.items():
                    section.setdefault(number, {}).update(entries)
        return judged((properties_row(made[0]), maps_row(made[1]), sequences_row(made[2]), names_row(())))

    def test_each_alone(self):
        for rule in self.WRONG:
            self.assertEqual(self.joined(rule)[:2], [-5, rule])

    def test_each_two(self):
        for first in self.WRONG:
            for second in self.WRONG:
                if first < second:
                    self.assertEqual(self.joined(first, second)[:2], [-5, first], (first, second))

    def test_rows_of_records_come_before(self):
        for rule in self.WRONG:
            wrong = self.WRONG[rule]
            rows = (properties_row(wrong[0]), maps_row(wrong[1]), sequences_row(wrong[2]), [90])
            self.assertEqual(judged(rows), [-5, 16, 0])
            rows = (properties_row(wrong[0]) + [13, 0x30000, 0x32000, 1 << 12], rows[1], rows[2], [])
            self.assertEqual(judged(rows), [-5, 17, 0])


class WholeBookTest(unittest.TestCase):
    def test_a_book_with_all_kinds_of_records(self):
        digits = {48 + k: k + 1 for k in range(10)}
        rows = written(
            {0: {M1: 230}, 1: {(65, 90): 1, (97, 122): 2}, 2: {M1: 4, 13: 1, 10: 2}, 3: {M1: 3}, 4: {(97, 122): 10, M1: 4},
             5: {(97, 122): 7}, 6: {10: 30, 13: 15}, 7: {(32, 126): 5}, 8: {(40, 41): 13}, 9: {40: 1, 41: 2},
             10: {(97, 122): 3}, 11: digits, 12: {(97, 122): 1}, 13: {(40, 41): flags(13), 65: flags(0, 2), 97: flags(1, 2)}},
            {0: {0xE1: (97, M1)}, 1: {0xAA: (97,)}, 2: {97: (65,)}, 3: {65: (97,)}, 4: {97: (65,)}, 5: {65: (97,)}, 6: {65: (97,)},
             7: {40: (41,), 41: (40,)}, 8: {40: (41,), 41: (40,)}, 9: {0x430: (97,)}, 10: {48: (1, 3)},
             11: {97: (weights(5, 1, 1),)}, 12: {97: (65,)}, 13: {65: (97,)}, 14: {97: (65,)}},
            {0: {(97, 98): (weights(6, 1, 1), weights(7, 0, 0))}, 1: {(97,): (3,)}, 2: {(97, M1): (1,)}},
            ["Zzzz", "Zyyy", "Zinh", "Latn"])
        self.assertEqual(judged(rows), TAKEN)

    def test_the_empty_book(self):
        self.assertEqual(judged(([], [], [], [])), TAKEN)


if __name__ == "__main__":
    unittest.main()
