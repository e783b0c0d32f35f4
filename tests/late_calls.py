"""One call or more of each function of offices, joins, rents, judge, texts and desk, the arguments by their names."""

CHART = (("a", "b"), ((("a", False), ("b", True)),))
OPEN = (("a", "b"), ())
ALL, NONE, IN_A, IN_B, OUT = ((),), (), ((("a", True),),), ((("b", True),),), ((("a", False),), (("b", False),))
OFFICES = (("a",), ("b",), ())
DEEDS = (("vest", "ann", IN_B), ("give", "ann", "bob", IN_A), ("swap", "bob", "cid", OUT))
ROW = DEEDS + (("way", IN_A, ALL), ("charge", "debt", IN_A), ("yield", "debt", "loan", IN_B),
               ("whole", "ann", "cid", IN_B))
ASKED, BOOK = ("owner", DEEDS), (("vest", "ann", IN_A), ("whole", "ann", "bob", ALL))
FROM = ("from", "ann", DEEDS)
WORLD = ((("a",), 3, "ann"), (("a", "b"), 10 ** 30, "bob"), ((), 1, "ann"))
ONE, OTHER = (("give", "ann", "bob", IN_A),), (("give", "ann", "cid", IN_B),)
APART = (("a", "b"), ((("a", True), ("b", True)),))
PARCELS = (("east", IN_A), ("west", ((("a", False),),)))
RENT, FLAT = ((IN_A, 3), (IN_B, -4)), ((ALL, 1),)
SIZES = ((IN_A, 3), (IN_B, 5))
PROMISES = (("none", IN_A), ("none", ()), ("within", IN_B, IN_A), ("parcels", PARCELS), ("has", DEEDS, "ann", IN_B),
            ("owners", BOOK, DEEDS), ("let", BOOK, 1), ("go", DEEDS + ROW[3:4], IN_A, ALL),
            ("no way", ROW[3:4], IN_B, NONE),
            ("ahead", ROW, "debt", "loan", ALL), ("rent", RENT, FLAT, 2), ("rent", RENT, RENT, 0),
            ("let", BOOK[:1] + (("whole", "ann", "bob", IN_B),), 1))
WRONG = (("let", BOOK, 0), ("ahead", (), "x", "x", ALL), ("none", ((("c", True),),)), ("go", BOOK, ALL, ALL))
LINES = ("give / ann / bob / -a a+-b", "way / * / -", "whole / ann / bob / a")

IN_OFFICES = (
    ("is_offices", {"chart": CHART, "thing": OFFICES}),
    ("is_offices", {"chart": CHART, "thing": (["a"], ())}),
    ("is_question", {"chart": CHART, "thing": ASKED}),
    ("is_question", {"chart": CHART, "thing": ["in", IN_A]}),
    ("answer_at", {"question": ASKED, "spot": ("a", "b")}),
    ("answer_at", {"question": FROM, "spot": ("a",)}),
    ("answer_at", {"question": ("in", OUT), "spot": ("a",)}),
    ("view", {"offices": OFFICES, "office": 1, "spot": ("a", "b")}),
    ("view", {"offices": OFFICES, "office": 3, "spot": ("a", "b")}),
    ("is_own", {"chart": CHART, "offices": OFFICES, "office": 0, "question": FROM}),
    ("is_own", {"chart": CHART, "offices": OFFICES, "office": -1, "question": FROM}),
    ("own_offices", {"chart": CHART, "offices": OFFICES, "question": ("in", IN_A)}),
    ("own_land", {"chart": CHART, "offices": OFFICES, "office": 0, "question": ASKED}),
    ("own_land", {"chart": CHART, "offices": OFFICES, "office": 7, "question": ASKED}),
    ("office_paper", {"chart": CHART, "offices": OFFICES, "office": 0, "question": ASKED}),
    ("office_paper", {"chart": CHART, "offices": OFFICES, "office": 0, "question": ("in", IN_A)}),
    ("office_paper", {"chart": CHART, "offices": OFFICES, "office": 5, "question": ("in", IN_A)}),
    ("is_office_paper", {"chart": CHART, "offices": OFFICES, "office": 0, "question": ASKED, "thing": WORLD[:2]}),
    ("is_office_paper", {"chart": CHART, "offices": OFFICES, "office": 0, "question": ASKED, "thing": list(WORLD[:2])}),
    ("is_enough", {"chart": CHART, "offices": OFFICES, "office": 0, "question": ASKED, "names": ("b",)}),
    ("is_enough", {"chart": CHART, "offices": OFFICES, "office": 0, "question": ASKED, "names": ("b", "x", "y")}),
    ("fewest_asks", {"chart": CHART, "offices": OFFICES, "office": 1, "question": ASKED}),
    ("needed_asks", {"chart": CHART, "offices": OFFICES, "office": 2, "question": FROM}),
    ("asks_behind", {"chart": CHART, "question": ASKED, "condition": (("a", True),)}),
    ("asks_behind", {"chart": CHART, "question": FROM, "condition": ()}),
    ("next_ask", {"chart": CHART, "question": ASKED, "condition": (("a", True),)}),
    ("next_ask", {"chart": CHART, "question": ASKED, "condition": (("a", False), ("b", True))}),
    ("most_asks", {"chart": CHART, "offices": OFFICES, "office": 2, "question": FROM}),
    ("are_together", {"chart": CHART, "offices": OFFICES, "some": (0, 1), "question": FROM}),
    ("are_together", {"chart": CHART, "offices": OFFICES, "some": (-1, 3), "question": FROM}),
    ("fewest_offices", {"chart": CHART, "offices": OFFICES, "question": FROM}),
    ("fewest_offices", {"chart": CHART, "offices": OFFICES[2:], "question": FROM}),
    ("knows_as_much", {"chart": CHART, "offices": OFFICES, "office": 0, "other": 2}),
    ("knows_as_much", {"chart": CHART, "offices": OFFICES, "office": 4, "other": 3}),
    ("fewest_signs", {"chart": CHART, "offices": OFFICES, "office": 1, "other": 0, "question": FROM}),
    ("fewest_signs", {"chart": CHART, "offices": OFFICES, "office": 2, "other": 0, "question": FROM}),
    ("a_letter", {"chart": CHART, "offices": OFFICES, "office": 1, "other": 0, "question": FROM}),
    ("a_letter", {"chart": CHART, "offices": OFFICES, "office": 2, "other": 0, "question": FROM}),
    ("is_letter", {"chart": CHART, "offices": OFFICES, "office": 1, "other": 0, "question": FROM,
                   "thing": (((), 0), (("b",), 1))}),
    ("is_letter", {"chart": CHART, "offices": OFFICES, "office": 1, "other": 0, "question": FROM,
                   "thing": [((), 0), (("b",), 1)]}),
    ("home_offices", {"chart": CHART, "offices": OFFICES, "deed": ROW[3]}),
)

IN_JOINS = (
    ("turned_land", {"chart": OPEN, "start": DEEDS[:1], "one": ONE}),
    ("parting_land", {"chart": OPEN, "start": DEEDS[:1], "one": ONE, "other": OTHER}),
    ("clash_land", {"chart": OPEN, "start": (), "one": ONE, "other": OTHER}),
    ("are_joinable", {"chart": APART, "start": (), "one": ONE, "other": OTHER}),
    ("joined_owner", {"chart": OPEN, "start": (), "one": ONE, "other": OTHER, "spot": ("b",), "first": "ann"}),
    ("joined_owner", {"chart": OPEN, "start": (), "one": ONE, "other": OTHER, "spot": ("a", "b"), "first": "ann"}),
    ("joined_owner", {"chart": APART, "start": (), "one": ONE, "other": OTHER, "spot": ("b", "a"), "first": "ann"}),
    ("joined_in", {"chart": OPEN, "start": (), "one": ONE, "other": OTHER, "world": WORLD}),
    ("clash_paper", {"chart": OPEN, "start": (), "one": ONE, "other": OTHER}),
    ("clash_paper", {"chart": APART, "start": (), "one": ONE, "other": OTHER}),
    ("is_clash_paper", {"chart": OPEN, "start": (), "one": ONE, "other": OTHER, "thing": ((("a", "b"), 1, "ann"),)}),
    ("is_clash_paper", {"chart": OPEN, "start": (), "one": ONE, "other": OTHER, "thing": ([("a", "b"), 1, "ann"],)}),
    ("unlike_behind", {"chart": OPEN, "start": (), "one": ONE, "other": (("give", "bob", "cy", IN_A),)}),
    ("joinable_lots", {"chart": APART, "start": (), "books": (ONE, OTHER, (("give", "ann", "eve", IN_A),))}),
    ("joinable_lots", {"chart": APART, "start": DEEDS, "books": ()}),
    ("can_be_written", {"chart": OPEN, "start": (), "one": (("give", "cy", "ann", IN_A),), "other": ONE}),
    ("written_join", {"chart": APART, "start": (), "one": ONE, "other": OTHER + DEEDS[2:]}),
    ("written_join", {"chart": OPEN, "start": (), "one": (("give", "cy", "ann", IN_A),), "other": ONE}),
    ("written_join", {"chart": OPEN, "start": (), "one": (), "other": DEEDS}),
    ("is_written_join", {"chart": APART, "start": (), "one": ONE, "other": OTHER, "thing": OTHER}),
    ("is_written_join", {"chart": APART, "start": (), "one": ONE, "other": OTHER, "thing": list(OTHER)}),
)

IN_RENTS = (
    ("is_rent", {"chart": CHART, "thing": RENT}),
    ("is_rent", {"chart": CHART, "thing": ([IN_A, 3],)}),
    ("is_sizes", {"chart": CHART, "thing": SIZES}),
    ("is_sizes", {"chart": CHART, "thing": list(SIZES)}),
    ("rate_at", {"rent": RENT, "spot": ("a", "b")}),
    ("rent_in", {"rent": RENT, "world": WORLD}),
    ("plan_rent", {"parcels": PARCELS, "rates": (("east", 3), ("west", -1))}),
    ("plan_rent", {"parcels": PARCELS, "rates": (("east", 3), ("fen", 1), ("moor", 1))}),
    ("never_less", {"chart": CHART, "one": RENT, "other": FLAT, "number": 2}),
    ("less_paper", {"chart": CHART, "one": RENT, "other": FLAT, "number": 2}),
    ("less_paper", {"chart": CHART, "one": RENT, "other": RENT, "number": 0}),
    ("less_paper", {"chart": CHART, "one": RENT, "other": RENT, "number": -1}),
    ("is_less_paper", {"chart": CHART, "one": RENT, "other": FLAT, "number": 2, "thing": WORLD}),
    ("is_less_paper", {"chart": CHART, "one": RENT, "other": FLAT, "number": 2, "thing": list(WORLD)}),
    ("either_way", {"chart": CHART, "one": RENT, "other": FLAT}),
    ("neither_paper", {"chart": OPEN, "one": RENT, "other": ((IN_A, -4), (IN_B, 3))}),
    ("neither_paper", {"chart": CHART, "one": RENT, "other": FLAT}),
    ("is_neither_paper", {"chart": OPEN, "one": RENT, "other": ((IN_B, -1),), "thing": WORLD}),
    ("has_sizes", {"sizes": ((IN_B, 10 ** 30),), "world": WORLD}),
    ("can_have", {"chart": CHART, "sizes": SIZES}),
    ("can_have", {"chart": OPEN, "sizes": SIZES}),
    ("greatest_size", {"chart": OPEN, "sizes": SIZES, "cut": ((("a", True), ("b", True)),)}),
    ("greatest_size", {"chart": OPEN, "sizes": SIZES, "cut": ALL}),
    ("greatest_size", {"chart": CHART, "sizes": SIZES, "cut": ALL}),
    ("least_size", {"chart": OPEN, "sizes": SIZES, "cut": OUT}),
    ("least_size", {"chart": CHART, "sizes": SIZES, "cut": OUT}),
    ("great_world", {"chart": OPEN, "sizes": SIZES, "cut": IN_A}),
    ("great_world", {"chart": OPEN, "sizes": SIZES, "cut": OUT}),
    ("great_world", {"chart": CHART, "sizes": SIZES, "cut": OUT}),
    ("small_world", {"chart": OPEN, "sizes": SIZES, "cut": ALL}),
    ("small_world", {"chart": CHART, "sizes": SIZES, "cut": ALL}),
)

IN_JUDGE = (
    *[("is_promise", {"chart": CHART, "thing": promise}) for promise in PROMISES + WRONG],
    ("is_promise", {"chart": CHART, "thing": list(PROMISES[0])}),
    *[(name, {"chart": CHART, "promise": promise}) for promise in PROMISES + WRONG
      for name in ("holds", "a_paper", "paper_size", "surveys_under", "fewest_surveys", "deeds_under")],
    *[("is_paper", {"chart": CHART, "promise": promise, "thing": WORLD}) for promise in PROMISES + WRONG],
    ("is_paper", {"chart": CHART, "promise": PROMISES[0], "thing": list(WORLD)}),
    *[("wanted_points", {"chart": CHART, "promise": promise, "world": WORLD}) for promise in PROMISES + WRONG],
    *[("is_cut_paper", {"chart": CHART, "promise": promise, "world": WORLD, "place": place})
      for promise in PROMISES + WRONG[:1] for place in (0, 2, 3, -1)],
    ("what_falls", {"chart": CHART, "condition": CHART[1][0], "promises": PROMISES}),
    ("what_falls", {"chart": CHART, "condition": (("a", True),), "promises": PROMISES}),
    ("what_falls", {"chart": CHART, "condition": CHART[1][0], "promises": WRONG}),
)

IN_TEXTS = (
    ("cut_text", {"cut": OUT}),
    ("cut_text", {"cut": ()}),
    ("land_text", {"land": ((), ("a",), ("a", "b"))}),
    ("map_text", {"chart": CHART}),
    ("history_text", {"history": ROW}),
    ("world_text", {"world": WORLD}),
    ("read_map", {"text": "a b / -a+b"}),
    ("read_map", {"text": "a b / -a+b / a"}),
    ("read_cut", {"chart": CHART, "text": "-a a+-b"}),
    ("read_cut", {"chart": CHART, "text": "-a a+-c"}),
    ("read_land", {"chart": CHART, "text": "* a+b"}),
    ("read_land", {"chart": CHART, "text": "* b"}),
    ("read_world", {"chart": CHART, "text": "* 1 ann / a+b 7 bob"}),
    ("read_world", {"chart": CHART, "text": "* 1 ann / b 7 bob"}),
    ("read_history", {"chart": CHART, "text": "\n".join(LINES)}),
    ("read_history", {"chart": CHART, "text": "\n".join(LINES + ("",))}),
)

IN_DESK = (
    ("is_request", {"thing": "keep a a+-b"}),
    ("is_request", {"thing": ["undo"]}),
    ("replies", {"areas": ("a", "b"),
                 "text": "write " + "\nwrite ".join(LINES) + "\npoint a 7 ann\nowners\nworld\nkept"}),
    ("replies", {"areas": ("a", "b"), "text": "chart\nlook"}),
    ("replies", {"areas": (), "text": ""}),
)
