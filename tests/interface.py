"""What the document's interface lists so far: files, names and parameters."""

FUNCTIONS = {
    "basics": {"is_integer": ["value"], "is_count": ["value"]},
    "words": {"is_word": ["letters", "value"], "first_words": ["letters", "length"]},
    "machines": {
        "lets": ["machine", "word"], "is_empty": ["machine"], "shortest": ["machine"],
        "words_of": ["machine", "length"],
    },
    "makings": {
        "of_words": ["letters", "words"], "joined": ["machine", "other"], "met": ["machine", "other"],
        "without": ["machine", "other"], "behind": ["machine", "other"], "rounds": ["machine"],
        "is_within": ["machine", "other"], "parting": ["machine", "other"],
    },
    "tables": {
        "class_of": ["table", "word"], "product": ["table", "one", "other"], "passed": ["table", "position"],
    },
    "lots": {
        "widened": ["table", "machine"], "lot_machine": ["table", "lot"], "behind_lots": ["table", "lot", "other"],
        "rounds_lot": ["table", "lot"], "rest_behind": ["table", "lot", "other"],
        "rest_ahead": ["table", "lot", "other"],
    },
    "pairs": {
        "pairs": ["table", "position"], "is_pair": ["table", "position", "value"],
        "pair_over": ["table", "position", "lot"], "first_pair": ["table", "position"],
        "last_pair": ["table", "position"],
    },
    "middles": {
        "middle": ["table", "position", "near", "far"], "middles": ["table", "position"],
        "joined_fillings": ["table", "position", "many"], "way_of": ["table", "position", "lots"],
        "is_way": ["table", "position", "lots", "value"],
    },
    "patterns": {
        "is_pattern": ["letters", "value"], "names_of": ["letters", "pattern"],
        "made": ["letters", "pattern", "filling"], "made_lot": ["table", "pattern", "lots"],
        "is_mixed": ["letters", "pattern", "value"], "are_alike": ["letters", "pattern", "other"],
        "mixed_parting": ["letters", "pattern", "other"],
    },
    "readings": {
        "read_word": ["reading"], "is_reading": ["letters", "pattern", "filling", "value"],
        "stays_within": ["table", "position", "pattern", "lots"], "outside": ["table", "position", "pattern", "lots"],
        "is_outside": ["table", "position", "pattern", "lots", "value"],
    },
    "greatest": {
        "is_right": ["table", "sayings", "lots"], "greatest": ["table", "many", "sayings"],
        "is_greatest": ["table", "many", "sayings", "value"], "above": ["table", "many", "sayings", "lots"],
        "growing_break": ["table", "sayings", "lots", "name", "one"],
        "is_growing_break": ["table", "sayings", "lots", "name", "one", "value"],
    },
    "bounds": {
        "bounded": ["table", "many", "sayings", "least", "most"],
        "fits": ["table", "sayings", "least", "most", "lots"],
    },
    "mades": {
        "is_made": ["table", "position", "pattern"], "making": ["table", "position", "pattern"],
        "is_making": ["table", "position", "pattern", "value"], "lost": ["table", "position", "pattern", "lots"],
        "losses": ["table", "position", "pattern"], "is_losses": ["table", "position", "pattern", "value"],
    },
    "roots": {
        "is_round": ["machine"], "root": ["machine"], "is_root": ["machine", "other"],
        "power_lots": ["table", "position", "many"],
    },
    "guessers": {
        "tells": ["guesser"], "is_of_use": ["guesser"], "of_use": ["guesser"], "merged": ["guesser", "near", "far"],
    },
    "universals": {
        "universal": ["table", "position"], "part": ["table", "position", "places"],
        "map_to": ["table", "position", "guesser"], "is_map": ["table", "position", "guesser", "value"],
    },
    "fewest": {
        "fewest": ["table", "position"], "least_guesser": ["table", "position"],
        "fewest_places": ["table", "position"], "lost_by": ["table", "position", "places"],
    },
    "views": {
        "readings_of": ["views", "word"], "opened": ["views", "machine"], "is_sure": ["machine", "views", "word"],
        "leaving": ["machine", "views", "word"], "is_leaving": ["machine", "views", "word", "value"],
    },
    "answers": {
        "answer": ["machine", "views"], "is_exact": ["machine", "views"], "lost_word": ["machine", "views"],
        "needless": ["machine", "views"],
    },
    "texts": {
        "word_text": ["letters", "word"], "machine_text": ["machine"], "pattern_text": ["letters", "pattern"],
        "lots_text": ["table", "lots"], "guesser_text": ["guesser"], "views_text": ["views"],
    },
    "readers": {
        "parse_word": ["letters", "text"], "parse_machine": ["text"], "parse_pattern": ["letters", "text"],
        "parse_lots": ["table", "text"], "parse_guesser": ["text"], "parse_views": ["text"],
    },
    "claims": {
        "claim_words": [], "is_claim": ["value"], "is_true": ["claim"], "contrary": ["claim"], "paper_of": ["claim"],
        "is_paper_of": ["claim", "value"],
    },
    "commands": {"is_name": ["value"], "is_command": ["value"], "is_deed": ["value"]},
    "desk": {"tried": ["desk", "action"]},
}

CLASSES = {
    "machines": {"Machine": (["letters", "steps", "ends"], ["letters", "states"], ["steps", "ends", "__eq__"])},
    "tables": {"Table": (["machines"], ["letters", "classes"], ["machines", "words", "__eq__"])},
    "guessers": {
        "Guesser": (["letters", "steps", "begins", "ends"], ["letters", "states"], ["steps", "begins", "ends", "__eq__"]),
    },
    "desk": {
        "Desk": ([], ["names", "labels"], [
            "__len__", "__getitem__", "__contains__", "__call__", "claim_of", "do", "do_all", "attempt", "attach", "fits",
            "lines", "copy", "again"]),
        "Trial": (["desk"], [], ["__enter__", "__exit__"]),
    },
}

# The parameters of the methods of a Desk that have any, behind the desk itself.
DESK_METHODS = {
    "claim_of": ["label"], "do": ["command"], "__call__": ["command"], "do_all": ["commands"], "attempt": ["commands"],
    "attach": ["label", "paper"], "fits": ["label"], "lines": [], "copy": [], "again": ["lines"],
}

ERRORS = {
    ("FillError", "ValueError"): {
        "InvalidClass": ["value"], "InvalidFilling": ["value"], "InvalidGuesser": ["value"],
        "InvalidLetters": ["value"], "InvalidLot": ["value"], "InvalidMachine": ["value"], "InvalidMany": ["value"],
        "InvalidPattern": ["value"], "InvalidPosition": ["value"], "InvalidSayings": ["value"],
        "InvalidTable": ["value"], "InvalidViews": ["value"], "InvalidWord": ["value"], "InvalidBegins": ["value"],
        "InvalidClaim": ["value"], "InvalidCommand": ["value"], "InvalidDeeds": ["position"],
        "InvalidEnds": ["value"], "InvalidLeast": ["value"], "InvalidLength": ["value"],
        "InvalidMachines": ["value"], "InvalidMost": ["value"], "InvalidName": ["value"], "InvalidPair": ["value"],
        "InvalidPaper": ["value"], "InvalidPlaces": ["value"], "InvalidReading": ["value"],
        "InvalidState": ["value"], "InvalidSteps": ["value"], "InvalidText": ["position"], "InvalidWords": ["value"],
    },
    ("MissingError", "LookupError"): {"UnknownLabel": ["value"], "UnknownName": ["value"]},
    ("StateError", "RuntimeError"): {
        "UnlikeLetters": [], "CommandFailed": ["position"], "LabelTaken": ["label"], "NameTaken": ["name"],
        "NoneThere": [], "NotOfUse": [], "NotTold": [], "NothingToRedo": [], "NothingToUndo": [],
    },
    ("LimitError", "ArithmeticError"): {"TooMany": ["what", "limit"]},
}
