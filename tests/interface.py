"""The names and arguments of the document's interface, file by file."""

INTERFACE = {
    "masks.py": {"seen": ["mask"], "together": ["one", "other", "far"]},
    "views.py": {
        "views": ["row", "mask"], "tells": ["row", "mask"], "alike": ["row", "mask"],
        "groups": ["row", "mask"], "distance": ["row", "mask"],
        "stands": ["row", "mask", "wrong", "covered"],
    },
    "finding.py": {
        "find": ["row", "mask", "told"], "near": ["row", "mask", "told", "wrong"],
        "steps_needed": ["row", "mask"],
    },
    "longest.py": {
        "longest": ["mask", "letters"], "longest_rows": ["mask", "letters"],
        "count_rows": ["mask", "letters", "length"], "next_letters": ["row", "mask", "letters"],
        "farthest": ["row", "mask", "letters"],
    },
    "rings.py": {
        "ring_views": ["row", "mask"], "ring_tells": ["row", "mask"],
        "longest_ring": ["mask", "letters"], "full_rings": ["mask", "letters"],
    },
    "choosing.py": {"best_masks": ["many", "width", "letters"], "least_masks": ["row", "width"]},
    "joining.py": {
        "joined": ["mask", "views"], "first_clash": ["mask", "views"],
        "rows_from": ["mask", "views"], "sure_from": ["mask", "views"],
    },
    "mending.py": {"mend": ["row", "mask", "letters"], "weak_letters": ["row", "mask", "letters"]},
    "trackers.py": {},
    "texts.py": {"write": ["mask", "row"], "read": ["text"]},
    "both.py": {
        "both_views": ["row", "mask"], "both_alike": ["row", "mask"],
        "both_find": ["row", "mask", "told"],
    },
    "apart.py": {
        "longest_apart": ["mask", "letters", "far"], "apart_rows": ["mask", "letters", "far"],
    },
    "unread.py": {
        "fill_counts": ["pattern", "mask", "letters"], "first_filling": ["pattern", "mask", "letters"],
        "sure_letters": ["pattern", "mask", "letters"],
    },
    "moves.py": {
        "starts_by": ["row", "mask", "looks", "steps"], "steps_tell": ["row", "mask", "steps"],
        "strided": ["row", "mask", "step"],
    },
    "endless.py": {
        "first_again": ["row", "mask"], "told_to": ["row", "mask"],
        "view_far": ["row", "mask", "place"],
    },
}
# The methods of each class, with the arguments that stand behind the object itself.
CLASSES = {
    "trackers.py": {
        "Tracker": {
            "__init__": ["row", "mask"], "row": [], "mask": [], "seen": [], "see": ["view"],
            "starts": [], "places": [], "undo": [], "copy": [], "__len__": [],
        },
    },
}
# Each function's arguments.
ARGUMENTS = {
    name: arguments for functions in INTERFACE.values() for name, arguments in functions.items()}
