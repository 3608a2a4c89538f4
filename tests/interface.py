"""The names and arguments of the interface, as far as the program has been written."""

FUNCTIONS = {
    "meridian.wire.varints": {
        "encode_number": "(number)",
        "decode_number": "(block, at=0)",
        "encode_signed": "(number)",
        "decode_signed": "(block, at=0)",
        "encode_flag": "(flag)",
        "decode_flag": "(block, at=0)",
        "encode_value": "(value)",
        "decode_value": "(block, at=0)",
    },
    "meridian.wire.texts": {
        "encode_text": "(text)",
        "decode_text": "(block, at=0)",
        "encode_texts": "(texts)",
        "decode_texts": "(block, at=0)",
    },
    "meridian.wire.seals": {
        "checksum": "(block)",
        "seal": "(block)",
        "open_seal": "(block)",
    },
    "meridian.clocks.spans": {
        "common_span": "(spans)",
    },
    "meridian.storage.frames": {
        "encode_frame": "(block)",
        "decode_frame": "(block, at=0)",
        "decode_frames": "(block)",
    },
    "meridian.storage.records": {
        "encode_record": "(record)",
        "decode_record": "(block)",
        "record_time": "(record)",
        "record_keys": "(record)",
        "latest_time": "(records)",
    },
    "meridian.storage.notes": {
        "encode_note": "(note)",
        "decode_note": "(block)",
        "replay": "(notes)",
    },
}

ERRORS = ("MeridianError", "BadArgument", "BadBytes", "BadSeal", "Refused")

# A method has its arguments, a property the word "property".
CLASSES = {
    "meridian.clocks.spans": {
        "Span": {
            "__init__": "(self, low, high)",
            "__contains__": "(self, time)",
            "is_past": "(self, time)",
            "is_ahead": "(self, time)",
            "is_before": "(self, other)",
        },
    },
    "meridian.clocks.clocks": {
        "Clock": {
            "__init__": "(self, bound)",
            "drift": "(self, offset)",
            "span": "(self, now)",
            "wait_for": "(self, time, *, now)",
        },
    },
    "meridian.storage.disks": {
        "Disk": {
            "__init__": "(self)",
            "kept": "(self)",
            "loose": "(self)",
            "size": "property",
            "write": "(self, block)",
            "sync": "(self)",
            "mend": "(self)",
            "crash": "(self, *, keep=0, last=None)",
            "frames": "(self)",
        },
    },
    "meridian.storage.journals": {
        "Journal": {
            "__init__": "(self)",
            "term": "property",
            "vote": "property",
            "promise": "property",
            "__len__": "(self)",
            "entries": "(self)",
            "entry": "(self, index)",
            "last_term": "property",
            "set_ballot": "(self, term, vote)",
            "make_promise": "(self, until)",
            "put_entry": "(self, index, term, record)",
            "sync": "(self)",
            "crash": "(self, *, keep=0, last=None)",
            "safe_ballot": "property",
            "safe_promise": "property",
            "safe_length": "property",
            "loose_size": "property",
            "notes": "(self)",
        },
    },
}
