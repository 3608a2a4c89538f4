"""The names and arguments of the interface, as far as the program has been written."""

FUNCTIONS = {
    "meridian.wire.varints": {
        "encode_number": "(number)",
        "decode_number": "(block, at=0)",
        "encode_signed": "(number)",
        "decode_signed": "(block, at=0)",
        "encode_flag": "(flag)",
        "decode_flag": "(block, at=0)",
        "encode_value": "(value)",
        "decode_value": "(block, at=0)",
    },
    "meridian.wire.texts": {
        "encode_text": "(text)",
        "decode_text": "(block, at=0)",
        "encode_texts": "(texts)",
        "decode_texts": "(block, at=0)",
    },
    "meridian.wire.seals": {
        "checksum": "(block)",
        "seal": "(block)",
        "open_seal": "(block)",
    },
    "meridian.clocks.spans": {
        "common_span": "(spans)",
    },
}

ERRORS = ("MeridianError", "BadArgument", "BadBytes", "BadSeal", "Refused")

# A method has its arguments, a property the word "property".
CLASSES = {
    "meridian.clocks.spans": {
        "Span": {
            "__init__": "(self, low, high)",
            "__contains__": "(self, time)",
            "is_past": "(self, time)",
            "is_ahead": "(self, time)",
            "is_before": "(self, other)",
        },
    },
}
