"""What a whole hung on: traces of spans, kept or dropped."""
