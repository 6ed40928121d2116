"""Arms told in words: read strictly, written in one form, held to the old rule of colours, drawn cell by cell."""
