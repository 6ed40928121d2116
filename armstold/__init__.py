"""Arms told in words: read strictly and held to the old rule of colours."""
