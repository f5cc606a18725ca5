"""A typist that learns: words typed on keys with several letters each."""
