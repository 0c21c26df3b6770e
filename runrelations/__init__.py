"""Programs and relations between runs, read from texts and asked about by calls."""
