"""Documents: texts that are edited while the matches of their patterns are kept."""
