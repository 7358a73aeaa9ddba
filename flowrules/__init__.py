"""Rules and flows: frames are sorted by rules, and what the rules said is kept flow by flow."""
