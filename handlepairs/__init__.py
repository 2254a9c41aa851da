"""Fields of skins paired over their edges, counted by marks."""
