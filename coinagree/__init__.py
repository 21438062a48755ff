"""Yes or no, agreed by coins: one node, letters in and letters out."""
