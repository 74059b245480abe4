"""Windows and popups: their frames, their places, and what programs ask for and are told of them."""
