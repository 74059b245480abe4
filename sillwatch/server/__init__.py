"""The server: programs in their slots, and what the operator and the users do."""
