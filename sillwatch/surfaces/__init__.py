"""What a program paints into and shows."""
