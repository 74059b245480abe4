"""The objects of a program: their interfaces, their numbers and the requests to them."""
