"""A hoard of coins: the orders in which they can have been struck."""
