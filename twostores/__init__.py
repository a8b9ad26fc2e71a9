"""Two stores one behind another: a storehouse that orders, and a shop that has goods brought from it."""
