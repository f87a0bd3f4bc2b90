"""Those who look after others: workers that may die, and keepers that begin them again."""
