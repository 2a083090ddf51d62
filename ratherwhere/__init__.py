"""Who'd rather go where: people in groups, and what each is worth to each other one."""
