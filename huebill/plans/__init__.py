"""Plans of webs: a kept bill for each group, by which no thing pays more in a greater one."""
