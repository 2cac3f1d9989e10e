"""Machines that are ready, and the forms of their codes."""

# The adder loads, adds and takes away the words of a file. The jumper guesses that it goes on with the next word, and
# takes that back where it jumps.
MACHINES = {
    "counter": """machine counter
reg n 8;
at 0:
  let now = n;
  n := now + 1w8;
""",
    "adder": """machine adder
reg pc 4;
file words 2 8;
rom code 4 12;
at 0:
  let here = pc;
  pc := here + 1w4;
at 1:
  let word = code[here];
  let kind = part(word, 10, 11);
at 2:
  let one = words[part(word, 6, 7)];
  let other = words[part(word, 4, 5)];
at 3:
  let result = kind == 1w2 ? part(word, 0, 7) : kind == 2w2 ? one + other : one - other;
  words[part(word, 8, 9)] := result when ~(kind == 0w2);
""",
    "jumper": """machine jumper
reg pc 4;
reg count 8;
rom code 4 10;
at 0:
  let here = pc;
  guess pc = here + 1w4;
at 1:
  let word = code[here];
  let kind = part(word, 8, 9);
  let low = part(word, 0, 7);
at 2:
  let old = count;
  let jumps = kind == 3w2 & ~(old == 0w8);
  let new = kind == 1w2 ? low : kind == 2w2 ? old + low : jumps ? old - 1w8 : old;
  pc := jumps ? part(word, 0, 3) : here + 1w4;
  count := new;
""",
}
FORMS = {
    "counter": "",
    "adder": """rest = 0w12;
load = 1w2, to:2, value:8;
add = 2w2, to:2, one:2, other:2, 0w4;
take = 3w2, to:2, one:2, other:2, 0w4;
""",
    "jumper": """rest = 0w10;
load = 1w2, value:8;
add = 2w2, value:8;
loop = 3w2, 0w4, to:4;
""",
}


def machine_text(name):
    """The text of the machine with a name."""
    return MACHINES[name]


def forms_text(name):
    """The text of the forms of the codes of the machine with a name; it is empty if there are none."""
    return FORMS[name]
