"""Programs of which it is plain what is to be told, as texts."""

# How many items a list has, counted one by one.
COUNTED = """l list > number : let x call 1 ( l ) tell x
l list > number : if len l 0 0 let z num 0 tell z let t tail l let x call 1 ( t ) let y sum x 1 tell y"""

# A list is gone over by numbers, from 0 to its length, which is told.
GONE_OVER = """l list > number : let i num 0 let x call 1 ( l i ) tell x
l list i number > number : if len l of i 0 tell i let x at l i let j sum i 1 let y call 1 ( l j ) tell y"""

# The same, but it goes one too far.
TOO_FAR = """l list > number : let i num 0 let x call 1 ( l i ) tell x
l list i number > number : if len l of i -1 tell i let x at l i let j sum i 1 let y call 1 ( l j ) tell y"""

# A list of one more than each item.
MORE = """l list > list : let m call 1 ( l ) tell m
l list > list : if len l 0 0 tell l let x head l let t tail l let r call 1 ( t ) let y sum x 1 let m put y r tell m"""

# The least item of a list, which the empty list has not.
LEAST = """l list > number : let x call 1 ( l ) tell x
l list > number : let x head l let t tail l if len t 0 0 tell x let y call 1 ( t ) if of x of y 0 tell x tell y"""

# A list's items in order: function 2 puts a number where it belongs in a list that is in order.
SORTED = """l list > list : let m call 1 ( l ) tell m
l list > list : if len l 0 0 tell l let x head l let t tail l let r call 1 ( t ) let m call 2 ( x r ) tell m
x number l list > list : if len l 0 0 let m put x l tell m let y head l if of x of y 0 let m put x l tell m let t tail l \
let r call 2 ( x t ) let m put y r tell m"""

ALL = {"counted": COUNTED, "gone over": GONE_OVER, "too far": TOO_FAR, "more": MORE, "least": LEAST, "sorted": SORTED}
