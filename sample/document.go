package sample

// Document is the document's text of a world.
const Document = `world 24 2 0 1
clay 1 1 16
make node 1 1 2
make space 1 1 3
make table 1 1 4
make page 1 2 5
make task 1 2 7
make door 1 1 9
copy 9 10 3 5
enter 2 0 3 0
enter 2 0 4 1
code 4
set r1 9
set r2 7
sys 1
jump 0
.
equip 6 0 2 - 0 1 0
equip 7 0 2 8 1 1 0
start 6
start 7
`
