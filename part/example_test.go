package part_test

import (
	"fmt"

	"herald/part"
)

func Example() {
	l := part.New()
	l.Open(0, 1)
	l.Open(1, 1)
	l.Append(0, 1, "a")
	l.Append(1, 1, "b")
	l.Close(1, 1, true)
	fmt.Println(l.Opened(), l.Stable(), l.Fetch(0, 9))
	l.Close(0, 1, false)
	fmt.Println(l.Opened(), l.Stable(), l.Fetch(0, 9))
	// Output:
	// [0] 0 []
	// [] 4 [{1 1 b}]
}
