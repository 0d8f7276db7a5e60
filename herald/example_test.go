package herald_test

import (
	"fmt"

	"herald/api"
	"herald/herald"
)

func Example() {
	h, _ := herald.New(api.Config{Producers: 2, Parts: 2, Timeout: 5, Backoff: 4})
	epoch, _ := h.Init(0)
	h.Add(0, epoch, 0)
	h.Produce(0, epoch, 0, "a")
	fmt.Println(h.Produce(0, epoch, 1, "b") == api.ErrNot)
	h.End(0, epoch, true)
	h.Crash()
	h.Restart()
	p, _ := h.Producer(0)
	fmt.Println(p.Status == api.Committing, p.Parts, p.Pending)
	fmt.Println(h.Part(0))
	fmt.Println(len(h.Journal()))
	// Output:
	// true
	// true [0] [0]
	// {false 1 0 [0]} 0
	// 48
}
