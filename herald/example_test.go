package herald_test

import (
	"fmt"

	"herald/api"
	"herald/herald"
)

func Example() {
	h, _ := herald.New(api.Config{Producers: 2, Parts: 2, Timeout: 5, Backoff: 4})
	epoch, _ := h.Init(0)
	h.Add(0, epoch, 0)
	h.Produce(0, epoch, 0, "a")
	fmt.Println(h.Produce(0, epoch, 1, "b") == api.ErrNot)
	h.End(0, epoch, true)
	h.Crash()
	h.Restart()
	p, _ := h.Producer(0)
	fmt.Println(p.Status == api.Committing, p.Parts, p.Pending)
	h.Tick()
	m, _ := h.Message(0)
	fmt.Println(m.Kind == api.MMarker, m.Part, m.Producer, m.Txn, m.Commit)
	h.Deliver(0)
	h.Deliver(0)
	fmt.Println(h.Producer(0))
	fmt.Println(h.Part(0))
	fmt.Println(h.Fetch(0, 0, 9))
	fmt.Println(len(h.Journal()))
	// Output:
	// true
	// true [0] [0]
	// true 0 0 1 true
	// {1 1 0 [] []} 0
	// {false 2 2 []} 0
	// [{0 0 a}] 0
	// 64
}

func ExampleHerald_Round() {
	h, _ := herald.New(api.Config{Producers: 2, Parts: 2, Timeout: 5, Backoff: 4})
	epoch, _ := h.Init(0)
	h.Add(0, epoch, 0)
	h.Add(0, epoch, 1)
	h.End(0, epoch, true)
	for range 3 {
		arrived := h.Round()
		p, _ := h.Producer(0)
		fmt.Println(arrived, h.Flight(), p.Status == api.Idle)
	}
	// Output:
	// 0 2 false
	// 2 0 true
	// 0 0 true
}
