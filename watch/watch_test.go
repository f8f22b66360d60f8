package watch

import (
	"math/rand"
	"slices"
	"testing"

	"catena/api"
)

// P24.1: ticks, and who is late.
func TestTick(t *testing.T) {
	w := New()
	if len(w.Late()) != 0 || w.Count(0) != 0 || w.Count(3) != 0 || w.Count(4) != -1 || w.Count(-1) != -1 || w.Count(-1<<63) != -1 {
		t.Error("new")
	}
	for i := 1; i < api.Suspect; i++ {
		if w.Tick() != i || w.Count(2) != i || len(w.Late()) != 0 {
			t.Error(i)
		}
	}
	if !w.Heard(0) || !w.Heard(3) || w.Heard(4) || w.Heard(-1) {
		t.Error("heard")
	}
	if w.Tick() != api.Suspect || !slices.Equal(w.Late(), []int{1, 2}) || w.Count(3) != 1 || w.Count(1) != api.Suspect {
		t.Error(w.Late())
	}
	w.Heard(1)
	if !slices.Equal(w.Late(), []int{2}) {
		t.Error(w.Late())
	}
	w.counts[2].Store(api.MaxNum)
	if w.Tick() != api.Suspect+1 || w.Count(2) != api.MaxNum {
		t.Error("up to MaxNum")
	}
}

// P24.2: those that nobody made.
func TestZero(t *testing.T) {
	for _, w := range []*Watch{nil, new(Watch)} {
		if w.Heard(0) || w.Tick() != 0 || len(w.Late()) != 0 || w.Count(0) != -1 {
			t.Error("not zero")
		}
	}
}

// P24.3: who is heard of in time is never late, who is not is late.
func TestFollows(t *testing.T) {
	r := rand.New(rand.NewSource(24))
	w := New()
	var since [api.MaxReplicas]int
	for range 5000 {
		if r.Intn(2) == 0 {
			id := r.Intn(api.MaxReplicas)
			w.Heard(id)
			since[id] = 0
		} else {
			w.Tick()
			for id := range since {
				since[id]++
			}
		}
		for id, n := range since {
			if slices.Contains(w.Late(), id) != (n >= api.Suspect) {
				t.Fatal(id, n, w.Late())
			}
		}
	}
}
