package agree

import (
	"math/rand"
	"testing"

	"catena/api"
)

func pins(at ...uint64) []api.Pin {
	var l []api.Pin
	for i, t := range at {
		l = append(l, api.Pin{Id: i + 1, At: t, Left: 1})
	}
	return l
}

// P26.1: the least one, and the horizon.
func TestHorizon(t *testing.T) {
	if n, ok := Least([]uint64{7, 3, api.MaxTs}); n != 3 || !ok {
		t.Error(n)
	}
	if n, ok := Least(nil); n != 0 || ok {
		t.Error("nothing")
	}
	for i, x := range []struct {
		old   uint64
		marks []uint64
		pins  []api.Pin
		want  uint64
	}{{3, []uint64{9, 7}, pins(4), 4}, {3, []uint64{9, 7}, nil, 5}, {6, []uint64{9, 7}, nil, 6}, {3, nil, pins(9), 3}, {0, []uint64{1}, nil, 0}, {0, []uint64{0, 9}, nil, 0}, {0, []uint64{2}, nil, 0}, {0, []uint64{3}, nil, 1}, {5, []uint64{9}, pins(4, 8), 5}, {0, []uint64{api.MaxTs}, pins(api.MaxTs), api.MaxTs - 2}, {7, []uint64{9}, pins(0), 7}} {
		if got := Horizon(x.old, x.marks, x.pins); got != x.want {
			t.Errorf("%d: %d", i, got)
		}
	}
}

// P26.2: it never goes back, is above no mark and no pin, hangs on no order, and rises with what rises.
func TestFollows(t *testing.T) {
	r := rand.New(rand.NewSource(25))
	for range 5000 {
		old := uint64(r.Intn(12))
		var marks, at []uint64
		for range 1 + r.Intn(4) {
			marks = append(marks, uint64(r.Intn(12)))
		}
		for range r.Intn(4) {
			at = append(at, uint64(r.Intn(12)))
		}
		h := Horizon(old, marks, pins(at...))
		if h < old {
			t.Fatal("goes back")
		}
		for _, x := range append(append([]uint64{}, marks...), at...) {
			if h > x && old <= x {
				t.Fatal(old, marks, at, h)
			}
		}
		later := append([]uint64{}, marks...)
		later[r.Intn(len(later))]++
		if Horizon(old, later, pins(at...)) < h || len(at) > 0 && Horizon(old, marks, pins(at[1:]...)) < h {
			t.Fatal("less")
		}
		r.Shuffle(len(marks), func(i, k int) { marks[i], marks[k] = marks[k], marks[i] })
		r.Shuffle(len(at), func(i, k int) { at[i], at[k] = at[k], at[i] })
		if Horizon(old, marks, pins(at...)) != h {
			t.Fatal("order")
		}
	}
}
