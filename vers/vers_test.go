package vers

import (
	"math/rand"
	"slices"
	"testing"

	"catena/api"
)

func cells(ts ...uint64) []api.Cell {
	var l []api.Cell
	for _, t := range ts {
		l = append(l, api.Cell{Ts: t, Val: string([]byte{'a' + byte(t%26)})})
	}
	return l
}

// P14.1: which lists are right, and what can be put.
func TestPut(t *testing.T) {
	for _, x := range []struct {
		l    []api.Cell
		want bool
	}{{nil, true}, {cells(1), true}, {cells(0), false}, {cells(3, 7, api.MaxTs), true}, {cells(3, 3), false}, {cells(7, 3), false}, {cells(0, 1), false}} {
		if Right(x.l) != x.want {
			t.Error(x.l)
		}
	}
	for _, x := range []struct {
		l  []api.Cell
		ts uint64
		e  api.Errno
	}{{nil, 0, api.ErrRange}, {nil, 1, api.OK}, {cells(3), 3, api.ErrOrder}, {cells(3), 2, api.ErrOrder}, {cells(3), 4, api.OK}, {cells(api.MaxTs), api.MaxTs, api.ErrOrder}, {cells(9, 3), 5, api.OK}, {cells(5), 0, api.ErrRange}} {
		before := slices.Clone(x.l)
		c := api.Cell{Ts: x.ts, Val: "v"}
		l, e := Put(x.l, c)
		if e != x.e || e != api.OK && l != nil || e == api.OK && !slices.Equal(l, append(before, c)) {
			t.Error(x.l, x.ts, l, e)
		}
	}
	room := append(make([]api.Cell, 0, 9), cells(1)...)
	a, _ := Put(room, api.Cell{Ts: 2})
	b, _ := Put(room, api.Cell{Ts: 3})
	if a[1].Ts != 2 || b[1].Ts != 3 {
		t.Error("shared")
	}
}

// P14.1: what a key is at a time, of any list.
func TestAt(t *testing.T) {
	l := []api.Cell{{Ts: 3, Val: "a"}, {Ts: 7, Val: "b"}, {Ts: 9, Del: true, Val: "x"}, {Ts: 11}}
	for _, x := range []struct {
		t   uint64
		val string
		has bool
	}{{0, "", false}, {2, "", false}, {3, "a", true}, {5, "a", true}, {7, "b", true}, {8, "b", true}, {9, "", false}, {10, "", false}, {11, "", true}, {api.MaxTs, "", true}} {
		if v, ok := At(l, x.t); v != x.val || ok != x.has {
			t.Error(x.t, v, ok)
		}
	}
	odd := []api.Cell{{Ts: 9, Val: "a"}, {Ts: 2, Val: "b"}, {Ts: 5, Val: "c"}, {Ts: 2, Val: "d"}, {Ts: 8, Val: "e"}}
	for at, want := range map[uint64]string{1: "", 2: "d", 7: "d", 8: "e", 9: "e"} {
		if v, _ := At(odd, at); v != want {
			t.Error(at, v)
		}
	}
	if v, ok := At(cells(2, 9, 9), 5); v != "c" || !ok {
		t.Error("the first one", v)
	}
	if v, ok := At(cells(7, 9, 9), 5); v != "" || ok {
		t.Error("none", v)
	}
	if v, ok := At(nil, 5); v != "" || ok {
		t.Error("nothing")
	}
}

// P14.2: what is pruned.
func TestPrune(t *testing.T) {
	l := []api.Cell{{Ts: 3, Val: "a"}, {Ts: 7, Val: "b"}, {Ts: 9, Del: true}, {Ts: 11, Val: "c"}}
	for h, from := range map[uint64]int{0: 0, 2: 0, 3: 0, 6: 0, 7: 1, 8: 1, 9: 3, 10: 3, 11: 3, api.MaxTs: 3} {
		if got := Prune(l, h); !slices.Equal(got, l[from:]) {
			t.Error(h, got)
		}
	}
	got := Prune(l, 7)
	got[0].Val = "x"
	if l[1].Val != "b" || len(Prune(nil, 3)) != 0 || len(Prune([]api.Cell{{Ts: 1, Del: true}}, 1)) != 0 {
		t.Error("shared, or not empty")
	}
	odd := cells(9, 2, 5, 2, 8)
	if got := Prune(odd, 5); !slices.Equal(got, odd[3:]) {
		t.Error(got)
	}
	if got := Prune(odd, 1); !slices.Equal(got, odd) {
		t.Error(got)
	}
}

// P14.3: what is put later changes nothing earlier; what is pruned nothing later.
func TestFollows(t *testing.T) {
	r := rand.New(rand.NewSource(16))
	for range 2000 {
		var l []api.Cell
		for i := range r.Intn(8) {
			l = append(l, api.Cell{Ts: uint64(i*5 + 1 + r.Intn(5)), Del: r.Intn(3) == 0})
			if c := &l[len(l)-1]; !c.Del {
				c.Val = string([]byte{byte('a' + i)})
			}
		}
		more, e := Put(l, api.Cell{Ts: 45, Val: "z"})
		h := uint64(r.Intn(45))
		p := Prune(l, h)
		if e != api.OK || !Right(l) || !Right(p) || !slices.Equal(Prune(p, h), p) {
			t.Fatal(l, h, p)
		}
		for at := uint64(0); at < 45; at++ {
			v, ok := At(l, at)
			if w, has := At(more, at); w != v || has != ok {
				t.Fatal("put", l, at)
			}
			if w, has := At(p, at); at >= h && (w != v || has != ok) {
				t.Fatal("pruned", l, h, at)
			}
		}
	}
}
