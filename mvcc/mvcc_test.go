package mvcc

import (
	"math/rand"
	"slices"
	"testing"

	"catena/api"
	"catena/keys"
	"catena/ops"
)

// P16.1: what can be put.
func TestPut(t *testing.T) {
	s := New()
	if s.Last() != 0 || s.Cells() != 0 {
		t.Error("new")
	}
	a, d := api.Op{Key: "a", Val: "1"}, api.Op{Key: "a", Del: true}
	five := []api.Op{{Key: "a"}, {Key: "b"}, {Key: "c"}, {Key: "d"}, {Key: "e"}}
	for i, x := range []struct {
		ts uint64
		l  []api.Op
		e  api.Errno
	}{
		{0, []api.Op{{}}, api.ErrRange}, {3, []api.Op{a}, api.OK}, {3, []api.Op{{}}, api.ErrOrder}, {2, nil, api.ErrOrder}, {4, []api.Op{{}}, api.ErrKey}, {4, five, api.ErrFull},
		{4, []api.Op{{Key: "b"}, {Key: "a"}}, api.ErrOrder}, {4, []api.Op{{Key: "b", Val: "123456789"}}, api.ErrLong}, {4, []api.Op{{Key: "b", Val: "1", Del: true}}, api.ErrForm},
		{5, []api.Op{d, {Key: "b", Val: "2"}}, api.OK}, {7, nil, api.OK}, {7, []api.Op{a}, api.ErrOrder},
	} {
		if e := s.Put(x.ts, x.l); e != x.e {
			t.Errorf("%d: %d", i, e)
		}
	}
	if s.Last() != 7 || s.Cells() != 3 {
		t.Error(s.Last(), s.Cells())
	}
}

// P16.2: what is told at a time.
func TestRead(t *testing.T) {
	s := New()
	s.Put(3, []api.Op{{Key: "a", Val: "1"}})
	s.Put(5, []api.Op{{Key: "a", Del: true}, {Key: "b", Val: "2"}, {Key: "c", Val: "3"}})
	s.Put(6, []api.Op{{Key: "a", Val: "4"}})
	for _, x := range []struct {
		k   string
		t   uint64
		v   string
		has bool
	}{{"a", 2, "", false}, {"a", 4, "1", true}, {"a", 5, "", false}, {"a", 9, "4", true}, {"b", 4, "", false}, {"b", 5, "2", true}, {"", 9, "", false}, {"zzzzzzzzzz", 9, "", false}} {
		if v, has := s.Get(x.k, x.t); v != x.v || has != x.has {
			t.Error(x, v, has)
		}
	}
	a, b, c := api.Pair{Key: "a", Val: "4"}, api.Pair{Key: "b", Val: "2"}, api.Pair{Key: "c", Val: "3"}
	for _, x := range []struct {
		from, to string
		t        uint64
		most     int
		want     []api.Pair
		more     bool
	}{
		{"", "", 9, 9, []api.Pair{a, b, c}, false}, {"", "", 9, 3, []api.Pair{a, b, c}, false}, {"", "", 9, 2, []api.Pair{a, b}, true}, {"", "", 9, 0, nil, true}, {"", "", 9, -1 << 63, nil, true}, {"", "", 2, 0, nil, false},
		{"", "", 5, 9, []api.Pair{b, c}, false}, {"b", "c", 9, 1, []api.Pair{b}, false}, {"c", "a", 9, 1, nil, false}, {"", "a", 9, 1, nil, false}, {"", "b", 5, 1, nil, false},
	} {
		if l, more := s.Scan(x.from, x.to, x.t, x.most); !slices.Equal(l, x.want) || more != x.more {
			t.Error(x, l, more)
		}
	}
	if s.Prune(5) != 2 || s.Cells() != 3 || s.Prune(5) != 0 || s.Last() != 6 {
		t.Error("prune", s.Cells())
	}
	if v, has := s.Get("a", 4); v != "" || has {
		t.Error("pruned", v)
	}
}

// P16.3: those that nobody made.
func TestZero(t *testing.T) {
	for _, s := range []*Store{nil, new(Store)} {
		if s.Put(1, nil) != api.ErrZero || s.Put(0, nil) != api.ErrZero || s.Prune(9) != 0 || s.Last() != 0 || s.Cells() != 0 {
			t.Error("not zero")
		}
		if v, ok := s.Get("a", 1); v != "" || ok {
			t.Error("get")
		}
		if l, more := s.Scan("", "", 1, 5); len(l) != 0 || more {
			t.Error("scan")
		}
	}
}

// P16.4: what is told at a time stays; pages are the whole scan.
func TestFollows(t *testing.T) {
	r := rand.New(rand.NewSource(18))
	for range 200 {
		s := New()
		var states [][]api.Pair
		var state []api.Pair
		low := uint64(0)
		for ts := uint64(1); ts <= 30; ts++ {
			var l []api.Op
			for range r.Intn(5) {
				o := api.Op{Key: "abcde"[r.Intn(5):][:1], Del: r.Intn(3) == 0}
				if !o.Del {
					o.Val = "0123456789"[r.Intn(10):][:1]
				}
				l = append(l, o)
			}
			l = ops.Norm(l)
			states = append(states, state)
			if s.Put(ts, l) != api.OK {
				t.Fatal("put")
			}
			state = ops.Over(state, l)
			if r.Intn(6) == 0 {
				low = max(low, uint64(r.Intn(int(ts)+1)))
				s.Prune(low)
			}
		}
		states = append(states, state)
		for at := low; at <= 30; at++ {
			all, more := s.Scan("", "", at, 99)
			if more || !slices.Equal(all, states[at]) {
				t.Fatal(at, all, states[at])
			}
			var pages []api.Pair
			for from := ""; ; {
				p, more := s.Scan(from, "", at, 2)
				pages = append(pages, p...)
				if !more {
					break
				}
				from = keys.Next(p[len(p)-1].Key)
			}
			if !slices.Equal(pages, all) {
				t.Fatal("pages", pages, all)
			}
		}
	}
}
