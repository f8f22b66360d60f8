package stamp

import (
	"math/rand"
	"slices"
	"testing"

	"catena/api"
	"catena/note"
)

func log(ts ...uint64) []api.Entry {
	var l []api.Entry
	for i, t := range ts {
		l = append(l, api.Entry{Batch: api.Batch{Req: i + 1}, Ts: t})
	}
	return l
}

// P19.1: the timestamp that comes next.
func TestNext(t *testing.T) {
	for _, x := range []struct {
		last, floor, want uint64
		e                 api.Errno
	}{{5, 3, 6, 0}, {5, 9, 9, 0}, {5, 6, 6, 0}, {0, 0, 1, 0}, {0, api.MaxTs, api.MaxTs, 0}, {api.MaxTs - 1, 0, api.MaxTs, 0}, {api.MaxTs, 0, 0, api.ErrEnd}, {api.MaxTs, api.MaxTs, 0, api.ErrEnd}} {
		if ts, e := Next(x.last, x.floor); ts != x.want || e != x.e {
			t.Error(x, ts, e)
		}
	}
}

// P19.2: which entries are stamped, and how.
func TestAll(t *testing.T) {
	n := func(i int, at uint64) api.Note { return api.Note{K: api.NStamp, N: i, At: at} }
	for i, x := range []struct {
		l     []api.Entry
		n     int
		floor uint64
		want  []api.Note
	}{
		{nil, 9, 0, nil}, {log(3, 5), 9, 0, nil}, {log(3, 0, 0, 0), 3, 0, []api.Note{n(1, 4), n(2, 5)}}, {log(3, 0, 0), 1 << 62, 10, []api.Note{n(1, 10), n(2, 11)}},
		{log(0, 0), 0, 0, nil}, {log(0, 0), -1, 0, nil}, {log(0, 0), 2, 0, []api.Note{n(0, 1), n(1, 2)}},
		{log(api.MaxTs, 0), 9, 0, nil}, {log(api.MaxTs-2, 0, 0, 0), 9, 0, []api.Note{n(1, api.MaxTs-1), n(2, api.MaxTs)}}, {log(0, 0), 2, api.MaxTs, []api.Note{n(0, api.MaxTs)}},
		{log(3, 0, 8, 0), 4, 0, []api.Note{n(1, 4), n(2, 5), n(3, 6)}},
	} {
		if got := All(x.l, x.n, x.floor); !slices.EqualFunc(got, x.want, note.Same) {
			t.Errorf("%d: %v", i, got)
		}
	}
}

// P19.2: whether the last timestamp is given.
func TestEnded(t *testing.T) {
	l := log(3, api.MaxTs, 0)
	for n, want := range map[int]bool{-1 << 63: false, 0: false, 1: false, 2: true, 3: false, 4: false, 1<<63 - 1: false} {
		if Ended(l, n) != want {
			t.Error(n)
		}
	}
	if !Ended(log(api.MaxTs), 1) || Ended(nil, 0) || Ended(nil, 1) {
		t.Error("the only one")
	}
}

// P19.3: timestamps rise, are not below the floor, and never wrap.
func TestFollows(t *testing.T) {
	r := rand.New(rand.NewSource(21))
	for range 1000 {
		l := log(make([]uint64, 1+r.Intn(6))...)
		floor := -uint64(1+r.Intn(9)) + uint64(r.Intn(2)*100)
		l[0].Ts = -uint64(r.Intn(4))
		last := l[0].Ts
		for _, n := range All(l, len(l), floor) {
			if n.At <= last || n.At < floor {
				t.Fatal(l, floor, n)
			}
			last = n.At
		}
	}
}
