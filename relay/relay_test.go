package relay

import (
	"math/rand"
	"slices"
	"testing"

	"catena/adopt"
	"catena/api"
	"catena/item"
	"catena/mess"
	"catena/note"
	"catena/rlog"
)

func log(ts ...uint64) []api.Entry {
	var l []api.Entry
	for i, t := range ts {
		l = append(l, api.Entry{Batch: api.Batch{Req: i + 1, Ops: []api.Op{{Key: "a"}}}, Ts: t})
	}
	return l
}

const least, most = -1 << 63, 1<<63 - 1

// P32.1: what goes behind.
func TestFwd(t *testing.T) {
	l := log(3, 5, 0, 0, 0, 0, 0)
	fwd := func(n, m, p, stable int, l []api.Entry) api.Msg {
		return api.Msg{K: api.MFwd, Epoch: 4, N: n, M: m, P: p, Req: stable, At: 9, Entries: l}
	}
	for i, x := range []struct {
		base, from, stable, good int
		want                     api.Msg
	}{
		{2, 1, 1, 7, fwd(2, 1, 2, 1, l[1:5])}, {2, 5, 1, 7, fwd(2, 5, 2, 1, l[5:])}, {2, 1, 1, 1, fwd(2, 1, 1, 1, nil)}, {2, 0, 0, 3, fwd(2, 0, 2, 0, l[:3])},
		{least, least, least, least, fwd(0, 0, 0, 0, nil)}, {8, most, most, most, fwd(8, 7, 2, most, nil)}, {8, 6, 0, 99, fwd(8, 6, 2, 0, l[6:])},
	} {
		if got := Fwd(4, x.base, x.from, x.stable, 9, l, x.good); !mess.Same(got, x.want) {
			t.Errorf("%d: %v", i, got)
		}
	}
	if got := Fwd(least, 0, 0, 0, 0, nil, 5); !mess.Same(got, api.Msg{K: api.MFwd}) {
		t.Error(got)
	}
	Fwd(4, 0, 0, 0, 0, l, 7).Entries[0].Batch.Ops[0].Key = "x"
	if l[0].Batch.Ops[0].Key != "a" {
		t.Error("shared")
	}
}

// P32.1: what goes ahead.
func TestAck(t *testing.T) {
	l := log(1, 2, 3, 4, 5, 6, 7, 8, 9, 10, 0, 12)
	ack := func(n, m, p int, ts ...uint64) api.Msg {
		return api.Msg{K: api.MAck, Epoch: 4, N: n, M: m, P: p, Stamps: ts}
	}
	for i, x := range []struct {
		good, held, from int
		want             api.Msg
	}{
		{12, 3, 1, ack(12, 3, 1, 2, 3, 4, 5, 6, 7, 8, 9)}, {12, 3, 8, ack(12, 3, 8, 9, 10)}, {9, 3, 8, ack(9, 3, 8, 9)}, {12, 3, 10, ack(12, 3, 10)}, {12, 3, 11, ack(12, 3, 11, 12)},
		{least, least, least, ack(0, 0, 0)}, {most, most, most, ack(12, most, 12)}, {3, 3, 5, ack(3, 3, 3)},
	} {
		if got := Ack(4, x.good, x.held, x.from, l); !mess.Same(got, x.want) {
			t.Errorf("%d: %v", i, got)
		}
	}
	if got := Ack(-3, 5, 1, 2, nil); !mess.Same(got, api.Msg{K: api.MAck, M: 1}) {
		t.Error(got)
	}
}

// P32.2: what is learnt.
func TestLearn(t *testing.T) {
	n := func(i int, at uint64) api.Note { return api.Note{K: api.NStamp, N: i, At: at} }
	l := log(3, 5, 0, 0, 0)
	for i, x := range []struct {
		good, p int
		ts      []uint64
		want    []api.Note
	}{
		{5, 0, []uint64{9, 9, 6, 7}, []api.Note{n(2, 6), n(3, 7)}}, {5, 2, []uint64{6, 7, 8, 9}, []api.Note{n(2, 6), n(3, 7), n(4, 8)}}, {3, 2, []uint64{6, 7}, []api.Note{n(2, 6)}}, {2, 2, []uint64{6}, nil},
		{5, 3, []uint64{7}, nil}, {5, 2, []uint64{5, 8}, nil}, {5, 2, []uint64{6, 6, 8}, []api.Note{n(2, 6)}}, {5, -1, []uint64{0, 0, 0, 6}, []api.Note{n(2, 6)}},
		{most, most, []uint64{6, 7}, nil}, {5, least, []uint64{6, 7, 8, 9}, nil}, {least, 2, []uint64{6}, nil}, {5, 2, nil, nil}, {most, 2, []uint64{6, 7, 8, 9}, []api.Note{n(2, 6), n(3, 7), n(4, 8)}}, {5, 2, []uint64{api.MaxTs, 0}, []api.Note{n(2, api.MaxTs)}},
	} {
		if got := Learn(l, x.good, api.Msg{P: x.p, Stamps: x.ts}); !slices.EqualFunc(got, x.want, note.Same) {
			t.Errorf("%d: %v", i, got)
		}
	}
}

// P32.2: what is held, and what is good behind.
func TestHeld(t *testing.T) {
	for _, x := range []struct {
		good, stamped int
		tail          bool
		behind, want  int
	}{{5, 3, false, 9, 3}, {2, 3, false, 9, 2}, {5, 3, false, 1, 1}, {5, 3, true, 1, 3}, {-5, 3, true, 1, 0}, {5, least, true, 1, 0}, {5, 3, false, -1, 0}} {
		if got := Held(x.good, x.stamped, x.tail, x.behind); got != x.want {
			t.Error(x, got)
		}
	}
	for _, x := range [][3]int{{3, 5, 3}, {7, 5, 5}, {-1, 5, 0}, {3, -1, 0}, {most, most, most}, {least, least, 0}} {
		if got := Good(api.Msg{N: x[0]}, x[1]); got != x[2] {
			t.Error(x, got)
		}
	}
}

// side is a member with a log.
type side struct {
	log  *rlog.Log
	good int
}

func (s *side) note(t *testing.T, l []api.Note) {
	for _, n := range l {
		e := api.OK
		if n.K == api.NPut {
			e = s.log.Set(n.N, n.Entry)
		} else {
			e = s.log.Stamp(n.N, n.At)
		}
		if e != api.OK {
			t.Fatal(n, e)
		}
	}
}

// P32.3: by words to and fro all is adopted, and each timestamp learnt, in as many rounds as there are entries.
func TestFollows(t *testing.T) {
	r := rand.New(rand.NewSource(30))
	some := func() []api.Entry {
		var l []api.Entry
		ts, stamped := uint64(0), r.Intn(20)
		for i, k := range r.Perm(20)[:r.Intn(20)] {
			e := api.Entry{Batch: api.Batch{Req: k + 1}}
			if ts += uint64(1 + r.Intn(3)); i < stamped {
				e.Ts = ts
			}
			l = append(l, e)
		}
		return l
	}
	for range 500 {
		a, b := &side{rlog.New(), 0}, &side{rlog.New(), 0}
		for i, e := range some() {
			a.log.Set(i, e)
		}
		own := some()
		if r.Intn(2) == 0 { // the same batches, other ones of them with timestamps
			own = a.log.All()
			cut := r.Intn(len(own) + 1)
			for i := range own {
				own[i].Ts = uint64(i + 100)
				if i >= cut {
					own[i].Ts = 0
				}
			}
			for i := range own {
				if e, _ := a.log.At(i); e.Ts != 0 && i < cut {
					own[i].Ts = e.Ts
				}
			}
			if item.Right(own) != api.OK {
				own = nil
			}
		}
		for i, e := range own {
			b.log.Set(i, e)
		}
		a.good = a.log.Len()
		behind, stamped := 0, 0
		for range max(a.log.Len(), 1) + 1 {
			x := Fwd(1, 0, behind, 0, 0, a.log.All(), a.good)
			notes, good := adopt.Take(b.log.All(), b.good, x.M, x.Entries)
			b.note(t, notes)
			b.good, stamped = good, x.P
			y := Ack(1, b.good, 0, stamped, b.log.All())
			behind = Good(y, a.good)
			a.note(t, Learn(a.log.All(), a.good, y))
		}
		if behind != a.good || adopt.Base(a.log.All(), b.log.All()) != a.good {
			t.Fatal("adopted", behind, a.good)
		}
		for i, e := range b.log.All()[:a.good] {
			if got, _ := a.log.At(i); got.Ts != e.Ts {
				t.Fatal("learnt", a.log.All(), b.log.All())
			}
		}
	}
}
