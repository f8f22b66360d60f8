package adopt

import (
	"math/rand"
	"slices"
	"testing"

	"catena/api"
	"catena/item"
	"catena/note"
	"catena/rlog"
)

// e is an entry of client 0, its number told by a letter.
func e(letter byte, ts uint64, l ...api.Op) api.Entry {
	return api.Entry{Batch: api.Batch{Req: int(letter-'a') + 1, Ops: l}, Ts: ts}
}

func put(place int, e api.Entry) api.Note {
	return api.Note{K: api.NPut, N: place, Entry: e}
}

// P18.1: the entry that is adopted.
func TestOne(t *testing.T) {
	x, y := api.Op{Key: "x"}, api.Op{Key: "y"}
	own := []api.Entry{e('a', 3, x), e('b', 0, x)}
	for i, c := range []struct {
		at         int
		come, want api.Entry
	}{
		{0, e('a', 0, y), e('a', 3, x)}, {0, e('a', 4, y), e('a', 4, x)}, {1, e('b', 0, y), e('b', 0, x)}, {1, e('b', 5), e('b', 5, x)}, {0, e('c', 0, y), e('c', 0, y)},
		{2, e('a', 9, y), e('a', 9, y)}, {-1, e('a', 9, y), e('a', 9, y)}, {1 << 62, e('a', 9, y), e('a', 9, y)},
	} {
		if got := One(own, c.at, c.come); !item.Same(got, c.want) {
			t.Errorf("%d: %v", i, got)
		}
	}
	One(own, 0, e('a', 9)).Batch.Ops[0].Key = "z"
	if own[0].Batch.Ops[0].Key != "x" || own[0].Ts != 3 {
		t.Error("shared")
	}
}

// P18.2: what is noted, and how many are good.
func TestTake(t *testing.T) {
	x, y := api.Op{Key: "x"}, api.Op{Key: "y"}
	own := []api.Entry{e('a', 3, x), e('b', 5, x), e('c', 0, x)}
	for i, c := range []struct {
		own        []api.Entry
		good, from int
		l          []api.Entry
		notes      []api.Note
		then       int
	}{
		{own, 0, 0, []api.Entry{e('a', 3), e('d', 0)}, []api.Note{put(1, e('d', 0))}, 2},
		{own, 0, 0, own, nil, 3},
		{own, 0, -7, []api.Entry{e('a', 0, y)}, nil, 1},
		{own, 1, 0, []api.Entry{e('z', 9), e('b', 6, y), e('c', 0), e('d', 0, y)}, []api.Note{put(1, e('b', 6, x)), put(3, e('d', 0, y))}, 4},
		{own, 1, 0, []api.Entry{e('z', 9), e('b', 6, y), e('c', 7)}, []api.Note{put(1, e('b', 6, x)), put(2, e('c', 7, x))}, 3},
		{own, 1, 2, []api.Entry{e('c', 0), e('d', 0)}, nil, 1},
		{own, 3, 1 << 62, []api.Entry{e('c', 0)}, nil, 3}, {own, 3, 1<<63 - 1, []api.Entry{e('c', 0), e('d', 0)}, nil, 3},
		{own, 1, -1 << 63, []api.Entry{e('a', 0), e('b', 2)}, nil, 1},
		{own, 3, 3, []api.Entry{e('d', 9)}, nil, 3},
		{own, 3, 3, []api.Entry{e('d', 0), e('b', 0), e('f', 0)}, []api.Note{put(3, e('d', 0))}, 4},
		{own, 3, 3, []api.Entry{{Batch: api.Batch{Client: 9}}}, nil, 3},
		{own, 0, 0, []api.Entry{e('b', 0), e('a', 0)}, []api.Note{put(0, e('b', 0)), put(1, e('a', 0))}, 2},
		{own, 4, 0, own, nil, 4}, {own, -1, 0, own, nil, -1}, {[]api.Entry{e('a', 3), e('a', 4)}, 0, 0, own, nil, 0}, {nil, 0, 0, nil, nil, 0},
		{nil, 0, 0, []api.Entry{e('a', 3, x), e('b', 3)}, []api.Note{put(0, e('a', 3, x))}, 1},
	} {
		notes, then := Take(c.own, c.good, c.from, c.l)
		if !slices.EqualFunc(notes, c.notes, note.Same) || then != c.then {
			t.Errorf("%d: %v %d", i, notes, then)
		}
	}
	l := []api.Entry{e('d', 0, x)}
	notes, _ := Take(own, 0, 0, l)
	notes[0].Entry.Batch.Ops[0].Key = "z"
	if l[0].Batch.Ops[0].Key != "x" {
		t.Error("shared")
	}
	var full []api.Entry
	for i := range api.MaxLog {
		full = append(full, api.Entry{Batch: api.Batch{Req: i + 1}})
	}
	if notes, then := Take(full, api.MaxLog, api.MaxLog, []api.Entry{{Batch: api.Batch{Req: 500}}}); len(notes) != 0 || then != api.MaxLog {
		t.Error("full", notes, then)
	}
}

// P18.3: the common beginning.
func TestBase(t *testing.T) {
	own := []api.Entry{e('a', 3), e('b', 5), e('c', 0)}
	for _, c := range []struct {
		other []api.Entry
		want  int
	}{{nil, 0}, {own, 3}, {own[:2], 2}, {[]api.Entry{e('a', 0), e('b', 9), e('d', 0)}, 2}, {[]api.Entry{e('b', 5)}, 0}} {
		if Base(own, c.other) != c.want || Base(c.other, own) != c.want {
			t.Error(c.other)
		}
	}
}

// some is a log that is right.
func some(r *rand.Rand) []api.Entry {
	var l []api.Entry
	ts, stamped := uint64(0), r.Intn(7)
	for i, k := range r.Perm(9)[:r.Intn(8)] {
		x := e(byte('a'+k), 0)
		if i < stamped {
			ts += uint64(1 + r.Intn(3))
			x.Ts = ts
		}
		l = append(l, x)
	}
	return l
}

// P18.4: who takes all, piece by piece, has all.
func TestFollows(t *testing.T) {
	r := rand.New(rand.NewSource(20))
	for range 3000 {
		own, ahead := some(r), some(r)
		if r.Intn(3) == 0 {
			own = append([]api.Entry{}, ahead...)
		}
		same := slices.EqualFunc(own, ahead, item.Same)
		log := rlog.New()
		for i, x := range own {
			log.Set(i, x)
		}
		good := 0
		for good < len(ahead) {
			n := 1 + r.Intn(3)
			notes, then := Take(log.All(), good, good, ahead[good:min(good+n, len(ahead))])
			if same && len(notes) > 0 {
				t.Fatal("noted", notes)
			}
			for _, n := range notes {
				if log.Set(n.N, n.Entry) != api.OK {
					t.Fatal("refused", n)
				}
			}
			if then == good {
				t.Fatal("stands still", own, ahead, good)
			}
			good = then
			if item.Right(log.All()) != api.OK {
				t.Fatal(log.All())
			}
		}
		if Base(log.All(), ahead) != len(ahead) {
			t.Fatal(own, ahead, log.All())
		}
		for i, x := range ahead {
			if got, _ := log.At(i); x.Ts != 0 && got.Ts != x.Ts {
				t.Fatal(own, ahead, log.All())
			}
		}
	}
}
