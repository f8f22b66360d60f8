package serve

import (
	"strconv"
	"testing"

	"catena/api"
	"catena/mess"
	"catena/mvcc"
)

func store() *mvcc.Store {
	s := mvcc.New()
	s.Put(3, []api.Op{{Key: "a", Val: "1"}})
	s.Put(5, []api.Op{{Key: "a", Del: true}, {Key: "b", Val: "2"}, {Key: "c", Val: "3"}, {Key: "d", Val: "4"}})
	return s
}

func get(key string, at uint64) api.Msg { return api.Msg{K: api.MGet, Req: 7, Key: key, At: at} }

func scan(key, to string, at uint64, n int) api.Msg {
	return api.Msg{K: api.MScan, Req: 7, Key: key, To: to, At: at, N: n}
}

func told(key string, at uint64, more bool, l ...string) api.Msg {
	m := api.Msg{K: api.MRows, Req: 7, Key: key, At: at, Flag: more}
	for i := 0; i < len(l); i += 2 {
		m.Pairs = append(m.Pairs, api.Pair{Key: l[i], Val: l[i+1]})
	}
	return m
}

// P31.1: a view, and refusals by it.
func TestNo(t *testing.T) {
	if got := No(At(9, 3, 4, 2), 7, api.ErrOver); !mess.Same(got, api.Msg{K: api.MNo, Req: 7, E: api.ErrOver, Epoch: 4, N: 2}) {
		t.Error(got)
	}
	if got := No(At(9, 3, -4, -1), 7, api.ErrOver); !mess.Same(got, api.Msg{K: api.MNo, Req: 7, E: api.ErrOver}) {
		t.Error(got)
	}
}

// P31.2: what is answered.
func TestAnswer(t *testing.T) {
	v := At(6, 3, 4, 2)
	no := func(e api.Errno) api.Msg { return No(v, 7, e) }
	for i, x := range []struct {
		x, want api.Msg
	}{
		{get("a", 7), no(api.ErrTooNew)}, {get("a", 2), no(api.ErrPruned)}, {get("a", 4), told("a", 4, false, "a", "1")}, {get("a", 6), told("a", 6, false)}, {get("", 4), told("", 4, false)}, {get("b", 3), told("b", 3, false)},
		{scan("", "", 7, 9), no(api.ErrTooNew)}, {scan("", "", 2, 0), no(api.ErrPruned)}, {scan("", "", 5, 2), told("", 5, true, "b", "2", "c", "3")}, {scan("b", "d", 5, 2), told("b", 5, false, "b", "2", "c", "3")}, {scan("c", "", 5, api.MaxNum), told("c", 5, false, "c", "3", "d", "4")}, {scan("", "", 5, 0), told("", 5, true)}, {scan("x", "", 5, 0), told("x", 5, false)},
	} {
		got, ok := Answer(store(), v, x.x)
		if !ok || !mess.Same(got, x.want) || mess.Check(got) != api.OK {
			t.Errorf("%d: %v", i, got)
		}
		read := Get
		if x.x.K == api.MScan {
			read = Scan
		}
		if got := read(store(), v, x.x); !mess.Same(got, x.want) {
			t.Errorf("%d, at once: %v", i, got)
		}
	}
	for i, x := range []api.Msg{{}, {K: api.MDone, Req: 1}, get("123456789", 4), scan("", "123456789", 4, 1), {K: api.MGet, Req: -1, At: 4}} {
		if got, ok := Answer(store(), v, x); ok || !mess.Same(got, api.Msg{}) {
			t.Errorf("%d: %v", i, got)
		}
	}
	if got := Scan(nil, v, scan("", "", 5, -1<<63)); !mess.Same(got, told("", 5, false)) {
		t.Error(got)
	}
	if got := Get(nil, v, get("a", 5)); !mess.Same(got, told("a", 5, false)) {
		t.Error(got)
	}
}

// P31.2: at most MaxLimit pairs.
func TestLimit(t *testing.T) {
	s := mvcc.New()
	for i := range api.MaxLimit + 1 {
		s.Put(uint64(i+1), []api.Op{{Key: strconv.Itoa(100 + i)}})
	}
	for n, want := range map[int]int{31: 31, 32: 32, 33: 32, api.MaxNum: 32} {
		if got := Scan(s, At(99, 0, 1, 1), scan("", "", 50, n)); len(got.Pairs) != want || !got.Flag {
			t.Error(n, len(got.Pairs))
		}
	}
	if got := Scan(s, At(99, 0, 1, 1), scan("", "", 32, 99)); len(got.Pairs) != 32 || got.Flag {
		t.Error("all", len(got.Pairs))
	}
}

// P31.3: what is answered at a time stays, as long as it is not refused.
func TestFollows(t *testing.T) {
	s := store()
	first := Scan(s, At(6, 0, 1, 1), scan("", "", 5, 9))
	s.Put(7, []api.Op{{Key: "b", Del: true}})
	s.Prune(5)
	if got := Scan(s, At(7, 5, 2, 3), scan("", "", 5, 9)); !mess.Same(got, first) {
		t.Error(got)
	}
	if got := Scan(s, At(7, 6, 2, 3), scan("", "", 5, 9)); len(got.Pairs) != 0 || got.K != api.MNo {
		t.Error(got)
	}
}
