package hub

import (
	"slices"
	"strings"
	"testing"

	"catena/api"
	"catena/link"
)

// P23.1: who is there, and what can be sent.
func TestSend(t *testing.T) {
	for _, x := range []struct {
		self, boot int
		e          api.Errno
	}{{-1, 1, api.ErrArg}, {4, 1, api.ErrArg}, {0, 0, api.ErrArg}, {0, api.MaxNum + 1, api.ErrArg}, {3, api.MaxNum, api.OK}} {
		if h, e := New(x.self, x.boot); e != x.e || (h == nil) != (e != api.OK) {
			t.Error(x, e)
		}
	}
	h, _ := New(1, 1)
	for to, want := range map[int]api.Errno{-1: api.ErrArg, 0: api.OK, 1: api.ErrArg, 2: api.OK, 3: api.OK, 4: api.ErrArg, 1 << 62: api.ErrArg} {
		if e := h.Send(to, "a"); e != want || h.Waiting(to) != map[bool]int{true: 1}[want == api.OK] {
			t.Error(to, e, h.Waiting(to))
		}
	}
	if h.Send(0, strings.Repeat("x", api.MaxFrame+1)) != api.ErrLong {
		t.Error("long")
	}
	for range api.MaxQueue - 1 {
		h.Send(2, "b")
	}
	if h.Send(2, "c") != api.ErrFull || h.Waiting(2) != api.MaxQueue || h.Waiting(3) != 1 {
		t.Error("full")
	}
}

// P23.2: what goes out, and what comes.
func TestOut(t *testing.T) {
	h, _ := New(1, 7)
	h.Send(3, "c")
	h.Send(0, "a")
	h.Send(3, "d")
	want := func(seq int, body string) string {
		s, _ := link.Put(api.Seg{Boot: 7, Stream: 1, Seq: seq, Has: true, Body: body})
		return s
	}
	all := []api.Out{{To: 0, Body: want(0, "a")}, {To: 3, Body: want(0, "c")}, {To: 3, Body: want(1, "d")}}
	if got := h.Out(false); !slices.Equal(got, all) || len(h.Out(false)) != 0 || !slices.Equal(h.Out(true), all) {
		t.Error(got)
	}
	g, _ := link.Put(api.Seg{Boot: 2, Stream: 1, AckBoot: 7, AckStream: 1, AckSeq: 1, Has: true, Body: "x"})
	for i, x := range []struct {
		from int
		s    string
		told []string
		e    api.Errno
	}{{1, g, nil, api.ErrArg}, {4, g, nil, api.ErrArg}, {-1, "", nil, api.ErrArg}, {3, "\x01", nil, api.ErrShort}, {3, g + "x", nil, api.ErrForm}, {3, "\x00" + g[1:], nil, api.ErrArg}, {3, g, []string{"x"}, api.OK}} {
		if got, e := h.In(x.from, x.s); e != x.e || !slices.Equal(got, x.told) {
			t.Errorf("%d: %q %d", i, got, e)
		}
	}
	if h.Waiting(3) != 1 || h.Waiting(0) != 1 {
		t.Error("waiting", h.Waiting(3))
	}
}

// P23.3: those that nobody made.
func TestZero(t *testing.T) {
	for _, h := range []*Hub{nil, new(Hub)} {
		if got, e := h.In(0, ""); len(got) != 0 || e != api.ErrZero {
			t.Error("in")
		}
		if h.Send(0, "a") != api.ErrZero || len(h.Out(true)) != 0 || h.Waiting(0) != 0 {
			t.Error("not zero")
		}
	}
}

// P23.4: what is sent to one comes to that one alone.
func TestFollows(t *testing.T) {
	var hubs [api.MaxReplicas]*Hub
	for i := range hubs {
		hubs[i], _ = New(i, 1)
		for to := range api.MaxReplicas {
			hubs[i].Send(to, string([]byte{'0' + byte(i), '0' + byte(to)}))
		}
	}
	heard := map[[2]int]int{}
	for range 4 {
		for i, h := range hubs {
			for _, o := range h.Out(true) {
				texts, e := hubs[o.To].In(i, o.Body)
				if e != api.OK {
					t.Fatal(e)
				}
				for _, s := range texts {
					if s != string([]byte{'0' + byte(i), '0' + byte(o.To)}) {
						t.Fatal(i, o.To, s)
					}
					heard[[2]int{i, o.To}]++
				}
			}
		}
	}
	if len(heard) != 12 {
		t.Error(heard)
	}
	for _, n := range heard {
		if n != 1 {
			t.Error(heard)
		}
	}
}
