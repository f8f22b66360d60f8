package script

import (
	"math/rand"
	"reflect"
	"slices"
	"strings"
	"testing"

	"catena/api"
	"catena/cluster"
)

func same(a, b api.Event) bool {
	x, y := a.Ask, b.Ask
	return a.K == b.K && a.Node == b.Node && a.N == b.N && x.K == y.K && x.Node == y.Node && x.N == y.N && x.At == y.At && x.Key == y.Key && x.To == y.To && slices.Equal(x.Ops, y.Ops)
}

var full = api.Ask{K: 2, Node: 3, N: 4, At: 300, Key: "k", To: "to", Ops: []api.Op{{Key: "a", Val: "1"}, {Key: "b", Del: true}}}

// P40.1: the bytes of steps.
func TestPut(t *testing.T) {
	tick, ask := api.Event{K: api.EvTick, Node: 4, Ask: full}, api.Event{K: api.EvAsk, Node: 1, N: 2, Ask: full}
	want := "\x03\x01\x04\x00" + "\x19\x00\x01\x02\x02\x03\x04\xf9\x01\x2c\x01k\x02to\x02\x01a\x00\x011\x01b\x01\x00"
	want = strings.Replace(want, "\x19", string([]byte{byte(len(want) - 5)}), 1)
	if s, e := Put([]api.Event{tick, ask}); s != want || e != api.OK {
		t.Errorf("%q %d", s, e)
	}
	if l := Of(want); len(l) != 2 || !same(l[0], api.Event{K: api.EvTick, Node: 4}) || !same(l[1], ask) {
		t.Error(l)
	}
	if s, e := Put(nil); s != "" || e != api.OK || len(Of("")) != 0 {
		t.Error("nothing")
	}
	edit := func(f func(e *api.Event)) api.Event {
		e := ask
		f(&e)
		return e
	}
	for i, x := range []struct {
		e    api.Event
		want api.Errno
	}{
		{edit(func(e *api.Event) { e.K = -1 }), api.ErrRange}, {edit(func(e *api.Event) { e.Node = -1 }), api.ErrRange}, {edit(func(e *api.Event) { e.N = api.MaxNum + 1 }), api.ErrRange}, {edit(func(e *api.Event) { e.N = api.MaxNum; e.K = api.MaxNum }), api.OK},
		{edit(func(e *api.Event) { e.Ask.K = -1 }), api.ErrRange}, {edit(func(e *api.Event) { e.Ask.Node = api.MaxNum + 1 }), api.ErrRange}, {edit(func(e *api.Event) { e.Ask.N = -1 << 63 }), api.ErrRange}, {edit(func(e *api.Event) { e.Ask.N = -1; e.K = 1 }), api.OK},
		{edit(func(e *api.Event) { e.Ask.Key = strings.Repeat("x", 300); e.Ask.N = -1 }), api.ErrRange}, {edit(func(e *api.Event) { e.Ask.Key = strings.Repeat("x", 300) }), api.ErrLong}, {edit(func(e *api.Event) { e.Ask.Ops = make([]api.Op, 300) }), api.ErrLong}, {edit(func(e *api.Event) { e.Ask.Ops = make([]api.Op, 300); e.K = 3 }), api.OK},
		{api.Event{Ask: api.Ask{Key: strings.Repeat("x", 255-3-3-1-1-1-1)}}, api.ErrLong}, {api.Event{Ask: api.Ask{Key: strings.Repeat("x", 244)}}, api.OK}, {api.Event{Ask: api.Ask{Key: strings.Repeat("x", 245)}}, api.OK},
	} {
		if s, e := Put([]api.Event{tick, x.e, {K: -5}}[:2]); e != x.want && i < 12 || (e != api.OK) != (s == "") {
			t.Errorf("%d: %d", i, e)
		}
	}
	for n := 230; n < 260; n++ {
		s, e := Put([]api.Event{{Ask: api.Ask{Key: strings.Repeat("x", n)}}})
		if bytes := 3 + 3 + 1 + 1 + n + 1 + 1; n < 248 && (e == api.OK) != (bytes <= 255) || e == api.OK && len(s) != 1+bytes {
			t.Error(n, e)
		}
	}
}

// P40.1: which pieces are steps.
func TestOf(t *testing.T) {
	for i, x := range []struct {
		s    string
		want []api.Event
	}{
		{"\x03\x01\x04\x00", []api.Event{{K: 1, Node: 4}}}, {"\x01\x09", nil}, {"\x00", nil}, {"\x03\x01\x04", nil}, {"\x00\x00\x03\x01\x04\x00\x09", []api.Event{{K: 1, Node: 4}}}, {"\x04\x01\x04\x00\x00\x03\x02\x00\x07", []api.Event{{K: 2, N: 7}}},
		{"\x07\x01\xfb\x40\x00\x00\x00\x00", []api.Event{{K: 1, Node: 1 << 30}}}, {"\x07\x01\xfb\x40\x00\x00\x01\x00", nil}, {"\x04\x01\x04\xf8\x01", nil}, {"\x03\x00\x00\x00", nil}, {"\x0a\x00\x00\x00\x00\x00\x00\x00\x00\x00\x00", []api.Event{{}}},
		{"\x0d\x00\x00\x00\x00\x00\x00\x00\x00\x00\x01\x00\x02\x00", nil}, {"\x0c\x00\x00\x00\x00\x00\x00\x00\x00\x00\x01\x00\x01", nil}, {"\x0d\x00\x00\x00\x00\x00\x00\x00\x00\x00\x01\x00\x01\x00", []api.Event{{Ask: api.Ask{Ops: []api.Op{{Del: true}}}}}},
	} {
		if got := Of(x.s); !slices.EqualFunc(got, x.want, same) {
			t.Errorf("%d: %v", i, got)
		}
	}
}

// P40.1: of any other kind than EvAsk there is no ask.
func TestClean(t *testing.T) {
	if got := Clean(api.Event{K: 1, Node: 2, N: 3, Ask: full}); !same(got, api.Event{K: 1, Node: 2, N: 3}) {
		t.Error(got)
	}
	e := api.Event{Node: 2, N: -3, Ask: full}
	got := Clean(e)
	if !same(got, e) {
		t.Error(got)
	}
	e = api.Event{Ask: api.Ask{Ops: []api.Op{{Key: "a"}}}}
	Clean(e).Ask.Ops[0].Key = "x"
	if e.Ask.Ops[0].Key != "a" {
		t.Error("shared")
	}
}

// P40.2: playing.
func TestPlay(t *testing.T) {
	c, _ := cluster.New(1, 0)
	s := "\x03\x01\x04\x00\x01\x09\x03\x01\x05\x00\x03\x09\x08\x00"
	for _, x := range [][2]int{{0, 0}, {-1, 0}, {1, 1}, {2, 2}, {3, 3}, {1 << 62, 3}} {
		time := c.Time()
		if n := Play(c, s, x[0]); n != x[1] || c.Time() != time+n {
			t.Error(x, n)
		}
	}
	if Play(nil, s, 9) != 3 {
		t.Error("nobody's")
	}
}

// event is any step.
func event(r *rand.Rand) api.Event {
	e := api.Event{K: r.Intn(11), Node: r.Intn(9), N: r.Intn(300)}
	if r.Intn(2) == 0 {
		e.K = api.EvAsk
	}
	e.Ask = api.Ask{K: r.Intn(8), Node: r.Intn(5), N: r.Intn(40), At: r.Uint64() >> r.Intn(64), Key: "abcdefghij"[r.Intn(10):], To: "xyz"[r.Intn(3):]}
	for range r.Intn(6) {
		e.Ask.Ops = append(e.Ask.Ops, api.Op{Key: "abc"[r.Intn(3):], Val: "123"[r.Intn(3):], Del: r.Intn(2) == 0})
	}
	return e
}

// P40.3: what is put is read as Clean tells it; other pieces change nothing.
func TestFollows(t *testing.T) {
	r := rand.New(rand.NewSource(36))
	for range 2000 {
		var l, want []api.Event
		noisy := ""
		for range r.Intn(6) {
			e := event(r)
			l, want = append(l, e), append(want, Clean(e))
			s, _ := Put([]api.Event{e})
			noisy += s
			if r.Intn(2) == 0 {
				noisy += "\x02\x01\x04" + "\x00"
			}
		}
		s, e := Put(l)
		if e != api.OK || !slices.EqualFunc(Of(s), want, same) || !reflect.DeepEqual(Of(noisy), Of(s)) {
			t.Fatal(l, e)
		}
		for _, e := range Of(s[:r.Intn(len(s)+1)]) {
			if !same(e, Clean(e)) {
				t.Fatal(e)
			}
		}
	}
}
