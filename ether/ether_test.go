package ether

import (
	"math/rand"
	"slices"
	"strconv"
	"testing"

	"catena/api"
)

func p(body string) api.Packet { return api.Packet{From: 0, To: 7, Body: body} }

func bodies(n *Ether) string {
	s := ""
	for _, x := range n.All() {
		s += x.Body
	}
	return s
}

// P21.1: sending and taking, by places that go round.
func TestTake(t *testing.T) {
	n := New()
	if _, e := n.Take(0); e != api.ErrNone || n.Drop(0) != api.ErrNone || n.Double(0) != api.ErrNone || n.Len() != 0 || n.Lost() != 0 {
		t.Error("new")
	}
	for _, x := range []api.Packet{{From: -1}, {From: 8}, {To: -1}, {To: 8}, {To: 1 << 62}} {
		if n.Send(x) != api.ErrArg {
			t.Error(x)
		}
	}
	for _, b := range []string{"a", "b", "c", "d", "e"} {
		if n.Send(p(b)) != api.OK {
			t.Error(b)
		}
	}
	for _, x := range []struct {
		k    int
		want string
		left string
	}{{1, "b", "acde"}, {9, "c", "ade"}, {-1 << 63, "a", "de"}, {1<<63 - 1, "e", "d"}, {5, "d", ""}} {
		if got, e := n.Take(x.k); e != api.OK || got != p(x.want) || bodies(n) != x.left || n.Len() != len(x.left) {
			t.Error(x, got, e, bodies(n))
		}
	}
}

// P21.1: losing and doubling.
func TestDrop(t *testing.T) {
	n := New()
	for _, b := range []string{"a", "b", "c"} {
		n.Send(p(b))
	}
	if n.Drop(4) != api.OK || bodies(n) != "ac" || n.Lost() != 1 || n.Double(2) != api.OK || n.Double(1) != api.OK || bodies(n) != "acac" || n.Lost() != 1 {
		t.Error(bodies(n), n.Lost())
	}
	l := n.All()
	l[0].Body = "x"
	if bodies(n) != "acac" {
		t.Error("shared")
	}
	for n.Len() < api.MaxNet {
		n.Send(p("z"))
	}
	if n.Send(p("y")) != api.ErrFull || n.Lost() != 2 || n.Double(0) != api.ErrFull || n.Lost() != 2 || n.Len() != api.MaxNet || n.Send(api.Packet{To: 9}) != api.ErrArg {
		t.Error("full", n.Lost())
	}
	n.lost = api.MaxNum
	if n.Drop(0) != api.OK || n.Lost() != api.MaxNum {
		t.Error(n.Lost())
	}
}

// P21.2: those that nobody made.
func TestZero(t *testing.T) {
	for _, n := range []*Ether{nil, new(Ether)} {
		if x, e := n.Take(0); e != api.ErrZero || x != (api.Packet{}) {
			t.Error("take")
		}
		if n.Send(p("a")) != api.ErrZero || n.Send(api.Packet{From: -1}) != api.ErrZero || n.Drop(0) != api.ErrZero || n.Double(0) != api.ErrZero || n.Len() != 0 || n.Lost() != 0 || len(n.All()) != 0 {
			t.Error("not zero")
		}
	}
}

// P21.3: each that is sent is told once, but for what is lost or doubled.
func TestFollows(t *testing.T) {
	r := rand.New(rand.NewSource(22))
	n, due := New(), map[string]int{}
	for i := range 20000 {
		switch r.Intn(5) {
		case 0, 1:
			b := strconv.Itoa(i)
			if n.Send(p(b)) == api.OK {
				due[b]++
			}
		case 2:
			if all, k := n.All(), r.Intn(1000); len(all) > 0 && r.Intn(9) == 0 {
				n.Drop(k)
				due[all[k%len(all)].Body]--
			}
		case 3:
			if all, k := n.All(), r.Intn(1000); len(all) > 0 && n.Double(k) == api.OK {
				due[all[k%len(all)].Body]++
			}
		default:
			if x, e := n.Take(r.Intn(1000)); e == api.OK {
				if due[x.Body]--; due[x.Body] < 0 {
					t.Fatal("too often", x)
				}
			}
		}
	}
	for n.Len() > 0 {
		all := n.All()
		if x, _ := n.Take(0); x != all[0] || !slices.Equal(n.All(), all[1:]) {
			t.Fatal("order")
		}
		due[all[0].Body]--
	}
	for b, k := range due {
		if k != 0 {
			t.Fatal(b, k)
		}
	}
}
