package link

import (
	"math/rand"
	"slices"
	"strconv"
	"strings"
	"testing"

	"catena/api"
)

func seg(boot, stream, seq, ackBoot, ackStream, ackSeq int, body ...string) api.Seg {
	s := api.Seg{Boot: boot, Stream: stream, Seq: seq, AckBoot: ackBoot, AckStream: ackStream, AckSeq: ackSeq}
	if len(body) > 0 {
		s.Has, s.Body = true, body[0]
	}
	return s
}

// P22.1: the bytes of a segment, and what can't be read.
func TestBytes(t *testing.T) {
	g := seg(1, 2, 3, 4, 5, 6, "ab")
	if s, e := Put(g); s != "\x01\x02\x03\x04\x05\x06\x01\x02ab" || e != api.OK {
		t.Errorf("%q %d", s, e)
	}
	if s, e := Put(seg(1, 2, -3, 4, 5, 6, strings.Repeat("x", api.MaxFrame+1))); s != "" || e != api.ErrRange {
		t.Error(e)
	}
	if s, e := Put(seg(1, 2, 3, 4, 5, 6, strings.Repeat("x", api.MaxFrame+1))); s != "" || e != api.ErrLong {
		t.Error(e)
	}
	for _, g := range []api.Seg{g, {}, seg(api.MaxNum, 0, 0, 0, 0, api.MaxNum), {Boot: 1, Body: "x"}, seg(1, 1, 1, 1, 1, 1, strings.Repeat("x", api.MaxFrame))} {
		s, e := Put(g)
		if back, e2 := Of(s); back != g || e != api.OK || e2 != api.OK {
			t.Error(g, e, e2)
		}
	}
	over, _ := Put(seg(api.MaxNum+1, 0, 0, 0, 0, 0))
	for i, x := range []struct {
		s string
		e api.Errno
	}{{"", api.ErrShort}, {over, api.ErrRange}, {"\x01\x01\x01\x01\x01\x01\x02\x00", api.ErrForm}, {"\x01\x01\x01\x01\x01\x01\x01\x02a", api.ErrShort}, {"\x01\x01\x01\x01\x01\x01\x01\xfa\x01\x00\x01", api.ErrLong}, {"\x01\x01\x01\x01\x01\x01\x00\x00\x00", api.ErrForm}} {
		if g, e := Of(x.s); g != (api.Seg{}) || e != x.e {
			t.Errorf("%d: %v %d", i, g, e)
		}
	}
}

// P22.2: what can be made, and sent.
func TestSend(t *testing.T) {
	for boot, want := range map[int]api.Errno{-1: api.ErrArg, 0: api.ErrArg, 1: api.OK, api.MaxNum: api.OK, api.MaxNum + 1: api.ErrArg} {
		if l, e := New(boot); e != want || (l == nil) != (e != api.OK) {
			t.Error(boot, e)
		}
	}
	l, _ := New(3)
	if l.Knows() != 0 || l.Waiting() != 0 || len(l.Out(true)) != 0 {
		t.Error("new")
	}
	for i := range api.MaxQueue {
		if l.Send(strings.Repeat("x", i*api.MaxFrame/(api.MaxQueue-1))) != api.OK || l.Waiting() != i+1 {
			t.Error(i)
		}
	}
	if l.Send(strings.Repeat("x", api.MaxFrame+1)) != api.ErrLong || l.Send("a") != api.ErrFull || l.Waiting() != api.MaxQueue {
		t.Error("full")
	}
}

// P22.3: what goes out.
func TestOut(t *testing.T) {
	l, _ := New(3)
	for i := range 6 {
		l.Send(strconv.Itoa(i))
	}
	four := []api.Seg{seg(3, 1, 0, 0, 0, 0, "0"), seg(3, 1, 1, 0, 0, 0, "1"), seg(3, 1, 2, 0, 0, 0, "2"), seg(3, 1, 3, 0, 0, 0, "3")}
	if got := l.Out(false); !slices.Equal(got, four) {
		t.Error(got)
	}
	if got := l.Out(false); len(got) != 0 {
		t.Error("told ahead", got)
	}
	if got := l.Out(true); !slices.Equal(got, four) {
		t.Error("again", got)
	}
	l.In(seg(9, 2, 7, 3, 1, 2))
	if got := l.Out(false); !slices.Equal(got, []api.Seg{seg(3, 1, 4, 9, 2, 0, "4"), seg(3, 1, 5, 9, 2, 0, "5")}) {
		t.Error("the next ones", got)
	}
	l.In(seg(9, 2, 7, 3, 1, 9, "x"))
	if got := l.Out(true); !slices.Equal(got, []api.Seg{seg(3, 1, 6, 9, 2, 0)}) || len(l.Out(true)) != 0 {
		t.Error("a word", got)
	}
	l.In(seg(9, 2, 0, 3, 1, 6, "x"))
	l.Send("7")
	if got := l.Out(false); !slices.Equal(got, []api.Seg{seg(3, 1, 6, 9, 2, 1, "7")}) || len(l.Out(false)) != 0 {
		t.Error("the text is the word", got)
	}
	l.In(seg(9, 2, 0, 3, 1, 6, "x"))
	if got := l.Out(false); !slices.Equal(got, []api.Seg{seg(3, 1, 6, 9, 2, 1)}) {
		t.Error("a word, while one waits that was told", got)
	}
}

// P22.4: what a segment does.
func TestIn(t *testing.T) {
	l, _ := New(3)
	for _, s := range []api.Seg{seg(0, 1, 0, 3, 1, 0, "x"), seg(-1, 1, 0, 3, 1, 0), seg(1, -1, 0, 3, 1, 0), seg(1, 1, -1, 3, 1, 0), seg(1, 1, 0, -3, 1, 0), seg(1, 1, 0, 3, -1, 0), seg(1, 1, 0, 3, 1, -1), seg(api.MaxNum+1, 1, 0, 3, 1, 0), seg(1, 1, 0, 3, 1, api.MaxNum+1)} {
		if got, e := l.In(s); len(got) != 0 || e != api.ErrArg || l.Knows() != 0 || len(l.Out(false)) != 0 {
			t.Error(s, got, e)
		}
	}
	other, _ := New(3)
	if got, e := other.In(seg(1, api.MaxNum, api.MaxNum, api.MaxNum, api.MaxNum, api.MaxNum)); len(got) != 0 || e != api.OK || other.Knows() != 1 {
		t.Error("the greatest numbers", e)
	}
	l.Send("a")
	l.Send("b")
	for i, x := range []struct {
		s       api.Seg
		told    string
		knows   int
		waiting int
	}{
		{seg(5, 2, 0, 0, 0, 0, "x"), "", 5, 2}, // who sends it knows not whom it is for
		{seg(5, 2, 0, 3, 1, 0, "x"), "x", 5, 2}, {seg(5, 2, 0, 3, 1, 0, "x"), "", 5, 2}, {seg(5, 2, 2, 3, 1, 0, "z"), "", 5, 2},
		{seg(5, 1, 1, 3, 1, 1, "y"), "", 5, 1}, {seg(5, 2, 1, 3, 0, 2, "y"), "y", 5, 1}, {seg(4, 9, 0, 3, 1, 2, "q"), "", 5, 1},
		{seg(5, 3, 1, 3, 1, 0, "r"), "", 5, 1}, {seg(5, 3, 0, 3, 1, 0, "r"), "r", 5, 1}, {seg(5, 3, 1, 2, 1, 2, "s"), "", 5, 1}, {seg(5, 3, 1, 3, 1, 0), "", 5, 1},
		{seg(6, 1, 0, 3, 1, 9, "n"), "n", 6, 1}, // started anew: what it says of the old stream counts no more
		{seg(6, 1, 1, 3, 2, 1, "o"), "o", 6, 0},
	} {
		got, e := l.In(x.s)
		if e != api.OK || strings.Join(got, "") != x.told || len(got) != len(x.told) || l.Knows() != x.knows || l.Waiting() != x.waiting {
			t.Errorf("%d: %q %d, knows %d, %d wait", i, got, e, l.Knows(), l.Waiting())
		}
	}
	l.Send("c")
	if got := l.Out(false); !slices.Equal(got, []api.Seg{seg(3, 2, 1, 6, 1, 2, "c")}) {
		t.Error(got)
	}
	l.In(seg(7, 4, 0, 0, 0, 0))
	if got := l.Out(false); !slices.Equal(got, []api.Seg{seg(3, 3, 0, 7, 4, 0, "c")}) {
		t.Error("numbers anew", got)
	}
}

// P22.5: those that nobody made.
func TestZero(t *testing.T) {
	for _, l := range []*Link{nil, new(Link)} {
		if got, e := l.In(seg(1, 1, 0, 0, 0, 0, "x")); len(got) != 0 || e != api.ErrZero {
			t.Error("in")
		}
		if l.Send("a") != api.ErrZero || len(l.Out(true)) != 0 || l.Waiting() != 0 || l.Knows() != 0 {
			t.Error("not zero")
		}
	}
}

// The example: two links, one sends a text.
func TestExample(t *testing.T) {
	a, _ := New(1)
	b, _ := New(1)
	a.Send("a")
	for i, again := range []bool{false, false, true} {
		from, to := a, b
		if i == 1 {
			from, to = b, a
		}
		for _, s := range from.Out(again) {
			if got, _ := to.In(s); (len(got) == 1) != (i == 2) {
				t.Error(i, got)
			}
		}
	}
}

// P22.6: whatever is lost, doubled, mixed, started anew: in order, at most once; and in the end all comes.
func TestFollows(t *testing.T) {
	r := rand.New(rand.NewSource(23))
	for range 300 {
		var ends [2]*Link
		var boots [2]int
		var sent, heard [2][]string
		start := func(i int) {
			boots[i]++
			ends[i], _ = New(boots[i])
			sent[i], heard[i] = nil, nil
		}
		start(0)
		start(1)
		var way []struct {
			to int
			s  api.Seg
		}
		count := 0
		out := func(i int, again bool) {
			for _, s := range ends[i].Out(again) {
				way = append(way, struct {
					to int
					s  api.Seg
				}{1 - i, s})
			}
		}
		in := func(k int, stays bool) {
			x := way[k]
			if !stays {
				way = slices.Delete(way, k, k+1)
			}
			got, _ := ends[x.to].In(x.s)
			heard[x.to] = append(heard[x.to], got...)
		}
		// allSent has of each boot of a side what it sent, by numbers that rise over all.
		rises := func(l []string) bool {
			last := -1
			for _, s := range l {
				n, _ := strconv.Atoi(s)
				if n <= last {
					return false
				}
				last = n
			}
			return true
		}
		for range 300 {
			i := r.Intn(2)
			switch r.Intn(12) {
			case 0, 1, 2:
				if s := strconv.Itoa(count); ends[i].Send(s) == api.OK {
					sent[i] = append(sent[i], s)
					count++
				}
			case 3, 4, 5:
				out(i, r.Intn(2) == 0)
			case 6:
				if r.Intn(10) == 0 {
					start(i)
				}
			default:
				if len(way) > 0 {
					in(r.Intn(len(way)), r.Intn(4) == 0)
				}
			}
			if !rises(heard[0]) || !rises(heard[1]) {
				t.Fatal(heard)
			}
		}
		for range 60 {
			for i := range 2 {
				out(i, true)
				for len(way) > 0 {
					in(0, false)
				}
			}
		}
		if ends[0].Waiting() != 0 || ends[1].Waiting() != 0 {
			t.Fatal("waits")
		}
		for i := range 2 {
			n := len(heard[1-i])
			if len(sent[i]) > 0 && (n == 0 || heard[1-i][n-1] != sent[i][len(sent[i])-1]) {
				t.Fatal("did not come", sent[i], heard[1-i])
			}
		}
	}
}
