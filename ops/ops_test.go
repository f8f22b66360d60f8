package ops

import (
	"math/rand"
	"slices"
	"testing"

	"catena/api"
)

func batch(client, req int, l ...api.Op) api.Batch {
	return api.Batch{Client: client, Req: req, Ops: l}
}

// P6.1: what is wrong with a batch, the first thing first.
func TestCheck(t *testing.T) {
	a, b := api.Op{Key: "a", Val: "1"}, api.Op{Key: "b", Del: true}
	long := "123456789"
	for i, x := range []struct {
		b api.Batch
		e api.Errno
	}{
		{batch(0, 1), api.OK}, {batch(2, api.MaxReq, a, b), api.OK}, {batch(0, 1, api.Op{Key: long[:8], Val: long[:8]}), api.OK},
		{batch(-1, 0), api.ErrArg}, {batch(3, 1), api.ErrArg}, {batch(0, 0), api.ErrRange}, {batch(0, -1), api.ErrRange}, {batch(0, api.MaxReq+1, a, a, a, a, a), api.ErrRange},
		{batch(0, 1, a, a, a, a, a), api.ErrFull}, {batch(0, 1, a, b, api.Op{Key: "c"}, api.Op{Key: "d"}), api.OK},
		{batch(0, 1, api.Op{}), api.ErrKey}, {batch(0, 1, api.Op{Key: long, Val: long}), api.ErrKey},
		{batch(0, 1, api.Op{Key: "a", Val: long, Del: true}), api.ErrLong}, {batch(0, 1, api.Op{Key: "a", Val: "1", Del: true}), api.ErrForm},
		{batch(0, 1, a, a), api.ErrOrder}, {batch(0, 1, b, a), api.ErrOrder}, {batch(0, 1, b, api.Op{Key: "a", Val: "1", Del: true}), api.ErrForm}, {batch(0, 1, b, a, api.Op{}), api.ErrOrder},
	} {
		if e := Check(x.b); e != x.e {
			t.Errorf("%d: %d", i, e)
		}
		if s, e := Put(x.b); e != x.e || (e != api.OK) != (s == "") {
			t.Errorf("Put %d: %q %d", i, s, e)
		}
	}
}

// P6.2: the bytes of a batch, and what can't be read.
func TestBytes(t *testing.T) {
	b := batch(1, 300, api.Op{Key: "a", Val: "12"}, api.Op{Key: "b", Del: true})
	want := "\x01\xf9\x01\x2c\x02" + "\x01a\x00\x0212" + "\x01b\x01\x00"
	if s, e := Put(b); s != want || e != api.OK {
		t.Errorf("%q %d", s, e)
	}
	for i, x := range []struct {
		s string
		e api.Errno
	}{
		{"", api.ErrShort}, {"\x03", api.ErrRange}, {"\x00\xfb\x40\x00\x00\x01", api.ErrRange}, {"\x00\x00", api.ErrShort}, {"\x00\x00\x00", api.ErrRange}, {"\x00\x00\x00\x00", api.ErrForm},
		{"\x00\x01\x05", api.ErrRange}, {"\x00\x01\x01\x09", api.ErrLong}, {"\x00\x01\x01\x00\x00\x00", api.ErrKey}, {"\x00\x01\x01\x01a\x02", api.ErrForm},
		{"\x00\x01\x01\x01a\x00\x09", api.ErrLong}, {"\x00\x01\x01\x01a\x01\x01x", api.ErrForm}, {"\x00\x01\x02\x01b\x00\x00\x01a\x00\x00", api.ErrOrder}, {want + "x", api.ErrForm}, {want[:len(want)-1], api.ErrShort},
	} {
		if b, e := Of(x.s); e != x.e || !Same(b, api.Batch{}) {
			t.Errorf("%d: %v %d", i, b, e)
		}
	}
}

// P6.2: Same looks at all fields.
func TestSame(t *testing.T) {
	a := batch(1, 2, api.Op{Key: "a", Val: "1"})
	for _, x := range []api.Batch{batch(0, 2, a.Ops...), batch(1, 3, a.Ops...), batch(1, 2), batch(1, 2, api.Op{Key: "b", Val: "1"}), batch(1, 2, api.Op{Key: "a", Val: "2"}), batch(1, 2, api.Op{Key: "a", Val: "1", Del: true}), batch(1, 2, a.Ops[0], a.Ops[0])} {
		if Same(a, x) || Same(x, a) {
			t.Errorf("%v", x)
		}
	}
	if !Same(a, batch(1, 2, api.Op{Key: "a", Val: "1"})) || !Same(batch(1, 2), api.Batch{Client: 1, Req: 2, Ops: []api.Op{}}) {
		t.Error("the same")
	}
}

// P6.3: Norm and Over, of whatever operations.
func TestOver(t *testing.T) {
	l := []api.Op{{Key: "b", Val: "1"}, {Key: "a", Val: "2"}, {Key: "b", Del: true, Val: "x"}, {Key: ""}}
	if got := Norm(l); !slices.Equal(got, []api.Op{{Key: ""}, {Key: "a", Val: "2"}, {Key: "b", Del: true, Val: "x"}}) || l[0].Val != "1" {
		t.Errorf("%v", got)
	}
	if len(Norm(nil)) != 0 || len(Over(nil, nil)) != 0 {
		t.Error("nothing")
	}
	pairs := []api.Pair{{Key: "c", Val: "0"}, {Key: "a", Val: "1"}, {Key: "c", Val: "3"}}
	if got := Over(pairs, []api.Op{{Key: "a", Del: true}, {Key: "b", Val: "2"}}); !slices.Equal(got, []api.Pair{{Key: "b", Val: "2"}, {Key: "c", Val: "3"}}) {
		t.Errorf("%v", got)
	}
	if got := Over(nil, []api.Op{{Key: "a", Val: "1"}, {Key: "a", Del: true, Val: "x"}, {Key: "z", Del: true}, {Key: "b"}}); !slices.Equal(got, []api.Pair{{Key: "b"}}) {
		t.Errorf("%v", got)
	}
}

// P6.4: what is put is read, what is read is put; Over by Norm is Over.
func TestFollows(t *testing.T) {
	r := rand.New(rand.NewSource(8))
	for range 3000 {
		var l []api.Op
		for range r.Intn(6) {
			o := api.Op{Key: "abcdef"[:r.Intn(3)], Del: r.Intn(3) == 0}
			if !o.Del || r.Intn(9) == 0 {
				o.Val = "123"[r.Intn(3):]
			}
			l = append(l, o)
		}
		b := batch(r.Intn(3), 1+r.Intn(500), Norm(l)...)
		if s, e := Put(b); e == api.OK {
			if c, e := Of(s); e != api.OK || !Same(b, c) {
				t.Fatal(b, c, e)
			}
		}
		noise := make([]byte, r.Intn(12))
		for i := range noise {
			noise[i] = byte(r.Intn(4))
		}
		if b, e := Of(string(noise)); e == api.OK {
			if s, _ := Put(b); s != string(noise) {
				t.Fatalf("%q is put as %q", noise, s)
			}
		}
		base := []api.Pair{{Key: "a", Val: "0"}, {Key: "ab", Val: "9"}}
		if !slices.Equal(Over(base, l), Over(base, Norm(l))) {
			t.Fatal(l)
		}
	}
}
