package item

import (
	"math/rand"
	"testing"

	"catena/api"
	"catena/ops"
)

func entry(client, req int, ts uint64, l ...api.Op) api.Entry {
	return api.Entry{Batch: api.Batch{Client: client, Req: req, Ops: l}, Ts: ts}
}

// P8.1: Check, the bytes, and what can't be read.
func TestBytes(t *testing.T) {
	a := entry(1, 2, 300, api.Op{Key: "a", Val: "1"})
	want := "\xf9\x01\x2c" + "\x08" + "\x01\x02\x01\x01a\x00\x011"
	if s, e := Put(a); s != want || e != api.OK || Check(a) != api.OK {
		t.Errorf("%q %d", s, e)
	}
	for _, x := range []struct {
		e   api.Entry
		err api.Errno
	}{{entry(3, 1, 5), api.ErrArg}, {entry(0, 0, 5), api.ErrRange}, {entry(0, 1, 5, api.Op{}), api.ErrKey}} {
		if s, e := Put(x.e); s != "" || e != x.err || Check(x.e) != x.err {
			t.Errorf("%v: %q %d", x.e, s, e)
		}
	}
	for i, x := range []struct {
		s string
		e api.Errno
	}{
		{"", api.ErrShort}, {"\x05", api.ErrShort}, {"\x05\x03\x00\x01", api.ErrShort}, {"\x05\xfa\x01\x00\x01", api.ErrLong}, {"\x05\x00", api.ErrShort},
		{"\x05\x03\x03\x01\x00", api.ErrRange}, {"\x05\x04\x00\x01\x00\x00", api.ErrForm}, {"\x05\x03\x00\x00\x00", api.ErrRange}, {want + "x", api.ErrForm}, {"\xf8\x01\x00", api.ErrForm}, {"\x05\x01\xffx", api.ErrForm},
	} {
		if got, e := Of(x.s); e != x.e || !Same(got, api.Entry{}) {
			t.Errorf("%d: %v %d", i, got, e)
		}
	}
}

// P8.1: Same and Twins.
func TestSame(t *testing.T) {
	a := entry(1, 2, 3, api.Op{Key: "a"})
	for _, x := range []struct {
		e           api.Entry
		same, twins bool
	}{{entry(1, 2, 3, api.Op{Key: "a"}), true, true}, {entry(1, 2, 4, api.Op{Key: "a"}), false, true}, {entry(1, 2, 3), false, true}, {entry(1, 3, 3, api.Op{Key: "a"}), false, false}, {entry(2, 2, 3, api.Op{Key: "a"}), false, false}, {entry(2, 1, 3), false, false}} {
		if Same(a, x.e) != x.same || Twins(a, x.e) != x.twins {
			t.Errorf("%v", x.e)
		}
	}
}

// P8.2: which lists are right.
func TestRight(t *testing.T) {
	for i, x := range []struct {
		l       []api.Entry
		e       api.Errno
		stamped int
		last    uint64
	}{
		{nil, api.OK, 0, 0},
		{[]api.Entry{entry(0, 1, 3), entry(0, 2, 5), entry(1, 1, 0)}, api.OK, 2, 5},
		{[]api.Entry{entry(0, 1, 0), entry(0, 2, 0)}, api.OK, 0, 0},
		{[]api.Entry{entry(0, 1, 0), entry(0, 2, 5)}, api.ErrOrder, 0, 0},
		{[]api.Entry{entry(0, 1, 5), entry(0, 2, 5)}, api.ErrOrder, 2, 5},
		{[]api.Entry{entry(0, 1, 5), entry(0, 2, 4)}, api.ErrOrder, 2, 4},
		{[]api.Entry{entry(0, 1, 5), entry(0, 2, 0), entry(0, 1, 0)}, api.ErrOrder, 1, 5},
		{[]api.Entry{entry(0, 2, api.MaxTs-1), entry(2, 1, api.MaxTs), entry(2, 2, 0), entry(1, 2, 0)}, api.OK, 2, api.MaxTs},
		{[]api.Entry{entry(0, 1, 5), entry(0, 0, 1), entry(0, 1, 0)}, api.ErrRange, 3 - 1, 1},
		{[]api.Entry{entry(0, 1, 5), entry(0, 1, 6), entry(9, 0, 0)}, api.ErrOrder, 2, 6},
	} {
		if Right(x.l) != x.e || Stamped(x.l) != x.stamped || Last(x.l) != x.last {
			t.Errorf("%d: %d %d %d", i, Right(x.l), Stamped(x.l), Last(x.l))
		}
	}
}

// P8.3: what is put is read, what is read is put; a beginning of a right list is right.
func TestFollows(t *testing.T) {
	r := rand.New(rand.NewSource(10))
	for range 2000 {
		e := entry(r.Intn(3), 1+r.Intn(300), r.Uint64()>>r.Intn(64), ops.Norm([]api.Op{{Key: "abc"[r.Intn(3):], Val: "x"}, {Key: "q", Del: true}})...)
		s, err := Put(e)
		got, err2 := Of(s)
		if err != api.OK || err2 != api.OK || !Same(e, got) {
			t.Fatal(e, got, err, err2)
		}
		noise := make([]byte, r.Intn(9))
		for i := range noise {
			noise[i] = byte(r.Intn(6))
		}
		if got, err := Of(string(noise)); err == api.OK {
			if s, _ := Put(got); s != string(noise) {
				t.Fatalf("%q is put as %q", noise, s)
			}
		}
		var l []api.Entry
		for range r.Intn(6) {
			l = append(l, entry(r.Intn(2), 1+r.Intn(9), uint64(r.Intn(9))))
		}
		for i := range l {
			if Right(l) == api.OK && Right(l[:i]) != api.OK {
				t.Fatal(l)
			}
		}
	}
}
