package conf

import (
	"math/rand"
	"testing"

	"catena/api"
)

func chain(epoch int, floor uint64, l ...api.Member) api.Conf {
	return api.Conf{Epoch: epoch, Members: l, Floor: floor}
}

func m(id, serial int) api.Member { return api.Member{Id: id, Serial: serial} }

// P7.1: what is wrong with a configuration, the first thing first.
func TestCheck(t *testing.T) {
	for i, x := range []struct {
		c api.Conf
		e api.Errno
	}{
		{chain(1, 0, m(0, 1)), api.OK}, {chain(api.MaxEpoch, api.MaxTs, m(3, api.MaxSerial), m(0, 1), m(1, 1), m(2, 1)), api.OK},
		{chain(0, 0), api.ErrRange}, {chain(-1, 0), api.ErrRange}, {chain(api.MaxEpoch+1, 0, m(0, 1)), api.ErrRange}, {chain(1, 0), api.ErrNone},
		{chain(1, 0, m(0, 1), m(1, 1), m(2, 1), m(3, 1), m(9, 1)), api.ErrFull}, {chain(1, 0, m(-1, 0)), api.ErrArg}, {chain(1, 0, m(4, 1)), api.ErrArg},
		{chain(1, 0, m(0, 0)), api.ErrRange}, {chain(1, 0, m(0, api.MaxSerial+1)), api.ErrRange}, {chain(1, 0, m(0, 1), m(0, 0)), api.ErrRange},
		{chain(1, 0, m(0, 1), m(1, 1), m(0, 2)), api.ErrOrder}, {chain(1, 0, m(0, 1), m(0, 1), m(9, 1)), api.ErrOrder},
	} {
		if e := Check(x.c); e != x.e {
			t.Errorf("%d: %d", i, e)
		}
		if s, e := Put(x.c); e != x.e || (e != api.OK) != (s == "") {
			t.Errorf("Put %d: %q %d", i, s, e)
		}
	}
}

// P7.2: the bytes, and what can't be read.
func TestBytes(t *testing.T) {
	want := "\x05\x02\x02\x01\x00\x07\xf9\x01\x2c"
	if s, e := Put(chain(5, 300, m(2, 1), m(0, 7))); s != want || e != api.OK {
		t.Errorf("%q %d", s, e)
	}
	for i, x := range []struct {
		s string
		e api.Errno
	}{
		{"", api.ErrShort}, {"\x01", api.ErrShort}, {"\x01\x05", api.ErrRange}, {"\x00\x00\x00", api.ErrRange}, {"\x01\x00\x00", api.ErrNone}, {"\xfb\x40\x00\x00\x01", api.ErrRange},
		{"\x01\x01\x04\x01\x00", api.ErrRange}, {"\x01\x01\x00\xfb\x40\x00\x00\x01\x00", api.ErrRange}, {"\x01\x01\x00\x00\x00", api.ErrRange}, {"\x01\x02\x00\x01\x00\x01\x00", api.ErrOrder},
		{want + "\x00", api.ErrForm}, {want[:len(want)-1], api.ErrShort}, {"\x01\x01\x00\x01\xf8\x01", api.ErrForm},
	} {
		if c, e := Of(x.s); e != x.e || !Same(c, api.Conf{}) {
			t.Errorf("%d: %v %d", i, c, e)
		}
	}
}

// P7.2: Same looks at all fields.
func TestSame(t *testing.T) {
	a := chain(5, 3, m(2, 1), m(0, 7))
	for _, x := range []api.Conf{chain(4, 3, m(2, 1), m(0, 7)), chain(5, 4, m(2, 1), m(0, 7)), chain(5, 3, m(2, 1)), chain(5, 3, m(0, 7), m(2, 1)), chain(5, 3, m(2, 2), m(0, 7)), chain(5, 3)} {
		if Same(a, x) || Same(x, a) {
			t.Errorf("%v", x)
		}
	}
	if !Same(a, chain(5, 3, m(2, 1), m(0, 7))) || !Same(chain(1, 0), api.Conf{Epoch: 1, Members: []api.Member{}}) {
		t.Error("the same")
	}
}

// P7.3: places, neighbours, ends.
func TestPlaces(t *testing.T) {
	c := chain(1, 0, m(2, 1), m(0, 7), m(1, 1))
	for _, x := range []struct {
		m                    api.Member
		place, ahead, behind int
	}{{m(2, 1), 0, -1, 0}, {m(0, 7), 1, 2, 1}, {m(1, 1), 2, 0, -1}, {m(0, 1), -1, -1, -1}, {m(3, 1), -1, -1, -1}, {m(-1, 0), -1, -1, -1}} {
		if Place(c, x.m) != x.place || Ahead(c, x.m) != x.ahead || Behind(c, x.m) != x.behind {
			t.Errorf("%v: %d %d %d", x.m, Place(c, x.m), Ahead(c, x.m), Behind(c, x.m))
		}
	}
	if Head(c) != 2 || Tail(c) != 1 || Head(chain(1, 0, m(2, 1), m(0, 1))) != 2 || Tail(chain(1, 0, m(2, 1), m(0, 1))) != 0 {
		t.Error("ends")
	}
	if Head(api.Conf{}) != -1 || Tail(api.Conf{}) != -1 || Behind(api.Conf{}, m(0, 1)) != -1 || Ahead(api.Conf{}, api.Member{}) != -1 {
		t.Error("none")
	}
}

// P7.4: what is put is read, what is read is put; ahead and behind fit.
func TestFollows(t *testing.T) {
	r := rand.New(rand.NewSource(9))
	for range 3000 {
		c := chain(1+r.Intn(400), r.Uint64()>>r.Intn(64))
		for _, id := range r.Perm(4)[:1+r.Intn(4)] {
			c.Members = append(c.Members, m(id, 1+r.Intn(300)))
		}
		s, e := Put(c)
		d, e2 := Of(s)
		if e != api.OK || e2 != api.OK || !Same(c, d) {
			t.Fatal(c, d, e, e2)
		}
		for i, x := range c.Members {
			if b := Behind(c, x); b >= 0 && (Ahead(c, c.Members[i+1]) != x.Id || c.Members[i+1].Id != b) {
				t.Fatal(c, x)
			}
		}
		noise := make([]byte, r.Intn(8))
		for i := range noise {
			noise[i] = byte(r.Intn(4))
		}
		if c, e := Of(string(noise)); e == api.OK {
			if s, _ := Put(c); s != string(noise) {
				t.Fatalf("%q is put as %q", noise, s)
			}
		}
	}
}
