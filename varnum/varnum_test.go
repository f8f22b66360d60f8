package varnum

import (
	"math/rand"
	"slices"
	"testing"

	"catena/api"
)

var edges = []uint64{0, 1, 246, 247, 248, 255, 256, 300, 65535, 65536, 1<<24 - 1, 1 << 24, 1<<32 - 1, 1 << 32, 1<<40 - 1, 1 << 40, 1<<48 - 1, 1 << 48, 1<<56 - 1, 1 << 56, 1<<63 - 1, 1 << 63, 1<<64 - 1}

// P1.1: the bytes of a number.
func TestPut(t *testing.T) {
	for n, want := range map[uint64]string{0: "\x00", 247: "\xf7", 248: "\xf8\xf8", 255: "\xf8\xff", 256: "\xf9\x01\x00", 300: "\xf9\x01\x2c", 1 << 32: "\xfc\x01\x00\x00\x00\x00", 1<<64 - 1: "\xff\xff\xff\xff\xff\xff\xff\xff\xff"} {
		if got := Put(n); got != want {
			t.Errorf("Put(%d): %q", n, got)
		}
		if Len(n) != len(want) {
			t.Errorf("Len(%d): %d", n, Len(n))
		}
	}
}

// P1.1: what can't be read, and which error that is.
func TestGetWrong(t *testing.T) {
	for _, x := range []struct {
		s  string
		at int
		e  api.Errno
	}{
		{"", 0, api.ErrShort}, {"", 1, api.ErrArg}, {"a", 1, api.ErrShort}, {"a", 2, api.ErrArg}, {"a", -1, api.ErrArg},
		{"a", 1<<63 - 1, api.ErrArg}, {"a", -1 << 63, api.ErrArg},
		{"\xf8", 0, api.ErrShort}, {"\xff\xff\xff\xff\xff\xff\xff\xff", 0, api.ErrShort}, {"\xf9\x00", 0, api.ErrShort},
		{"\xf8\xf7", 0, api.ErrForm}, {"\xf8\x00", 0, api.ErrForm}, {"\xf9\x00\xff", 0, api.ErrForm}, {"\xff\x00\xff\xff\xff\xff\xff\xff\xff", 0, api.ErrForm},
	} {
		if n, at, e := Get(x.s, x.at); e != x.e || n != 0 || at != 0 {
			t.Errorf("Get(%q, %d): %d %d %d", x.s, x.at, n, at, e)
		}
	}
}

// P1.1: All tells all, or the first error.
func TestAll(t *testing.T) {
	if l, e := All("\x01\xf8\xff\x00"); e != api.OK || !slices.Equal(l, []uint64{1, 255, 0}) {
		t.Errorf("%v %d", l, e)
	}
	if l, e := All(""); e != api.OK || len(l) != 0 {
		t.Errorf("empty: %v %d", l, e)
	}
	if l, e := All("\x01\xf8\x01\xf8"); e != api.ErrForm || l != nil {
		t.Errorf("form ahead of short: %v %d", l, e)
	}
	if l, e := All("\x01\xf9\x01"); e != api.ErrShort || l != nil {
		t.Errorf("short: %v %d", l, e)
	}
}

// P1.2: what is put is got, whatever stands around it; the order is that of the bytes.
func TestFollows(t *testing.T) {
	r := rand.New(rand.NewSource(1))
	nums := slices.Clone(edges)
	for range 2000 {
		nums = append(nums, r.Uint64()>>r.Intn(64))
	}
	for i, n := range nums {
		for _, ahead := range []string{"", "\xff", "abc"} {
			s := ahead + Put(n) + "\xffx"
			got, at, e := Get(s, len(ahead))
			if got != n || at != len(ahead)+Len(n) || e != api.OK {
				t.Fatalf("%d: %d %d %d", n, got, at, e)
			}
		}
		m := nums[(i+1)%len(nums)]
		if (n < m) != (Put(n) < Put(m)) {
			t.Fatalf("order of %d, %d", n, m)
		}
	}
	for range 20000 {
		b := make([]byte, 1+r.Intn(10))
		r.Read(b)
		b[0] |= byte(r.Intn(2) * 248)
		if n, at, e := Get(string(b), 0); e == api.OK && Put(n) != string(b[:at]) {
			t.Fatalf("two forms of %d", n)
		}
	}
}
