package frame

import (
	"math/rand"
	"slices"
	"strings"
	"testing"

	"catena/api"
	"catena/sum"
)

func put(t *testing.T, s string) string {
	f, e := Put(s)
	if e != api.OK {
		t.Fatal(e)
	}
	return f
}

// P4.1: a frame is the length, the sum of both, and the text.
func TestPut(t *testing.T) {
	for _, s := range []string{"", "a", strings.Repeat("x", 247), strings.Repeat("x", 300)} {
		n := string([]byte{byte(len(s))})
		switch len(s) {
		case 300:
			n = "\xf9\x01\x2c"
		}
		c := sum.Sum(n + s)
		want := n + string([]byte{byte(c >> 24), byte(c >> 16), byte(c >> 8), byte(c)}) + s
		if got := put(t, s); got != want {
			t.Errorf("%d: %q", len(s), got)
		}
	}
	most := strings.Repeat("x", api.MaxFrame)
	if f, e := Put(most); e != api.OK || len(f) != 4+4+api.MaxFrame {
		t.Error("longest", e, len(f))
	}
	if f, e := Put(most + "x"); e != api.ErrLong || f != "" {
		t.Error("too long", e)
	}
}

// P4.1: each error of Next, in its order.
func TestNextWrong(t *testing.T) {
	a := put(t, "abc")
	for i, x := range []struct {
		s  string
		at int
		e  api.Errno
	}{
		{"", 0, api.ErrShort}, {a, -1, api.ErrArg}, {a, len(a) + 1, api.ErrArg}, {a, len(a), api.ErrShort},
		{"\xf8\x01", 0, api.ErrForm}, {"\xfa\x01\x00\x01", 0, api.ErrLong}, {"\xfa\x01\x00\x00", 0, api.ErrShort}, {"\xff\xff\xff\xff\xff\xff\xff\xff\xff", 0, api.ErrLong},
		{a[:len(a)-1], 0, api.ErrShort}, {a[:1], 0, api.ErrShort}, {"\x00abc", 0, api.ErrShort},
		{a[:len(a)-1] + "d", 0, api.ErrSum}, {"\x00\x00\x00\x00\x00", 0, api.ErrSum}, {"\x02" + a[1:], 0, api.ErrSum},
	} {
		if s, at, e := Next(x.s, x.at); s != "" || at != 0 || e != x.e {
			t.Errorf("%d: %q %d %d", i, s, at, e)
		}
	}
	if s, at, e := Next("zz"+a+"y", 2); s != "abc" || at != 2+len(a) || e != api.OK {
		t.Error("within", s, at, e)
	}
}

// P4.1, P4.2: of frames that are cut off anywhere the whole ones are told.
func TestAllCut(t *testing.T) {
	texts := []string{"a", "", "bcd", strings.Repeat("y", 260), "z"}
	s, ends := "", []int{0}
	for _, x := range texts {
		s += put(t, x)
		ends = append(ends, len(s))
	}
	for cut := range len(s) + 1 {
		n := 0
		for n < len(texts) && ends[n+1] <= cut {
			n++
		}
		want := api.OK
		if ends[n] < cut {
			want = api.ErrShort
		}
		l, at, e := All(s[:cut])
		if !slices.Equal(l, texts[:n]) || at != ends[n] || e != want {
			t.Fatalf("cut %d: %q %d %d", cut, l, at, e)
		}
	}
	bad := s[:ends[2]] + "\xf8\x01" + s[ends[2]:]
	if l, at, e := All(bad); len(l) != 2 || at != ends[2] || e != api.ErrForm {
		t.Error("form", l, at, e)
	}
	if l, at, e := All(""); len(l) != 0 || at != 0 || e != api.OK {
		t.Error("empty", l, at, e)
	}
}

// P4.2: a frame of which a short row of bits within the text is turned is not told.
func TestTurned(t *testing.T) {
	r := rand.New(rand.NewSource(6))
	for range 500 {
		text := make([]byte, 4+r.Intn(30))
		r.Read(text)
		f := []byte(put(t, string(text)))
		bits, from := r.Uint32()|1, r.Intn(len(text)*8-31)
		for i := range 32 {
			if bits>>i&1 == 1 {
				f[5+(from+i)/8] ^= 1 << ((from + i) % 8)
			}
		}
		if l, at, e := All(string(f) + "x"); len(l) != 0 || at != 0 || e != api.ErrSum {
			t.Fatal(l, at, e)
		}
	}
}
