package wire

import (
	"math/rand"
	"strings"
	"testing"

	"catena/api"
)

// P2.1: what a Writer writes, and that its first error stays.
func TestWriter(t *testing.T) {
	if s, e := New().Done(); s != "" || e != api.OK {
		t.Errorf("new: %q %d", s, e)
	}
	w := New()
	if w.Num(300).Big(1<<64-1).Text("ab").Flag(true).Flag(false).Num(0).Text("") != w {
		t.Error("a call answers another Writer")
	}
	want := "\xf9\x01\x2c" + "\xff\xff\xff\xff\xff\xff\xff\xff\xff" + "\x02ab" + "\x01\x00" + "\x00" + "\x00"
	for range 2 {
		if s, e := w.Done(); s != want || e != api.OK {
			t.Errorf("%q %d", s, e)
		}
	}
	w.Num(7)
	if s, _ := w.Done(); s != want+"\x07" {
		t.Errorf("behind Done: %q", s)
	}
	w.Num(-1).Num(3).Num(-1 << 63).Text("x").Flag(true).Big(9)
	if s, e := w.Done(); s != "" || e != api.ErrRange {
		t.Errorf("below 0: %q %d", s, e)
	}
	if v := New(); v.Num(-1) != v || v.Num(1) != v {
		t.Error("with an error a call answers another Writer")
	}
	if s, e := New().Text(strings.Repeat("x", 300)).Done(); e != api.OK || len(s) != 303 {
		t.Errorf("long text: %d %d", len(s), e)
	}
}

// P2.2: each part that can't be read, with its error.
func TestReaderWrong(t *testing.T) {
	num := func(most int) func(r *Reader) bool { return func(r *Reader) bool { return r.Num(most) == 0 } }
	big := func(r *Reader) bool { return r.Big() == 0 }
	text := func(most int) func(r *Reader) bool { return func(r *Reader) bool { return r.Text(most) == "" } }
	flag := func(r *Reader) bool { return !r.Flag() }
	for i, x := range []struct {
		s    string
		read func(r *Reader) bool
		e    api.Errno
	}{
		{"", num(5), api.ErrShort}, {"\x06", num(5), api.ErrRange}, {"\x00", num(-1), api.ErrRange}, {"\x00", num(-1 << 63), api.ErrRange},
		{"\xf8\x01", num(5), api.ErrForm}, {"\xf8", num(-1), api.ErrShort}, {"\xff\xff\xff\xff\xff\xff\xff\xff\xff", num(1<<63 - 1), api.ErrRange},
		{"\xf8\x01", big, api.ErrForm}, {"", big, api.ErrShort},
		{"", text(5), api.ErrShort}, {"\x03ab", text(2), api.ErrLong}, {"\x03ab", text(3), api.ErrShort}, {"\x00", text(-1), api.ErrLong}, {"\xf9\x00\x01", text(9), api.ErrForm},
		{"\xff\xff\xff\xff\xff\xff\xff\xff\xff", text(1<<63 - 1), api.ErrLong}, {"\xff\x7f\xff\xff\xff\xff\xff\xff\xff", text(1<<63 - 1), api.ErrShort},
		{"", flag, api.ErrShort}, {"\x02", flag, api.ErrForm}, {"\xff", flag, api.ErrForm},
	} {
		r := Open(x.s)
		if !x.read(r) || r.Err() != x.e || r.End() != x.e || r.Left() != 0 {
			t.Errorf("%d: %d %d %d", i, r.Err(), r.End(), r.Left())
		}
		if r.Num(1<<30) != 0 || r.Big() != 0 || r.Text(9) != "" || r.Flag() || r.Err() != x.e {
			t.Errorf("%d: the first error does not stay: %d", i, r.Err())
		}
	}
}

// P2.2: what is left, and the end.
func TestReaderEnd(t *testing.T) {
	r := Open("\x05\x01\x02ab")
	if r.Left() != 5 || r.End() != api.ErrForm || r.Err() != api.OK {
		t.Error("at the beginning")
	}
	if r.Num(5) != 5 || !r.Flag() || r.Left() != 3 || r.Text(2) != "ab" || r.Left() != 0 || r.End() != api.OK || r.Err() != api.OK {
		t.Error("read")
	}
	if Open("\x05").End() != api.ErrForm {
		t.Error("one byte is left")
	}
	if Open("").End() != api.OK {
		t.Error("empty")
	}
}

// P2.3: those that nobody made.
func TestZero(t *testing.T) {
	for _, w := range []*Writer{nil, new(Writer)} {
		if w.Num(1) != w || w.Big(1) != w || w.Text("a") != w || w.Flag(true) != w || w.Num(-1) != w {
			t.Error("another Writer")
		}
		if s, e := w.Done(); s != "" || e != api.ErrZero {
			t.Errorf("%q %d", s, e)
		}
	}
	for _, r := range []*Reader{nil, new(Reader)} {
		if r.Num(1) != 0 || r.Big() != 0 || r.Text(1) != "" || r.Flag() || r.Left() != 0 || r.Err() != api.ErrZero || r.End() != api.ErrZero {
			t.Error("Reader")
		}
	}
}

// P2.4: what is written is read, whatever stands behind.
func TestFollows(t *testing.T) {
	r := rand.New(rand.NewSource(2))
	for range 500 {
		w := New()
		var check []func(*Reader) bool
		for range r.Intn(12) {
			n, b := r.Int()>>r.Intn(63), make([]byte, r.Intn(20))
			r.Read(b)
			switch r.Intn(4) {
			case 0:
				w.Num(n)
				check = append(check, func(r *Reader) bool { return r.Num(n) == n })
			case 1:
				w.Big(uint64(n) << 1)
				check = append(check, func(r *Reader) bool { return r.Big() == uint64(n)<<1 })
			case 2:
				w.Text(string(b))
				check = append(check, func(r *Reader) bool { return r.Text(len(b)) == string(b) })
			default:
				w.Flag(n&1 == 1)
				check = append(check, func(r *Reader) bool { return r.Flag() == (n&1 == 1) })
			}
		}
		s, e := w.Done()
		rd := Open(s + "\xff")
		for _, c := range check {
			if !c(rd) {
				t.Fatal("read otherwise")
			}
		}
		if e != api.OK || rd.Err() != api.OK || rd.Left() != 1 {
			t.Fatal(e, rd.Err(), rd.Left())
		}
	}
}
