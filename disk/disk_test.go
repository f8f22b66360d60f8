package disk

import (
	"math/rand"
	"slices"
	"strings"
	"testing"

	"catena/api"
)

// P11.1: writing and what is told of it.
func TestWrite(t *testing.T) {
	d := New()
	if d.Serial() != 1 || d.Boots() != 1 || len(d.Files()) != 0 || d.Pending() != 0 || d.Data(1) != "" {
		t.Error("new")
	}
	for _, n := range []int{0, -1, api.MaxNum + 1, -1 << 63} {
		if d.Write(n, "x") != api.ErrArg {
			t.Error(n)
		}
	}
	if d.Write(5, "ab") != api.OK || d.Write(api.MaxNum, "") != api.OK || d.Write(2, "x") != api.OK || d.Write(5, "c") != api.OK {
		t.Error("write")
	}
	if d.Data(5) != "abc" || d.Data(2) != "x" || d.Data(3) != "" || d.Data(-1) != "" || !slices.Equal(d.Files(), []int{2, 5, api.MaxNum}) || d.Pending() != 4 {
		t.Error(d.Files(), d.Pending())
	}
	if d.Sync() != 4 || d.Sync() != 0 || d.Pending() != 0 || d.Data(5) != "abc" {
		t.Error("safe")
	}
}

// P11.2: what a crash keeps.
func TestCrash(t *testing.T) {
	d := New()
	d.Write(1, "ab")
	d.Sync()
	d.Write(2, "cd")
	d.Write(1, "ef")
	d.Crash(3)
	if d.Data(1) != "abe" || d.Data(2) != "cd" || d.Pending() != 0 || d.Boots() != 2 || d.Serial() != 1 {
		t.Errorf("%q %q", d.Data(1), d.Data(2))
	}
	d.Write(1, "xy")
	d.Crash(-5)
	if d.Data(1) != "abe" || d.Boots() != 3 {
		t.Errorf("%q", d.Data(1))
	}
	d.Write(3, "")
	d.Write(4, "a")
	d.Write(5, "")
	d.Write(6, "b")
	d.Crash(0)
	if !slices.Equal(d.Files(), []int{1, 2, 3}) {
		t.Error("an empty piece behind what is kept:", d.Files())
	}
	d.Write(4, "a")
	d.Write(5, "")
	d.Write(6, "bc")
	d.Write(7, "")
	d.Crash(1)
	if !slices.Equal(d.Files(), []int{1, 2, 3, 4, 5}) {
		t.Error(d.Files())
	}
	d.Write(6, "bc")
	d.Write(7, "")
	d.Crash(1 << 62)
	if !slices.Equal(d.Files(), []int{1, 2, 3, 4, 5, 6, 7}) || d.Data(6) != "bc" {
		t.Error(d.Files())
	}
}

// P11.2: what is dropped is gone for good, also what was not safe of it.
func TestDrop(t *testing.T) {
	d := New()
	d.Write(1, "ab")
	d.Sync()
	d.Write(1, "cd")
	d.Write(2, "ef")
	if d.Drop(3) != api.ErrNone || d.Drop(1) != api.OK || d.Drop(1) != api.ErrNone || d.Pending() != 2 || d.Data(1) != "" {
		t.Error("drop", d.Pending())
	}
	d.Crash(2)
	if !slices.Equal(d.Files(), []int{2}) || d.Data(2) != "ef" {
		t.Error(d.Files())
	}
	d.Drop(2)
	d.Write(2, "x")
	if d.Data(2) != "x" {
		t.Error("begins anew")
	}
	d.Crash(0)
	if len(d.Files()) != 0 {
		t.Error("was safe ahead of being dropped, not behind")
	}
}

// P11.2: an erased disk is another one.
func TestErase(t *testing.T) {
	d := New()
	d.Write(1, "a")
	d.Sync()
	d.Write(2, "b")
	d.Erase()
	if len(d.Files()) != 0 || d.Pending() != 0 || d.Serial() != 2 || d.Boots() != 2 || d.Data(1) != "" {
		t.Error(d.Files(), d.Serial(), d.Boots())
	}
	d.serial = api.MaxSerial
	d.Erase()
	if d.Serial() != api.MaxSerial {
		t.Error(d.Serial())
	}
}

// P11.3: those that nobody made.
func TestZero(t *testing.T) {
	for _, d := range []*Disk{nil, new(Disk)} {
		d.Crash(1)
		d.Erase()
		if d.Write(1, "a") != api.ErrZero || d.Write(0, "") != api.ErrZero || d.Drop(1) != api.ErrZero || d.Sync() != 0 || d.Data(1) != "" || len(d.Files()) != 0 || d.Pending() != 0 || d.Serial() != 0 || d.Boots() != 0 {
			t.Error("not zero")
		}
	}
}

// P11.4: each file has what was safe, and a beginning of what was written since; nothing behind what is gone.
func TestFollows(t *testing.T) {
	r := rand.New(rand.NewSource(13))
	for range 500 {
		d, safe, written := New(), map[int]string{}, ""
		since := map[int]string{}
		var pieces []int
		for range r.Intn(30) {
			if r.Intn(8) == 0 {
				d.Sync()
				for f, s := range since {
					safe[f] += s
				}
				since, pieces, written = map[int]string{}, nil, ""
				continue
			}
			f, s := 1+r.Intn(3), strings.Repeat(string(rune('a'+r.Intn(26))), r.Intn(4))
			d.Write(f, s)
			since[f] += s
			written += s
			for range s {
				pieces = append(pieces, f)
			}
		}
		n := r.Intn(len(written) + 3)
		want := map[int]string{}
		for f, s := range safe {
			want[f] = s
		}
		for i := range min(n, len(written)) {
			want[pieces[i]] += written[i : i+1]
		}
		d.Crash(n)
		for f := 1; f <= 3; f++ {
			if d.Data(f) != want[f] {
				t.Fatalf("%d: %q, not %q", f, d.Data(f), want[f])
			}
		}
	}
}
