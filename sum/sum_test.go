package sum

import (
	"hash/crc32"
	"math/rand"
	"testing"
)

func text(r *rand.Rand, n int) string {
	b := make([]byte, n)
	r.Read(b)
	return string(b)
}

// P3.1: the sum of a text, at once and piece by piece.
func TestSum(t *testing.T) {
	for s, want := range map[string]uint32{"": 0, "123456789": 0xCBF43926, "a": 0xE8B7BE43, "\x00": 0xD202EF8D, "\xff": 0xFF000000} {
		if got := Sum(s); got != want {
			t.Errorf("%q: %X", s, got)
		}
		if got := New().Add(0, s); got != want {
			t.Errorf("Add %q: %X", s, got)
		}
	}
	r := rand.New(rand.NewSource(3))
	m := New()
	for i := range 500 {
		s := text(r, i)
		want := crc32.ChecksumIEEE([]byte(s))
		if Sum(s) != want || m.Add(0, s) != want {
			t.Fatalf("%q", s)
		}
	}
}

// P3.1: of any word what the same steps come to.
func TestAddAny(t *testing.T) {
	r := rand.New(rand.NewSource(4))
	m := New()
	for range 500 {
		c, s := r.Uint32(), text(r, r.Intn(20))
		if got := m.Add(c, s); got != crc32.Update(c, crc32.IEEETable, []byte(s)) {
			t.Fatalf("%X %q: %X", c, s, got)
		}
	}
}

// P3.1: calls are counted.
func TestUsed(t *testing.T) {
	m, other := New(), New()
	if m.Used() != 0 {
		t.Error("new")
	}
	for i := range 5 {
		m.Add(uint32(i), "")
		Sum("a")
	}
	if m.Used() != 5 || other.Used() != 0 {
		t.Error(m.Used(), other.Used())
	}
}

// P3.2: those that nobody made.
func TestZero(t *testing.T) {
	for _, m := range []*Maker{nil, new(Maker)} {
		if m.Add(0, "a") != 0 || m.Add(7, "") != 0 || m.Used() != 0 {
			t.Error("not 0")
		}
	}
}

// P3.3: a sum goes on; short turns are seen; three texts together.
func TestFollows(t *testing.T) {
	r := rand.New(rand.NewSource(5))
	m := New()
	for range 300 {
		a, b := text(r, r.Intn(40)), text(r, r.Intn(40))
		if m.Add(Sum(a), b) != Sum(a+b) || m.Add(m.Add(0, a), b) != Sum(a+b) {
			t.Fatal("goes on")
		}
		n := 5 + r.Intn(20)
		x, y, z := text(r, n), text(r, n), text(r, n)
		all, turned := make([]byte, n), []byte(x)
		for i := range n {
			all[i] = x[i] ^ y[i] ^ z[i]
		}
		if Sum(string(all)) != Sum(x)^Sum(y)^Sum(z) {
			t.Fatal("three")
		}
		bits, from := uint64(r.Uint32()|1), r.Intn(n*8-32)
		for i := range 32 {
			if bits>>i&1 == 1 {
				turned[(from+i)/8] ^= 1 << ((from + i) % 8)
			}
		}
		if Sum(string(turned)) == Sum(x) {
			t.Fatal("a short turn is not seen")
		}
	}
}
