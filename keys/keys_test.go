package keys

import (
	"math/rand"
	"slices"
	"strings"
	"testing"

	"catena/api"
)

const full = "\xff\xff\xff\xff\xff\xff\xff\xff"

// P5.1: which texts are keys.
func TestCheck(t *testing.T) {
	for k, want := range map[string]api.Errno{"": api.ErrKey, "\x00": api.OK, "abcdefgh": api.OK, full: api.OK, "abcdefghi": api.ErrKey} {
		if e := Check(k); e != want {
			t.Errorf("%q: %d", k, e)
		}
	}
}

// P5.1: what lies between.
func TestIn(t *testing.T) {
	for _, x := range []struct {
		k, from, to string
		want        bool
	}{{"b", "a", "c", true}, {"a", "a", "c", true}, {"c", "a", "c", false}, {"a", "a", "a", false}, {"z", "a", "", true}, {"a", "b", "", false}, {"", "", "", true}, {"\xff", "a", "b", false}, {"ab", "a", "b", true}, {"b", "c", "a", false}} {
		if In(x.k, x.from, x.to) != x.want {
			t.Errorf("%v", x)
		}
	}
}

// P5.1: the next key.
func TestNext(t *testing.T) {
	for k, want := range map[string]string{
		"": "\x00", "a": "a\x00", "\xff": "\xff\x00", "abcdefg": "abcdefg\x00", "abcdefgh": "abcdefgi", "abcdefg\xff": "abcdefh",
		"a\xff\xff\xff\xff\xff\xff\xff": "b", full: "", full + "a": "", "abcdefghijk": "abcdefgi", "\xff\xff\xff\xff\xff\xff\xff": "\xff\xff\xff\xff\xff\xff\xff\x00",
	} {
		if got := Next(k); got != want {
			t.Errorf("%q: %q", k, got)
		}
	}
}

// P5.1: Sorted and Set.
func TestSet(t *testing.T) {
	for _, x := range []struct {
		l    []string
		want bool
	}{{nil, true}, {[]string{"b"}, true}, {[]string{"", "a", "b"}, true}, {[]string{"a", "a"}, false}, {[]string{"b", "a"}, false}, {[]string{"a", "c", "b"}, false}} {
		if Sorted(x.l) != x.want {
			t.Errorf("%q", x.l)
		}
	}
	l := []string{"b", "", "a", "b", "\xff", "a"}
	if got := Set(l); !slices.Equal(got, []string{"", "a", "b", "\xff"}) || l[0] != "b" {
		t.Errorf("%q", got)
	}
	if len(Set(nil)) != 0 {
		t.Error("nil")
	}
}

// P5.2: nothing between a text and its Next; of two keys one is In from the other.
func TestFollows(t *testing.T) {
	r := rand.New(rand.NewSource(7))
	some := func() string {
		b := make([]byte, r.Intn(11))
		for i := range b {
			b[i] = "\x00\x01a\xfe\xff"[r.Intn(5)]
		}
		return string(b)
	}
	for range 20000 {
		k, x, y := some(), some(), some()
		n := Next(k)
		if n != "" && (n <= k || Check(n) != api.OK) || n == "" && !strings.HasPrefix(k, full) {
			t.Fatalf("%q: %q", k, n)
		}
		if Check(x) == api.OK && x > k && (n == "" || x < n) {
			t.Fatalf("%q lies between %q and %q", x, k, n)
		}
		if !In(x, y, "") && !In(y, x, "") {
			t.Fatalf("%q %q", x, y)
		}
	}
}
