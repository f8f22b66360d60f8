package tree

import (
	"math/rand"
	"slices"
	"strconv"
	"testing"
)

// least tells how many keys a tree of a depth has at least.
func least(depth int) int {
	a, b := 0, 1
	for range depth {
		a, b = b, a+b+1
	}
	return a
}

// P15.1: putting, getting, deleting.
func TestPut(t *testing.T) {
	x := New[int]()
	if x.Len() != 0 || x.Depth() != 0 || x.Del("a") || len(x.Keys("", "")) != 0 {
		t.Error("new")
	}
	if x.Put("b", 1) || x.Put("a", 2) || x.Put("", 4) || x.Put("c", 3) || !x.Put("a", 9) || x.Len() != 4 {
		t.Error("put")
	}
	if v, ok := x.Get("a"); v != 9 || !ok {
		t.Error("get")
	}
	if v, ok := x.Get("ab"); v != 0 || ok {
		t.Error("none")
	}
	if !x.Del("a") || x.Del("a") || x.Len() != 3 {
		t.Error("del")
	}
	if v, ok := x.Get("a"); v != 0 || ok {
		t.Error("gone")
	}
	if v, ok := x.Get(""); v != 4 || !ok {
		t.Error("the empty key")
	}
}

// P15.2: keys in a range, and the next one.
func TestKeys(t *testing.T) {
	x := New[string]()
	for _, k := range []string{"b", "a", "c", "ab"} {
		x.Put(k, k)
	}
	for _, y := range []struct {
		from, to string
		want     []string
	}{{"", "", []string{"a", "ab", "b", "c"}}, {"a", "b", []string{"a", "ab"}}, {"aa", "c", []string{"ab", "b"}}, {"b", "b", nil}, {"c", "a", nil}, {"d", "", nil}, {"b", "", []string{"b", "c"}}} {
		if got := x.Keys(y.from, y.to); !slices.Equal(got, y.want) {
			t.Errorf("%q %q: %q", y.from, y.to, got)
		}
	}
	for k, want := range map[string]string{"": "a", "a": "a", "aa": "ab", "b": "b", "bb": "c", "c": "c"} {
		if got, ok := x.Seek(k); got != want || !ok {
			t.Errorf("%q: %q", k, got)
		}
	}
	if got, ok := x.Seek("d"); got != "" || ok {
		t.Error("none")
	}
}

// P15.3: the depth, whatever is put and deleted.
func TestDepth(t *testing.T) {
	x := New[int]()
	for i, k := range []string{"b", "a", "c"} {
		x.Put(k, i)
	}
	if x.Depth() != 2 {
		t.Error(x.Depth())
	}
	r := rand.New(rand.NewSource(17))
	for _, order := range []func(i int) int{func(i int) int { return i }, func(i int) int { return 9999 - i }, func(int) int { return r.Intn(3000) }} {
		x, has := New[int](), map[string]int{}
		for i := range 3000 {
			k := strconv.Itoa(10000 + order(i))
			if _, had := has[k]; x.Put(k, i) != had {
				t.Fatal("had")
			}
			has[k] = i
			if i%3 == 2 {
				gone := strconv.Itoa(10000 + order(r.Intn(i)))
				if _, had := has[gone]; x.Del(gone) != had {
					t.Fatal("del")
				}
				delete(has, gone)
			}
			if x.Len() != len(has) || x.Len() < least(x.Depth()) || i < 400 && x.root.check() != x.Depth() {
				t.Fatal(x.Len(), x.Depth())
			}
		}
		var keys []string
		for k, v := range has {
			keys = append(keys, k)
			if got, ok := x.Get(k); got != v || !ok {
				t.Fatal(k)
			}
		}
		slices.Sort(keys)
		if !slices.Equal(x.Keys("", ""), keys) {
			t.Fatal("keys")
		}
		if r.Intn(2) == 0 {
			slices.Reverse(keys)
		}
		for _, k := range keys {
			x.Del(k)
			if x.Len() < least(x.Depth()) || x.Len() < 400 && x.root.check() != x.Depth() {
				t.Fatal(x.Len(), x.Depth())
			}
		}
		if x.Len() != 0 || x.Depth() != 0 {
			t.Fatal("empty")
		}
	}
}

// P15.3: the depth, in whatever order some few keys are put, and deleted.
func TestOrders(t *testing.T) {
	var orders func(l []string, n int)
	orders = func(l []string, n int) {
		if n < len(l) {
			for i := n; i < len(l); i++ {
				l[n], l[i] = l[i], l[n]
				orders(l, n+1)
				l[n], l[i] = l[i], l[n]
			}
			return
		}
		x := New[int]()
		for i, k := range l {
			if x.Put(k, i); x.Len() < least(x.Depth()) || x.root.check() != x.Depth() {
				t.Fatal("put", l[:i+1], x.Depth())
			}
		}
		for i := range l {
			if x.Del(l[i*3%len(l)]); x.Len() < least(x.Depth()) || x.root.check() != x.Depth() {
				t.Fatal("deleted", l, i, x.Depth())
			}
		}
	}
	orders([]string{"a", "b", "c", "d", "e", "f", "g"}, 0)
}

// check tells the depth anew, from below; -1, if one that is kept is another one, or two sides differ too much.
func (n *node[V]) check() int {
	if n == nil {
		return 0
	}
	a, b := n.left.check(), n.right.check()
	if a < 0 || b < 0 || a-b > 1 || b-a > 1 || n.depth != 1+max(a, b) {
		return -1
	}
	return n.depth
}

// P15.4: those that nobody made.
func TestZero(t *testing.T) {
	for _, x := range []*Tree[int]{nil, new(Tree[int])} {
		if x.Put("a", 1) || x.Del("a") || x.Len() != 0 || x.Depth() != 0 || len(x.Keys("", "")) != 0 {
			t.Error("not zero")
		}
		if v, ok := x.Get("a"); v != 0 || ok {
			t.Error("get")
		}
		if k, ok := x.Seek(""); k != "" || ok {
			t.Error("seek")
		}
	}
}
