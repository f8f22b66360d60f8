// Package varnum writes numbers as bytes: few for small ones, and in their order.
package varnum

import (
	"catena/api"
)

// direct is the least number that does not stand for itself in one byte.
const direct = 248

// head is what the first byte of a longer number has beside how many bytes come.
const head = direct - 1

// width tells how many bytes n needs at least.
func width(n uint64) int {
	k := 1
count:
	for {
		n >>= 8
		if n == 0 {
			break count
		}
		k++
	}
	return k
}

// Put answers n's bytes.
func Put(n uint64) string {
	if n < direct {
		return string([]byte{byte(n)})
	}
	k := width(n)
	b := make([]byte, 0, 1+k)
	b = append(b, byte(head+k))
	for i := range k {
		b = append(b, byte(n>>(8*(k-1-i))))
	}
	return string(b)
}

// Len tells how many bytes Put(n) has.
func Len(n uint64) int {
	if n < direct {
		return 1
	}
	return 1 + width(n)
}

// Get reads the number that begins at a place of s, and tells the place behind it.
func Get(s string, at int) (uint64, int, api.Errno) {
	if at < 0 || at > len(s) {
		return 0, 0, api.ErrArg
	}
	if at == len(s) {
		return 0, 0, api.ErrShort
	}
	if s[at] < direct {
		return uint64(s[at]), at + 1, api.OK
	}
	k := int(s[at]) - head
	if len(s)-at-1 < k {
		return 0, 0, api.ErrShort
	}
	n := uint64(0)
	for i := range k {
		n = n<<8 | uint64(s[at+1+i])
	}
	// Each number has one form only, so that bytes can be held against each other.
	if Len(n) != 1+k {
		return 0, 0, api.ErrForm
	}
	return n, at + 1 + k, api.OK
}

// All reads numbers one behind the other, up to the end of s.
func All(s string) ([]uint64, api.Errno) {
	var l []uint64
	for at := 0; at < len(s); {
		n, next, e := Get(s, at)
		if e != api.OK {
			return nil, e
		}
		l = append(l, n)
		at = next
	}
	return l, api.OK
}
