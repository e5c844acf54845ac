// Package octet is layer 1: numbers in texts of bytes, the highest byte first. See shared/doc/01-octet.md.
package octet

import (
	"strings"

	"tipstaff/api"
)

const (
	widest = 8 // bytes of a uint64
	digits = "0123456789abcdef"
)

// Put answers the lowest width bytes of n.
func Put(n uint64, width int) string {
	out := make([]byte, min(max(width, 0), widest))
	for i := len(out) - 1; i >= 0; i-- {
		out[i] = byte(n)
		n >>= 8
	}
	return string(out)
}

// Get answers the number of the width bytes of s from at on.
func Get(s string, at, width int) (uint64, api.Errno) {
	if width < 1 || width > widest {
		return 0, api.ErrArg
	}
	part, e := Cut(s, at, width)
	if e != api.OK {
		return 0, e
	}
	n := uint64(0)
	for i := 0; i < len(part); i++ {
		n = n<<8 | uint64(part[i])
	}
	return n, api.OK
}

// Cut answers the n bytes of s from at on.
func Cut(s string, at, n int) (string, api.Errno) {
	if at < 0 || at > len(s) || n < 0 {
		return "", api.ErrArg
	}
	if n > len(s)-at { // at+n could leave an int
		return "", api.ErrShort
	}
	return s[at : at+n], api.OK
}

// Pad answers s with bytes 0 behind it, till it has n bytes, or MaxFrame.
func Pad(s string, n int) string {
	n = min(n, api.MaxFrame)
	if n <= len(s) {
		return s
	}
	return s + strings.Repeat("\x00", n-len(s))
}

// Same tells whether a and b are the same.
func Same(a, b string) bool {
	if len(a) != len(b) {
		return false
	}
	differ := byte(0)
	for i := 0; i < len(a); i++ { // to the end: how long it takes must not tell where they differ
		differ |= a[i] ^ b[i]
	}
	return differ == 0
}

// Hex answers two digits of each byte of s.
func Hex(s string) string {
	out := make([]byte, 0, 2*len(s))
	for i := 0; i < len(s); i++ {
		out = append(out, digits[s[i]>>4], digits[s[i]&15])
	}
	return string(out)
}

// Unhex answers the bytes whose digits, as Hex writes them, are s.
func Unhex(s string) (string, api.Errno) {
	if len(s)%2 != 0 {
		return "", api.ErrShort
	}
	out := make([]byte, len(s)/2)
	e := api.OK
pairs:
	for i := range out {
		for _, c := range []byte(s[2*i : 2*i+2]) {
			d := strings.IndexByte(digits, c)
			if d < 0 {
				e = api.ErrForm
				break pairs
			}
			out[i] = out[i]<<4 | byte(d)
		}
	}
	if e != api.OK {
		return "", e
	}
	return string(out), api.OK
}
