// Package codec is layer 2: canonical binary encodings and frames. See shared/doc/02-codec.md.
package codec

import (
	"tollway/api"
	"tollway/guard"
)

// mostGroups is the greatest number of 7-bit groups of a code of 64 bits.
const mostGroups = 10

// sumSize is the number of bytes of a frame's checksum.
const sumSize = 4

// reader decodes from the offset at on; its methods fail with guard.Fail.
type reader struct {
	b  []byte
	at int
}

// PutInt appends the encoding of n.
func PutInt(b []byte, n int) []byte {
	return putCode(fresh(b, mostGroups), n)
}

// fresh returns a copy of b with room for more bytes, so that appending does not touch the memory behind b.
func fresh(b []byte, more int) []byte {
	return append(make([]byte, 0, len(b)+more), b...)
}

func putCode(b []byte, n int) []byte {
	code := uint64(n)<<1 ^ uint64(n>>63)
	for code >= 128 {
		b = append(b, byte(code)|128)
		code >>= 7
	}
	return append(b, byte(code))
}

// Int decodes a number at the offset at.
func Int(b []byte, at int) (int, int, api.Errno) {
	r := reader{b, at}
	n := 0
	if e := guard.Run(func() { n = r.number() }); e != api.OK {
		return 0, 0, e
	}
	return n, r.at, api.OK
}

// check fails unless the offset lies within the bytes.
func (r *reader) check() {
	if r.at < 0 || r.at > len(r.b) {
		guard.Fail(api.ErrRange)
	}
}

func (r *reader) number() int {
	r.check()
	code := uint64(0)
	for i := range mostGroups {
		if r.at+i == len(r.b) {
			guard.Fail(api.ErrShort)
		}
		c := r.b[r.at+i]
		code |= uint64(c&127) << (7 * i)
		if c >= 128 {
			continue
		}
		// The tenth group has room for one bit only; a last group of 0 is not needed.
		if i == mostGroups-1 && c > 1 || i > 0 && c == 0 {
			guard.Fail(api.ErrForm)
		}
		r.at += i + 1
		return int(code>>1) ^ -int(code&1)
	}
	guard.Fail(api.ErrForm)
	return 0
}

// PutText appends the encoding of s.
func PutText(b []byte, s string) []byte {
	return append(putCode(fresh(b, mostGroups+len(s)), len(s)), s...)
}

// Text decodes a string at the offset at.
func Text(b []byte, at int) (string, int, api.Errno) {
	r := reader{b, at}
	s := ""
	if e := guard.Run(func() { s = string(r.bytes()) }); e != api.OK {
		return "", 0, e
	}
	return s, r.at, api.OK
}

// bytes returns the part of the memory in which the next string lies.
func (r *reader) bytes() []byte {
	n := r.number()
	switch {
	case n < 0:
		guard.Fail(api.ErrForm)
	case n > api.MaxText:
		guard.Fail(api.ErrLong)
	case n > len(r.b)-r.at:
		guard.Fail(api.ErrShort)
	}
	r.at += n
	return r.b[r.at-n : r.at]
}

// PutFrame appends a frame.
func PutFrame(b []byte, kind int, p []byte) []byte {
	r := fresh(b, 1+mostGroups+len(p)+sumSize)
	r = append(putCode(append(r, byte(kind)), len(p)), p...)
	sum := Sum(r[len(b):])
	return append(r, byte(sum>>24), byte(sum>>16), byte(sum>>8), byte(sum))
}

// Frame decodes a frame at the offset at.
func Frame(b []byte, at int) (int, []byte, int, api.Errno) {
	r := reader{b, at}
	kind := 0
	var p []byte
	if e := guard.Run(func() { kind, p = r.frame() }); e != api.OK {
		return 0, nil, 0, e
	}
	return kind, append([]byte(nil), p...), r.at, api.OK
}

func (r *reader) frame() (int, []byte) {
	r.check()
	from := r.at
	if from == len(r.b) {
		guard.Fail(api.ErrShort)
	}
	r.at++
	p := r.bytes()
	end := r.at
	if len(r.b)-end < sumSize {
		guard.Fail(api.ErrShort)
	}
	sum := 0
	for _, c := range r.b[end : end+sumSize] {
		sum = sum<<8 | int(c)
	}
	if sum != Sum(r.b[from:end]) {
		guard.Fail(api.ErrSum)
	}
	r.at = end + sumSize
	return int(r.b[from]), p
}

// Intact returns the number of frames that can be decoded from the beginning on, and the offset after them.
func Intact(b []byte) (int, int) {
	r := reader{b, 0}
	n := 0
	for {
		at := r.at
		if e := guard.Run(func() { r.frame() }); e != api.OK {
			return n, at
		}
		n++
	}
}

// Sum returns the checksum of b.
func Sum(b []byte) int {
	sum := ^uint32(0)
	for _, c := range b {
		sum ^= uint32(c)
		for range 8 {
			out := sum & 1
			sum >>= 1
			if out == 1 {
				sum ^= 0x82f63b78
			}
		}
	}
	return int(^sum)
}
