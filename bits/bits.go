// Package bits is layer 1: bits of a text, the highest one of each byte first.
package bits

import "pressmark/api"

// wrong goes up, from wherever something is met that may not be, to the call that tells it.
type wrong struct{ e api.Errno }

func need(ok bool, e api.Errno) {
	if !ok {
		panic(wrong{e})
	}
}

// caught does something, and tells what went up from it.
func caught(do func()) (e api.Errno) {
	defer func() {
		if w, ok := recover().(wrong); ok {
			e = w.e
		}
	}()
	do()
	return api.OK
}

// Right tells whether bits may be.
func Right(b api.Bits) bool {
	if b.N < 0 || len(b.Data) != holding(b.N) {
		return false
	}
	last := b.N % 8
	return last == 0 || b.Data[len(b.Data)-1]<<last == 0
}

// holding is how many bytes hold n bits; nothing is added to n, that may be the greatest number there is.
func holding(n int) int {
	if n%8 == 0 {
		return n / 8
	}
	return n/8 + 1
}

// Put is bits with the n lowest ones of v behind them.
func Put(b api.Bits, v uint64, n int) (api.Bits, api.Errno) {
	return grown(func(r *row) {
		r.join(b)
		need(0 <= n && n <= 64, api.ErrArg)
		r.lay(v, n)
	})
}

// Cat is all of some bits, one behind the other.
func Cat(l ...api.Bits) (api.Bits, api.Errno) {
	return grown(func(r *row) {
		for _, b := range l {
			r.join(b)
		}
	})
}

// grown is what is laid, if nothing goes wrong with it.
func grown(lay func(r *row)) (api.Bits, api.Errno) {
	var r row
	if e := caught(func() { lay(&r) }); e != api.OK {
		return api.Bits{}, e
	}
	return r.bits(), api.OK
}

// Get is some of a text's bits, as a number.
func Get(s string, at, n int) (uint64, api.Errno) {
	var v uint64
	e := caught(func() {
		need(0 <= n && n <= 64 && at >= 0, api.ErrArg)
		need(has(s, at, n), api.ErrShort)
		v = take(s, at, n)
	})
	return v, e
}

// Same tells whether bits stand somewhere in a text.
func Same(s string, at int, b api.Bits) bool {
	if !Right(b) || at < 0 || !has(s, at, b.N) {
		return false
	}
	for k := 0; k < b.N; k += 64 {
		n := min(64, b.N-k)
		if take(s, at+k, n) != take(b.Data, k, n) {
			return false
		}
	}
	return true
}

// has tells whether s has n bits from at on; at and n are not added, for their sum could go round.
func has(s string, at, n int) bool {
	return n <= 8*len(s)-at
}

// take is the n bits of s from at on, that must be there.
func take(s string, at, n int) uint64 {
	var v uint64
	for n > 0 {
		left := 8 - at%8
		k := min(left, n)
		v = v<<k | uint64(s[at/8])>>(left-k)&(1<<k-1)
		at += k
		n -= k
	}
	return v
}

// row is bits that grow at their end; those of the last byte that are not used yet are 0.
type row struct {
	data []byte
	n    int
}

// lay puts the n lowest bits of v behind all others.
func (r *row) lay(v uint64, n int) {
	for n > 0 {
		if r.n%8 == 0 {
			r.data = append(r.data, 0)
		}
		room := 8 - r.n%8
		k := min(room, n)
		part := v >> (n - k) & (1<<k - 1)
		r.data[len(r.data)-1] |= byte(part << (room - k))
		r.n += k
		n -= k
	}
}

// join puts all of b behind all others, if b may be.
func (r *row) join(b api.Bits) {
	need(Right(b), api.ErrArg)
	for k := 0; k < b.N; k += 64 {
		n := min(64, b.N-k)
		r.lay(take(b.Data, k, n), n)
	}
}

func (r *row) bits() api.Bits {
	return api.Bits{Data: string(r.data), N: r.n}
}
