// Package frame: the bytes in which a change goes over a link.
package frame

import (
	"unicode/utf8"

	"coedit/text"
)

// Size is how many bytes a frame has.
const Size = 17

const mark = 0x4a

// Bytes is a frame as it stands in a link: an array, so that every copy has bytes of its own.
type Bytes [Size]byte

// Frame is what a frame tells: a change, how many frames its sender had sent and taken ahead of it, and a cursor.
type Frame struct {
	Change              text.Change
	Mine, Other, Cursor int
}

// Write gives a frame's bytes.
func Write(f Frame) Bytes {
	b := Bytes{0: mark, 1: byte(f.Change.Kind), 2: byte(f.Change.Client)}
	putNumber(b[3:5], f.Change.E.Number)
	putNumber(b[5:7], f.Mine)
	putNumber(b[7:9], f.Other)
	putNumber(b[9:11], f.Change.At)
	putNumber(b[11:14], int(f.Change.E.R))
	putNumber(b[14:16], f.Cursor)
	b[Size-1] = sum(b)
	return b
}

// Read tells what the bytes of a frame tell, as Write has written them.
func Read(b Bytes) Frame {
	f := Frame{Mine: number(b[5:7]), Other: number(b[7:9]), Cursor: number(b[14:16])}
	f.Change.Kind = int(b[1])
	f.Change.Client = int(b[2])
	switch f.Change.Kind {
	case text.KindInsert:
		f.Change.E = text.Elem{R: rune(number(b[11:14])), Client: f.Change.Client, Number: number(b[3:5])}
		fallthrough
	case text.KindDelete:
		f.Change.At = number(b[9:11])
	}
	return f
}

// ReadAny tells what bytes from anywhere tell; false: they are no frame. Whose change it may be is for the caller to say.
func ReadAny(raw []byte) (Frame, bool) {
	if len(raw) != Size {
		return Frame{}, false
	}
	var b Bytes
	copy(b[:], raw)
	f := Read(b)
	if f.Change.Kind < text.KindInsert || f.Change.Kind > text.KindNothing || !utf8.ValidRune(f.Change.E.R) {
		return Frame{}, false
	}
	// Read leaves out what a change of that kind does not have, the mark and the sum: the bytes are a frame's if Write would write just these.
	if Write(f) != b {
		return Frame{}, false
	}
	return f, true
}

// number reads a number, its high byte first.
func number(place []byte) int {
	n := 0
	for _, x := range place {
		n = n<<8 | int(x)
	}
	return n
}

// putNumber fills the place with a number, its high byte first.
func putNumber(place []byte, n int) {
	for i := len(place) - 1; i >= 0; i-- {
		place[i] = byte(n)
		n >>= 8
	}
}

// sum is the exclusive or of all bytes ahead of the last.
func sum(b Bytes) byte {
	var x byte
	for _, y := range b[:Size-1] {
		x ^= y
	}
	return x
}
