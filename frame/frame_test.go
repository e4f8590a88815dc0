package frame_test

import (
	"encoding/hex"
	"strings"
	"testing"

	"coedit/frame"
	"coedit/text"
)

type sample struct {
	f     frame.Frame
	bytes string
}

// samples are frames and their bytes.
func samples() []sample {
	return []sample{
		// The document's examples.
		{frame.Frame{Change: text.Change{Kind: 1, E: text.Elem{R: 'a', Number: 1}}, Cursor: 1}, "4a01 00 0001 0000 0000 0000 000061 0001 2a"},
		{frame.Frame{Change: text.Change{Kind: 1, E: text.Elem{R: 'b', Client: 1, Number: 1}, Client: 1}, Cursor: 1}, "4a01 01 0001 0000 0000 0000 000062 0001 28"},
		{frame.Frame{Change: text.Change{Kind: 1, E: text.Elem{R: 'a', Number: 1}}, Other: 1, Cursor: 2}, "4a01 00 0001 0000 0001 0000 000061 0002 28"},
		{frame.Frame{Change: text.Change{Kind: 2}, Mine: 1, Other: 1, Cursor: 1}, "4a02 00 0000 0001 0001 0000 000000 0001 49"},
		// Every number with all its bytes, the high one first.
		{frame.Frame{Change: text.Change{Kind: 1, At: 0x0708, E: text.Elem{R: 0x10fffe, Client: 5, Number: 0x0102}, Client: 5}, Mine: 0x0304, Other: 0x0506, Cursor: 0x090a}, "4a01 05 0102 0304 0506 0708 10fffe 090a 54"},
		{frame.Frame{Change: text.Change{Kind: 3, Client: 4}, Mine: 1999, Cursor: 256}, "4a03 04 0000 07cf 0000 0000 000000 0100 84"},
		{frame.Frame{Change: text.Change{Kind: 2, At: 0xfffe, Client: 3}, Mine: 0x0102, Other: 0xff00, Cursor: 0xffff}, "4a02 03 0000 0102 ff00 fffe 000000 ffff b6"},
	}
}

func unhex(t *testing.T, told string) []byte {
	t.Helper()
	l, err := hex.DecodeString(strings.ReplaceAll(told, " ", ""))
	if err != nil {
		t.Fatal(err)
	}
	return l
}

func TestWrite(t *testing.T) {
	for _, c := range samples() {
		b := frame.Write(c.f)
		if got, want := hex.EncodeToString(b[:]), strings.ReplaceAll(c.bytes, " ", ""); got != want {
			t.Errorf("%+v: %s, want %s", c.f, got, want)
		}
	}
}

func TestRead(t *testing.T) {
	for _, c := range samples() {
		l := unhex(t, c.bytes)
		if got := frame.Read(frame.Bytes(l)); got != c.f {
			t.Errorf("%s: %+v, want %+v", c.bytes, got, c.f)
		}
		if got, ok := frame.ReadAny(l); got != c.f || !ok {
			t.Errorf("%s from anywhere: %+v, %v, want %+v", c.bytes, got, ok, c.f)
		}
	}
}

// summed is the bytes that are told, and behind them their exclusive or.
func summed(t *testing.T, told string) []byte {
	t.Helper()
	l := unhex(t, told)
	all := byte(0)
	for _, x := range l {
		all ^= x
	}
	return append(l, all)
}

// P6: what is a frame and what is none, whatever session it came to.
func TestReadAny(t *testing.T) {
	for told, want := range map[string]bool{
		"4a03 00 0000 0000 0000 0000 000000 0000":    true,
		"4a03 00 0000 0000 0000 0000 000000 00":      false, // 16 bytes with the sum
		"4a03 00 0000 0000 0000 0000 000000 0000 00": false, // 18
		"4b03 00 0000 0000 0000 0000 000000 0000":    false, // the mark
		"4a00 00 0000 0000 0000 0000 000000 0000":    false, // the kind
		"4a04 00 0000 0000 0000 0000 000000 0000":    false,
		"4a03 00 0001 0000 0000 0000 000000 0000":    false, // numbers that must be 0
		"4a03 00 0000 0000 0000 0001 000000 0000":    false,
		"4a03 00 0000 0000 0000 0000 000001 0000":    false,
		"4a02 00 0000 0000 0000 0001 000000 0000":    true,
		"4a02 00 0001 0000 0000 0001 000000 0000":    false,
		"4a02 00 0000 0000 0000 0001 000001 0000":    false,
		"4a01 00 0000 0000 0000 0000 000000 0000":    true, // runes
		"4a01 00 0001 0000 0000 0000 00d7ff 0001":    true,
		"4a01 00 0001 0000 0000 0000 00d800 0001":    false,
		"4a01 00 0001 0000 0000 0000 00dfff 0001":    false,
		"4a01 00 0001 0000 0000 0000 00e000 0001":    true,
		"4a01 00 0001 0000 0000 0000 10ffff 0001":    true,
		"4a01 00 0001 0000 0000 0000 110000 0001":    false,
		"4a01 00 0001 0000 0000 0000 ffffff 0001":    false,
	} {
		b := summed(t, told)
		if f, ok := frame.ReadAny(b); ok != want || !ok && f != (frame.Frame{}) {
			t.Errorf("%s: %+v, %v", told, f, ok)
		}
		b[len(b)-1] ^= 0x10
		if f, ok := frame.ReadAny(b); ok || f != (frame.Frame{}) {
			t.Errorf("%s with a wrong sum: %+v, %v", told, f, ok)
		}
	}
	for _, b := range [][]byte{nil, {}, {0x4a}} {
		if f, ok := frame.ReadAny(b); ok || f != (frame.Frame{}) {
			t.Errorf("%x: %+v, %v", b, f, ok)
		}
	}
}
