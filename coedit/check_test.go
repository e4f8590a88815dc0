package coedit_test

import (
	"strings"
	"sync"
	"testing"

	"coedit/coedit"
	"coedit/plain"
)

// summed is the bytes that are told, and behind them their exclusive or.
func summed(t *testing.T, told string) string {
	t.Helper()
	b := unhex(t, told)
	all := byte(0)
	for i := range len(b) {
		all ^= b[i]
	}
	return b + string([]byte{all})
}

// asked is a question about the sixteen bytes of a frame ahead of its sum, and its answer by the numbers of package plain.
type asked struct {
	c    int
	up   bool
	told string
	want int
}

// check asks; no question may do anything.
func check(t *testing.T, s *coedit.Session, all []asked) {
	t.Helper()
	before := look(s)
	for _, a := range all {
		if got := plain.Check(s, a.c, a.up, summed(t, a.told)); got != a.want {
			t.Errorf("Check(%d, %v, %s) answered %d, want %d", a.c, a.up, a.told, got, a.want)
		}
	}
	if !same(before, look(s)) {
		t.Errorf("Check has changed something")
	}
}

// served is a session of three with the text ab at the server: client 0 typed it, and the others have taken nothing yet.
func served(t *testing.T) *coedit.Session {
	t.Helper()
	s := begin(t, 3, 8)
	must(t, s.Insert(0, 0, 'a'), s.Insert(0, 1, 'b'))
	deliver(t, s, true, 0, 0)
	return s
}

// P6: the document's last example.
func TestCheckExample(t *testing.T) {
	check(t, served(t), []asked{
		{0, true, "4a01 00 0003 0002 0000 0002 000063 0003", 0},
		{0, true, "4a01 00 0003 0002 0000 0003 000063 0003", codeRange},
		{0, true, "4a01 00 0003 0001 0000 0002 000063 0003", codeOrder},
		{0, true, "4a01 00 0003 0002 0001 0002 000063 0003", codeAck},
	})
}

// P1, P6: of several faults the first in the promise's order is told, with the call's name and the client's number.
func TestCheckOrderOfErrors(t *testing.T) {
	s := served(t)
	ask := func(c int, up bool, told string) error { return s.Check(c, up, []byte(summed(t, told))) }
	for _, up := range []bool{true, false} {
		for _, c := range []int{-1, 3, 1 << 40, -1 << 40} {
			wrong(t, s.Check(c, up, nil), coedit.ErrClient, "Check", c)
			wrong(t, ask(c, up, "4a01 00 0003 0002 0000 0002 000063 0003"), coedit.ErrClient, "Check", c)
		}
		wrong(t, s.Check(1, up, nil), coedit.ErrFrame, "Check", 1)
	}
	for _, c := range []struct {
		told string
		want error
	}{
		{"4b01 00 0000 0009 0009 0009 000063 0009", coedit.ErrFrame},
		{"4a01 00 0000 0009 0009 0009 000063 0009", coedit.ErrOrder},
		{"4a01 00 0000 0002 0009 0009 000063 0009", coedit.ErrAck},
		{"4a01 00 0000 0002 0000 0009 000063 0009", coedit.ErrRange},
		{"4a01 00 0000 0002 0000 0002 000063 0003", coedit.ErrRange},
	} {
		wrong(t, ask(0, true, c.told), c.want, "Check", 0)
	}
	for _, c := range []struct {
		told string
		want error
	}{
		{"4a01 02 0000 0009 0009 0009 000063 0009", coedit.ErrFrame},
		{"4a01 01 0000 0009 0009 0009 000063 0009", coedit.ErrOrder},
		{"4a01 01 0000 0000 0009 0009 000063 0009", coedit.ErrAck},
		{"4a01 01 0000 0000 0000 0009 000063 0009", coedit.ErrRange},
	} {
		wrong(t, ask(2, false, c.told), c.want, "Check", 2)
	}
	s.Stop()
	for _, c := range []int{-1, 0, 3} {
		for _, up := range []bool{true, false} {
			wrong(t, s.Check(c, up, nil), coedit.ErrStopped, "Check", c)
			wrong(t, ask(c, up, "4a01 00 0003 0002 0000 0002 000063 0003"), coedit.ErrStopped, "Check", c)
		}
	}
}

// P6: bytes that are no frame at all.
func TestCheckNoFrame(t *testing.T) {
	s := served(t)
	right := summed(t, "4a01 00 0003 0002 0000 0002 000063 0003")
	if got := plain.Check(s, 0, true, right); got != 0 {
		t.Fatalf("a right frame is answered by %d", got)
	}
	bytes := []string{"", right[:1], right[:16], right[1:], right + "\x00", right + right, strings.Repeat("\x00", 17), strings.Repeat("\xff", 17)}
	// One byte alone can't be another: the sum tells it.
	for i := range len(right) {
		for k := 1; k < 256; k++ {
			bytes = append(bytes, right[:i]+string([]byte{right[i] ^ byte(k)})+right[i+1:])
		}
	}
	for _, b := range bytes {
		if got := plain.Check(s, 0, true, b); got != codeFrame {
			t.Errorf("%x is answered by %d", b, got)
		}
	}
	check(t, s, []asked{
		{0, true, "4a03 00 0000 0002 0000 0000 000000 00", codeFrame},      // 16 bytes with their sum
		{0, true, "4a03 00 0000 0002 0000 0000 000000 0000 00", codeFrame}, // 18
		{0, true, "0003 00 0000 0002 0000 0000 000000 0000", codeFrame},
		{0, true, "4b03 00 0000 0002 0000 0000 000000 0000", codeFrame},
		{0, true, "4a00 00 0000 0002 0000 0000 000000 0000", codeFrame},
		{0, true, "4a04 00 0000 0002 0000 0000 000000 0000", codeFrame},
		{0, true, "4aff 00 0000 0002 0000 0000 000000 0000", codeFrame},
	})
}

// P6: numbers that must be 0 have to be, with both or all three of their bytes.
func TestCheckZeros(t *testing.T) {
	check(t, served(t), []asked{
		{0, true, "4a02 00 0000 0002 0000 0001 000000 0001", 0},
		{0, true, "4a02 00 0001 0002 0000 0001 000000 0001", codeFrame},
		{0, true, "4a02 00 0100 0002 0000 0001 000000 0001", codeFrame},
		{0, true, "4a02 00 0000 0002 0000 0001 000001 0001", codeFrame},
		{0, true, "4a02 00 0000 0002 0000 0001 000100 0001", codeFrame},
		{0, true, "4a02 00 0000 0002 0000 0001 010000 0001", codeFrame},
		{0, true, "4a03 00 0000 0002 0000 0000 000000 0001", 0},
		{0, true, "4a03 00 0001 0002 0000 0000 000000 0001", codeFrame},
		{0, true, "4a03 00 0100 0002 0000 0000 000000 0001", codeFrame},
		{0, true, "4a03 00 0000 0002 0000 0001 000000 0001", codeFrame},
		{0, true, "4a03 00 0000 0002 0000 0100 000000 0001", codeFrame},
		{0, true, "4a03 00 0000 0002 0000 0000 000001 0001", codeFrame},
		{0, true, "4a03 00 0000 0002 0000 0000 000100 0001", codeFrame},
		{0, true, "4a03 00 0000 0002 0000 0000 010000 0001", codeFrame},
	})
}

// P6: the runes at the edges.
func TestCheckRunes(t *testing.T) {
	s := served(t)
	for r, want := range map[string]int{
		"000000": 0, "00d7ff": 0, "00e000": 0, "00ffff": 0, "010000": 0, "10ffff": 0,
		"00d800": codeFrame, "00dbff": codeFrame, "00dc00": codeFrame, "00dfff": codeFrame, "110000": codeFrame, "ffffff": codeFrame,
	} {
		check(t, s, []asked{
			{0, true, "4a01 00 0003 0002 0000 0002 " + r + " 0003", want},
			{1, false, "4a01 00 0001 0000 0000 0000 " + r + " 0001", want},
		})
	}
}

// P6: up go the client's own changes, down those of the others, and none of clients that there are not.
func TestCheckClients(t *testing.T) {
	check(t, served(t), []asked{
		{0, true, "4a03 00 0000 0002 0000 0000 000000 0000", 0},
		{0, true, "4a03 01 0000 0002 0000 0000 000000 0000", codeFrame},
		{0, true, "4a03 02 0000 0002 0000 0000 000000 0000", codeFrame},
		{0, true, "4a03 03 0000 0002 0000 0000 000000 0000", codeFrame},
		{0, true, "4a03 ff 0000 0002 0000 0000 000000 0000", codeFrame},
		{1, true, "4a03 01 0000 0000 0000 0000 000000 0000", 0},
		{1, true, "4a03 00 0000 0000 0000 0000 000000 0000", codeFrame},
		{1, false, "4a03 00 0000 0000 0000 0000 000000 0000", 0},
		{1, false, "4a03 01 0000 0000 0000 0000 000000 0000", codeFrame},
		{1, false, "4a03 02 0000 0000 0000 0000 000000 0000", 0},
		{1, false, "4a03 03 0000 0000 0000 0000 000000 0000", codeFrame},
		{1, false, "4a03 ff 0000 0000 0000 0000 000000 0000", codeFrame},
	})
	// To an only client nothing can come down.
	check(t, begin(t, 1, 1), []asked{
		{0, true, "4a03 00 0000 0000 0000 0000 000000 0000", 0},
		{0, false, "4a03 00 0000 0000 0000 0000 000000 0000", codeFrame},
		{0, false, "4a03 01 0000 0000 0000 0000 000000 0000", codeFrame},
	})
}

// P6: mine is how many frames have been taken there: those that still wait are none of them.
func TestCheckOrder(t *testing.T) {
	s := served(t)
	must(t, s.Move(0, 0))
	deliver(t, s, false, 1)
	check(t, s, []asked{
		{0, true, "4a03 00 0000 0002 0000 0000 000000 0000", 0},
		{0, true, "4a03 00 0000 0000 0000 0000 000000 0000", codeOrder},
		{0, true, "4a03 00 0000 0001 0000 0000 000000 0000", codeOrder},
		{0, true, "4a03 00 0000 0003 0000 0000 000000 0000", codeOrder},
		{0, true, "4a03 00 0000 0102 0000 0000 000000 0000", codeOrder},
		{1, false, "4a03 00 0000 0001 0000 0000 000000 0000", 0},
		{1, false, "4a03 00 0000 0000 0000 0000 000000 0000", codeOrder},
		{1, false, "4a03 00 0000 0002 0000 0000 000000 0000", codeOrder},
		{2, false, "4a03 00 0000 0000 0000 0000 000000 0000", 0},
		{2, false, "4a03 00 0000 0001 0000 0000 000000 0000", codeOrder},
	})
}

// P6: other is no more than was sent from there, and no less than was told there.
func TestCheckAck(t *testing.T) {
	s := served(t)
	check(t, s, []asked{
		{1, true, "4a03 01 0000 0000 0000 0000 000000 0000", 0},
		{1, true, "4a03 01 0000 0000 0001 0000 000000 0000", 0},
		{1, true, "4a03 01 0000 0000 0002 0000 000000 0000", 0},
		{1, true, "4a03 01 0000 0000 0003 0000 000000 0000", codeAck},
		{1, true, "4a03 01 0000 0000 0100 0000 000000 0000", codeAck},
	})
	// Client 1 tells that it has taken one; that it has taken two it tells in a frame that waits.
	deliver(t, s, false, 1)
	must(t, s.Move(1, 0))
	deliver(t, s, false, 1)
	must(t, s.Move(1, 0))
	deliver(t, s, true, 1)
	check(t, s, []asked{
		{1, true, "4a03 01 0000 0001 0000 0000 000000 0000", codeAck},
		{1, true, "4a03 01 0000 0001 0001 0000 000000 0000", 0},
		{1, true, "4a03 01 0000 0001 0002 0000 000000 0000", 0},
		{1, true, "4a03 01 0000 0001 0003 0000 000000 0000", codeAck},
		{1, false, "4a03 00 0000 0002 0000 0000 000000 0000", 0},
		{1, false, "4a03 00 0000 0002 0001 0000 000000 0000", 0},
		{1, false, "4a03 00 0000 0002 0002 0000 000000 0000", 0},
		{1, false, "4a03 00 0000 0002 0003 0000 000000 0000", codeAck},
	})
	// The server tells client 1 that it has taken one.
	must(t, s.Move(0, 0))
	deliver(t, s, true, 0)
	deliver(t, s, false, 1)
	check(t, s, []asked{
		{1, false, "4a03 00 0000 0003 0000 0000 000000 0000", codeAck},
		{1, false, "4a03 00 0000 0003 0001 0000 000000 0000", 0},
		{1, false, "4a03 00 0000 0003 0002 0000 000000 0000", 0},
		{1, false, "4a03 00 0000 0003 0003 0000 000000 0000", codeAck},
	})
}

// P6: indices and cursors at the edges, where nothing has crossed.
func TestCheckRange(t *testing.T) {
	check(t, served(t), []asked{
		{0, true, "4a01 00 0003 0002 0000 0000 000063 0000", 0},
		{0, true, "4a01 00 0003 0002 0000 0002 000063 0003", 0},
		{0, true, "4a01 00 0003 0002 0000 0002 000063 0004", codeRange},
		{0, true, "4a01 00 0003 0002 0000 0003 000063 0000", codeRange},
		{0, true, "4a01 00 0003 0002 0000 ffff 000063 0000", codeRange},
		{0, true, "4a02 00 0000 0002 0000 0000 000000 0000", 0},
		{0, true, "4a02 00 0000 0002 0000 0001 000000 0001", 0},
		{0, true, "4a02 00 0000 0002 0000 0001 000000 0002", codeRange},
		{0, true, "4a02 00 0000 0002 0000 0002 000000 0000", codeRange},
		{0, true, "4a02 00 0000 0002 0000 ffff 000000 0000", codeRange},
		{0, true, "4a03 00 0000 0002 0000 0000 000000 0002", 0},
		{0, true, "4a03 00 0000 0002 0000 0000 000000 0003", codeRange},
		{0, true, "4a03 00 0000 0002 0000 0000 000000 ffff", codeRange},
		// Client 2 has no text yet.
		{2, false, "4a01 01 0001 0000 0000 0000 000063 0001", 0},
		{2, false, "4a01 01 0001 0000 0000 0000 000063 0002", codeRange},
		{2, false, "4a01 01 0001 0000 0000 0001 000063 0000", codeRange},
		{2, false, "4a02 01 0000 0000 0000 0000 000000 0000", codeRange},
		{2, false, "4a03 01 0000 0000 0000 0000 000000 0000", 0},
		{2, false, "4a03 01 0000 0000 0000 0000 000000 0001", codeRange},
	})
}

// P6: what counts is what the change and the cursor would become.
func TestCheckTurns(t *testing.T) {
	// The server's ab is not known to client 1, unless the frame tells so: what it does at 0 of its empty text goes behind the b.
	s := served(t)
	check(t, s, []asked{
		{1, true, "4a01 01 0001 0000 0000 0000 00007a 0001", 0},
		{1, true, "4a01 01 0001 0000 0000 0000 00007a 0002", codeRange},
		{1, true, "4a01 01 0001 0000 0000 0001 00007a 0000", codeRange},
		{1, true, "4a02 01 0000 0000 0000 0000 000000 0000", codeRange},
		{1, true, "4a03 01 0000 0000 0000 0000 000000 0001", codeRange},
		// It tells that it has the a: only the b is ahead of what it does at 1.
		{1, true, "4a01 01 0001 0000 0001 0001 00007a 0002", 0},
		{1, true, "4a01 01 0001 0000 0001 0000 00007a 0002", 0},
		{1, true, "4a01 01 0001 0000 0001 0000 00007a 0003", codeRange},
		{1, true, "4a02 01 0000 0000 0001 0000 000000 0000", 0},
		{1, true, "4a02 01 0000 0000 0001 0001 000000 0000", codeRange},
		// It tells that it has both.
		{1, true, "4a02 01 0000 0000 0002 0001 000000 0001", 0},
		{1, true, "4a03 01 0000 0000 0002 0000 000000 0002", 0},
		{1, true, "4a03 01 0000 0000 0002 0000 000000 0003", codeRange},
	})
	// Client 2's z is not known to the server, unless the frame tells so: what came from a text without it is turned past it.
	must(t, s.Insert(2, 0, 'z'))
	check(t, s, []asked{
		{2, false, "4a01 01 0001 0000 0000 0000 000061 0001", 0},
		{2, false, "4a01 01 0001 0000 0000 0000 000061 0002", codeRange},
		{2, false, "4a02 01 0000 0000 0000 0000 000000 0000", codeRange},
		{2, false, "4a02 01 0000 0000 0001 0000 000000 0000", 0},
		{2, false, "4a03 01 0000 0000 0000 0000 000000 0000", 0},
		{2, false, "4a03 01 0000 0000 0000 0000 000000 0001", codeRange},
		{2, false, "4a03 01 0000 0000 0001 0000 000000 0001", 0},
	})
}

// P6: a change that would become nothing is never out of range; its cursor may be.
func TestCheckBecomesNothing(t *testing.T) {
	s := begin(t, 2, 8)
	must(t, s.Insert(0, 0, 'a'))
	deliver(t, s, true, 0)
	deliver(t, s, false, 1)
	must(t, s.Delete(0, 0), s.Delete(1, 0))
	deliver(t, s, true, 0)
	check(t, s, []asked{
		{1, true, "4a02 01 0000 0000 0001 0000 000000 0000", 0},
		{1, true, "4a02 01 0000 0000 0001 0000 000000 0001", codeRange},
		{1, true, "4a02 01 0000 0000 0001 0001 000000 0000", codeRange},
		{1, true, "4a02 01 0000 0000 0002 0000 000000 0000", codeRange},
		{1, false, "4a02 00 0000 0001 0000 0000 000000 0000", 0},
		{1, false, "4a02 00 0000 0001 0000 0000 000000 0001", codeRange},
		{1, false, "4a02 00 0000 0001 0001 0000 000000 0000", codeRange},
	})
}

// P6: up an insert's number is the next of its client, of what the server has taken; down it is any but 0.
func TestCheckNumbers(t *testing.T) {
	s := served(t)
	must(t, s.Delete(0, 0), s.Move(0, 0))
	deliver(t, s, true, 0, 0)
	must(t, s.Insert(0, 0, 'w'), s.Insert(1, 0, 'z')) // they wait
	check(t, s, []asked{
		{0, true, "4a01 00 0003 0004 0000 0000 000063 0000", 0},
		{0, true, "4a01 00 0000 0004 0000 0000 000063 0000", codeRange},
		{0, true, "4a01 00 0002 0004 0000 0000 000063 0000", codeRange},
		{0, true, "4a01 00 0004 0004 0000 0000 000063 0000", codeRange},
		{0, true, "4a01 00 0103 0004 0000 0000 000063 0000", codeRange},
		{1, true, "4a01 01 0001 0000 0000 0000 000063 0000", 0},
		{1, true, "4a01 01 0000 0000 0000 0000 000063 0000", codeRange},
		{1, true, "4a01 01 0002 0000 0000 0000 000063 0000", codeRange},
		{1, false, "4a01 00 0001 0000 0000 0000 000063 0000", 0},
		{1, false, "4a01 00 0009 0000 0000 0000 000063 0000", 0},
		{1, false, "4a01 00 ffff 0000 0000 0000 000063 0000", 0},
		{1, false, "4a01 00 0000 0000 0000 0000 000063 0000", codeRange},
	})
}

// P6: no question is a delivery: asked again it has the same answer, what waits waits on, and a row that was turned for an answer is as it was.
func TestCheckDoesNothing(t *testing.T) {
	asking, quiet := begin(t, 3, 4), begin(t, 3, 4)
	d := dice(17)
	for i := range 400 {
		k, c, at := 1+d.under(5), d.under(3), d.under(4)
		for c := range 3 {
			for _, up := range []bool{true, false} {
				for range 2 {
					if h := asking.Head(c, up); h != nil && asking.Check(c, up, h) != nil {
						t.Fatalf("the head %x of client %d (up: %v): %v", h, c, up, asking.Check(c, up, h))
					}
				}
			}
		}
		if a, b := plain.Do(asking, k, c, at, 'x'), plain.Do(quiet, k, c, at, 'x'); a != b || !same(look(asking), look(quiet)) {
			t.Fatalf("behind call %d the session that was asked is another: %d, %d", i, a, b)
		}
	}
}

// P1: the bytes are only read, also beyond their end, and not kept.
func TestCheckOnlyReads(t *testing.T) {
	s := served(t)
	b := []byte(summed(t, "4a01 00 0003 0002 0000 0002 000063 0003") + "beyond")
	was := string(b)
	for n := range len(b) + 1 {
		s.Check(0, true, b[:n])
		if string(b) != was {
			t.Fatalf("of %d bytes: %x has become %x", n, was, b)
		}
	}
	must(t, s.Check(0, true, b[:17]))
	clear(b)
	if got := plain.Check(s, 0, true, was[:17]); got != 0 {
		t.Errorf("asked again: %d", got)
	}
}

// P1: many may ask at one time, of the same bytes, while others write.
func TestCheckFromManyGoroutines(t *testing.T) {
	s := served(t)
	b := []byte(summed(t, "4a01 00 0003 0002 0000 0002 000063 0003"))
	var all sync.WaitGroup
	for c := range 3 {
		all.Go(func() {
			for range 50 {
				if err := s.Check(0, true, b); err != nil {
					t.Error(err)
				}
				wrong(t, s.Check(c, false, nil), coedit.ErrFrame, "Check", c)
				s.Insert(c, 0, 'x')
				s.Deliver(c, false)
			}
		})
	}
	all.Wait()
}

// guess is a frame that might come there next; in one or two of its places it may be another.
func (m *model) guess(d *dice, c int, up bool) modelFrame {
	e, of, length := m.below[c], d.under(len(m.cursors)), len(m.texts[c])
	number := 1 + d.under(3)
	if up {
		e, of, length = m.above[c], c, len(m.texts[len(m.texts)-1])
		number = m.came[c] + 1
	}
	f := modelFrame{mine: e.other, other: e.told + d.under(e.mine-e.told+1), cursor: d.under(length + 2)}
	f.x = coedit.Change{Kind: 1 + d.under(3), At: d.under(length + 2), Client: of}
	switch f.x.Kind {
	case 1:
		f.x.E = coedit.Elem{R: rune(d.under(0xd800)), Client: of, Number: number}
	case 3:
		f.x.At = 0
	}
	step := func(n int) int { return max(n+d.under(5)-2, 0) }
	for range 2 {
		switch d.under(16) {
		case 0:
			f.mine = step(f.mine)
		case 1:
			f.other = step(f.other)
		case 2:
			f.x.E.Number = step(f.x.E.Number)
		case 3:
			f.x.Client = d.under(8)
		case 4:
			f.x.Kind = d.under(6)
		case 5:
			f.x.E.R = rune([]int{0, 1, 0xd7ff, 0xd800, 0xdfff, 0xe000, 0x10ffff, 0x110000, 0xffffff}[d.under(9)])
		case 6:
			f.x.At = []int{0, 1, 0xff, 0x100, 0xffff}[d.under(5)]
		case 7:
			f.cursor = []int{0, 1, 0xff, 0x100, 0xffff}[d.under(5)]
		}
	}
	return f
}

// spoilt is the bytes with one byte changed, or one too few or too many of them.
func spoilt(d *dice, b string) string {
	i := d.under(len(b))
	switch d.under(3) {
	case 0:
		return b[:i] + b[i+1:]
	case 1:
		return b[:i] + string([]byte{byte(d.under(256))}) + b[i:]
	}
	return b[:i] + string([]byte{b[i] ^ byte(1+d.under(255))}) + b[i+1:]
}

// P6: whatever bytes are asked about, the answer is the document's, and nothing is done. A frame that waits is always right.
func TestCheckIsAsTheModel(t *testing.T) {
	d := dice(5)
	answers := map[int]int{}
	for round := range 120 {
		clients, room := 1+round%6, 1+d.under(16)
		s, m := begin(t, clients, room), newModel(clients, room)
		kinds := [][]int{{1, 1, 2, 3, 4, 5}, {1, 1, 1, 2, 2, 3, 4, 5}, {1, 2, 4, 4, 4, 5, 5, 5}, {1, 1, 2, 3, 4, 4, 4}}[d.under(4)]
		for range 200 {
			k, c := kinds[d.under(len(kinds))], d.under(clients)
			at := d.under(len(m.texts[c]) + 1)
			plain.Do(s, k, c, at, 'a')
			m.do(k, c, at, 'a')
			for range 4 {
				c, up := d.under(clients), d.under(2) == 0
				b := bytesOf(m.guess(&d, c, up))
				if h := plain.Head(s, c, up); h != "" && d.under(4) == 0 {
					if n := plain.Check(s, c, up, h); n != 0 {
						t.Fatalf("round %d: the head %x of client %d (up: %v) is answered by %d", round, h, c, up, n)
					}
					b = spoilt(&d, h)
				}
				got, want := plain.Check(s, c, up, b), m.check(c, up, b)
				if got != want {
					t.Fatalf("round %d: Check(%d, %v, %x) answered %d, want %d", round, c, up, b, got, want)
				}
				answers[got]++
			}
			if !same(look(s), m.look()) {
				t.Fatalf("round %d: it has become another", round)
			}
		}
		s.Stop()
	}
	for _, n := range []int{0, codeRange, codeFrame, codeOrder, codeAck} {
		if answers[n] < 1000 {
			t.Errorf("the answer %d came only %d times", n, answers[n])
		}
	}
}
