package coedit_test

import (
	"slices"
	"testing"

	"coedit/coedit"
	"coedit/plain"
)

// deliver makes deliveries that must be taken.
func deliver(t *testing.T, s *coedit.Session, up bool, clients ...int) {
	t.Helper()
	for _, c := range clients {
		if err := s.Deliver(c, up); err != nil {
			t.Fatalf("Deliver(%d, %v): %v", c, up, err)
		}
	}
}

func texts(t *testing.T, s *coedit.Session, want map[int]string) {
	t.Helper()
	for c, w := range want {
		if got, fits := plain.Text(s, c); got != w || !fits {
			t.Errorf("the text of %d is %q, want %q", c, got, w)
		}
	}
}

func head(t *testing.T, s *coedit.Session, c int, up bool, want string) {
	t.Helper()
	if got := plain.Head(s, c, up); got != unhex(t, want) {
		t.Errorf("the head of client %d (up: %v) is %x, want %s", c, up, got, want)
	}
}

// The first three of the document's examples, in their order.
func TestExamples(t *testing.T) {
	s := begin(t, 3, 4)
	must(t, s.Insert(0, 0, 'a'), s.Insert(1, 0, 'b'), s.Insert(1, 1, 0x4e16))
	if s.Cursor(1) != 2 {
		t.Errorf("client 1's cursor is %d", s.Cursor(1))
	}
	must(t, s.Move(1, 0))
	deliver(t, s, true, 1, 0)
	texts(t, s, map[int]string{-1: "ab", 0: "a", 1: "b\u4e16", 2: ""})
	if got := plain.Cursors(s, 3); !slices.Equal(got, []int{2, 2, 2}) {
		t.Errorf("the table is %v", got)
	}
	head(t, s, 1, false, "4a01 00 0001 0000 0001 0000 000061 0002 28")
	head(t, s, 0, false, "4a01 01 0001 0000 0000 0000 000062 0001 28")
	head(t, s, 2, false, "4a01 01 0001 0000 0000 0000 000062 0001 28")
	deliver(t, s, false, 0)
	texts(t, s, map[int]string{0: "ab"})
	if s.Cursor(0) != 2 {
		t.Errorf("client 0's cursor is %d", s.Cursor(0))
	}
	must(t, s.Delete(0, 0))
	head(t, s, 0, true, "4a02 00 0000 0001 0001 0000 000000 0001 49")
}

// P4: what has become nothing is taken, logged and sent on as well.
func TestTwoDeleteTheSame(t *testing.T) {
	s := begin(t, 3, 4)
	must(t, s.Insert(2, 0, 'a'))
	deliver(t, s, true, 2)
	deliver(t, s, false, 0, 1)
	must(t, s.Delete(0, 0), s.Delete(1, 0))
	deliver(t, s, true, 0, 1)
	want := []coedit.Change{{Kind: 1, E: coedit.Elem{R: 'a', Client: 2, Number: 1}, Client: 2}, {Kind: 2, Client: 0}, {Kind: 3, Client: 1}}
	if got := s.Log(); !slices.Equal(got, want) {
		t.Errorf("the log is %v, want %v", got, want)
	}
	head(t, s, 0, false, "4a03 01 0000 0001 0001 0000 000000 0000 48")
	deliver(t, s, false, 2)
	head(t, s, 2, false, "4a03 01 0000 0001 0001 0000 000000 0000 48")
	for c, want := range []int{1, 1, 1} {
		if _, down := s.Waiting(c); down != want {
			t.Errorf("%d frames stand in the link down of client %d", down, c)
		}
	}
	deliver(t, s, false, 0, 1, 2)
	texts(t, s, map[int]string{-1: "", 0: "", 1: "", 2: ""})
}

// P4, P5: both insert at one index: the lower number's element comes first, whoever is delivered first.
func TestTwoInsertAtOneIndex(t *testing.T) {
	for _, order := range [][]int{{0, 1}, {1, 0}} {
		s := begin(t, 2, 1)
		must(t, s.Insert(0, 0, 'x'), s.Insert(1, 0, 'y'))
		deliver(t, s, true, order...)
		deliver(t, s, false, order...)
		texts(t, s, map[int]string{-1: "xy", 0: "xy", 1: "xy"})
		if s.Cursor(0) != 2 || s.Cursor(1) != 2 {
			t.Errorf("cursors %d, %d", s.Cursor(0), s.Cursor(1))
		}
	}
}

// Several changes of both sides are under way at one time: each is turned past each.
func TestManyCross(t *testing.T) {
	s := begin(t, 2, 8)
	for i, r := range "abcdef" {
		must(t, s.Insert(0, i, r))
		deliver(t, s, true, 0)
		deliver(t, s, false, 1)
	}
	// Client 0 makes aXcdef of it, and client 1 bYcdeZ.
	must(t, s.Delete(0, 1), s.Insert(0, 1, 'X'), s.Move(0, 0))
	must(t, s.Delete(1, 0), s.Insert(1, 1, 'Y'), s.Delete(1, 5), s.Insert(1, 5, 'Z'))
	deliver(t, s, true, 0, 1, 0, 1, 1, 0, 1)
	texts(t, s, map[int]string{-1: "XYcdeZ", 0: "aXcdef", 1: "bYcdeZ"})
	deliver(t, s, false, 1, 0, 0, 1, 0, 1, 0)
	texts(t, s, map[int]string{-1: "XYcdeZ", 0: "XYcdeZ", 1: "XYcdeZ"})
	want := []coedit.Change{
		{Kind: 2, At: 1, Client: 0}, {Kind: 2, At: 0, Client: 1},
		{Kind: 1, At: 0, E: coedit.Elem{R: 'X', Client: 0, Number: 7}, Client: 0},
		{Kind: 1, At: 1, E: coedit.Elem{R: 'Y', Client: 1, Number: 1}, Client: 1},
		{Kind: 2, At: 5, Client: 1}, {Kind: 3, Client: 0},
		{Kind: 1, At: 5, E: coedit.Elem{R: 'Z', Client: 1, Number: 2}, Client: 1},
	}
	if got := s.Log()[6:]; !slices.Equal(got, want) {
		t.Errorf("the log is %v, want %v", got, want)
	}
	if got := plain.Cursors(s, 2); !slices.Equal(got, []int{0, 6}) || s.Cursor(0) != 0 || s.Cursor(1) != 6 {
		t.Errorf("the table is %v, the cursors %d, %d", got, s.Cursor(0), s.Cursor(1))
	}
}

// P7: the table's cursors are turned, also those of clients of which the server has heard nothing.
func TestTable(t *testing.T) {
	s := begin(t, 3, 8)
	must(t, s.Insert(1, 0, 'a'), s.Insert(1, 1, 'b'), s.Move(1, 1), s.Insert(1, 0, 'c'), s.Delete(1, 0), s.Delete(1, 1))
	for i, want := range [][]int{{1, 1, 1}, {2, 2, 2}, {2, 1, 2}, {3, 2, 3}, {2, 1, 2}, {1, 1, 1}} {
		deliver(t, s, true, 1)
		if got := plain.Cursors(s, 3); !slices.Equal(got, want) {
			t.Errorf("behind frame %d the table is %v, want %v", i, got, want)
		}
	}
	for range 6 {
		deliver(t, s, false, 0, 2)
	}
	for c := range 3 {
		if s.Cursor(c) != 1 {
			t.Errorf("client %d's cursor is %d", c, s.Cursor(c))
		}
	}
}

// P4: with one client there is none to send to.
func TestAlone(t *testing.T) {
	s := begin(t, 1, 1)
	must(t, s.Insert(0, 0, 'a'))
	deliver(t, s, true, 0)
	must(t, s.Insert(0, 0, 'b'))
	deliver(t, s, true, 0)
	texts(t, s, map[int]string{-1: "ba", 0: "ba"})
	wrong(t, s.Deliver(0, true), coedit.ErrEmpty, "Deliver", 0)
	wrong(t, s.Deliver(0, false), coedit.ErrEmpty, "Deliver", 0)
}

// P4: any other client's full link down is in the way, the client's own is not.
func TestFullLinkDown(t *testing.T) {
	for room := 1; room <= 16; room += 5 {
		for full := range 3 {
			s := begin(t, 3, room)
			from := (full + 1) % 3
			for range room {
				must(t, s.Move(from, 0))
				deliver(t, s, true, from)
				deliver(t, s, false, (full+2)%3)
			}
			must(t, s.Insert(0, 0, 'x'), s.Insert(1, 0, 'y'), s.Insert(2, 0, 'z'))
			before := look(s)
			for c := range 3 {
				if c != full {
					wrong(t, s.Deliver(c, true), coedit.ErrFull, "Deliver", c)
				}
			}
			if !same(before, look(s)) {
				t.Errorf("with ErrFull something has changed")
			}
			deliver(t, s, true, full)
			deliver(t, s, false, 0, 1, 2)
			deliver(t, s, true, from)
		}
	}
}

// P4, P5: the first fault in the promises' order is the one that is told, and with it nothing has changed.
func TestOrderOfDeliverErrors(t *testing.T) {
	s := begin(t, 3, 1)
	must(t, s.Insert(0, 0, 'a'))
	deliver(t, s, true, 0)
	must(t, s.Insert(0, 1, 'b'))
	before := look(s)
	wrong(t, s.Deliver(1, true), coedit.ErrEmpty, "Deliver", 1) // though the link down of client 2 is full
	wrong(t, s.Deliver(0, false), coedit.ErrEmpty, "Deliver", 0)
	wrong(t, s.Deliver(0, true), coedit.ErrFull, "Deliver", 0)
	for _, up := range []bool{true, false} {
		for _, c := range []int{-1, 3, 1 << 40, -1 << 40} {
			wrong(t, s.Deliver(c, up), coedit.ErrClient, "Deliver", c)
		}
	}
	if !same(before, look(s)) {
		t.Errorf("with an error something has changed")
	}
	s.Stop()
	for _, up := range []bool{true, false} {
		for _, c := range []int{-1, 0, 1, 2, 3} {
			wrong(t, s.Deliver(c, up), coedit.ErrStopped, "Deliver", c)
		}
	}
	if !same(before, look(s)) {
		t.Errorf("a delivery behind Stop has changed something")
	}
}

// P4, P5: a taken frame is gone, and the next one is the head.
func TestFramesAreTakenInOrder(t *testing.T) {
	s := begin(t, 2, 3)
	must(t, s.Insert(1, 0, 'a'), s.Move(1, 0), s.Delete(1, 0))
	frames := []string{
		"4a01 01 0001 0000 0000 0000 000061 0001 2b",
		"4a03 01 0000 0001 0000 0000 000000 0000 49",
		"4a02 01 0000 0002 0000 0000 000000 0000 4b",
	}
	for _, up := range []bool{true, false} {
		for i, f := range frames {
			c := 1
			if !up {
				c = 0
			}
			head(t, s, c, up, f)
			deliver(t, s, up, c)
			waiting, down := s.Waiting(c)
			if !up {
				waiting = down
			}
			if waiting != 2-i {
				t.Errorf("behind frame %d (up: %v) %d are left", i, up, waiting)
			}
		}
	}
	texts(t, s, map[int]string{-1: "", 0: ""})
}

// P3: of every call the frame has the end's counts, and the cursor as it is behind the change.
func TestEveryFrame(t *testing.T) {
	s := begin(t, 3, 1)
	for i, c := range []struct {
		do    func() error
		frame string
	}{
		{func() error { return s.Insert(2, 0, 'a') }, "4a01 02 0001 0000 0000 0000 000061 0001 28"},
		{func() error { return s.Insert(2, 1, 0x10ffff) }, "4a01 02 0002 0001 0000 0001 10ffff 0002 59"},
		{func() error { return s.Move(2, 1) }, "4a03 02 0000 0002 0000 0000 000000 0001 48"},
		{func() error { return s.Delete(2, 1) }, "4a02 02 0000 0003 0000 0001 000000 0001 49"},
		{func() error { return s.Delete(2, 0) }, "4a02 02 0000 0004 0000 0000 000000 0000 4e"},
	} {
		must(t, c.do())
		wrong(t, s.Move(2, 0), coedit.ErrFull, "Move", 2)
		head(t, s, 2, true, c.frame)
		deliver(t, s, true, 2)
		for k := range 2 {
			head(t, s, k, false, c.frame)
			deliver(t, s, false, k)
		}
		if got := len(s.Log()); got != i+1 {
			t.Errorf("the log has %d changes", got)
		}
	}
}

// P7, P8: of what the server holds, copies are told.
func TestServerIsTold(t *testing.T) {
	s := begin(t, 2, 4)
	must(t, s.Insert(1, 0, 0x4e16), s.Move(1, 0), s.Insert(1, 0, 'a'), s.Delete(1, 0))
	deliver(t, s, true, 1, 1, 1, 1)
	e, a := coedit.Elem{R: 0x4e16, Client: 1, Number: 1}, coedit.Elem{R: 'a', Client: 1, Number: 2}
	want := []coedit.Change{{Kind: 1, E: e, Client: 1}, {Kind: 3, Client: 1}, {Kind: 1, E: a, Client: 1}, {Kind: 2, Client: 1}}
	for round := range 4 {
		texts(t, s, map[int]string{-1: "\u4e16", 0: ""})
		if got, right := plain.Elems(s, -1, 0); !slices.Equal(got, []coedit.Elem{e}) || !right || s.Cursor(-1) != -1 {
			t.Errorf("the server's elements are %v", got)
		}
		l, m := s.Log(), s.Cursors()
		if !slices.Equal(l, want) || len(m) != 2 || m[0] != 1 || m[1] != 0 {
			t.Errorf("the log is %v, the table %v", l, m)
		}
		clear(l)
		clear(m)
		for range 2 {
			head(t, s, 0, false, "4a01 01 0001 0000 0000 0000 004e16 0001 12")
		}
		if round == 1 {
			s.Stop()
		}
	}
}

// P3: 2000 calls are taken of all clients together; those that were refused do not count; deliveries do not count and go on. P10: all come to one text then, too.
func TestMany(t *testing.T) {
	s := begin(t, 6, 16)
	for i := range 2000 {
		c := i % 5
		var err error
		switch size := len(elems(s, c)); {
		case i%7 == 3 && size > 0:
			err = s.Delete(c, size/2)
		case i%7 == 5 && size > 0:
			err = s.Move(c, size-1)
		default:
			err = s.Insert(c, size/3, rune(0x4e00+i))
		}
		must(t, err)
		wrong(t, s.Insert(c, -1, 'x'), coedit.ErrRange, "Insert", c)
		if i%11 == 10 {
			drain(s, 6)
		}
	}
	wrong(t, s.Insert(5, 0, 'x'), coedit.ErrMany, "Insert", 5)
	wrong(t, s.Move(5, 0), coedit.ErrMany, "Move", 5)
	wrong(t, s.Delete(0, 0), coedit.ErrMany, "Delete", 0)
	wrong(t, s.Delete(5, 2000), coedit.ErrRange, "Delete", 5)
	wrong(t, s.Insert(5, 0, -1), coedit.ErrRune, "Insert", 5)
	drain(s, 6)
	together(t, s, 6)
	if got := len(s.Log()); got != 2000 {
		t.Errorf("the log has %d changes", got)
	}
	wrong(t, s.Move(5, 0), coedit.ErrMany, "Move", 5)
}

// P3: ErrMany is told ahead of ErrFull. And one client alone can make all 2000: every number of its frames has two bytes.
func TestManyOfOne(t *testing.T) {
	s := begin(t, 2, 1)
	for i := range 2000 {
		if i > 0 {
			deliver(t, s, true, 1)
			deliver(t, s, false, 0)
		}
		must(t, s.Insert(1, i, 'x'))
	}
	wrong(t, s.Insert(1, 0, 'x'), coedit.ErrMany, "Insert", 1)
	head(t, s, 1, true, "4a01 01 07d0 07cf 0000 07cf 000078 07d0 32")
	deliver(t, s, true, 1)
	head(t, s, 0, false, "4a01 01 07d0 07cf 0000 07cf 000078 07d0 32")
	deliver(t, s, false, 0)
	together(t, s, 2)
}
