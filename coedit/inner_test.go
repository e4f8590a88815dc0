package coedit

import (
	"errors"
	"slices"
	"testing"
	"time"

	"coedit/frame"
	"coedit/text"
)

// These tests reach what no call shows yet: the frames behind a link's head, so many calls that links must be emptied between them, and what a server holds.

func begun(t *testing.T, clients, room int) *Session {
	t.Helper()
	s, err := New(clients, room)
	if err != nil {
		t.Fatal(err)
	}
	t.Cleanup(s.Stop)
	return s
}

// emptied lays a new link up to a client, as if all frames had been taken from the old one.
func emptied(s *Session, c, room int) {
	w := s.clients[c]
	w.do(func() { w.out = newSide(room).out })
}

// P3: of every call the frame has the end's counts, and the cursor as it is behind the change.
func TestEveryFrame(t *testing.T) {
	s := begun(t, 3, 1)
	a, b := text.Elem{R: 'a', Client: 2, Number: 1}, text.Elem{R: 0x10ffff, Client: 2, Number: 2}
	for i, c := range []struct {
		do   func() error
		want frame.Frame
	}{
		{func() error { return s.Insert(2, 0, 'a') }, frame.Frame{Change: Change{Kind: 1, At: 0, E: a, Client: 2}, Cursor: 1}},
		{func() error { return s.Insert(2, 1, 0x10ffff) }, frame.Frame{Change: Change{Kind: 1, At: 1, E: b, Client: 2}, Mine: 1, Cursor: 2}},
		{func() error { return s.Move(2, 1) }, frame.Frame{Change: Change{Kind: 3, Client: 2}, Mine: 2, Cursor: 1}},
		{func() error { return s.Delete(2, 1) }, frame.Frame{Change: Change{Kind: 2, At: 1, Client: 2}, Mine: 3, Cursor: 1}},
		{func() error { return s.Delete(2, 0) }, frame.Frame{Change: Change{Kind: 2, At: 0, Client: 2}, Mine: 4, Cursor: 0}},
	} {
		if err := c.do(); err != nil {
			t.Fatal(err)
		}
		if err := s.Move(2, 0); !errors.Is(err, ErrFull) {
			t.Fatalf("a second frame: %v", err)
		}
		if got, want := s.Head(2, true), frame.Write(c.want); string(got) != string(want[:]) {
			t.Errorf("frame %d is %x, want %x", i, got, want)
		}
		emptied(s, 2, 1)
	}
}

// P3: what was sent joins the row, in order; what was refused does not.
func TestRow(t *testing.T) {
	s := begun(t, 2, 3)
	e := text.Elem{R: 'a', Client: 1, Number: 1}
	for _, err := range []error{s.Insert(1, 0, 'a'), s.Move(1, 0), s.Delete(1, 0)} {
		if err != nil {
			t.Fatal(err)
		}
	}
	if s.Move(1, 0) == nil || s.Delete(1, 0) == nil {
		t.Fatal("a fourth frame")
	}
	w := s.clients[1]
	if want := []text.Edit{text.Insert{At: 0, E: e}, text.Nothing{By: 1}, text.Delete{At: 0, By: 1}}; !slices.Equal(w.row, want) {
		t.Errorf("the row is %v, want %v", w.row, want)
	}
	if w.mine != 3 || w.other != 0 {
		t.Errorf("mine %d, other %d", w.mine, w.other)
	}
	if w := s.clients[0]; len(w.row) != 0 || w.mine != 0 {
		t.Errorf("another client's row is %v", w.row)
	}
}

// P3: 2000 calls are taken of all clients together; those that were refused do not count; ErrMany comes ahead of ErrFull and behind ErrRange.
func TestMany(t *testing.T) {
	s := begun(t, 3, 16)
	write := func(i int) error {
		c := i % 2
		switch i % 5 {
		case 0:
			return s.Move(c, 0)
		case 1:
			return s.Delete(c, 0)
		}
		return s.Insert(c, 0, 'x')
	}
	taken := 0
	for i := 2; taken < 2000; i++ {
		err := write(i)
		if errors.Is(err, ErrFull) {
			emptied(s, i%2, 16)
			err = write(i)
		}
		if err != nil {
			t.Fatalf("behind %d calls: %v", taken, err)
		}
		taken++
		if err := s.Insert(i%2, -1, 'x'); !errors.Is(err, ErrRange) {
			t.Fatalf("behind %d calls: %v", taken, err)
		}
	}
	for c := range 3 {
		for call, err := range map[string]error{"Insert": s.Insert(c, 0, 'x'), "Move": s.Move(c, 0)} {
			var e *CallError
			if !errors.Is(err, ErrMany) || !errors.As(err, &e) || e.Call != call || e.Client != c {
				t.Errorf("%s of client %d: %v", call, c, err)
			}
		}
	}
	if up, _ := s.Waiting(2); up != 0 || s.Text(2) != "" {
		t.Errorf("a call too many was made")
	}
	if err := s.Delete(0, 0); !errors.Is(err, ErrMany) {
		t.Errorf("Delete: %v", err)
	}
	if err := s.Delete(2, 0); !errors.Is(err, ErrRange) {
		t.Errorf("Delete out of range: %v", err)
	}
	if err := s.Insert(2, 0, -1); !errors.Is(err, ErrRune) {
		t.Errorf("Insert of no rune: %v", err)
	}
}

func TestManyAndFull(t *testing.T) {
	s := begun(t, 1, 1)
	s.changes = mostChanges - 1
	if err := s.Move(0, 0); err != nil {
		t.Fatalf("the last call: %v", err)
	}
	if err := s.Move(0, 0); !errors.Is(err, ErrMany) {
		t.Errorf("one more, the link full: %v", err)
	}
}

// P7, P8: of what the server holds, copies are told.
func TestServerIsTold(t *testing.T) {
	s := begun(t, 2, 1)
	e := text.Elem{R: 0x4e16, Client: 1, Number: 4}
	s.server.do(func() {
		s.server.elems = []text.Elem{e}
		s.server.log = []text.Edit{text.Insert{At: 0, E: e}, text.Delete{At: 3, By: 1}, text.Nothing{By: 0}}
		s.server.cursors[1] = 1
	})
	want := []Change{{Kind: 1, At: 0, E: e, Client: 1}, {Kind: 2, At: 3, Client: 1}, {Kind: 3, Client: 0}}
	for round := range 4 {
		if s.Text(-1) != "\u4e16" || s.Cursor(-1) != -1 {
			t.Errorf("the server's text is %q", s.Text(-1))
		}
		for i, x := range s.Elems(-1) {
			if i != 0 || x != e {
				t.Errorf("the server's element %d is %v", i, x)
			}
		}
		l, m := s.Log(), s.Cursors()
		if !slices.Equal(l, want) || len(m) != 2 || m[0] != 0 || m[1] != 1 {
			t.Errorf("the log is %v, the table %v", l, m)
		}
		clear(l)
		clear(m)
		if round == 1 {
			s.Stop()
		}
	}
}

// P8: the head of the link down is told as well.
func TestHeadDown(t *testing.T) {
	s := begun(t, 2, 2)
	b := frame.Write(frame.Frame{Change: Change{Kind: 2}, Mine: 3})
	w := s.clients[1]
	w.do(func() { w.in.Put(b); w.in.Put(frame.Bytes{}) })
	for round := range 4 {
		head := s.Head(1, false)
		if string(head) != string(b[:]) || s.Head(1, true) != nil || s.Head(0, false) != nil {
			t.Errorf("the head down is %x", head)
		}
		clear(head)
		if up, down := s.Waiting(1); up != 0 || down != 2 {
			t.Errorf("waiting: %d, %d", up, down)
		}
		if round == 1 {
			s.Stop()
		}
	}
}

// P9: Stop waits for every goroutine, however long it takes to end.
func TestStopWaits(t *testing.T) {
	s := begun(t, 1, 1)
	s.running.Add(1)
	stopped := make(chan struct{})
	go func() {
		s.Stop()
		close(stopped)
	}()
	select {
	case <-stopped:
		t.Errorf("Stop answered while one was still running")
	case <-time.After(50 * time.Millisecond):
	}
	s.running.Done()
	<-stopped
}
