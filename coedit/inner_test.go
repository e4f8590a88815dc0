package coedit

import (
	"slices"
	"testing"
	"time"

	"coedit/text"
)

// These tests reach what no call shows: an end's row, and a goroutine that takes long to end.

func begun(t *testing.T, clients, room int) *Session {
	t.Helper()
	s, err := New(clients, room)
	if err != nil {
		t.Fatal(err)
	}
	t.Cleanup(s.Stop)
	return s
}

func taken(t *testing.T, errs ...error) {
	t.Helper()
	for _, err := range errs {
		if err != nil {
			t.Fatal(err)
		}
	}
}

func holds(t *testing.T, e *side, mine, other int, row ...text.Edit) {
	t.Helper()
	if e.mine != mine || e.other != other || !slices.Equal(e.row, row) {
		t.Errorf("mine %d, other %d, the row %v; want %d, %d, %v", e.mine, e.other, e.row, mine, other, row)
	}
}

// P3: what was sent joins the row, in order; what was refused does not.
func TestRow(t *testing.T) {
	s := begun(t, 2, 3)
	e := text.Elem{R: 'a', Client: 1, Number: 1}
	taken(t, s.Insert(1, 0, 'a'), s.Move(1, 0), s.Delete(1, 0))
	if s.Move(1, 0) == nil || s.Delete(1, 0) == nil {
		t.Fatal("a fourth frame")
	}
	holds(t, &s.clients[1].side, 3, 0, text.Insert{At: 0, E: e}, text.Nothing{By: 1}, text.Delete{At: 0, By: 1})
	holds(t, &s.clients[0].side, 0, 0)
}

// P4, P5: what is known to be taken leaves the row; what stays is turned past what comes in.
func TestRowLosesWhatIsKnown(t *testing.T) {
	s := begun(t, 2, 4)
	below, above := &s.clients[1].side, s.server.ends[1]
	a, b := text.Elem{R: 'a', Client: 1, Number: 1}, text.Elem{R: 'b', Client: 1, Number: 2}
	x, y := text.Elem{R: 'x', Client: 0, Number: 1}, text.Elem{R: 'y', Client: 0, Number: 2}

	taken(t, s.Insert(1, 0, 'a'), s.Insert(1, 1, 'b'), s.Insert(0, 0, 'x'))
	taken(t, s.Deliver(0, true))
	holds(t, above, 1, 0, text.Insert{At: 0, E: x})
	taken(t, s.Deliver(1, false)) // the server had not taken a and b yet
	holds(t, below, 2, 1, text.Insert{At: 1, E: a}, text.Insert{At: 2, E: b})
	taken(t, s.Deliver(1, true)) // client 1 had not taken x yet
	holds(t, above, 1, 1, text.Insert{At: 0, E: x})

	taken(t, s.Insert(0, 0, 'y'), s.Deliver(0, true))
	holds(t, above, 2, 1, text.Insert{At: 0, E: x}, text.Insert{At: 0, E: y})
	taken(t, s.Deliver(1, false)) // the server had taken a
	holds(t, below, 2, 2, text.Insert{At: 3, E: b})
	taken(t, s.Deliver(1, true))
	holds(t, above, 2, 2, text.Insert{At: 0, E: x}, text.Insert{At: 0, E: y})
	taken(t, s.Move(1, 0), s.Deliver(1, true)) // client 1 had taken both
	holds(t, above, 2, 3)
}

// P9: Stop waits for every goroutine, however long it takes to end.
func TestStopWaits(t *testing.T) {
	s := begun(t, 1, 1)
	s.running.Add(1)
	stopped := make(chan struct{})
	go func() {
		s.Stop()
		close(stopped)
	}()
	select {
	case <-stopped:
		t.Errorf("Stop answered while one was still running")
	case <-time.After(50 * time.Millisecond):
	}
	s.running.Done()
	<-stopped
}
