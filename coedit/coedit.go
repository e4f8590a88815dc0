// Package coedit: many who write one text: see DOC.md.
package coedit

import (
	"maps"
	"strings"
	"sync"

	"coedit/text"
)

const (
	mostClients = 6
	mostRoom    = 16
	mostChanges = 2000

	serverNumber = -1
)

// Elem is a rune with its id: who typed it, as which of the typist's inserts.
type Elem = text.Elem

// Change is what is done to a text: Kind 1 inserts E at At, 2 deletes what stands at At, 3 does nothing.
type Change = text.Change

// Session is a server and its clients. Several goroutines may call it at one time.
type Session struct {
	// Calls come in one by one: only so can a call on two parties, or a Stop beside a call, be told as one step.
	mu      sync.Mutex
	running sync.WaitGroup
	server  *server
	clients []*client
	changes int
	stopped bool
}

// New: P2.
func New(clients int, room int) (*Session, error) {
	if clients < 1 || clients > mostClients || room < 1 || room > mostRoom {
		return nil, ErrShape
	}
	s := &Session{server: &server{cursors: map[int]int{}}}
	s.server.start(&s.running)
	for c := range clients {
		w := &client{number: c, side: newSide(room)}
		w.start(&s.running)
		s.clients = append(s.clients, w)
		s.server.ends = append(s.server.ends, w.opposite())
		s.server.cursors[c] = 0
	}
	return s, nil
}

// Insert, Delete and Move: P3.
func (s *Session) Insert(c int, at int, r rune) error {
	return s.write("Insert", c, func(w *client) (draft, error) { return w.draftInsert(at, r) })
}

func (s *Session) Delete(c int, at int) error {
	return s.write("Delete", c, func(w *client) (draft, error) { return w.draftDelete(at) })
}

func (s *Session) Move(c int, at int) error {
	return s.write("Move", c, func(w *client) (draft, error) { return w.draftMove(at) })
}

// Deliver: P4 (up) and P5.
func (s *Session) Deliver(c int, up bool) error {
	s = s.enter()
	defer s.mu.Unlock()
	w, err := s.find(c)
	if err == nil && up {
		s.server.do(func() { err = s.server.receive(c) })
	} else if err == nil {
		w.do(func() { err = w.receive() })
	}
	return named("Deliver", c, err)
}

// Check: P6.
func (s *Session) Check(c int, up bool, frame []byte) error {
	s = s.enter()
	defer s.mu.Unlock()
	w, err := s.find(c)
	if err != nil {
		return named("Check", c, err)
	}
	f, err := s.read(c, up, frame)
	if err == nil && up {
		s.server.do(func() { err = s.server.check(c, f) })
	} else if err == nil {
		w.do(func() { err = w.check(f) })
	}
	return named("Check", c, err)
}

// Text, Elems, Cursor and Cursors: P7.
func (s *Session) Text(c int) string {
	var b strings.Builder
	for _, e := range s.Elems(c) {
		b.WriteRune(e.R)
	}
	return b.String()
}

func (s *Session) Elems(c int) func(yield func(int, Elem) bool) {
	return func(yield func(int, Elem) bool) {
		if yield == nil {
			return
		}
		// No lock is held while the body runs: it may call the session.
		for i, e := range s.elems(c) {
			if !yield(i, e) {
				return
			}
		}
	}
}

func (s *Session) Cursor(c int) int {
	s = s.enter()
	defer s.mu.Unlock()
	w := s.client(c)
	if w == nil {
		return -1
	}
	var cursor int
	w.do(func() { cursor = w.cursor })
	return cursor
}

func (s *Session) Cursors() map[int]int {
	s = s.enter()
	defer s.mu.Unlock()
	table := map[int]int{}
	if s.server != nil {
		s.server.do(func() { maps.Copy(table, s.server.cursors) })
	}
	return table
}

// Head, Waiting and Log: P8.
func (s *Session) Head(c int, up bool) []byte {
	s = s.enter()
	defer s.mu.Unlock()
	w := s.client(c)
	if w == nil {
		return nil
	}
	l := w.in
	if up {
		l = w.out
	}
	var head []byte
	w.do(func() {
		if b, ok := l.Head(); ok {
			head = b[:]
		}
	})
	return head
}

func (s *Session) Waiting(c int) (int, int) {
	s = s.enter()
	defer s.mu.Unlock()
	w := s.client(c)
	if w == nil {
		return 0, 0
	}
	var up, down int
	w.do(func() { up, down = w.out.Waiting(), w.in.Waiting() })
	return up, down
}

func (s *Session) Log() []Change {
	s = s.enter()
	defer s.mu.Unlock()
	var told []Change
	if s.server != nil {
		s.server.do(func() {
			for _, x := range s.server.log {
				told = append(told, x.Told())
			}
		})
	}
	return told
}

// Stop: P9.
func (s *Session) Stop() {
	s = s.enter()
	defer s.mu.Unlock()
	if s.stopped {
		return
	}
	s.stopped = true
	for _, w := range s.clients {
		w.stop()
	}
	if s.server != nil {
		s.server.stop()
	}
	s.running.Wait()
}
