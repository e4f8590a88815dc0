package coedit_test

import (
	"errors"
	"runtime"
	"strings"
	"sync"
	"testing"
	"time"

	"coedit/coedit"
	"coedit/plain"
)

// script is a row of calls, right and wrong ones; it answers what they answered.
func script(s *coedit.Session) []int {
	var l []int
	seed := uint32(7)
	next := func(n int) int {
		seed = seed*1664525 + 1013904223
		return int(seed>>8) % n
	}
	for range 300 {
		l = append(l, plain.Do(s, 1+next(5), next(5)-1, next(12)-1, next(300)-5))
	}
	return l
}

// P1

func TestSameAnswersHoweverGoroutinesRun(t *testing.T) {
	first := begin(t, 4, 16)
	codes := script(first)
	want := look(first)
	for range 40 {
		s := begin(t, 4, 16)
		for i, n := range script(s) {
			if n != codes[i] {
				t.Fatalf("call %d answered %d, and %d", i, n, codes[i])
			}
		}
		if !same(look(s), want) {
			t.Fatalf("the same calls made another session")
		}
	}
}

func TestCallsFromManyGoroutines(t *testing.T) {
	s := begin(t, 6, 16)
	var all sync.WaitGroup
	for c := range 6 {
		all.Go(func() {
			for range 16 {
				if err := s.Insert(c, 0, 'x'); err != nil {
					t.Error(err)
				}
				look(s)
			}
		})
	}
	all.Wait()
	for c := range 6 {
		if up, _ := s.Waiting(c); up != 16 || s.Text(c) != "xxxxxxxxxxxxxxxx" || s.Cursor(c) != 16 {
			t.Errorf("client %d: %d frames, %q, %d", c, up, s.Text(c), s.Cursor(c))
		}
	}
}

func TestStopBesideCalls(t *testing.T) {
	for range 50 {
		s := begin(t, 3, 16)
		var all sync.WaitGroup
		for c := range 3 {
			all.Go(func() {
				for range 16 {
					if err := s.Insert(c, 0, 'x'); err != nil && !errors.Is(err, coedit.ErrStopped) {
						t.Error(err)
					}
				}
			})
			all.Go(s.Stop)
		}
		all.Wait()
		wrong(t, s.Move(0, 0), coedit.ErrStopped, "Move", 0)
		for c := range 3 {
			if up, _ := s.Waiting(c); up != len(s.Text(c)) {
				t.Errorf("client %d: %d frames, %q", c, up, s.Text(c))
			}
		}
	}
}

func TestNoSession(t *testing.T) {
	for what, s := range map[string]*coedit.Session{"nil": nil, "zero": {}} {
		t.Run(what, func(t *testing.T) {
			for c := -1; c <= 1; c++ {
				wrong(t, s.Insert(c, 0, 'x'), coedit.ErrClient, "Insert", c)
				wrong(t, s.Delete(c, 0), coedit.ErrClient, "Delete", c)
				wrong(t, s.Move(c, 0), coedit.ErrClient, "Move", c)
				wrong(t, s.Deliver(c, true), coedit.ErrClient, "Deliver", c)
				wrong(t, s.Deliver(c, false), coedit.ErrClient, "Deliver", c)
				wrong(t, s.Check(c, false, nil), coedit.ErrClient, "Check", c)
				up, down := s.Waiting(c)
				if s.Text(c) != "" || s.Cursor(c) != -1 || s.Head(c, true) != nil || s.Head(c, false) != nil || up != 0 || down != 0 {
					t.Errorf("client %d is there", c)
				}
				for range s.Elems(c) {
					t.Errorf("client %d has elements", c)
				}
			}
			if len(s.Cursors()) != 0 || len(s.Log()) != 0 {
				t.Errorf("%v, %v", s.Cursors(), s.Log())
			}
			s.Stop()
		})
	}
}

func TestErrors(t *testing.T) {
	if !plain.Different() {
		t.Errorf("two errors are one, or one is nil")
	}
	s := begin(t, 1, 1)
	if err := s.Delete(0, 0); err == nil || err.Error() != "Delete of client 0: out of range" {
		t.Errorf("%v", err)
	}
	var none *coedit.CallError
	if none.Unwrap() != nil || none.Error() == "" || (&coedit.CallError{Call: "Move"}).Error() == "" {
		t.Errorf("an error of nothing")
	}
}

// P9

// running counts the goroutines that the program began and that have not ended.
func running() int {
	b := make([]byte, 1<<20)
	return strings.Count(string(b[:runtime.Stack(b, true)]), "created by coedit/coedit.")
}

// settled tells whether there are so many of them, or soon will be: one that has done its last deed may still be seen for a while.
func settled(want int) bool {
	for range 2000 {
		if running() == want {
			return true
		}
		time.Sleep(time.Millisecond)
	}
	return false
}

func TestStopEndsAllGoroutines(t *testing.T) {
	for clients := 1; clients <= 6; clients++ {
		if !settled(0) {
			t.Fatalf("%d goroutines are left from before", running())
		}
		s, err := coedit.New(clients, 2)
		must(t, err)
		must(t, s.Insert(0, 0, 'a'))
		if n := running(); n != clients+1 {
			t.Errorf("%d clients and the server are %d goroutines", clients, n)
		}
		s.Stop()
		if !settled(0) {
			t.Errorf("%d goroutines have not ended", running())
		}
		s.Stop()
	}
}

func TestBehindStopAllIsToldAsItWas(t *testing.T) {
	s := begin(t, 4, 16)
	script(s)
	before := look(s)
	s.Stop()
	for range 2 {
		if after := look(s); !same(before, after) {
			t.Errorf("before %v, behind %v", before, after)
		}
	}
}
