package link_test

import (
	"testing"

	"coedit/link"
)

func TestRoom(t *testing.T) {
	for _, room := range []int{1, 2, 16} {
		l := link.New[int](room)
		if _, ok := l.Head(); ok || l.Waiting() != 0 {
			t.Errorf("a new link is not empty")
		}
		for i := range room {
			if !l.Put(i) || l.Waiting() != i+1 {
				t.Errorf("thing %d of %d: %d waiting", i, room, l.Waiting())
			}
		}
		if l.Put(99) || l.Waiting() != room {
			t.Errorf("a link for %d took one more", room)
		}
	}
}

func TestHeadStays(t *testing.T) {
	l := link.New[string](3)
	for _, v := range []string{"a", "b", "c"} {
		l.Put(v)
		for range 4 {
			if head, ok := l.Head(); !ok || head != "a" {
				t.Errorf("behind %s the head is %q", v, head)
			}
		}
	}
	if l.Waiting() != 3 {
		t.Errorf("%d waiting", l.Waiting())
	}
}

func TestTake(t *testing.T) {
	l := link.New[string](2)
	for range 3 {
		if v, ok := l.Take(); ok || v != "" {
			t.Errorf("an empty link gave %q", v)
		}
		l.Put("a")
		l.Put("b")
		for i, want := range []string{"a", "b"} {
			if v, ok := l.Take(); !ok || v != want || l.Waiting() != 1-i {
				t.Errorf("taken: %q, %d left, want %q", v, l.Waiting(), want)
			}
		}
	}
}

func TestFull(t *testing.T) {
	l := link.New[int](2)
	for _, want := range []bool{false, false, true} {
		if l.Full() != want {
			t.Errorf("with %d of 2 it is full: %v", l.Waiting(), l.Full())
		}
		l.Put(1)
	}
	if l.Take(); l.Full() {
		t.Errorf("it is full though one was taken")
	}
}

func TestNoRoom(t *testing.T) {
	for _, room := range []int{0, -1} {
		if l := link.New[int](room); !l.Put(1) || l.Put(2) {
			t.Errorf("a link for %d has not room for just one", room)
		}
	}
}
