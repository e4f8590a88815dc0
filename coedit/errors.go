package coedit

import (
	"errors"
	"strconv"
)

var (
	ErrShape   = errors.New("no such session")
	ErrClient  = errors.New("no such client")
	ErrRune    = errors.New("no rune")
	ErrRange   = errors.New("out of range")
	ErrFull    = errors.New("a link is full")
	ErrMany    = errors.New("too many changes")
	ErrEmpty   = errors.New("a link is empty")
	ErrFrame   = errors.New("no frame")
	ErrOrder   = errors.New("a frame out of order")
	ErrAck     = errors.New("a frame that tells wrongly what was taken")
	ErrStopped = errors.New("the session has been stopped")
)

// CallError is an error of a method: which method, for which client it was called, and what was wrong.
type CallError struct {
	Call   string
	Client int
	Err    error
}

func (e *CallError) Error() string {
	if e == nil || e.Err == nil {
		return "no error"
	}
	return e.Call + " of client " + strconv.Itoa(e.Client) + ": " + e.Err.Error()
}

func (e *CallError) Unwrap() error {
	if e == nil {
		return nil
	}
	return e.Err
}

// named gives an error the names of the call and of the client. It answers the plain nil where there is none: a nil pointer in an error would be one.
func named(call string, c int, err error) error {
	if err == nil {
		return nil
	}
	return &CallError{Call: call, Client: c, Err: err}
}
