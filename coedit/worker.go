package coedit

import "sync"

// worker is a goroutine that does what its channel hands it, one job at a time. What belongs to it is touched by its jobs alone, as long as it runs.
type worker struct {
	jobs    chan func()
	done    chan struct{}
	stopped bool
}

func (w *worker) start(running *sync.WaitGroup) {
	w.jobs = make(chan func())
	w.done = make(chan struct{})
	running.Add(1)
	go w.work(running)
}

func (w *worker) work(running *sync.WaitGroup) {
	defer running.Done()
	for job := range w.jobs {
		job()
		w.done <- struct{}{}
	}
}

// do has the worker do a job, and waits until it is done.
func (w *worker) do(job func()) {
	if w.stopped {
		// There is no goroutine any more whose things these are: the asker may look at them by itself.
		job()
		return
	}
	w.jobs <- job
	<-w.done
}

// stop tells the goroutine to end; whether it has ended, running says.
func (w *worker) stop() {
	close(w.jobs)
	w.stopped = true
}
