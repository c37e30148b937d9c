package sheet

import "sync"

// crew is workers that take scripts, one after the other. Its lock holds all but the scripts, which nobody changes.
type crew struct {
	scripts [][]string
	lock    sync.Mutex
	answers [][]string // of the scripts that are taken
	working int
	through *sync.Cond // a worker is through
}

func newCrew(scripts [][]string, workers int) *crew {
	c := &crew{scripts: scripts, working: workers}
	c.through = sync.NewCond(&c.lock)
	return c
}

// work is what each worker does.
func (c *crew) work() {
	defer c.leave()
	for at, ok := c.take(); ok; at, ok = c.take() {
		c.give(at, Run(c.scripts[at]))
	}
}

// take tells which script a worker runs next; false, if all are taken.
func (c *crew) take() (int, bool) {
	c.lock.Lock()
	defer c.lock.Unlock()
	at := len(c.answers)
	if at == len(c.scripts) {
		return 0, false
	}
	c.answers = append(c.answers, nil)
	return at, true
}

func (c *crew) give(at int, answers []string) {
	c.lock.Lock()
	defer c.lock.Unlock()
	c.answers[at] = answers
}

func (c *crew) leave() {
	c.lock.Lock()
	defer c.lock.Unlock()
	c.working--
	c.through.Signal()
}

// wait answers when all workers are through.
func (c *crew) wait() [][]string {
	c.lock.Lock()
	defer c.lock.Unlock()
	for c.working > 0 {
		c.through.Wait()
	}
	return c.answers
}
