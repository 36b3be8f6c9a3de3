package sched_test

import (
	"fmt"
	"math"
	"slices"
	"testing"

	"keyhold/api"
	"keyhold/sample"
	"keyhold/sched"
	"keyhold/world"
)

// Frames of a full world, and of a calm one.
const (
	runs, next, sends, calls, waits = sample.Runs, sample.Next, sample.Sends, sample.Calls, sample.Waits
	asks, listens, still            = sample.Asks, sample.Listens, sample.Still
	door, desk, bell                = sample.Door, sample.Desk, sample.Bell
)

var full, calm = sample.Full, sample.Calm

type (
	change = sample.Change
	call   = sample.Call
)

func starts(t int) call {
	return func(w api.World) (api.World, error) { return sched.Start(w, t) }
}

func stops(t int) call {
	return func(w api.World) (api.World, error) { return sched.Stop(w, t) }
}

func ranks(t, prio int) call {
	return func(w api.World) (api.World, error) { return sched.Rank(w, t, prio) }
}

// picks is a call of Pick that should tell this one.
func picks(t *testing.T, why string, core, want int) call {
	t.Helper()
	return func(w api.World) (api.World, error) {
		t.Helper()
		got, who, err := sched.Pick(w, core)
		if who != want {
			t.Errorf("%s: Pick(%d): %d, want %d", why, core, who, want)
		}
		return got, err
	}
}

// done: of a full world, first altered, the call makes one that differs by what is wanted, and by nothing else.
func done(t *testing.T, why string, first change, do call, wanted change) {
	t.Helper()
	if wrong := sample.Done(first, do, wanted, fmt.Sprint); wrong != "" {
		t.Errorf("%s: %s", why, wrong)
	}
}

// refused: of a full world, first altered, the call makes none; nothing changes.
func refused(t *testing.T, why string, first change, do call, want api.Errno) {
	t.Helper()
	w := full()
	first(&w)
	if wrong := sample.Refused(w, do, want, fmt.Sprint); wrong != "" {
		t.Errorf("%s: %s", why, wrong)
	}
}

func asItIs(w *api.World) {}

// placed is a calm world in which it is the turn of domain 1, and then something is done.
func placed(more change) change {
	return func(w *api.World) {
		*w = calm()
		more(w)
	}
}

// I1: all refuse a world that is not sound, ahead of all else.
func TestUnsound(t *testing.T) {
	for why, spoil := range map[string]change{
		"nothing":         func(w *api.World) { *w = api.World{} },
		"no domains":      func(w *api.World) { w.Doms = nil },
		"too late":        func(w *api.World) { w.Time = 1000001 },
		"ahead of time":   func(w *api.World) { w.Time = -1 },
		"no such domain":  func(w *api.World) { w.Tasks[runs].Dom = 4 },
		"no lists":        func(w *api.World) { w.Ready = w.Ready[:7] },
		"twice ready":     func(w *api.World) { w.Ready[7] = []int{next} },
		"still, and next": func(w *api.World) { w.Ready[7] = []int{still} },
		"wrongly told":    func(w *api.World) { w.Tlbs[1][0].Frame = sample.Page },
	} {
		for name, do := range map[string]call{
			"Pick": picks(t, why, 0, 0), "Pick of no core": picks(t, why, -1, 0),
			"Start": starts(still), "Start of one who runs": starts(runs), "Start of nobody": starts(-1),
			"Stop": stops(runs), "Stop of nobody": stops(99),
			"Rank": ranks(next, 1), "Rank of nobody": ranks(-1, 1), "Rank to nothing": ranks(next, 9),
		} {
			refused(t, name+": "+why, spoil, do, api.ErrState)
		}
	}
}

// I1: only a core is picked for.
func TestPickNoCore(t *testing.T) {
	for _, core := range []int{-1, 2, 3, 8, math.MinInt, math.MaxInt} {
		refused(t, fmt.Sprint("core ", core), asItIs, picks(t, "no core", core, 0), api.ErrRange)
	}
	four := func(w *api.World) { *w = sample.Hollow(1, 4, 0) }
	done(t, "the last core of four", four, picks(t, "the last core of four", 3, -1), asItIs)
	refused(t, "a fifth core", four, picks(t, "a fifth core", 4, 0), api.ErrRange)
}

// I1: the turn is that of each of Doms for four steps of the time, one behind the other, again and again.
func TestTurn(t *testing.T) {
	of := []int{sends, calls, waits, asks} // of domains 0 to 3
	for _, doms := range [][]int{{0}, {3}, {1, 0}, {2, 0, 1}, {0, 0, 3}, {3, 1, 3, 2, 0, 0, 1, 2}} {
		for from, turns := range map[int]int{0: 20, 249984 * 4: 17} { // 249984 is a multiple of 1, 2, 3 and 8
			at := 0
			for time := from; time < from+4*turns && time <= 1000000; time++ {
				if time > from && time%4 == 0 {
					at++
				}
				if at == len(doms) {
					at = 0
				}
				who := of[doms[at]]
				why := fmt.Sprint("doms ", doms, " at time ", time)
				done(t, why, placed(func(w *api.World) {
					w.Doms, w.Time = slices.Clone(doms), time
					for dom, task := range of {
						sample.Queue(w, task, 0, 1, dom)
					}
				}), picks(t, why, 0, who), func(w *api.World) {
					w.Cores[0] = who
					w.Ready[1] = slices.DeleteFunc(w.Ready[1], func(other int) bool { return other == who })
				})
			}
		}
	}
}

// I1: who is of the turn's domain stays, whoever else would come; nothing changes.
func TestPickStays(t *testing.T) {
	done(t, "one whose turn it is", placed(func(w *api.World) {
		sample.Run(w, runs, 0, 1)
		sample.Queue(w, next, 0, 3, 1)
		sample.Queue(w, still, 0, 0, 1)
	}), picks(t, "one whose turn it is", 0, runs), asItIs)
	done(t, "one whose turn it is, alone", placed(func(w *api.World) { sample.Run(w, runs, 1, 1) }), picks(t, "alone", 1, runs), asItIs)
}

// I1: who is of another domain leaves the core, and wakes; then another one comes, or nobody.
func TestPickOtherDomain(t *testing.T) {
	for _, dom := range []int{0, 2, 3} {
		why := fmt.Sprint("one of domain ", dom)
		done(t, why+" alone", placed(func(w *api.World) { sample.Run(w, runs, 0, dom); w.Tasks[runs].Prio = 3 }),
			picks(t, why, 0, -1), func(w *api.World) { w.Cores[0], w.Ready[3] = -1, []int{runs} })
		done(t, why+" behind others", placed(func(w *api.World) {
			sample.Run(w, runs, 0, dom)
			w.Tasks[runs].Prio = 2
			sample.Queue(w, sends, 0, 2, dom)
			sample.Queue(w, calls, 0, 2, 1)
			sample.Queue(w, waits, 0, 2, 1)
		}), picks(t, why, 0, calls), func(w *api.World) { w.Cores[0], w.Ready[2] = calls, []int{sends, waits, runs} })
		done(t, why+" goes for one of lower priority", placed(func(w *api.World) {
			sample.Run(w, runs, 1, dom)
			w.Tasks[runs].Prio = 3
			sample.Queue(w, next, 1, 0, 1)
		}), picks(t, why, 1, next), func(w *api.World) { w.Cores[1], w.Ready[4], w.Ready[7] = next, nil, []int{runs} })
	}
	done(t, "one who owes and is owed nothing", placed(func(w *api.World) {
		sample.Run(w, runs, 0, 2)
		sample.Ask(w, asks, runs)
	}), picks(t, "one who owes", 0, -1), func(w *api.World) { w.Cores[0], w.Ready[0] = -1, []int{runs} })
	done(t, "in a full world", asItIs, picks(t, "in a full world", 0, -1), func(w *api.World) { w.Cores[0], w.Ready[0] = -1, []int{runs} })
}

// I1: of the highest priority that has someone of the turn's domain, the first of these; out of its list it is taken.
func TestPickFirst(t *testing.T) {
	for prio := range api.MaxPrio {
		why := fmt.Sprint("priority ", prio)
		done(t, why, placed(func(w *api.World) {
			for below := range prio {
				sample.Queue(w, runs+below, 0, below, 1)
			}
			sample.Queue(w, asks, 0, prio, 0)
			sample.Queue(w, listens, 0, prio, 1)
			sample.Queue(w, still, 0, prio, 1)
			if prio < 3 {
				sample.Queue(w, waits, 0, 3, 2)
			}
		}), picks(t, why, 0, listens), func(w *api.World) { w.Cores[0], w.Ready[prio] = listens, []int{asks, still} })
	}
	done(t, "the first of a list", placed(func(w *api.World) {
		sample.Queue(w, still, 1, 2, 1)
		sample.Queue(w, runs, 1, 2, 1)
	}), picks(t, "the first", 1, still), func(w *api.World) { w.Cores[1], w.Ready[6] = still, []int{runs} })
	done(t, "the last of a list", placed(func(w *api.World) {
		sample.Queue(w, still, 1, 2, 0)
		sample.Queue(w, runs, 1, 2, 1)
	}), picks(t, "the last", 1, runs), func(w *api.World) { w.Cores[1], w.Ready[6] = runs, []int{still} })
}

// I1: a core looks at its own alone.
func TestPickNobody(t *testing.T) {
	done(t, "nobody is ready", placed(asItIs), picks(t, "nobody is ready", 0, -1), asItIs)
	done(t, "nobody of this domain is", placed(func(w *api.World) {
		sample.Queue(w, next, 0, 1, 0)
		sample.Queue(w, still, 0, 3, 2)
	}), picks(t, "nobody of this domain is", 0, -1), asItIs)
	done(t, "those of another core are", placed(func(w *api.World) {
		sample.Run(w, runs, 1, 3)
		sample.Queue(w, next, 1, 1, 1)
		sample.Queue(w, still, 1, 3, 1)
	}), picks(t, "those of another core are", 0, -1), asItIs)
	done(t, "those who are not ready", placed(func(w *api.World) {
		for t := runs; t <= still; t++ {
			w.Tasks[t].Dom = 1
		}
		sample.Stand(w, sends, door, api.Sending)
		sample.Stand(w, waits, desk, api.Waiting)
		sample.Stand(w, listens, bell, api.Listening)
	}), picks(t, "those who are not ready", 0, -1), asItIs)
}

// I2: of a frame, and of a task, ahead of all else.
func TestNoTask(t *testing.T) {
	each := func(why string, task int, want api.Errno) {
		t.Helper()
		for name, do := range map[string]call{
			"Start": starts(task), "Stop": stops(task), "Rank": ranks(task, 1), "Rank too low": ranks(task, -1), "Rank too high": ranks(task, 4),
		} {
			refused(t, fmt.Sprint(name, " of ", why, " ", task), asItIs, do, want)
		}
	}
	for _, none := range []int{-1, 24, math.MinInt, math.MaxInt} {
		each("no frame", none, api.ErrRange)
	}
	for frame, kind := range full().Kinds {
		if kind != api.Task {
			each("no task", frame, api.ErrKind)
		}
	}
}

// I2: who is Still wakes; who is in any other state is busy.
func TestStart(t *testing.T) {
	done(t, "one who is still", asItIs, starts(still), func(w *api.World) {
		w.Tasks[still].State, w.Ready[7] = api.Ready, []int{still}
	})
	for core := range 2 {
		for prio := range api.MaxPrio {
			done(t, fmt.Sprint("behind others on core ", core, " with priority ", prio), placed(func(w *api.World) {
				w.Tasks[still].Core, w.Tasks[still].Prio = core, prio
				sample.Run(w, sends, core, 0)
				sample.Queue(w, runs, core, prio, 0)
				sample.Queue(w, next, core, prio, 3)
			}), starts(still), func(w *api.World) {
				w.Tasks[still].State, w.Ready[4*core+prio] = api.Ready, []int{runs, next, still}
			})
		}
	}
	done(t, "one who owes", placed(func(w *api.World) { sample.Ask(w, asks, still) }), starts(still), func(w *api.World) {
		w.Tasks[still].State, w.Ready[0] = api.Ready, []int{still}
	})
	for task := runs; task < still; task++ {
		refused(t, fmt.Sprint("task ", task, " in state ", full().Tasks[task].State), asItIs, starts(task), api.ErrBusy)
	}
}

// I2: who is stopped, in whatever state, is Still and nowhere; who owes it owes nobody; all else stays.
func TestStop(t *testing.T) {
	for task, more := range map[int]change{
		runs:    func(w *api.World) { w.Cores[0] = -1 },
		next:    func(w *api.World) { w.Ready[6] = nil },
		sends:   func(w *api.World) { w.Lines[door] = []int{calls} },
		calls:   func(w *api.World) { w.Lines[door] = []int{sends} },
		waits:   func(w *api.World) { w.Lines[desk] = nil },
		asks:    func(w *api.World) { w.Tasks[runs].Owes = -1 },
		listens: func(w *api.World) { w.Lines[bell] = nil },
		still:   asItIs,
	} {
		done(t, fmt.Sprint("task ", task), asItIs, stops(task), func(w *api.World) {
			more(w)
			w.Tasks[task].State, w.Tasks[task].At = api.Still, -1
		})
	}
	done(t, "one among others", placed(func(w *api.World) {
		for _, task := range []int{runs, next, still} {
			sample.Queue(w, task, 1, 2, 0)
		}
	}), stops(next), func(w *api.World) { w.Tasks[next].State, w.Ready[6] = api.Still, []int{runs, still} })
	done(t, "one whom another one owes that stands in a line", placed(func(w *api.World) {
		sample.Stand(w, sends, door, api.Sending)
		sample.Ask(w, asks, sends)
	}), stops(asks), func(w *api.World) { w.Tasks[asks].State, w.Tasks[sends].Owes = api.Still, -1 })
	done(t, "one who owes itself", placed(func(w *api.World) { sample.Ask(w, asks, asks) }), stops(asks), func(w *api.World) {
		w.Tasks[asks].State, w.Tasks[asks].Owes = api.Still, -1
	})
	done(t, "one who owes, and is owed", placed(func(w *api.World) {
		sample.Ask(w, asks, next)
		sample.Ask(w, next, runs)
	}), stops(next), func(w *api.World) { w.Tasks[next].State, w.Tasks[runs].Owes = api.Still, -1 })
}

// I2: a priority is 0 to 3.
func TestRankNone(t *testing.T) {
	for _, prio := range []int{-1, 4, math.MinInt, math.MaxInt} {
		for task := runs; task <= still; task++ {
			refused(t, fmt.Sprint("task ", task, " to priority ", prio), asItIs, ranks(task, prio), api.ErrRange)
		}
	}
}

// I2: of each state: it has the priority; if it stood in Ready it is the last of that list.
func TestRank(t *testing.T) {
	for prio := range api.MaxPrio {
		for task := runs; task <= still; task++ {
			done(t, fmt.Sprint("task ", task, " to priority ", prio), asItIs, ranks(task, prio), func(w *api.World) {
				w.Tasks[task].Prio = prio
				if task == next {
					w.Ready[6] = nil
					w.Ready[4+prio] = []int{next}
				}
			})
		}
		done(t, fmt.Sprint("behind others, to priority ", prio), placed(func(w *api.World) {
			for p := range api.MaxPrio {
				sample.Queue(w, sends+p, 0, p, 2)
			}
			sample.Queue(w, runs, 0, 1, 0)
			sample.Queue(w, still, 0, 1, 0)
		}), ranks(runs, prio), func(w *api.World) {
			w.Tasks[runs].Prio = prio
			w.Ready[1] = []int{calls, still}
			w.Ready[prio] = append(w.Ready[prio], runs)
		})
	}
	done(t, "the first, to what it has", placed(func(w *api.World) {
		for _, task := range []int{runs, next, still} {
			sample.Queue(w, task, 1, 3, 0)
		}
	}), ranks(runs, 3), func(w *api.World) { w.Ready[7] = []int{next, still, runs} })
}

// varied is a world of tasks on four cores, in whatever states and of whatever domains.
func varied(t *testing.T, d *sample.Die) api.World {
	t.Helper()
	w := sample.Hollow(20, 4, d.N(4), d.N(4), d.N(4))
	w.Time = []int{d.N(60), 1000000 - d.N(60)}[d.N(2)]
	w.Kinds[0], w.Slots[0] = api.Node, sample.Key(api.Node, 0, 7, 0, -1)
	place := func(frame, kind int) { w.Kinds[frame], w.Slots[frame] = kind, sample.Key(kind, frame, 7, 0, -1) }
	place(1, api.Door)
	place(2, api.Bell)
	for task := 3; task < 16; task++ {
		place(task, api.Task)
		w.Tasks[task].Core, w.Tasks[task].Prio, w.Tasks[task].Dom = d.N(4), d.N(4), d.N(4)
		switch core := w.Tasks[task].Core; d.N(6) {
		case 0:
			sample.Stand(&w, task, 1, api.Sending+d.N(2))
		case 1:
			sample.Stand(&w, task, 2, api.Listening)
		case 2:
		default:
			if w.Cores[core] < 0 && d.N(2) == 0 {
				sample.Run(&w, task, core, w.Tasks[task].Dom)
			} else {
				sample.Queue(&w, task, core, w.Tasks[task].Prio, w.Tasks[task].Dom)
			}
		}
		if other := 3 + d.N(task-2); task > 3 && other != task && d.N(3) == 0 && w.Tasks[other].State == api.Still {
			sample.Ask(&w, other, task)
		}
	}
	if err := world.Check(w); err != nil {
		t.Fatalf("this world to begin with is not sound: %v", err)
	}
	return w
}

// best is who should be on a core, told by what may be said of each task alone: its place in its list, and its priority.
func best(w api.World, core, dom int) int {
	on, who, rank := w.Cores[core], -1, -1
	if on >= 0 && w.Tasks[on].Dom == dom {
		return on
	}
	for task, of := range w.Tasks {
		at := slices.Index(w.Ready[4*core+of.Prio], task)
		if of.State != api.Ready || of.Dom != dom || of.Core != core || at < 0 {
			continue
		}
		if mine := 100*of.Prio + 99 - at; mine > rank {
			who, rank = task, mine
		}
	}
	return who
}

// The whole's fourth: in many worlds, each core: who runs is of the turn's domain; what comes is sound; a core that has settled stays so.
func TestPickWild(t *testing.T) {
	d := sample.Die(21)
	how := map[string]int{}
	for range 300 {
		w := varied(t, &d)
		dom := w.Doms[w.Time/4%3]
		for core := range 4 {
			who := best(w, core, dom)
			want, _ := sample.Roomy(w)
			if on := w.Cores[core]; on != who && on >= 0 {
				n := 4*core + w.Tasks[on].Prio
				want.Ready[n] = append(want.Ready[n], on)
				how["one leaves"]++
			}
			if on := w.Cores[core]; on != who && who >= 0 {
				n := 4*core + w.Tasks[who].Prio
				want.Ready[n] = slices.DeleteFunc(want.Ready[n], func(t int) bool { return t == who })
				how["one comes"]++
			}
			want.Cores[core] = who
			how[fmt.Sprint("somebody: ", who >= 0)]++
			got, told, err := sched.Pick(w, core)
			if err != nil || told != who || world.Check(got) != nil {
				t.Fatalf("Pick(%d): %d, %v, want %d; then: %v", core, told, err, who, world.Check(got))
			}
			if wrong := sample.Differences(got, want, fmt.Sprint); wrong != "" {
				t.Fatalf("Pick(%d): %s", core, wrong)
			}
			again, told, err := sched.Pick(got, core)
			if err != nil || told != who || sample.Differences(again, got, fmt.Sprint) != "" {
				t.Fatalf("Pick(%d) again: %d, %v", core, told, err)
			}
		}
	}
	for _, what := range []string{"one leaves", "one comes", "somebody: true", "somebody: false"} {
		if how[what] < 20 {
			t.Errorf("%s: %d times: these worlds ask too little", what, how[what])
		}
	}
}

// Whatever is started, stopped, ranked and picked, one behind the other, at whatever numbers: the world stays sound, and what is refused answers none.
func TestWild(t *testing.T) {
	d := sample.Die(22)
	told := map[api.Errno]int{}
	for range 60 {
		w := varied(t, &d)
		for range 40 {
			task := []int{d.N(22) - 1, 3 + d.N(13), 3 + d.N(13)}[d.N(3)]
			for n, do := range []call{
				starts(task), stops(task), ranks(task, d.N(6)-1),
				func(w api.World) (api.World, error) { got, _, err := sched.Pick(w, d.N(6)-1); return got, err },
			} {
				got, err := do(w)
				what, at := api.Tell(err)
				told[what]++
				if err != nil {
					if at != -1 || fmt.Sprint(got) != fmt.Sprint(api.World{}) {
						t.Fatalf("call %d: %v, and a world", n, err)
					}
					continue
				}
				if err := world.Check(got); err != nil {
					t.Fatalf("call %d of task %d: not sound: %v", n, task, err)
				}
				if got.Time = min(1000000, w.Time+d.N(3)); n != 1 || d.N(4) == 0 {
					w = got
				}
			}
		}
	}
	for _, e := range []api.Errno{api.OK, api.ErrRange, api.ErrKind, api.ErrBusy} {
		if told[e] < 20 {
			t.Errorf("error %d was told %d times: these numbers ask too little", e, told[e])
		}
		delete(told, e)
	}
	if len(told) > 0 {
		t.Errorf("errors that are none of these calls': %v", told)
	}
}
