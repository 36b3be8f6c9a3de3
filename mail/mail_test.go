package mail_test

import (
	"fmt"
	"math"
	"testing"

	"keyhold/api"
	"keyhold/mail"
	"keyhold/sample"
)

// Frames of a full world, and of a calm one. In a full world task runs is on core 0, and owes task asks an answer.
const (
	runs, next, sends, calls, waits = sample.Runs, sample.Next, sample.Sends, sample.Calls, sample.Waits
	asks, listens, still            = sample.Asks, sample.Listens, sample.Still
	door, desk, bell, rung          = sample.Door, sample.Desk, sample.Bell, sample.Rung
)

var full, calm = sample.Full, sample.Calm

type (
	change = sample.Change
	call   = sample.Call
)

func sendsTo(t, door, badge, word int, ask bool) call {
	return func(w api.World) (api.World, error) { return mail.Send(w, t, door, badge, word, ask) }
}

func takes(t, door int) call {
	return func(w api.World) (api.World, error) { return mail.Take(w, t, door) }
}

func answers(t, word int) call {
	return func(w api.World) (api.World, error) { return mail.Answer(w, t, word) }
}

func rings(bell, badge int) call {
	return func(w api.World) (api.World, error) { return mail.Ring(w, bell, badge) }
}

func listensTo(t, bell int) call {
	return func(w api.World) (api.World, error) { return mail.Listen(w, t, bell) }
}

// done: of a full world, first altered, the call makes one that differs by what is wanted, and by nothing else.
func done(t *testing.T, why string, first change, do call, wanted change) {
	t.Helper()
	if wrong := sample.Done(first, do, wanted, fmt.Sprint); wrong != "" {
		t.Errorf("%s: %s", why, wrong)
	}
}

// refused: of a full world, first altered, the call makes none; nothing changes.
func refused(t *testing.T, why string, first change, do call, want api.Errno) {
	t.Helper()
	w := full()
	first(&w)
	if wrong := sample.Refused(w, do, want, fmt.Sprint); wrong != "" {
		t.Errorf("%s: %s", why, wrong)
	}
}

func asItIs(w *api.World) {}

// placed is a calm world in which task runs is on core 0, task next on core 1, and then something is done.
func placed(more change) change {
	return func(w *api.World) {
		*w = calm()
		sample.Run(w, runs, 0, 0)
		sample.Run(w, next, 1, 2)
		more(w)
	}
}

// told: a task has this badge and this word in its registers.
func told(w *api.World, t, badge, word int) {
	w.Tasks[t].Regs[1], w.Tasks[t].Regs[2] = badge, word
}

// J1: all refuse a world that is not sound, ahead of all else.
func TestUnsound(t *testing.T) {
	for why, spoil := range map[string]change{
		"nothing":           func(w *api.World) { *w = api.World{} },
		"too late":          func(w *api.World) { w.Time = 1000001 },
		"no lines":          func(w *api.World) { w.Lines = w.Lines[:3] },
		"in a line twice":   func(w *api.World) { w.Lines[door] = []int{sends, calls, sends} },
		"both ways at once": func(w *api.World) { w.Tasks[calls].State = api.Waiting },
		"nobody owes it":    func(w *api.World) { w.Tasks[runs].Owes = -1 },
		"rung, and heard":   func(w *api.World) { w.Bits[bell] = 1 },
		"no word":           func(w *api.World) { w.Tasks[sends].Word = 65536 },
		"wrongly told":      func(w *api.World) { w.Tlbs[1][0].Frame = sample.Page },
	} {
		for name, do := range map[string]call{
			"Send": sendsTo(runs, desk, 1, 2, false), "Send of nobody": sendsTo(-1, -1, -1, -1, true),
			"Take": takes(runs, door), "Take of nobody": takes(-1, door), "Answer": answers(runs, 1), "Answer of nobody": answers(24, -1),
			"Ring": rings(bell, 1), "Ring of nothing": rings(-1, -1), "Listen": listensTo(runs, rung), "Listen of nobody": listensTo(99, bell),
		} {
			refused(t, name+": "+why, spoil, do, api.ErrState)
		}
	}
}

// J1, J3: both are frames, ahead of what they are; and ahead of words.
func TestNoFrames(t *testing.T) {
	for _, none := range []int{-1, 24, math.MinInt, math.MaxInt} {
		for _, other := range []int{runs, still, door, bell, 0, 23, none} {
			for name, do := range map[string]call{
				"Send by none": sendsTo(none, other, 1, 2, false), "Call by none": sendsTo(none, other, -1, 65536, true),
				"Send through none": sendsTo(other, none, 1, 2, false), "Call through none": sendsTo(other, none, 1, -1, true),
				"Take by none": takes(none, other), "Take at none": takes(other, none),
				"Listen by none": listensTo(none, other), "Listen to none": listensTo(other, none),
			} {
				refused(t, fmt.Sprint(name, ": ", none, ", ", other), asItIs, do, api.ErrRange)
			}
		}
		for _, word := range []int{0, 65535, -1, 65536} {
			refused(t, fmt.Sprint("Answer by none: ", none), asItIs, answers(none, word), api.ErrRange)
			refused(t, fmt.Sprint("Ring none: ", none), asItIs, rings(none, word), api.ErrRange)
		}
	}
}

// J1, J3: they are of their kinds, ahead of who is on a core; and ahead of words.
func TestNoKinds(t *testing.T) {
	for frame, kind := range full().Kinds {
		if kind != api.Task {
			for _, word := range []int{1, -1, 65536} {
				refused(t, fmt.Sprint("Send by frame ", frame), asItIs, sendsTo(frame, door, 1, word, true), api.ErrKind)
				refused(t, fmt.Sprint("Answer by frame ", frame), asItIs, answers(frame, word), api.ErrKind)
			}
			refused(t, fmt.Sprint("Take by frame ", frame), asItIs, takes(frame, desk), api.ErrKind)
			refused(t, fmt.Sprint("Listen by frame ", frame), asItIs, listensTo(frame, rung), api.ErrKind)
		}
		for _, task := range []int{runs, still} {
			if kind != api.Door {
				refused(t, fmt.Sprint("Send through frame ", frame), asItIs, sendsTo(task, frame, 1, 2, false), api.ErrKind)
				refused(t, fmt.Sprint("Call through frame ", frame), asItIs, sendsTo(task, frame, -1, 2, true), api.ErrKind)
				refused(t, fmt.Sprint("Take at frame ", frame), asItIs, takes(task, frame), api.ErrKind)
			}
			if kind != api.Bell {
				refused(t, fmt.Sprint("Listen to frame ", frame), asItIs, listensTo(task, frame), api.ErrKind)
			}
		}
		if kind != api.Bell {
			refused(t, fmt.Sprint("Ring frame ", frame), asItIs, rings(frame, 1), api.ErrKind)
			refused(t, fmt.Sprint("Ring frame ", frame, " with no word"), asItIs, rings(frame, -1), api.ErrKind)
		}
	}
}

// J1: who is on no core does nothing, in whatever state, one who is next too; ahead of words, and of debts.
func TestNotOnCore(t *testing.T) {
	for task := next; task <= still; task++ {
		for _, word := range []int{1, -1, 65536} {
			refused(t, fmt.Sprint("Send by task ", task), asItIs, sendsTo(task, desk, 1, word, false), api.ErrBusy)
			refused(t, fmt.Sprint("Call by task ", task), asItIs, sendsTo(task, door, word, 1, true), api.ErrBusy)
			refused(t, fmt.Sprint("Answer by task ", task), asItIs, answers(task, word), api.ErrBusy)
		}
		refused(t, fmt.Sprint("Take by task ", task), asItIs, takes(task, door), api.ErrBusy)
		refused(t, fmt.Sprint("Listen by task ", task), asItIs, listensTo(task, rung), api.ErrBusy)
	}
	ready := placed(func(w *api.World) {
		sample.Queue(w, still, 0, 3, 0)
		sample.Ask(w, asks, still)
	})
	refused(t, "Answer by one who is next, and owes", ready, answers(still, 1), api.ErrBusy)
	for _, task := range []int{runs, next} {
		done(t, fmt.Sprint("Listen by task ", task, " on its core"), placed(asItIs), listensTo(task, bell), func(w *api.World) {
			w.Cores[w.Tasks[task].Core] = -1
			sample.Stand(w, task, bell, api.Listening)
		})
	}
}

// J2, J3: badges and words are 0 to MaxWord.
func TestNoWords(t *testing.T) {
	for _, none := range []int{-1, 65536, math.MinInt, math.MaxInt} {
		for _, at := range []int{door, desk} {
			refused(t, fmt.Sprint("Send ", none), asItIs, sendsTo(runs, at, 1, none, false), api.ErrWord)
			refused(t, fmt.Sprint("Call with ", none), asItIs, sendsTo(runs, at, 1, none, true), api.ErrWord)
			refused(t, fmt.Sprint("Send by badge ", none), asItIs, sendsTo(runs, at, none, 1, false), api.ErrWord)
			refused(t, fmt.Sprint("Call by badge ", none), asItIs, sendsTo(runs, at, none, 1, true), api.ErrWord)
		}
		refused(t, fmt.Sprint("Answer ", none), asItIs, answers(runs, none), api.ErrWord)
		refused(t, fmt.Sprint("Answer nobody ", none), placed(asItIs), answers(runs, none), api.ErrWord)
		refused(t, fmt.Sprint("Ring with ", none), asItIs, rings(rung, none), api.ErrWord)
		refused(t, fmt.Sprint("Ring with ", none, " for one who listens"), asItIs, rings(bell, none), api.ErrWord)
	}
}

// J2: who sends where nobody waits stands there with the word, behind all others, off its core.
func TestSendStands(t *testing.T) {
	for state, ask := range map[int]bool{api.Sending: false, api.Calling: true} {
		for _, words := range [][2]int{{5, 9}, {0, 0}, {65535, 65535}, {0, 65535}, {65535, 0}} {
			why := fmt.Sprint("call: ", ask, ", words ", words)
			do := sendsTo(runs, door, words[0], words[1], ask)
			comes := func(w *api.World) {
				w.Cores[0] = -1
				w.Tasks[runs].Badge, w.Tasks[runs].Word = words[0], words[1]
				sample.Stand(w, runs, door, state)
			}
			done(t, why+": to an empty line", placed(asItIs), do, comes)
			done(t, why+": behind others", asItIs, do, comes)
			done(t, why+": behind one who sends", placed(func(w *api.World) { sample.Stand(w, still, door, api.Sending) }), do, comes)
			done(t, why+": behind one who calls", placed(func(w *api.World) { sample.Stand(w, still, door, api.Calling) }), do, comes)
			done(t, why+": another door's", placed(func(w *api.World) { sample.Stand(w, still, desk, api.Waiting) }), do, comes)
			done(t, why+": after another word", placed(func(w *api.World) { w.Tasks[runs].Badge, w.Tasks[runs].Word = 3, 4 }), do, comes)
		}
	}
}

// J2: who sends where someone waits goes on; the first of them leaves, has both, and wakes.
func TestSendIsTaken(t *testing.T) {
	for _, words := range [][2]int{{5, 9}, {0, 0}, {65535, 65535}, {0, 65535}, {65535, 0}} {
		done(t, fmt.Sprint("to one, words ", words), asItIs, sendsTo(runs, desk, words[0], words[1], false), func(w *api.World) {
			told(w, waits, words[0], words[1])
			w.Lines[desk], w.Tasks[waits].State, w.Tasks[waits].At = nil, api.Ready, -1
			w.Ready[0] = []int{waits}
		})
	}
	done(t, "to the first of three, who wakes behind others", placed(func(w *api.World) {
		w.Tasks[waits].Core, w.Tasks[waits].Prio = 1, 3
		sample.Queue(w, asks, 1, 3, 0)
		for _, task := range []int{waits, sends, calls} {
			sample.Stand(w, task, door, api.Waiting)
		}
	}), sendsTo(runs, door, 7, 8, false), func(w *api.World) {
		told(w, waits, 7, 8)
		w.Lines[door], w.Tasks[waits].State, w.Tasks[waits].At = []int{sends, calls}, api.Ready, -1
		w.Ready[7] = []int{asks, waits}
	})
	done(t, "by one who owes", placed(func(w *api.World) {
		sample.Ask(w, asks, next)
		sample.Stand(w, waits, desk, api.Waiting)
	}), sendsTo(next, desk, 7, 8, false), func(w *api.World) {
		told(w, waits, 7, 8)
		w.Lines[desk], w.Tasks[waits].State, w.Tasks[waits].At = nil, api.Ready, -1
		w.Ready[0] = []int{waits}
	})
}

// J2: who calls where someone waits leaves its core, and is owed an answer by that one.
func TestCallIsTaken(t *testing.T) {
	done(t, "to one", asItIs, sendsTo(runs, desk, 5, 65535, true), func(w *api.World) {
		told(w, waits, 5, 65535)
		w.Lines[desk], w.Tasks[waits].State, w.Tasks[waits].At = nil, api.Ready, -1
		w.Ready[0] = []int{waits}
		w.Cores[0] = -1
		sample.Ask(w, runs, waits)
	})
	done(t, "to the first of two, with nothing", placed(func(w *api.World) {
		w.Tasks[still].Prio = 2
		sample.Stand(w, still, door, api.Waiting)
		sample.Stand(w, waits, door, api.Waiting)
	}), sendsTo(next, door, 0, 0, true), func(w *api.World) {
		told(w, still, 0, 0)
		w.Lines[door], w.Tasks[still].State, w.Tasks[still].At = []int{waits}, api.Ready, -1
		w.Ready[2] = []int{still}
		w.Cores[1] = -1
		sample.Ask(w, next, still)
	})
}

// J2: who owes takes nothing, whoever stands there.
func TestTakeOwes(t *testing.T) {
	for _, at := range []int{door, desk} {
		refused(t, fmt.Sprint("at door ", at), asItIs, takes(runs, at), api.ErrBusy)
	}
	owes := placed(func(w *api.World) { sample.Ask(w, asks, runs) })
	refused(t, "at an empty line", owes, takes(runs, door), api.ErrBusy)
	done(t, "another one owes", owes, takes(next, door), func(w *api.World) {
		w.Cores[1] = -1
		sample.Stand(w, next, door, api.Waiting)
	})
}

// J2: who takes where nobody sends stands there, behind all others, off its core.
func TestTakeStands(t *testing.T) {
	comes := func(w *api.World) {
		w.Cores[0] = -1
		sample.Stand(w, runs, desk, api.Waiting)
	}
	done(t, "to an empty line", placed(asItIs), takes(runs, desk), comes)
	done(t, "behind others", placed(func(w *api.World) {
		sample.Stand(w, still, desk, api.Waiting)
		sample.Stand(w, waits, desk, api.Waiting)
	}), takes(runs, desk), comes)
	done(t, "another door's", placed(func(w *api.World) { sample.Stand(w, still, door, api.Sending) }), takes(runs, desk), comes)
	done(t, "what it sent once stays", placed(func(w *api.World) { w.Tasks[runs].Badge, w.Tasks[runs].Word = 3, 4 }), takes(runs, desk), comes)
}

// J2: who takes where someone stands has the first one's badge and word; that one wakes, or asks for an answer.
func TestTake(t *testing.T) {
	stands := func(w *api.World, task, state, badge, word int) {
		sample.Stand(w, task, door, state)
		w.Tasks[task].Badge, w.Tasks[task].Word = badge, word
	}
	for _, words := range [][2]int{{5, 9}, {0, 0}, {65535, 65535}, {0, 65535}, {65535, 0}} {
		took := func(w *api.World, from int) {
			told(w, runs, words[0], words[1])
			w.Tasks[from].Badge, w.Tasks[from].Word, w.Tasks[from].At = 0, 0, -1
		}
		done(t, fmt.Sprint("of one who sends ", words), placed(func(w *api.World) {
			w.Tasks[sends].Core, w.Tasks[sends].Prio = 1, 1
			sample.Queue(w, listens, 1, 1, 0)
			stands(w, sends, api.Sending, words[0], words[1])
			stands(w, calls, api.Calling, 1, 2)
			stands(w, still, api.Sending, 3, 4)
		}), takes(runs, door), func(w *api.World) {
			took(w, sends)
			w.Lines[door], w.Tasks[sends].State, w.Ready[5] = []int{calls, still}, api.Ready, []int{listens, sends}
		})
		done(t, fmt.Sprint("of one who calls with ", words), placed(func(w *api.World) {
			stands(w, calls, api.Calling, words[0], words[1])
			stands(w, sends, api.Sending, 1, 2)
		}), takes(runs, door), func(w *api.World) {
			took(w, calls)
			w.Lines[door] = []int{sends}
			sample.Ask(w, calls, runs)
		})
	}
	done(t, "of one who calls, and owes", placed(func(w *api.World) {
		stands(w, calls, api.Calling, 1, 2)
		sample.Ask(w, asks, calls)
	}), takes(next, door), func(w *api.World) {
		told(w, next, 1, 2)
		w.Tasks[calls].Badge, w.Tasks[calls].Word, w.Tasks[calls].At, w.Lines[door] = 0, 0, -1, nil
		sample.Ask(w, calls, next)
	})
	done(t, "of one who sends, and owes", placed(func(w *api.World) {
		stands(w, sends, api.Sending, 1, 2)
		sample.Ask(w, asks, sends)
	}), takes(next, door), func(w *api.World) {
		told(w, next, 1, 2)
		w.Tasks[sends].Badge, w.Tasks[sends].Word, w.Tasks[sends].At, w.Lines[door] = 0, 0, -1, nil
		w.Tasks[sends].State, w.Ready[0] = api.Ready, []int{sends}
	})
	done(t, "what it sent once stays", placed(func(w *api.World) {
		w.Tasks[runs].Badge, w.Tasks[runs].Word = 3, 4
		stands(w, sends, api.Sending, 1, 2)
	}), takes(runs, door), func(w *api.World) {
		told(w, runs, 1, 2)
		w.Tasks[sends].Badge, w.Tasks[sends].Word, w.Tasks[sends].At, w.Lines[door] = 0, 0, -1, nil
		w.Tasks[sends].State, w.Ready[0] = api.Ready, []int{sends}
	})
}

// J2: whom one owes has 0 and the word, and wakes; who owes no one answers no one.
func TestAnswer(t *testing.T) {
	for _, word := range []int{0, 1, 65535} {
		done(t, fmt.Sprint("word ", word), asItIs, answers(runs, word), func(w *api.World) {
			told(w, asks, 0, word)
			w.Tasks[runs].Owes, w.Tasks[asks].State, w.Ready[0] = -1, api.Ready, []int{asks}
		})
		refused(t, fmt.Sprint("nobody, word ", word), placed(func(w *api.World) { sample.Ask(w, asks, next) }), answers(runs, word), api.ErrEmpty)
	}
	done(t, "one who wakes behind others", placed(func(w *api.World) {
		w.Tasks[asks].Core, w.Tasks[asks].Prio = 0, 3
		sample.Queue(w, still, 0, 3, 0)
		sample.Ask(w, asks, next)
		sample.Ask(w, calls, runs)
	}), answers(next, 7), func(w *api.World) {
		told(w, asks, 0, 7)
		w.Tasks[next].Owes, w.Tasks[asks].State, w.Ready[3] = -1, api.Ready, []int{still, asks}
	})
	done(t, "one who owes, too; by one who sent something once", placed(func(w *api.World) {
		w.Tasks[next].Badge, w.Tasks[next].Word = 3, 4
		sample.Ask(w, asks, next)
		sample.Ask(w, calls, asks)
	}), answers(next, 7), func(w *api.World) {
		told(w, asks, 0, 7)
		w.Tasks[next].Owes, w.Tasks[asks].State, w.Ready[0] = -1, api.Ready, []int{asks}
	})
}

// J3: where nobody listens the bits are set, beside those that are; where someone does the first one hears it.
func TestRing(t *testing.T) {
	for _, bits := range [][3]int{{0, 5, 5}, {5, 0, 5}, {0, 0, 0}, {5, 3, 7}, {5, 5, 5}, {0x8000, 0x7fff, 65535}, {0, 65535, 65535}, {65535, 1, 65535}} {
		done(t, fmt.Sprint("bits ", bits), placed(func(w *api.World) { w.Bits[rung] = bits[0] }), rings(rung, bits[1]), func(w *api.World) {
			w.Bits[rung] = bits[2]
		})
	}
	for _, badge := range []int{0, 1, 65535} {
		done(t, fmt.Sprint("for one who listens, with ", badge), asItIs, rings(bell, badge), func(w *api.World) {
			told(w, listens, 0, badge)
			w.Lines[bell], w.Tasks[listens].State, w.Tasks[listens].At, w.Ready[0] = nil, api.Ready, -1, []int{listens}
		})
	}
	done(t, "for the first of three, who wakes behind others", placed(func(w *api.World) {
		w.Tasks[still].Core, w.Tasks[still].Prio = 1, 1
		sample.Queue(w, asks, 1, 1, 0)
		for _, task := range []int{still, listens, calls} {
			sample.Stand(w, task, bell, api.Listening)
		}
	}), rings(bell, 6), func(w *api.World) {
		told(w, still, 0, 6)
		w.Lines[bell], w.Tasks[still].State, w.Tasks[still].At, w.Ready[5] = []int{listens, calls}, api.Ready, -1, []int{asks, still}
	})
	done(t, "the one bell, while someone listens to the other one", asItIs, rings(rung, 1), asItIs)
}

// J3: who listens has 0 and the bits that are set, and goes on; where none are it stands there, behind all others.
func TestListen(t *testing.T) {
	for _, bits := range []int{1, 6, 65535} {
		done(t, fmt.Sprint("bits ", bits), placed(func(w *api.World) { w.Bits[rung], w.Bits[bell] = bits, 3 }), listensTo(runs, rung), func(w *api.World) {
			told(w, runs, 0, bits)
			w.Bits[rung] = 0
		})
	}
	done(t, "one who owes", asItIs, listensTo(runs, rung), func(w *api.World) {
		told(w, runs, 0, 65535)
		w.Bits[rung] = 0
	})
	comes := func(w *api.World) {
		w.Cores[0] = -1
		sample.Stand(w, runs, bell, api.Listening)
	}
	done(t, "to an empty line", placed(asItIs), listensTo(runs, bell), comes)
	done(t, "behind another one", asItIs, listensTo(runs, bell), comes)
	done(t, "while another bell is rung", placed(func(w *api.World) { w.Bits[rung] = 9 }), listensTo(runs, bell), comes)
}
