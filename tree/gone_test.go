package tree_test

import (
	"fmt"
	"testing"

	"keyhold/api"
	"keyhold/plain"
)

// gone: a frame is nothing, its key is not there.
func gone(w *api.World, frame, slot int) { w.Kinds[frame], w.Slots[slot] = api.None, empty }

// lend puts the key of a slot into another one, made from nothing, so that its thing stays though all made from clay goes.
func lend(w *api.World, slot, to int) { w.Slots[to], w.Slots[slot] = w.Slots[slot], empty }

// G3: what was made from it is made from what it was made from; as long as another key is there nothing is gone.
func TestDropKeys(t *testing.T) {
	done(t, "a key from which none is made", asItIs, drops(22), func(w *api.World) { w.Slots[22] = empty })
	done(t, "a key from which one is made", asItIs, drops(20), func(w *api.World) { w.Slots[20], w.Slots[21].From = empty, 15 })
	done(t, "a key out of clay, from which one is made", asItIs, drops(5), func(w *api.World) { w.Slots[5], w.Slots[22].From = empty, 1 })
	done(t, "a key from nothing, from which one is made", func(w *api.World) { w.Slots[5].From = -1 }, drops(5), func(w *api.World) {
		w.Slots[5], w.Slots[22].From = empty, -1
	})
	done(t, "another key beside it, from nothing", func(w *api.World) { w.Slots[24] = key(api.Page, page2, 0, 0, -1) }, drops(6), func(w *api.World) {
		w.Slots[6] = empty
	})
	done(t, "clay", asItIs, drops(1), func(w *api.World) {
		w.Slots[1] = empty
		for s := 2; s < 19; s++ {
			w.Slots[s].From = -1
		}
	})
	done(t, "clay of which nothing is used", asItIs, drops(19), func(w *api.World) { w.Slots[19] = empty })
	done(t, "clay whose first frame is a thing, with a key of the same base", func(w *api.World) {
		w.Slots[24] = clay(23, 1, 1)
		w.Kinds[23], w.Slots[25] = api.Page, key(api.Page, 23, 7, 0, 24)
	}, drops(24), func(w *api.World) { w.Slots[24], w.Slots[25].From = empty, -1 })
	done(t, "of the same base is just clay, that holds nothing", func(w *api.World) {
		w.Slots[24] = clay(23, 1, 1)
		w.Kinds[23], w.Slots[25] = api.Page, key(api.Page, 23, 7, 0, 24)
	}, drops(25), func(w *api.World) { gone(w, 23, 25) })
}

// G3: a page, a table that is gone is told nowhere and remembered by nobody; their words stay.
func TestDropPagesAndTables(t *testing.T) {
	words := func(w *api.World) {
		w.Ram[16*page2], w.Ram[16*page2+15], w.Ram[16*page] = 0xc005, 77, 0x8005
		w.Ram[16*door], w.Ram[16*23+15] = 0xc005, 0xc005
	}
	done(t, "a page", words, drops(6), func(w *api.World) {
		gone(w, page2, 6)
		w.Ram[16*table+1] = 0
		w.Tlbs[0], w.Tlbs[1] = w.Tlbs[0][:1], nil
	})
	done(t, "a page that is told often, by two tables", func(w *api.World) {
		w.Kinds[23], w.Slots[24] = api.Table, key(api.Table, 23, 7, 0, -1)
		w.Ram[16*table+15], w.Ram[16*23], w.Ram[16*23+15], w.Ram[16*23+1] = 0x8005, 0x8005, 0xc005, 0x8004
		w.Ram[16*space+15] = 0x8000 + 23
		w.Tlbs[1] = append(w.Tlbs[1], api.Entry{Space: space, Page: 240, Frame: page2}, api.Entry{Space: space, Page: 241, Frame: page}, api.Entry{Space: space, Page: 255, Frame: page2, Write: true})
	}, drops(6), func(w *api.World) {
		gone(w, page2, 6)
		w.Ram[16*table+1], w.Ram[16*table+15], w.Ram[16*23], w.Ram[16*23+15] = 0, 0, 0, 0
		w.Tlbs[0], w.Tlbs[1] = w.Tlbs[0][:1], []api.Entry{{Space: space, Page: 241, Frame: page}}
	})
	done(t, "a page that is told nowhere", func(w *api.World) { w.Kinds[23], w.Slots[24] = api.Page, key(api.Page, 23, 7, 0, -1) },
		drops(24), func(w *api.World) { gone(w, 23, 24) })
	done(t, "a table", words, drops(4), func(w *api.World) {
		gone(w, table, 4)
		w.Ram[16*space] = 0
		w.Tlbs[0], w.Tlbs[1] = nil, nil
	})
	done(t, "a table that two spaces tell, beside another one", func(w *api.World) {
		w.Kinds[23], w.Slots[24] = api.Space, key(api.Space, 23, 7, 0, -1)
		w.Kinds[21], w.Slots[25], w.Slots[19].Key.Mark = api.Table, key(api.Table, 21, 7, 0, 19), 1
		w.Ram[16*space+15], w.Ram[16*23], w.Ram[16*23+3] = 0x8003, 0x8003, 0x8000+21
		w.Ram[16*21+2] = 0x8004
		w.Tlbs[1] = append(w.Tlbs[1], api.Entry{Space: 23, Page: 50, Frame: page}, api.Entry{Space: 23, Page: 0, Frame: page})
	}, drops(4), func(w *api.World) {
		gone(w, table, 4)
		w.Ram[16*space], w.Ram[16*space+15], w.Ram[16*23] = 0, 0, 0
		w.Tlbs[0], w.Tlbs[1] = nil, []api.Entry{{Space: 23, Page: 50, Frame: page}}
	})
}

// G3: a space that is gone: tasks have it no more, nobody remembers any of it; what its tables tell of other spaces stays.
func TestDropSpaces(t *testing.T) {
	done(t, "a space", asItIs, drops(3), func(w *api.World) {
		gone(w, space, 3)
		w.Tlbs[0], w.Tlbs[1] = nil, nil
		for task := runs; task <= still; task++ {
			w.Tasks[task].Space = -1
		}
	})
	done(t, "a space beside another one", func(w *api.World) {
		w.Kinds[23], w.Slots[24] = api.Space, key(api.Space, 23, 7, 0, -1)
		w.Ram[16*23] = 0x8003
		w.Tasks[runs].Space, w.Tasks[still].Space = 23, -1
		w.Tlbs[0] = append(w.Tlbs[0], api.Entry{Space: 23, Page: 0, Frame: page})
	}, drops(3), func(w *api.World) {
		gone(w, space, 3)
		w.Tlbs[0], w.Tlbs[1] = w.Tlbs[0][2:], nil
		for task := next; task <= still; task++ {
			w.Tasks[task].Space = -1
		}
	})
}

// G3: a node that is gone: tasks have it no more, and what was in it is dropped.
func TestDropNodes(t *testing.T) {
	inside := func(w *api.World) {
		for s := 19; s < 24; s++ {
			w.Slots[s] = empty
		}
	}
	loseNode := func(w *api.World) {
		gone(w, node, 2)
		for task := runs; task <= still; task++ {
			w.Tasks[task].Node = -1
		}
	}
	done(t, "a node with clay and with keys beside others", asItIs, drops(2), func(w *api.World) {
		loseNode(w)
		inside(w)
		w.Slots[16], w.Slots[17], w.Slots[18] = empty, empty, empty
		w.Kinds[desk], w.Kinds[bell], w.Kinds[rung] = api.None, api.None, api.None
		w.Tasks[waits].State, w.Tasks[waits].At, w.Lines[desk] = api.Still, -1, nil
		w.Tasks[calls].Helper = -1
		w.Tasks[listens].State, w.Tasks[listens].At, w.Lines[bell] = api.Still, -1, nil
		w.Bits[rung] = 0
	})
	done(t, "a task that has another node keeps it", func(w *api.World) {
		w.Tasks[runs].Node, w.Tasks[next].Node = root, -1
		inside(w)
		for s := 16; s < 19; s++ {
			lend(w, s, s-8) // The tasks whose keys were there go first.
		}
		for s, f := range map[int]int{8: next, 9: sends, 10: calls} {
			w.Slots[16+s] = key(api.Task, f, 7, 0, 1)
		}
	}, drops(2), func(w *api.World) {
		loseNode(w)
		w.Tasks[runs].Node = root
		for s, f := range map[int]int{8: next, 9: sends, 10: calls} {
			gone(w, f, 16+s)
			w.Tasks[f] = plain.Blank()
		}
		w.Ready[6], w.Lines[door] = nil, nil
	})
	done(t, "what was made from keys in a node is made from what these were made from", func(w *api.World) {
		w.Slots[12] = key(api.Door, door, 1, 5, 21)
		w.Slots[24] = key(api.Task, asks, 7, 0, 1)
		lend(w, 18, 9)
		w.Slots[25] = key(api.Task, sends, 7, 0, 1)
		lend(w, 17, 10)
		w.Slots[26] = key(api.Task, calls, 7, 0, 1)
		w.Slots[23] = empty
	}, drops(2), func(w *api.World) {
		loseNode(w)
		inside(w)
		w.Slots[12].From = 15
		w.Slots[16], w.Kinds[desk] = empty, api.None
		w.Tasks[waits].State, w.Tasks[waits].At, w.Lines[desk] = api.Still, -1, nil
		for s, f := range map[int]int{24: asks, 25: sends, 26: calls} {
			gone(w, f, s)
			w.Tasks[f] = plain.Blank()
		}
		w.Tasks[runs].Owes, w.Lines[door] = -1, nil
	})
}

// nest is a world of nodes and a space (frame 4), a table (5) and a page (6), of which the space tells the table, and that the page. The key to node 1 is in slot 1, that to node 2 in slot 2.
func nest(in map[int]api.Slot) api.World {
	w := full()
	for f := range w.Kinds {
		w.Kinds[f], w.Tasks[f], w.Lines[f], w.Bits[f] = api.None, plain.Blank(), nil, 0
	}
	clear(w.Ram)
	clear(w.Ready)
	w.Cores, w.Tlbs = []int{-1, -1}, [][]api.Entry{{{Space: 4, Page: 0, Frame: 6}}, nil}
	for s := range w.Slots {
		w.Slots[s] = empty
	}
	w.Slots[0] = key(api.Node, 0, 7, 0, -1)
	for f, kind := range []int{api.Node, api.Node, api.Node, api.Node, api.Space, api.Table, api.Page} {
		w.Kinds[f] = kind
	}
	w.Ram[16*4], w.Ram[16*5] = 0x8005, 0x8006
	for s, k := range in {
		w.Slots[s] = k
	}
	return w
}

// nested: of a nest with these keys all but node 0 is gone by the call; of the words of the space and the table only those are left that were nobody's at the time.
func nested(t *testing.T, why string, in map[int]api.Slot, do call, entry, leaf int) {
	t.Helper()
	done(t, why, func(w *api.World) { *w = nest(in) }, do, func(w *api.World) {
		*w = nest(nil)
		for f := 1; f < 7; f++ {
			w.Kinds[f] = api.None
		}
		w.Ram[16*4], w.Ram[16*5], w.Tlbs[0] = entry, leaf, nil
	})
}

// G3: slots of a node are dropped from the last one on, each with all that goes by it.
func TestDropNodesInOrder(t *testing.T) {
	n := func(f int) api.Slot { return key(api.Node, f, 7, 0, -1) }
	s, tb, p := key(api.Space, 4, 7, 0, -1), key(api.Table, 5, 7, 0, -1), key(api.Page, 6, 7, 0, -1)
	nested(t, "the page ahead of the table ahead of the space", map[int]api.Slot{1: n(1), 16: n(2), 17: n(3), 20: s, 21: tb, 22: p}, drops(1), 0, 0)
	nested(t, "the space ahead of the table ahead of the page", map[int]api.Slot{1: n(1), 16: n(2), 17: n(3), 31: s, 30: tb, 29: p}, drops(1), 0x8005, 0x8006)
	nested(t, "the table ahead of both", map[int]api.Slot{1: n(1), 16: n(2), 17: n(3), 30: s, 31: tb, 29: p}, drops(1), 0, 0x8006)
	nested(t, "a node's keys ahead of the node's beside it", map[int]api.Slot{1: n(1), 16: n(2), 31: n(3), 48: tb, 30: s, 29: p}, drops(1), 0, 0x8006)
	nested(t, "a node's last key ahead of its first", map[int]api.Slot{1: n(1), 16: n(2), 31: n(3), 63: s, 48: tb, 30: p}, drops(1), 0x8005, 0x8006)
	nested(t, "a node in a node in a node", map[int]api.Slot{1: n(1), 31: n(2), 47: n(3), 63: tb, 46: p, 30: s}, drops(1), 0, 0x8006)
	nested(t, "a node with nodes in a node", map[int]api.Slot{1: n(1), 16: n(2), 47: n(3), 48: s, 49: tb, 50: p}, drops(1), 0, 0)
}

// G3: as long as a key is in the node itself it is not gone; with that key it is.
func TestDropNodesWithKeysToThemselves(t *testing.T) {
	begin := func(w *api.World) {
		*w = nest(map[int]api.Slot{1: key(api.Node, 1, 7, 0, -1), 31: key(api.Node, 1, 1, 0, 1), 16: key(api.Node, 2, 7, 0, -1), 17: key(api.Node, 3, 7, 0, -1),
			18: key(api.Space, 4, 7, 0, -1), 19: key(api.Table, 5, 7, 0, -1), 20: key(api.Page, 6, 7, 0, -1)})
	}
	done(t, "a key is in it still", begin, drops(1), func(w *api.World) { w.Slots[1], w.Slots[31].From = empty, -1 })
	done(t, "the last one, in it", func(w *api.World) { begin(w); w.Slots[1], w.Slots[31].From = empty, -1 }, drops(31), func(w *api.World) {
		*w = nest(nil)
		for f := 1; f < 7; f++ {
			w.Kinds[f] = api.None
		}
		w.Ram[16*4], w.Ram[16*5], w.Tlbs[0] = 0, 0, nil
	})
	done(t, "the first node, with all there is", asItIs, drops(0), func(w *api.World) {
		for f := range w.Kinds {
			w.Kinds[f], w.Tasks[f], w.Lines[f], w.Bits[f] = api.None, plain.Blank(), nil, 0
		}
		for s := range w.Slots {
			w.Slots[s] = empty
		}
		clear(w.Ready)
		// Page goes behind table, by its last key, which is in the other node: the word that told it is nobody's then.
		w.Ram[16*space], w.Ram[16*table+1] = 0, 0
		w.Cores, w.Tlbs = []int{-1, -1}, make([][]api.Entry, 2)
	})
}

// G3: a task that is gone is nowhere; whom it owes is Still, who owes it owes nobody.
func TestDropTasks(t *testing.T) {
	for task, more := range map[int]change{
		runs: func(w *api.World) {
			w.Cores[0] = -1
			w.Tasks[asks].State = api.Still
		},
		next:    func(w *api.World) { w.Ready[6] = nil },
		sends:   func(w *api.World) { w.Lines[door] = []int{calls} },
		calls:   func(w *api.World) { w.Lines[door] = []int{sends} },
		waits:   func(w *api.World) { w.Lines[desk] = nil },
		asks:    func(w *api.World) { w.Tasks[runs].Owes = -1 },
		listens: func(w *api.World) { w.Lines[bell] = nil },
		still:   func(w *api.World) {},
	} {
		done(t, fmt.Sprint("task ", task), asItIs, drops(task+1), func(w *api.World) {
			more(w)
			gone(w, task, task+1)
			w.Tasks[task] = plain.Blank()
		})
		done(t, fmt.Sprint("one of two keys to task ", task), func(w *api.World) { w.Slots[31] = key(api.Task, task, 0, 0, task+1) },
			drops(task+1), func(w *api.World) { w.Slots[task+1], w.Slots[31].From = empty, 1 })
	}
	done(t, "one who owes itself", func(w *api.World) { w.Tasks[runs].Owes, w.Tasks[asks].Owes = -1, asks }, drops(asks+1), func(w *api.World) {
		gone(w, asks, asks+1)
		w.Tasks[asks] = plain.Blank()
	})
	done(t, "two who owe each other", func(w *api.World) {
		w.Tasks[runs].Owes, w.Tasks[asks].Owes, w.Tasks[still].Owes = -1, still, asks
		w.Tasks[still].State = api.Asking
	}, drops(asks+1), func(w *api.World) {
		gone(w, asks, asks+1)
		w.Tasks[asks], w.Tasks[still].State, w.Tasks[still].Owes = plain.Blank(), api.Still, -1
	})
	done(t, "one who sends, and owes", func(w *api.World) { w.Tasks[runs].Owes, w.Tasks[sends].Owes = -1, asks }, drops(sends+1), func(w *api.World) {
		gone(w, sends, sends+1)
		w.Tasks[sends], w.Tasks[asks].State, w.Lines[door] = plain.Blank(), api.Still, []int{calls}
	})
}

// G3: with a door, a bell all who stand there are Still; what they had else stays.
func TestDropDoorsAndBells(t *testing.T) {
	done(t, "a door with others' keys", asItIs, drops(15), func(w *api.World) { w.Slots[15], w.Slots[20].From = empty, 1 })
	done(t, "a door, where two send", func(w *api.World) {
		w.Slots[20], w.Slots[21] = empty, empty
		w.Tasks[next].Helper, w.Tasks[sends].Helper, w.Tasks[asks].Helper = door, door, desk
	}, drops(15), func(w *api.World) {
		gone(w, door, 15)
		w.Tasks[sends].State, w.Tasks[sends].At = api.Still, -1
		w.Tasks[calls].State, w.Tasks[calls].At = api.Still, -1
		w.Lines[door] = nil
		w.Tasks[next].Helper, w.Tasks[sends].Helper = -1, -1
	})
	done(t, "a door, where one waits", asItIs, drops(16), func(w *api.World) {
		gone(w, desk, 16)
		w.Tasks[waits].State, w.Tasks[waits].At, w.Lines[desk] = api.Still, -1, nil
		w.Tasks[calls].Helper = -1
	})
	done(t, "a bell, where one listens", func(w *api.World) { w.Slots[23] = empty }, drops(17), func(w *api.World) {
		gone(w, bell, 17)
		w.Tasks[listens].State, w.Tasks[listens].At, w.Lines[bell] = api.Still, -1, nil
	})
	done(t, "a bell that is rung", asItIs, drops(18), func(w *api.World) {
		gone(w, rung, 18)
		w.Bits[rung] = 0
	})
	done(t, "a door where one stands who owes", func(w *api.World) {
		w.Slots[20], w.Slots[21] = empty, empty
		w.Tasks[runs].Owes, w.Tasks[calls].Owes = -1, asks
	}, drops(15), func(w *api.World) {
		gone(w, door, 15)
		w.Tasks[sends].State, w.Tasks[sends].At = api.Still, -1
		w.Tasks[calls].State, w.Tasks[calls].At = api.Still, -1
		w.Lines[door] = nil
	})
}

// G4: all that was made from a slot is dropped, the slot stays.
func TestRevoke(t *testing.T) {
	done(t, "a key from which none is made", asItIs, revokes(6), asItIs)
	done(t, "a key from which none is made, by which there is a copy", asItIs, revokes(22), asItIs)
	done(t, "a key with two below each other", asItIs, revokes(15), func(w *api.World) { w.Slots[20], w.Slots[21] = empty, empty })
	done(t, "a key in the midst", asItIs, revokes(20), func(w *api.World) { w.Slots[21] = empty })
	done(t, "a key with some beside each other", func(w *api.World) {
		w.Slots[30], w.Slots[24], w.Slots[12] = key(api.Page, page, 7, 0, 5), key(api.Page, page, 1, 0, 30), key(api.Page, page, 7, 0, -1)
		w.Slots[31] = key(api.Task, asks, 7, 0, 1)
	}, revokes(5), func(w *api.World) { w.Slots[22], w.Slots[24], w.Slots[30] = empty, empty, empty })
	last := func(w *api.World) { w.Kinds[23], w.Slots[24] = api.Node, key(api.Node, 23, 7, 0, -1) }
	done(t, "a key in the first slot of all, and one in the last", func(w *api.World) {
		last(w)
		w.Slots[383] = key(api.Node, root, 1, 0, 0)
	}, revokes(0), func(w *api.World) { w.Slots[383] = empty })
	done(t, "a key in the last slot of all, and one in the first", func(w *api.World) {
		last(w)
		w.Slots[0], w.Slots[383] = key(api.Node, root, 1, 0, 383), key(api.Node, root, 7, 0, -1)
	}, revokes(383), func(w *api.World) { w.Slots[0] = empty })
	done(t, "clay of which nothing is used", asItIs, revokes(19), asItIs)
	done(t, "clay, with all that came of it", asItIs, revokes(1), func(w *api.World) {
		for f := 1; f < 18; f++ {
			w.Kinds[f], w.Tasks[f], w.Lines[f], w.Bits[f] = api.None, plain.Blank(), nil, 0
		}
		for s := 2; s < 32; s++ {
			w.Slots[s] = empty
		}
		clear(w.Ready)
		w.Ram[16*space], w.Ram[16*table], w.Ram[16*table+1] = 0, 0, 0
		w.Cores, w.Tlbs = []int{-1, -1}, make([][]api.Entry, 2)
	})
}

// G4: the last slot comes first, each with all that goes by it.
func TestRevokeInOrder(t *testing.T) {
	made := func(kind, f int) api.Slot { return key(kind, f, 7, 0, 9) }
	from := api.Slot{Key: api.Key{Kind: api.Clay, Base: 1, Len: 6, Mark: 6, Rights: 7}, From: -1}
	begin := func(w *api.World, in map[int]api.Slot) {
		*w = nest(in)
		w.Slots[9] = from
		w.Slots[8], w.Slots[7] = made(api.Node, 2), made(api.Node, 3)
	}
	for _, c := range []struct {
		why         string
		in          map[int]api.Slot
		entry, leaf int
	}{
		{"the space last", map[int]api.Slot{15: made(api.Space, 4), 14: made(api.Table, 5), 13: made(api.Page, 6), 1: made(api.Node, 1)}, 0x8005, 0x8006},
		{"the page last", map[int]api.Slot{10: made(api.Space, 4), 14: made(api.Table, 5), 15: made(api.Page, 6), 1: made(api.Node, 1)}, 0, 0},
		{"a node last, and what is in it by that", map[int]api.Slot{15: made(api.Node, 1), 16: key(api.Table, 5, 7, 0, -1), 14: made(api.Space, 4), 13: made(api.Page, 6)}, 0, 0x8006},
		{"what is in a node is in a later slot", map[int]api.Slot{15: made(api.Node, 1), 16: made(api.Space, 4), 14: made(api.Table, 5), 13: made(api.Page, 6)}, 0x8005, 0x8006},
	} {
		done(t, c.why, func(w *api.World) { begin(w, c.in) }, revokes(9), func(w *api.World) {
			*w = nest(map[int]api.Slot{9: from})
			for f := 1; f < 7; f++ {
				w.Kinds[f] = api.None
			}
			w.Ram[16*4], w.Ram[16*5], w.Tlbs[0] = c.entry, c.leaf, nil
		})
	}
}

// G4: when the slot itself is gone, with the node in which it is, what was made from it is no more; the rest of it stays.
func TestRevokeLosesItsSlot(t *testing.T) {
	begin := func(w *api.World) {
		*w = nest(map[int]api.Slot{
			31: {Key: api.Key{Kind: api.Clay, Base: 1, Len: 6, Mark: 6, Rights: 7}, From: -1},
			1:  key(api.Table, 5, 7, 0, 31), 2: key(api.Node, 1, 7, 0, 31), 3: key(api.Table, 5, 7, 0, 31),
			4: key(api.Node, 2, 7, 0, -1), 5: key(api.Node, 3, 7, 0, -1), 6: key(api.Space, 4, 7, 0, -1), 30: key(api.Page, 6, 7, 0, 31),
		})
	}
	done(t, "clay in a node out of it", begin, revokes(31), func(w *api.World) {
		w.Slots[31], w.Slots[30], w.Slots[3], w.Slots[2] = empty, empty, empty, empty
		w.Kinds[1], w.Kinds[6] = api.None, api.None
		w.Slots[1].From = -1
		w.Ram[16*5], w.Tlbs[0] = 0, nil
	})
}
