package sample

import (
	"slices"
	"strconv"

	"keyhold/api"
	"keyhold/world"
)

// Change: something done to a world.
type Change func(w *api.World)

// Call makes a world of another one, or refuses to.
type Call func(w api.World) (api.World, error)

// Tell makes a text of things, as fmt.Sprint does.
type Tell func(of ...any) string

// Done tells what is wrong with a call: of a full world, first altered, it should make one that differs by what is wanted, and by nothing else; that is sound, fresh, and the first is as it was. (An empty text: nothing is wrong.)
func Done(first Change, do Call, wanted Change, tell Tell) string {
	begin, want := Full(), Full()
	first(&begin)
	first(&want)
	wanted(&want)
	if err := world.Check(begin); err != nil {
		return "this world to begin with is not sound: " + err.Error()
	}
	w, whole := Roomy(begin)
	before := tell(whole)
	got, err := do(w)
	if err != nil {
		return err.Error()
	}
	wrong := Differences(got, want, tell)
	if err := world.Check(got); err != nil {
		wrong += "it is no longer sound: " + err.Error() + "; "
	}
	if !Apart(got) {
		wrong += "two lists share memory; "
	}
	if tell(whole) != before {
		wrong += "what was handed in is written into; "
	}
	return wrong
}

// Refused tells what is wrong with a call that should tell this error, answer no world, and change nothing.
func Refused(begin api.World, do Call, want api.Errno, tell Tell) string {
	w, whole := Roomy(begin)
	before, wrong := tell(whole), ""
	got, err := do(w)
	if err != error(want) {
		wrong = tell(err) + ", want " + want.Error() + "; "
	}
	if tell(got) != tell(api.World{}) {
		wrong += "a world beside an error; "
	}
	if tell(whole) != before {
		wrong += "what is refused changes something; "
	}
	return wrong
}

// Same: are two worlds alike? (Differences tells how they are not, but takes its time.)
func Same(a, b api.World) bool {
	return slices.Equal(a.Ram, b.Ram) && slices.Equal(a.Kinds, b.Kinds) && slices.Equal(a.Slots, b.Slots) &&
		slices.Equal(a.Tasks, b.Tasks) && slices.EqualFunc(a.Lines, b.Lines, slices.Equal[[]int]) &&
		slices.Equal(a.Bits, b.Bits) && slices.Equal(a.Cores, b.Cores) &&
		slices.EqualFunc(a.Ready, b.Ready, slices.Equal[[]int]) && slices.EqualFunc(a.Tlbs, b.Tlbs, slices.Equal[[]api.Entry]) &&
		slices.Equal(a.Doms, b.Doms) && a.Time == b.Time
}

// Differences tells in which lists two worlds differ, and how.
func Differences(got, want api.World, tell Tell) string {
	return differ("Ram", got.Ram, want.Ram, tell) +
		differ("Kinds", got.Kinds, want.Kinds, tell) +
		differ("Slots", got.Slots, want.Slots, tell) +
		differ("Tasks", got.Tasks, want.Tasks, tell) +
		differ("Lines", got.Lines, want.Lines, tell) +
		differ("Bits", got.Bits, want.Bits, tell) +
		differ("Cores", got.Cores, want.Cores, tell) +
		differ("Ready", got.Ready, want.Ready, tell) +
		differ("Tlbs", got.Tlbs, want.Tlbs, tell) +
		differ("Doms", got.Doms, want.Doms, tell) +
		differ("Time", []int{got.Time}, []int{want.Time}, tell)
}

func differ[T any](name string, got, want []T, tell Tell) string {
	if len(got) != len(want) {
		return name + ": " + tell(got) + ", want " + tell(want) + "; "
	}
	all := ""
	for n := range got {
		if a, b := tell(got[n]), tell(want[n]); a != b {
			all += name + " " + strconv.Itoa(n) + ": " + a + ", want " + b + "; "
		}
	}
	return all
}
