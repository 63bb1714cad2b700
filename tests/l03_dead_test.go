package tests

import (
	"fmt"
	"math"
	"slices"
	"testing"

	"loop.example/g00381/impl"
)

// ptrsOf are that many of the slots from 0 on, born from 1 on.
func ptrsOf(many int) []impl.Ptr {
	out := []impl.Ptr{}
	for i := range int64(many) {
		out = append(out, at(i, i+1))
	}
	return out
}

func rightPtrs() map[string][]impl.Ptr {
	return map[string][]impl.Ptr{
		"nothing":              nil,
		"an empty list":        {},
		"one":                  {at(3, 7)},
		"the first slot":       {at(0, 1)},
		"the last slot":        {at(impl.MaxSlots-1, impl.MaxTime)},
		"born at one time":     {at(5, 4), at(2, 4), at(9, 4)},
		"falling":              {at(9, 8), at(2, 3), at(1, 1)},
		"a birth like a slot":  {at(1, 2), at(2, 1)},
		"as many as there are": ptrsOf(impl.MaxSlots),
	}
}

func wrongPtrs() map[string][]impl.Ptr {
	out := map[string][]impl.Ptr{
		"none":                 {{}},
		"none in between":      {at(1, 1), {}, at(2, 1)},
		"below all slots":      {at(-1, 1)},
		"far below":            {at(math.MinInt64, 1)},
		"behind all slots":     {at(impl.MaxSlots, 1)},
		"far behind":           {at(math.MaxInt64, 1)},
		"no birth":             {at(4, 0)},
		"a birth below":        {at(4, -1)},
		"far too early":        {at(4, math.MinInt64)},
		"a birth too late":     {at(4, impl.MaxTime+1)},
		"far too late":         {at(4, math.MaxInt64)},
		"one twice":            {at(4, 2), at(4, 2)},
		"a slot twice":         {at(4, 2), at(4, 3)},
		"a slot twice, apart":  {at(0, 3), at(4, 2), at(7, 1), at(0, 1)},
		"the last one":         {at(1, 1), at(2, 1), at(impl.MaxSlots, 1)},
		"one too many":         append(ptrsOf(impl.MaxSlots), at(0, 1)),
		"MaxList":              make([]impl.Ptr, impl.MaxList),
		"more than MaxList":    ptrsOf(impl.MaxList + 1),
		"each of them again":   append(ptrsOf(impl.MaxSlots), ptrsOf(impl.MaxSlots)...),
		"far more than enough": ptrsOf(5000),
	}
	return out
}

func TestPtrsRight(t *testing.T) {
	for what, l := range rightPtrs() {
		if !impl.PtrsRight(l) {
			t.Errorf("%s: are right", what)
		}
	}
	for what, l := range wrongPtrs() {
		if impl.PtrsRight(l) {
			t.Errorf("%s: are not right", what)
		}
	}
}

func TestSplit(t *testing.T) {
	l := []impl.Ptr{at(8, 5), at(1, 3), at(0, impl.MaxTime), at(7, 4), at(2, 1), at(9, 5)}
	for _, c := range []struct {
		time  int64
		young []impl.Ptr
		old   []impl.Ptr
	}{
		{0, l, nil},
		{1, []impl.Ptr{l[0], l[1], l[2], l[3], l[5]}, l[4:5]},
		{3, []impl.Ptr{l[0], l[2], l[3], l[5]}, []impl.Ptr{l[1], l[4]}},
		{4, []impl.Ptr{l[0], l[2], l[5]}, []impl.Ptr{l[1], l[3], l[4]}},
		{5, l[2:3], []impl.Ptr{l[0], l[1], l[3], l[4], l[5]}},
		{impl.MaxTime - 1, l[2:3], []impl.Ptr{l[0], l[1], l[3], l[4], l[5]}},
		{impl.MaxTime, nil, l},
	} {
		same(t, fmt.Sprint("parted by ", c.time), impl.Split(l, c.time), impl.DeadOut{Young: c.young, Old: c.old})
	}
	same(t, "nothing", impl.Split(nil, 4), impl.DeadOut{})
	all := ptrsOf(impl.MaxSlots)
	same(t, "all slots", impl.Split(all, 50), impl.DeadOut{Young: all[50:], Old: all[:50]})
}

func TestSplitRefuses(t *testing.T) {
	for what, l := range wrongPtrs() {
		for _, time := range []int64{0, 1, impl.MaxTime, -1} {
			same(t, what, impl.Split(l, time), impl.DeadOut{})
		}
	}
	for _, time := range []int64{-1, math.MinInt64, impl.MaxTime + 1, math.MaxInt64} {
		for what, l := range rightPtrs() {
			same(t, fmt.Sprint(what, ", parted by ", time), impl.Split(l, time), impl.DeadOut{})
		}
	}
}

func TestPtrsSame(t *testing.T) {
	l := []impl.Ptr{at(0, 5), at(7, 2), at(2, 7)}
	for what, other := range map[string][]impl.Ptr{
		"as they are": l,
		"turned":      {l[2], l[1], l[0]},
		"moved on":    {l[1], l[2], l[0]},
	} {
		if !impl.PtrsSame(l, other) || !impl.PtrsSame(other, l) {
			t.Errorf("%s: are the same", what)
		}
	}
	for what, other := range map[string][]impl.Ptr{
		"nothing":             nil,
		"one less":            {l[0], l[1]},
		"the first one less":  {l[1], l[2]},
		"one more":            {l[0], l[1], l[2], at(3, 1)},
		"another birth":       {l[0], at(7, 3), l[2]},
		"another slot":        {at(1, 5), l[1], l[2]},
		"births exchanged":    {at(0, 2), at(7, 5), l[2]},
		"slots for births":    {l[0], at(2, 2), at(7, 7)},
		"one twice":           {l[0], l[1], l[1]},
		"all, and one twice":  {l[0], l[1], l[2], l[0]},
		"all, and none":       {l[0], l[1], l[2], {}},
		"a slot of two times": {l[0], l[1], l[2], at(0, 6)},
	} {
		if impl.PtrsSame(l, other) || impl.PtrsSame(other, l) {
			t.Errorf("%s: are not the same", what)
		}
	}
}

// What is not right is the same as nothing, not even as itself.
func TestPtrsSameOfWrongOnes(t *testing.T) {
	for what, wrong := range wrongPtrs() {
		if impl.PtrsSame(wrong, wrong) || impl.PtrsSame(wrong, slices.Clone(wrong)) {
			t.Errorf("%s: no list of right ones is the same", what)
		}
		for other, right := range rightPtrs() {
			if impl.PtrsSame(wrong, right) || impl.PtrsSame(right, wrong) {
				t.Errorf("%s, %s: one of the two is not right", what, other)
			}
		}
	}
	for what, l := range rightPtrs() {
		for other, m := range rightPtrs() {
			same(t, what+", "+other, impl.PtrsSame(l, m), fmt.Sprint(l) == fmt.Sprint(m))
		}
	}
}

// spoilPtrs writes over a list, and over the room behind it.
func spoilPtrs(l []impl.Ptr) {
	l = l[:cap(l)]
	for i := range l {
		l[i] = at(-7, -7)
	}
}

func TestPartsAreNewMemory(t *testing.T) {
	full := ptrsOf(20)
	for _, time := range []int64{0, 1, 8, 19, 20, impl.MaxTime} {
		l := append(make([]impl.Ptr, 0, 40), full...)
		out := impl.Split(l, time)
		same(t, "what is handed in", l, full)
		same(t, "nothing behind it", l[20:40], make([]impl.Ptr, 20))
		want := impl.DeadOut{Young: slices.Clone(out.Young), Old: slices.Clone(out.Old)}
		spoilPtrs(l)
		same(t, "apart from what was handed in", out, want)
		spoilPtrs(out.Young)
		same(t, "the others", out.Old, want.Old)
		spoilPtrs(out.Old)
		again := impl.Split(full, time)
		same(t, "nothing is kept", again, want)
		spoilPtrs(again.Old)
		same(t, "those born behind", again.Young, want.Young)
	}
	a, b := ptrsOf(9), ptrsOf(9)
	slices.Reverse(b)
	was := slices.Clone(b)
	impl.PtrsSame(a, b)
	impl.PtrsRight(b)
	same(t, "what is asked stays", []any{a, b}, []any{ptrsOf(9), was})
}

// somePtrs are right ones at random, of which some are born just at, or just behind, the time.
func (w *walk) somePtrs(time int64) []impl.Ptr {
	slots := ptrsOf(impl.MaxSlots)
	for i := range slots {
		k := i + w.pick(len(slots)-i)
		slots[i], slots[k] = slots[k], slots[i]
	}
	l := slots[:w.pick(impl.MaxSlots+1)]
	for i := range l {
		switch w.pick(3) {
		case 0:
			l[i].Birth = min(max(time+int64(w.pick(3))-1, 1), impl.MaxTime)
		default:
			l[i].Birth = 1 + int64(w.pick(impl.MaxTime))
		}
	}
	return l
}

// inOrder: each of part is in l, one behind the other.
func inOrder(l []impl.Ptr, part []impl.Ptr) bool {
	for _, x := range l {
		if len(part) > 0 && part[0] == x {
			part = part[1:]
		}
	}
	return len(part) == 0
}

// Promise 3: right pointers are parted by a time, and come together again.
func TestPromise3(t *testing.T) {
	for seed := range uint64(300) {
		w := &walk{t: t, seed: seed}
		time := []int64{0, 1, int64(w.pick(impl.MaxTime)), impl.MaxTime - 1, impl.MaxTime}[seed%5]
		l := w.somePtrs(time)
		out := impl.Split(l, time)
		for _, x := range out.Young {
			same(t, "born behind it", x.Birth > time, true)
		}
		for _, x := range out.Old {
			same(t, "not born behind it", x.Birth > time, false)
		}
		same(t, "in their order", []bool{inOrder(l, out.Young), inOrder(l, out.Old)}, []bool{true, true})
		same(t, "all", len(out.Young)+len(out.Old), len(l))
		together := append(slices.Clone(out.Old), out.Young...)
		same(t, "right", []bool{impl.PtrsRight(l), impl.PtrsRight(out.Young), impl.PtrsRight(out.Old), impl.PtrsRight(together)}, []bool{true, true, true, true})
		same(t, "together again", []bool{impl.PtrsSame(l, together), impl.PtrsSame(together, l)}, []bool{true, true})
		same(t, "the parts alone", impl.PtrsSame(l, out.Young), len(out.Old) == 0)
		same(t, "parted again", impl.Split(together, time), out)
		same(t, "the young ones stay", impl.Split(out.Young, time), impl.DeadOut{Young: out.Young})
		same(t, "the old ones stay", impl.Split(out.Old, time), impl.DeadOut{Old: out.Old})
		if t.Failed() {
			t.Fatalf("of the seed %d", seed)
		}
	}
}

// What a tree drops is right, and is parted as it was born.
func TestDroppedOfATree(t *testing.T) {
	p, root := smallTree(9)
	out := impl.TreeWrite(p, root, 9, pageB, 5)
	same(t, "dropped", out.Old, []impl.Ptr{at(0, 1), at(1, 2), at(2, 4)})
	same(t, "right", impl.PtrsRight(out.Old), true)
	same(t, "parted", impl.Split(out.Old, 2), impl.DeadOut{Young: []impl.Ptr{at(2, 4)}, Old: []impl.Ptr{at(0, 1), at(1, 2)}})
	same(t, "a whole tree", impl.PtrsRight(impl.TreePtrs(p, root)), true)
}
