package tests

import (
	"fmt"
	"math"
	"slices"
	"strings"
	"testing"

	"loop.example/g00381/impl"
)

const lastCount = 900000

// maker makes a world by the layers below it.
type maker struct {
	walk
	w impl.World
}

func makerOf(slots int64) *maker {
	return &maker{w: impl.WorldNew(slots)}
}

func (m *maker) set(name string) *impl.Set {
	at := slices.IndexFunc(m.w.Sets, func(s impl.Set) bool { return s.Name == name })
	return &m.w.Sets[at]
}

// lay puts what a write or a trim of a set's tree made in its place: what is born behind the snapshot ahead is held.
func (m *maker) lay(name string, out impl.TreeOut) bool {
	if out.Code != impl.OK {
		return false
	}
	s := m.set(name)
	parts := impl.Split(out.Old, aheadOf(m.w, s.Prev).Time)
	m.w.Pool, s.Root, s.Dead = out.Pool, out.Root, append(s.Dead, parts.Old...)
	for _, x := range parts.Young {
		m.w.Pool = impl.PoolHold(m.w.Pool, x).Pool
	}
	return true
}

func (m *maker) write(name string, page int64, data string) bool {
	return m.lay(name, impl.TreeWrite(m.w.Pool, m.set(name).Root, page, data, m.w.Time))
}

func (m *maker) trim(name string, page int64) bool {
	return m.lay(name, impl.TreeTrim(m.w.Pool, m.set(name).Root, page, m.w.Time))
}

func (m *maker) sync() {
	m.w.Pool = impl.PoolSync(m.w.Pool)
}

func (m *maker) add(s impl.Set) {
	m.w.Sets = append(m.w.Sets, s)
	slices.SortFunc(m.w.Sets, func(a, b impl.Set) int { return strings.Compare(a.Name, b.Name) })
}

func (m *maker) snap(set string, name string) {
	s := m.set(set)
	m.w.Snaps = append(m.w.Snaps, impl.Snap{Id: m.w.Next, Name: name, Set: set, Prev: s.Prev, Time: m.w.Time, Root: s.Root, Dead: s.Dead})
	s.Prev, s.Dead = m.w.Next, nil
	m.w.Next++
	m.w.Time++
}

func (m *maker) clone(id int64, name string) {
	m.add(impl.Set{Name: name, Origin: id, Prev: id, Root: aheadOf(m.w, id).Root})
}

func aheadOf(w impl.World, id int64) impl.Snap {
	for _, s := range w.Snaps {
		if s.Id == id {
			return s
		}
	}
	return impl.Snap{}
}

// family has the snapshots 1 and 2 of a; b, cloned of 1, with the snapshot 3; d, cloned of 3; and c, which is of nothing.
func family() impl.World {
	m := makerOf(60)
	m.add(impl.Set{Name: "a"})
	m.write("a", 0, pageA)
	m.write("a", 9, pageB)
	m.snap("a", "x")
	m.write("a", 0, pageB)
	m.snap("a", "y")
	m.trim("a", 9)
	m.clone(1, "b")
	m.write("b", 3, pageA)
	m.snap("b", "x")
	m.write("b", 0, pageB)
	m.add(impl.Set{Name: "c"})
	m.clone(3, "d")
	m.trim("d", 3)
	m.write("d", 63, pageA)
	return m.w
}

// small has one page, the slots 0 to 2, of the set a, and room behind it.
func small() impl.World {
	m := makerOf(9)
	m.add(impl.Set{Name: "a"})
	m.write("a", 0, pageA)
	return m.w
}

// emptyOnes has these sets, of nothing, and snapshots of nothing, each behind the one ahead of it in its set.
func emptyOnes(sets []string, snaps ...string) impl.World {
	m := makerOf(0)
	for _, name := range sets {
		m.add(impl.Set{Name: name})
	}
	for i, set := range snaps {
		m.snap(set, fmt.Sprint("s", i))
	}
	return m.w
}

func copyWorld(w impl.World) impl.World {
	w.Pool, w.Sets, w.Snaps = copyOf(w.Pool), slices.Clone(w.Sets), slices.Clone(w.Snaps)
	for i := range w.Sets {
		w.Sets[i].Dead = slices.Clone(w.Sets[i].Dead)
	}
	for i := range w.Snaps {
		w.Snaps[i].Dead = slices.Clone(w.Snaps[i].Dead)
	}
	return w
}

func rightWorlds() map[string]impl.World {
	turned := family()
	for _, s := range turned.Sets {
		slices.Reverse(s.Dead)
	}
	synced := family()
	synced.Pool = impl.PoolSync(synced.Pool)
	late, next, far := small(), small(), impl.WorldNew(0)
	late.Time, next.Next, far.Time, far.Next = lastCount, lastCount, 1, lastCount
	apart := emptyOnes([]string{"a", "b"}, "a", "b", "a", "b")
	apart.Snaps[0].Name, apart.Snaps[1].Name = "s", "s"
	gaps := emptyOnes([]string{"a", "b"}, "a")
	gaps.Snaps[0].Id, gaps.Sets[0].Prev, gaps.Next, gaps.Time = 700, 700, 701, 50
	last := emptyOnes([]string{"a"}, "a")
	last.Snaps[0].Id, last.Sets[0].Prev, last.Snaps[0].Time, last.Next, last.Time = lastCount-1, lastCount-1, lastCount-1, lastCount, lastCount
	shared := makerOf(30)
	shared.add(impl.Set{Name: "a"})
	shared.write("a", 5, pageA)
	shared.snap("a", "x")
	for _, name := range []string{"b", "c", "d"} {
		shared.clone(1, name)
	}
	many := makerOf(impl.MaxSlots)
	for i := range impl.MaxSets {
		many.add(impl.Set{Name: fmt.Sprint("set", i)})
	}
	for i := range impl.MaxSnaps {
		many.write("set3", int64(3*i), pageA)
		many.snap("set3", fmt.Sprint("s", i))
		many.sync()
	}
	return map[string]impl.World{
		"a new one":                      impl.WorldNew(30),
		"without slots":                  impl.WorldNew(0),
		"a set":                          emptyOnes([]string{"a"}),
		"as many sets as may be":         emptyOnes([]string{"a", "a_", "a0", "aa", "b", "zz", "zzz", "zzzz"}),
		"as many snapshots as may be":    emptyOnes([]string{"a", "b"}, strings.Split(strings.Repeat("ab", 10), "")...),
		"as many of both":                many.w,
		"a page":                         small(),
		"a family":                       family(),
		"a family, synced":               synced,
		"Dead in another order":          turned,
		"the last Time":                  late,
		"the last Next":                  next,
		"the last Next at the first":     far,
		"one name in two sets":           apart,
		"Ids and Times with gaps":        gaps,
		"the last Id and Time":           last,
		"four trees that are all shared": shared.w,
	}
}

// question is a clause of the chapter, asked as it stands there.
type question struct {
	what  string
	holds func(impl.World) bool
}

// treeIn is a tree, with what Prev tells of it.
type treeIn struct {
	ptrs  []impl.Ptr
	ahead []impl.Ptr
	time  int64
	since int64
	dead  []impl.Ptr
	prev  int64
	root  impl.Ptr
}

func treesIn(w impl.World) []treeIn {
	var out []treeIn
	tree := func(prev int64, time int64, root impl.Ptr, dead []impl.Ptr) {
		p := aheadOf(w, prev)
		out = append(out, treeIn{impl.TreePtrs(w.Pool, root), impl.TreePtrs(w.Pool, p.Root), time, p.Time, dead, prev, root})
	}
	for _, s := range w.Sets {
		tree(s.Prev, w.Time, s.Root, s.Dead)
	}
	for _, s := range w.Snaps {
		tree(s.Prev, s.Time, s.Root, s.Dead)
	}
	return out
}

func ofTrees(holds func(treeIn) bool) func(impl.World) bool {
	return func(w impl.World) bool {
		return !slices.ContainsFunc(treesIn(w), func(x treeIn) bool { return !holds(x) })
	}
}

func rises(n int, above func(i int) bool) bool {
	for i := 1; i < n; i++ {
		if !above(i) {
			return false
		}
	}
	return true
}

func idRight(w impl.World, id int64) bool {
	return id == 0 || slices.ContainsFunc(w.Snaps, func(s impl.Snap) bool { return s.Id == id })
}

func eachSnap(holds func(impl.World, impl.Snap) bool) func(impl.World) bool {
	return func(w impl.World) bool {
		return !slices.ContainsFunc(w.Snaps, func(s impl.Snap) bool { return !holds(w, s) })
	}
}

func eachSet(holds func(impl.World, impl.Set) bool) func(impl.World) bool {
	return func(w impl.World) bool {
		return !slices.ContainsFunc(w.Sets, func(s impl.Set) bool { return !holds(w, s) })
	}
}

func bothOf(a func(impl.World) bool, b func(impl.World) bool) func(impl.World) bool {
	return func(w impl.World) bool { return a(w) && b(w) }
}

func namedOnce(w impl.World, s impl.Snap) bool {
	many := 0
	for _, other := range w.Snaps {
		if other.Set == s.Set && other.Name == s.Name {
			many++
		}
	}
	return many == 1
}

// lineOf holds the snapshots by Prev from a set on, as far as there can be any, against its own and its Origin.
func lineOf(w impl.World, s impl.Set) bool {
	var line []int64
	for id := s.Prev; id != 0 && idRight(w, id) && len(line) < 50; id = aheadOf(w, id).Prev {
		line = append(line, id)
	}
	own := 0
	for _, x := range w.Snaps {
		if x.Set == s.Name {
			own++
		}
	}
	if len(line) < own {
		return false
	}
	for _, id := range line[:own] {
		if aheadOf(w, id).Set != s.Name {
			return false
		}
	}
	if s.Origin == 0 {
		return len(line) == own
	}
	return len(line) > own && line[own] == s.Origin
}

func noneOfTwo(w impl.World) bool {
	trees := treesIn(w)
	for i, a := range trees {
		for _, b := range trees[:i] {
			for _, x := range a.ptrs {
				if slices.Contains(b.ptrs, x) && !slices.Contains(a.ahead, x) && !slices.Contains(b.ahead, x) {
					return false
				}
			}
		}
	}
	return true
}

func justInTrees(w impl.World) bool {
	in := map[int64]bool{}
	for _, tree := range treesIn(w) {
		for _, x := range tree.ptrs {
			in[x.Slot] = true
		}
	}
	for i, s := range w.Pool.Slots {
		if in[int64(i)] != (s.Birth != 0 && !slices.Contains(w.Pool.Held, int64(i))) {
			return false
		}
	}
	return true
}

func questions() []question {
	return []question{
		{"pool", func(w impl.World) bool { return impl.PoolRight(w.Pool) }},
		{"time", func(w impl.World) bool { return w.Time >= 1 && w.Time <= lastCount }},
		{"next", func(w impl.World) bool { return w.Next >= 1 && w.Next <= lastCount }},
		{"sets", func(w impl.World) bool {
			return len(w.Sets) <= impl.MaxSets && rises(len(w.Sets), func(i int) bool { return w.Sets[i-1].Name < w.Sets[i].Name })
		}},
		{"snaps", func(w impl.World) bool { return len(w.Snaps) <= impl.MaxSnaps }},
		{"ids", bothOf(
			func(w impl.World) bool {
				return rises(len(w.Snaps), func(i int) bool { return w.Snaps[i-1].Id < w.Snaps[i].Id })
			},
			eachSnap(func(w impl.World, s impl.Snap) bool { return s.Id >= 1 && s.Id <= w.Next-1 }))},
		{"times", bothOf(
			func(w impl.World) bool {
				return rises(len(w.Snaps), func(i int) bool { return w.Snaps[i-1].Time < w.Snaps[i].Time })
			},
			eachSnap(func(w impl.World, s impl.Snap) bool { return s.Time >= 1 && s.Time <= w.Time-1 }))},
		{"names", bothOf(
			eachSet(func(w impl.World, s impl.Set) bool { return impl.NameRight(s.Name) }),
			eachSnap(func(w impl.World, s impl.Snap) bool { return impl.NameRight(s.Name) }))},
		{"once", eachSnap(namedOnce)},
		{"whose", eachSnap(func(w impl.World, s impl.Snap) bool {
			return slices.ContainsFunc(w.Sets, func(x impl.Set) bool { return x.Name == s.Set })
		})},
		{"prev", bothOf(
			eachSet(func(w impl.World, s impl.Set) bool { return idRight(w, s.Prev) }),
			eachSnap(func(w impl.World, s impl.Snap) bool { return idRight(w, s.Prev) && s.Prev < s.Id }))},
		{"origin", eachSet(func(w impl.World, s impl.Set) bool { return idRight(w, s.Origin) })},
		{"trees", func(w impl.World) bool {
			return ofTrees(func(x treeIn) bool { return impl.TreeRight(w.Pool, x.root) })(w)
		}},
		{"dead", ofTrees(func(x treeIn) bool { return fmt.Sprint(without(x.dead, nil)) == fmt.Sprint(without(x.ahead, x.ptrs)) })},
		{"born", ofTrees(func(x treeIn) bool {
			return !slices.ContainsFunc(x.ptrs, func(p impl.Ptr) bool { return p.Birth > x.time })
		})},
		{"kept", ofTrees(func(x treeIn) bool {
			return !slices.ContainsFunc(x.ptrs, func(p impl.Ptr) bool { return slices.Contains(x.ahead, p) != (p.Birth <= x.since) })
		})},
		{"two", noneOfTwo},
		{"slots", justInTrees},
		{"line", eachSet(lineOf)},
	}
}

// broken are the clauses that do not hold of a world.
func broken(w impl.World) string {
	var out []string
	for _, q := range questions() {
		if !q.holds(w) {
			out = append(out, q.what)
		}
	}
	return strings.Join(out, " ")
}

// wrongWorld is a world, and the clauses that it breaks.
type wrongWorld struct {
	broken string
	world  impl.World
}

func changed(w impl.World, broken string, change func(w *impl.World)) wrongWorld {
	change(&w)
	return wrongWorld{broken, w}
}

func numbersWrong() map[string]wrongWorld {
	out := map[string]wrongWorld{
		"the zero World": {"time next", impl.World{}},
	}
	for _, n := range []int64{0, -1, lastCount + 1, math.MinInt64, math.MaxInt64} {
		out[fmt.Sprint("the Time ", n)] = changed(impl.WorldNew(3), "time", func(w *impl.World) { w.Time = n })
		out[fmt.Sprint("the Next ", n)] = changed(impl.WorldNew(3), "next", func(w *impl.World) { w.Next = n })
	}
	for what, p := range wrongPools() {
		w := impl.WorldNew(0)
		w.Pool = p
		if strings.Contains(broken(w), "pool") {
			out["the pool: "+what] = wrongWorld{broken(w), w}
		}
	}
	return out
}

func setsWrong() map[string]wrongWorld {
	out := map[string]wrongWorld{
		"too many sets":           {"sets", emptyOnes([]string{"a", "b", "c", "d", "e", "f", "g", "h", "i"})},
		"far too many sets":       {"sets names", impl.World{Time: 1, Next: 1, Sets: make([]impl.Set, 5000)}},
		"sets that fall":          {"sets", impl.World{Time: 1, Next: 1, Sets: []impl.Set{{Name: "b"}, {Name: "a"}}}},
		"sets that fall, later":   {"sets", impl.World{Time: 1, Next: 1, Sets: []impl.Set{{Name: "a"}, {Name: "c"}, {Name: "b"}}}},
		"the shorter one behind":  {"sets", impl.World{Time: 1, Next: 1, Sets: []impl.Set{{Name: "aa"}, {Name: "a"}}}},
		"two sets of one name":    {"sets", emptyOnes([]string{"a", "a"})},
		"two of one name, later":  {"sets", emptyOnes([]string{"a", "b", "b", "c"})},
		"an Origin without a way": changed(emptyOnes([]string{"a", "b"}, "a"), "line", func(w *impl.World) { w.Sets[1].Origin = 1 }),
		"a way without an Origin": changed(family(), "line", func(w *impl.World) { w.Sets[1].Origin = 0 }),
		"another one's Origin":    changed(family(), "line", func(w *impl.World) { w.Sets[1].Origin = 2 }),
		"its own is the Origin":   changed(emptyOnes([]string{"a"}, "a"), "line", func(w *impl.World) { w.Sets[0].Origin = 1 }),
		"its last is the Origin":  changed(emptyOnes([]string{"a"}, "a", "a"), "line", func(w *impl.World) { w.Sets[0].Origin = 1 }),
		"an Origin that is not":   changed(emptyOnes([]string{"a"}), "origin line", func(w *impl.World) { w.Sets[0].Origin = 4 }),
		"an Origin below 0":       changed(emptyOnes([]string{"a"}), "origin line", func(w *impl.World) { w.Sets[0].Origin = -1 }),
		"a set's Prev is not":     changed(emptyOnes([]string{"a"}), "prev", func(w *impl.World) { w.Sets[0].Prev = 1 }),
		"a Prev below 0":          changed(emptyOnes([]string{"a"}), "prev", func(w *impl.World) { w.Sets[0].Prev = -1 }),
		"both are not":            changed(emptyOnes([]string{"a"}), "prev origin line", func(w *impl.World) { w.Sets[0].Prev, w.Sets[0].Origin = 7, 7 }),
		"a far Prev":              changed(emptyOnes([]string{"a"}, "a"), "prev line", func(w *impl.World) { w.Sets[0].Prev = math.MaxInt64 }),
	}
	for _, name := range []string{"", "A", "_a", "1", "a b", "abcdefghijklmnopqrstu", strings.Repeat("a", impl.MaxBytes+1)} {
		out[fmt.Sprintf("a set of the name %.30q", name)] = wrongWorld{"names", emptyOnes([]string{name})}
	}
	return out
}

func snapsWrong() map[string]wrongWorld {
	two := func() impl.World { return emptyOnes([]string{"a", "b"}, "a", "b") }
	out := map[string]wrongWorld{
		"too many snapshots":     {"snaps", emptyOnes([]string{"a", "b"}, strings.Split(strings.Repeat("abb", 7), "")...)},
		"far too many snapshots": {"snaps ids times names once whose prev", impl.World{Time: 1, Next: 1, Snaps: make([]impl.Snap, 1000)}},
		"Ids that fall":          changed(two(), "ids", func(w *impl.World) { w.Snaps[0].Id, w.Snaps[1].Id, w.Sets[0].Prev, w.Sets[1].Prev = 2, 1, 2, 1 }),
		"two of one Id":          changed(two(), "ids line", func(w *impl.World) { w.Snaps[1].Id, w.Sets[1].Prev = 1, 1 }),
		"the Id 0":               changed(emptyOnes([]string{"a"}, "a"), "ids prev line", func(w *impl.World) { w.Snaps[0].Id, w.Sets[0].Prev = 0, 0 }),
		"an Id below 0":          changed(emptyOnes([]string{"a"}, "a"), "ids prev", func(w *impl.World) { w.Snaps[0].Id, w.Sets[0].Prev = -1, -1 }),
		"an Id that is Next":     changed(two(), "ids", func(w *impl.World) { w.Next = 2 }),
		"an Id behind Next":      changed(two(), "ids", func(w *impl.World) { w.Next = 1 }),
		"Times that fall":        changed(two(), "times", func(w *impl.World) { w.Snaps[0].Time, w.Snaps[1].Time = 2, 1 }),
		"two of one Time":        changed(two(), "times", func(w *impl.World) { w.Snaps[1].Time = 1 }),
		"the Time 0 of one":      changed(two(), "times", func(w *impl.World) { w.Snaps[0].Time = 0 }),
		"one as late as all":     changed(two(), "times", func(w *impl.World) { w.Time = 2 }),
		"one later than all":     changed(two(), "times", func(w *impl.World) { w.Snaps[1].Time = 9 }),
		"one name twice":         changed(emptyOnes([]string{"a"}, "a", "a"), "once", func(w *impl.World) { w.Snaps[1].Name = "s0" }),
		"one name twice, apart":  changed(emptyOnes([]string{"a", "b"}, "a", "b", "a"), "once", func(w *impl.World) { w.Snaps[2].Name = "s0" }),
		"of a set that is not":   changed(two(), "whose", func(w *impl.World) { w.Snaps[1].Set, w.Sets[1].Origin = "c", 2 }),
		"of no set":              changed(two(), "whose", func(w *impl.World) { w.Snaps[1].Set, w.Sets[1].Origin = "", 2 }),
		"its Prev is not":        changed(two(), "prev origin line", func(w *impl.World) { w.Snaps[1].Prev, w.Sets[1].Origin = -7, -7 }),
		"its Prev is not ahead":  changed(emptyOnes([]string{"a"}, "a", "a"), "prev", func(w *impl.World) { w.Sets[0].Prev, w.Snaps[0].Prev, w.Snaps[1].Prev = 1, 2, 0 }),
		"its Prev is itself":     changed(emptyOnes([]string{"a"}, "a"), "prev line", func(w *impl.World) { w.Snaps[0].Prev = 1 }),
		"one behind the other":   changed(emptyOnes([]string{"a"}, "a", "a"), "prev line", func(w *impl.World) { w.Snaps[0].Prev = 2 }),
		"one that is not met":    changed(emptyOnes([]string{"a"}, "a"), "line", func(w *impl.World) { w.Sets[0].Prev = 0 }),
		"the last is not met":    changed(emptyOnes([]string{"a"}, "a", "a"), "line", func(w *impl.World) { w.Snaps[1].Prev = 0 }),
		"the first is not met":   changed(emptyOnes([]string{"a"}, "a", "a"), "line", func(w *impl.World) { w.Sets[0].Prev = 1 }),
		"another one in between": changed(emptyOnes([]string{"a", "b"}, "a", "b", "a"), "line", func(w *impl.World) { w.Snaps[1].Prev, w.Snaps[2].Prev, w.Sets[0].Origin, w.Sets[1].Origin = 1, 2, 2, 1 }),
		"another one ahead":      changed(two(), "line", func(w *impl.World) { w.Snaps[1].Prev = 1 }),
		"another one's":          changed(two(), "line", func(w *impl.World) { w.Sets[0].Prev, w.Sets[1].Prev = 2, 1 }),
	}
	for _, name := range []string{"", "X", "0", "a.", "abcdefghijklmnopqrstu", strings.Repeat("a", impl.MaxBytes+1)} {
		out[fmt.Sprintf("a snapshot of the name %.30q", name)] = changed(two(), "names", func(w *impl.World) { w.Snaps[1].Name = name })
	}
	return out
}

func deadWrong() map[string]wrongWorld {
	out := map[string]wrongWorld{}
	change := func(what string, of impl.World, change func(s *impl.Set)) {
		out[what] = changed(of, "dead", func(w *impl.World) { change(&w.Sets[0]) })
	}
	x := at(0, 1)
	change("Dead without one ahead", small(), func(s *impl.Set) { s.Dead = []impl.Ptr{x} })
	change("Dead of what was never there", impl.World{Time: 1, Next: 1, Sets: []impl.Set{{Name: "a"}}}, func(s *impl.Set) { s.Dead = []impl.Ptr{x} })
	change("no Dead", family(), func(s *impl.Set) { s.Dead = nil })
	change("the first one lacks", family(), func(s *impl.Set) { s.Dead = s.Dead[1:] })
	change("the last one lacks", family(), func(s *impl.Set) { s.Dead = s.Dead[:len(s.Dead)-1] })
	change("one twice", family(), func(s *impl.Set) { s.Dead = append(s.Dead, s.Dead[0]) })
	change("one in the place of another", family(), func(s *impl.Set) { s.Dead[1] = s.Dead[0] })
	change("another birth", family(), func(s *impl.Set) { s.Dead[0].Birth++ })
	change("none", family(), func(s *impl.Set) { s.Dead = append(s.Dead, impl.Ptr{}) })
	change("one of its own", family(), func(s *impl.Set) { s.Dead = append(s.Dead, s.Root) })
	change("one of another set", family(), func(s *impl.Set) { s.Dead = append(s.Dead, family().Sets[1].Root) })
	change("no slot's", family(), func(s *impl.Set) { s.Dead = append(s.Dead, at(-1, 1)) })
	change("far too many", family(), func(s *impl.Set) { s.Dead = append(s.Dead, make([]impl.Ptr, 5000)...) })
	out["a snapshot's Dead"] = changed(family(), "dead", func(w *impl.World) { w.Snaps[1].Dead = nil })
	out["the first snapshot's Dead"] = changed(family(), "dead", func(w *impl.World) { w.Snaps[0].Dead = []impl.Ptr{x} })
	return out
}

// dropped has the snapshot 1 of one page, and its set without it, at the time 2.
func dropped() impl.World {
	m := &maker{w: small()}
	m.snap("a", "x")
	m.trim("a", 0)
	return m.w
}

func treesWrong() map[string]wrongWorld {
	lent := func(w *impl.World) { w.Sets = append(w.Sets, impl.Set{Name: "b", Root: w.Sets[0].Root}) }
	out := map[string]wrongWorld{
		"a root that is a page":    changed(small(), "trees slots", func(w *impl.World) { w.Sets[0].Root = at(0, 1) }),
		"another birth of a root":  changed(small(), "trees slots", func(w *impl.World) { w.Sets[0].Root.Birth = 2 }),
		"a root that is free":      changed(small(), "trees slots", func(w *impl.World) { w.Sets[0].Root = at(5, 1) }),
		"a root of no slot":        changed(emptyOnes([]string{"a"}), "trees", func(w *impl.World) { w.Sets[0].Root = at(5, 1) }),
		"a snapshot's root":        changed(emptyOnes([]string{"a"}, "a"), "trees", func(w *impl.World) { w.Snaps[0].Root = at(0, 1) }),
		"a tree that is held":      changed(small(), "trees", func(w *impl.World) { w.Pool.Held = []int64{0, 1, 2} }),
		"a page that is held":      changed(small(), "trees slots", func(w *impl.World) { w.Pool.Held = []int64{0} }),
		"born behind the Time":     changed(small(), "born", func(w *impl.World) { w.Pool, w.Sets[0].Root = later(w.Pool), at(2, 2) }),
		"a snapshot, born late":    changed(dropped(), "born", func(w *impl.World) { bornLate(w) }),
		"old, but not of P":        changed(small(), "kept", func(w *impl.World) { behindNothing(w) }),
		"in the trees of two sets": changed(small(), "two", lent),
		"a slot too many":          changed(small(), "slots", func(w *impl.World) { w.Sets = nil }),
		"a slot of no set":         changed(impl.WorldNew(3), "slots", func(w *impl.World) { w.Pool.Slots[2] = pageOf(1, pageA) }),
		"a node of no set":         changed(small(), "slots", func(w *impl.World) { w.Pool.Slots[5] = nodeOf(1, at(0, 1)) }),
		"a held one too few":       changed(family(), "slots", func(w *impl.World) { w.Pool.Held = w.Pool.Held[1:] }),
	}
	three := makerOf(40)
	three.add(impl.Set{Name: "a"})
	three.write("a", 1, pageA)
	three.snap("a", "x")
	three.clone(1, "b")
	three.write("b", 1, pageB)
	out["two clones have what is new"] = changed(copyWorld(three.w), "two", func(w *impl.World) {
		w.Sets = append(w.Sets, w.Sets[1])
		w.Sets[2].Name = "c"
	})
	three.snap("b", "x")
	out["a set and another one's snapshot"] = changed(copyWorld(three.w), "two", func(w *impl.World) {
		w.Sets = append(w.Sets, impl.Set{Name: "c", Origin: 1, Prev: 1, Root: w.Snaps[1].Root, Dead: w.Snaps[1].Dead})
	})
	return out
}

// later is a pool whose slots are all born one later.
func later(p impl.Pool) impl.Pool {
	for i, s := range p.Slots {
		if s.Birth > 0 {
			p.Slots[i].Birth++
		}
		for k := range s.Kids {
			if s.Kids[k].Birth > 0 {
				s.Kids[k].Birth++
			}
		}
	}
	return p
}

// bornLate lets all of the snapshot be born one later than its Time.
func bornLate(w *impl.World) {
	w.Pool = later(w.Pool)
	w.Snaps[0].Root.Birth++
	for i := range w.Sets[0].Dead {
		w.Sets[0].Dead[i].Birth++
	}
}

// behindNothing lays a snapshot of nothing ahead of a set, as late as all that is in it was born.
func behindNothing(w *impl.World) {
	w.Snaps = []impl.Snap{{Id: 1, Name: "x", Set: "a", Time: 1}}
	w.Sets[0].Prev, w.Time, w.Next = 1, 2, 2
}

func wrongWorlds() map[string]wrongWorld {
	out := map[string]wrongWorld{}
	for _, part := range []map[string]wrongWorld{numbersWrong(), setsWrong(), snapsWrong(), deadWrong(), treesWrong()} {
		for what, x := range part {
			out[what] = x
		}
	}
	return out
}

func TestWorldRight(t *testing.T) {
	for what, w := range rightWorlds() {
		same(t, what+": no clause is broken", broken(w), "")
		was := copyWorld(w)
		if !impl.WorldRight(w) {
			t.Errorf("%s: is right", what)
		}
		same(t, what+": it stays", w, was)
	}
	for what, x := range wrongWorlds() {
		same(t, what+": the clauses that are broken", broken(x.world), x.broken)
		was := copyWorld(x.world)
		if impl.WorldRight(x.world) {
			t.Errorf("%s: is not right", what)
		}
		same(t, what+": it stays", x.world, was)
	}
}

// Each clause is broken alone by a wrong world; but an Origin that is no snapshot is none that Prev leads to, either.
func TestClausesBrokenAlone(t *testing.T) {
	alone := map[string]bool{}
	for _, x := range wrongWorlds() {
		alone[x.broken] = true
	}
	for _, q := range questions() {
		if !alone[q.what] && !alone[q.what+" line"] {
			t.Errorf("no wrong world breaks just %s", q.what)
		}
	}
}

func TestWorldNew(t *testing.T) {
	for _, n := range []int64{0, 1, 30, impl.MaxSlots} {
		w := impl.WorldNew(n)
		same(t, "new", w, impl.World{Pool: impl.PoolNew(n), Time: 1, Next: 1})
		same(t, "right", impl.WorldRight(w), true)
	}
	for _, n := range []int64{-1, impl.MaxSlots + 1, math.MinInt64, math.MaxInt64} {
		same(t, "of a wrong number", impl.WorldNew(n), impl.World{})
	}
}

func TestSnapOf(t *testing.T) {
	w := family()
	for i, s := range w.Snaps {
		same(t, fmt.Sprint("the snapshot ", i), impl.SnapOf(w, s.Id), s)
	}
	same(t, "what is in it", []any{impl.SnapOf(w, 2).Name, impl.SnapOf(w, 2).Set, len(impl.SnapOf(w, 2).Dead)}, []any{"y", "a", 3})
	for _, id := range []int64{0, -1, 4, math.MinInt64, math.MaxInt64} {
		same(t, fmt.Sprint("no snapshot ", id), impl.SnapOf(w, id), impl.Snap{})
	}
	far := rightWorlds()["Ids and Times with gaps"]
	same(t, "by its Id", []any{impl.SnapOf(far, 700).Time, impl.SnapOf(far, 1).Time}, []any{1, 0})
}

func TestSetOf(t *testing.T) {
	w := family()
	for _, s := range w.Sets {
		same(t, "the set "+s.Name, impl.SetOf(w, s.Name), s)
	}
	same(t, "what is in it", []any{impl.SetOf(w, "d").Origin, impl.SetOf(w, "d").Prev, len(impl.SetOf(w, "d").Dead)}, []any{3, 3, 3})
	for _, name := range []string{"", "e", "A", "aa", "x", "a ", strings.Repeat("a", impl.MaxBytes+1)} {
		same(t, fmt.Sprintf("no set %.30q", name), impl.SetOf(w, name), impl.Set{})
	}
}

func TestNextsOf(t *testing.T) {
	w := family()
	for id, want := range map[int64]int64{1: 2, 2: 1, 3: 2, 4: 0, 0: 0, -1: 0, math.MinInt64: 0, math.MaxInt64: 0} {
		same(t, fmt.Sprint("behind ", id), impl.NextsOf(w, id), want)
	}
	same(t, "sets alone", impl.NextsOf(rightWorlds()["four trees that are all shared"], 1), 4)
	same(t, "snapshots alone", impl.NextsOf(emptyOnes([]string{"a"}, "a", "a"), 1), 1)
	same(t, "of a new one", []int64{impl.NextsOf(impl.WorldNew(3), 0), impl.NextsOf(impl.WorldNew(3), 1)}, []int64{0, 0})
}

func TestWrongWorlds(t *testing.T) {
	for what, x := range wrongWorlds() {
		for _, s := range x.world.Snaps[:min(len(x.world.Snaps), 30)] {
			same(t, what+": a snapshot", impl.SnapOf(x.world, s.Id), impl.Snap{})
			same(t, what+": behind it", impl.NextsOf(x.world, s.Id), 0)
		}
		for _, s := range x.world.Sets[:min(len(x.world.Sets), 30)] {
			same(t, what+": a set", impl.SetOf(x.world, s.Name), impl.Set{})
			same(t, what+": behind what is ahead", impl.NextsOf(x.world, s.Prev), 0)
		}
		same(t, what+": none", []any{impl.SnapOf(x.world, 1), impl.SetOf(x.world, "a"), impl.NextsOf(x.world, 1)}, []any{impl.Snap{}, impl.Set{}, 0})
	}
}

func TestSetsAndSnapsAreNewMemory(t *testing.T) {
	for what, w := range rightWorlds() {
		was := copyWorld(w)
		for i, s := range w.Snaps {
			spoilPtrs(impl.SnapOf(w, s.Id).Dead)
			same(t, what+": the snapshot stays", w.Snaps[i], was.Snaps[i])
			got := impl.SnapOf(w, s.Id)
			spoilPtrs(w.Snaps[i].Dead)
			same(t, what+": the answer stays", got, was.Snaps[i])
			w = copyWorld(was)
		}
		for i, s := range w.Sets {
			spoilPtrs(impl.SetOf(w, s.Name).Dead)
			same(t, what+": the set stays", w.Sets[i], was.Sets[i])
			got := impl.SetOf(w, s.Name)
			spoilPtrs(w.Sets[i].Dead)
			same(t, what+": the answer stays", got, was.Sets[i])
			w = copyWorld(was)
		}
	}
}

// some does one thing at random.
func (m *maker) some() {
	name := string(rune('a' + m.pick(5)))
	at := slices.IndexFunc(m.w.Sets, func(s impl.Set) bool { return s.Name == name })
	snap := fmt.Sprint("s", m.pick(9))
	switch n := m.pick(12); {
	case at < 0 && n < 6 || len(m.w.Sets) == 0:
		if at < 0 {
			m.add(impl.Set{Name: name})
		}
	case at < 0 && len(m.w.Snaps) > 0:
		m.clone(m.w.Snaps[m.pick(len(m.w.Snaps))].Id, name)
	case at < 0:
	case n == 0:
		m.sync()
	case n < 3 && len(m.w.Snaps) < impl.MaxSnaps:
		if !slices.ContainsFunc(m.w.Snaps, func(s impl.Snap) bool { return s.Set == name && s.Name == snap }) {
			m.snap(name, snap)
		}
	case n < 6:
		m.trim(name, int64(m.pick(12)))
	default:
		m.write(name, int64(m.pick(12)), fmt.Sprintf("%016d", m.pick(1000)))
	}
}

// spoilWorld changes one thing of a world at random.
func (m *maker) spoilWorld(w *impl.World) {
	off := int64(m.pick(5) - 2)
	switch m.pick(10) {
	case 0:
		w.Time += off
	case 1:
		w.Next += off
	case 2:
		m.spoilSlot(w)
	case 3:
		i, k := m.pick(len(w.Sets)), m.pick(len(w.Sets))
		w.Sets[i], w.Sets[k] = w.Sets[k], w.Sets[i]
	case 4:
		i, k := m.pick(len(w.Sets)), m.pick(len(w.Sets))
		w.Sets[i].Dead = w.Sets[k].Dead
	case 5:
		i := m.pick(len(w.Sets))
		w.Sets = slices.Delete(w.Sets, i, i+1)
	case 6:
		m.spoilSet(w, &w.Sets[m.pick(len(w.Sets))], off)
	default:
		if len(w.Snaps) > 0 {
			m.spoilSnap(w, m.pick(len(w.Snaps)), off)
		}
	}
}

func (m *maker) spoilSlot(w *impl.World) {
	i := m.pick(len(w.Pool.Slots))
	switch m.pick(4) {
	case 0:
		w.Pool.Slots[i] = impl.Slot{}
	case 1:
		w.Pool.Slots[i] = pageOf(w.Time, pageA)
	case 2:
		w.Pool.Held = append(w.Pool.Held, int64(i))
	default:
		w.Pool.Held = w.Pool.Held[:m.pick(len(w.Pool.Held)+1)]
	}
}

func (m *maker) spoilSet(w *impl.World, s *impl.Set, off int64) {
	other := w.Sets[m.pick(len(w.Sets))]
	switch m.pick(6) {
	case 0:
		s.Prev += off
	case 1:
		s.Origin += off
	case 2:
		s.Prev, s.Origin = s.Prev+off, s.Origin+off
	case 3:
		s.Root = other.Root
	case 4:
		s.Root, s.Dead, s.Prev, s.Origin = other.Root, other.Dead, other.Prev, other.Origin
	default:
		s.Name = string(rune('a' + m.pick(6)))
	}
}

func (m *maker) spoilSnap(w *impl.World, i int, off int64) {
	s, other := &w.Snaps[i], w.Snaps[m.pick(len(w.Snaps))]
	switch m.pick(10) {
	case 0:
		s.Id += off
	case 1:
		s.Time += off
	case 2:
		s.Prev += off
	case 3:
		s.Name = other.Name
	case 4:
		s.Set = other.Set
	case 5:
		s.Root = other.Root
	case 6:
		s.Dead = other.Dead
	case 7:
		s.Root, s.Dead = other.Root, other.Dead
	case 8:
		s.Dead = append(s.Dead, impl.TreePtrs(w.Pool, other.Root)...)
	default:
		w.Snaps = slices.Delete(w.Snaps, i, i+1)
	}
}

// What the chapter says, clause by clause, and what is answered are one, whatever is changed.
func TestWorldRightAtRandom(t *testing.T) {
	many := map[bool]int{}
	for seed := range uint64(200) {
		m := makerOf(20 + int64(seed%100))
		m.seed = seed
		for range 10 + seed%50 {
			m.some()
		}
		same(t, "made", []any{impl.WorldRight(m.w), broken(m.w)}, []any{true, ""})
		for range 20 {
			w := copyWorld(m.w)
			m.spoilWorld(&w)
			right := impl.WorldRight(w)
			many[right]++
			same(t, "changed: "+broken(w), right, broken(w) == "")
		}
		if t.Failed() {
			t.Fatalf("of the seed %d", seed)
		}
	}
	if many[true] < 500 || many[false] < 500 {
		t.Errorf("too few of one kind: %v", many)
	}
}

// pagesOf are the pages of all sets and snapshots but one set.
func pagesOf(w impl.World, but string) string {
	var out []string
	tree := func(what string, root impl.Ptr) {
		for n := range int64(impl.MaxPages) {
			out = append(out, fmt.Sprintf("%s %d %q", what, n, impl.TreeRead(w.Pool, root, n)))
		}
	}
	for _, s := range w.Snaps {
		tree(fmt.Sprint(s.Id), s.Root)
	}
	for _, s := range w.Sets {
		if s.Name != but {
			tree(s.Name, s.Root)
		}
	}
	return strings.Join(out, "\n")
}

// othersOf are all sets but one, all snapshots, the Time and Next.
func othersOf(w impl.World, but string) impl.World {
	out := copyWorld(w)
	out.Pool = impl.Pool{}
	out.Sets = slices.DeleteFunc(out.Sets, func(s impl.Set) bool { return s.Name == but })
	return out
}

// Promise 4, as far as it hangs on what a right world is: with a page written into a set, or trimmed, by a tree's
// writing, it is right, and each other set and each snapshot has the pages that it had.
func TestPromise4(t *testing.T) {
	for seed := range uint64(40) {
		m := makerOf(impl.MaxSlots)
		m.seed = seed
		for range 30 {
			m.some()
		}
		for range 12 {
			name, page := m.w.Sets[m.pick(len(m.w.Sets))].Name, int64(m.pick(12))
			was := copyWorld(m.w)
			if done := m.pick(2) == 0 && m.trim(name, page) || m.write(name, page, pageA); !done {
				m.sync()
			}
			same(t, "right", impl.WorldRight(m.w), true)
			same(t, "others", othersOf(m.w, name), othersOf(was, name))
			same(t, "their pages", pagesOf(m.w, name) == pagesOf(was, name), true)
			if t.Failed() {
				t.Fatalf("of the seed %d", seed)
			}
		}
	}
}
