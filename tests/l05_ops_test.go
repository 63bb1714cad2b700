package tests

import (
	"fmt"
	"math"
	"reflect"
	"slices"
	"strings"
	"testing"

	"loop.example/g00381/impl"
)

var tooLong = strings.Repeat("a", impl.MaxBytes+1)
var longest = strings.Repeat("a", impl.MaxBytes)

// notRight is a world that is wrong in nothing but a page that no tree has; all that is in family() is there.
func notRight() impl.World {
	w := family()
	w.Pool = impl.PoolTake(w.Pool, pageOf(1, pageA)).Pool
	return w
}

// must does one thing behind the other, each of which is done.
func must(t *testing.T, w impl.World, deeds ...func(impl.World) impl.WorldOut) impl.World {
	t.Helper()
	for i, do := range deeds {
		out := do(w)
		if out.Code != impl.OK {
			t.Fatalf("deed %d: code %d", i, out.Code)
		}
		w = out.World
	}
	return w
}

func newSet(name string) func(impl.World) impl.WorldOut {
	return func(w impl.World) impl.WorldOut { return impl.SetNew(w, name) }
}

func write(name string, page int64, data string) func(impl.World) impl.WorldOut {
	return func(w impl.World) impl.WorldOut { return impl.SetWrite(w, name, page, data) }
}

func trim(name string, page int64) func(impl.World) impl.WorldOut {
	return func(w impl.World) impl.WorldOut { return impl.SetTrim(w, name, page) }
}

func snap(set string, name string) func(impl.World) impl.WorldOut {
	return func(w impl.World) impl.WorldOut { return impl.SnapNew(w, set, name) }
}

func drop(id int64) func(impl.World) impl.WorldOut {
	return func(w impl.World) impl.WorldOut { return impl.SnapDestroy(w, id) }
}

func clone(id int64, name string) func(impl.World) impl.WorldOut {
	return func(w impl.World) impl.WorldOut { return impl.CloneNew(w, id, name) }
}

func destroy(name string) func(impl.World) impl.WorldOut {
	return func(w impl.World) impl.WorldOut { return impl.SetDestroy(w, name) }
}

func back(name string) func(impl.World) impl.WorldOut {
	return func(w impl.World) impl.WorldOut { return impl.Rollback(w, name) }
}

func promote(name string) func(impl.World) impl.WorldOut {
	return func(w impl.World) impl.WorldOut { return impl.Promote(w, name) }
}

// story is told slot by slot: at the Time 1 the pages 0 (the slot 0) and 1 (the slot 3); the snapshot 1; the page 0
// anew (6 to 8); the snapshot 2; the pages 9 and 0 (9 to 14), so that a root, 11, lived for a moment only.
func story(t *testing.T) impl.World {
	t.Helper()
	return must(t, impl.WorldNew(30), newSet("a"), write("a", 0, pageA), write("a", 1, pageA), snap("a", "x"),
		write("a", 0, pageB), snap("a", "y"), write("a", 9, pageA), write("a", 0, pageA))
}

func TestStory(t *testing.T) {
	w := story(t)
	same(t, "held", w.Pool.Held, []int64{1, 2, 11})
	same(t, "counts", []int64{w.Time, w.Next, impl.PoolRoom(w.Pool)}, []int64{3, 3, 15})
	same(t, "the sets", w.Sets, []impl.Set{{Name: "a", Prev: 2, Root: at(14, 3), Dead: []impl.Ptr{at(8, 2), at(6, 2), at(7, 2)}}})
	same(t, "the snapshots", w.Snaps, []impl.Snap{
		{Id: 1, Name: "x", Set: "a", Time: 1, Root: at(5, 1)},
		{Id: 2, Name: "y", Set: "a", Prev: 1, Time: 2, Root: at(8, 2), Dead: []impl.Ptr{at(0, 1), at(4, 1), at(5, 1)}}})
	same(t, "no clause is broken", broken(w), "")
}

// given is what a call is given, by its name, with the code that it tells.
type given struct {
	what string
	code int64
	out  impl.WorldOut
}

func refusedFor(t *testing.T, all []given) {
	t.Helper()
	for _, g := range all {
		same(t, g.what, g.out, impl.WorldOut{Code: g.code})
	}
}

func eightSets() impl.World {
	return emptyOnes([]string{"a", "b", "c", "d", "e", "f", "g", "h"}, "a", "b")
}

func TestSetNew(t *testing.T) {
	w := impl.WorldNew(3)
	for i, name := range []string{"m", "z", "a", "aa", "a_", "a0", "n", "abcdefghijklmnopqrst"} {
		same(t, "how many ahead", len(w.Sets), i)
		out := impl.SetNew(w, name)
		want := copyWorld(w)
		want.Sets = append(want.Sets, impl.Set{Name: name})
		slices.SortFunc(want.Sets, func(a, b impl.Set) int { return strings.Compare(a.Name, b.Name) })
		same(t, "a set more: "+name, out, impl.WorldOut{World: want})
		w = out.World
	}
	same(t, "of nothing, among others", impl.SetNew(family(), "ab").World.Sets[1], impl.Set{Name: "ab"})
	refusedFor(t, []given{
		{"too long, of what is not right", impl.ErrSize, impl.SetNew(notRight(), tooLong)},
		{"the longest text", impl.ErrForm, impl.SetNew(small(), longest)},
		{"not right, and there", impl.ErrForm, impl.SetNew(notRight(), "a")},
		{"no name, and full", impl.ErrForm, impl.SetNew(eightSets(), "A")},
		{"the empty name", impl.ErrForm, impl.SetNew(small(), "")},
		{"21 bytes", impl.ErrForm, impl.SetNew(small(), "abcdefghijklmnopqrstu")},
		{"there, and full", impl.ErrThere, impl.SetNew(eightSets(), "h")},
		{"there", impl.ErrThere, impl.SetNew(small(), "a")},
		{"full", impl.ErrFull, impl.SetNew(eightSets(), "i")},
		{"the zero World", impl.ErrForm, impl.SetNew(impl.World{}, "a")},
	})
}

func TestSetWrite(t *testing.T) {
	w := story(t)
	out := impl.SetWrite(w, "a", 1, pageB)
	same(t, "held: what is born behind the snapshot", []any{out.Many, out.World.Pool.Held, out.Id, out.Code}, []any{2, []int64{1, 2, 11, 13, 14}, 0, 0})
	same(t, "dropped: the others, behind", out.World.Sets[0], impl.Set{Name: "a", Prev: 2, Root: at(17, 3), Dead: []impl.Ptr{at(8, 2), at(6, 2), at(7, 2), at(3, 1)}})
	same(t, "read", impl.TreeRead(out.World.Pool, at(17, 3), 1), pageB)
	same(t, "in the order in which they are old", impl.SetWrite(w, "a", 0, pageB).World.Pool.Held, []int64{1, 2, 11, 12, 13, 14})
	m := &maker{w: copyWorld(w)}
	m.write("a", 63, pageB)
	same(t, "a page that was none", impl.SetWrite(w, "a", 63, pageB), impl.WorldOut{World: m.w, Many: 1})
	first := impl.SetWrite(emptyOnes([]string{"a"}), "a", 0, pageA)
	same(t, "without slots", first, impl.WorldOut{Code: impl.ErrFull})
	for _, name := range []string{"a", "b", "c", "d"} {
		m := &maker{w: family()}
		many := len(m.w.Pool.Held)
		m.write(name, 0, pageA)
		same(t, "into "+name, impl.SetWrite(family(), name, 0, pageA), impl.WorldOut{World: m.w, Many: int64(len(m.w.Pool.Held) - many)})
	}
}

// tight has a page in each of two nodes, at the Time 1, and so many slots free.
func tight(t *testing.T, free int64) impl.World {
	w := must(t, impl.WorldNew(6+free), newSet("a"), write("a", 0, pageA), write("a", 9, pageA))
	same(t, "free", impl.PoolRoom(w.Pool), free)
	return w
}

func TestSetWriteRefused(t *testing.T) {
	refusedFor(t, []given{
		{"a name too long, of what is not right", impl.ErrSize, impl.SetWrite(notRight(), tooLong, 0, pageA)},
		{"data too long, of what is not right", impl.ErrSize, impl.SetWrite(notRight(), "a", 0, tooLong)},
		{"data too long, of no set", impl.ErrSize, impl.SetWrite(small(), "x", 0, tooLong)},
		{"not right", impl.ErrForm, impl.SetWrite(notRight(), "a", 0, pageA)},
		{"not right, and no such set", impl.ErrForm, impl.SetWrite(notRight(), "x", 0, pageA)},
		{"not right, and no such page", impl.ErrForm, impl.SetWrite(notRight(), "a", 64, pageA)},
		{"no such set, nor page, nor data", impl.ErrNone, impl.SetWrite(small(), "x", 64, "")},
		{"no such set, and the longest data", impl.ErrNone, impl.SetWrite(small(), "x", 0, longest)},
		{"no such set: what is no name", impl.ErrNone, impl.SetWrite(small(), "A", 0, pageA)},
		{"no such set: the empty text", impl.ErrNone, impl.SetWrite(small(), "", 0, pageA)},
		{"no such set: the longest text", impl.ErrNone, impl.SetWrite(small(), longest, 0, pageA)},
		{"a page below 0", impl.ErrRange, impl.SetWrite(small(), "a", -1, pageA)},
		{"the page 64", impl.ErrRange, impl.SetWrite(small(), "a", 64, pageA)},
		{"a far page", impl.ErrRange, impl.SetWrite(small(), "a", math.MaxInt64, pageA)},
		{"data too short", impl.ErrRange, impl.SetWrite(small(), "a", 0, pageA[1:])},
		{"data too long for a page", impl.ErrRange, impl.SetWrite(small(), "a", 0, pageA+"g")},
		{"the longest data", impl.ErrRange, impl.SetWrite(small(), "a", 0, longest)},
		{"no such page, and full", impl.ErrRange, impl.SetWrite(tight(t, 0), "a", 64, pageA)},
		{"no such data, and full", impl.ErrRange, impl.SetWrite(tight(t, 0), "a", 0, "")},
		{"full", impl.ErrFull, impl.SetWrite(tight(t, 0), "a", 0, pageA)},
		{"two are free", impl.ErrFull, impl.SetWrite(tight(t, 2), "a", 0, pageA)},
	})
	same(t, "three are free", impl.SetWrite(tight(t, 3), "a", 0, pageA).Many, 3)
}

func TestSetTrim(t *testing.T) {
	w := story(t)
	out := impl.SetTrim(w, "a", 1)
	same(t, "held", []any{out.Many, out.World.Pool.Held, out.Id, out.Code}, []any{2, []int64{1, 2, 11, 13, 14}, 0, 0})
	same(t, "dropped", out.World.Sets[0], impl.Set{Name: "a", Prev: 2, Root: at(16, 3), Dead: []impl.Ptr{at(8, 2), at(6, 2), at(7, 2), at(3, 1)}})
	out = impl.SetTrim(small(), "a", 0)
	same(t, "the last page", []any{out.Many, out.World.Pool.Held, out.World.Sets[0]}, []any{3, []int64{0, 1, 2}, impl.Set{Name: "a"}})
	for _, name := range []string{"a", "b", "d"} {
		m := &maker{w: family()}
		many := len(m.w.Pool.Held)
		m.trim(name, 0)
		same(t, "from "+name, impl.SetTrim(family(), name, 0), impl.WorldOut{World: m.w, Many: int64(len(m.w.Pool.Held) - many)})
	}
	refusedFor(t, []given{
		{"too long, of what is not right", impl.ErrSize, impl.SetTrim(notRight(), tooLong, 0)},
		{"not right, and no such set", impl.ErrForm, impl.SetTrim(notRight(), "x", 0)},
		{"not right, and no such page", impl.ErrForm, impl.SetTrim(notRight(), "a", 64)},
		{"no such set, nor page", impl.ErrNone, impl.SetTrim(small(), "x", 64)},
		{"no such set: the longest text", impl.ErrNone, impl.SetTrim(small(), longest, 0)},
		{"a page below 0", impl.ErrRange, impl.SetTrim(small(), "a", -1)},
		{"the page 64", impl.ErrRange, impl.SetTrim(small(), "a", 64)},
		{"no such page", impl.ErrNone, impl.SetTrim(small(), "a", 1)},
		{"no such page, and full", impl.ErrNone, impl.SetTrim(tight(t, 0), "a", 1)},
		{"of nothing", impl.ErrNone, impl.SetTrim(family(), "c", 0)},
		{"full", impl.ErrFull, impl.SetTrim(tight(t, 0), "a", 0)},
	})
	same(t, "one is free", impl.SetTrim(tight(t, 1), "a", 0).Many, 3)
	alone := must(t, impl.WorldNew(3), newSet("a"), write("a", 63, pageA))
	same(t, "none is free, none is needed", impl.SetTrim(alone, "a", 63).Many, 3)
}

func TestSnapNew(t *testing.T) {
	w := story(t)
	out := impl.SnapNew(w, "a", "z")
	want := copyWorld(w)
	want.Snaps = append(want.Snaps, impl.Snap{Id: 3, Name: "z", Set: "a", Prev: 2, Time: 3, Root: at(14, 3), Dead: want.Sets[0].Dead})
	want.Sets[0].Prev, want.Sets[0].Dead, want.Time, want.Next = 3, nil, 4, 4
	same(t, "a snapshot", out, impl.WorldOut{World: want, Id: 3})
	gaps := rightWorlds()["Ids and Times with gaps"]
	out = impl.SnapNew(gaps, "b", "s0")
	same(t, "one name in two sets, and with gaps", []any{out.Id, out.World.Snaps[1].Time, out.World.Time, out.World.Next}, []any{701, 50, 51, 702})
	same(t, "of nothing", impl.SnapNew(impl.SetNew(impl.WorldNew(0), "a").World, "a", "s").World.Snaps, []impl.Snap{{Id: 1, Name: "s", Set: "a", Time: 1}})
	cloned := impl.SnapNew(must(t, family(), clone(2, "e")), "e", "x")
	same(t, "of a clone that shares all", cloned.World.Snaps[3], impl.Snap{Id: 4, Name: "x", Set: "e", Prev: 2, Time: 4, Root: aheadOf(family(), 2).Root})
	same(t, "the clone", *(&maker{w: cloned.World}).set("e"), impl.Set{Name: "e", Origin: 2, Prev: 4, Root: aheadOf(family(), 2).Root})
}

func manySnaps(n int) impl.World {
	return emptyOnes([]string{"a", "b"}, strings.Split(strings.Repeat("ab", 10), "")[:n]...)
}

func counted(time int64, next int64) impl.World {
	w := small()
	w.Time, w.Next = time, next
	return w
}

func TestSnapNewRefused(t *testing.T) {
	refusedFor(t, []given{
		{"a set too long, of what is not right", impl.ErrSize, impl.SnapNew(notRight(), tooLong, "z")},
		{"a name too long, of what is not right", impl.ErrSize, impl.SnapNew(notRight(), "a", tooLong)},
		{"a name too long, of no set", impl.ErrSize, impl.SnapNew(small(), "x", tooLong)},
		{"not right, and no such set", impl.ErrForm, impl.SnapNew(notRight(), "y", "z")},
		{"not right, and there", impl.ErrForm, impl.SnapNew(notRight(), "a", "x")},
		{"no name, and no such set", impl.ErrForm, impl.SnapNew(small(), "x", "Z")},
		{"no name, and full", impl.ErrForm, impl.SnapNew(manySnaps(20), "a", "")},
		{"the longest name", impl.ErrForm, impl.SnapNew(small(), "a", longest)},
		{"no such set, and full", impl.ErrNone, impl.SnapNew(manySnaps(20), "x", "z")},
		{"no such set: what is no name", impl.ErrNone, impl.SnapNew(small(), "", "z")},
		{"no such set: the longest text", impl.ErrNone, impl.SnapNew(small(), longest, "z")},
		{"there, and full", impl.ErrThere, impl.SnapNew(manySnaps(20), "b", "s1")},
		{"there", impl.ErrThere, impl.SnapNew(story(t), "a", "x")},
		{"there, the last one", impl.ErrThere, impl.SnapNew(story(t), "a", "y")},
		{"as many as may be", impl.ErrFull, impl.SnapNew(manySnaps(20), "a", "z")},
		{"as many as may be, one name in two sets", impl.ErrFull, impl.SnapNew(manySnaps(20), "a", "s1")},
		{"the last Time", impl.ErrFull, impl.SnapNew(counted(lastCount, 1), "a", "z")},
		{"the last Next", impl.ErrFull, impl.SnapNew(counted(1, lastCount), "a", "z")},
	})
	same(t, "one less than may be", impl.SnapNew(manySnaps(19), "a", "z").Id, 20)
	out := impl.SnapNew(counted(lastCount-1, lastCount-1), "a", "z")
	same(t, "the last one", []any{out.Id, out.World.Time, out.World.Next, broken(out.World)}, []any{lastCount - 1, lastCount, lastCount, ""})
}

func TestSnapDestroy(t *testing.T) {
	w := story(t)
	out := impl.SnapDestroy(w, 2)
	want := copyWorld(w)
	want.Pool.Held = []int64{1, 2, 11, 8, 6, 7}
	want.Sets[0] = impl.Set{Name: "a", Prev: 1, Root: at(14, 3), Dead: []impl.Ptr{at(0, 1), at(4, 1), at(5, 1)}}
	want.Snaps = want.Snaps[:1]
	same(t, "the last snapshot: the set is next", out, impl.WorldOut{World: want, Many: 3})
	out = impl.SnapDestroy(w, 1)
	want = copyWorld(w)
	want.Pool.Held = []int64{1, 2, 11, 0, 4, 5}
	want.Snaps[1].Prev, want.Snaps[1].Dead, want.Snaps = 0, nil, want.Snaps[1:]
	same(t, "the first snapshot: a snapshot is next", out, impl.WorldOut{World: want, Many: 3})
	old := must(t, w, write("a", 1, pageB))
	same(t, "dropped since", old.Sets[0].Dead, []impl.Ptr{at(8, 2), at(6, 2), at(7, 2), at(3, 1)})
	out = impl.SnapDestroy(old, 2)
	same(t, "behind the snapshot's Dead the others", out.World.Sets[0].Dead, []impl.Ptr{at(0, 1), at(4, 1), at(5, 1), at(3, 1)})
	same(t, "held, in their order", []any{out.Many, out.World.Pool.Held}, []any{3, append(slices.Clone(old.Pool.Held), 8, 6, 7)})
	three := must(t, old, snap("a", "z"), write("a", 0, pageB), drop(2))
	same(t, "in the middle", []any{three.Snaps[1].Id, three.Snaps[1].Prev, three.Snaps[1].Dead, three.Sets[0].Prev},
		[]any{3, 1, []impl.Ptr{at(0, 1), at(4, 1), at(5, 1), at(3, 1)}, 3})
	empty := impl.SnapDestroy(emptyOnes([]string{"a"}, "a"), 1)
	same(t, "of nothing", empty, impl.WorldOut{World: impl.World{Time: 2, Next: 2, Sets: []impl.Set{{Name: "a"}}}})
	same(t, "next is one of a clone", impl.SnapDestroy(must(t, w, clone(2, "b"), snap("b", "z"), promote("b"), destroy("a")), 2).World.Snaps[1].Prev, 1)
	refusedFor(t, []given{
		{"not right, and not there", impl.ErrForm, impl.SnapDestroy(notRight(), 9)},
		{"not right, and has a clone", impl.ErrForm, impl.SnapDestroy(notRight(), 1)},
		{"0", impl.ErrNone, impl.SnapDestroy(w, 0)},
		{"below 0", impl.ErrNone, impl.SnapDestroy(w, -1)},
		{"not there yet", impl.ErrNone, impl.SnapDestroy(w, 3)},
		{"far", impl.ErrNone, impl.SnapDestroy(w, math.MaxInt64)},
		{"not there any more", impl.ErrNone, impl.SnapDestroy(must(t, w, drop(1)), 1)},
		{"two snapshots have it", impl.ErrState, impl.SnapDestroy(family(), 1)},
		{"two sets have it", impl.ErrState, impl.SnapDestroy(family(), 3)},
		{"a set and a snapshot have it", impl.ErrState, impl.SnapDestroy(must(t, w, clone(1, "b")), 1)},
	})
}

func TestCloneNew(t *testing.T) {
	w := story(t)
	out := impl.CloneNew(w, 1, "b")
	want := copyWorld(w)
	want.Sets = append(want.Sets, impl.Set{Name: "b", Origin: 1, Prev: 1, Root: at(5, 1)})
	same(t, "a clone", out, impl.WorldOut{World: want})
	same(t, "in its place", impl.CloneNew(family(), 3, "ab").World.Sets[1], impl.Set{Name: "ab", Origin: 3, Prev: 3, Root: aheadOf(family(), 3).Root})
	same(t, "of nothing", impl.CloneNew(manySnaps(4), 3, "c").World.Sets[2], impl.Set{Name: "c", Origin: 3, Prev: 3})
	same(t, "two of one", impl.NextsOf(must(t, w, clone(2, "b"), clone(2, "c")), 2), 3)
	refusedFor(t, []given{
		{"too long, of what is not right", impl.ErrSize, impl.CloneNew(notRight(), 1, tooLong)},
		{"not right, and not there", impl.ErrForm, impl.CloneNew(notRight(), 9, "e")},
		{"no name, and no such snapshot", impl.ErrForm, impl.CloneNew(w, 9, "B")},
		{"no name, and full", impl.ErrForm, impl.CloneNew(eightSets(), 1, "")},
		{"the longest name", impl.ErrForm, impl.CloneNew(w, 1, longest)},
		{"no such snapshot, there, and full", impl.ErrNone, impl.CloneNew(eightSets(), 3, "a")},
		{"0", impl.ErrNone, impl.CloneNew(w, 0, "b")},
		{"below 0", impl.ErrNone, impl.CloneNew(w, math.MinInt64, "b")},
		{"there, and full", impl.ErrThere, impl.CloneNew(eightSets(), 1, "a")},
		{"there", impl.ErrThere, impl.CloneNew(w, 1, "a")},
		{"full", impl.ErrFull, impl.CloneNew(eightSets(), 1, "i")},
	})
}

func TestSetDestroy(t *testing.T) {
	w := must(t, story(t), clone(1, "b"), write("b", 0, pageB))
	same(t, "the clone's tree", impl.TreePtrs(w.Pool, w.Sets[1].Root), []impl.Ptr{at(17, 3), at(16, 3), at(15, 3), at(3, 1)})
	out := impl.SetDestroy(w, "b")
	want := copyWorld(w)
	want.Sets, want.Pool.Held = want.Sets[:1], []int64{1, 2, 11, 17, 16, 15}
	same(t, "a clone: just its own", out, impl.WorldOut{World: want, Many: 3})
	out = impl.SetDestroy(tight(t, 2), "a")
	same(t, "all of it, as the tree is told", []any{out.Many, out.World.Pool.Held, out.World.Sets}, []any{5, []int64{2, 5, 1, 0, 4, 3}, []impl.Set{}})
	same(t, "of nothing", impl.SetDestroy(family(), "c").Many, 0)
	shared := rightWorlds()["four trees that are all shared"]
	same(t, "that has nothing alone", []any{impl.SetDestroy(shared, "c").Many, len(impl.SetDestroy(shared, "c").World.Sets)}, []any{0, 3})
	refusedFor(t, []given{
		{"too long, of what is not right", impl.ErrSize, impl.SetDestroy(notRight(), tooLong)},
		{"not right, and not there", impl.ErrForm, impl.SetDestroy(notRight(), "x")},
		{"not right, and has a snapshot", impl.ErrForm, impl.SetDestroy(notRight(), "a")},
		{"not there", impl.ErrNone, impl.SetDestroy(w, "c")},
		{"what is no name", impl.ErrNone, impl.SetDestroy(w, "")},
		{"the longest text", impl.ErrNone, impl.SetDestroy(w, longest)},
		{"has snapshots", impl.ErrState, impl.SetDestroy(w, "a")},
		{"has a snapshot", impl.ErrState, impl.SetDestroy(family(), "b")},
		{"has one, and nothing in it", impl.ErrState, impl.SetDestroy(manySnaps(1), "a")},
	})
}

func TestRollback(t *testing.T) {
	w := must(t, story(t), write("a", 1, pageB))
	same(t, "the tree", impl.TreePtrs(w.Pool, w.Sets[0].Root), []impl.Ptr{at(17, 3), at(16, 3), at(12, 3), at(15, 3), at(10, 3), at(9, 3)})
	out := impl.Rollback(w, "a")
	want := copyWorld(w)
	want.Sets[0], want.Pool.Held = impl.Set{Name: "a", Prev: 2, Root: at(8, 2)}, append(slices.Clone(w.Pool.Held), 17, 16, 12, 15, 10, 9)
	same(t, "to the last one", out, impl.WorldOut{World: want, Many: 6})
	again := impl.Rollback(out.World, "a")
	same(t, "again: all is as it is", again, impl.WorldOut{World: want})
	trimmed := must(t, w, trim("a", 0), trim("a", 1), trim("a", 9))
	same(t, "what is trimmed comes back", impl.TreeRead(impl.Rollback(trimmed, "a").World.Pool, at(8, 2), 0), pageB)
	same(t, "a clone, to its own", impl.Rollback(family(), "b").World.Sets[1], impl.Set{Name: "b", Origin: 1, Prev: 3, Root: aheadOf(family(), 3).Root})
	same(t, "to nothing", impl.Rollback(must(t, impl.WorldNew(9), newSet("a"), snap("a", "x"), write("a", 1, pageA)), "a").World.Sets[0], impl.Set{Name: "a", Prev: 1})
	refusedFor(t, []given{
		{"too long, of what is not right", impl.ErrSize, impl.Rollback(notRight(), tooLong)},
		{"not right", impl.ErrForm, impl.Rollback(notRight(), "a")},
		{"not right, and not there", impl.ErrForm, impl.Rollback(notRight(), "x")},
		{"not there", impl.ErrNone, impl.Rollback(w, "b")},
		{"what is no name", impl.ErrNone, impl.Rollback(w, "")},
		{"the longest text", impl.ErrNone, impl.Rollback(w, longest)},
		{"without a snapshot", impl.ErrNone, impl.Rollback(small(), "a")},
		{"a clone without its own", impl.ErrNone, impl.Rollback(family(), "d")},
		{"whose own went to a clone", impl.ErrNone, impl.Rollback(must(t, w, clone(2, "b"), promote("b")), "a")},
	})
}

// wholes tells of a world whose each snapshot is, and what each set's Prev and Origin are.
func wholes(w impl.World) string {
	var out []string
	for _, s := range w.Snaps {
		out = append(out, fmt.Sprint(s.Id, s.Set))
	}
	for _, s := range w.Sets {
		out = append(out, fmt.Sprint(s.Name, s.Prev, "/", s.Origin))
	}
	return strings.Join(out, " ")
}

func TestPromote(t *testing.T) {
	w := family()
	same(t, "ahead", wholes(w), "1a 2a 3b a2/0 b3/1 c0/0 d3/3")
	refused := impl.Promote(w, "b")
	same(t, "both have an x", refused, impl.WorldOut{Code: impl.ErrThere})
	out := impl.Promote(w, "d")
	same(t, "just what is of that set", []any{out.Id, out.Many, wholes(out.World)}, []any{3, 0, "1a 2a 3d a2/0 b3/3 c0/0 d3/1"})
	want := copyWorld(w)
	want.Snaps[2].Set, want.Sets[1].Origin, want.Sets[3].Origin = "d", 3, 1
	same(t, "nothing else", out, impl.WorldOut{World: want, Id: 3})
	w = must(t, w, drop(2), clone(3, "e"), snap("e", "k"))
	w.Snaps[1].Name = "n"
	same(t, "right", broken(w), "")
	out = impl.Promote(w, "b")
	same(t, "of the first one", []any{out.Id, wholes(out.World)}, []any{1, "1b 3b 4e a1/1 b3/0 c0/0 d3/3 e4/3"})
	out = impl.Promote(w, "e")
	same(t, "with its own", []any{out.Id, wholes(out.World)}, []any{3, "1a 3e 4e a1/0 b3/3 c0/0 d3/3 e4/1"})
	out = impl.Promote(out.World, "e")
	same(t, "and on", []any{out.Id, wholes(out.World)}, []any{1, "1e 3e 4e a1/1 b3/3 c0/0 d3/3 e4/0"})
	line := must(t, impl.WorldNew(9), newSet("a"), snap("a", "p"), snap("a", "q"), snap("a", "r"), clone(2, "b"), snap("b", "k"))
	out = impl.Promote(line, "b")
	same(t, "it and those ahead of it", []any{out.Id, wholes(out.World)}, []any{2, "1b 2b 3a 4b a3/2 b4/0"})
	same(t, "a name of those behind it", wholes(must(t, line, snap("b", "r"), promote("b"))), "1b 2b 3a 4b 5b a3/2 b5/0")
	refusedFor(t, []given{
		{"too long, of what is not right", impl.ErrSize, impl.Promote(notRight(), tooLong)},
		{"not right, and not there", impl.ErrForm, impl.Promote(notRight(), "x")},
		{"not right, and no clone", impl.ErrForm, impl.Promote(notRight(), "a")},
		{"not there", impl.ErrNone, impl.Promote(line, "x")},
		{"what is no name", impl.ErrNone, impl.Promote(line, "")},
		{"the longest text", impl.ErrNone, impl.Promote(line, longest)},
		{"no clone", impl.ErrState, impl.Promote(line, "a")},
		{"a clone no more", impl.ErrState, impl.Promote(must(t, line, promote("b")), "b")},
		{"the name of the Origin", impl.ErrThere, impl.Promote(must(t, line, snap("b", "q")), "b")},
		{"the name of one ahead of it", impl.ErrThere, impl.Promote(must(t, line, snap("b", "p"), snap("b", "l")), "b")},
	})
	far := must(t, line, clone(4, "c"), snap("c", "p"))
	same(t, "the name of one of another set", wholes(must(t, far, promote("c"))), "1a 2a 3a 4c 5c a3/0 b4/4 c5/2")
}

// doing is something that is done, with what it is given.
type doing struct {
	what string
	do   func(impl.World) impl.WorldOut
}

// doings are things to do, most of which can be done.
func doings(w impl.World) []doing {
	out := []doing{{"new", newSet("new")}}
	for _, s := range w.Sets {
		out = append(out, doing{"write " + s.Name, write(s.Name, 0, pageB)}, doing{"write far " + s.Name, write(s.Name, 63, pageB)},
			doing{"trim " + s.Name, trim(s.Name, 0)}, doing{"trim 9 " + s.Name, trim(s.Name, 9)}, doing{"snap " + s.Name, snap(s.Name, "new")},
			doing{"destroy " + s.Name, destroy(s.Name)}, doing{"back " + s.Name, back(s.Name)}, doing{"promote " + s.Name, promote(s.Name)})
	}
	for _, s := range w.Snaps {
		out = append(out, doing{fmt.Sprint("drop ", s.Id), drop(s.Id)}, doing{fmt.Sprint("clone ", s.Id), clone(s.Id, "new")})
	}
	return out
}

// span is where a list stands, with the room behind it.
type span struct {
	from uintptr
	to   uintptr
}

func spansOf(v reflect.Value) []span {
	var out []span
	switch v.Kind() {
	case reflect.Struct:
		for i := range v.NumField() {
			out = append(out, spansOf(v.Field(i))...)
		}
	case reflect.Slice:
		if v.Cap() > 0 {
			out = append(out, span{v.Pointer(), v.Pointer() + uintptr(v.Cap())*v.Type().Elem().Size()})
		}
		for i := range v.Len() {
			out = append(out, spansOf(v.Index(i))...)
		}
	}
	return out
}

// meets: do two of these lists share memory?
func meets(spans []span) bool {
	slices.SortFunc(spans, func(a, b span) int { return int(a.from) - int(b.from) })
	for i := 1; i < len(spans); i++ {
		if spans[i].from < spans[i-1].to {
			return true
		}
	}
	return false
}

// apartFrom: an answer shares nothing with what was handed in, and no two lists of it share anything.
func apartFrom(t *testing.T, what string, given any, answer any) {
	t.Helper()
	lists := spansOf(reflect.ValueOf(answer))
	if meets(slices.Clone(lists)) {
		t.Errorf("%s: two lists of the answer share memory", what)
	}
	for _, g := range spansOf(reflect.ValueOf(given)) {
		for _, l := range lists {
			if g.from < l.to && l.from < g.to {
				t.Errorf("%s: the answer shares memory with what was handed in", what)
				return
			}
		}
	}
}

// oneMemory has its lists with room behind them, and those that are alike as one.
func oneMemory(w impl.World) impl.World {
	w = copyWorld(w)
	kids := map[string][]impl.Ptr{}
	list := func(l []impl.Ptr) []impl.Ptr {
		key := fmt.Sprint(l)
		if kids[key] == nil {
			kids[key] = append(make([]impl.Ptr, 0, len(l)+9), l...)
		}
		return kids[key]
	}
	for i, s := range w.Pool.Slots {
		if len(s.Kids) > 0 {
			w.Pool.Slots[i].Kids = list(s.Kids)
		}
	}
	for i, s := range w.Sets {
		w.Sets[i].Dead = list(s.Dead)
	}
	for i, s := range w.Snaps {
		w.Snaps[i].Dead = list(s.Dead)
	}
	w.Pool.Slots = slices.Grow(w.Pool.Slots, 9)
	w.Pool.Held = slices.Grow(w.Pool.Held, 99)
	w.Sets, w.Snaps = slices.Grow(w.Sets, 9), slices.Grow(w.Snaps, 9)
	return w
}

func TestDoneToRightWorlds(t *testing.T) {
	done := 0
	for what, made := range rightWorlds() {
		w := oneMemory(made)
		for _, x := range doings(w) {
			was := copyWorld(w)
			out := x.do(w)
			same(t, what+": "+x.what+": what is handed in", w, was)
			apartFrom(t, what+": "+x.what, w, out)
			if out.Code != impl.OK {
				same(t, what+": "+x.what+": refused", out, impl.WorldOut{Code: out.Code})
				continue
			}
			done++
			same(t, what+": "+x.what+": no clause is broken", broken(out.World), "")
			same(t, what+": "+x.what+": the slots in trees, and what is held", held(w, out), leftOut(w, out.World))
		}
	}
	if done < 150 {
		t.Errorf("only %d were done", done)
	}
}

func TestDoneToWrongWorlds(t *testing.T) {
	for what, x := range wrongWorlds() {
		w := x.world
		w.Sets, w.Snaps = w.Sets[:min(len(w.Sets), 9)], w.Snaps[:min(len(w.Snaps), 21)]
		if broken(w) == "" {
			continue
		}
		all := append(doings(w), doing{"write", write("a", 0, pageA)}, doing{"trim", trim("a", 0)}, doing{"snap", snap("a", "new")},
			doing{"drop", drop(1)}, doing{"clone", clone(1, "new")}, doing{"destroy", destroy("a")}, doing{"back", back("a")}, doing{"promote", promote("b")})
		for _, y := range all {
			want := int64(impl.ErrForm)
			if strings.Contains(y.what, tooLong) {
				want = impl.ErrSize
			}
			same(t, what+": "+y.what[:min(len(y.what), 40)], y.do(w), impl.WorldOut{Code: want})
		}
	}
}

// treesOf are the slots of each tree: of sets by their names, of snapshots by their Ids.
func treesOf(w impl.World) map[string][]int64 {
	out := map[string][]int64{}
	tree := func(key string, root impl.Ptr) {
		for _, x := range impl.TreePtrs(w.Pool, root) {
			out[key] = append(out[key], x.Slot)
		}
	}
	for _, s := range w.Sets {
		tree(s.Name, s.Root)
	}
	for _, s := range w.Snaps {
		tree(fmt.Sprint(s.Id), s.Root)
	}
	return out
}

// inTrees are the slots that are in some tree but that of one.
func inTrees(w impl.World, but string) []int64 {
	var out []int64
	for key, slots := range treesOf(w) {
		if key != but {
			out = append(out, slots...)
		}
	}
	slices.Sort(out)
	return slices.Compact(out)
}

func minus(a []int64, b []int64) []int64 {
	out := slices.DeleteFunc(slices.Clone(a), func(x int64) bool { return slices.Contains(b, x) })
	slices.Sort(out)
	return out
}

// aloneIn are the slots that are in that tree, and in no other one.
func aloneIn(w impl.World, key string) []int64 {
	return minus(treesOf(w)[key], inTrees(w, key))
}

// held are the slots that were held by it, rising; none, if they are not as many as told, or not behind the others.
func held(was impl.World, out impl.WorldOut) []int64 {
	n := len(was.Pool.Held)
	all := out.World.Pool.Held
	if len(all) < n || !slices.Equal(all[:n], was.Pool.Held) || int64(len(all)-n) != out.Many {
		return []int64{-1}
	}
	rest := slices.Clone(all[n:])
	slices.Sort(rest)
	return rest
}

// leftOut are the slots that were in some tree, and are so no more.
func leftOut(was impl.World, w impl.World) []int64 {
	return minus(inTrees(was, ""), inTrees(w, ""))
}

// pagesIn are the pages of each set and snapshot.
func pagesIn(w impl.World) map[string][]string {
	out := map[string][]string{}
	tree := func(key string, root impl.Ptr) {
		for n := range int64(impl.MaxPages) {
			out[key] = append(out[key], impl.TreeRead(w.Pool, root, n))
		}
	}
	for _, s := range w.Sets {
		tree(s.Name, s.Root)
	}
	for _, s := range w.Snaps {
		tree(fmt.Sprint(s.Id), s.Root)
	}
	return out
}
