package tests

import (
	"fmt"
	"math"
	"slices"
	"strings"
	"testing"

	"loop.example/g00381/impl"
)

// space is what is told of all snapshots of a world: how many slots each has alone, and how many were written for it.
func space(w impl.World) string {
	var out []string
	for _, s := range w.Snaps {
		out = append(out, fmt.Sprint(s.Id, ":", impl.Alone(w, s.Id), "/", impl.Written(w, s.Id)))
	}
	return strings.Join(out, " ")
}

// fullSet has a page in each place of the set a, and no slot that is held.
func fullSet(t *testing.T) impl.World {
	t.Helper()
	w := must(t, impl.WorldNew(impl.MaxSlots), newSet("a"))
	for n := range int64(impl.MaxPages) {
		w = synced(must(t, w, write("a", n, pageA)))
	}
	return w
}

// moved has the snapshots 1 and 2 of a, with the page of slot 0 in the places 0 and 1 of one node, and the snapshots 3
// and 4 of b, with the node of slot 6 in the places 0 and 7 of the root: no slot was written for these pages anew.
func moved() impl.World {
	far := nodeOf(4)
	far.Kids[7] = at(6, 3)
	pool := poolOf(nil,
		pageOf(1, pageA), nodeOf(1, at(0, 1)), nodeOf(1, at(1, 1)),
		nodeOf(2, impl.Ptr{}, at(0, 1)), nodeOf(2, at(3, 2)),
		pageOf(3, pageA), nodeOf(3, at(5, 3)), nodeOf(3, at(6, 3)), far)
	return impl.World{Pool: pool, Time: 5, Next: 5,
		Sets: []impl.Set{{Name: "a", Prev: 2, Root: at(4, 2)}, {Name: "b", Prev: 4, Root: at(8, 4)}},
		Snaps: []impl.Snap{
			{Id: 1, Name: "x", Set: "a", Time: 1, Root: at(2, 1)},
			{Id: 2, Name: "y", Set: "a", Prev: 1, Time: 2, Root: at(4, 2), Dead: []impl.Ptr{at(1, 1), at(2, 1)}},
			{Id: 3, Name: "x", Set: "b", Time: 3, Root: at(7, 3)},
			{Id: 4, Name: "y", Set: "b", Prev: 3, Time: 4, Root: at(8, 4), Dead: []impl.Ptr{at(7, 3)}}}}
}

func noSets() []string {
	return []string{"", "e", "A", "aa", "a ", "x", "1", longest, tooLong}
}

func noIds() []int64 {
	return []int64{0, -1, 4, 9, 700, math.MinInt64, math.MaxInt64}
}

func TestUsed(t *testing.T) {
	w := family()
	for name, want := range map[string]int64{"a": 3, "b": 6, "c": 0, "d": 7} {
		same(t, "the set "+name, impl.Used(w, name), want)
	}
	for _, name := range noSets() {
		same(t, fmt.Sprintf("no set %.30q", name), impl.Used(w, name), 0)
	}
	full := fullSet(t)
	same(t, "all pages", []int64{impl.Used(full, "a"), impl.PoolRoom(full.Pool)}, []int64{73, impl.MaxSlots - 73})
	same(t, "with a snapshot", impl.Used(must(t, full, snap("a", "x")), "a"), 73)
	same(t, "held slots are not in it", []any{impl.Used(story(t), "a"), len(story(t).Pool.Held)}, []any{6, 3})
	same(t, "trimmed", impl.Used(must(t, small(), trim("a", 0)), "a"), 0)
	same(t, "of a clone", impl.Used(must(t, w, clone(3, "e")), "e"), 6)
}

func TestAlone(t *testing.T) {
	same(t, "a family", space(family()), "1:2/5 2:1/3 3:2/3")
	same(t, "a story", space(story(t)), "1:3/4 2:3/3")
	w := must(t, small(), snap("a", "x"))
	same(t, "the set has it all", impl.Alone(w, 1), 0)
	w = must(t, w, snap("a", "y"))
	same(t, "two of one Root", []int64{impl.Alone(w, 1), impl.Alone(w, 2)}, []int64{0, 0})
	w = must(t, w, write("a", 0, pageB))
	same(t, "two of one Root, without the set", []int64{impl.Alone(w, 1), impl.Alone(w, 2)}, []int64{0, 0})
	same(t, "one of two is left", []int64{impl.Alone(must(t, w, drop(1)), 2), impl.Alone(must(t, w, drop(2)), 1)}, []int64{3, 3})
	w = must(t, w, drop(2))
	same(t, "a clone has it all", impl.Alone(must(t, w, clone(1, "b")), 1), 0)
	same(t, "a clone that is promoted", impl.Alone(must(t, w, clone(1, "b"), promote("b")), 1), 0)
	same(t, "a clone that was written", impl.Alone(must(t, w, clone(1, "b"), write("b", 9, pageB)), 1), 1)
	same(t, "rolled back", impl.Alone(must(t, w, back("a")), 1), 0)
	same(t, "of nothing", space(emptyOnes([]string{"a", "b"}, "a", "b", "a")), "1:0/0 2:0/0 3:0/0")
	for _, id := range noIds() {
		same(t, fmt.Sprint("no snapshot ", id), impl.Alone(family(), id), 0)
	}
}

func TestWritten(t *testing.T) {
	w := must(t, small(), snap("a", "x"), snap("a", "y"))
	same(t, "all, without one ahead", impl.Written(w, 1), 3)
	same(t, "nothing since", impl.Written(w, 2), 0)
	w = must(t, w, write("a", 1, pageB), clone(1, "b"), snap("b", "s"), snap("a", "z"))
	same(t, "of a clone, and behind it", space(w), "1:0/3 2:0/0 3:0/0 4:0/3")
	same(t, "what is ahead goes", space(must(t, w, drop(2))), "1:0/3 3:0/0 4:0/3")
	same(t, "the first goes", space(must(t, w, destroyAll("b", 3), drop(1))), "2:2/3 4:0/3")
	same(t, "one behind all", space(must(t, w, destroyAll("b", 3), drop(1), drop(2))), "4:0/4")
	same(t, "promoted", space(must(t, w, promote("b"))), "1:0/3 2:0/0 3:0/0 4:0/3")
	w = must(t, small(), snap("a", "x"), trim("a", 0), snap("a", "y"), write("a", 0, pageA), snap("a", "z"))
	same(t, "nothing, and all anew", space(w), "1:3/3 2:0/0 3:0/3")
	same(t, "of pages that moved", space(moved()), "1:2/3 2:0/2 3:1/3 4:0/1")
	for _, id := range noIds() {
		same(t, fmt.Sprint("no snapshot ", id), impl.Written(family(), id), 0)
	}
}

// destroyAll destroys a set with its one snapshot.
func destroyAll(name string, id int64) func(impl.World) impl.WorldOut {
	return func(w impl.World) impl.WorldOut { return impl.SetDestroy(impl.SnapDestroy(w, id).World, name) }
}

func TestPages(t *testing.T) {
	w := family()
	for name, want := range map[string][]int64{"a": {0}, "b": {0, 3, 9}, "c": nil, "d": {0, 9, 63}} {
		same(t, "the set "+name, impl.Pages(w, name), want)
	}
	for _, name := range noSets() {
		same(t, fmt.Sprintf("no set %.30q", name), impl.Pages(w, name), []int64{})
	}
	var all []int64
	for n := range int64(impl.MaxPages) {
		all = append(all, n)
		one := must(t, impl.WorldNew(3), newSet("a"), write("a", n, pageA))
		same(t, "one page", impl.Pages(one, "a"), []int64{n})
	}
	full := fullSet(t)
	same(t, "all pages", impl.Pages(full, "a"), all)
	same(t, "but one", impl.Pages(must(t, full, trim("a", 17)), "a"), slices.Delete(slices.Clone(all), 17, 18))
	same(t, "rising, whatever came first", impl.Pages(must(t, impl.WorldNew(30), newSet("a"), write("a", 63, pageA), write("a", 8, pageA), write("a", 7, pageA), write("a", 0, pageA)), "a"), []int64{0, 7, 8, 63})
	same(t, "of bytes 0", impl.Pages(must(t, impl.WorldNew(9), newSet("a"), write("a", 5, blank)), "a"), []int64{5})
	same(t, "trimmed", impl.Pages(must(t, small(), trim("a", 0)), "a"), []int64{})
	same(t, "of pages that moved", []any{impl.Pages(moved(), "a"), impl.Pages(moved(), "b")}, []any{[]int64{1}, []int64{56}})
}

// bothWays holds what has changed between two snapshots against what is wanted, from each of them.
func bothWays(t *testing.T, what string, w impl.World, a int64, b int64, want ...int64) {
	t.Helper()
	same(t, what, impl.Changed(w, a, b), want)
	same(t, what+", the other way", impl.Changed(w, b, a), want)
}

func TestChanged(t *testing.T) {
	w := family()
	bothWays(t, "of one set", w, 1, 2, 0)
	bothWays(t, "of a clone", w, 1, 3, 3)
	bothWays(t, "of two sets", w, 2, 3, 0, 3)
	for id := range int64(3) {
		bothWays(t, "itself", w, id+1, id+1)
		for _, none := range noIds() {
			bothWays(t, fmt.Sprint("no snapshot ", none), w, id+1, none)
			bothWays(t, "neither", w, none, none)
		}
	}
	w = must(t, impl.WorldNew(60), newSet("a"), snap("a", "none"), write("a", 0, pageA), write("a", 63, pageA), snap("a", "two"))
	bothWays(t, "put where there was nothing", w, 1, 2, 0, 63)
	bothWays(t, "nothing since", must(t, w, snap("a", "still")), 2, 3)
	bothWays(t, "the same text, put anew", must(t, w, write("a", 63, pageA), snap("a", "anew")), 2, 3, 63)
	bothWays(t, "gone, and put anew", must(t, w, trim("a", 0), write("a", 0, pageA), snap("a", "anew")), 2, 3, 0)
	bothWays(t, "gone", must(t, w, trim("a", 0), snap("a", "one")), 2, 3, 0)
	bothWays(t, "written, and rolled back", must(t, w, write("a", 63, pageB), back("a"), snap("a", "same")), 2, 3)
	bothWays(t, "beside pages that stay", must(t, w, write("a", 1, pageB), snap("a", "more")), 2, 3, 1)
	bothWays(t, "bytes 0, where there was nothing", must(t, w, write("a", 9, blank), snap("a", "blank")), 2, 3, 9)
	bothWays(t, "two sets with the same texts", must(t, w, newSet("b"), write("b", 0, pageA), write("b", 63, pageA), snap("b", "two")), 2, 3, 0, 63)
	bothWays(t, "over one that is between", must(t, w, write("a", 7, pageA), snap("a", "s"), trim("a", 7), write("a", 8, pageA), snap("a", "t")), 2, 4, 8)
	full := must(t, fullSet(t), snap("a", "x"), newSet("b"), snap("b", "x"))
	same(t, "all pages", impl.Changed(full, 1, 2), impl.Pages(full, "a"))
	same(t, "that moved: right", broken(moved()), "")
	bothWays(t, "a page that moved", moved(), 1, 2, 0, 1)
	bothWays(t, "a node that moved", moved(), 3, 4, 0, 56)
}

// asked is all that may be asked of a world, by these names and Ids.
func asked(w impl.World, names []string, ids []int64) []any {
	var out []any
	for _, name := range names {
		out = append(out, impl.Used(w, name), impl.Pages(w, name))
	}
	for _, a := range ids {
		out = append(out, impl.Alone(w, a), impl.Written(w, a))
		for _, b := range ids {
			out = append(out, impl.Changed(w, a, b))
		}
	}
	return out
}

// namesAndIds are those that a world has, but not too many, and some more.
func namesAndIds(w impl.World) ([]string, []int64) {
	names, ids := []string{"a", "b", ""}, []int64{1, 2, 0, -1}
	for _, s := range w.Sets[:min(len(w.Sets), 9)] {
		names = append(names, s.Name)
	}
	for _, s := range w.Snaps[:min(len(w.Snaps), 4)] {
		ids = append(ids, s.Id)
	}
	return names, ids
}

func TestAskedOfWrongWorlds(t *testing.T) {
	for what, x := range wrongWorlds() {
		names, ids := namesAndIds(x.world)
		was := copyWorld(x.world)
		for _, answer := range asked(x.world, names, ids) {
			if text := fmt.Sprint(answer); text != "0" && text != "[]" {
				t.Errorf("%s: told %s", what, text)
			}
		}
		same(t, what+": it stays", x.world, was)
	}
}

func TestAskedOfRightWorlds(t *testing.T) {
	for what, made := range rightWorlds() {
		w := oneMemory(made)
		names, ids := namesAndIds(w)
		first := asked(w, names, ids)
		same(t, what+": what is handed in", w, made)
		for _, answer := range first {
			apartFrom(t, what, w, answer)
			if list, ok := answer.([]int64); ok {
				for i := range list[:cap(list)] {
					list[:cap(list)][i] = -7
				}
			}
		}
		same(t, what+": it stays", w, made)
		same(t, what+": asked again", asked(w, names, ids), asked(made, names, ids))
	}
}

// numbersOf are the pages' numbers of a volume, rising.
func numbersOf(v *volume) []int64 {
	var out []int64
	for n := range v.pages {
		out = append(out, n)
	}
	slices.Sort(out)
	return out
}

// slotsNeeded are those of the pages, of a node for each eight that have one, and of a root.
func slotsNeeded(v *volume) int64 {
	nodes := map[int64]bool{}
	for n := range v.pages {
		nodes[n/impl.Fan] = true
	}
	if len(nodes) == 0 {
		return 0
	}
	return int64(len(v.pages) + len(nodes) + 1)
}

// readApart are the numbers of the pages that do not read alike.
func readApart(a *volume, b *volume) []int64 {
	var out []int64
	for n := range int64(impl.MaxPages) {
		if a.pages[n] != b.pages[n] {
			out = append(out, n)
		}
	}
	return out
}

// freeHeldOrInTree: each slot of a world is just one of these.
func freeHeldOrInTree(t *testing.T, w impl.World) {
	t.Helper()
	in := inTrees(w, "")
	for i, s := range w.Pool.Slots {
		is := []bool{s.Birth == 0 && len(s.Kids) == 0 && s.Data == "", slices.Contains(w.Pool.Held, int64(i)), slices.Contains(in, int64(i))}
		ones := slices.DeleteFunc(slices.Clone(is), func(b bool) bool { return !b })
		if len(ones) != 1 {
			t.Errorf("the slot %d: free, held, in some tree: %v", i, is)
		}
	}
	if !impl.WorldRight(w) {
		t.Errorf("it is not right")
	}
}

// writtenInAll takes a snapshot of each set: then what is in some tree was written for just one snapshot. (False, if
// there is no room for them.)
func writtenInAll(w impl.World) (int64, bool) {
	for _, s := range w.Sets {
		out := impl.SnapNew(w, s.Name, "new")
		if out.Code != impl.OK {
			return 0, false
		}
		w = out.World
	}
	written := int64(0)
	for _, s := range w.Snaps {
		written += impl.Written(w, s.Id)
	}
	return written, true
}

// Promise 11: the slots of a right world are free, or held, or in some tree; between two snapshots just the pages have
// changed that are not the same ones.
func TestPromise11(t *testing.T) {
	summed, changed, held := 0, 0, 0
	for seed := range uint64(60) {
		r := readerOf(5000+seed, 20+3*int64(seed))
		r.kept = int(seed%2) * 3
		for range 6 {
			r.goOn(t, 20, nil)
			freeHeldOrInTree(t, r.w)
			held += len(r.w.Pool.Held)
			if written, ok := writtenInAll(r.w); ok {
				summed++
				same(t, "free, held, and written", impl.PoolRoom(r.w.Pool)+int64(len(r.w.Pool.Held))+written, len(r.w.Pool.Slots))
			}
			for name, v := range r.b.sets {
				same(t, "the pages of "+name, impl.Pages(r.w, name), numbersOf(v))
				same(t, "the slots of "+name, impl.Used(r.w, name), slotsNeeded(v))
			}
			for a, x := range r.b.snaps {
				for b, y := range r.b.snaps {
					changed += len(readApart(x, y))
					same(t, fmt.Sprint("between ", a, " and ", b), impl.Changed(r.w, a, b), readApart(x, y))
				}
			}
		}
		if t.Failed() {
			t.Fatalf("of the seed %d", seed)
		}
	}
	if summed < 100 || changed < 1000 || held < 100 {
		t.Errorf("too few: %d, %d, %d", summed, changed, held)
	}
}

// What a snapshot has alone is just what goes with it, and what was written for it is not in what is ahead.
func TestSpaceAtRandom(t *testing.T) {
	dropped, alone := 0, int64(0)
	for _, r := range worldsAtRandom(t, 60) {
		trees := treesOf(r.w)
		for _, s := range r.w.Snaps {
			key := fmt.Sprint(s.Id)
			same(t, "alone", impl.Alone(r.w, s.Id), len(aloneIn(r.w, key)))
			same(t, "written", impl.Written(r.w, s.Id), len(minus(trees[key], trees[fmt.Sprint(s.Prev)])))
			alone += impl.Alone(r.w, s.Id)
			if out := impl.SnapDestroy(r.w, s.Id); out.Code == impl.OK {
				dropped++
				same(t, "what goes with it", out.Many, impl.Alone(r.w, s.Id))
			}
		}
		if t.Failed() {
			t.Fatal("not so")
		}
	}
	if dropped < 100 || alone < 100 {
		t.Errorf("too few: %d, %d", dropped, alone)
	}
}
