package impl

import (
	"slices"
	"sort"
)

type Snapshot struct {
	Package Package
	Entries []Stored
}

// cutOut returns the entries of a store that stand before those of an extension, and those that stand behind them.
func cutOut(l []Stored, ext int) ([]Stored, []Stored) {
	low := sort.Search(len(l), func(i int) bool { return l[i].Ext >= ext })
	high := sort.Search(len(l), func(i int) bool { return l[i].Ext > ext })
	return l[:low], l[high:]
}

func TakeSnapshot(p Package, l []Stored) Snapshot {
	own := keep(l, func(x Stored) bool { return x.Ext == p.Ext })
	return Snapshot{Package: copyPackage(p), Entries: own}
}

func RestoreStore(l []Stored, s Snapshot) ([]Stored, bool) {
	isOwn := func(x Stored) bool { return x.Ext == s.Package.Ext }
	if !IsStore(l) || !IsStore(s.Entries) || !allOf(s.Entries, isOwn) {
		return slices.Clone(l), false
	}
	before, behind := cutOut(l, s.Package.Ext)
	restored := slices.Concat(before, s.Entries, behind)
	if !IsStore(restored) {
		return slices.Clone(l), false
	}
	return restored, true
}

func CanRollBack(key int, s Snapshot, p Package) bool {
	return ReviewPackage(key, s.Package) == RvFine && IsPackage(p) &&
		p.Ext == s.Package.Ext && p.Version > s.Package.Version
}

func SnapshotText(s Snapshot) string {
	return FormatInt(s.Package.Ext) + " " + FormatInt(s.Package.Version) + " " + FormatInt(len(s.Entries))
}
