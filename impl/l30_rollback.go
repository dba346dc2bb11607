package impl

type Snapshot struct {
	Package Package
	Entries []Stored
}

func TakeSnapshot(p Package, l []Stored) Snapshot {
	return Snapshot{}
}

func RestoreStore(l []Stored, s Snapshot) ([]Stored, bool) {
	return []Stored{}, false
}

func CanRollBack(key int, s Snapshot, p Package) bool {
	return false
}

func SnapshotText(s Snapshot) string {
	return ""
}
