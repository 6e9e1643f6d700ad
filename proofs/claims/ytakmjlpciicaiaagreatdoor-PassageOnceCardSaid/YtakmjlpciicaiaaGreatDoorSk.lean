/- slices.Sorted(maps.Keys(m)) at this program. No condition. -/
import Derived.Test.YtakmjlpciicaiaaGreatDoorLaie
import Derived.Test.YtakmjlpciicaiaaGreatDoorAvK
set_option linter.unusedSimpArgs false
set_option linter.unusedVariables false
namespace Go.Proofs.YtakmjlpciicaiaaGreatDoor.Av
open Go Go.RowKit Go.Maps Go.Sort Go.Shelf
theorem keysG : KeysG Tryz.prog 56 85 74 := fun mb W => callsIn_wide.1 (AnyZ.keys_in Tryz.keysP Fence.wide 5 trivial rfl mb W)
theorem sortsS (m : Nat) : AnyZ.SortsIn Tryz.prog Tryz.sortedP_ren Fence.wide m :=
  ⟨fun blk off cap ss W hH hblk hsz => callsIn_wide.2 (AnyM.slices_Sort_string Tryz.sortS blk off cap ss W hH hblk hsz), fun p cap W => callsIn_wide.2 (AnyM.slices_Sort_string_none Tryz.sortS p cap W)⟩
set_option maxHeartbeats 1000000 in
theorem sortedG : SortedG Tryz.prog 55 85 9 9 := fun B b nn D0 R w hm hB hown hmax hbytes => by
  have hseq : SeqGives Fence.wide 2 Tryz.prog 85 #[.pointer (some ⟨B, 0, none⟩)] encStr (fun ss => ss.Perm (strKeys D0)) (Maps.size D0) w :=
    AnyZ.keys_gives (ρ := Tryz.keysP_ren) { Tryz.keysP with } Fence.wide _ trivial rfl (by omega) B b nn D0 w hB hm hown
  exact callsIn_wide.1 (AnyZ.sorted_in Tryz.sortedP Fence.wide 5 trivial trivial trivial trivial rfl (by omega) (sortsS _) (enters_of Tryz.func84 (by kernel_rfl) rfl) 85 #[.pointer (some ⟨B, 0, none⟩)] trivial (enters_of Tryz.func85 (by kernel_rfl) rfl) _ _ hmax hbytes _ hseq)
end Go.Proofs.YtakmjlpciicaiaaGreatDoor.Av
