/- slices.Sorted(maps.Keys(m)) at this program. No condition. -/
import Derived.Test.YtobgdemhadlgnaaLaie
import Derived.Test.YtobgdemhadlgnaaAvK
set_option linter.unusedSimpArgs false
set_option linter.unusedVariables false
namespace Go.Proofs.Ytobgdemhadlgnaa.Av
open Go Go.RowKit Go.Maps Go.Sort Go.Shelf
theorem keysG : KeysG Try.prog 20 36 46 := fun mb W => callsIn_wide.1 (AnyZ.keys_in Try.keysP Fence.wide 5 trivial rfl mb W)
theorem sortsS (m : Nat) : AnyZ.SortsIn Try.prog Try.sortedP_ren Fence.wide m :=
  ⟨fun blk off cap ss W hH hblk hsz => callsIn_wide.2 (AnyM.slices_Sort_string Try.sortS blk off cap ss W hH hblk hsz), fun p cap W => callsIn_wide.2 (AnyM.slices_Sort_string_none Try.sortS p cap W)⟩
set_option maxHeartbeats 1000000 in
theorem sortedG : SortedG Try.prog 19 36 9 9 := fun B b nn D0 R w hm hB hown hmax hbytes => by
  have hseq : SeqGives Fence.wide 2 Try.prog 36 #[.pointer (some ⟨B, 0, none⟩)] encStr (fun ss => ss.Perm (strKeys D0)) (Maps.size D0) w :=
    AnyZ.keys_gives (ρ := Try.keysP_ren) { Try.keysP with } Fence.wide _ trivial rfl (by omega) B b nn D0 w hB hm hown
  exact callsIn_wide.1 (AnyZ.sorted_in Try.sortedP Fence.wide 5 trivial trivial trivial trivial rfl (by omega) (sortsS _) (enters_of Try.func35 (by kernel_rfl) rfl) 36 #[.pointer (some ⟨B, 0, none⟩)] trivial (enters_of Try.func36 (by kernel_rfl) rfl) _ _ hmax hbytes _ hseq)
end Go.Proofs.Ytobgdemhadlgnaa.Av
