/- The walk of DigestParts. Conditions: the slice reads as slices of bytes; nothing lies in its spare part that cannot be read. -/
import Derived.Test.YtbhdghopdhehdaaAlv
import Derived.Test.YtbhdghopdhehdaaCm
import Derived.Test.YtbhdghopdhehdaaRot
set_option linter.unusedSimpArgs false
set_option linter.unusedVariables false
namespace Go.Proofs.Ytbhdghopdhehdaa.Wk
open Go.RowKit
open Go.Proofs.Ytbhdghopdhehdaa.Mt
theorem chain18b (start : Int) (A : Option Addr) (n c : Nat) (ls : List (List Int)) (w : World) (h : Rss w w.heap.size A n ls) (hn4 : n ≤ 4096) (hst : 0 ≤ start ∧ start ≤ 18446744073709551615) :
    Calls Try.prog 18 #[.int .u64 start, .slice A n c] w fun e w' => ∃ A' c', e = .returned (.slice A' n c') ∧ Ow .u64 23 w.heap.size w w' (.slice A' n c') (cl start ls n) ∧ Rk .u64 w' w'.heap.size A' n (cl start ls n) ∧ Below w.heap.size w w' := by
  refine (chain18o start A n c ls w h hn4 hst).mono fun e w' ⟨v, h1, h2⟩ => ?_
  obtain ⟨A9, c9, rfl, hrk⟩ := Rk.owned h2.2.2 (by rw [cl_len]; have := h.2.1; omega) (fun q => u64_w ((u64_mem (cl_in start ls n)) q))
  rw [cl_len] at hrk h1 h2
  exact ⟨A9, c9, h1, h2, hrk, h2.2.1⟩
theorem chain18c {args : Array Value} (start : Int) (A : Option Addr) (n c : Nat) (ls : List (List Int)) (w : World) (ha : args = #[.int .u64 start, .slice A n c]) (h : Rss w w.heap.size A n ls) (hn4 : n ≤ 4096) (hst : 0 ≤ start ∧ start ≤ 18446744073709551615) :
    Calls Try.prog 18 args w fun e w' => ∃ A' c', e = .returned (.slice A' n c') ∧ Ow .u64 23 w.heap.size w w' (.slice A' n c') (cl start ls n) ∧ Rk .u64 w' w'.heap.size A' n (cl start ls n) ∧ Below w.heap.size w w' := by
  subst ha; exact chain18b start A n c ls w h hn4 hst
theorem Ow.src {kk : IntKind} {t : TypeId} {base : Nat} {w0 wr : World} {A : Option Addr} {m c : Nat} {xs : List Int} (h : Ow kk t base w0 wr (.slice A m c) xs) : (A = none → m = 0 ∧ c = 0) ∧ (∀ ad, A = some ad → ∀ j u, (vk kk xs)[j]? = some u → wr.cell? (ad.add j) = some u) := by
  rcases h.2.2.2 with ⟨hv, _⟩ | ⟨g, cap, cur, hv, _⟩
  · injection hv with h1 h2 h3
    subst h1 h2 h3
    exact ⟨fun _ => ⟨rfl, rfl⟩, fun ad h => by cases h⟩
  · injection hv with h1 h2 h3
    refine ⟨fun h => (by rw [h1] at h; cases h), fun ad e j u hu => ?_⟩
    rw [h1] at e
    injection e with e
    subst e
    exact h.2.2.cells (g := g) (by rw [h1]; rfl) j u hu
theorem ap1 {kk kk' : IntKind} {t : TypeId} {w w' : World} {A : Option Addr} {m : Nat} {zs xs : List Int} {v : Value} (hr : Rk kk w w.heap.size A m zs) (ho : Ow kk' t w.heap.size w w' v xs) : Ap A m v := by
  intro h0 b off e hb
  obtain ⟨b', off', e', hlt, _⟩ := hr.2.2.1 h0
  rw [e] at e'
  injection e' with e'
  injection e' with e1
  have := (ho.2.2.lt b hb.symm).1
  omega
theorem ap2 {kk kk' : IntKind} {t t' : TypeId} {base : Nat} {w0 w w' : World} {A : Option Addr} {m c : Nat} {zs xs : List Int} {v : Value} (ho : Ow kk t base w0 w v xs) (hn : Ow kk' t' w.heap.size w w' (.slice A m c) zs) : Ap A m v := by
  intro h0 b off e hb
  have h1 := (ho.2.2.lt b hb.symm).2
  have h2 := (hn.2.2.lt b (by rw [e]; rfl)).1
  omega
theorem Rk.grown0 {k : IntKind} {wr w9 : World} {A : Option Addr} {m : Nat} {zs : List Int} {own : Option Nat} (h : Rk k wr wr.heap.size A m zs) (hf : 0 < m → ∀ b off, A = some ⟨b, off, none⟩ → some b ≠ own) (hg : wr.grownBy w9 own) : Rk k w9 w9.heap.size A m zs := by
  refine ⟨h.1, h.2.1, fun h0 => ?_, h.2.2.2⟩
  obtain ⟨b, off, e, hlt, hc⟩ := h.2.2.1 h0
  refine ⟨b, off, e, Nat.lt_of_lt_of_le hlt hg.size, fun i hi => ?_⟩
  exact (World.cell?_of_block (w := wr) (hg.block b hlt (hf h0 b off e))).trans (hc i hi)
theorem Rss.take {w : World} {B : Nat} {A : Option Addr} {n k : Nat} {ls : List (List Int)} (h : Rss w B A n ls) (hk : k ≤ n) : Rss w B A k (ls.take k) := by
  refine ⟨by rw [List.length_take, h.1]; omega, by have := h.2.1; omega, fun h0 => ?_⟩
  obtain ⟨b, off, e, hlt, hc⟩ := h.2.2 (by omega)
  refine ⟨b, off, e, hlt, fun i hi => ?_⟩
  rw [lat_take hi]
  exact hc i (by omega)
theorem Rss.drop {w : World} {B b off : Nat} {n k : Nat} {ls : List (List Int)} (h : Rss w B (some ⟨b, off, none⟩) n ls) (hk : k ≤ n) : Rss w B (some ⟨b, off + k, none⟩) (n - k) (ls.drop k) := by
  refine ⟨by rw [List.length_drop, h.1], by have := h.2.1; omega, fun h0 => ?_⟩
  obtain ⟨b', off', e, hlt, hc⟩ := h.2.2 (by omega)
  injection e with e
  injection e with e1 e2
  subst e1 e2
  refine ⟨b, off + k, rfl, hlt, fun i hi => ?_⟩
  rw [lat_drop, Nat.add_assoc]
  exact hc (k + i) (by omega)
theorem Rss.zero {w : World} {B : Nat} {A A' : Option Addr} {n k : Nat} {ls : List (List Int)} (h : Rss w B A n ls) (hk : k = n) : Rss w B A' (n - k) (ls.drop k) :=
  ⟨by rw [List.length_drop, h.1], by omega, fun h0 => by omega⟩
set_option maxHeartbeats 800000 in
set_option maxRecDepth 100000 in
theorem parts_law (start : Int) (A : Option Addr) (n c : Nat) (ls : List (List Int)) (t : Nat) (w : World) (h : Rss w w.heap.size A n ls) (hnc : n ≤ c) (hz : A = none → c = 0) (hs : 0 < c → ∀ b o sp, A = some ⟨b, o, sp⟩ → sp = none) (hx : 0 ≤ start ∧ start ≤ 18446744073709551615) (ht : t ≤ 255) :
    Calls Try.prog 8 #[.int .u64 start, .slice A n c, .int .u8 (t : Int)] w fun e w' => e = .returned (.bool true) ∧ Below w.heap.size w w' := by
  have hn := h.2.1
  have HL := Lib.hid h.1
  have HR := Lib.hid h
  have HX := Lib.hid hx
  clear h
  by_cases hf : fwS ls = true
  · have hn1 : n ≤ 100 := by
      have h2 := hf
      rw [fwS, HL.out] at h2
      simp at h2
      omega
    obtain ⟨k, hk⟩ : ∃ k, t % (n + 1) = k := ⟨_, rfl⟩
    have hkn : k ≤ n := by have := Nat.mod_lt t (show 0 < n + 1 by omega); omega
    have hmod : (t : Int).tmod ((n : Int) + 1) = (k : Int) := by rw [Int.tmod_eq_emod_of_nonneg (by omega), ← hk, Int.natCast_emod, Int.natCast_add]; rfl
    clear hk
    have hkc : (k : Int) ≤ (c : Int) := by omega
    have hkn' : (k : Int) ≤ (n : Int) := by omega
    have HRK := Lib.hid (HR.out.take hkn)
    have HSP : Hid (cl start (ls.take k) k = cl start ls k) := Lib.hid (cl_take (Nat.le_refl _))
    have HCV := Lib.hid (cv_in ls HX.out k)
    have HJ : Hid (cl start ls k ++ cl (cv start ls k) (ls.drop k) (n - k) = cl start ls n) := Lib.hid (by rw [cl_drop]; congr 1; omega)
    have e1 : ((k : Int) != (k : Int)) = false := by simp
    have e2 : ((n : Int) == (n : Int)) = true := by simp
    obtain ⟨i0, hi0, hz0, hs0, hb0'⟩ := info_parts u64_info
    rcases A with _ | ad
    · obtain rfl := hz rfl
      obtain rfl : n = 0 := by omega
      obtain rfl : k = 0 := by omega
      have HRD := HR
      go_enter Try.func8, Try.ntmps8
      go_wp2_with fail
      refine (few16 _ 0 0 ls _ HR.out).mono ?_
      rintro e w1 ⟨rfl, rfl⟩
      rw [hf]
      go_wp2_with fail
      clear hmod
      replace HR := Lib.hid (HR.out.up (Below.refl w.heap.size w).drew)
      replace HRK := Lib.hid (HRK.out.up (Below.refl w.heap.size w).drew)
      replace HRD := Lib.hid (HRD.out.up (Below.refl w.heap.size w).drew)
      have HB0 : Hid (Below w.heap.size w w.drew) := Lib.hid (Below.refl w.heap.size w).drew
      first | (go_region_held3 (fun _ => True) (trivial)
        (first
          | (go_at_call 18; have hq := HA1.out; clear hq; refine (chain18c start none 0 0 (ls.take 0) _ (by rfl) HRK.out (by omega) HX.out).mono ?_; rintro e wn ⟨A2, c2, rfl, ho2, hr2, hb⟩; have HBB := Lib.hid HB0.out.size; replace HR := Lib.hid (HR.out.up hb); replace HRK := Lib.hid (HRK.out.up hb); replace HRD := Lib.hid (HRD.out.up hb); replace HB0 := Lib.hid (upB HB0.out hb); rw [HSP.out] at ho2 hr2; have HO2 := Lib.hid ho2; have HR2 := Lib.hid hr2; first | (have HAP := Lib.hid (ap1 HA1.out ho2); replace HA1 := Lib.hid (HA1.out.up hb)) | skip; clear ho2 hr2 hb)
          | (go_at_call 18; refine (chain18c start none 0 0 ls _ (by rfl) HR.out (by omega) HX.out).mono ?_; rintro e wm ⟨A1, c1, rfl, ho1, hr1, hb⟩; replace HR := Lib.hid (HR.out.up hb); replace HRK := Lib.hid (HRK.out.up hb); replace HRD := Lib.hid (HRD.out.up hb); replace HB0 := Lib.hid (upB HB0.out hb); have HA1 := Lib.hid hr1; first | (have HAP := Lib.hid (ap2 HO2.out ho1); replace HO2 := Lib.hid (HO2.out.below hb); replace HR2 := Lib.hid (HR2.out.up hb)) | skip; clear ho1 hr1 hb))) | fail
      all_goals (
        go_wp2_with fail
        refine (chain18c start none 0 0 ls _ (by rfl) HR.out (by omega) HX.out).mono ?_
        rintro e w3 ⟨A3, c3, rfl, ho3, hr3, hb⟩
        have HO3 := Lib.hid ho3
        have HL3 : Hid ((cl start ls 0).length = 0) := Lib.hid (cl_len _ _ _)
        replace HO2 := Lib.hid (HO2.out.below hb)
        replace HA1 := Lib.hid (HA1.out.up hb)
        replace HB0 := Lib.hid (upB HB0.out hb)
        clear ho3 hr3 hb HR2 HR HRK HRD
        obtain ⟨zs, hzs⟩ : ∃ zs, cl start ls 0 = zs := ⟨_, rfl⟩
        rw [hzs] at HO3 HL3
        obtain ⟨ys, hys⟩ : ∃ ys, cl start ls 0 = ys := ⟨_, rfl⟩
        have HLY : Hid (ys.length = 0) := Lib.hid (by rw [← hys]; exact cl_len _ _ _)
        rw [hys] at HO2
        have HJ2 : Hid (ys ++ zs = cl start ls 0) := Lib.hid (by rw [← hzs, ← hys]; simp [cl])
        clear hzs hys
        have hown2 := HO2.out.2.2
        rw [HLY.out] at hown2
        have HOW := Lib.hid hown2
        have hsz2 := HO2.out.size
        clear hown2
        have C4 : Hid (0 + 0 ≤ maxLen) := Lib.hid (by unfold maxLen; omega)
        have C5 : Hid ((0 + 0) * 8 ≤ 140737488355328) := Lib.hid (by omega)
        go_wp2_with (go_loud (at_builtin; refine Rot.wpList_append_any _ _ 31 rfl (by rfl) _ 23 i0 (.int .u64 0) 1 8 Try.underlying31 hi0 hz0 hs0 hb0' rfl (by omega) _ _ (vk .u64 ys) rfl HOW.out A3 0 c3 (vk .u64 zs) rfl (by rw [Nat.mul_one]; simp only [vk, List.length_map]; exact HL3.out) HO3.out.src.1 HO3.out.src.2 (by intro u hu; simp only [vk, List.mem_map] at hu; obtain ⟨_, _, rfl⟩ := hu; rfl) C4.out C5.out hsz2 ?_))
        intro v9 w9 hown hgrow
        have hB9 := HB0.out.grown hgrow HB0.out.size (fun q hq => by have := (HOW.out.lt q hq).1; have := HBB.out; omega)
        have HA9 := Lib.hid (HA1.out.grown0 HAP.out hgrow)
        have e9 : vk .u64 ys ++ vk .u64 zs = vk .u64 (cl start ls 0) := by rw [← HJ2.out]; simp [vk]
        rw [e9] at hown
        have hown9 : w9.ownsRow wm.heap.size 23 1 v9 (cl start ls 0).length (vk .u64 (cl start ls 0)) := by rw [cl_len]; simpa using hown
        obtain ⟨A9, c9, rfl, hr9⟩ := Rk.owned hown9 (by rw [cl_len]; omega) (fun q => u64_w ((u64_mem (cl_in start ls 0)) q))
        rw [cl_len] at hr9
        rw [cl_len]
        have HR9 := Lib.hid hr9
        have HB9 := Lib.hid hB9
        clear hown hown9 hgrow hr9 hB9 e9 HOW C4 C5 HO2 HO3 HA1 HAP HB0 hsz2
        go_wp2_with fail
        refine (same17 A9 A1 0 c9 c1 _ _ HR9.out HA9.out).mono ?_
        rintro e wx ⟨rfl, hb⟩
        replace HB9 := Lib.hid (upB HB9.out hb)
        clear hb
        go_wp2_with fail
        refine (alive15 _).mono ?_
        rintro e wy ⟨rfl, hb⟩
        replace HB9 := Lib.hid (upB HB9.out hb)
        clear hb
        go_wp2_with fail
        go_ret
        exact ⟨rfl, HB9.out⟩)
    · by_cases hck : c = k
      · obtain rfl : n = c := by omega
        subst hck
        rcases n with _ | k
        · have HRD := HR
          go_enter Try.func8, Try.ntmps8
          go_wp2_with fail
          refine (few16 _ 0 0 ls _ HR.out).mono ?_
          rintro e w1 ⟨rfl, rfl⟩
          rw [hf]
          go_wp2_with fail
          clear hmod
          replace HR := Lib.hid (HR.out.up (Below.refl w.heap.size w).drew)
          replace HRK := Lib.hid (HRK.out.up (Below.refl w.heap.size w).drew)
          replace HRD := Lib.hid (HRD.out.up (Below.refl w.heap.size w).drew)
          have HB0 : Hid (Below w.heap.size w w.drew) := Lib.hid (Below.refl w.heap.size w).drew
          first | (go_region_held3 (fun _ => True) (trivial)
            (first
              | (go_at_call 18; have hq := HA1.out; clear hq; refine (chain18c start (some ad) 0 0 (ls.take 0) _ (by rfl) HRK.out (by omega) HX.out).mono ?_; rintro e wn ⟨A2, c2, rfl, ho2, hr2, hb⟩; have HBB := Lib.hid HB0.out.size; replace HR := Lib.hid (HR.out.up hb); replace HRK := Lib.hid (HRK.out.up hb); replace HRD := Lib.hid (HRD.out.up hb); replace HB0 := Lib.hid (upB HB0.out hb); rw [HSP.out] at ho2 hr2; have HO2 := Lib.hid ho2; have HR2 := Lib.hid hr2; first | (have HAP := Lib.hid (ap1 HA1.out ho2); replace HA1 := Lib.hid (HA1.out.up hb)) | skip; clear ho2 hr2 hb)
              | (go_at_call 18; refine (chain18c start (some ad) 0 0 ls _ (by rfl) HR.out (by omega) HX.out).mono ?_; rintro e wm ⟨A1, c1, rfl, ho1, hr1, hb⟩; replace HR := Lib.hid (HR.out.up hb); replace HRK := Lib.hid (HRK.out.up hb); replace HRD := Lib.hid (HRD.out.up hb); replace HB0 := Lib.hid (upB HB0.out hb); have HA1 := Lib.hid hr1; first | (have HAP := Lib.hid (ap2 HO2.out ho1); replace HO2 := Lib.hid (HO2.out.below hb); replace HR2 := Lib.hid (HR2.out.up hb)) | skip; clear ho1 hr1 hb))) | fail
          all_goals (
            go_wp2_with fail
            refine (chain18c start (some ad) 0 0 ls _ (by rfl) HR.out (by omega) HX.out).mono ?_
            rintro e w3 ⟨A3, c3, rfl, ho3, hr3, hb⟩
            have HO3 := Lib.hid ho3
            have HL3 : Hid ((cl start ls 0).length = 0) := Lib.hid (cl_len _ _ _)
            replace HO2 := Lib.hid (HO2.out.below hb)
            replace HA1 := Lib.hid (HA1.out.up hb)
            replace HB0 := Lib.hid (upB HB0.out hb)
            clear ho3 hr3 hb HR2 HR HRK HRD
            obtain ⟨zs, hzs⟩ : ∃ zs, cl start ls 0 = zs := ⟨_, rfl⟩
            rw [hzs] at HO3 HL3
            obtain ⟨ys, hys⟩ : ∃ ys, cl start ls 0 = ys := ⟨_, rfl⟩
            have HLY : Hid (ys.length = 0) := Lib.hid (by rw [← hys]; exact cl_len _ _ _)
            rw [hys] at HO2
            have HJ2 : Hid (ys ++ zs = cl start ls 0) := Lib.hid (by rw [← hzs, ← hys]; simp [cl])
            clear hzs hys
            have hown2 := HO2.out.2.2
            rw [HLY.out] at hown2
            have HOW := Lib.hid hown2
            have hsz2 := HO2.out.size
            clear hown2
            have C4 : Hid (0 + 0 ≤ maxLen) := Lib.hid (by unfold maxLen; omega)
            have C5 : Hid ((0 + 0) * 8 ≤ 140737488355328) := Lib.hid (by omega)
            go_wp2_with (go_loud (at_builtin; refine Rot.wpList_append_any _ _ 31 rfl (by rfl) _ 23 i0 (.int .u64 0) 1 8 Try.underlying31 hi0 hz0 hs0 hb0' rfl (by omega) _ _ (vk .u64 ys) rfl HOW.out A3 0 c3 (vk .u64 zs) rfl (by rw [Nat.mul_one]; simp only [vk, List.length_map]; exact HL3.out) HO3.out.src.1 HO3.out.src.2 (by intro u hu; simp only [vk, List.mem_map] at hu; obtain ⟨_, _, rfl⟩ := hu; rfl) C4.out C5.out hsz2 ?_))
            intro v9 w9 hown hgrow
            have hB9 := HB0.out.grown hgrow HB0.out.size (fun q hq => by have := (HOW.out.lt q hq).1; have := HBB.out; omega)
            have HA9 := Lib.hid (HA1.out.grown0 HAP.out hgrow)
            have e9 : vk .u64 ys ++ vk .u64 zs = vk .u64 (cl start ls 0) := by rw [← HJ2.out]; simp [vk]
            rw [e9] at hown
            have hown9 : w9.ownsRow wm.heap.size 23 1 v9 (cl start ls 0).length (vk .u64 (cl start ls 0)) := by rw [cl_len]; simpa using hown
            obtain ⟨A9, c9, rfl, hr9⟩ := Rk.owned hown9 (by rw [cl_len]; omega) (fun q => u64_w ((u64_mem (cl_in start ls 0)) q))
            rw [cl_len] at hr9
            rw [cl_len]
            have HR9 := Lib.hid hr9
            have HB9 := Lib.hid hB9
            clear hown hown9 hgrow hr9 hB9 e9 HOW C4 C5 HO2 HO3 HA1 HAP HB0 hsz2
            go_wp2_with fail
            refine (same17 A9 A1 0 c9 c1 _ _ HR9.out HA9.out).mono ?_
            rintro e wx ⟨rfl, hb⟩
            replace HB9 := Lib.hid (upB HB9.out hb)
            clear hb
            go_wp2_with fail
            refine (alive15 _).mono ?_
            rintro e wy ⟨rfl, hb⟩
            replace HB9 := Lib.hid (upB HB9.out hb)
            clear hb
            go_wp2_with fail
            go_ret
            exact ⟨rfl, HB9.out⟩)
        · obtain ⟨b0, o0, sp⟩ := ad
          obtain rfl : sp = none := hs (by omega) b0 o0 sp rfl
          replace hmod : (t : Int).tmod ((k : Int) + 1 + 1) = (k : Int) + 1 := hmod
          have HRD : Hid (Rss w w.heap.size (some ⟨b0, o0, none⟩) 0 (ls.drop (k + 1))) := Lib.hid (by simpa using HR.out.zero (A' := some ⟨b0, o0, none⟩) rfl)
          have hk7 : (0 : Int) ≤ (k : Int) + 1 := by omega
          go_enter Try.func8, Try.ntmps8
          go_wp2_with fail
          refine (few16 _ (k + 1) (k + 1) ls _ HR.out).mono ?_
          rintro e w1 ⟨rfl, rfl⟩
          rw [hf]
          go_wp2_with fail
          clear hmod
          replace HR := Lib.hid (HR.out.up (Below.refl w.heap.size w).drew)
          replace HRK := Lib.hid (HRK.out.up (Below.refl w.heap.size w).drew)
          replace HRD := Lib.hid (HRD.out.up (Below.refl w.heap.size w).drew)
          have HB0 : Hid (Below w.heap.size w w.drew) := Lib.hid (Below.refl w.heap.size w).drew
          first | (go_region_held3 (fun _ => True) (trivial)
            (first
              | (go_at_call 18; have hq := HA1.out; clear hq; refine (chain18c start (some ⟨b0, o0, none⟩) (k + 1) (k + 1) (ls.take (k + 1)) _ (by rfl) HRK.out (by omega) HX.out).mono ?_; rintro e wn ⟨A2, c2, rfl, ho2, hr2, hb⟩; have HBB := Lib.hid HB0.out.size; replace HR := Lib.hid (HR.out.up hb); replace HRK := Lib.hid (HRK.out.up hb); replace HRD := Lib.hid (HRD.out.up hb); replace HB0 := Lib.hid (upB HB0.out hb); rw [HSP.out] at ho2 hr2; have HO2 := Lib.hid ho2; have HR2 := Lib.hid hr2; first | (have HAP := Lib.hid (ap1 HA1.out ho2); replace HA1 := Lib.hid (HA1.out.up hb)) | skip; clear ho2 hr2 hb)
              | (go_at_call 18; refine (chain18c start (some ⟨b0, o0, none⟩) (k + 1) (k + 1) ls _ (by rfl) HR.out (by omega) HX.out).mono ?_; rintro e wm ⟨A1, c1, rfl, ho1, hr1, hb⟩; replace HR := Lib.hid (HR.out.up hb); replace HRK := Lib.hid (HRK.out.up hb); replace HRD := Lib.hid (HRD.out.up hb); replace HB0 := Lib.hid (upB HB0.out hb); have HA1 := Lib.hid hr1; first | (have HAP := Lib.hid (ap2 HO2.out ho1); replace HO2 := Lib.hid (HO2.out.below hb); replace HR2 := Lib.hid (HR2.out.up hb)) | skip; clear ho1 hr1 hb))) | fail
          all_goals obtain ⟨bl, ol, rfl, _, dl⟩ := HR2.out.get (i := k) (by omega)
          all_goals rw [cl_last] at dl
          all_goals (
            obtain ⟨x, hx⟩ : ∃ x, cv start ls (k + 1) = x := ⟨_, rfl⟩
            rw [hx] at dl HCV HJ
            clear hx
            go_wp2_with fail
            refine (chain18c x (some ⟨b0, o0, none⟩) 0 0 (ls.drop (k + 1)) _ (by rfl) HRD.out (by omega) HCV.out).mono ?_
            rintro e w3 ⟨A3, c3, rfl, ho3, hr3, hb⟩
            have HO3 := Lib.hid ho3
            have HL3 : Hid ((cl x (ls.drop (k + 1)) 0).length = 0) := Lib.hid (cl_len _ _ _)
            replace HO2 := Lib.hid (HO2.out.below hb)
            replace HA1 := Lib.hid (HA1.out.up hb)
            replace HB0 := Lib.hid (upB HB0.out hb)
            clear ho3 hr3 hb HR2 HR HRK HRD
            clear dl
            obtain ⟨zs, hzs⟩ : ∃ zs, cl x (ls.drop (k + 1)) 0 = zs := ⟨_, rfl⟩
            rw [hzs] at HO3 HL3
            obtain ⟨ys, hys⟩ : ∃ ys, cl start ls (k + 1) = ys := ⟨_, rfl⟩
            have HLY : Hid (ys.length = k + 1) := Lib.hid (by rw [← hys]; exact cl_len _ _ _)
            rw [hys] at HO2
            have HJ2 : Hid (ys ++ zs = cl start ls (k + 1)) := Lib.hid (by rw [← hzs, ← hys]; have := HJ.out; rw [Nat.sub_self] at this; exact this)
            clear hzs hys
            have hown2 := HO2.out.2.2
            rw [HLY.out] at hown2
            have HOW := Lib.hid hown2
            have hsz2 := HO2.out.size
            clear hown2
            have C4 : Hid ((k + 1) + 0 ≤ maxLen) := Lib.hid (by unfold maxLen; omega)
            have C5 : Hid (((k + 1) + 0) * 8 ≤ 140737488355328) := Lib.hid (by omega)
            go_wp2_with (go_loud (at_builtin; refine Rot.wpList_append_any _ _ 31 rfl (by rfl) _ 23 i0 (.int .u64 0) 1 8 Try.underlying31 hi0 hz0 hs0 hb0' rfl (by omega) _ _ (vk .u64 ys) rfl HOW.out A3 0 c3 (vk .u64 zs) rfl (by rw [Nat.mul_one]; simp only [vk, List.length_map]; exact HL3.out) HO3.out.src.1 HO3.out.src.2 (by intro u hu; simp only [vk, List.mem_map] at hu; obtain ⟨_, _, rfl⟩ := hu; rfl) C4.out C5.out hsz2 ?_))
            intro v9 w9 hown hgrow
            have hB9 := HB0.out.grown hgrow HB0.out.size (fun q hq => by have := (HOW.out.lt q hq).1; have := HBB.out; omega)
            have HA9 := Lib.hid (HA1.out.grown0 HAP.out hgrow)
            have e9 : vk .u64 ys ++ vk .u64 zs = vk .u64 (cl start ls (k + 1)) := by rw [← HJ2.out]; simp [vk]
            rw [e9] at hown
            have hown9 : w9.ownsRow wm.heap.size 23 1 v9 (cl start ls (k + 1)).length (vk .u64 (cl start ls (k + 1))) := by rw [cl_len]; simpa using hown
            obtain ⟨A9, c9, rfl, hr9⟩ := Rk.owned hown9 (by rw [cl_len]; omega) (fun q => u64_w ((u64_mem (cl_in start ls (k + 1))) q))
            rw [cl_len] at hr9
            rw [cl_len]
            have HR9 := Lib.hid hr9
            have HB9 := Lib.hid hB9
            clear hown hown9 hgrow hr9 hB9 e9 HOW C4 C5 HO2 HO3 HA1 HAP HB0 hsz2
            go_wp2_with fail
            refine (same17 A9 A1 (k + 1) c9 c1 _ _ HR9.out HA9.out).mono ?_
            rintro e wx ⟨rfl, hb⟩
            replace HB9 := Lib.hid (upB HB9.out hb)
            clear hb
            go_wp2_with fail
            refine (alive15 _).mono ?_
            rintro e wy ⟨rfl, hb⟩
            replace HB9 := Lib.hid (upB HB9.out hb)
            clear hb
            go_wp2_with fail
            go_ret
            exact ⟨rfl, HB9.out⟩)
      · obtain ⟨b0, o0, sp⟩ := ad
        obtain rfl : sp = none := hs (by omega) b0 o0 sp rfl
        have HRD := Lib.hid (HR.out.drop hkn)
        rcases k with _ | k
        · skip
          go_enter Try.func8, Try.ntmps8
          go_wp2_with fail
          refine (few16 _ n c ls _ HR.out).mono ?_
          rintro e w1 ⟨rfl, rfl⟩
          rw [hf]
          go_wp2_with fail
          clear hmod
          replace HR := Lib.hid (HR.out.up (Below.refl w.heap.size w).drew)
          replace HRK := Lib.hid (HRK.out.up (Below.refl w.heap.size w).drew)
          replace HRD := Lib.hid (HRD.out.up (Below.refl w.heap.size w).drew)
          have HB0 : Hid (Below w.heap.size w w.drew) := Lib.hid (Below.refl w.heap.size w).drew
          first | (go_region_held3 (fun _ => True) (trivial)
            (first
              | (go_at_call 18; have hq := HA1.out; clear hq; refine (chain18c start (some ⟨b0, o0, none⟩) 0 c (ls.take 0) _ (by rfl) HRK.out (by omega) HX.out).mono ?_; rintro e wn ⟨A2, c2, rfl, ho2, hr2, hb⟩; have HBB := Lib.hid HB0.out.size; replace HR := Lib.hid (HR.out.up hb); replace HRK := Lib.hid (HRK.out.up hb); replace HRD := Lib.hid (HRD.out.up hb); replace HB0 := Lib.hid (upB HB0.out hb); rw [HSP.out] at ho2 hr2; have HO2 := Lib.hid ho2; have HR2 := Lib.hid hr2; first | (have HAP := Lib.hid (ap1 HA1.out ho2); replace HA1 := Lib.hid (HA1.out.up hb)) | skip; clear ho2 hr2 hb)
              | (go_at_call 18; refine (chain18c start (some ⟨b0, o0, none⟩) n c ls _ (by rfl) HR.out (by omega) HX.out).mono ?_; rintro e wm ⟨A1, c1, rfl, ho1, hr1, hb⟩; replace HR := Lib.hid (HR.out.up hb); replace HRK := Lib.hid (HRK.out.up hb); replace HRD := Lib.hid (HRD.out.up hb); replace HB0 := Lib.hid (upB HB0.out hb); have HA1 := Lib.hid hr1; first | (have HAP := Lib.hid (ap2 HO2.out ho1); replace HO2 := Lib.hid (HO2.out.below hb); replace HR2 := Lib.hid (HR2.out.up hb)) | skip; clear ho1 hr1 hb))) | fail
          all_goals (
            go_wp2_with fail
            refine (chain18c start (some ⟨b0, o0, none⟩) n c ls _ (by rfl) HR.out (by omega) HX.out).mono ?_
            rintro e w3 ⟨A3, c3, rfl, ho3, hr3, hb⟩
            have HO3 := Lib.hid ho3
            have HL3 : Hid ((cl start ls n).length = n) := Lib.hid (cl_len _ _ _)
            replace HO2 := Lib.hid (HO2.out.below hb)
            replace HA1 := Lib.hid (HA1.out.up hb)
            replace HB0 := Lib.hid (upB HB0.out hb)
            clear ho3 hr3 hb HR2 HR HRK HRD
            obtain ⟨zs, hzs⟩ : ∃ zs, cl start ls n = zs := ⟨_, rfl⟩
            rw [hzs] at HO3 HL3
            obtain ⟨ys, hys⟩ : ∃ ys, cl start ls 0 = ys := ⟨_, rfl⟩
            have HLY : Hid (ys.length = 0) := Lib.hid (by rw [← hys]; exact cl_len _ _ _)
            rw [hys] at HO2
            have HJ2 : Hid (ys ++ zs = cl start ls n) := Lib.hid (by rw [← hzs, ← hys]; simp [cl])
            clear hzs hys
            have hown2 := HO2.out.2.2
            rw [HLY.out] at hown2
            have HOW := Lib.hid hown2
            have hsz2 := HO2.out.size
            clear hown2
            have C4 : Hid (0 + n ≤ maxLen) := Lib.hid (by unfold maxLen; omega)
            have C5 : Hid ((0 + n) * 8 ≤ 140737488355328) := Lib.hid (by omega)
            go_wp2_with (go_loud (at_builtin; refine Rot.wpList_append_any _ _ 31 rfl (by rfl) _ 23 i0 (.int .u64 0) 1 8 Try.underlying31 hi0 hz0 hs0 hb0' rfl (by omega) _ _ (vk .u64 ys) rfl HOW.out A3 n c3 (vk .u64 zs) rfl (by rw [Nat.mul_one]; simp only [vk, List.length_map]; exact HL3.out) HO3.out.src.1 HO3.out.src.2 (by intro u hu; simp only [vk, List.mem_map] at hu; obtain ⟨_, _, rfl⟩ := hu; rfl) C4.out C5.out hsz2 ?_))
            intro v9 w9 hown hgrow
            have hB9 := HB0.out.grown hgrow HB0.out.size (fun q hq => by have := (HOW.out.lt q hq).1; have := HBB.out; omega)
            have HA9 := Lib.hid (HA1.out.grown0 HAP.out hgrow)
            have e9 : vk .u64 ys ++ vk .u64 zs = vk .u64 (cl start ls n) := by rw [← HJ2.out]; simp [vk]
            rw [e9] at hown
            have hown9 : w9.ownsRow wm.heap.size 23 1 v9 (cl start ls n).length (vk .u64 (cl start ls n)) := by rw [cl_len]; simpa using hown
            obtain ⟨A9, c9, rfl, hr9⟩ := Rk.owned hown9 (by rw [cl_len]; omega) (fun q => u64_w ((u64_mem (cl_in start ls n)) q))
            rw [cl_len] at hr9
            rw [cl_len]
            have HR9 := Lib.hid hr9
            have HB9 := Lib.hid hB9
            clear hown hown9 hgrow hr9 hB9 e9 HOW C4 C5 HO2 HO3 HA1 HAP HB0 hsz2
            go_wp2_with fail
            refine (same17 A9 A1 n c9 c1 _ _ HR9.out HA9.out).mono ?_
            rintro e wx ⟨rfl, hb⟩
            replace HB9 := Lib.hid (upB HB9.out hb)
            clear hb
            go_wp2_with fail
            refine (alive15 _).mono ?_
            rintro e wy ⟨rfl, hb⟩
            replace HB9 := Lib.hid (upB HB9.out hb)
            clear hb
            go_wp2_with fail
            go_ret
            exact ⟨rfl, HB9.out⟩)
        · skip
          have hk7 : (0 : Int) ≤ (k : Int) + 1 := by omega
          have hk8 : (k : Int) + 1 ≤ (c : Int) := by omega
          have hk9 : (k : Int) + 1 ≤ (n : Int) := by omega
          go_enter Try.func8, Try.ntmps8
          go_wp2_with fail
          refine (few16 _ n c ls _ HR.out).mono ?_
          rintro e w1 ⟨rfl, rfl⟩
          rw [hf]
          go_wp2_with fail
          clear hmod
          replace HR := Lib.hid (HR.out.up (Below.refl w.heap.size w).drew)
          replace HRK := Lib.hid (HRK.out.up (Below.refl w.heap.size w).drew)
          replace HRD := Lib.hid (HRD.out.up (Below.refl w.heap.size w).drew)
          have HB0 : Hid (Below w.heap.size w w.drew) := Lib.hid (Below.refl w.heap.size w).drew
          first | (go_region_held3 (fun _ => True) (trivial)
            (first
              | (go_at_call 18; have hq := HA1.out; clear hq; refine (chain18c start (some ⟨b0, o0, none⟩) (k + 1) c (ls.take (k + 1)) _ (by rfl) HRK.out (by omega) HX.out).mono ?_; rintro e wn ⟨A2, c2, rfl, ho2, hr2, hb⟩; have HBB := Lib.hid HB0.out.size; replace HR := Lib.hid (HR.out.up hb); replace HRK := Lib.hid (HRK.out.up hb); replace HRD := Lib.hid (HRD.out.up hb); replace HB0 := Lib.hid (upB HB0.out hb); rw [HSP.out] at ho2 hr2; have HO2 := Lib.hid ho2; have HR2 := Lib.hid hr2; first | (have HAP := Lib.hid (ap1 HA1.out ho2); replace HA1 := Lib.hid (HA1.out.up hb)) | skip; clear ho2 hr2 hb)
              | (go_at_call 18; refine (chain18c start (some ⟨b0, o0, none⟩) n c ls _ (by rfl) HR.out (by omega) HX.out).mono ?_; rintro e wm ⟨A1, c1, rfl, ho1, hr1, hb⟩; replace HR := Lib.hid (HR.out.up hb); replace HRK := Lib.hid (HRK.out.up hb); replace HRD := Lib.hid (HRD.out.up hb); replace HB0 := Lib.hid (upB HB0.out hb); have HA1 := Lib.hid hr1; first | (have HAP := Lib.hid (ap2 HO2.out ho1); replace HO2 := Lib.hid (HO2.out.below hb); replace HR2 := Lib.hid (HR2.out.up hb)) | skip; clear ho1 hr1 hb))) | fail
          all_goals obtain ⟨bl, ol, rfl, _, dl⟩ := HR2.out.get (i := k) (by omega)
          all_goals rw [cl_last] at dl
          all_goals (
            obtain ⟨x, hx⟩ : ∃ x, cv start ls (k + 1) = x := ⟨_, rfl⟩
            rw [hx] at dl HCV HJ
            clear hx
            go_wp2_with fail
            refine (chain18c x (some ⟨b0, o0 + (k + 1), none⟩) (n - (k + 1)) (c - (k + 1)) (ls.drop (k + 1)) _ (by rfl) HRD.out (by omega) HCV.out).mono ?_
            rintro e w3 ⟨A3, c3, rfl, ho3, hr3, hb⟩
            have HO3 := Lib.hid ho3
            have HL3 : Hid ((cl x (ls.drop (k + 1)) (n - (k + 1))).length = (n - (k + 1))) := Lib.hid (cl_len _ _ _)
            replace HO2 := Lib.hid (HO2.out.below hb)
            replace HA1 := Lib.hid (HA1.out.up hb)
            replace HB0 := Lib.hid (upB HB0.out hb)
            clear ho3 hr3 hb HR2 HR HRK HRD
            clear dl
            obtain ⟨zs, hzs⟩ : ∃ zs, cl x (ls.drop (k + 1)) (n - (k + 1)) = zs := ⟨_, rfl⟩
            rw [hzs] at HO3 HL3
            obtain ⟨ys, hys⟩ : ∃ ys, cl start ls (k + 1) = ys := ⟨_, rfl⟩
            have HLY : Hid (ys.length = k + 1) := Lib.hid (by rw [← hys]; exact cl_len _ _ _)
            rw [hys] at HO2
            have HJ2 : Hid (ys ++ zs = cl start ls n) := Lib.hid (by rw [← hzs, ← hys]; exact HJ.out)
            clear hzs hys
            have hown2 := HO2.out.2.2
            rw [HLY.out] at hown2
            have HOW := Lib.hid hown2
            have hsz2 := HO2.out.size
            clear hown2
            have C4 : Hid ((k + 1) + (n - (k + 1)) ≤ maxLen) := Lib.hid (by unfold maxLen; omega)
            have C5 : Hid (((k + 1) + (n - (k + 1))) * 8 ≤ 140737488355328) := Lib.hid (by omega)
            go_wp2_with (go_loud (at_builtin; refine Rot.wpList_append_any _ _ 31 rfl (by rfl) _ 23 i0 (.int .u64 0) 1 8 Try.underlying31 hi0 hz0 hs0 hb0' rfl (by omega) _ _ (vk .u64 ys) rfl HOW.out A3 (n - (k + 1)) c3 (vk .u64 zs) rfl (by rw [Nat.mul_one]; simp only [vk, List.length_map]; exact HL3.out) HO3.out.src.1 HO3.out.src.2 (by intro u hu; simp only [vk, List.mem_map] at hu; obtain ⟨_, _, rfl⟩ := hu; rfl) C4.out C5.out hsz2 ?_))
            intro v9 w9 hown hgrow
            have hB9 := HB0.out.grown hgrow HB0.out.size (fun q hq => by have := (HOW.out.lt q hq).1; have := HBB.out; omega)
            have HA9 := Lib.hid (HA1.out.grown0 HAP.out hgrow)
            have e9 : vk .u64 ys ++ vk .u64 zs = vk .u64 (cl start ls n) := by rw [← HJ2.out]; simp [vk]
            rw [e9] at hown
            have hown9 : w9.ownsRow wm.heap.size 23 1 v9 (cl start ls n).length (vk .u64 (cl start ls n)) := by rw [cl_len]; exact hown
            obtain ⟨A9, c9, rfl, hr9⟩ := Rk.owned hown9 (by rw [cl_len]; omega) (fun q => u64_w ((u64_mem (cl_in start ls n)) q))
            rw [cl_len] at hr9
            rw [cl_len]
            have HR9 := Lib.hid hr9
            have HB9 := Lib.hid hB9
            clear hown hown9 hgrow hr9 hB9 e9 HOW C4 C5 HO2 HO3 HA1 HAP HB0 hsz2
            go_wp2_with fail
            refine (same17 A9 A1 n c9 c1 _ _ HR9.out HA9.out).mono ?_
            rintro e wx ⟨rfl, hb⟩
            replace HB9 := Lib.hid (upB HB9.out hb)
            clear hb
            go_wp2_with fail
            refine (alive15 _).mono ?_
            rintro e wy ⟨rfl, hb⟩
            replace HB9 := Lib.hid (upB HB9.out hb)
            clear hb
            go_wp2_with fail
            go_ret
            exact ⟨rfl, HB9.out⟩)
  · have hf : fwS ls = false := by simpa using hf
    go_enter Try.func8, Try.ntmps8
    go_wp2_with fail
    refine (few16 A n c ls _ HR.out).mono ?_
    rintro e w1 ⟨rfl, rfl⟩
    rw [hf]
    go_wp2_with fail
    go_ret
    exact ⟨rfl, Below.refl _ _⟩
end Go.Proofs.Ytbhdghopdhehdaa.Wk
