/-
  Valid lists of stars: the contracts of l05Ok, ValidStars (package spec) and of ValidStars (package impl).
-/
import Derived.Test.YtjghopepgfgebaaGreatDoorStarL
namespace Go.Proofs.YtjghopepgfgebaaGreatDoor
open Go.RowKit
set_option linter.unusedVariables false

def ltS (s t : ByteArray) : Bool := Op.bytesLess s.toList t.toList
def stepB (zs : List StarV) (j : Nat) : Bool := (zs.getD j star0).good && (j == 0 || ltS (zs.getD (j - 1) star0).s (zs.getD j star0).s)
def okZ (zs : List StarV) (j : Nat) : Bool := (List.range j).all (stepB zs)
def okL (zs : List StarV) : Bool := okZ zs zs.length && decide (zs.length ≤ 24)
theorem okZ_next (zs : List StarV) (j : Nat) : okZ zs (j + 1) = (okZ zs j && stepB zs j) := by
  unfold okZ
  rw [List.range_succ, List.all_append]
  simp
theorem okZ_stop (zs : List StarV) (j : Nat) (h : j < zs.length) (hs : stepB zs j = false) : okL zs = false := by
  unfold okL okZ
  have : (List.range zs.length).all (stepB zs) = false := by
    rw [List.all_eq_false]
    exact ⟨j, List.mem_range.2 h, by rw [hs]; simp⟩
  rw [this, Bool.false_and]
theorem stepB_zero (zs : List StarV) : stepB zs 0 = (zs.getD 0 star0).good := by simp [stepB]
theorem stepB_succ (zs : List StarV) (k : Nat) : stepB zs (k + 1) = ((zs.getD (k + 1) star0).good && ltS (zs.getD k star0).s (zs.getD (k + 1) star0).s) := by simp [stepB]
theorem stepB_pos (zs : List StarV) (j k : Nat) (h : j = k + 1) : stepB zs j = ((zs.getD j star0).good && ltS (zs.getD k star0).s (zs.getD j star0).s) := by subst h; exact stepB_succ zs k
theorem getD_at (zs : List StarV) (j : Nat) (h : j < zs.length) : zs.getD j star0 = zs[j] := by rw [List.getD, List.getElem?_eq_getElem h]; rfl

set_option maxRecDepth 100000 in
set_option maxHeartbeats 1000000 in
theorem l05Ok_any (g cap : Nat) (zs : List StarV) (w : World) (hb : zs.length ≤ 1048577) (h1 : Row w g zs) :
    Calls Tryz.prog 38 #[.slice (some ⟨g, 0, none⟩) zs.length cap] w fun e w' => e = .returned (.bool (okL zs)) ∧ Below w.heap.size w w' := by
  have H1 := Lib.hid h1
  have KN := Lib.hid (okZ_next zs)
  have KS := Lib.hid (okZ_stop zs)
  have KE : Hid (okL zs = (okZ zs zs.length && decide (zs.length ≤ 24))) := Lib.hid rfl
  generalize okL zs = r at *
  clear h1
  go_enter Tryz.func38, Tryz.ntmps38
  go_wp2_with fail
  go_loopg [3] (zs.length + 1) (fun kx s3 wr => ∃ j : Nat, s3 = .int .i64 (j : Int) ∧ j ≤ zs.length ∧ kx = zs.length + 1 - j ∧ Hid (okZ zs j = true) ∧ Hid (Below w.heap.size w wr))
  case atStart => exact ⟨0, rfl, Nat.zero_le _, rfl, Lib.hid rfl, Lib.hid (Below.refl _ _)⟩
  case round =>
    obtain ⟨j, rfl, hj, rfl, HO, HB⟩ := hrel
    by_cases hlt : j < zs.length
    · have hR := H1.out.below HB.out
      have hat := hR.at j hlt
      have O := Lib.hid (fun n => l05One_at g (j * 5) zs[j] (wr.drewN n) hat.drewN)
      have HS := Lib.hid (KS.out j hlt)
      have HN := Lib.hid (KN.out j)
      have GD := getD_at zs j hlt
      have j0 : (0 : Int) ≤ (j : Int) := by omega
      have j1 : (j : Int) < (zs.length : Int) := by omega
      have c0 := hat.c0
      cases hg : zs[j].good with
      | false =>
        have hst : stepB zs j = false := by unfold stepB; rw [GD, hg]; rfl
        have hr : r = false := HS.out hst
        rw [hg] at O
        subst hr
        clear hg hst GD hat c0 hR
        go_wp2_with fail
        go_quiet ((go_at_call 46; with_reducible exact quiet_dd (O.out _)))
        rename Nat => q1
        go_wp2_with fail
        go_ret
        exact ⟨rfl, bel_drewNS HB.out _⟩
      | true =>
        rw [hg] at O
        by_cases hz : j = 0
        · subst hz
          have hst : okZ zs (0 + 1) = true := by rw [HN.out, stepB_zero, GD, hg]; rfl
          have HT := Lib.hid hst
          clear hg hst GD hat c0 hR
          go_wp2_with fail
          go_quiet ((go_at_call 46; with_reducible exact quiet_dd (O.out _)))
          rename Nat => q1
          go_wp2_with fail
          go_roundg (zs.length + 1 - (0 + 1))
          case measure => omega
          case rel => exact ⟨0 + 1, by go_num, by omega, by omega, HT, Lib.hid (bel_drewNS HB.out _)⟩
        · obtain ⟨k, hk⟩ : ∃ k, j = k + 1 := ⟨j - 1, by omega⟩
          have hkl : k < zs.length := by omega
          have p0 := (hR.at k hkl).c0
          have hst : stepB zs j = ltS (zs[k]'hkl).s zs[j].s := by rw [stepB_pos zs j k hk, GD, getD_at zs k hkl, hg, Bool.true_and]
          have ek : (j : Int) - 1 = (k : Int) := by omega
          have k0 : (0 : Int) ≤ (k : Int) := by omega
          have k1 : (k : Int) < (zs.length : Int) := by omega
          have kg : 0 < j := by omega
          have kd : decide (0 < j) = true := by simpa using kg
          have wk : IntKind.i64.wrap (k : Int) = (k : Int) := IntWalk.i64_in _ (by omega)
          rw [hst] at HS HN
          clear hz hat hR GD hg hst hk
          have HL : Hid (ltS (zs[k]'hkl).s zs[j].s = Op.bytesLess (zs[k]'hkl).s.toList zs[j].s.toList) := Lib.hid rfl
          generalize ltS (zs[k]'hkl).s zs[j].s = lt at *
          generalize (zs[k]'hkl).s = ps at *
          generalize zs[j].s = cs at *
          have hl := HL.out
          cases lt with
          | true =>
            have hn : Op.bytesLess ps.toList cs.toList = true := hl.symm
            have HT : Hid (okZ zs (j + 1) = true) := Lib.hid (by rw [HN.out, HO.out]; rfl)
            clear hl
            go_wp2_with fail
            go_quiet ((go_at_call 46; with_reducible exact quiet_dd (O.out _)))
            rename Nat => q1
            go_wp2_with fail
            go_roundg (zs.length + 1 - (j + 1))
            case measure => omega
            case rel => exact ⟨j + 1, by go_num, by omega, by omega, HT, Lib.hid (bel_drewNS HB.out _)⟩
          | false =>
            have hn : Op.bytesLess ps.toList cs.toList = false := hl.symm
            have hr : r = false := HS.out rfl
            subst hr
            clear hl
            go_wp2_with fail
            go_quiet ((go_at_call 46; with_reducible exact quiet_dd (O.out _)))
            rename Nat => q1
            go_wp2_with fail
            go_ret
            exact ⟨rfl, bel_drewNS HB.out _⟩
    · obtain rfl : j = zs.length := by omega
      go_wp2_with fail
      go_ret
      refine ⟨ret_bool ?_, HB.out⟩
      rw [KE.out, HO.out, Bool.true_and]
      simp only [decide_eq_decide]
      omega
end Go.Proofs.YtjghopepgfgebaaGreatDoor
