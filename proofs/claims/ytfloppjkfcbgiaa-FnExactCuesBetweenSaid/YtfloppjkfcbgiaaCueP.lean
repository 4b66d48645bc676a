/-
  Valid lists of cues (package impl): cuePlaces, ValidCues.
-/
import Derived.Test.YtfloppjkfcbgiaaCueI
import Derived.Deep.LoopGhost
import Derived.IntWalk
namespace Go.Proofs.Ytfloppjkfcbgiaa.Cue
open Go.RowKit
open Sm (memS)
set_option linter.unusedVariables false

def valV (zs : List V) (j : Nat) (y : ByteArray) : Value := .int .i64 (valN zs j y : Int)
theorem valV_succ (zs : List V) (j : Nat) : valV zs (j + 1) = fun y => if y = (zs.getD j zero).f0 then .int .i64 (j : Int) else valV zs j y := by
  funext y
  unfold valV
  show Value.int .i64 (((if y = (zs.getD j zero).f0 then j else valN zs j y) : Nat) : Int) = _
  by_cases c : y = (zs.getD j zero).f0
  · rw [if_pos c, if_pos c]
  · rw [if_neg c, if_neg c]
theorem keysN_succ (zs : List V) (j : Nat) : keysN zs (j + 1) = if (zs.getD j zero).f0 ∈ keysN zs j then keysN zs j else keysN zs j ++ [(zs.getD j zero).f0] := rfl

set_option maxRecDepth 100000 in
set_option maxHeartbeats 4000000 in
theorem places_any (g cap : Nat) (zs : List V) (w : World) (hb : zs.length ≤ 1048577) (h1 : Row w g zs) :
    Calls Try.prog 60 #[.slice (some ⟨g, 0, none⟩) zs.length cap] w fun e w' => e = .returned (.map (some w.heap.size)) ∧ Sm.IM w' w.heap.size (keysN zs zs.length) (valV zs zs.length) ∧ Below w.heap.size w w' := by
  have H1 := Lib.hid h1
  clear h1
  have hmm : (Instr.makeMap 71 (some (.int .i64 (zs.length : Int)))).run Try.prog w = .ok (.map (some w.heap.size)) (w.alloc (.map #[] 0)) := by simp [Instr.makeMap]; rfl
  have KS := Lib.hid (keysN_succ zs)
  have VS := Lib.hid (valV_succ zs)
  have KD := Lib.hid (keysN_nodup zs)
  have M0 : Hid (Sm.IM (w.alloc (.map #[] 0)) w.heap.size (keysN zs 0) (valV zs 0)) := Lib.hid ((Sm.im_new w).congr (fun k hk => by cases hk))
  generalize keysN zs = K at *
  generalize valV zs = VV at *
  go_enter Try.func60, Try.ntmps60
  go_wp2_with fail
  clear hmm
  go_loopg [11] (zs.length + 1) (fun kx s11 wr => ∃ (j : Nat), s11 = .int .i64 (j : Int) ∧ j ≤ zs.length ∧ kx = zs.length + 1 - j ∧ Hid (Sm.IM wr w.heap.size (K j) (VV j)) ∧ Hid (Below w.heap.size w wr))
  case atStart => exact ⟨0, rfl, Nat.zero_le _, rfl, M0, Lib.hid ((Below.refl _ w).alloc (Nat.le_refl _) _)⟩
  case round =>
    obtain ⟨j, rfl, hj, rfl, HM, HB⟩ := hrel
    by_cases hlt : j < zs.length
    · have j0 : (0 : Int) ≤ (j : Int) := by omega
      have j1 : (j : Int) < (zs.length : Int) := by omega
      obtain ⟨c0, c1, c2, c3, c4, c5⟩ := (H1.out.below HB.out).at j hlt
      have KSj := KS.out j
      have VSj := VS.out j
      rw [getD_at zs j hlt] at KSj VSj
      have KDj := KD.out j
      generalize zs[j] = x at *
      obtain ⟨x0, x1, x2, x3, x4, x5⟩ := x
      simp only at c0 c1 c2 c3 c4 c5 KSj VSj
      obtain ⟨W1, hW1⟩ : ∃ W1, W1 = wr.alloc (Obj.cells #[.string x0, .int .i64 x1, .int .i64 x2, .string x3, .int .i64 x4, .int .i64 x5] 26) := ⟨_, rfl⟩
      have hb1 : Below wr.heap.size wr W1 := by rw [hW1]; exact (Below.refl _ _).alloc (Nat.le_refl _) _
      have hm1 := HM.out.below hb1
      obtain ⟨w3, hput, hm3, hg3⟩ := hm1.put (P := Try.prog) (t := 71) (k := 9) (e := 3) KDj Try.underlying71 Try.underlying9 x0 (.int .i64 (j : Int))
      rw [← KSj, ← VSj] at hm3
      have HM3 := Lib.hid hm3
      have hBw : Below w.heap.size w W1 := HB.out.trans (hb1.mono HB.out.size)
      have HB3 := Lib.hid (hBw.grown hg3 hBw.size (fun kk hk => by cases hk; exact Nat.le_refl _))
      rw [hW1] at hput
      have d0 : W1.cell? ⟨wr.heap.size, 0, none⟩ = some (.string x0) := by rw [hW1]; simp
      clear hm1 hm3 hg3 hBw hb1 KSj VSj hW1
      go_wp2_with fail
      go_roundg (zs.length + 1 - (j + 1))
      case measure => omega
      case rel => exact ⟨j + 1, by go_num, by omega, by omega, HM3, HB3⟩
    · obtain rfl : j = zs.length := by omega
      go_wp2_with fail
      go_ret
      exact ⟨rfl, HM.out, HB.out⟩

set_option maxRecDepth 100000 in
set_option maxHeartbeats 2000000 in
theorem implValid_any (g cap : Nat) (zs : List V) (w : World) (hb : zs.length ≤ 1048577) (h1 : Row w g zs) (hok : ∀ j, (h : j < zs.length) → zs[j].txt) :
    Calls Try.prog 21 #[.slice (some ⟨g, 0, none⟩) zs.length cap] w fun e w' => e = .returned (.bool (cuesB zs)) ∧ Below w.heap.size w w' := by
  have IC := Lib.hid (incr_any g cap zs w hb h1 hok)
  have PL := Lib.hid (fun (W : World) (hB : Below w.heap.size w W) => places_any g cap zs W hb (h1.below hB))
  have KE := Lib.hid (keysN_len_eq zs)
  clear h1 hok
  unfold cuesB
  cases hi : incB zs with
  | false =>
    rw [hi] at IC
    rw [Bool.false_and]
    clear hi
    go_enter Try.func21, Try.ntmps21
    go_wp2_with fail
    refine (IC.out).mono ?_
    rintro e w1 ⟨rfl, hb1⟩
    go_wp2_with fail
    go_ret
    exact ⟨rfl, hb1⟩
  | true =>
    rw [hi] at IC
    rw [Bool.true_and]
    clear hi
    go_enter Try.func21, Try.ntmps21
    go_wp2_with fail
    refine (IC.out).mono ?_
    rintro e w1 ⟨rfl, hb1⟩
    have HB1 := Lib.hid hb1
    clear hb1
    go_wp2_with fail
    refine (PL.out _ HB1.out).mono ?_
    rintro e w2 ⟨rfl, hm, hb2⟩
    have HB2 := Lib.hid (HB1.out.trans (hb2.mono HB1.out.size))
    have hl := hm.len (P := Try.prog) (t := 71) (k := 9) (e := 3) Try.underlying71
    have ke := KE.out
    generalize (keysN zs zs.length).length = n at *
    clear hm hb2
    go_wp2_with fail
    go_ret
    exact ⟨rfl, HB2.out⟩
end Go.Proofs.Ytfloppjkfcbgiaa.Cue
