/-
  Rows of cues put together (slices.Grow, slices.Concat), and DropCue (both packages).
-/
import Derived.Test.YtfloppjkfcbgiaaCueQ
import Derived.Test.YtfloppjkfcbgiaaCueN
import Derived.Test.YtfloppjkfcbgiaaShelfGr
import Derived.Sort.OwnSortedInts
import Derived.Deep.LoopGhost
namespace Go.Proofs.Ytfloppjkfcbgiaa.Cue
open Go.RowKit Go.Lib
open Sm (memS)
set_option linter.unusedVariables false

theorem add_pl (g o j : Nat) : ((⟨g, o, none⟩ : Addr).add j) = ⟨g, o + j, none⟩ := by unfold Addr.add; split <;> simp_all
/-- A part of a row. -/
structure Part where
  g : Nat
  off : Nat
  cap : Nat
  zs : List V
def Part.val (p : Part) : Value := .slice (some ⟨p.g, p.off, none⟩) p.zs.length p.cap
def Part.src (W : World) (p : Part) : Prop := p.g < W.heap.size ∧ ∀ j u, (flat p.zs)[j]? = some u → W.cell? ((⟨p.g, p.off, none⟩ : Addr).add j) = some u
theorem Part.src.below {W W' : World} {p : Part} (h : p.src W) (hb : Below W.heap.size W W') : p.src W' :=
  ⟨Nat.lt_of_lt_of_le h.1 hb.size, fun j u hj => by
    have := h.2 j u hj
    rw [add_pl] at this ⊢
    exact (hb.cell (p := ⟨p.g, p.off + j, none⟩) h.1).trans this⟩
theorem src_take {W : World} {g : Nat} {zs : List V} (h : Row W g zs) (k cap : Nat) : (⟨g, 0, cap, zs.take k⟩ : Part).src W := ⟨h.lt, fun j u hj => by
  rw [flat_take, List.getElem?_take] at hj
  split at hj
  · exact h.src j u hj
  · cases hj⟩
theorem src_drop {W : World} {g : Nat} {zs : List V} (h : Row W g zs) (k cap : Nat) : (⟨g, k * 6, cap, zs.drop k⟩ : Part).src W := ⟨h.lt, fun j u hj => by
  rw [flat_drop, List.getElem?_drop] at hj
  have := h.src (k * 6 + j) u hj
  rw [add_pl] at this ⊢
  simpa using this⟩
theorem src_none {W : World} {g : Nat} (o cap : Nat) (h : g < W.heap.size) : (⟨g, o, cap, []⟩ : Part).src W := ⟨h, fun j u hj => by simp [flat] at hj⟩
def upP (ps : List Part) (j : Nat) : List V := (ps.take j).flatMap Part.zs
theorem upP_next (ps : List Part) (j : Nat) (h : j < ps.length) : upP ps (j + 1) = upP ps j ++ ps[j].zs := by
  unfold upP
  rw [List.take_succ_eq_append_getElem h, List.flatMap_append]
  simp
theorem upP_le (ps : List Part) : ∀ j, j ≤ ps.length → (upP ps j).length ≤ (ps.flatMap Part.zs).length := by
  intro j hj
  have e : ps.flatMap Part.zs = upP ps j ++ (ps.drop j).flatMap Part.zs := by
    unfold upP
    rw [← List.flatMap_append, List.take_append_drop]
  rw [e, List.length_append]
  omega

set_option maxRecDepth 100000 in
set_option maxHeartbeats 1000000 in
/-- Grow of nil: room for n. -/
theorem grow_any (n : Nat) (hn : n ≤ 64) (w : World) :
    Calls Try.prog 114 #[.slice none 0 0, .int .i64 (n : Int)] w fun e w' => ∃ v, e = .returned v ∧ w'.ownsRow w.heap.size 26 6 v 0 [] ∧ Below w.heap.size w w' := by
  by_cases h0 : n = 0
  · subst h0
    have h := Any8.slices_Grow_room Try.growC none 0 0 0 w (by omega) (by omega) (by omega) (by omega)
    change Calls Try.prog 114 _ _ _ at h
    exact h.mono fun e w' ⟨he, hw⟩ => ⟨_, he, by subst hw; exact World.ownsRow_nil _ _ _ _, by subst hw; exact Below.refl _ _⟩
  · obtain ⟨i0, hi, hzz⟩ := Option.map_eq_some_iff.1 info_rec
    simp only [Prod.mk.injEq] at hzz
    obtain ⟨hz0, hz1, hz2⟩ := hzz
    have h := Any8.slices_Grow_grow Try.growC i0 (.agg #[.string ByteArray.empty, .int .i64 0, .int .i64 0, .string ByteArray.empty, .int .i64 0, .int .i64 0]) hi hz0 (by rw [hz1]; omega) none 0 0 n [] w (by omega) (by omega) (by rw [hz2]; omega) (by omega) (by simp) (fun _ => rfl) (fun a h => by cases h)
    change Calls Try.prog 114 _ _ _ at h
    refine h.mono fun e w' ⟨he, hw⟩ => ⟨_, he, ?_, ?_⟩
    · subst hw
      have hge := grownCap_ge w (0 + n) 0 26
      have hle := grownCap_le_maxLen w (0 + n) 0 26 (by unfold maxLen; omega)
      refine ⟨by simp, .inr ⟨w.heap.size, _, _, rfl, Nat.le_refl _, heap_alloc_new w.drew _, Nat.zero_le _, hle, ?_, by simp⟩⟩
      have e0 : ∀ k, (Builtin.zeroCells (Value.agg #[.string ByteArray.empty, .int .i64 0, .int .i64 0, .string ByteArray.empty, .int .i64 0, .int .i64 0]).cells k).size = k * 6 := fun k => by simp [Builtin.zeroCells, Value.cells]
      simp only [Array.size_append, e0]
      show 0 + (0 + n - 0) * 6 + _ = _ * 6
      change 0 + (0 + n - 0) * 6 + (grownCap w (0 + n) 0 26 - (0 + n)) * 6 = grownCap w (0 + n) 0 26 * 6
      omega
    · subst hw
      exact (⟨rfl, rfl, rfl, Nat.le_refl _, fun _ _ => rfl⟩ : Below w.heap.size w w.drew).alloc (Nat.le_refl _) _

set_option maxRecDepth 100000 in
set_option maxHeartbeats 4000000 in
theorem concat_any (b cap : Nat) (ps : List Part) (w : World) (h16 : ps.length ≤ 3) (hsum : (ps.flatMap Part.zs).length ≤ 64) (hc : ∀ j, (h : j < ps.length) → w.cell? ⟨b, j, none⟩ = some ps[j].val) (hs : ∀ j, (h : j < ps.length) → ps[j].src w) :
    Calls Try.prog 95 #[.slice (some ⟨b, 0, none⟩) ps.length cap] w fun e w' => ∃ v, e = .returned v ∧ Own w' w.heap.size w'.heap.size v (ps.flatMap Part.zs) ∧ Below w.heap.size w w' := by
  have HC := Lib.hid hc
  have HS := Lib.hid hs
  have UN := Lib.hid (upP_next ps)
  have UL := Lib.hid (upP_le ps)
  have U0 : Hid (upP ps 0 = []) := Lib.hid rfl
  have UE : Hid (upP ps ps.length = ps.flatMap Part.zs) := Lib.hid (by unfold upP; rw [List.take_length])
  have GR := Lib.hid (fun w => grow_any (ps.flatMap Part.zs).length hsum w)
  have HM := Lib.hid hsum
  generalize ps.flatMap Part.zs = r at *
  generalize upP ps = S at *
  clear hc hs hsum
  obtain ⟨i0, hi, hzz⟩ := Option.map_eq_some_iff.1 info_rec
  simp only [Prod.mk.injEq] at hzz
  obtain ⟨hz0, hz1, hz2⟩ := hzz
  have HI := Lib.hid hi
  have HZ0 := Lib.hid hz0
  have HZ1 := Lib.hid hz1
  have HZ2 := Lib.hid hz2
  clear hi hz0 hz1 hz2
  have hb0 : 0 < ps.length → b < w.heap.size := fun h => World.block_lt_of_cell? w ⟨b, 0, none⟩ (HC.out 0 h)
  have HBB := Lib.hid hb0
  clear hb0
  go_enter Try.func95, Try.ntmps95
  go_wp2_with fail
  go_loopg [3, 11] (ps.length + 1) (fun kx s3 s11 wr => ∃ j : Nat, s3 = .int .i64 ((S j).length : Int) ∧ s11 = .int .i64 (j : Int) ∧ j ≤ ps.length ∧ kx = ps.length + 1 - j ∧ wr = w)
  case atStart => exact ⟨0, by rw [U0.out]; rfl, rfl, Nat.zero_le _, rfl, rfl⟩
  case round =>
    obtain ⟨j, rfl, rfl, hj, rfl, hww⟩ := hrel
    have hww' := hww.symm
    subst hww'
    by_cases hlt : j < ps.length
    · have c0 := HC.out j hlt
      have un := UN.out j hlt
      have u1 := UL.out j hj
      have u2 := UL.out (j + 1) (by omega)
      have hm := HM.out
      have l1 : (S (j + 1)).length = (S j).length + ps[j].zs.length := by rw [un, List.length_append]
      unfold Part.val at c0
      have LN : Hid ((S (j + 1)).length = (S j).length + ps[j].zs.length) := Lib.hid l1
      generalize ps[j] = p at *
      obtain ⟨pg, po, pc, pz⟩ := p
      simp only at c0 l1 LN un
      have j0 : (0 : Int) ≤ (j : Int) := by omega
      have j1 : (j : Int) < (ps.length : Int) := by omega
      have q1 : (0 : Int) ≤ ((S j).length : Int) + (pz.length : Int) := by omega
      have q2 : ((S j).length : Int) + (pz.length : Int) ≤ 64 := by omega
      clear un l1 u1 u2 hm
      go_wp2_with fail
      go_roundg (ps.length + 1 - (j + 1))
      case measure => omega
      case rel => exact ⟨j + 1, by rw [LN.out]; go_num, by go_num, by omega, by omega, rfl⟩
    · obtain rfl : j = ps.length := by omega
      have ue := UE.out
      rw [ue]
      go_wp2_with fail
      refine (GR.out _).mono ?_
      rintro e w1 ⟨v1, rfl, hown1, hb1⟩
      have HO1 : Hid (w1.ownsRow w.heap.size 26 6 v1 (S 0).length (flat (S 0))) := Lib.hid (by rw [U0.out]; exact hown1)
      have HB1 := Lib.hid hb1
      clear hown1 hb1 GR ue
      go_wp2_with fail
      go_loopg [6, 27] (ps.length + 1) (fun kx s6 s27 wr => ∃ j : Nat, s27 = .int .i64 (j : Int) ∧ j ≤ ps.length ∧ kx = ps.length + 1 - j ∧ Hid (wr.ownsRow w.heap.size 26 6 s6 (S j).length (flat (S j))) ∧ Hid (Below w.heap.size w wr))
      case atStart => exact ⟨0, rfl, Nat.zero_le _, rfl, HO1, HB1⟩
      case round =>
        obtain ⟨j, rfl, hj2, rfl, HO, HB⟩ := hrel
        by_cases hlt2 : j < ps.length
        · have c0 := (HB.out.cell (p := ⟨b, j, none⟩) (HBB.out (by omega))).trans (HC.out j hlt2)
          have sr := (HS.out j hlt2).below HB.out
          have un := UN.out j hlt2
          have u2 := UL.out (j + 1) (by omega)
          have hm := HM.out
          have l1 : (S (j + 1)).length = (S j).length + ps[j].zs.length := by rw [un, List.length_append]
          unfold Part.val at c0
          generalize ps[j] = p at *
          obtain ⟨pg, po, pc, pz⟩ := p
          obtain ⟨sr1, sr2⟩ := sr
          simp only at c0 l1 un sr1 sr2
          have UNJ := Lib.hid un
          have LNJ := Lib.hid l1
          have S1 := Lib.hid sr2
          have P1 := Lib.hid (flat_one pz)
          have F1 := Lib.hid (flat_len pz)
          have j0 : (0 : Int) ≤ (j : Int) := by omega
          have j1 : (j : Int) < (ps.length : Int) := by omega
          have hi := HI.out
          have hz0 := HZ0.out
          have hz1 := HZ1.out
          have hz2 := HZ2.out
          have h63 : (S j).length + pz.length ≤ maxLen := by unfold maxLen; omega
          have hby : ((S j).length + pz.length) * 64 ≤ 140737488355328 := by omega
          have hbs := HB.out.size
          have hown := HO.out
          clear HO un l1 u2 hm sr2
          go_wp2_with (at_builtin; refine wpList_append_own _ rfl _ _ 32 rfl w.heap.size 26 i0 (.agg #[.string ByteArray.empty, .int .i64 0, .int .i64 0, .string ByteArray.empty, .int .i64 0, .int .i64 0]) 6 64 Try.underlying32 hi hz0 hz1 hz2 rfl (by decide) _ _ _ rfl hown ⟨pg, po, none⟩ pz.length pc (flat pz) rfl F1.out S1.out P1.out h63 hby hbs ?_)
          intro v' w5 hown' hgrow _
          have hb2 := HB.out.grown hgrow hbs (fun k hk => (hown.lt k hk).1)
          have ho : w5.ownsRow w.heap.size 26 6 v' (S (j + 1)).length (flat (S (j + 1))) := by
            rw [UNJ.out, List.length_append, flat_app]
            exact hown'
          have HO2 := Lib.hid ho
          have HB5 := Lib.hid hb2
          clear hown hown' hgrow ho hb2 hi hz0 hz1 hz2 c0 h63 hby
          go_wp2_with fail
          go_roundg (ps.length + 1 - (j + 1))
          case measure => omega
          case rel => exact ⟨j + 1, by go_num, by omega, by omega, HO2, HB5⟩
        · obtain rfl : j = ps.length := by omega
          have ho := HO.out
          rw [UE.out] at ho
          go_wp2_with fail
          go_ret
          exact ⟨_, rfl, Own.mk ho, HB.out⟩
end Go.Proofs.Ytfloppjkfcbgiaa.Cue
