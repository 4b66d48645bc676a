/-
  VisibleStars (package impl).
-/
import Derived.Test.YtjghopepgfgebaaGreatDoorVsSort
import Derived.Test.YtjghopepgfgebaaGreatDoorFigB
namespace Go.Proofs.YtjghopepgfgebaaGreatDoor
open Go.RowKit
set_option linter.unusedVariables false

def allG (zs : List StarV) : Bool := zs.all StarV.good
theorem allG_not {zs : List StarV} (j : Nat) (hj : j < zs.length) (h : zs[j].good = false) : allG zs = false := by
  unfold allG
  rw [List.all_eq_false]
  exact ⟨zs[j], List.getElem_mem hj, by rw [h]; simp⟩
theorem allG_all {zs : List StarV} (h : ∀ j, (hj : j < zs.length) → zs[j].good = true) : allG zs = true := by
  unfold allG
  rw [List.all_eq_true]
  intro x hx
  obtain ⟨j, hj, rfl⟩ := List.getElem_of_mem hx
  exact h j hj
/-- What VisibleStars answers. -/
def vsV (zs : List StarV) (t : ByteArray) (lo la sid least : Int) : List Int × Int :=
  if (siteB t lo la && allG zs) = true then (if (inR 0 359999 [sid] && inR (-90000) 90000 [least]) = true then (if 24 < zs.length then ([], 5) else (asI (visV (altF la sid zs) least zs.length), 0)) else ([], 2)) else ([], 1)
theorem vsV_len (zs : List StarV) (t : ByteArray) (lo la sid least : Int) : (vsV zs t lo la sid least).1.length ≤ 1048576 := by
  unfold vsV
  split
  · split
    · split
      · exact Nat.zero_le _
      · have := visV_len (altF la sid zs) least zs.length
        show (asI _).length ≤ _
        rw [asI_len]
        omega
    · exact Nat.zero_le _
  · exact Nat.zero_le _

set_option maxHeartbeats 1000000 in
theorem notGood_any (s : ByteArray) (a b c d : Int) (hmax : s.size ≤ maxLen) (w : World) :
    Calls Tryz.prog 29 #[.agg #[.string s, .int .i64 a, .int .i64 b, .int .i64 c, .int .i64 d]] w fun e w' => e = .returned (.bool (!starB s a b c d)) ∧ Below w.heap.size w w' := by
  have V := Lib.hid (fun w => validStar_any s a b c d hmax w)
  generalize starB s a b c d = p at *
  go_enter Tryz.func29, Tryz.ntmps29
  go_wp2_with fail
  refine (V.out _).mono ?_
  rintro e w1 ⟨rfl, hb⟩
  have hsw1 := hb.size
  try simp at hsw1
  obtain ⟨hcw1, hfw1⟩ := bcell hb
  have HBw1 : Hid (Below w.heap.size w w1) := by
    apply Lib.hid
    refine Below.trans ?_ (hb.mono ?_)
    · repeat (first | exact Below.refl _ _ | refine Below.setCell ?_ (by first | (simp; done) | omega | (simp; omega)) _ | refine Below.alloc ?_ (by first | (simp; done) | omega | (simp; omega)) _)
    · first | (simp; done) | omega | (simp; omega)
  have hzw1 : w.heap.size < w1.heap.size := by have := hb.size; (try simp at this); omega
  clear hb
  go_wp2_with fail
  go_ret
  refine ⟨rfl, ?_⟩
  repeat (first | exact Below.refl _ _ | exact HBw1.out | refine Below.setCell ?_ (by first | (simp; done) | omega | (simp; omega)) _ | refine Below.alloc ?_ (by first | (simp; done) | omega | (simp; omega)) _ | refine bel_drew ?_)

set_option maxRecDepth 100000 in
set_option maxHeartbeats 2000000 in
theorem indexBad_any (g cap : Nat) (zs : List StarV) (w : World) (hb : zs.length ≤ 1048577) (h1 : Row w g zs) (hok : ∀ j, (h : j < zs.length) → zs[j].ok) :
    Calls Tryz.prog 51 #[.slice (some ⟨g, 0, none⟩) zs.length cap, .func (.func 29) #[] #[]] w fun e w' => ∃ r : Int, e = .returned (.int .i64 r) ∧ (decide (0 ≤ r) = !allG zs) ∧ Below w.heap.size w w' := by
  have H1 := Lib.hid h1
  have OK := Lib.hid hok
  have eg : ∀ args w, (callFunc 29 args).run Tryz.prog w = .ok (.enter 29 args) w := enters_of Tryz.func29 (by kernel_rfl) rfl
  clear h1 hok
  go_enter Tryz.func51, Tryz.ntmps51
  go_wp2_with fail
  go_loopg [8] (zs.length + 1) (fun kx s8 wr => ∃ j : Nat, s8 = .int .i64 (j : Int) ∧ j ≤ zs.length ∧ kx = zs.length + 1 - j ∧ Hid (∀ k, (hk : k < zs.length) → k < j → zs[k].good = true) ∧ Hid (Below w.heap.size w wr))
  case atStart => exact ⟨0, rfl, Nat.zero_le _, rfl, Lib.hid (fun _ _ h => absurd h (Nat.not_lt_zero _)), Lib.hid (Below.refl _ _)⟩
  case round =>
    obtain ⟨j, rfl, hj, rfl, HG, HB⟩ := hrel
    by_cases hlt : j < zs.length
    · obtain ⟨c0, c1, c2, c3, c4⟩ := (H1.out.below HB.out).at j hlt
      obtain ⟨ho1, ho2, ho3, ho4, ho5⟩ := OK.out j hlt
      have NG := Lib.hid (fun w => notGood_any zs[j].s zs[j].a zs[j].b zs[j].c zs[j].d ho1 w)
      have GJ : Hid (starB zs[j].s zs[j].a zs[j].b zs[j].c zs[j].d = zs[j].good) := Lib.hid rfl
      have AF := Lib.hid (fun h => allG_not (zs := zs) j hlt h)
      rw [GJ.out] at NG
      have NX : Hid (zs[j].good = true → ∀ k, (hk : k < zs.length) → k < j + 1 → zs[k].good = true) := Lib.hid (fun h k hk hkj => by
        by_cases c : k = j
        · subst c; exact h
        · exact HG.out k hk (by omega))
      clear GJ ho1 ho2 ho3 ho4 ho5
      generalize zs[j].good = p at *
      generalize zs[j] = x at *
      obtain ⟨xs, xa, xb, xc, xd⟩ := x
      simp only at c0 c1 c2 c3 c4 NG
      have j0 : (0 : Int) ≤ (j : Int) := by omega
      have j1 : (j : Int) < (zs.length : Int) := by omega
      cases p with
      | false =>
        go_wp2_with (go_at_fn 29; refine (NG.out _).mono ?_; rintro e w2 ⟨rfl, hb2⟩)
        have HB2 := Lib.hid (HB.out.trans (hb2.mono HB.out.size))
        clear hb2
        go_wp2_with fail
        go_ret
        exact ⟨_, rfl, by rw [AF.out (by first | rfl | trivial)]; simp, HB2.out⟩
      | true =>
        go_wp2_with (go_at_fn 29; refine (NG.out _).mono ?_; rintro e w2 ⟨rfl, hb2⟩)
        have HB2 := Lib.hid (HB.out.trans (hb2.mono HB.out.size))
        clear hb2 c0 c1 c2 c3 c4
        go_wp2_with fail
        go_roundg (zs.length + 1 - (j + 1))
        case measure => omega
        case rel => exact ⟨j + 1, by go_num, by omega, by omega, Lib.hid (NX.out (by first | rfl | trivial)), HB2⟩
    · obtain rfl : j = zs.length := by omega
      have AT := Lib.hid (allG_all (zs := zs) (fun k hk => HG.out k hk hk))
      go_wp2_with fail
      go_ret
      exact ⟨_, rfl, by rw [AT.out]; simp, HB.out⟩
set_option maxRecDepth 100000 in
theorem anyBad_any (g cap : Nat) (zs : List StarV) (w : World) (hb : zs.length ≤ 1048577) (h1 : Row w g zs) (hok : ∀ j, (h : j < zs.length) → zs[j].ok) :
    Calls Tryz.prog 28 #[.slice (some ⟨g, 0, none⟩) zs.length cap, .func (.func 29) #[] #[]] w fun e w' => e = .returned (.bool (!allG zs)) ∧ Below w.heap.size w w' := by
  have I := Lib.hid (indexBad_any g cap zs w hb h1 hok)
  clear h1 hok
  go_enter Tryz.func28, Tryz.ntmps28
  go_wp2_with fail
  refine I.out.mono ?_
  rintro e w1 ⟨r, rfl, hr, hb1⟩
  have HB1 := Lib.hid hb1
  have HR := Lib.hid hr
  clear hb1 hr
  go_wp2_with fail
  go_ret
  exact ⟨by rw [← HR.out]; rfl, HB1.out⟩

/-- While the stars are gathered: the two boxes, the altitudes, the row. -/
structure VK (w0 wr : World) (B Bv Ba G n : Nat) (f : Nat → Int) (L : List Nat) (gv cap : Nat) : Prop where
  bel : Below B w0 wr
  size : B ≤ wr.heap.size
  lo : B ≤ Bv
  lt : Bv < wr.heap.size ∧ Ba < wr.heap.size ∧ G < wr.heap.size
  ne : Ba ≠ Bv ∧ G ≠ Bv
  cv : wr.cell? ⟨Bv, 0, none⟩ = some (.slice (some ⟨gv, 0, none⟩) L.length cap)
  fz : wr.frozen? ⟨Bv, 0, none⟩ = false
  ca : wr.cell? ⟨Ba, 0, none⟩ = some (.slice (some ⟨G, 0, none⟩) n n)
  alt : ∀ k, k < n → wr.cell? ⟨G, k, none⟩ = some (.int .i64 (f k))
  own : wr.ownsRow B 2 1 (.slice (some ⟨gv, 0, none⟩) L.length cap) L.length ((asI L).map (Value.int .i64))
  ap : Bv ≠ gv ∧ Ba ≠ gv ∧ G ≠ gv
theorem VK.app {w0 wr w5 : World} {B Bv Ba G n gv cap gg cap2 i : Nat} {f : Nat → Int} {L : List Nat} {o : Obj} (h : VK w0 wr B Bv Ba G n f L gv cap) (hg : (wr.alloc o).grownBy w5 (some gv)) (hl : gv = gg ∨ gg = wr.heap.size + 1)
    (own : w5.ownsRow B 2 1 (.slice (some ⟨gg, 0, none⟩) (L.length + 1) cap2) (L.length + 1) ((asI (L ++ [i])).map (Value.int .i64))) :
    w5.cell? ⟨Bv, 0, none⟩ = some (.slice (some ⟨gv, 0, none⟩) L.length cap) ∧ w5.frozen? ⟨Bv, 0, none⟩ = false ∧ VK w0 (w5.setCell ⟨Bv, 0, none⟩ (.slice (some ⟨gg, 0, none⟩) (L.length + 1) cap2)) B Bv Ba G n f (L ++ [i]) gg cap2 := by
  have hba : Below wr.heap.size wr (wr.alloc o) := (Below.refl _ _).alloc (Nat.le_refl _) _
  have blk : ∀ b, b < wr.heap.size → b ≠ gv → w5.heap[b]? = wr.heap[b]? := fun b hb hne => (hg.block b (by have := hba.size; omega) (by simpa using hne)).trans (hba.block b hb)
  have e1 := World.cell?_of_block (a := ⟨Bv, 0, none⟩) (blk Bv h.lt.1 h.ap.1)
  have e2 := World.frozen?_of_block (a := ⟨Bv, 0, none⟩) (blk Bv h.lt.1 h.ap.1)
  have gB : B ≤ gg := (own.lt gg rfl).1
  have ha : Bv ≠ gg ∧ Ba ≠ gg ∧ G ≠ gg := by
    have h1 := h.ap
    have h2 := h.lt
    rcases hl with hl | hl
    · subst hl; exact h1
    · refine ⟨?_, ?_, ?_⟩ <;> omega
  have hs := hg.size
  have hs2 := hba.size
  have gs := gb_set w5 Bv 0 (.slice (some ⟨gg, 0, none⟩) (L.length + 1) cap2)
  have b5 : Below B w0 w5 := (h.bel.alloc h.size o).grown hg (Nat.le_trans h.size hs2) (fun k hk => by cases hk; exact (h.own.lt gv rfl).1)
  refine ⟨e1.trans h.cv, e2.trans h.fz, ⟨b5.setCell (p := ⟨Bv, 0, none⟩) h.lo _, ?_, h.lo, ?_, h.ne, ?_, ?_, ?_, ?_, ?_, ha⟩⟩
  · have := gs.size
    have := h.size
    omega
  · have := gs.size
    have := h.lt
    omega
  · rw [World.cell?_setCell_same _ _ _ (e1.trans h.cv), List.length_append]
    rfl
  · rw [World.frozen?_setCell]
    exact e2.trans h.fz
  · rw [World.cell?_of_block (gs.block Ba (by have := h.lt; omega) (by simpa using h.ne.1)), World.cell?_of_block (a := ⟨Ba, 0, none⟩) (blk Ba h.lt.2.1 h.ap.2.1)]
    exact h.ca
  · intro k hk
    rw [World.cell?_of_block (gs.block G (by have := h.lt; omega) (by simpa using h.ne.2)), World.cell?_of_block (a := ⟨G, k, none⟩) (blk G h.lt.2.2 h.ap.2.2)]
    exact h.alt k hk
  · rw [List.length_append]
    exact own.kept gs (Or.inr (by
      have := ha.1
      simp [Value.ownBlock]
      omega))

set_option maxRecDepth 100000 in
set_option maxHeartbeats 8000000 in
theorem implVs_any (t : ByteArray) (lo la sid least : Int) (ht : t.size ≤ maxLen) (g cap : Nat) (zs : List StarV) (w : World) (hw : SinesOK w) (hb : zs.length ≤ 1048577) (h1 : Row w g zs) (hok : ∀ j, (h : j < zs.length) → zs[j].ok) :
    Calls Tryz.prog 10 #[.agg #[.string t, .int .i64 lo, .int .i64 la], .int .i64 sid, .slice (some ⟨g, 0, none⟩) zs.length cap, .int .i64 least] w (VisPost (vsV zs t lo la sid least) w) := by
  have VS := Lib.hid (fun (W : World) => validSite_any t lo la ht W)
  have CF := Lib.hid (fun (W : World) (hB : Below w.heap.size w W) => anyBad_any g cap zs W hb (h1.below hB) hok)
  have IT := Lib.hid (fun (W : World) => isTurn_any sid W)
  have IE := Lib.hid (fun (W : World) => isElev_any least W)
  have E := Lib.hid hw
  obtain ⟨W0, hW0⟩ : ∃ W0, W0 = w.alloc (.cells #[.string t, .int .i64 lo, .int .i64 la] 30) := ⟨_, rfl⟩
  have hb0 : Below w.heap.size w W0 := by rw [hW0]; exact (Below.refl _ w).alloc (Nat.le_refl _) _
  have qz : W0.cell? ⟨w.heap.size, 0, none⟩ = some (.string t) ∧ W0.cell? ⟨w.heap.size, 1, none⟩ = some (.int .i64 lo) ∧ W0.cell? ⟨w.heap.size, 2, none⟩ = some (.int .i64 la) := by
    rw [hW0]
    refine ⟨?_, ?_, ?_⟩ <;> (rw [World.cell?_alloc_at _ _ _ _ (by simp)]; rfl)
  have QK : Hid (∀ W, Below W0.heap.size W0 W → W.cell? ⟨w.heap.size, 0, none⟩ = some (.string t) ∧ W.cell? ⟨w.heap.size, 1, none⟩ = some (.int .i64 lo) ∧ W.cell? ⟨w.heap.size, 2, none⟩ = some (.int .i64 la)) := Lib.hid (fun W h => by
    obtain ⟨k0, k1, k2⟩ := qz
    obtain ⟨c, _⟩ := bcell h
    have l0 := World.block_lt_of_cell? _ _ k0
    exact ⟨(c _ _ l0).trans k0, (c _ _ l0).trans k1, (c _ _ l0).trans k2⟩)
  have HA := Lib.hid hb0
  have asz : w.heap.size ≤ W0.heap.size := hb0.size
  have HW := Lib.hid hW0
  have H1 := Lib.hid h1
  have GOOD : Hid (allG zs = true → Dirs zs) := Lib.hid (fun h j hj => good_dir (by
    unfold allG at h
    exact List.all_eq_true.1 h _ (List.getElem_mem hj)))
  clear h1 hok hw hb0 qz hW0
  unfold vsV
  cases hsi : siteB t lo la with
  | false =>
    rw [Bool.false_and, if_neg (by simp)]
    rw [hsi] at VS
    clear hsi
    go_enter Tryz.func10, Tryz.ntmps10
    go_wp2_with fail
    rw [← HW.out]
    obtain ⟨q0, q1, q2⟩ := QK.out _ (Below.refl _ W0)
    refine (VS.out _).mono ?_
    rintro e w1 ⟨rfl, hb1⟩
    have HB1 := Lib.hid hb1
    clear hb1 q0 q1 q2
    go_wp2_with fail
    go_ret2
    exact ⟨_, rfl, World.ownsRow_nil _ _ _ _, HA.out.trans (HB1.out.mono asz)⟩
  | true =>
    rw [Bool.true_and]
    rw [hsi] at VS
    have hla : -90000 ≤ la ∧ la ≤ 90000 := by
      unfold siteB at hsi
      simp only [Bool.and_eq_true, inR_1, decide_eq_true_eq] at hsi
      omega
    clear hsi
    cases hg : allG zs with
    | false =>
      rw [if_neg (by simp)]
      rw [hg] at CF
      clear hg
      go_enter Tryz.func10, Tryz.ntmps10
      go_wp2_with fail
      rw [← HW.out]
      obtain ⟨q0, q1, q2⟩ := QK.out _ (Below.refl _ W0)
      refine (VS.out _).mono ?_
      rintro e w1 ⟨rfl, hb1⟩
      have HB1 := Lib.hid hb1
      clear hb1 q0 q1 q2
      go_wp2_with fail
      refine (CF.out _ (HA.out.trans (HB1.out.mono asz))).mono ?_
      rintro e w2 ⟨rfl, hb2⟩
      have HB2 := Lib.hid (HB1.out.trans (hb2.mono HB1.out.size))
      clear hb2
      go_wp2_with fail
      go_ret2
      exact ⟨_, rfl, World.ownsRow_nil _ _ _ _, HA.out.trans (HB2.out.mono asz)⟩
    | true =>
      rw [if_pos rfl]
      rw [hg] at CF
      have DS := Lib.hid (GOOD.out hg)
      clear hg
      cases hi : inR 0 359999 [sid] with
      | false =>
        rw [Bool.false_and, if_neg (by simp)]
        rw [hi] at IT
        clear hi
        go_enter Tryz.func10, Tryz.ntmps10
        go_wp2_with fail
        rw [← HW.out]
        obtain ⟨q0, q1, q2⟩ := QK.out _ (Below.refl _ W0)
        refine (VS.out _).mono ?_
        rintro e w1 ⟨rfl, hb1⟩
        have HB1 := Lib.hid hb1
        clear hb1 q0 q1 q2
        go_wp2_with fail
        refine (CF.out _ (HA.out.trans (HB1.out.mono asz))).mono ?_
        rintro e w2 ⟨rfl, hb2⟩
        have HB2 := Lib.hid (HB1.out.trans (hb2.mono HB1.out.size))
        clear hb2
        go_wp2_with fail
        refine (IT.out _).mono ?_
        rintro e w3 ⟨rfl, hb3⟩
        have HB3 := Lib.hid (HB2.out.trans (hb3.mono HB2.out.size))
        clear hb3
        go_wp2_with fail
        go_ret2
        exact ⟨_, rfl, World.ownsRow_nil _ _ _ _, HA.out.trans (HB3.out.mono asz)⟩
      | true =>
        rw [Bool.true_and]
        have hsid : 0 ≤ sid ∧ sid ≤ 359999 := by simpa only [inR_1, decide_eq_true_eq, Bool.and_eq_true] using hi
        rw [hi] at IT
        clear hi
        cases hl : inR (-90000) 90000 [least] with
        | false =>
          rw [if_neg (by simp)]
          rw [hl] at IE
          clear hl
          go_enter Tryz.func10, Tryz.ntmps10
          go_wp2_with fail
          rw [← HW.out]
          obtain ⟨q0, q1, q2⟩ := QK.out _ (Below.refl _ W0)
          refine (VS.out _).mono ?_
          rintro e w1 ⟨rfl, hb1⟩
          have HB1 := Lib.hid hb1
          clear hb1 q0 q1 q2
          go_wp2_with fail
          refine (CF.out _ (HA.out.trans (HB1.out.mono asz))).mono ?_
          rintro e w2 ⟨rfl, hb2⟩
          have HB2 := Lib.hid (HB1.out.trans (hb2.mono HB1.out.size))
          clear hb2
          go_wp2_with fail
          refine (IT.out _).mono ?_
          rintro e w3 ⟨rfl, hb3⟩
          have HB3 := Lib.hid (HB2.out.trans (hb3.mono HB2.out.size))
          clear hb3
          go_wp2_with fail
          refine (IE.out _).mono ?_
          rintro e w4 ⟨rfl, hb4⟩
          have HB4 := Lib.hid (HB3.out.trans (hb4.mono HB3.out.size))
          clear hb4
          go_wp2_with fail
          go_ret2
          exact ⟨_, rfl, World.ownsRow_nil _ _ _ _, HA.out.trans (HB4.out.mono asz)⟩
        | true =>
          rw [if_pos rfl]
          rw [hl] at IE
          clear hl
          by_cases h24 : 24 < zs.length
          · rw [if_pos h24]
            have h24i : decide ((24 : Int) < (zs.length : Int)) = true := by simp; omega
            clear h24
            go_enter Tryz.func10, Tryz.ntmps10
            go_wp2_with fail
            rw [← HW.out]
            obtain ⟨q0, q1, q2⟩ := QK.out _ (Below.refl _ W0)
            refine (VS.out _).mono ?_
            rintro e w1 ⟨rfl, hb1⟩
            have HB1 := Lib.hid hb1
            clear hb1 q0 q1 q2
            go_wp2_with fail
            refine (CF.out _ (HA.out.trans (HB1.out.mono asz))).mono ?_
            rintro e w2 ⟨rfl, hb2⟩
            have HB2 := Lib.hid (HB1.out.trans (hb2.mono HB1.out.size))
            clear hb2
            go_wp2_with fail
            refine (IT.out _).mono ?_
            rintro e w3 ⟨rfl, hb3⟩
            have HB3 := Lib.hid (HB2.out.trans (hb3.mono HB2.out.size))
            clear hb3
            go_wp2_with fail
            refine (IE.out _).mono ?_
            rintro e w4 ⟨rfl, hb4⟩
            have HB4 := Lib.hid (HB3.out.trans (hb4.mono HB3.out.size))
            clear hb4
            have h24n : 24 < zs.length := by have := of_decide_eq_true h24i; omega
            go_wp2_with fail
            go_ret2
            exact ⟨_, rfl, World.ownsRow_nil _ _ _ _, HA.out.trans (HB4.out.mono asz)⟩
          · rw [if_neg h24]
            have AL := Lib.hid (fun (W : World) (hB : Below w.heap.size w W) => altitudes_any t lo la sid g cap zs hla.1 hla.2 hsid.1 (by omega) W (E.out.below hB) hb (H1.out.below hB) DS.out)
            generalize altF la sid zs = f at *
            clear hla hsid
            go_enter Tryz.func10, Tryz.ntmps10
            go_wp2_with fail
            rw [← HW.out]
            obtain ⟨q0, q1, q2⟩ := QK.out _ (Below.refl _ W0)
            refine (VS.out _).mono ?_
            rintro e w1 ⟨rfl, hb1⟩
            have HB1 := Lib.hid hb1
            clear hb1 q0 q1 q2
            go_wp2_with fail
            refine (CF.out _ (HA.out.trans (HB1.out.mono asz))).mono ?_
            rintro e w2 ⟨rfl, hb2⟩
            have HB2 := Lib.hid (HB1.out.trans (hb2.mono HB1.out.size))
            clear hb2
            go_wp2_with fail
            refine (IT.out _).mono ?_
            rintro e w3 ⟨rfl, hb3⟩
            have HB3 := Lib.hid (HB2.out.trans (hb3.mono HB2.out.size))
            clear hb3
            go_wp2_with fail
            refine (IE.out _).mono ?_
            rintro e w4 ⟨rfl, hb4⟩
            have HB4 := Lib.hid (HB3.out.trans (hb4.mono HB3.out.size))
            clear hb4
            obtain ⟨q0, q1, q2⟩ := QK.out _ HB4.out
            go_wp2_with fail
            refine (AL.out _ (HA.out.trans (HB4.out.mono asz))).mono ?_
            rintro e w5 ⟨rfl, hI, hb5⟩
            have HB5 := Lib.hid (HB4.out.trans (hb5.mono HB4.out.size))
            have hGl := World.rowIs.lt hI
            have hg4 : w4.heap.size + 1 < w5.heap.size := hGl
            have VK0 : Hid (VK W0 (((w5.alloc (.cells #[] 2)).alloc (.cells #[.slice (some ⟨w4.heap.size + 1, 0, none⟩) zs.length zs.length] 27)).alloc (.cells #[.slice (some ⟨w5.heap.size, 0, none⟩) 0 0] 27)) W0.heap.size (w5.heap.size + 1 + 1) (w5.heap.size + 1) (w4.heap.size + 1) zs.length f [] w5.heap.size 0) := Lib.hid (by
              have s0 := HB5.out.size
              have b1 : Below w5.heap.size w5 (((w5.alloc (.cells #[] 2)).alloc (.cells #[.slice (some ⟨w4.heap.size + 1, 0, none⟩) zs.length zs.length] 27)).alloc (.cells #[.slice (some ⟨w5.heap.size, 0, none⟩) 0 0] 27)) := (((Below.refl _ w5).alloc (Nat.le_refl _) _).alloc (by simp) _).alloc (by simp; omega) _
              refine ⟨HB5.out.trans (b1.mono s0), Nat.le_trans s0 b1.size, by omega, by simp; omega, by omega, ?_, ?_, ?_, ?_, ?_, by omega⟩
              · rw [World.cell?_alloc_at _ _ _ _ (by simp)]
                rfl
              · have hh := heap_alloc_new ((w5.alloc (.cells #[] 2)).alloc (.cells #[.slice (some ⟨w4.heap.size + 1, 0, none⟩) zs.length zs.length] 27)) (.cells #[.slice (some ⟨w5.heap.size, 0, none⟩) 0 0] 27)
                have e : ((w5.alloc (.cells #[] 2)).alloc (.cells #[.slice (some ⟨w4.heap.size + 1, 0, none⟩) zs.length zs.length] 27)).heap.size = w5.heap.size + 1 + 1 := by simp
                rw [e] at hh
                unfold World.frozen?
                rw [hh]
                rfl
              · rw [World.cell?_alloc_lt _ _ _ (by simp), World.cell?_alloc_at _ _ _ _ (by simp)]
                rfl
              · intro k hk
                exact (b1.cell (p := ⟨w4.heap.size + 1, k, none⟩) hGl).trans (World.rowIs.cell hI hk)
              · exact ((World.ownsRow_lit (base := W0.heap.size) (e := 2) (size := 1) w5 #[] 0 s0 (by decide) rfl).alloc _).alloc _)
            clear hb5 hI hGl q0 q1 q2
            go_wp2_with fail
            generalize w5.heap.size + 1 + 1 = Bv at *
            generalize w5.heap.size + 1 = Ba at *
            generalize w4.heap.size + 1 = G at *
            go_loopg [43] (zs.length + 1) (fun kx s43 wr => ∃ j : Nat, s43 = .int .i64 (j : Int) ∧ j ≤ zs.length ∧ kx = zs.length + 1 - j ∧ Hid (∃ gv cp, VK W0 wr W0.heap.size Bv Ba G zs.length f (upL f least j) gv cp))
            case atStart => exact ⟨0, rfl, Nat.zero_le _, rfl, Lib.hid ⟨_, _, VK0.out⟩⟩
            case round =>
              clear VK0
              obtain ⟨j, rfl, hj, rfl, HV⟩ := hrel
              obtain ⟨gv, cp, hV⟩ := HV.out
              clear HV
              by_cases hlt : j < zs.length
              · have cj := hV.alt j hlt
                have cv := hV.cv
                have UN := Lib.hid (upL_next f least j)
                have hnl := upL_len f least j
                obtain ⟨hh, hhh⟩ : ∃ hh, hh = f j := ⟨_, rfl⟩
                rw [← hhh] at cj UN
                clear hhh
                obtain ⟨L, hL⟩ : ∃ L, L = upL f least j := ⟨_, rfl⟩
                rw [← hL] at cv UN hnl hV
                clear hL
                have j0 : (0 : Int) ≤ (j : Int) := by omega
                have j1 : (j : Int) < (zs.length : Int) := by omega
                by_cases hc : least ≤ hh
                · rw [if_pos hc] at UN
                  have hown := hV.own
                  have hsz := hV.size
                  have HV := Lib.hid hV
                  obtain ⟨i0, hi, hzz⟩ := Option.map_eq_some_iff.1 info_n64
                  simp only [Prod.mk.injEq] at hzz
                  obtain ⟨hz0, hz1, hz2⟩ := hzz
                  clear hV
                  go_wp2_with (at_builtin; refine wpList_append_lies _ rfl _ _ 27 rfl W0.heap.size 2 i0 (.int .i64 0) 1 8 Tryz.underlying27 hi hz0 hz1 hz2 rfl (by decide) _ _ _ rfl (hown.alloc _) ⟨wr.heap.size, 0, none⟩ 1 1 [.int .i64 (j : Int)] rfl rfl ?c1 ?c2 ?c0 ?c3 ?c4 ?c5 (wr.heap.size + 1) ?c6 ?_)
                  case c1 => exact one_cellE _ _ _
                  case c2 => exact one_plainE _
                  case c0 => omega
                  case c3 => unfold maxLen; omega
                  case c4 => omega
                  case c5 => simp; omega
                  case c6 => simp
                  intro gg cap2 w6 hown' hgrow hlies hlt2
                  obtain ⟨cv6, fz6, VN⟩ := HV.out.app (gg := gg) (cap2 := cap2) (i := j) (by simpa [Value.ownBlock] using hgrow) (by simpa [Value.ownBlock] using hlies) (by simpa [asI] using hown')
                  have NX : Hid (∃ gv cp, VK W0 (w6.setCell ⟨Bv, 0, none⟩ (.slice (some ⟨gg, 0, none⟩) (L.length + 1) cap2)) W0.heap.size Bv Ba G zs.length f (upL f least (j + 1)) gv cp) := Lib.hid ⟨gg, cap2, by rw [UN.out]; exact VN⟩
                  clear hown hown' hgrow hlies VN HV hi hz0 hz1 hz2 cj cv
                  go_wp2_with fail
                  go_roundg (zs.length + 1 - (j + 1))
                  case measure => omega
                  case rel => exact ⟨j + 1, by go_num, by omega, by omega, NX⟩
                · rw [if_neg hc] at UN
                  have hc' : hh < least := by omega
                  have NX : Hid (∃ gv cp, VK W0 wr W0.heap.size Bv Ba G zs.length f (upL f least (j + 1)) gv cp) := Lib.hid ⟨gv, cp, by rw [UN.out]; exact hV⟩
                  clear hV cv
                  go_wp2_with fail
                  go_roundg (zs.length + 1 - (j + 1))
                  case measure => omega
                  case rel => exact ⟨j + 1, by go_num, by omega, by omega, NX⟩
              · obtain rfl : j = zs.length := by omega
                have cv := hV.cv
                have SO := Lib.hid (sortVs_any W0.heap.size Bv Ba gv G zs.length zs.length cp f (upL f least zs.length) (fun x hx => upL_lt hx) (by have := upL_len f least zs.length; omega) (by omega) wr hV.own cv hV.ca hV.alt hV.ap.1 hV.ap.2.1 hV.ap.2.2)
                have HV := Lib.hid hV
                clear hV
                go_wp2_with fail
                refine SO.out.mono ?_
                rintro e w7 ⟨rfl, ts, hpm, hso, hown, hgr⟩
                have cv7 : w7.cell? ⟨Bv, 0, none⟩ = some (.slice (some ⟨gv, 0, none⟩) (upL f least zs.length).length cp) := (World.cell?_of_block (a := ⟨Bv, 0, none⟩) (hgr.block Bv HV.out.lt.1 (by simpa using HV.out.ap.1))).trans cv
                have hb7 : Below W0.heap.size W0 w7 := HV.out.bel.grown hgr HV.out.size (fun k hk => by cases hk; exact (HV.out.own.lt gv rfl).1)
                have ets := visV_of hso hpm
                have el := hpm.length_eq
                rw [el] at hown
                have HO : Hid (w7.ownsRow w.heap.size 2 1 (.slice (some ⟨gv, 0, none⟩) (upL f least zs.length).length cp) (asI (visV f least zs.length)).length ((asI (visV f least zs.length)).map (Value.int .i64))) := Lib.hid (by
                  rw [asI_len, ← ets, el]
                  exact Go.Joins.ownsRow_le hown asz)
                have HB7 := Lib.hid (HA.out.trans (hb7.mono asz))
                clear hown hgr hpm hso ets el hb7 cv SO HV
                go_wp2_with fail
                go_ret2
                exact ⟨_, rfl, HO.out, HB7.out⟩
end Go.Proofs.YtjghopepgfgebaaGreatDoor
