/-
  NeedlessKeys (both packages).
-/
import Derived.Test.YtdbocpcijkngpaaTkX
import Derived.Test.YtdbocpcijkngpaaInO
import Derived.Deep.LoopGhost
namespace Go.Proofs.Ytdbocpcijkngpaa.Tk
open Go.RowKit
open Ky (V In Own Row At gk)
set_option linter.unusedVariables false

theorem info_i64t : (Try.prog.info? 2).map (fun i => (i.zero, i.size, i.bytes)) = some (some (.int .i64 0), 1, 8) := by kernel_rfl
theorem own_belowI {B : Nat} {w0 w w1 : World} {v : Value} {n : Nat} {xs : List Value} {o : Obj} (hown : w.ownsRow B 2 1 v n xs) (hb : Below B w0 w) (hB : B ≤ w.heap.size)
    (hg : (w.alloc o).grownBy w1 v.ownBlock) : Below B w0 w1 :=
  (hb.alloc hB o).grown hg (by simp; omega) (fun k hk => (hown.lt k hk).1)
theorem one_cellI (w : World) (T : TypeId) (a : Int) : ∀ (j : Nat) u, [Value.int .i64 a][j]? = some u → (w.alloc (.cells #[.int .i64 a] T)).cell? ((⟨w.heap.size, 0, none⟩ : Addr).add j) = some u := by
  intro j u hj
  match j, hj with
  | 0, hj => simp at hj; subst hj; simp [Addr.add]
theorem one_plainI (a : Int) : ∀ u ∈ [Value.int .i64 a], u.oneCell' = true := by
  intro u hu
  simp at hu
  subst hu
  rfl
theorem woL_gk (zs : List V) (k j : Nat) (hk : k < zs.length) : gk (woL zs k) j = if j < k then gk zs j else gk zs (j + 1) := by
  have hl : (zs.take k).length = k := by rw [List.length_take]; omega
  unfold gk woL
  simp only [List.getD_eq_getElem?_getD]
  by_cases c : j < k
  · rw [if_pos c, List.getElem?_append_left (by omega), List.getElem?_take, if_pos c]
  · rw [if_neg c, List.getElem?_append_right (by omega), hl, List.getElem?_drop, show k + 1 + (j - k) = j + 1 by omega]
theorem trk_wo {zs : List V} (h : Trk zs) (k : Nat) (hk : k < zs.length) (h2 : 2 ≤ zs.length) : Trk (woL zs k) := by
  have hl := woL_len zs k hk
  have n24 := h.n24
  refine ⟨by omega, by omega, fun j hj => ?_, fun j hj => ?_⟩
  · rw [woL_gk zs k j hk]
    split
    · exact h.i j (by omega)
    · exact h.i (j + 1) (by omega)
  · rw [woL_gk zs k j hk, woL_gk zs k (j + 1) hk]
    by_cases c : j + 1 < k
    · rw [if_pos (by omega), if_pos c]
      exact h.s j (by omega)
    · rw [if_neg c]
      by_cases d : j < k
      · rw [if_pos d]
        exact h.lt j (j + 1 + 1) (by omega) (by omega)
      · rw [if_neg d]
        exact h.s (j + 1) (by omega)
/-- A key changes nothing. -/
def ndB (zs : List V) (i : Nat) : Bool := decide (valI (woL zs i) (gk zs i).f0 = (gk zs i).f1)
/-- The needless ones of the first keys. -/
def upN (zs : List V) : Nat → List Int
  | 0 => []
  | i + 1 => if i = 0 then [] else if ndB zs i = true then upN zs i ++ [(i : Int)] else upN zs i
theorem upN_one (zs : List V) : upN zs 1 = [] := by
  show (if (0 : Nat) = 0 then ([] : List Int) else _) = []
  exact if_pos rfl
theorem upN_yes (zs : List V) (i : Nat) (hi : 1 ≤ i) (h : ndB zs i = true) : upN zs (i + 1) = upN zs i ++ [(i : Int)] := by
  show (if i = 0 then ([] : List Int) else if ndB zs i = true then upN zs i ++ [(i : Int)] else upN zs i) = _
  rw [if_neg (by omega), if_pos h]
theorem upN_no (zs : List V) (i : Nat) (hi : 1 ≤ i) (h : ndB zs i = false) : upN zs (i + 1) = upN zs i := by
  show (if i = 0 then ([] : List Int) else if ndB zs i = true then upN zs i ++ [(i : Int)] else upN zs i) = _
  rw [if_neg (by omega), if_neg (by rw [h]; simp)]
theorem upN_len (zs : List V) : ∀ i, (upN zs i).length ≤ i
  | 0 => Nat.le_refl _
  | i + 1 => by
    have ih := upN_len zs i
    show (if i = 0 then ([] : List Int) else if ndB zs i = true then upN zs i ++ [(i : Int)] else upN zs i).length ≤ i + 1
    split
    · exact Nat.zero_le _
    · split
      · rw [List.length_append]; simp; omega
      · omega
def needV (s : ByteArray) (zs : List V) : List Int × Int := if trackB s zs = true then (upN zs (zs.length - 1), 0) else ([], 1)
theorem needV_len (s : ByteArray) (zs : List V) : (needV s zs).1.length ≤ zs.length := by
  unfold needV
  split
  · exact Nat.le_trans (upN_len _ _) (by omega)
  · exact Nat.zero_le _
def IPost (r : List Int × Int) (w : World) (e : Ending) (w' : World) : Prop := ∃ v, e = .returned (.tuple #[v, .int .i64 r.2]) ∧ In.Own w' w.heap.size w'.heap.size v r.1 ∧ Below w.heap.size w w'
theorem keepM3 {w W W' : World} {b0 o0 b1 o1 b2 o2 : Nat} {v0 v1 v2 : Value} (h : W.cell? ⟨b0, o0, none⟩ = some v0 ∧ W.cell? ⟨b1, o1, none⟩ = some v1 ∧ W.cell? ⟨b2, o2, none⟩ = some v2 ∧ Below w.heap.size w W) : Below w.heap.size w W := h.2.2.2
set_option maxRecDepth 100000 in
set_option maxHeartbeats 4000000 in
theorem implNeed_any (s : ByteArray) (hs : s.size ≤ maxLen) (g : Nat) (zs : List V) (w : World) (hb : zs.length ≤ 1048577) (h1 : Row w g zs) :
    Calls Try.prog 50 #[.agg #[.string s, .slice (some ⟨g, 0, none⟩) zs.length zs.length]] w (IPost (needV s zs) w) := by
  obtain ⟨W0, hW0⟩ : ∃ W, W = w.alloc (Obj.cells #[Value.string s, Value.slice (some ⟨g, 0, none⟩) zs.length zs.length] 29) := ⟨_, rfl⟩
  have hB0 : Below w.heap.size w W0 := by rw [hW0]; exact (Below.refl _ _).alloc (Nat.le_refl _) _
  have T0 : TAt W0 w.heap.size s (.slice (some ⟨g, 0, none⟩) zs.length zs.length) := by rw [hW0]; exact TAt.new _ _ _ _
  have V := Lib.hid (implValid_any s hs g zs.length zs W0 hb (h1.below hB0))
  have WO := Lib.hid (fun (W : World) (hB : Below w.heap.size w W) k hz hk => withoutKey_any s g zs k W hz hk (h1.below hB))
  have RP := Lib.hid (fun (W : World) (hB : Below w.heap.size w W) k hk => Ky.Row.gk (h1.below hB) k hk)
  have HT0 := Lib.hid T0
  have HB0 := Lib.hid hB0
  obtain ⟨m0, m1⟩ := T0
  have HW := Lib.hid hW0
  clear h1 hs hB0 hW0
  unfold needV
  cases ho : trackB s zs with
  | false =>
    rw [if_neg (by simp)]
    rw [ho] at V
    clear ho
    go_enter Try.func50, Try.ntmps50
    go_wp2_with fail
    rw [← HW.out]
    clear HW
    go_wp2_with fail
    refine V.out.mono ?_
    rintro e w1 ⟨rfl, hb1⟩
    clear m0 m1
    have HB1 := Lib.hid (HB0.out.trans (hb1.mono HB0.out.size))
    clear hb1
    go_wp2_with fail
    go_ret2
    exact ⟨_, rfl, In.Own.nil _ _ _ _ _, HB1.out⟩
  | true =>
    rw [if_pos rfl]
    rw [ho] at V
    have hT := trk_of ho
    have n1 := hT.n1
    have n24 := hT.n24
    have KI := Lib.hid hT.i
    have TW := Lib.hid (fun k hk h2 => trk_wo hT k hk h2)
    have WL := Lib.hid (woL_len zs)
    have ND : Hid (∀ i, ndB zs i = decide (valI (woL zs i) (gk zs i).f0 = (gk zs i).f1)) := Lib.hid (fun _ => rfl)
    have UO := upN_one zs
    have UY := Lib.hid (upN_yes zs)
    have UN := Lib.hid (upN_no zs)
    have ULn := Lib.hid (upN_len zs)
    have UE : Hid (∀ i, 1 ≤ i → zs.length ≤ i + 1 → (i + 1 = zs.length ∨ i = 1) → upN zs i = upN zs (zs.length - 1)) := Lib.hid (fun i h1 h2 h3 => by
      rcases h3 with e | e
      · rw [← e]; rfl
      · subst e
        rcases (by omega : zs.length = 1 ∨ zs.length = 2) with e2 | e2
        · rw [e2, upN_one]; rfl
        · rw [e2])
    clear ho hT
    obtain ⟨R, hR⟩ : ∃ R, R = upN zs (zs.length - 1) := ⟨_, rfl⟩
    rw [← hR] at UE ⊢
    clear hR
    obtain ⟨L, hL⟩ : ∃ L, L = upN zs := ⟨_, rfl⟩
    rw [← hL] at UO UY UN ULn UE
    clear hL
    obtain ⟨i0, hi, hzz⟩ := Option.map_eq_some_iff.1 info_i64t
    simp only [Prod.mk.injEq] at hzz
    obtain ⟨hz0, hz1, hz2⟩ := hzz
    have HI0 := Lib.hid hi
    have HZ0 := Lib.hid hz0
    have HZ1 := Lib.hid hz1
    have HZ2 := Lib.hid hz2
    clear hi hz0 hz1 hz2
    go_enter Try.func50, Try.ntmps50
    go_wp2_with fail
    rw [← HW.out]
    clear HW
    go_wp2_with fail
    refine V.out.mono ?_
    rintro e w1 ⟨rfl, hb1⟩
    clear m0 m1
    have HB1 := Lib.hid (HB0.out.trans (hb1.mono HB0.out.size))
    have HT1 := Lib.hid (HT0.out.below hb1)
    clear hb1
    have hsz := HB1.out.size
    obtain ⟨W2, hW2⟩ : ∃ W, W = w1.alloc (Obj.cells #[] 2) := ⟨_, rfl⟩
    have ST : Hid (W2.ownsRow w.heap.size 2 1 (.slice (some ⟨w1.heap.size, 0, none⟩) 0 0) (L 1).length ((L 1).map fun x => .int .i64 x)) := Lib.hid (by
      rw [UO, hW2]
      exact World.ownsRow_lit (base := w.heap.size) (e := 2) (size := 1) w1 #[] 0 hsz (by decide) rfl)
    have HB2 : Hid (Below w.heap.size w W2) := Lib.hid (by rw [hW2]; exact HB1.out.alloc hsz _)
    have HT2 : Hid (TAt W2 w.heap.size s (.slice (some ⟨g, 0, none⟩) zs.length zs.length)) := Lib.hid (by rw [hW2]; exact HT1.out.below ((Below.refl _ _).alloc (Nat.le_refl _) _))
    have HAD0 : Hid (∀ b, (Value.slice (some ⟨w1.heap.size, 0, none⟩) 0 0).ownBlock = some b → w.heap.size < b) := Lib.hid (fun b hb => by
      simp only [Value.ownBlock] at hb
      injection hb with hb
      have := HT1.out.lt
      omega)
    have l0 : (L 1).length = 0 := by rw [UO]; rfl
    have HW2 := Lib.hid hW2
    clear hW2 UO HT1
    go_wp2_with fail
    rw [← HW2.out]
    clear HW2
    go_loopg [4, 5] (zs.length + 1) (fun kx s4 s5 wr => ∃ (j m : Nat) (ad : Option Addr) (cap4 : Nat), s4 = .slice ad m cap4 ∧ s5 = .int .i64 ((j + 1 : Nat) : Int) ∧ Hid (m = (L (j + 1)).length) ∧ Hid (j + 1 + 1 ≤ zs.length ∨ j = 0) ∧ kx = zs.length + 1 - j ∧ Hid (wr.ownsRow w.heap.size 2 1 (.slice ad m cap4) (L (j + 1)).length ((L (j + 1)).map fun x => .int .i64 x)) ∧ Hid (Below w.heap.size w wr) ∧ Hid (TAt wr w.heap.size s (.slice (some ⟨g, 0, none⟩) zs.length zs.length)) ∧ w.heap.size < wr.heap.size ∧ Hid (∀ b, (Value.slice ad m cap4).ownBlock = some b → w.heap.size < b))
    case atStart => exact ⟨0, 0, _, _, rfl, rfl, Lib.hid l0.symm, Lib.hid (Or.inr rfl), rfl, ST, HB2, HT2, HT2.out.lt, HAD0⟩
    case round =>
      obtain ⟨j, m, ad, cap4, rfl, rfl, HM, HJ, rfl, HO, HB, HT, hwr, HAD⟩ := hrel
      obtain ⟨m0, m1⟩ := HT.out
      by_cases hlt : j + 1 + 1 < zs.length
      · have j0 : (0 : Int) ≤ ((j + 1 : Nat) : Int) := by omega
        have j1 : ((j + 1 : Nat) : Int) < (zs.length : Int) := by omega
        have j2 : ((j + 1 : Nat) : Int) < (zs.length : Int) - 1 := by omega
        have j3 : (j : Int) + 1 < (zs.length : Int) - 1 := by omega
        have j4 : (0 : Int) ≤ (j : Int) + 1 := by omega
        have j5 : (j : Int) + 1 < (zs.length : Int) := by omega
        obtain ⟨c0, c1⟩ := RP.out wr HB.out (j + 1) (by omega)
        have ki := (KI.out (j + 1) (by omega)).1
        have nd := ND.out (j + 1)
        have TWJ := Lib.hid (TW.out (j + 1) (by omega) (by omega))
        have WLJ := Lib.hid (WL.out (j + 1) (by omega))
        have WOJ := Lib.hid (fun (W : World) (hB : Below w.heap.size w W) => WO.out W hB (j + 1) n24 (by omega))
        obtain ⟨RW, hRW⟩ : ∃ R, R = woL zs (j + 1) := ⟨_, rfl⟩
        rw [← hRW] at WOJ TWJ WLJ nd
        clear hRW
        generalize (gk zs (j + 1)).f0 = x0 at *
        generalize (gk zs (j + 1)).f1 = x1 at *
        have AT := Lib.hid (fun h hcp (W : World) hR => by
          have t := valueAt_any s h hcp RW x0 W hR TWJ.out
          rw [WLJ.out] at t
          exact t)
        obtain ⟨y, hy⟩ : ∃ y, y = valI RW x0 := ⟨_, rfl⟩
        rw [← hy] at AT nd
        clear hy
        have HND := Lib.hid nd
        clear nd ki
        by_cases hyx : y = x1
        · have hyx2 := hyx.symm
          subst hyx2
          have q1 : (x1 == x1) = true := by simp
          obtain ⟨WS, hWS⟩ : ∃ W, W = wr.alloc (Obj.cells #[.int .i64 x0, .int .i64 x1] 48) := ⟨_, rfl⟩
          have hBS : Below wr.heap.size wr WS := by rw [hWS]; exact (Below.refl _ _).alloc (Nat.le_refl _) _
          have HWS := Lib.hid hBS
          have e0 : WS.cell? ⟨wr.heap.size, 0, none⟩ = some (.int .i64 x0) := by rw [hWS]; simp
          have e1 : WS.cell? ⟨wr.heap.size, 1, none⟩ = some (.int .i64 x1) := by rw [hWS]; simp
          have KC : Hid (WS.cell? ⟨w.heap.size, 0, none⟩ = some (.string s) ∧ WS.cell? ⟨w.heap.size, 1, none⟩ = some (.slice (some ⟨g, 0, none⟩) zs.length zs.length) ∧ WS.cell? ⟨wr.heap.size, 0, none⟩ = some (.int .i64 x0) ∧ WS.cell? ⟨wr.heap.size, 1, none⟩ = some (.int .i64 x1) ∧ Below w.heap.size w WS) := Lib.hid ⟨(HT.out.below hBS).c0, (HT.out.below hBS).c1, e0, e1, HB.out.trans (hBS.mono HB.out.size)⟩
          have HWE := Lib.hid hWS
          clear hWS hBS e0 e1
          go_wp2_with fail
          rw [← HWE.out]
          clear HWE m0 m1 c0 c1
          refine wp_region_held_drew (S := fun W => W.cell? ⟨w.heap.size, 0, none⟩ = some (.string s) ∧ W.cell? ⟨w.heap.size, 1, none⟩ = some (.slice (some ⟨g, 0, none⟩) zs.length zs.length) ∧ W.cell? ⟨wr.heap.size, 0, none⟩ = some (.int .i64 x0) ∧ W.cell? ⟨wr.heap.size, 1, none⟩ = some (.int .i64 x1) ∧ Below w.heap.size w W) (by kernel_rfl) ?_ (fun hHeld => ?_)
          · exact keepW4 KC.out (drewG WS)
          refine wpAnyH_take (i := 0) rfl (by kernel_rfl) (by kernel_rfl) (by kernel_rfl) (fun _ _ _ h => h) (Or.inl ⟨by kernel_rfl, fun w hSw => by (try dsimp only at hSw); (try obtain ⟨s0, s1, s2, s3, s4⟩ := hSw); go_simp; (try with_reducible rfl)⟩) hHeld ?_
          try simp only [List.getElem_toArray, List.getElem_cons_zero, List.getElem_cons_succ, Act.put, List.setIfInBounds_toArray, List.set_cons_zero, List.set_cons_succ]
          refine wpAnyH_take (i := 1) rfl (by kernel_rfl) (by kernel_rfl) (by kernel_rfl) (fun _ _ _ h => h) (Or.inl ⟨by kernel_rfl, fun w hSw => by (try dsimp only at hSw); (try obtain ⟨s0, s1, s2, s3, s4⟩ := hSw); go_simp; (try with_reducible rfl)⟩) hHeld ?_
          try simp only [List.getElem_toArray, List.getElem_cons_zero, List.getElem_cons_succ, Act.put, List.setIfInBounds_toArray, List.set_cons_zero, List.set_cons_succ]
          refine wpAnyH_take (i := 3) rfl (by kernel_rfl) (by kernel_rfl) (by kernel_rfl) (fun _ _ _ h => h) (Or.inl ⟨by kernel_rfl, fun w hSw => by (try dsimp only at hSw); (try obtain ⟨s0, s1, s2, s3, s4⟩ := hSw); go_simp; (try with_reducible rfl)⟩) hHeld ?_
          try simp only [List.getElem_toArray, List.getElem_cons_zero, List.getElem_cons_succ, Act.put, List.setIfInBounds_toArray, List.set_cons_zero, List.set_cons_succ]
          refine wpAnyH_take (i := 4) rfl (by kernel_rfl) (by kernel_rfl) (by kernel_rfl) (fun _ _ _ h => h) (Or.inl ⟨by kernel_rfl, fun w hSw => by (try dsimp only at hSw); (try obtain ⟨s0, s1, s2, s3, s4⟩ := hSw); go_simp; (try with_reducible rfl)⟩) hHeld ?_
          try simp only [List.getElem_toArray, List.getElem_cons_zero, List.getElem_cons_succ, Act.put, List.setIfInBounds_toArray, List.set_cons_zero, List.set_cons_succ]
          refine wpAnyH_take (i := 6) rfl (by kernel_rfl) (by kernel_rfl) (by kernel_rfl) (fun _ _ _ h => h) (Or.inl ⟨by kernel_rfl, fun w hSw => by (try dsimp only at hSw); (try obtain ⟨s0, s1, s2, s3, s4⟩ := hSw); go_simp; (try with_reducible rfl)⟩) hHeld ?_
          try simp only [List.getElem_toArray, List.getElem_cons_zero, List.getElem_cons_succ, Act.put, List.setIfInBounds_toArray, List.set_cons_zero, List.set_cons_succ]
          refine wpAnyH_take (i := 7) rfl (by kernel_rfl) (by kernel_rfl) (by kernel_rfl) (fun _ _ _ h => h) (Or.inl ⟨by kernel_rfl, fun w hSw => by (try dsimp only at hSw); (try obtain ⟨s0, s1, s2, s3, s4⟩ := hSw); go_simp; (try with_reducible rfl)⟩) hHeld ?_
          try simp only [List.getElem_toArray, List.getElem_cons_zero, List.getElem_cons_succ, Act.put, List.setIfInBounds_toArray, List.set_cons_zero, List.set_cons_succ]
          refine wpAnyH_ready (rs := [2]) (by kernel_rfl) (by simp) ?_
          refine AllReadyH.cons rfl (fun KK hK => ?_) AllReadyH.nil
          go_simp
          first | go_at_call 77 | skip
          refine (WOJ.out _ hHeld.2.2.2.2).mono ?_
          rintro e w5 ⟨h5, rfl, ho5, hb5⟩
          have hb6 := undrewG hb5
          have HR5 := Lib.hid ho5.row
          refine hK.out _ _ ?_ (fun hH2 => ?_)
          · exact keepW4 KC.out hb6
          clear hK KK hHeld hb5 ho5
          try simp only [List.getElem_toArray, List.getElem_cons_zero, List.getElem_cons_succ, Act.put, List.setIfInBounds_toArray, List.set_cons_zero, List.set_cons_succ]
          refine wpAnyH_ready (rs := [5]) (by kernel_rfl) (by simp) ?_
          refine AllReadyH.cons rfl (fun KK hK => ?_) AllReadyH.nil
          go_simp
          first | go_at_call 70 | skip
          refine (AT.out h5 (zs.length - 1) _ HR5.out).mono ?_
          rintro e w7 ⟨rfl, hb7⟩
          have hb8 := hb6.trans (hb7.mono hb6.size)
          have HB8 := Lib.hid hb8
          refine hK.out _ _ ?_ (fun hH3 => ?_)
          · exact keepW4 KC.out hb8
          clear hK KK hH2 hb6 hb7 hb8
          try simp only [List.getElem_toArray, List.getElem_cons_zero, List.getElem_cons_succ, Act.put, List.setIfInBounds_toArray, List.set_cons_zero, List.set_cons_succ]
          refine wpAnyH_take (i := 8) rfl (by kernel_rfl) (by kernel_rfl) (by kernel_rfl) (fun _ _ _ h => h) (Or.inl ⟨by kernel_rfl, fun w hSw => by (try dsimp only at hSw); (try obtain ⟨s0, s1, s2, s3, s4⟩ := hSw); go_simp; (try with_reducible rfl)⟩) hH3 ?_
          try simp only [List.getElem_toArray, List.getElem_cons_zero, List.getElem_cons_succ, Act.put, List.setIfInBounds_toArray, List.set_cons_zero, List.set_cons_succ]
          refine wpAnyH_done (by kernel_rfl) ?_ _
          have HB9 : Hid (Below w.heap.size w w7) := Lib.hid hH3.2.2.2.2
          have hBw := HWS.out.trans (HB8.out.mono HWS.out.size)
          have HT9 := Lib.hid (HT.out.below hBw)
          have hO9 := (World.ownsRow.kept HO.out (⟨hBw.os, hBw.tape, hBw.output, hBw.size, fun k hk _ => hBw.block k hk⟩ : wr.grownBy w7 none) (by cases hv : (Value.slice ad m cap4).ownBlock <;> simp))
          have HO9 := Lib.hid hO9
          have hw9 : w.heap.size < w7.heap.size := by have := hBw.size; omega
          clear hH3 hBw hO9 KC
          have h1 := UY.out (j + 1) (by omega) (by rw [HND.out]; simp)
          have HE := Lib.hid h1
          have hmj : m ≤ j + 1 := by have := HM.out; have := ULn.out (j + 1); omega
          have hO := HO9.out
          rw [← HM.out] at hO
          have hi := HI0.out
          have hz0 := HZ0.out
          have hz1 := HZ1.out
          have hz2 := HZ2.out
          have hsB := HB9.out.size
          clear h1
          go_wp2_with (at_builtin; refine wpList_append_lies _ rfl _ _ 59 rfl w.heap.size 2 i0 (.int .i64 0) 1 8 Try.underlying59 hi hz0 hz1 hz2 rfl (by decide) _ _ _ rfl (hO.alloc _) ⟨w7.heap.size, 0, none⟩ 1 1 [.int .i64 ((j + 1 : Nat) : Int)] rfl rfl ?c1 ?c2 ?c0 ?c3 ?c4 ?c5 (w7.heap.size + 1) ?c6 ?_)
          case c1 => exact one_cellI _ _ _
          case c2 => exact one_plainI _
          case c0 => omega
          case c3 => unfold maxLen; omega
          case c4 => omega
          case c5 => simp; omega
          case c6 => simp
          intro gg cap3 w8 hown' hgrow hlies hlt3
          have hgB := own_belowI hO HB9.out hsB hgrow
          have hgT : Below w7.heap.size w7 (w7.alloc (.cells #[.int .i64 ((j + 1 : Nat) : Int)] 2)) := (Below.refl _ _).alloc (Nat.le_refl _) _
          have HBN := Lib.hid hgB
          have hl2 : m + 1 = (L (j + 1 + 1)).length := by rw [HE.out, List.length_append, ← HM.out]; rfl
          have HL2 := Lib.hid hl2
          have O5 : Hid (w8.ownsRow w.heap.size 2 1 (.slice (some ⟨gg, 0, none⟩) (m + 1) cap3) (L (j + 1 + 1)).length ((L (j + 1 + 1)).map fun x => .int .i64 x)) := Lib.hid (by
            rw [← hl2, HE.out, List.map_append]
            exact hown')
          have HT8 : Hid (TAt w8 w.heap.size s (.slice (some ⟨g, 0, none⟩) zs.length zs.length)) := Lib.hid (by
            have t1 := HT9.out.below hgT
            have hne : some w.heap.size ≠ (Value.slice ad m cap4).ownBlock := fun e => by
              have h4 := HAD.out _ e.symm
              omega
            exact ⟨(hgrow.cell_far ⟨w.heap.size, 0, none⟩ t1.lt hne).trans t1.c0, (hgrow.cell_far ⟨w.heap.size, 1, none⟩ t1.lt hne).trans t1.c1⟩)
          have hw8 : w.heap.size < w8.heap.size := HT8.out.lt
          have HAD8 : Hid (∀ b, (Value.slice (some ⟨gg, 0, none⟩) (m + 1) cap3).ownBlock = some b → w.heap.size < b) := Lib.hid (fun b hb => by
            simp only [Value.ownBlock] at hb
            injection hb with hb
            rcases hlies with e | e
            · have := HAD.out _ e
              omega
            · omega)
          clear hown' hgrow hlies hO hi hz0 hz1 hz2 hl2 hgB hgT
          go_wp2_with fail
          go_roundg (zs.length + 1 - (j + 1))
          case measure => omega
          case rel => exact ⟨j + 1, m + 1, _, _, rfl, by go_num, HL2, Lib.hid (Or.inl (by omega)), by omega, O5, HBN, HT8, hw8, HAD8⟩
        · have q1 : (y == x1) = false := beq_eq_false_iff_ne.2 hyx
          have HYN := Lib.hid hyx
          obtain ⟨WS, hWS⟩ : ∃ W, W = wr.alloc (Obj.cells #[.int .i64 x0, .int .i64 x1] 48) := ⟨_, rfl⟩
          have hBS : Below wr.heap.size wr WS := by rw [hWS]; exact (Below.refl _ _).alloc (Nat.le_refl _) _
          have HWS := Lib.hid hBS
          have e0 : WS.cell? ⟨wr.heap.size, 0, none⟩ = some (.int .i64 x0) := by rw [hWS]; simp
          have e1 : WS.cell? ⟨wr.heap.size, 1, none⟩ = some (.int .i64 x1) := by rw [hWS]; simp
          have KC : Hid (WS.cell? ⟨w.heap.size, 0, none⟩ = some (.string s) ∧ WS.cell? ⟨w.heap.size, 1, none⟩ = some (.slice (some ⟨g, 0, none⟩) zs.length zs.length) ∧ WS.cell? ⟨wr.heap.size, 0, none⟩ = some (.int .i64 x0) ∧ WS.cell? ⟨wr.heap.size, 1, none⟩ = some (.int .i64 x1) ∧ Below w.heap.size w WS) := Lib.hid ⟨(HT.out.below hBS).c0, (HT.out.below hBS).c1, e0, e1, HB.out.trans (hBS.mono HB.out.size)⟩
          have HWE := Lib.hid hWS
          clear hWS hBS e0 e1
          go_wp2_with fail
          rw [← HWE.out]
          clear HWE m0 m1 c0 c1
          refine wp_region_held_drew (S := fun W => W.cell? ⟨w.heap.size, 0, none⟩ = some (.string s) ∧ W.cell? ⟨w.heap.size, 1, none⟩ = some (.slice (some ⟨g, 0, none⟩) zs.length zs.length) ∧ W.cell? ⟨wr.heap.size, 0, none⟩ = some (.int .i64 x0) ∧ W.cell? ⟨wr.heap.size, 1, none⟩ = some (.int .i64 x1) ∧ Below w.heap.size w W) (by kernel_rfl) ?_ (fun hHeld => ?_)
          · exact keepW4 KC.out (drewG WS)
          refine wpAnyH_take (i := 0) rfl (by kernel_rfl) (by kernel_rfl) (by kernel_rfl) (fun _ _ _ h => h) (Or.inl ⟨by kernel_rfl, fun w hSw => by (try dsimp only at hSw); (try obtain ⟨s0, s1, s2, s3, s4⟩ := hSw); go_simp; (try with_reducible rfl)⟩) hHeld ?_
          try simp only [List.getElem_toArray, List.getElem_cons_zero, List.getElem_cons_succ, Act.put, List.setIfInBounds_toArray, List.set_cons_zero, List.set_cons_succ]
          refine wpAnyH_take (i := 1) rfl (by kernel_rfl) (by kernel_rfl) (by kernel_rfl) (fun _ _ _ h => h) (Or.inl ⟨by kernel_rfl, fun w hSw => by (try dsimp only at hSw); (try obtain ⟨s0, s1, s2, s3, s4⟩ := hSw); go_simp; (try with_reducible rfl)⟩) hHeld ?_
          try simp only [List.getElem_toArray, List.getElem_cons_zero, List.getElem_cons_succ, Act.put, List.setIfInBounds_toArray, List.set_cons_zero, List.set_cons_succ]
          refine wpAnyH_take (i := 3) rfl (by kernel_rfl) (by kernel_rfl) (by kernel_rfl) (fun _ _ _ h => h) (Or.inl ⟨by kernel_rfl, fun w hSw => by (try dsimp only at hSw); (try obtain ⟨s0, s1, s2, s3, s4⟩ := hSw); go_simp; (try with_reducible rfl)⟩) hHeld ?_
          try simp only [List.getElem_toArray, List.getElem_cons_zero, List.getElem_cons_succ, Act.put, List.setIfInBounds_toArray, List.set_cons_zero, List.set_cons_succ]
          refine wpAnyH_take (i := 4) rfl (by kernel_rfl) (by kernel_rfl) (by kernel_rfl) (fun _ _ _ h => h) (Or.inl ⟨by kernel_rfl, fun w hSw => by (try dsimp only at hSw); (try obtain ⟨s0, s1, s2, s3, s4⟩ := hSw); go_simp; (try with_reducible rfl)⟩) hHeld ?_
          try simp only [List.getElem_toArray, List.getElem_cons_zero, List.getElem_cons_succ, Act.put, List.setIfInBounds_toArray, List.set_cons_zero, List.set_cons_succ]
          refine wpAnyH_take (i := 6) rfl (by kernel_rfl) (by kernel_rfl) (by kernel_rfl) (fun _ _ _ h => h) (Or.inl ⟨by kernel_rfl, fun w hSw => by (try dsimp only at hSw); (try obtain ⟨s0, s1, s2, s3, s4⟩ := hSw); go_simp; (try with_reducible rfl)⟩) hHeld ?_
          try simp only [List.getElem_toArray, List.getElem_cons_zero, List.getElem_cons_succ, Act.put, List.setIfInBounds_toArray, List.set_cons_zero, List.set_cons_succ]
          refine wpAnyH_take (i := 7) rfl (by kernel_rfl) (by kernel_rfl) (by kernel_rfl) (fun _ _ _ h => h) (Or.inl ⟨by kernel_rfl, fun w hSw => by (try dsimp only at hSw); (try obtain ⟨s0, s1, s2, s3, s4⟩ := hSw); go_simp; (try with_reducible rfl)⟩) hHeld ?_
          try simp only [List.getElem_toArray, List.getElem_cons_zero, List.getElem_cons_succ, Act.put, List.setIfInBounds_toArray, List.set_cons_zero, List.set_cons_succ]
          refine wpAnyH_ready (rs := [2]) (by kernel_rfl) (by simp) ?_
          refine AllReadyH.cons rfl (fun KK hK => ?_) AllReadyH.nil
          go_simp
          first | go_at_call 77 | skip
          refine (WOJ.out _ hHeld.2.2.2.2).mono ?_
          rintro e w5 ⟨h5, rfl, ho5, hb5⟩
          have hb6 := undrewG hb5
          have HR5 := Lib.hid ho5.row
          refine hK.out _ _ ?_ (fun hH2 => ?_)
          · exact keepW4 KC.out hb6
          clear hK KK hHeld hb5 ho5
          try simp only [List.getElem_toArray, List.getElem_cons_zero, List.getElem_cons_succ, Act.put, List.setIfInBounds_toArray, List.set_cons_zero, List.set_cons_succ]
          refine wpAnyH_ready (rs := [5]) (by kernel_rfl) (by simp) ?_
          refine AllReadyH.cons rfl (fun KK hK => ?_) AllReadyH.nil
          go_simp
          first | go_at_call 70 | skip
          refine (AT.out h5 (zs.length - 1) _ HR5.out).mono ?_
          rintro e w7 ⟨rfl, hb7⟩
          have hb8 := hb6.trans (hb7.mono hb6.size)
          have HB8 := Lib.hid hb8
          refine hK.out _ _ ?_ (fun hH3 => ?_)
          · exact keepW4 KC.out hb8
          clear hK KK hH2 hb6 hb7 hb8
          try simp only [List.getElem_toArray, List.getElem_cons_zero, List.getElem_cons_succ, Act.put, List.setIfInBounds_toArray, List.set_cons_zero, List.set_cons_succ]
          refine wpAnyH_take (i := 8) rfl (by kernel_rfl) (by kernel_rfl) (by kernel_rfl) (fun _ _ _ h => h) (Or.inl ⟨by kernel_rfl, fun w hSw => by (try dsimp only at hSw); (try obtain ⟨s0, s1, s2, s3, s4⟩ := hSw); go_simp; (try with_reducible rfl)⟩) hH3 ?_
          try simp only [List.getElem_toArray, List.getElem_cons_zero, List.getElem_cons_succ, Act.put, List.setIfInBounds_toArray, List.set_cons_zero, List.set_cons_succ]
          refine wpAnyH_done (by kernel_rfl) ?_ _
          have HB9 : Hid (Below w.heap.size w w7) := Lib.hid hH3.2.2.2.2
          have hBw := HWS.out.trans (HB8.out.mono HWS.out.size)
          have HT9 := Lib.hid (HT.out.below hBw)
          have hO9 := (World.ownsRow.kept HO.out (⟨hBw.os, hBw.tape, hBw.output, hBw.size, fun k hk _ => hBw.block k hk⟩ : wr.grownBy w7 none) (by cases hv : (Value.slice ad m cap4).ownBlock <;> simp))
          have HO9 := Lib.hid hO9
          have hw9 : w.heap.size < w7.heap.size := by have := hBw.size; omega
          clear hH3 hBw hO9 KC
          have h1 := UN.out (j + 1) (by omega) (by rw [HND.out]; exact decide_eq_false HYN.out)
          have HE := Lib.hid h1
          clear h1
          go_wp2_with fail
          go_roundg (zs.length + 1 - (j + 1))
          case measure => omega
          case rel => exact ⟨j + 1, m, _, _, rfl, by go_num, by rw [HE.out]; exact HM, Lib.hid (Or.inl (by omega)), by omega, by rw [HE.out]; exact HO9, HB9, HT9, hw9, HAD⟩
      · have hR : L (j + 1) = R := UE.out (j + 1) (by omega) (by omega) (by rcases HJ.out with h | h <;> omega)
        have HR := Lib.hid hR
        have hO := In.Own.of_row HO.out
        rw [hR] at hO
        have HO2 := Lib.hid hO
        have j2 : ¬ ((j + 1 : Nat) : Int) < (zs.length : Int) - 1 := by omega
        have j3 : ¬ (j : Int) + 1 < (zs.length : Int) - 1 := by omega
        clear hR hO
        go_wp2_with fail
        go_ret2
        exact ⟨_, rfl, HO2.out, HB.out⟩
set_option maxRecDepth 100000 in
set_option maxHeartbeats 4000000 in
theorem specNeed_any (s : ByteArray) (hs : s.size ≤ maxLen) (g : Nat) (zs : List V) (w : World) (hb : zs.length ≤ 1048577) (h1 : Row w g zs) :
    Calls Try.prog 49 #[.agg #[.string s, .slice (some ⟨g, 0, none⟩) zs.length zs.length]] w (IPost (needV s zs) w) := by
  obtain ⟨W0, hW0⟩ : ∃ W, W = w.alloc (Obj.cells #[Value.string s, Value.slice (some ⟨g, 0, none⟩) zs.length zs.length] 29) := ⟨_, rfl⟩
  have hB0 : Below w.heap.size w W0 := by rw [hW0]; exact (Below.refl _ _).alloc (Nat.le_refl _) _
  have T0 : TAt W0 w.heap.size s (.slice (some ⟨g, 0, none⟩) zs.length zs.length) := by rw [hW0]; exact TAt.new _ _ _ _
  have V := Lib.hid (l14One_any w.heap.size 0 g zs.length s zs W0 hb T0.c0 T0.c1 (h1.below hB0))
  have WO := Lib.hid (fun (W : World) (hB : Below w.heap.size w W) k hz hk => l14Without_any g k zs W hz hk (h1.below hB))
  have RP := Lib.hid (fun (W : World) (hB : Below w.heap.size w W) k hk => Ky.Row.gk (h1.below hB) k hk)
  have HT0 := Lib.hid T0
  have HB0 := Lib.hid hB0
  obtain ⟨m0, m1⟩ := T0
  have HW := Lib.hid hW0
  clear h1 hs hB0 hW0
  unfold needV
  cases ho : trackB s zs with
  | false =>
    rw [if_neg (by simp)]
    rw [ho] at V
    clear ho
    go_enter Try.func49, Try.ntmps49
    go_wp2_with fail
    rw [← HW.out]
    clear HW
    go_wp2_with fail
    refine V.out.mono ?_
    rintro e w1 ⟨rfl, m, hm⟩
    have hb1 : Below W0.heap.size W0 w1 := by rw [hm]; exact bel_dT (Below.refl _ _) m
    clear m0 m1 hm
    have HB1 := Lib.hid (HB0.out.trans (hb1.mono HB0.out.size))
    clear hb1
    go_wp2_with fail
    go_ret2
    exact ⟨_, rfl, In.Own.nil _ _ _ _ _, HB1.out⟩
  | true =>
    rw [if_pos rfl]
    rw [ho] at V
    have hT := trk_of ho
    have n1 := hT.n1
    have n24 := hT.n24
    have KI := Lib.hid hT.i
    have TW := Lib.hid (fun k hk h2 => trk_wo hT k hk h2)
    have WL := Lib.hid (woL_len zs)
    have ND : Hid (∀ i, ndB zs i = decide (valI (woL zs i) (gk zs i).f0 = (gk zs i).f1)) := Lib.hid (fun _ => rfl)
    have UO := upN_one zs
    have UY := Lib.hid (upN_yes zs)
    have UN := Lib.hid (upN_no zs)
    have ULn := Lib.hid (upN_len zs)
    have UE : Hid (∀ i, 1 ≤ i → zs.length ≤ i + 1 → (i + 1 = zs.length ∨ i = 1) → upN zs i = upN zs (zs.length - 1)) := Lib.hid (fun i h1 h2 h3 => by
      rcases h3 with e | e
      · rw [← e]; rfl
      · subst e
        rcases (by omega : zs.length = 1 ∨ zs.length = 2) with e2 | e2
        · rw [e2, upN_one]; rfl
        · rw [e2])
    clear ho hT
    obtain ⟨R, hR⟩ : ∃ R, R = upN zs (zs.length - 1) := ⟨_, rfl⟩
    rw [← hR] at UE ⊢
    clear hR
    obtain ⟨L, hL⟩ : ∃ L, L = upN zs := ⟨_, rfl⟩
    rw [← hL] at UO UY UN ULn UE
    clear hL
    obtain ⟨i0, hi, hzz⟩ := Option.map_eq_some_iff.1 info_i64t
    simp only [Prod.mk.injEq] at hzz
    obtain ⟨hz0, hz1, hz2⟩ := hzz
    have HI0 := Lib.hid hi
    have HZ0 := Lib.hid hz0
    have HZ1 := Lib.hid hz1
    have HZ2 := Lib.hid hz2
    clear hi hz0 hz1 hz2
    go_enter Try.func49, Try.ntmps49
    go_wp2_with fail
    rw [← HW.out]
    clear HW
    go_wp2_with fail
    refine V.out.mono ?_
    rintro e w1 ⟨rfl, m, hm⟩
    have hb1 : Below W0.heap.size W0 w1 := by rw [hm]; exact bel_dT (Below.refl _ _) m
    clear m0 m1 hm
    have HB1 := Lib.hid (HB0.out.trans (hb1.mono HB0.out.size))
    have HT1 := Lib.hid (HT0.out.below hb1)
    clear hb1
    have hsz := HB1.out.size
    obtain ⟨W2, hW2⟩ : ∃ W, W = w1.alloc (Obj.cells #[] 2) := ⟨_, rfl⟩
    have ST : Hid (W2.ownsRow w.heap.size 2 1 (.slice (some ⟨w1.heap.size, 0, none⟩) 0 0) (L 1).length ((L 1).map fun x => .int .i64 x)) := Lib.hid (by
      rw [UO, hW2]
      exact World.ownsRow_lit (base := w.heap.size) (e := 2) (size := 1) w1 #[] 0 hsz (by decide) rfl)
    have HB2 : Hid (Below w.heap.size w W2) := Lib.hid (by rw [hW2]; exact HB1.out.alloc hsz _)
    have HT2 : Hid (TAt W2 w.heap.size s (.slice (some ⟨g, 0, none⟩) zs.length zs.length)) := Lib.hid (by rw [hW2]; exact HT1.out.below ((Below.refl _ _).alloc (Nat.le_refl _) _))
    have HAD0 : Hid (∀ b, (Value.slice (some ⟨w1.heap.size, 0, none⟩) 0 0).ownBlock = some b → w.heap.size < b) := Lib.hid (fun b hb => by
      simp only [Value.ownBlock] at hb
      injection hb with hb
      have := HT1.out.lt
      omega)
    have l0 : (L 1).length = 0 := by rw [UO]; rfl
    have HW2 := Lib.hid hW2
    clear hW2 UO HT1
    go_wp2_with fail
    rw [← HW2.out]
    clear HW2
    go_loopg [4, 5] (zs.length + 1) (fun kx s4 s5 wr => ∃ (j m : Nat) (ad : Option Addr) (cap4 : Nat), s4 = .slice ad m cap4 ∧ s5 = .int .i64 ((j + 1 : Nat) : Int) ∧ Hid (m = (L (j + 1)).length) ∧ Hid (j + 1 + 1 ≤ zs.length ∨ j = 0) ∧ kx = zs.length + 1 - j ∧ Hid (wr.ownsRow w.heap.size 2 1 (.slice ad m cap4) (L (j + 1)).length ((L (j + 1)).map fun x => .int .i64 x)) ∧ Hid (Below w.heap.size w wr) ∧ Hid (TAt wr w.heap.size s (.slice (some ⟨g, 0, none⟩) zs.length zs.length)) ∧ w.heap.size < wr.heap.size ∧ Hid (∀ b, (Value.slice ad m cap4).ownBlock = some b → w.heap.size < b))
    case atStart => exact ⟨0, 0, _, _, rfl, rfl, Lib.hid l0.symm, Lib.hid (Or.inr rfl), rfl, ST, HB2, HT2, HT2.out.lt, HAD0⟩
    case round =>
      obtain ⟨j, m, ad, cap4, rfl, rfl, HM, HJ, rfl, HO, HB, HT, hwr, HAD⟩ := hrel
      obtain ⟨m0, m1⟩ := HT.out
      by_cases hlt : j + 1 + 1 < zs.length
      · have j0 : (0 : Int) ≤ ((j + 1 : Nat) : Int) := by omega
        have j1 : ((j + 1 : Nat) : Int) < (zs.length : Int) := by omega
        have j2 : ((j + 1 : Nat) : Int) + 1 < (zs.length : Int) := by omega
        have j3 : (j : Int) + 1 + 1 < (zs.length : Int) := by omega
        have j4 : (0 : Int) ≤ (j : Int) + 1 := by omega
        have j5 : (j : Int) + 1 < (zs.length : Int) := by omega
        obtain ⟨c0, c1⟩ := RP.out wr HB.out (j + 1) (by omega)
        have ki := (KI.out (j + 1) (by omega)).1
        have nd := ND.out (j + 1)
        have TWJ := Lib.hid (TW.out (j + 1) (by omega) (by omega))
        have WLJ := Lib.hid (WL.out (j + 1) (by omega))
        have WOJ := Lib.hid (fun (W : World) (hB : Below w.heap.size w W) => WO.out W hB (j + 1) n24 (by omega))
        have hwe : zs.take (j + 1) ++ zs.drop (j + 1 + 1) = woL zs (j + 1) := rfl
        rw [hwe] at WOJ
        clear hwe
        obtain ⟨RW, hRW⟩ : ∃ R, R = woL zs (j + 1) := ⟨_, rfl⟩
        rw [← hRW] at WOJ TWJ WLJ nd
        clear hRW
        generalize (gk zs (j + 1)).f0 = x0 at *
        generalize (gk zs (j + 1)).f1 = x1 at *
        have AT := Lib.hid (fun h hcp (W : World) hR => l14At_any h hcp RW x0 W hR TWJ.out ki.1 ki.2)
        obtain ⟨y, hy⟩ : ∃ y, y = valI RW x0 := ⟨_, rfl⟩
        rw [← hy] at AT nd
        clear hy
        have HND := Lib.hid nd
        clear nd ki
        by_cases hyx : y = x1
        · have hyx2 := hyx.symm
          subst hyx2
          have q1 : (x1 == x1) = true := by simp
          have KC : Hid (wr.cell? ⟨w.heap.size, 1, none⟩ = some (.slice (some ⟨g, 0, none⟩) zs.length zs.length) ∧ wr.cell? ⟨g, (j + 1) * 2, none⟩ = some (.int .i64 x0) ∧ wr.cell? ⟨g, (j + 1) * 2 + 1, none⟩ = some (.int .i64 x1) ∧ Below w.heap.size w wr) := Lib.hid ⟨m1, c0, c1, HB.out⟩
          obtain ⟨WS, hWS⟩ : ∃ W, W = wr := ⟨_, rfl⟩
          have HWS : Hid (Below wr.heap.size wr WS) := Lib.hid (by rw [hWS]; exact Below.refl _ _)
          rw [← hWS] at KC
          go_wp2_with fail
          rw [← hWS]
          clear hWS m0 m1 c0 c1
          refine wp_region_held_drew (S := fun W => W.cell? ⟨w.heap.size, 1, none⟩ = some (.slice (some ⟨g, 0, none⟩) zs.length zs.length) ∧ W.cell? ⟨g, (j + 1) * 2, none⟩ = some (.int .i64 x0) ∧ W.cell? ⟨g, (j + 1) * 2 + 1, none⟩ = some (.int .i64 x1) ∧ Below w.heap.size w W) (by kernel_rfl) ?_ (fun hHeld => ?_)
          · exact keepW3 KC.out (drewG WS)
          refine wpAnyH_take (i := 0) rfl (by kernel_rfl) (by kernel_rfl) (by kernel_rfl) (fun _ _ _ h => h) (Or.inl ⟨by kernel_rfl, fun w hSw => by (try dsimp only at hSw); (try obtain ⟨s0, s1, s2, s3⟩ := hSw); go_simp; (try with_reducible rfl)⟩) hHeld ?_
          try simp only [List.getElem_toArray, List.getElem_cons_zero, List.getElem_cons_succ, Act.put, List.setIfInBounds_toArray, List.set_cons_zero, List.set_cons_succ]
          refine wpAnyH_take (i := 1) rfl (by kernel_rfl) (by kernel_rfl) (by kernel_rfl) (fun _ _ _ h => h) (Or.inl ⟨by kernel_rfl, fun w hSw => by (try dsimp only at hSw); (try obtain ⟨s0, s1, s2, s3⟩ := hSw); go_simp; (try with_reducible rfl)⟩) hHeld ?_
          try simp only [List.getElem_toArray, List.getElem_cons_zero, List.getElem_cons_succ, Act.put, List.setIfInBounds_toArray, List.set_cons_zero, List.set_cons_succ]
          refine wpAnyH_take (i := 2) rfl (by kernel_rfl) (by kernel_rfl) (by kernel_rfl) (fun _ _ _ h => h) (Or.inl ⟨by kernel_rfl, fun w hSw => by (try dsimp only at hSw); (try obtain ⟨s0, s1, s2, s3⟩ := hSw); go_simp; (try with_reducible rfl)⟩) hHeld ?_
          try simp only [List.getElem_toArray, List.getElem_cons_zero, List.getElem_cons_succ, Act.put, List.setIfInBounds_toArray, List.set_cons_zero, List.set_cons_succ]
          refine wpAnyH_take (i := 4) rfl (by kernel_rfl) (by kernel_rfl) (by kernel_rfl) (fun _ _ _ h => h) (Or.inl ⟨by kernel_rfl, fun w hSw => by (try dsimp only at hSw); (try obtain ⟨s0, s1, s2, s3⟩ := hSw); go_simp; (try with_reducible rfl)⟩) hHeld ?_
          try simp only [List.getElem_toArray, List.getElem_cons_zero, List.getElem_cons_succ, Act.put, List.setIfInBounds_toArray, List.set_cons_zero, List.set_cons_succ]
          refine wpAnyH_take (i := 5) rfl (by kernel_rfl) (by kernel_rfl) (by kernel_rfl) (fun _ _ _ h => h) (Or.inl ⟨by kernel_rfl, fun w hSw => by (try dsimp only at hSw); (try obtain ⟨s0, s1, s2, s3⟩ := hSw); go_simp; (try with_reducible rfl)⟩) hHeld ?_
          try simp only [List.getElem_toArray, List.getElem_cons_zero, List.getElem_cons_succ, Act.put, List.setIfInBounds_toArray, List.set_cons_zero, List.set_cons_succ]
          refine wpAnyH_take (i := 6) rfl (by kernel_rfl) (by kernel_rfl) (by kernel_rfl) (fun _ _ _ h => h) (Or.inl ⟨by kernel_rfl, fun w hSw => by (try dsimp only at hSw); (try obtain ⟨s0, s1, s2, s3⟩ := hSw); go_simp; (try with_reducible rfl)⟩) hHeld ?_
          try simp only [List.getElem_toArray, List.getElem_cons_zero, List.getElem_cons_succ, Act.put, List.setIfInBounds_toArray, List.set_cons_zero, List.set_cons_succ]
          refine wpAnyH_take (i := 7) rfl (by kernel_rfl) (by kernel_rfl) (by kernel_rfl) (fun _ _ _ h => h) (Or.inl ⟨by kernel_rfl, fun w hSw => by (try dsimp only at hSw); (try obtain ⟨s0, s1, s2, s3⟩ := hSw); go_simp; (try with_reducible rfl)⟩) hHeld ?_
          try simp only [List.getElem_toArray, List.getElem_cons_zero, List.getElem_cons_succ, Act.put, List.setIfInBounds_toArray, List.set_cons_zero, List.set_cons_succ]
          refine wpAnyH_take (i := 8) rfl (by kernel_rfl) (by kernel_rfl) (by kernel_rfl) (fun _ _ _ h => h) (Or.inl ⟨by kernel_rfl, fun w hSw => by (try dsimp only at hSw); (try obtain ⟨s0, s1, s2, s3⟩ := hSw); go_simp; (try with_reducible rfl)⟩) hHeld ?_
          try simp only [List.getElem_toArray, List.getElem_cons_zero, List.getElem_cons_succ, Act.put, List.setIfInBounds_toArray, List.set_cons_zero, List.set_cons_succ]
          refine wpAnyH_take (i := 9) rfl (by kernel_rfl) (by kernel_rfl) (by kernel_rfl) (fun _ _ _ h => h) (Or.inl ⟨by kernel_rfl, fun w hSw => by (try dsimp only at hSw); (try obtain ⟨s0, s1, s2, s3⟩ := hSw); go_simp; (try with_reducible rfl)⟩) hHeld ?_
          try simp only [List.getElem_toArray, List.getElem_cons_zero, List.getElem_cons_succ, Act.put, List.setIfInBounds_toArray, List.set_cons_zero, List.set_cons_succ]
          refine wpAnyH_take (i := 11) rfl (by kernel_rfl) (by kernel_rfl) (by kernel_rfl) (fun _ _ _ h => h) (Or.inl ⟨by kernel_rfl, fun w hSw => by (try dsimp only at hSw); (try obtain ⟨s0, s1, s2, s3⟩ := hSw); go_simp; (try with_reducible rfl)⟩) hHeld ?_
          try simp only [List.getElem_toArray, List.getElem_cons_zero, List.getElem_cons_succ, Act.put, List.setIfInBounds_toArray, List.set_cons_zero, List.set_cons_succ]
          refine wpAnyH_take (i := 12) rfl (by kernel_rfl) (by kernel_rfl) (by kernel_rfl) (fun _ _ _ h => h) (Or.inl ⟨by kernel_rfl, fun w hSw => by (try dsimp only at hSw); (try obtain ⟨s0, s1, s2, s3⟩ := hSw); go_simp; (try with_reducible rfl)⟩) hHeld ?_
          try simp only [List.getElem_toArray, List.getElem_cons_zero, List.getElem_cons_succ, Act.put, List.setIfInBounds_toArray, List.set_cons_zero, List.set_cons_succ]
          refine wpAnyH_take (i := 13) rfl (by kernel_rfl) (by kernel_rfl) (by kernel_rfl) (fun _ _ _ h => h) (Or.inl ⟨by kernel_rfl, fun w hSw => by (try dsimp only at hSw); (try obtain ⟨s0, s1, s2, s3⟩ := hSw); go_simp; (try with_reducible rfl)⟩) hHeld ?_
          try simp only [List.getElem_toArray, List.getElem_cons_zero, List.getElem_cons_succ, Act.put, List.setIfInBounds_toArray, List.set_cons_zero, List.set_cons_succ]
          refine wpAnyH_take (i := 14) rfl (by kernel_rfl) (by kernel_rfl) (by kernel_rfl) (fun _ _ _ h => h) (Or.inl ⟨by kernel_rfl, fun w hSw => by (try dsimp only at hSw); (try obtain ⟨s0, s1, s2, s3⟩ := hSw); go_simp; (try with_reducible rfl)⟩) hHeld ?_
          try simp only [List.getElem_toArray, List.getElem_cons_zero, List.getElem_cons_succ, Act.put, List.setIfInBounds_toArray, List.set_cons_zero, List.set_cons_succ]
          refine wpAnyH_take (i := 15) rfl (by kernel_rfl) (by kernel_rfl) (by kernel_rfl) (fun _ _ _ h => h) (Or.inl ⟨by kernel_rfl, fun w hSw => by (try dsimp only at hSw); (try obtain ⟨s0, s1, s2, s3⟩ := hSw); go_simp; (try with_reducible rfl)⟩) hHeld ?_
          try simp only [List.getElem_toArray, List.getElem_cons_zero, List.getElem_cons_succ, Act.put, List.setIfInBounds_toArray, List.set_cons_zero, List.set_cons_succ]
          refine wpAnyH_take (i := 16) rfl (by kernel_rfl) (by kernel_rfl) (by kernel_rfl) (fun _ _ _ h => h) (Or.inl ⟨by kernel_rfl, fun w hSw => by (try dsimp only at hSw); (try obtain ⟨s0, s1, s2, s3⟩ := hSw); go_simp; (try with_reducible rfl)⟩) hHeld ?_
          try simp only [List.getElem_toArray, List.getElem_cons_zero, List.getElem_cons_succ, Act.put, List.setIfInBounds_toArray, List.set_cons_zero, List.set_cons_succ]
          refine wpAnyH_ready (rs := [3]) (by kernel_rfl) (by simp) ?_
          refine AllReadyH.cons rfl (fun KK hK => ?_) AllReadyH.nil
          go_simp
          first | go_at_call 76 | skip
          refine (WOJ.out _ hHeld.2.2.2).mono ?_
          rintro e w5 ⟨v5, rfl, ho5, hb5⟩
          have hb6 := undrewG hb5
          obtain ⟨h5, c5, rfl⟩ : ∃ h5 c5, v5 = .slice (some ⟨h5, 0, none⟩) RW.length c5 := by
            rcases ho5.forms with ⟨_, e⟩ | ⟨h, c, e, _⟩
            · exfalso
              have := TWJ.out.n1
              rw [e] at this
              exact absurd this (by simp)
            · exact ⟨h, c, e⟩
          have HR5 := Lib.hid ho5.row
          refine hK.out _ _ ?_ (fun hH2 => ?_)
          · exact keepW3 KC.out hb6
          clear hK KK hHeld hb5 ho5
          try simp only [List.getElem_toArray, List.getElem_cons_zero, List.getElem_cons_succ, Act.put, List.setIfInBounds_toArray, List.set_cons_zero, List.set_cons_succ]
          refine wpAnyH_ready (rs := [10]) (by kernel_rfl) (by simp) ?_
          refine AllReadyH.cons rfl (fun KK hK => ?_) AllReadyH.nil
          go_simp
          first | go_at_call 68 | skip
          refine (AT.out h5 c5 _ HR5.out).mono ?_
          rintro e w7 ⟨rfl, hb7⟩
          have hb8 := hb6.trans (hb7.mono hb6.size)
          have HB8 := Lib.hid hb8
          refine hK.out _ _ ?_ (fun hH3 => ?_)
          · exact keepW3 KC.out hb8
          clear hK KK hH2 hb6 hb7 hb8
          try simp only [List.getElem_toArray, List.getElem_cons_zero, List.getElem_cons_succ, Act.put, List.setIfInBounds_toArray, List.set_cons_zero, List.set_cons_succ]
          refine wpAnyH_take (i := 17) rfl (by kernel_rfl) (by kernel_rfl) (by kernel_rfl) (fun _ _ _ h => h) (Or.inl ⟨by kernel_rfl, fun w hSw => by (try dsimp only at hSw); (try obtain ⟨s0, s1, s2, s3⟩ := hSw); go_simp; (try with_reducible rfl)⟩) hH3 ?_
          try simp only [List.getElem_toArray, List.getElem_cons_zero, List.getElem_cons_succ, Act.put, List.setIfInBounds_toArray, List.set_cons_zero, List.set_cons_succ]
          refine wpAnyH_done (by kernel_rfl) ?_ _
          have HB9 : Hid (Below w.heap.size w w7) := Lib.hid hH3.2.2.2
          have hBw := HWS.out.trans (HB8.out.mono HWS.out.size)
          have HT9 := Lib.hid (HT.out.below hBw)
          have hO9 := (World.ownsRow.kept HO.out (⟨hBw.os, hBw.tape, hBw.output, hBw.size, fun k hk _ => hBw.block k hk⟩ : wr.grownBy w7 none) (by cases hv : (Value.slice ad m cap4).ownBlock <;> simp))
          have HO9 := Lib.hid hO9
          have hw9 : w.heap.size < w7.heap.size := by have := hBw.size; omega
          clear hH3 hBw hO9 KC
          have h1 := UY.out (j + 1) (by omega) (by rw [HND.out]; simp)
          have HE := Lib.hid h1
          have hmj : m ≤ j + 1 := by have := HM.out; have := ULn.out (j + 1); omega
          have hO := HO9.out
          rw [← HM.out] at hO
          have hi := HI0.out
          have hz0 := HZ0.out
          have hz1 := HZ1.out
          have hz2 := HZ2.out
          have hsB := HB9.out.size
          clear h1
          go_wp2_with (at_builtin; refine wpList_append_lies _ rfl _ _ 59 rfl w.heap.size 2 i0 (.int .i64 0) 1 8 Try.underlying59 hi hz0 hz1 hz2 rfl (by decide) _ _ _ rfl (hO.alloc _) ⟨w7.heap.size, 0, none⟩ 1 1 [.int .i64 ((j + 1 : Nat) : Int)] rfl rfl ?c1 ?c2 ?c0 ?c3 ?c4 ?c5 (w7.heap.size + 1) ?c6 ?_)
          case c1 => exact one_cellI _ _ _
          case c2 => exact one_plainI _
          case c0 => omega
          case c3 => unfold maxLen; omega
          case c4 => omega
          case c5 => simp; omega
          case c6 => simp
          intro gg cap3 w8 hown' hgrow hlies hlt3
          have hgB := own_belowI hO HB9.out hsB hgrow
          have hgT : Below w7.heap.size w7 (w7.alloc (.cells #[.int .i64 ((j + 1 : Nat) : Int)] 2)) := (Below.refl _ _).alloc (Nat.le_refl _) _
          have HBN := Lib.hid hgB
          have hl2 : m + 1 = (L (j + 1 + 1)).length := by rw [HE.out, List.length_append, ← HM.out]; rfl
          have HL2 := Lib.hid hl2
          have O5 : Hid (w8.ownsRow w.heap.size 2 1 (.slice (some ⟨gg, 0, none⟩) (m + 1) cap3) (L (j + 1 + 1)).length ((L (j + 1 + 1)).map fun x => .int .i64 x)) := Lib.hid (by
            rw [← hl2, HE.out, List.map_append]
            exact hown')
          have HT8 : Hid (TAt w8 w.heap.size s (.slice (some ⟨g, 0, none⟩) zs.length zs.length)) := Lib.hid (by
            have t1 := HT9.out.below hgT
            have hne : some w.heap.size ≠ (Value.slice ad m cap4).ownBlock := fun e => by
              have h4 := HAD.out _ e.symm
              omega
            exact ⟨(hgrow.cell_far ⟨w.heap.size, 0, none⟩ t1.lt hne).trans t1.c0, (hgrow.cell_far ⟨w.heap.size, 1, none⟩ t1.lt hne).trans t1.c1⟩)
          have hw8 : w.heap.size < w8.heap.size := HT8.out.lt
          have HAD8 : Hid (∀ b, (Value.slice (some ⟨gg, 0, none⟩) (m + 1) cap3).ownBlock = some b → w.heap.size < b) := Lib.hid (fun b hb => by
            simp only [Value.ownBlock] at hb
            injection hb with hb
            rcases hlies with e | e
            · have := HAD.out _ e
              omega
            · omega)
          clear hown' hgrow hlies hO hi hz0 hz1 hz2 hl2 hgB hgT
          go_wp2_with fail
          go_roundg (zs.length + 1 - (j + 1))
          case measure => omega
          case rel => exact ⟨j + 1, m + 1, _, _, rfl, by go_num, HL2, Lib.hid (Or.inl (by omega)), by omega, O5, HBN, HT8, hw8, HAD8⟩
        · have q1 : (y == x1) = false := beq_eq_false_iff_ne.2 hyx
          have HYN := Lib.hid hyx
          have KC : Hid (wr.cell? ⟨w.heap.size, 1, none⟩ = some (.slice (some ⟨g, 0, none⟩) zs.length zs.length) ∧ wr.cell? ⟨g, (j + 1) * 2, none⟩ = some (.int .i64 x0) ∧ wr.cell? ⟨g, (j + 1) * 2 + 1, none⟩ = some (.int .i64 x1) ∧ Below w.heap.size w wr) := Lib.hid ⟨m1, c0, c1, HB.out⟩
          obtain ⟨WS, hWS⟩ : ∃ W, W = wr := ⟨_, rfl⟩
          have HWS : Hid (Below wr.heap.size wr WS) := Lib.hid (by rw [hWS]; exact Below.refl _ _)
          rw [← hWS] at KC
          go_wp2_with fail
          rw [← hWS]
          clear hWS m0 m1 c0 c1
          refine wp_region_held_drew (S := fun W => W.cell? ⟨w.heap.size, 1, none⟩ = some (.slice (some ⟨g, 0, none⟩) zs.length zs.length) ∧ W.cell? ⟨g, (j + 1) * 2, none⟩ = some (.int .i64 x0) ∧ W.cell? ⟨g, (j + 1) * 2 + 1, none⟩ = some (.int .i64 x1) ∧ Below w.heap.size w W) (by kernel_rfl) ?_ (fun hHeld => ?_)
          · exact keepW3 KC.out (drewG WS)
          refine wpAnyH_take (i := 0) rfl (by kernel_rfl) (by kernel_rfl) (by kernel_rfl) (fun _ _ _ h => h) (Or.inl ⟨by kernel_rfl, fun w hSw => by (try dsimp only at hSw); (try obtain ⟨s0, s1, s2, s3⟩ := hSw); go_simp; (try with_reducible rfl)⟩) hHeld ?_
          try simp only [List.getElem_toArray, List.getElem_cons_zero, List.getElem_cons_succ, Act.put, List.setIfInBounds_toArray, List.set_cons_zero, List.set_cons_succ]
          refine wpAnyH_take (i := 1) rfl (by kernel_rfl) (by kernel_rfl) (by kernel_rfl) (fun _ _ _ h => h) (Or.inl ⟨by kernel_rfl, fun w hSw => by (try dsimp only at hSw); (try obtain ⟨s0, s1, s2, s3⟩ := hSw); go_simp; (try with_reducible rfl)⟩) hHeld ?_
          try simp only [List.getElem_toArray, List.getElem_cons_zero, List.getElem_cons_succ, Act.put, List.setIfInBounds_toArray, List.set_cons_zero, List.set_cons_succ]
          refine wpAnyH_take (i := 2) rfl (by kernel_rfl) (by kernel_rfl) (by kernel_rfl) (fun _ _ _ h => h) (Or.inl ⟨by kernel_rfl, fun w hSw => by (try dsimp only at hSw); (try obtain ⟨s0, s1, s2, s3⟩ := hSw); go_simp; (try with_reducible rfl)⟩) hHeld ?_
          try simp only [List.getElem_toArray, List.getElem_cons_zero, List.getElem_cons_succ, Act.put, List.setIfInBounds_toArray, List.set_cons_zero, List.set_cons_succ]
          refine wpAnyH_take (i := 4) rfl (by kernel_rfl) (by kernel_rfl) (by kernel_rfl) (fun _ _ _ h => h) (Or.inl ⟨by kernel_rfl, fun w hSw => by (try dsimp only at hSw); (try obtain ⟨s0, s1, s2, s3⟩ := hSw); go_simp; (try with_reducible rfl)⟩) hHeld ?_
          try simp only [List.getElem_toArray, List.getElem_cons_zero, List.getElem_cons_succ, Act.put, List.setIfInBounds_toArray, List.set_cons_zero, List.set_cons_succ]
          refine wpAnyH_take (i := 5) rfl (by kernel_rfl) (by kernel_rfl) (by kernel_rfl) (fun _ _ _ h => h) (Or.inl ⟨by kernel_rfl, fun w hSw => by (try dsimp only at hSw); (try obtain ⟨s0, s1, s2, s3⟩ := hSw); go_simp; (try with_reducible rfl)⟩) hHeld ?_
          try simp only [List.getElem_toArray, List.getElem_cons_zero, List.getElem_cons_succ, Act.put, List.setIfInBounds_toArray, List.set_cons_zero, List.set_cons_succ]
          refine wpAnyH_take (i := 6) rfl (by kernel_rfl) (by kernel_rfl) (by kernel_rfl) (fun _ _ _ h => h) (Or.inl ⟨by kernel_rfl, fun w hSw => by (try dsimp only at hSw); (try obtain ⟨s0, s1, s2, s3⟩ := hSw); go_simp; (try with_reducible rfl)⟩) hHeld ?_
          try simp only [List.getElem_toArray, List.getElem_cons_zero, List.getElem_cons_succ, Act.put, List.setIfInBounds_toArray, List.set_cons_zero, List.set_cons_succ]
          refine wpAnyH_take (i := 7) rfl (by kernel_rfl) (by kernel_rfl) (by kernel_rfl) (fun _ _ _ h => h) (Or.inl ⟨by kernel_rfl, fun w hSw => by (try dsimp only at hSw); (try obtain ⟨s0, s1, s2, s3⟩ := hSw); go_simp; (try with_reducible rfl)⟩) hHeld ?_
          try simp only [List.getElem_toArray, List.getElem_cons_zero, List.getElem_cons_succ, Act.put, List.setIfInBounds_toArray, List.set_cons_zero, List.set_cons_succ]
          refine wpAnyH_take (i := 8) rfl (by kernel_rfl) (by kernel_rfl) (by kernel_rfl) (fun _ _ _ h => h) (Or.inl ⟨by kernel_rfl, fun w hSw => by (try dsimp only at hSw); (try obtain ⟨s0, s1, s2, s3⟩ := hSw); go_simp; (try with_reducible rfl)⟩) hHeld ?_
          try simp only [List.getElem_toArray, List.getElem_cons_zero, List.getElem_cons_succ, Act.put, List.setIfInBounds_toArray, List.set_cons_zero, List.set_cons_succ]
          refine wpAnyH_take (i := 9) rfl (by kernel_rfl) (by kernel_rfl) (by kernel_rfl) (fun _ _ _ h => h) (Or.inl ⟨by kernel_rfl, fun w hSw => by (try dsimp only at hSw); (try obtain ⟨s0, s1, s2, s3⟩ := hSw); go_simp; (try with_reducible rfl)⟩) hHeld ?_
          try simp only [List.getElem_toArray, List.getElem_cons_zero, List.getElem_cons_succ, Act.put, List.setIfInBounds_toArray, List.set_cons_zero, List.set_cons_succ]
          refine wpAnyH_take (i := 11) rfl (by kernel_rfl) (by kernel_rfl) (by kernel_rfl) (fun _ _ _ h => h) (Or.inl ⟨by kernel_rfl, fun w hSw => by (try dsimp only at hSw); (try obtain ⟨s0, s1, s2, s3⟩ := hSw); go_simp; (try with_reducible rfl)⟩) hHeld ?_
          try simp only [List.getElem_toArray, List.getElem_cons_zero, List.getElem_cons_succ, Act.put, List.setIfInBounds_toArray, List.set_cons_zero, List.set_cons_succ]
          refine wpAnyH_take (i := 12) rfl (by kernel_rfl) (by kernel_rfl) (by kernel_rfl) (fun _ _ _ h => h) (Or.inl ⟨by kernel_rfl, fun w hSw => by (try dsimp only at hSw); (try obtain ⟨s0, s1, s2, s3⟩ := hSw); go_simp; (try with_reducible rfl)⟩) hHeld ?_
          try simp only [List.getElem_toArray, List.getElem_cons_zero, List.getElem_cons_succ, Act.put, List.setIfInBounds_toArray, List.set_cons_zero, List.set_cons_succ]
          refine wpAnyH_take (i := 13) rfl (by kernel_rfl) (by kernel_rfl) (by kernel_rfl) (fun _ _ _ h => h) (Or.inl ⟨by kernel_rfl, fun w hSw => by (try dsimp only at hSw); (try obtain ⟨s0, s1, s2, s3⟩ := hSw); go_simp; (try with_reducible rfl)⟩) hHeld ?_
          try simp only [List.getElem_toArray, List.getElem_cons_zero, List.getElem_cons_succ, Act.put, List.setIfInBounds_toArray, List.set_cons_zero, List.set_cons_succ]
          refine wpAnyH_take (i := 14) rfl (by kernel_rfl) (by kernel_rfl) (by kernel_rfl) (fun _ _ _ h => h) (Or.inl ⟨by kernel_rfl, fun w hSw => by (try dsimp only at hSw); (try obtain ⟨s0, s1, s2, s3⟩ := hSw); go_simp; (try with_reducible rfl)⟩) hHeld ?_
          try simp only [List.getElem_toArray, List.getElem_cons_zero, List.getElem_cons_succ, Act.put, List.setIfInBounds_toArray, List.set_cons_zero, List.set_cons_succ]
          refine wpAnyH_take (i := 15) rfl (by kernel_rfl) (by kernel_rfl) (by kernel_rfl) (fun _ _ _ h => h) (Or.inl ⟨by kernel_rfl, fun w hSw => by (try dsimp only at hSw); (try obtain ⟨s0, s1, s2, s3⟩ := hSw); go_simp; (try with_reducible rfl)⟩) hHeld ?_
          try simp only [List.getElem_toArray, List.getElem_cons_zero, List.getElem_cons_succ, Act.put, List.setIfInBounds_toArray, List.set_cons_zero, List.set_cons_succ]
          refine wpAnyH_take (i := 16) rfl (by kernel_rfl) (by kernel_rfl) (by kernel_rfl) (fun _ _ _ h => h) (Or.inl ⟨by kernel_rfl, fun w hSw => by (try dsimp only at hSw); (try obtain ⟨s0, s1, s2, s3⟩ := hSw); go_simp; (try with_reducible rfl)⟩) hHeld ?_
          try simp only [List.getElem_toArray, List.getElem_cons_zero, List.getElem_cons_succ, Act.put, List.setIfInBounds_toArray, List.set_cons_zero, List.set_cons_succ]
          refine wpAnyH_ready (rs := [3]) (by kernel_rfl) (by simp) ?_
          refine AllReadyH.cons rfl (fun KK hK => ?_) AllReadyH.nil
          go_simp
          first | go_at_call 76 | skip
          refine (WOJ.out _ hHeld.2.2.2).mono ?_
          rintro e w5 ⟨v5, rfl, ho5, hb5⟩
          have hb6 := undrewG hb5
          obtain ⟨h5, c5, rfl⟩ : ∃ h5 c5, v5 = .slice (some ⟨h5, 0, none⟩) RW.length c5 := by
            rcases ho5.forms with ⟨_, e⟩ | ⟨h, c, e, _⟩
            · exfalso
              have := TWJ.out.n1
              rw [e] at this
              exact absurd this (by simp)
            · exact ⟨h, c, e⟩
          have HR5 := Lib.hid ho5.row
          refine hK.out _ _ ?_ (fun hH2 => ?_)
          · exact keepW3 KC.out hb6
          clear hK KK hHeld hb5 ho5
          try simp only [List.getElem_toArray, List.getElem_cons_zero, List.getElem_cons_succ, Act.put, List.setIfInBounds_toArray, List.set_cons_zero, List.set_cons_succ]
          refine wpAnyH_ready (rs := [10]) (by kernel_rfl) (by simp) ?_
          refine AllReadyH.cons rfl (fun KK hK => ?_) AllReadyH.nil
          go_simp
          first | go_at_call 68 | skip
          refine (AT.out h5 c5 _ HR5.out).mono ?_
          rintro e w7 ⟨rfl, hb7⟩
          have hb8 := hb6.trans (hb7.mono hb6.size)
          have HB8 := Lib.hid hb8
          refine hK.out _ _ ?_ (fun hH3 => ?_)
          · exact keepW3 KC.out hb8
          clear hK KK hH2 hb6 hb7 hb8
          try simp only [List.getElem_toArray, List.getElem_cons_zero, List.getElem_cons_succ, Act.put, List.setIfInBounds_toArray, List.set_cons_zero, List.set_cons_succ]
          refine wpAnyH_take (i := 17) rfl (by kernel_rfl) (by kernel_rfl) (by kernel_rfl) (fun _ _ _ h => h) (Or.inl ⟨by kernel_rfl, fun w hSw => by (try dsimp only at hSw); (try obtain ⟨s0, s1, s2, s3⟩ := hSw); go_simp; (try with_reducible rfl)⟩) hH3 ?_
          try simp only [List.getElem_toArray, List.getElem_cons_zero, List.getElem_cons_succ, Act.put, List.setIfInBounds_toArray, List.set_cons_zero, List.set_cons_succ]
          refine wpAnyH_done (by kernel_rfl) ?_ _
          have HB9 : Hid (Below w.heap.size w w7) := Lib.hid hH3.2.2.2
          have hBw := HWS.out.trans (HB8.out.mono HWS.out.size)
          have HT9 := Lib.hid (HT.out.below hBw)
          have hO9 := (World.ownsRow.kept HO.out (⟨hBw.os, hBw.tape, hBw.output, hBw.size, fun k hk _ => hBw.block k hk⟩ : wr.grownBy w7 none) (by cases hv : (Value.slice ad m cap4).ownBlock <;> simp))
          have HO9 := Lib.hid hO9
          have hw9 : w.heap.size < w7.heap.size := by have := hBw.size; omega
          clear hH3 hBw hO9 KC
          have h1 := UN.out (j + 1) (by omega) (by rw [HND.out]; exact decide_eq_false HYN.out)
          have HE := Lib.hid h1
          clear h1
          go_wp2_with fail
          go_roundg (zs.length + 1 - (j + 1))
          case measure => omega
          case rel => exact ⟨j + 1, m, _, _, rfl, by go_num, by rw [HE.out]; exact HM, Lib.hid (Or.inl (by omega)), by omega, by rw [HE.out]; exact HO9, HB9, HT9, hw9, HAD⟩
      · have hR : L (j + 1) = R := UE.out (j + 1) (by omega) (by omega) (by rcases HJ.out with h | h <;> omega)
        have HR := Lib.hid hR
        have hO := In.Own.of_row HO.out
        rw [hR] at hO
        have HO2 := Lib.hid hO
        have j2 : ¬ ((j + 1 : Nat) : Int) + 1 < (zs.length : Int) := by omega
        have j3 : ¬ (j : Int) + 1 + 1 < (zs.length : Int) := by omega
        have hjb : j ≤ 24 := by rcases HJ.out with h | h <;> omega
        have wj : wrap64 ((j : Int) + 1 + 1) = (j : Int) + 1 + 1 := IntWalk.wrap64_in _ (by omega)
        have wj2 : IntKind.i64.wrap ((j : Int) + 1 + 1) = (j : Int) + 1 + 1 := IntWalk.i64_in _ (by omega)
        clear hR hO
        go_wp2_with fail
        go_ret2
        exact ⟨_, rfl, HO2.out, HB.out⟩
end Go.Proofs.Ytdbocpcijkngpaa.Tk
