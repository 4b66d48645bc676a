/-
  MissingFrames (package spec).
-/
import Derived.Test.YtecnhbgkkfcipaaMsW
import Derived.Test.YtecnhbgkkfcipaaInO
import Derived.Deep.LoopGhost
import Derived.Deep.AppendLies
namespace Go.Proofs.Ytecnhbgkkfcipaa.Ms
open Go.RowKit
open Tc (bel_dT)
set_option linter.unusedVariables false

theorem info_i64m : (Try.prog.info? 2).map (fun i => (i.zero, i.size, i.bytes)) = some (some (.int .i64 0), 1, 8) := by kernel_rfl
theorem own_belowM {B : Nat} {w0 w w1 : World} {v : Value} {n : Nat} {xs : List Value} {o : Obj} (hown : w.ownsRow B 2 1 v n xs) (hb : Below B w0 w) (hB : B ≤ w.heap.size)
    (hg : (w.alloc o).grownBy w1 v.ownBlock) : Below B w0 w1 :=
  (hb.alloc hB o).grown hg (by simp; omega) (fun k hk => (hown.lt k hk).1)
theorem one_cellM (w : World) (T : TypeId) (a : Int) : ∀ (j : Nat) u, [Value.int .i64 a][j]? = some u → (w.alloc (.cells #[.int .i64 a] T)).cell? ((⟨w.heap.size, 0, none⟩ : Addr).add j) = some u := by
  intro j u hj
  match j, hj with
  | 0, hj => simp at hj; subst hj; simp [Addr.add]
theorem one_plainM (a : Int) : ∀ u ∈ [Value.int .i64 a], u.oneCell' = true := by
  intro u hu
  simp at hu
  subst hu
  rfl
/-- The list so far, in memory of the call's own. -/
structure St (w wr : World) (v : Value) (L : List Int) : Prop where
  own : wr.ownsRow w.heap.size 2 1 v L.length (L.map fun x => .int .i64 x)
  below : Below w.heap.size w wr
theorem St.drewN {w wr : World} {v : Value} {L : List Int} (h : St w wr v L) (q : Nat) : St w (wr.drewN q) v L :=
  ⟨World.ownsRow.kept h.own (⟨rfl, rfl, rfl, Nat.le_refl _, fun k hk _ => rfl⟩ : wr.grownBy (wr.drewN q) none) (by cases hv : v.ownBlock <;> simp), bel_dT h.below q⟩
/-- What MissingFrames answers. -/
def IPost (r : List Int × Int) (w : World) (e : Ending) (w' : World) : Prop := ∃ v, e = .returned (.tuple #[v, .int .i64 r.2]) ∧ In.Own w' w.heap.size w'.heap.size v r.1 ∧ Below w.heap.size w w'
set_option maxRecDepth 100000 in
set_option maxHeartbeats 8000000 in
theorem specMiss_any (g cap : Nat) (zs : List Int) (w : World) (hb : zs.length ≤ 1048577) (h1 : Cells w g zs) :
    Calls Try.prog 39 #[.slice (some ⟨g, 0, none⟩) zs.length cap] w (IPost (missV zs) w) := by
  have R := Lib.hid (rises_any g cap zs w hb h1)
  have H1 := Lib.hid h1
  clear h1
  unfold missV
  cases hr : risB zs zs.length with
  | false =>
    rw [hr] at R
    rw [if_neg (by simp)]
    clear hr
    go_enter Try.func39, Try.ntmps39
    go_wp2_with fail
    refine R.out.mono ?_
    rintro e w1 ⟨rfl, q0, hq0⟩
    have HB1 : Hid (Below w.heap.size w w1) := Lib.hid (by rw [hq0]; exact bel_dT (Below.refl _ _) _)
    clear hq0
    go_wp2_with fail
    go_ret2
    exact ⟨_, rfl, In.Own.nil _ _ _ _ _, HB1.out⟩
  | true =>
    rw [hr] at R
    rw [if_pos rfl]
    have BD := Lib.hid (fun j hj => step_bd zs j (risB_at zs zs.length hr j hj))
    have GM := Lib.hid (fun j k h => gapL_mono zs j k h)
    have GN := Lib.hid (fun j => gapL_len_next zs j)
    clear hr
    obtain ⟨N, hN⟩ : ∃ N, N = gapL zs zs.length := ⟨_, rfl⟩
    have HN := Lib.hid hN
    obtain ⟨R2, hR2⟩ : ∃ R2 : List Int × Int, R2 = (if (gapL zs zs.length).length ≤ 64 then (gapL zs zs.length, 0) else ([], 5)) := ⟨_, rfl⟩
    rw [← hR2]
    have HR2 := Lib.hid hR2
    clear hN hR2
    obtain ⟨i0, hi, hzz⟩ := Option.map_eq_some_iff.1 info_i64m
    simp only [Prod.mk.injEq] at hzz
    obtain ⟨hz0, hz1, hz2⟩ := hzz
    have HI0 := Lib.hid hi
    have HZ0 := Lib.hid hz0
    have HZ1 := Lib.hid hz1
    have HZ2 := Lib.hid hz2
    clear hi hz0 hz1 hz2
    go_enter Try.func39, Try.ntmps39
    go_wp2_with fail
    refine R.out.mono ?_
    rintro e w1 ⟨rfl, q0, hq0⟩
    have HB1 : Hid (Below w.heap.size w w1) := Lib.hid (by rw [hq0]; exact bel_dT (Below.refl _ _) _)
    clear hq0
    have hsz := HB1.out.size
    obtain ⟨W2, hW2⟩ : ∃ W, W = w1.alloc (Obj.cells #[] 2) := ⟨_, rfl⟩
    have ST0 : Hid (St w W2 (.slice (some ⟨w1.heap.size, 0, none⟩) 0 0) []) := Lib.hid (by
      rw [hW2]
      exact ⟨World.ownsRow_lit (base := w.heap.size) (e := 2) (size := 1) w1 #[] 0 hsz (by decide) rfl, HB1.out.alloc hsz _⟩)
    have HW2 := Lib.hid hW2
    clear hW2
    go_wp2_with fail
    rw [← HW2.out]
    clear HW2 R
    go_loopg [4, 5] (zs.length + 2) (fun kx s4 s5 wr => ∃ (i m : Nat) (ad : Option Addr) (cap4 : Nat), s4 = .slice ad m cap4 ∧ s5 = .int .i64 (i : Int) ∧ Hid (m = (gapL zs i).length) ∧ m ≤ 64 ∧ 1 ≤ i ∧ Hid (i ≤ zs.length ∨ i = 1) ∧ kx = zs.length + 3 - i ∧ Hid (St w wr (.slice ad m cap4) (gapL zs i)))
    case atStart => exact ⟨1, 0, _, _, rfl, rfl, Lib.hid (by rw [gapL_one]; rfl), by omega, Nat.le_refl _, Lib.hid (Or.inr rfl), rfl, by rw [gapL_one]; exact ST0⟩
    case round =>
      obtain ⟨i, m, ad, cap4, rfl, rfl, HM, hm, h1i, HJ, rfl, HST⟩ := hrel
      have HCL := Lib.hid (H1.out.below HST.out.below)
      by_cases hlt : i < zs.length
      · obtain ⟨k, hk⟩ : ∃ k, i = k + 1 := ⟨i - 1, by omega⟩
        have c0 := HCL.out.2 i hlt
        have d0 := HCL.out.2 k (by omega)
        obtain ⟨⟨x0, x1⟩, hor⟩ := BD.out i hlt
        obtain ⟨⟨y0, y1⟩, _⟩ := BD.out k (by omega)
        have hyx : gz zs k < gz zs i := by
          rcases hor with h | h
          · omega
          · rw [show i - 1 = k by omega] at h; exact h
        have hgap : (gapN zs i : Int) = gz zs i - gz zs k - 1 := by
          unfold gapN
          rw [if_neg (by omega), show i - 1 = k by omega]
          omega
        have hgn := GN.out i
        have hgm := GM.out (i + 1) zs.length (by omega)
        rw [hgn, ← HM.out] at hgm
        have HGM := Lib.hid hgm
        have HNX : Hid (gapL zs (i + 1) = gapL zs i ++ rng (gz zs k + 1) (gapN zs i)) := Lib.hid (by rw [gapL_next, show i - 1 = k by omega])
        have i0' : (0 : Int) ≤ (i : Int) := by omega
        have i1' : (i : Int) < (zs.length : Int) := by omega
        have ek : (i : Int) - 1 = (k : Int) := by omega
        have k0 : (0 : Int) ≤ (k : Int) := by omega
        have k1 : (k : Int) < (zs.length : Int) := by omega
        have wk : IntKind.i64.wrap (k : Int) = (k : Int) := IntWalk.i64_in _ (by omega)
        have HK := Lib.hid hk
        clear hgn hgm hor hk
        generalize hX : gz zs i = x at *
        generalize hY : gz zs k = y at *
        have HX := Lib.hid hX
        have HY := Lib.hid hY
        clear hX hY
        have HG := Lib.hid hgap
        generalize gapN zs i = gn at *
        have wa : IntKind.i64.wrap (x - y) = x - y := IntWalk.i64_in _ (by omega)
        have wb : IntKind.i64.wrap (x - y - 1) = x - y - 1 := IntWalk.i64_in _ (by omega)
        have wc : IntKind.i64.wrap (x - y - 1 + (m : Int)) = x - y - 1 + (m : Int) := IntWalk.i64_in _ (by omega)
        by_cases hbig : 64 < x - y - 1 + (m : Int)
        · have hd : decide ((64 : Int) < x - y - 1 + (m : Int)) = true := decide_eq_true hbig
          have e : R2 = ([], 5) := by
            rw [HR2.out, if_neg]
            have := HGM.out
            omega
          have HE := Lib.hid e
          clear hgap e
          go_wp2_with fail
          go_quiet (fail)
          rename Nat => q1
          go_wp2_with fail
          go_ret2
          rw [HE.out]
          exact ⟨_, rfl, In.Own.nil _ _ _ _ _, bel_dT HST.out.below _⟩
        · have hd : decide ((64 : Int) < x - y - 1 + (m : Int)) = false := decide_eq_false hbig
          clear hgap
          go_wp2_with fail
          go_quiet (fail)
          rename Nat => q1
          have ST1 := Lib.hid (HST.out.drewN q1)
          have c1 : (wr.drewN q1).cell? ⟨g, i, none⟩ = some (.int .i64 x) := c0
          have d1 : (wr.drewN q1).cell? ⟨g, k, none⟩ = some (.int .i64 y) := d0
          clear c0 d0 hd wa wb wc
          obtain ⟨W5, hW5⟩ : ∃ W, W = wr.drewN q1 := ⟨_, rfl⟩
          rw [← hW5] at ST1 c1 d1 ⊢
          clear hW5
          go_wp2_with fail
          clear c1 d1
          go_loopg [4, 6] (gn + 1) (fun kx s4 s6 wr => ∃ (j m' : Nat) (ad : Option Addr) (cap4 : Nat), s4 = .slice ad m' cap4 ∧ s6 = .int .i64 (y + 1 + (j : Int)) ∧ Hid (m' = (gapL zs i ++ rng (y + 1) j).length) ∧ m' ≤ 64 ∧ j ≤ gn ∧ kx = gn + 1 - j ∧ Hid (St w wr (.slice ad m' cap4) (gapL zs i ++ rng (y + 1) j)))
          case atStart => exact ⟨0, m, _, _, rfl, by go_num, Lib.hid (by rw [← HM.out.symm]; simp [rng]), hm, Nat.zero_le _, rfl, by simpa [rng] using ST1⟩
          case round =>
            obtain ⟨j, m2, ad2, cap2, rfl, rfl, HM2, hm2, hj, rfl, HST⟩ := hrel
            have HCL2 := Lib.hid (H1.out.below HST.out.below)
            have c1 := HCL2.out.2 i hlt
            rw [HX.out] at c1
            have hmj : m2 = m + j := by rw [HM2.out, List.length_append, rng_len, ← HM.out]
            have hgn : (gn : Int) = x - y - 1 := HG.out
            have hcap : m + gn ≤ 64 := by omega
            by_cases hjl : j < gn
            · have hlt3 : y + 1 + (j : Int) < x := by omega
              have hd3 : decide (y + 1 + (j : Int) < x) = true := decide_eq_true hlt3
              have HMJ := Lib.hid hmj
              have HGN := Lib.hid hgn
              clear hmj hgn
              obtain ⟨ho, hB⟩ := HST.out
              rw [← HM2.out] at ho
              have hi := HI0.out
              have hz0 := HZ0.out
              have hz1 := HZ1.out
              have hz2 := HZ2.out
              have hsB := hB.size
              go_wp2_with (at_builtin; refine wpList_append_lies _ rfl _ _ 48 rfl w.heap.size 2 i0 (.int .i64 0) 1 8 Try.underlying48 hi hz0 hz1 hz2 rfl (by decide) _ _ _ rfl (ho.alloc _) ⟨wr.heap.size, 0, none⟩ 1 1 [.int .i64 (y + 1 + (j : Int))] rfl rfl ?c1 ?c2 ?c0 ?c3 ?c4 ?c5 (wr.heap.size + 1) ?c6 ?_)
              case c1 => exact one_cellM _ _ _
              case c2 => exact one_plainM _
              case c0 => omega
              case c3 => unfold maxLen; omega
              case c4 => omega
              case c5 => simp; omega
              case c6 => simp
              intro gg cap3 w8 hown' hgrow hlies hlt3
              have hgB := own_belowM ho hB hsB hgrow
              have ST8 : Hid (St w w8 (.slice (some ⟨gg, 0, none⟩) (m2 + 1) cap3) (gapL zs i ++ rng (y + 1) j ++ [y + 1 + (j : Int)])) := Lib.hid ⟨by
                rw [List.length_append, ← HM2.out]
                simp only [List.map_append, List.append_assoc, List.map_cons, List.map_nil, List.length_cons, List.length_nil] at hown' ⊢
                exact hown', hgB⟩
              have HM8 : Hid (m2 + 1 = (gapL zs i ++ rng (y + 1) j ++ [y + 1 + (j : Int)]).length) := Lib.hid (by rw [List.length_append, ← HM2.out]; rfl)
              clear hown' hgrow hlies ho hB hi hz0 hz1 hz2 hgB
              rw [List.append_assoc, ← rng_succ] at ST8 HM8
              have wj : IntKind.i64.wrap (y + 1 + (j : Int) + 1) = y + 1 + (j : Int) + 1 := IntWalk.i64_in _ (by omega)
              have HMJ2 := HMJ.out
              clear c1
              go_wp2_with fail
              go_roundg (gn + 1 - (j + 1))
              case measure => omega
              case rel => exact ⟨j + 1, m2 + 1, _, _, rfl, by first | go_num | (congr 1; omega), HM8, by omega, by omega, by omega, ST8⟩
            · have hjg : j = gn := by omega
              have hnl : ¬ y + 1 + (j : Int) < x := by omega
              have hd3 : decide (y + 1 + (j : Int) < x) = false := decide_eq_false hnl
              have hmg : m2 = m + gn := by omega
              have HMG := Lib.hid hmg
              have ST9 : Hid (St w wr (.slice ad2 m2 cap2) (gapL zs (i + 1))) := Lib.hid (by rw [HNX.out, ← hjg]; exact HST.out)
              have HM9 : Hid (m2 = (gapL zs (i + 1)).length) := Lib.hid (by rw [HNX.out, ← hjg]; exact HM2.out)
              clear hgn hjg hmj hmg
              go_wp2_with fail
              go_roundg (zs.length + 3 - (i + 1))
              case measure => omega
              case rel => exact ⟨i + 1, m2, _, _, rfl, by go_num, HM9, hm2, by omega, Lib.hid (Or.inl (by omega)), by omega, ST9⟩
      · have e : gapL zs i = gapL zs zs.length := by
          rcases HJ.out with h | h
          · rw [show i = zs.length by omega]
          · by_cases hz : zs.length = 0
            · rw [h, hz, gapL_one]; rfl
            · rw [show i = zs.length by omega]
        have e2 : R2 = (gapL zs zs.length, 0) := by
          rw [HR2.out, if_pos]
          rw [← e, ← HM.out]
          exact hm
        have HE := Lib.hid e2
        have ho := In.Own.of_row HST.out.own
        rw [e] at ho
        have HO := Lib.hid ho
        have hnl : ¬ (i : Int) < (zs.length : Int) := by omega
        clear e e2 ho
        go_wp2_with fail
        go_ret2
        rw [HE.out]
        exact ⟨_, rfl, HO.out, HST.out.below⟩
end Go.Proofs.Ytecnhbgkkfcipaa.Ms
