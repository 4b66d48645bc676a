/-
  directionsUp (package impl): all directions that are up, by a step.
-/
import Derived.Test.YtleaoemckdkndaaUpsM
import Derived.Test.YtleaoemckdkndaaVec0
import Derived.Deep.AppendLies
import Derived.Deep.LoopGhost
import Derived.RegionTactic
import Derived.WideMake
import Derived.Deep.RegionHeld3
import Derived.IntWalk
import Derived.Handy
namespace Go.Proofs.Ytleaoemckdkndaa
open Go.RowKit
set_option linter.unusedVariables false

theorem info_dirn : (Try.prog.info? 133).map (fun i => (i.zero, i.size, i.bytes)) = some (some (.agg #[.int .i64 0, .int .i64 0]), 2, 16) := by kernel_rfl
/-- The cells of directions in a row. -/
def flatD : List (Int × Int) → List Value
  | [] => []
  | p :: L => .int .i64 p.1 :: .int .i64 p.2 :: flatD L
theorem flatD_app (L M : List (Int × Int)) : flatD (L ++ M) = flatD L ++ flatD M := by
  induction L with
  | nil => rfl
  | cons p L ih => simp [flatD, ih]
theorem flatD_at (L : List (Int × Int)) (j : Nat) (hj : j < L.length) : (flatD L)[j * 2]? = some (.int .i64 L[j].1) ∧ (flatD L)[j * 2 + 1]? = some (.int .i64 L[j].2) := by
  induction L generalizing j with
  | nil => simp at hj
  | cons p L ih =>
    match j, hj with
    | 0, _ => exact ⟨rfl, rfl⟩
    | j + 1, hj =>
      have := ih j (by simpa using hj)
      rw [show (j + 1) * 2 = j * 2 + 1 + 1 by omega]
      exact ⟨this.1, this.2⟩
theorem own_belowD {B : Nat} {w0 w w1 : World} {e : TypeId} {v : Value} {n : Nat} {xs : List Value} {o : Obj} (hown : w.ownsRow B e 2 v n xs) (hb : Below B w0 w) (hB : B ≤ w.heap.size)
    (hg : (w.alloc o).grownBy w1 v.ownBlock) : Below B w0 w1 ∧ B ≤ w1.heap.size := by
  refine ⟨(hb.alloc hB o).grown hg (by simp; omega) (fun k hk => (hown.lt k hk).1), ?_⟩
  have := hg.size
  simp at this
  omega
theorem two_cellsD (w : World) (T : TypeId) (a h : Int) : ∀ (j : Nat) u, [Value.int .i64 a, Value.int .i64 h][j]? = some u → (w.alloc (.cells #[.int .i64 a, .int .i64 h] T)).cell? ((⟨w.heap.size, 0, none⟩ : Addr).add j) = some u := by
  intro j u hj
  match j, hj with
  | 0, hj => simp at hj; subst hj; simp [Addr.add]
  | 1, hj => simp at hj; subst hj; simp [Addr.add]
theorem two_plainD (a h : Int) : ∀ u ∈ [Value.int .i64 a, Value.int .i64 h], u.oneCell' = true := by
  intro u hu
  simp at hu
  rcases hu with rfl | rfl <;> rfl

set_option maxRecDepth 100000 in
set_option maxHeartbeats 4000000 in
theorem directionsUp_any (t : Int) (t0 : 10000 ≤ t) (t1 : t ≤ 90000) (w : World) :
    Calls Try.prog 106 #[.int .i64 t] w fun e w' => ∃ v : Value, e = .returned v ∧ w'.ownsRow w.heap.size 133 2 v (upsL t).length (flatD (upsL t)) ∧ Below w.heap.size w w' := by
  have ST : Hid ((w.alloc (.cells #[] 133)).ownsRow w.heap.size 133 2 (.slice (some ⟨w.heap.size, 0, none⟩) 0 0) ([] : List (Int × Int)).length (flatD [])) := Lib.hid (World.ownsRow_lit (base := w.heap.size) (e := 133) (size := 2) w #[] 0 (Nat.le_refl _) (by decide) rfl)
  have HB0 : Hid (Below w.heap.size w (w.alloc (.cells #[] 133))) := Lib.hid ((Below.refl _ _).alloc (Nat.le_refl _) _)
  obtain ⟨i0, hi, hzz⟩ := Option.map_eq_some_iff.1 info_dirn
  simp only [Prod.mk.injEq] at hzz
  obtain ⟨hz0, hz1, hz2⟩ := hzz
  have HI0 := Lib.hid hi
  have HZ0 := Lib.hid hz0
  have HZ1 := Lib.hid hz1
  have HZ2 := Lib.hid hz2
  clear hi hz0 hz1 hz2
  go_enter Try.func106, Try.ntmps106
  go_wp2_with fail
  go_loopg [3, 4, 5] (alN t + 1) (fun kx s3 s4 s5 wr => ∃ k : Nat, s4 = .int .i64 ((k : Int) * t) ∧ k ≤ alN t ∧ kx = alN t + 1 - k ∧ Hid (wr.ownsRow w.heap.size 133 2 s3 (upsN t k).length (flatD (upsN t k))) ∧ Hid (Below w.heap.size w wr))
  case atStart => exact ⟨0, by simp, Nat.zero_le _, rfl, ST, HB0⟩
  case round =>
    obtain ⟨k, rfl, hk, rfl, HO, HB⟩ := hrel
    have hb := al_bd t (by omega) t1 k hk
    have hle := al_le t (by omega) k
    have wh : IntKind.i64.wrap ((k : Int) * t + t) = (k : Int) * t + t := IntWalk.i64_in _ (by omega)
    have NH := Lib.hid (mul_next t k)
    have UN := Lib.hid (upsN_next t k)
    have UB := Lib.hid (upsN_bd t t0 k hk)
    by_cases hlt : (k : Int) * t ≤ 90000
    · have hk2 := hle.1 hlt
      generalize hh : (k : Int) * t = h at *
      go_wp2_with fail
      go_loopg [3, 5] (azN t + 1) (fun kx s3 s5 wr => ∃ i : Nat, s5 = .int .i64 ((i : Int) * t) ∧ i ≤ azN t ∧ kx = azN t + 1 - i ∧ Hid (wr.ownsRow w.heap.size 133 2 s3 (upsN t k ++ rowU t h i).length (flatD (upsN t k ++ rowU t h i))) ∧ Hid (Below w.heap.size w wr))
      case atStart => exact ⟨0, by simp, Nat.zero_le _, rfl, by simpa [rowU] using HO, HB⟩
      case round =>
        clear HO HB
        obtain ⟨i, rfl, hi, rfl, HO, HB⟩ := hrel
        have hb2 := az_bd t (by omega) t1 i hi
        have hle2 := az_lt t (by omega) i
        have wa : IntKind.i64.wrap ((i : Int) * t + t) = (i : Int) * t + t := IntWalk.i64_in _ (by omega)
        have NA := Lib.hid (mul_next t i)
        have RN : Hid (upsN t k ++ rowU t h (i + 1) = (upsN t k ++ rowU t h i) ++ [((i : Int) * t, h)]) := Lib.hid (by rw [rowU_next, List.append_assoc])
        have az := azN_bd t t0
        by_cases hlt2 : (i : Int) * t < 360000
        · have hi2 := hle2.1 hlt2
          have hn : (upsN t k ++ rowU t h i).length ≤ 400 := by
            have := UB.out
            rw [List.length_append, rowU_len]
            omega
          generalize upsN t k ++ rowU t h i = L at *
          generalize ha : (i : Int) * t = a at *
          have hown := HO.out
          have hi' := HI0.out
          have hz0 := HZ0.out
          have hz1 := HZ1.out
          have hz2 := HZ2.out
          go_wp2_with (at_builtin; refine wpList_append_lies _ rfl _ _ 129 rfl w.heap.size 133 i0 (.agg #[.int .i64 0, .int .i64 0]) 2 16 Try.underlying129 hi' hz0 hz1 hz2 rfl (by decide) _ _ _ rfl (hown.alloc _) ⟨wr.heap.size, 0, none⟩ 1 1 [.int .i64 a, .int .i64 h] rfl rfl ?c1 ?c2 ?c0 ?c3 ?c4 ?c5 (wr.heap.size + 1) ?c6 ?_)
          case c1 => exact two_cellsD _ _ _ _
          case c2 => exact two_plainD _ _
          case c0 => omega
          case c3 => unfold maxLen; omega
          case c4 => omega
          case c5 => have hs4 := HB.out.size; simp; omega
          case c6 => simp
          intro gg cap2 w5 hown' hgrow hlies hlt3
          obtain ⟨hb3, hs2⟩ := own_belowD hown HB.out HB.out.size hgrow
          have ho : w5.ownsRow w.heap.size 133 2 (.slice (some ⟨gg, 0, none⟩) (L.length + 1) cap2) (L ++ [(a, h)]).length (flatD (L ++ [(a, h)])) := by simpa [flatD_app, flatD] using hown'
          have HO2 := Lib.hid ho
          have HB2 := Lib.hid hb3
          clear hown hown' hgrow ho hb3 hs2 hi' hz0 hz1 hz2 hlies
          go_wp2_with fail
          go_roundg (azN t + 1 - (i + 1))
          case measure => omega
          case rel => exact ⟨i + 1, by first | (rw [← NA.out]) | (rw [← NA.out, wa]), by omega, rfl, by rw [RN.out]; exact HO2, HB2⟩
        · obtain rfl : i = azN t := by omega
          go_wp2_with fail
          go_roundg (alN t + 1 - (k + 1))
          case measure => omega
          case rel => exact ⟨k + 1, by rw [← NH.out], by omega, rfl, by rw [UN.out]; exact HO, HB⟩
    · obtain rfl : k = alN t := by omega
      go_wp2_with fail
      go_returns
      exact ⟨_, rfl, HO.out, HB.out⟩
end Go.Proofs.Ytleaoemckdkndaa
