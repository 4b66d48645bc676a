/-
  The contract of l10Spots (package spec): all directions that are up, by a step, in a row.
-/
import Derived.Test.YtleaoemckdkndaaSpots
namespace Go.Proofs.Ytleaoemckdkndaa
open Go.RowKit
set_option linter.unusedVariables false

theorem one_cellP (w : World) (T : TypeId) (u : Value) (hu : u.oneCell' = true) : ∀ (j : Nat) x, [u][j]? = some x → (w.alloc (.cells #[u] T)).cell? ((⟨w.heap.size, 0, none⟩ : Addr).add j) = some x := by
  intro j x hj
  match j, hj with
  | 0, hj => simp at hj; subst hj; simp [Addr.add]
theorem one_plainP (u : Value) (hu : u.oneCell' = true) : ∀ x ∈ [u], x.oneCell' = true := by
  intro x hx
  simp at hx
  subst hx
  exact hu
theorem own_belowP {B : Nat} {w0 w w1 : World} {e : TypeId} {n : Nat} {v : Value} {xs : List Value} {o o2 : Obj} (hown : w.ownsRow B e 1 v n xs) (hb : Below B w0 w) (hB : B ≤ w.heap.size)
    (hg : ((w.alloc o).alloc o2).grownBy w1 v.ownBlock) : Below B w0 w1 ∧ B ≤ w1.heap.size := by
  refine ⟨((hb.alloc hB o).alloc (by simp; omega) o2).grown hg (by simp; omega) (fun k hk => (hown.lt k hk).1), ?_⟩
  have := hg.size
  simp at this
  omega

set_option maxRecDepth 100000 in
set_option maxHeartbeats 4000000 in
theorem l10Spots_any (t : Int) (t0 : 10000 ≤ t) (t1 : t ≤ 90000) (w : World) :
    Calls Try.prog 102 #[.int .i64 t] w fun e w' => ∃ v : Value, e = .returned v ∧ (∃ bs, SpotsAt w' w.heap.size v (upsL t) bs) ∧ Below w.heap.size w w' := by
  have ST : Hid (SpotsAt (w.alloc (.cells #[] 58)) w.heap.size (.slice (some ⟨w.heap.size, 0, none⟩) 0 0) (upsN t 0) (fun _ => 0)) := Lib.hid ⟨World.ownsRow_lit (base := w.heap.size) (e := 58) (size := 1) w #[] 0 (Nat.le_refl _) (by decide) rfl, fun j hj => by simp [upsN] at hj, fun i j hij hj => by simp [upsN] at hj⟩
  have HB0 : Hid (Below w.heap.size w (w.alloc (.cells #[] 58))) := Lib.hid ((Below.refl _ _).alloc (Nat.le_refl _) _)
  obtain ⟨i0, hi, hzz⟩ := Option.map_eq_some_iff.1 info_i64s
  simp only [Prod.mk.injEq] at hzz
  obtain ⟨hz0, hz1, hz2⟩ := hzz
  have HI0 := Lib.hid hi
  have HZ0 := Lib.hid hz0
  have HZ1 := Lib.hid hz1
  have HZ2 := Lib.hid hz2
  clear hi hz0 hz1 hz2
  go_enter Try.func102, Try.ntmps102
  go_wp2_with fail
  go_loopg [3, 4, 5] (alN t + 1) (fun kx s3 s4 s5 wr => ∃ k : Nat, s4 = .int .i64 ((k : Int) * t) ∧ k ≤ alN t ∧ kx = alN t + 1 - k ∧ Hid (∃ bs, SpotsAt wr w.heap.size s3 (upsN t k) bs) ∧ Hid (Below w.heap.size w wr))
  case atStart => exact ⟨0, by simp, Nat.zero_le _, rfl, Lib.hid ⟨_, ST.out⟩, HB0⟩
  case round =>
    obtain ⟨k, rfl, hk, rfl, HO, HB⟩ := hrel
    have hb := al_bd t (by omega) t1 k hk
    have hle := al_le t (by omega) k
    have wh : IntKind.i64.wrap ((k : Int) * t + t) = (k : Int) * t + t := IntWalk.i64_in _ (by omega)
    have NH := Lib.hid (mul_next t k)
    have UN := Lib.hid (upsN_next t k)
    have UB := Lib.hid (upsN_bd t t0 k hk)
    by_cases hlt : (k : Int) * t ≤ 90000
    · have hk2 := hle.1 hlt
      generalize hh : (k : Int) * t = h at *
      go_wp2_with fail
      go_loopg [3, 5] (azN t + 1) (fun kx s3 s5 wr => ∃ i : Nat, s5 = .int .i64 ((i : Int) * t) ∧ i ≤ azN t ∧ kx = azN t + 1 - i ∧ Hid (∃ bs, SpotsAt wr w.heap.size s3 (upsN t k ++ rowU t h i) bs) ∧ Hid (Below w.heap.size w wr))
      case atStart => exact ⟨0, by simp, Nat.zero_le _, rfl, by simpa [rowU] using HO, HB⟩
      case round =>
        clear HO HB
        obtain ⟨i, rfl, hi, rfl, HO, HB⟩ := hrel
        have hb2 := az_bd t (by omega) t1 i hi
        have hle2 := az_lt t (by omega) i
        have wa : IntKind.i64.wrap ((i : Int) * t + t) = (i : Int) * t + t := IntWalk.i64_in _ (by omega)
        have NA := Lib.hid (mul_next t i)
        have RN : Hid (upsN t k ++ rowU t h (i + 1) = (upsN t k ++ rowU t h i) ++ [((i : Int) * t, h)]) := Lib.hid (by rw [rowU_next, List.append_assoc])
        have az := azN_bd t t0
        by_cases hlt2 : (i : Int) * t < 360000
        · have hi2 := hle2.1 hlt2
          have hn : (upsN t k ++ rowU t h i).length ≤ 400 := by
            have := UB.out
            rw [List.length_append, rowU_len]
            omega
          generalize upsN t k ++ rowU t h i = L at *
          generalize ha : (i : Int) * t = a at *
          obtain ⟨bs, hspots⟩ := HO.out
          have hown := hspots.own
          have hi' := HI0.out
          have hz0 := HZ0.out
          have hz1 := HZ1.out
          have hz2 := HZ2.out
          go_wp2_with (at_builtin; refine wpList_append_lies _ rfl _ _ 122 rfl w.heap.size 58 i0 (.slice none 0 0) 1 24 Try.underlying122 hi' hz0 hz1 hz2 rfl (by decide) _ _ _ rfl ((hown.alloc _).alloc _) ⟨wr.heap.size + 1, 0, none⟩ 1 1 [.slice (some ⟨wr.heap.size, 0, none⟩) 2 2] rfl rfl ?c1 ?c2 ?c0 ?c3 ?c4 ?c5 (wr.heap.size + 2) ?c6 ?_)
          case c1 => have e := one_cellP (wr.alloc (.cells #[.int .i64 a, .int .i64 h] 2)) 58 (.slice (some ⟨wr.heap.size, 0, none⟩) 2 2) rfl; simpa using e
          case c2 => exact one_plainP _ rfl
          case c0 => omega
          case c3 => unfold maxLen; omega
          case c4 => omega
          case c5 => have hs4 := HB.out.size; simp; omega
          case c6 => simp
          intro gg cap2 w5 hown' hgrow hlies hlt3
          obtain ⟨hb3, hs2⟩ := own_belowP hown HB.out HB.out.size hgrow
          have HS2 := Lib.hid (hspots.next HB.out.size hgrow hlies hown')
          have HB2 := Lib.hid hb3
          clear hown hown' hgrow hb3 hs2 hi' hz0 hz1 hz2 hlies hspots
          go_wp2_with fail
          go_roundg (azN t + 1 - (i + 1))
          case measure => omega
          case rel => exact ⟨i + 1, by first | (rw [← NA.out]) | (rw [← NA.out, wa]), by omega, rfl, Lib.hid ⟨_, by rw [RN.out]; exact HS2.out⟩, HB2⟩
        · obtain rfl : i = azN t := by omega
          go_wp2_with fail
          go_roundg (alN t + 1 - (k + 1))
          case measure => omega
          case rel => exact ⟨k + 1, by rw [← NH.out], by omega, rfl, by rw [UN.out]; exact HO, HB⟩
    · obtain rfl : k = alN t := by omega
      go_wp2_with fail
      go_returns
      exact ⟨_, rfl, HO.out, HB.out⟩
end Go.Proofs.Ytleaoemckdkndaa
