/-
  PowerCurve (packages impl and spec).
-/
import Derived.Test.YtamdnfmodmlohaaKnL
import Derived.Test.YtamdnfmodmlohaaDivR
import Derived.Handy
import Derived.IntWalk
import Derived.Deep.AppendLies
namespace Go.Proofs.Ytamdnfmodmlohaa.Kn
open Go.RowKit
set_option linter.unusedVariables false

/-- The power of a level. -/
def powV (x : Int) : Nat → Int
  | 0 => 1000
  | n + 1 => nearQ (powV x n * x) 1000
theorem powV_bd (x : Int) (h : 0 ≤ x ∧ x ≤ 1000) : ∀ n, 0 ≤ powV x n ∧ powV x n ≤ 1000 := by
  intro n
  induction n with
  | zero => exact ⟨by show (0 : Int) ≤ 1000; omega, by show (1000 : Int) ≤ 1000; omega⟩
  | succ n ih =>
    have a := Int.mul_nonneg ih.1 h.1
    have b : powV x n * x ≤ 1000 * 1000 := Int.mul_le_mul ih.2 h.2 h.1 (by omega)
    show 0 ≤ nearQ (powV x n * x) 1000 ∧ nearQ (powV x n * x) 1000 ≤ 1000
    rw [nearQ_pp _ _ a (by omega)]
    omega
theorem mul_pw {v x : Int} (h : 0 ≤ v ∧ v ≤ 1000) (k : 0 ≤ x ∧ x ≤ 1000) : 0 ≤ v * x ∧ v * x ≤ 1000000 :=
  ⟨Int.mul_nonneg h.1 k.1, Int.le_trans (Int.mul_le_mul h.2 k.2 k.1 (by omega)) (by omega)⟩
theorem divR_in (a : Int) (h : 0 ≤ a ∧ a ≤ 1000000) : divR a 1000 = nearQ a 1000 := by
  unfold divR
  rw [if_pos]
  rw [inR_2, Bool.and_eq_true, inR_1, inR_1]
  omega
/-- The knots at levels that are equally far apart. -/
def knL (f : Int → Int) (k : Nat) : List V := (List.range k).map (fun (i : Nat) => ⟨100 * (i : Int), f (100 * (i : Int))⟩)
theorem knL_len (f : Int → Int) (k : Nat) : (knL f k).length = k := by simp [knL]
theorem knL_next (f : Int → Int) (k : Nat) : knL f (k + 1) = knL f k ++ [⟨100 * (k : Int), f (100 * (k : Int))⟩] := by
  unfold knL
  rw [List.range_succ, List.map_append]
  rfl
/-- A curve of its own and a code. -/
abbrev KR := List V × Int
def KPost (R : KR) (w : World) (e : Ending) (w' : World) : Prop :=
  ∃ u, e = .returned (.tuple #[u, .int .i64 R.2]) ∧ Own w' w.heap.size w'.heap.size u R.1 ∧ Below w.heap.size w w'
def powR (e : Int) : KR := if inR 1 5 [e] = true then (knL (fun x => powV x e.toNat) 11, 0) else ([], 2)
theorem own_belowK {B : Nat} {w0 w w1 : World} {e : TypeId} {v : Value} {n : Nat} {xs : List Value} {o : Obj} (hown : w.ownsRow B e 2 v n xs) (hb : Below B w0 w) (hB : B ≤ w.heap.size)
    (hg : (w.alloc o).grownBy w1 v.ownBlock) : Below B w0 w1 :=
  (hb.alloc hB o).grown hg (by simp; omega) (fun k hk => (hown.lt k hk).1)

set_option maxRecDepth 100000 in
set_option maxHeartbeats 1000000 in
theorem powAt_any (e x : Int) (he : 1 ≤ e ∧ e ≤ 5) (hx : 0 ≤ x ∧ x ≤ 1000) (w : World) :
    Calls Try.prog 69 #[.int .i64 e, .int .i64 x] w fun e' w' => e' = .returned (.int .i64 (powV x e.toNat)) ∧ Below w.heap.size w w' := by
  have BD := Lib.hid (powV_bd x hx)
  have PN : Hid (∀ j, powV x (j + 1) = nearQ (powV x j * x) 1000) := Lib.hid (fun _ => rfl)
  have P0 : Hid (powV x 0 = 1000) := Lib.hid rfl
  obtain ⟨n, rfl⟩ : ∃ n : Nat, e = (n : Int) := ⟨e.toNat, by omega⟩
  simp only [Int.toNat_natCast]
  have hn : n ≤ 5 := by omega
  generalize powV x = P at *
  go_enter Try.func69, Try.ntmps69
  go_wp2_with fail
  go_loopg [7, 5] (n + 1) (fun kx s7 s5 wr => ∃ (j : Nat) (v : Int), s7 = .int .i64 (j : Int) ∧ s5 = .int .i64 v ∧ j ≤ n ∧ kx = n + 1 - j ∧ Hid (P j = v) ∧ Hid (Below w.heap.size w wr))
  case atStart => exact ⟨0, 1000, rfl, rfl, Nat.zero_le _, rfl, P0, Lib.hid (Below.refl _ _)⟩
  case round =>
    obtain ⟨j, v, rfl, rfl, hj, rfl, HP, HB⟩ := hrel
    by_cases hlt : j < n
    · have vb := BD.out j
      rw [HP.out] at vb
      have mb := mul_pw vb hx
      have HN := PN.out j
      rw [HP.out] at HN
      have HN2 := Lib.hid HN
      have D := Lib.hid (fun w => implDiv_any (v * x) 1000 w)
      rw [divR_in _ mb] at D
      clear HN
      generalize nearQ (v * x) 1000 = q at *
      go_wp2_with fail
      refine (D.out _).mono ?_
      rintro e w2 ⟨rfl, hb2⟩
      have HB2 := Lib.hid (HB.out.trans (hb2.mono HB.out.size))
      clear hb2
      go_wp2_with fail
      go_roundg (n + 1 - (j + 1))
      case measure => omega
      case rel => exact ⟨j + 1, q, by go_num, rfl, by omega, by omega, HN2, HB2⟩
    · obtain rfl : j = n := by omega
      go_wp2_with fail
      go_ret
      exact ⟨ret_int HP.out.symm, HB.out⟩

set_option maxRecDepth 100000 in
set_option maxHeartbeats 2000000 in
theorem knotsOf_pow (e : Int) (he : 1 ≤ e ∧ e ≤ 5) (w : World) :
    Calls Try.prog 37 #[.iface 60 (.int .i64 e)] w fun e' w' => ∃ u, e' = .returned u ∧ Own w' w.heap.size w'.heap.size u (knL (fun x => powV x e.toNat) 11) ∧ Below w.heap.size w w' := by
  obtain ⟨i0, hi, hzz⟩ := Option.map_eq_some_iff.1 info_rec
  simp only [Prod.mk.injEq] at hzz
  obtain ⟨hz0, hz1, hz2⟩ := hzz
  have HI0 := Lib.hid hi
  have HZ0 := Lib.hid hz0
  have HZ1 := Lib.hid hz1
  have HZ2 := Lib.hid hz2
  clear hi hz0 hz1 hz2
  have A := Lib.hid (fun x hx w => powAt_any e x he hx w)
  generalize hf : (fun x => powV x e.toNat) = f
  have ef : ∀ x, powV x e.toNat = f x := fun x => by rw [← hf]
  simp only [ef] at A
  have NX := Lib.hid (knL_next f)
  have LL := Lib.hid (knL_len f)
  clear hf ef
  generalize hL : knL f = KL at *
  have O0 : Own (w.alloc (Obj.cells #[] 40)) w.heap.size (w.alloc (Obj.cells #[] 40)).heap.size (.slice (some ⟨w.heap.size, 0, none⟩) 0 0) (KL 0) := by
    have e0 : KL 0 = [] := by rw [← hL]; rfl
    rw [e0]
    exact Own.mk (World.ownsRow_made w #[] 0 (Nat.le_refl _) (Nat.zero_le _) rfl)
  have HO0 := Lib.hid O0
  clear O0 hL
  have HB0 : Hid (Below w.heap.size w (w.alloc (Obj.cells #[] 40))) := Lib.hid ((Below.refl _ _).alloc (Nat.le_refl _) _)
  go_enter Try.func37, Try.ntmps37
  go_wp2_with fail
  go_loopg [4, 3] 12 (fun kx s4 s3 wr => ∃ (k : Nat) (a : Option Addr) (cap : Nat), s4 = .int .i64 (100 * (k : Int)) ∧ s3 = .slice a k cap ∧ k ≤ 11 ∧ kx = 12 - k ∧ Hid (Own wr w.heap.size wr.heap.size (.slice a k cap) (KL k)) ∧ Hid (Below w.heap.size w wr))
  case atStart => exact ⟨0, _, _, rfl, rfl, Nat.zero_le _, rfl, HO0, HB0⟩
  case round =>
    obtain ⟨k, a, cap, rfl, rfl, hk, rfl, HO, HB⟩ := hrel
    by_cases hlt : k < 11
    · have C := Lib.hid (fun w => A.out (100 * (k : Int)) (by omega) w)
      have N := Lib.hid (NX.out k)
      have hl := LL.out k
      generalize f (100 * (k : Int)) = p at *
      generalize KL k = L at *
      go_wp2_with fail
      refine (C.out _).mono ?_
      rintro e w2 ⟨rfl, hb2⟩
      have HB2 := Lib.hid (HB.out.trans (hb2.mono HB.out.size))
      have O2 := (HO.out.below hb2).1
      have hs2 := hb2.size
      have hi := HI0.out
      have hz0 := HZ0.out
      have hz1 := HZ1.out
      have hz2 := HZ2.out
      have hsB := HB2.out.size
      rw [hl] at O2
      clear hb2
      go_wp2_with (at_builtin; refine wpList_append_lies _ rfl _ _ 25 rfl w.heap.size 40 i0 (.agg #[.int .i64 0, .int .i64 0]) 2 16 Try.underlying25 hi hz0 hz1 hz2 rfl (by decide) _ _ _ rfl (O2.alloc _) ⟨w2.heap.size, 0, none⟩ 1 1 [.int .i64 (100 * (k : Int)), .int .i64 p] rfl rfl ?c1 ?c2 ?c0 ?c3 ?c4 ?c5 (w2.heap.size + 1) ?c6 ?_)
      case c1 => exact new_cells _ _ _ _
      case c2 => exact cells_one _ _
      case c0 => omega
      case c3 => unfold maxLen; omega
      case c4 => omega
      case c5 => simp; omega
      case c6 => simp
      intro gg cap3 w5 hown' hgrow hlies hlt3
      have HB5 := Lib.hid (own_belowK O2 HB2.out hsB hgrow)
      have O5 : Hid (Own w5 w.heap.size w5.heap.size (.slice (some ⟨gg, 0, none⟩) (k + 1) cap3) (KL (k + 1))) := Lib.hid (by
        rw [N.out]
        refine Own.mk ?_
        rw [List.length_append, flat_app, hl]
        exact hown')
      clear hown' hgrow hlies O2 hi hz0 hz1 hz2 hl
      go_wp2_with fail
      go_roundg (12 - (k + 1))
      case measure => omega
      case rel => exact ⟨k + 1, _, _, by first | go_num | (simp; omega), rfl, by omega, by omega, by first | exact O5 | (have := O5; simpa using this), HB5⟩
    · obtain rfl : k = 11 := by omega
      go_wp2_with fail
      go_returns
      exact ⟨_, rfl, HO.out, HB.out⟩

theorem areOne_any (lo hi a : Int) (b cap : Nat) (w : World) (hc : w.cell? ⟨b, 0, none⟩ = some (.int .i64 a)) : Calls Try.prog 40 #[.int .i64 lo, .int .i64 hi, .slice (some ⟨b, 0, none⟩) 1 cap] w fun e w' => e = .returned (.bool (inR lo hi [a])) ∧ w = w' := within1 lo hi a b cap w hc
set_option maxRecDepth 100000 in
set_option maxHeartbeats 2000000 in
theorem implPower_any (e : Int) (w : World) : Calls Try.prog 23 #[.int .i64 e] w (KPost (powR e) w) := by
  have I := Lib.hid (fun b cap w hc => areOne_any 1 5 e b cap w hc)
  unfold powR
  cases he : inR 1 5 [e] with
  | false =>
    rw [he] at I
    rw [if_neg (by simp)]
    clear he
    go_enter Try.func23, Try.ntmps23
    go_wp2_with fail
    refine (I.out _ _ _ (by simp)).mono ?_
    rintro e w' ⟨rfl, rfl⟩
    go_wp2_with fail
    refine bodyPost_ret (v := .tuple #[.slice none 0 0, .int .i64 2]) (by simp [results, Try.results23, go_sem]) rfl ⟨_, rfl, Own.nil _ _ _, ?_⟩
    repeat (first | exact Below.refl _ _ | refine Below.setCell ?_ (by first | (simp; done) | omega | (simp; omega)) _ | refine Below.alloc ?_ (by first | (simp; done) | omega | (simp; omega)) _ | refine bel_drew ?_)
  | true =>
    rw [he] at I
    rw [if_pos rfl]
    rw [inR_1] at he
    have K := Lib.hid (fun w => knotsOf_pow e (by omega) w)
    generalize knL (fun x => powV x e.toNat) 11 = L at *
    clear he
    go_enter Try.func23, Try.ntmps23
    go_wp2_with fail
    refine (I.out _ _ _ (by simp)).mono ?_
    rintro e w' ⟨rfl, rfl⟩
    go_wp2_with fail
    have hB : Below w.heap.size w (w.alloc (Obj.cells #[Value.int IntKind.i64 e] 2)) := (Below.refl _ _).alloc (Nat.le_refl _) _
    obtain ⟨W1, hW1⟩ : ∃ W, W = w.alloc (Obj.cells #[Value.int IntKind.i64 e] 2) := ⟨_, rfl⟩
    rw [← hW1] at hB ⊢
    clear hW1
    refine (K.out _).mono ?_
    rintro e2 w2 ⟨u, rfl, ho, hb2⟩
    obtain ⟨a, cap, rfl⟩ := ho.len
    have O1 := Lib.hid ho
    have HB := Lib.hid (hB.trans (hb2.mono hB.size))
    have hs := hB.size
    clear ho hb2 hB
    go_wp2_with fail
    refine bodyPost_ret (v := .tuple #[.slice a L.length cap, .int .i64 0]) (by simp [results, Try.results23, go_sem]) rfl ⟨_, rfl, O1.out.le hs (Nat.le_refl _), HB.out⟩

set_option maxRecDepth 100000 in
set_option maxHeartbeats 4000000 in
theorem specPower_any (e : Int) (w : World) : Calls Try.prog 22 #[.int .i64 e] w (KPost (powR e) w) := by
  have I := Lib.hid (fun w => l00In_any e 1 5 w)
  unfold powR
  cases he : inR 1 5 [e] with
  | false =>
    rw [he] at I
    rw [if_neg (by simp)]
    clear he
    go_enter Try.func22, Try.ntmps22
    go_wp2_with fail
    refine (I.out _).mono ?_
    rintro e w' ⟨rfl, rfl⟩
    go_wp2_with fail
    refine bodyPost_ret (v := .tuple #[.slice none 0 0, .int .i64 2]) (by simp [results, Try.results22, go_sem]) rfl ⟨_, rfl, Own.nil _ _ _, ?_⟩
    repeat (first | exact Below.refl _ _ | refine Below.setCell ?_ (by first | (simp; done) | omega | (simp; omega)) _ | refine Below.alloc ?_ (by first | (simp; done) | omega | (simp; omega)) _ | refine bel_drew ?_)
  | true =>
    rw [he] at I
    rw [if_pos rfl]
    rw [inR_1] at he
    obtain ⟨i0, hi, hzz⟩ := Option.map_eq_some_iff.1 info_rec
    simp only [Prod.mk.injEq] at hzz
    obtain ⟨hz0, hz1, hz2⟩ := hzz
    have HI0 := Lib.hid hi
    have HZ0 := Lib.hid hz0
    have HZ1 := Lib.hid hz1
    have HZ2 := Lib.hid hz2
    clear hi hz0 hz1 hz2
    obtain ⟨n, rfl⟩ : ∃ n : Nat, e = (n : Int) := ⟨e.toNat, by omega⟩
    simp only [Int.toNat_natCast]
    have hn : n ≤ 5 := by omega
    have BD := Lib.hid powV_bd
    have PN : Hid (∀ x j, powV x (j + 1) = nearQ (powV x j * x) 1000) := Lib.hid (fun _ _ => rfl)
    have P0 : Hid (∀ x, powV x 0 = 1000) := Lib.hid (fun _ => rfl)
    have NX := Lib.hid (knL_next (fun x => powV x n))
    have LL := Lib.hid (knL_len (fun x => powV x n))
    have e0 : knL (fun x => powV x n) 0 = [] := rfl
    generalize knL (fun x => powV x n) = KL at *
    generalize powV = P at *
    have O0 : Own (w.alloc (Obj.cells #[] 40)) w.heap.size (w.alloc (Obj.cells #[] 40)).heap.size (.slice (some ⟨w.heap.size, 0, none⟩) 0 0) (KL 0) := by
      rw [e0]
      exact Own.mk (World.ownsRow_made w #[] 0 (Nat.le_refl _) (Nat.zero_le _) rfl)
    have HO0 := Lib.hid O0
    clear O0 e0
    have HB0 : Hid (Below w.heap.size w (w.alloc (Obj.cells #[] 40))) := Lib.hid ((Below.refl _ _).alloc (Nat.le_refl _) _)
    go_enter Try.func22, Try.ntmps22
    go_wp2_with fail
    refine (I.out _).mono ?_
    rintro e w' ⟨rfl, rfl⟩
    go_wp2_with fail
    go_loopg [5, 4] 12 (fun kx s5 s4 wr => ∃ (k : Nat) (a : Option Addr) (cap : Nat), s5 = .int .i64 (100 * (k : Int)) ∧ s4 = .slice a k cap ∧ k ≤ 11 ∧ kx = 12 - k ∧ Hid (Own wr w.heap.size wr.heap.size (.slice a k cap) (KL k)) ∧ Hid (Below w.heap.size w wr))
    case atStart => exact ⟨0, _, _, rfl, rfl, Nat.zero_le _, rfl, HO0, HB0⟩
    case round =>
      obtain ⟨k, a, cap, rfl, rfl, hk, rfl, HO, HB⟩ := hrel
      by_cases hlt : k < 11
      · have hxb : 0 ≤ 100 * (k : Int) ∧ 100 * (k : Int) ≤ 1000 := by omega
        have N := Lib.hid (NX.out k)
        have hl := LL.out k
        have PB := Lib.hid (BD.out (100 * (k : Int)) hxb)
        have PM := Lib.hid (PN.out (100 * (k : Int)))
        have PZ := Lib.hid (P0.out (100 * (k : Int)))
        generalize P (100 * (k : Int)) = Q at *
        generalize KL k = L at *
        go_wp2_with fail
        go_loopg [7, 6] (n + 1) (fun kx s7 s6 wx => ∃ (j : Nat) (v : Int), s7 = .int .i64 (j : Int) ∧ s6 = .int .i64 v ∧ j ≤ n ∧ kx = n + 1 - j ∧ Hid (Q j = v) ∧ wx = wr)
        case atStart => exact ⟨0, 1000, rfl, rfl, Nat.zero_le _, rfl, PZ, rfl⟩
        case round =>
          obtain ⟨j, v, rfl, rfl, hj, rfl, HP, rfl⟩ := hrel
          by_cases hlt2 : j < n
          · have vb := PB.out j
            rw [HP.out] at vb
            have mb := mul_pw vb hxb
            have HN := PM.out j
            rw [HP.out] at HN
            have HN2 := Lib.hid HN
            have D := Lib.hid (fun w => l01Div_any (v * (100 * (k : Int))) 1000 w (by omega) (by omega) (by omega) (by omega) (by omega))
            clear HN
            generalize nearQ (v * (100 * (k : Int))) 1000 = q at *
            go_wp2_with fail
            refine (D.out _).mono ?_
            rintro e w' ⟨rfl, rfl⟩
            go_wp2_with fail
            go_roundg (n + 1 - (j + 1))
            case measure => omega
            case rel => exact ⟨j + 1, q, by go_num, rfl, by omega, by omega, HN2, rfl⟩
          · obtain rfl : j = n := by omega
            have O2 := HO.out.1
            have hi := HI0.out
            have hz0 := HZ0.out
            have hz1 := HZ1.out
            have hz2 := HZ2.out
            have hsB := HB.out.size
            rw [hl] at O2
            have N2 : Hid (KL (k + 1) = L ++ [⟨100 * (k : Int), v⟩]) := Lib.hid (by rw [N.out, HP.out])
            clear N HP PB PM PZ
            go_wp2_with (at_builtin; refine wpList_append_lies _ rfl _ _ 25 rfl w.heap.size 40 i0 (.agg #[.int .i64 0, .int .i64 0]) 2 16 Try.underlying25 hi hz0 hz1 hz2 rfl (by decide) _ _ _ rfl (O2.alloc _) ⟨_, 0, none⟩ 1 1 [.int .i64 (100 * (k : Int)), .int .i64 v] rfl rfl ?c1 ?c2 ?c0 ?c3 ?c4 ?c5 _ rfl ?_)
            case c1 => exact new_cells _ _ _ _
            case c2 => exact cells_one _ _
            case c0 => omega
            case c3 => unfold maxLen; omega
            case c4 => omega
            case c5 => simp; omega
            intro gg cap3 w5 hown' hgrow hlies hlt3
            have HB5 := Lib.hid (own_belowK O2 HB.out hsB hgrow)
            have O5 : Hid (Own w5 w.heap.size w5.heap.size (.slice (some ⟨gg, 0, none⟩) (k + 1) cap3) (KL (k + 1))) := Lib.hid (by
              rw [N2.out]
              refine Own.mk ?_
              rw [List.length_append, flat_app, hl]
              exact hown')
            clear hown' hgrow hlies O2 hi hz0 hz1 hz2 hl
            go_wp2_with fail
            go_roundg (12 - (k + 1))
            case measure => omega
            case rel => exact ⟨k + 1, _, _, by first | go_num | (simp; omega), rfl, by omega, by omega, by first | exact O5 | (have := O5; simpa using this), HB5⟩
      · obtain rfl : k = 11 := by omega
        have hl := LL.out 11
        go_wp2_with fail
        refine bodyPost_ret (v := .tuple #[.slice a 11 cap, .int .i64 0]) (by simp [results, Try.results22, go_sem]) rfl ⟨_, rfl, HO.out, HB.out⟩
theorem powR_len (e : Int) : (powR e).1.length ≤ 1048576 := by
  unfold powR
  split
  · show (knL (fun x => powV x e.toNat) 11).length ≤ _
    rw [knL_len]
    omega
  · exact Nat.zero_le _
end Go.Proofs.Ytamdnfmodmlohaa.Kn
