/-
  Figures as texts: the contracts of l08Text, FigureText (package spec) and of FigureText (package impl).
-/
import Derived.Test.YtikfcadookimeaaDoorFigS
import Derived.Test.YtikfcadookimeaaDoorAngT
import Derived.Test.YtikfcadookimeaaDoorSplit
import Derived.Test.YtikfcadookimeaaDoorShelfJoin
import Derived.Test.YtikfcadookimeaaDoorKeep
import Derived.Deep.AppendLies
import Derived.Deep.RegionHeld3
import Derived.Deep.LoopGhost
import Derived.Lib.Join
import Derived.Lib.ItoaMem
namespace Go.Proofs.YtikfcadookimeaaDoor
open Go.RowKit
set_option linter.unusedVariables false

theorem name_leF (s : ByteArray) (h : nameB s.data.toList = true) : s.size ≤ 10 := by
  rcases (show 10 < s.size ∨ s.size ≤ 10 by omega) with c | c
  · rw [nameB_long s c] at h; cases h
  · exact c
theorem ownsRow_belF {B : Nat} {w w' : World} {e : TypeId} {v : Value} {n : Nat} {xs : List Value} (h : w.ownsRow B e 1 v n xs) (hb : Below w.heap.size w w') : w'.ownsRow B e 1 v n xs :=
  h.kept (⟨hb.os, hb.tape, hb.output, hb.size, fun k hk _ => hb.block k hk⟩ : w.grownBy w' none) (by cases hv : v.ownBlock <;> simp)
def decT (n : Int) : ByteArray := ⟨(Lib.itoa n).toArray⟩
def lineT (x : List Int) : ByteArray := decT (x.getD 0 0) ++ ⟨#[45]⟩ ++ decT (x.getD 1 0)
/-- The text of the first j lines behind a name. -/
def txtF (s : ByteArray) (ls : List (List Int)) : Nat → ByteArray
  | 0 => s
  | j + 1 => txtF s ls j ++ (⟨#[32]⟩ ++ decT ((ls.getD j []).getD 0 0) ++ ⟨#[45]⟩ ++ decT ((ls.getD j []).getD 1 0))
def figTxt (s : ByteArray) (ls : List (List Int)) : ByteArray := if figB 24 s ls = true then txtF s ls ls.length else ⟨#[]⟩
theorem figB_ok {s : ByteArray} {ls : List (List Int)} (h : figB 24 s ls = true) : s.size ≤ 10 ∧ ls.length ≤ 16 ∧ ∀ j, (hj : j < ls.length) → ∃ a c : Nat, ls[j] = [(a : Int), (c : Int)] ∧ a < 24 ∧ c < 24 := by
  unfold figB linesB at h
  simp only [Bool.and_eq_true, decide_eq_true_eq] at h
  obtain ⟨h1, h2, h3⟩ := h
  refine ⟨name_leF s h1, h3, fun j hj => ?_⟩
  have hl := okF_line _ ls _ j h2 hj
  rw [getL_at ls j hj] at hl
  obtain ⟨a, c, hac⟩ := lineB_two hl
  rw [hac] at hl ⊢
  have e : lineB 24 [a, c] = (inR 0 (24 - 1) [a, c] && decide (a < c)) := rfl
  rw [e, inR_2] at hl
  simp only [Bool.and_eq_true, inR_1, decide_eq_true_eq] at hl
  exact ⟨a.toNat, c.toNat, by rw [Int.toNat_of_nonneg (by omega), Int.toNat_of_nonneg (by omega)], by omega, by omega⟩
theorem decT_20 (a : Nat) (h : a < 24) : (decT (a : Int)).size ≤ 20 := by
  unfold decT
  rw [size_of]
  exact itoa_20 _ (by omega) (by omega)
theorem txtF_sz (s : ByteArray) (ls : List (List Int)) (hs : s.size ≤ 10) (hl : ∀ j, (hj : j < ls.length) → ∃ a c : Nat, ls[j] = [(a : Int), (c : Int)] ∧ a < 24 ∧ c < 24) (j : Nat) (hj : j ≤ ls.length) : (txtF s ls j).size ≤ 10 + 42 * j := by
  induction j with
  | zero => exact hs
  | succ j ih =>
    obtain ⟨a, c, hac, ha, hc⟩ := hl j (by omega)
    have h1 := decT_20 a ha
    have h2 := decT_20 c hc
    have h0 := ih (by omega)
    have e : txtF s ls (j + 1) = txtF s ls j ++ (⟨#[32]⟩ ++ decT (a : Int) ++ ⟨#[45]⟩ ++ decT (c : Int)) := by
      show txtF s ls j ++ (⟨#[32]⟩ ++ decT ((ls.getD j []).getD 0 0) ++ ⟨#[45]⟩ ++ decT ((ls.getD j []).getD 1 0)) = _
      rw [getL_at ls j (by omega), hac]
      rfl
    rw [e]
    simp only [ByteArray.size_append]
    show (txtF s ls j).size + (1 + (decT (a : Int)).size + 1 + (decT (c : Int)).size) ≤ _
    omega
def wordsF (s : ByteArray) (ls : List (List Int)) (j : Nat) : List ByteArray := s :: ((List.range j).map fun k => lineT (ls.getD k []))
theorem wordsF_next (s : ByteArray) (ls : List (List Int)) (j : Nat) : wordsF s ls (j + 1) = wordsF s ls j ++ [lineT (ls.getD j [])] := by
  unfold wordsF
  rw [List.range_succ, List.map_append]
  rfl
theorem wordsF_len (s : ByteArray) (ls : List (List Int)) (j : Nat) : (wordsF s ls j).length = j + 1 := by simp [wordsF]
theorem joinF (s : ByteArray) (ls : List (List Int)) (j : Nat) : (⟨(Lib.join ((wordsF s ls j).map (·.data.toList)) [32]).toArray⟩ : ByteArray) = txtF s ls j := by
  apply WideShapes.bytes_inj
  have h : (Lib.join ((wordsF s ls j).map (·.data.toList)) [32]) = (txtF s ls j).data.toList := by
    induction j with
    | zero => simp [wordsF, txtF, Lib.join_one]
    | succ j ih =>
      have e : (wordsF s ls (j + 1)).map (·.data.toList) = s.data.toList :: (((List.range j).map fun k => (lineT (ls.getD k [])).data.toList) ++ [(lineT (ls.getD j [])).data.toList]) := by
        rw [wordsF_next]
        simp [wordsF]
      have e0 : (wordsF s ls j).map (·.data.toList) = s.data.toList :: ((List.range j).map fun k => (lineT (ls.getD k [])).data.toList) := by simp [wordsF]
      rw [e0, Lib.join_cons] at ih
      rw [e, Lib.join_cons]
      have t : Lib.joinTail [32] (((List.range j).map fun k => (lineT (ls.getD k [])).data.toList) ++ [(lineT (ls.getD j [])).data.toList]) = Lib.joinTail [32] ((List.range j).map fun k => (lineT (ls.getD k [])).data.toList) ++ ([32] ++ (lineT (ls.getD j [])).data.toList) := by
        simp [Lib.joinTail]
      rw [t, ← List.append_assoc, ih]
      show _ = (txtF s ls j ++ (⟨#[32]⟩ ++ decT ((ls.getD j []).getD 0 0) ++ ⟨#[45]⟩ ++ decT ((ls.getD j []).getD 1 0))).data.toList
      simp [ByteArray.data_append, lineT]
  rw [h]

set_option maxRecDepth 100000 in
set_option maxHeartbeats 4000000 in
theorem l08Text_any (s : ByteArray) (p g cap : Nat) (ls : List (List Int)) (bs : Nat → Nat) (w : World) (hv : figB 24 s ls = true) (hp0 : w.cell? ⟨p, 0, none⟩ = some (.string s)) (hp1 : w.cell? ⟨p, 1, none⟩ = some (.slice (some ⟨g, 0, none⟩) ls.length cap)) (hr : LRow w g ls bs) :
    Calls Tryd.prog 34 #[.pointer (some ⟨p, 0, none⟩)] w fun e w' => e = .returned (.string (txtF s ls ls.length)) ∧ Below w.heap.size w w' := by
  obtain ⟨hs10, hl16, hln⟩ := figB_ok hv
  have TS := Lib.hid (txtF_sz s ls hs10 hln)
  have LN := Lib.hid hln
  have HL := Lib.hid hr
  have hpl := World.block_lt_of_cell? w ⟨p, 0, none⟩ hp0
  have HP1 := Lib.hid hp1
  have T0 : Hid (txtF s ls 0 = s) := Lib.hid rfl
  have TN : Hid (∀ j, txtF s ls (j + 1) = txtF s ls j ++ (⟨#[32]⟩ ++ decT ((ls.getD j []).getD 0 0) ++ ⟨#[45]⟩ ++ decT ((ls.getD j []).getD 1 0))) := Lib.hid (fun j => rfl)
  generalize txtF s ls = T at *
  clear hv hln hr hp1
  go_enter Tryd.func34, Tryd.ntmps34
  go_wp2_with fail
  clear hp0
  go_loopg [3, 4] (ls.length + 1) (fun kx s3 s4 wr => ∃ j : Nat, s3 = .string (T j) ∧ s4 = .int .i64 (j : Int) ∧ j ≤ ls.length ∧ kx = ls.length + 1 - j ∧ Hid (Below w.heap.size w wr))
  case atStart => exact ⟨0, by rw [T0.out], rfl, Nat.zero_le _, rfl, Lib.hid (Below.refl _ _)⟩
  case round =>
    obtain ⟨j, rfl, rfl, hj, rfl, HB⟩ := hrel
    have q1 := (HB.out.cell (p := ⟨p, 1, none⟩) hpl).trans HP1.out
    by_cases hlt : j < ls.length
    · obtain ⟨a, c, hac, la, lc⟩ := LN.out j hlt
      obtain ⟨c0, hx⟩ := (HL.out.below HB.out).at j hlt
      rw [hac] at c0 hx
      have x0 := hx.at 0 (by simp)
      have x1 := hx.at 1 (by simp)
      simp only [List.length_cons, List.length_nil, List.getElem_cons_zero, List.getElem_cons_succ, Nat.zero_add, Nat.reduceAdd] at c0 x0 x1
      have TJ : Hid (T (j + 1) = T j ++ (⟨#[32]⟩ ++ decT (a : Int) ++ ⟨#[45]⟩ ++ decT (c : Int))) := Lib.hid (by rw [TN.out, getL_at ls j hlt, hac]; rfl)
      have DA := Lib.hid (fun w => l01Dec_any (a : Int) w (by omega) (by omega))
      have DC := Lib.hid (fun w => l01Dec_any (c : Int) w (by omega) (by omega))
      have ea : (⟨(Lib.itoa (a : Int)).toArray⟩ : ByteArray) = decT (a : Int) := rfl
      have ec : (⟨(Lib.itoa (c : Int)).toArray⟩ : ByteArray) = decT (c : Int) := rfl
      rw [ea] at DA
      rw [ec] at DC
      have la' := decT_20 a la
      have lc' := decT_20 c lc
      have lt := TS.out j hj
      clear ea ec hx hac
      generalize decT (a : Int) = A at *
      generalize decT (c : Int) = C at *
      generalize T j = M at *
      have z1 : (⟨#[32]⟩ ++ A : ByteArray).size = 1 + A.size := by rw [ByteArray.size_append]; rfl
      have z2 : (⟨#[32]⟩ ++ A ++ ⟨#[45]⟩ : ByteArray).size = 1 + A.size + 1 := by rw [ByteArray.size_append, z1]; rfl
      have z3 : (⟨#[32]⟩ ++ A ++ ⟨#[45]⟩ ++ C : ByteArray).size = 1 + A.size + 1 + C.size := by rw [ByteArray.size_append, z2]
      have g1 : ¬ 9223372036854775807 < 1 + A.size := by omega
      have g2 : ¬ 9223372036854775807 < (⟨#[32]⟩ ++ A : ByteArray).size + 1 := by omega
      have g3 : ¬ 9223372036854775807 < 1 + A.size + 1 := by omega
      have g4 : ¬ 9223372036854775807 < (⟨#[32]⟩ ++ A ++ ⟨#[45]⟩ : ByteArray).size + C.size := by omega
      have g5 : ¬ 9223372036854775807 < 1 + A.size + 1 + C.size := by omega
      have g6 : ¬ 9223372036854775807 < M.size + (⟨#[32]⟩ ++ A ++ ⟨#[45]⟩ ++ C : ByteArray).size := by omega
      have g7 : ¬ 9223372036854775807 < M.size + (1 + A.size + 1 + C.size) := by omega
      clear z1 z2 z3
      have j0 : (0 : Int) ≤ (j : Int) := by omega
      have j1 : (j : Int) < (ls.length : Int) := by omega
      have K : Hid (wr.cell? ⟨p, 1, none⟩ = some (.slice (some ⟨g, 0, none⟩) ls.length cap) ∧ wr.cell? ⟨g, j, none⟩ = some (.slice (some ⟨bs j, 0, none⟩) 2 2) ∧ wr.cell? ⟨bs j, 0, none⟩ = some (.int .i64 (a : Int)) ∧ wr.cell? ⟨bs j, 1, none⟩ = some (.int .i64 (c : Int)) ∧ Below w.heap.size w wr) := Lib.hid ⟨q1, c0, x0, x1, HB.out⟩
      clear c0 x0 x1
      go_wp2_with fail
      go_region_held3 (fun W => W.cell? ⟨p, 1, none⟩ = some (.slice (some ⟨g, 0, none⟩) ls.length cap) ∧ W.cell? ⟨g, j, none⟩ = some (.slice (some ⟨bs j, 0, none⟩) 2 2) ∧ W.cell? ⟨bs j, 0, none⟩ = some (.int .i64 (a : Int)) ∧ W.cell? ⟨bs j, 1, none⟩ = some (.int .i64 (c : Int)) ∧ Below w.heap.size w W) (first | (exact keepW4 K.out (drewG wr)) | (exact keepW4 K.out z2) | (exact keepW4 K.out z1) | go_keep) ((go_at_call 75; (first
        | ((with_reducible refine (DA.out _).mono ?_); rintro e u1 ⟨rfl, hu1⟩; (first | have z2 := z1.trans (hu1.mono z1.size) | have z1 := undrewG hu1))
        | ((with_reducible refine (DC.out _).mono ?_); rintro e u2 ⟨rfl, hu2⟩; (first | have z2 := z1.trans (hu2.mono z1.size) | have z1 := undrewG hu2)))))
      all_goals
        rename_i held
        have HH := Lib.hid held.2.2.2.2
        clear held K
        go_wp2_with fail
        go_roundg (ls.length + 1 - (j + 1))
        case measure => omega
        case rel => exact ⟨j + 1, by rw [TJ.out], by go_num, by omega, by omega, HH⟩
    · obtain rfl : j = ls.length := by omega
      go_wp2_with fail
      go_ret
      exact ⟨rfl, HB.out⟩

set_option maxRecDepth 100000 in
set_option maxHeartbeats 1000000 in
theorem specFigT_any (s : ByteArray) (g cap : Nat) (ls : List (List Int)) (bs : Nat → Nat) (w : World) (hb : ls.length ≤ 1048577) (hls : ∀ j, (h : j < ls.length) → ls[j].length ≤ 1048577) (hfit : ∀ j, (h : j < ls.length) → ∀ x ∈ ls[j], fits x) (hr : LRow w g ls bs) :
    Calls Tryd.prog 10 #[.agg #[.string s, .slice (some ⟨g, 0, none⟩) ls.length cap]] w fun e w' => e = .returned (.string (figTxt s ls)) ∧ Below w.heap.size w w' := by
  have NM := Lib.hid (fun w => l01Name_any s w)
  have F := Lib.hid (fun (W : World) (hB : Below w.heap.size w W) => l08Lines_any 24 (by omega) (by omega) g cap ls bs W hb hls hfit (hr.below hB))
  have TX := Lib.hid (fun (hv : figB 24 s ls = true) (W : World) (hB : Below w.heap.size w W) p hp0 hp1 => l08Text_any s p g cap ls bs W hv hp0 hp1 (hr.below hB))
  have FB : figB 24 s ls = (nameB s.data.toList && linesB 24 ls) := rfl
  unfold figTxt
  rw [FB] at TX ⊢
  clear hr hls hfit FB
  generalize nameB s.data.toList = p1 at *
  generalize linesB 24 ls = p2 at *
  generalize txtF s ls ls.length = r at *
  cases p1 with
  | false =>
    rw [Bool.false_and, if_neg (by simp)]
    go_enter Tryd.func10, Tryd.ntmps10
    go_wp2_with fail
    refine (NM.out _).mono ?_
    rintro e w1 ⟨rfl, rfl⟩
    go_wp2_with fail
    go_ret
    refine ⟨rfl, ?_⟩
    repeat (first | exact Below.refl _ _ | refine Below.setCell ?_ (by first | (simp; done) | omega | (simp; omega)) _ | refine Below.alloc ?_ (by first | (simp; done) | omega | (simp; omega)) _ | refine bel_drew ?_)
  | true =>
    rw [Bool.true_and] at TX ⊢
    cases p2 with
    | false =>
      rw [if_neg (by simp)]
      go_enter Tryd.func10, Tryd.ntmps10
      go_wp2_with fail
      refine (NM.out _).mono ?_
      rintro e w1 ⟨rfl, rfl⟩
      go_wp2_with fail
      refine (F.out _ (by repeat (first | exact Below.refl _ _ | refine Below.setCell ?_ (by first | (simp; done) | omega | (simp; omega)) _ | refine Below.alloc ?_ (by first | (simp; done) | omega | (simp; omega)) _ | refine bel_drew ?_))).mono ?_
      rintro e w1 ⟨rfl, hb1⟩
      have HB1 : Hid (Below w.heap.size w w1) := Lib.hid (by
        refine Below.trans ?_ (hb1.mono ?_)
        · repeat (first | exact Below.refl _ _ | refine Below.setCell ?_ (by first | (simp; done) | omega | (simp; omega)) _ | refine Below.alloc ?_ (by first | (simp; done) | omega | (simp; omega)) _ | refine bel_drew ?_)
        · simp)
      clear hb1
      go_wp2_with fail
      go_ret
      exact ⟨rfl, HB1.out⟩
    | true =>
      rw [if_pos rfl]
      go_enter Tryd.func10, Tryd.ntmps10
      go_wp2_with fail
      refine (NM.out _).mono ?_
      rintro e w1 ⟨rfl, rfl⟩
      go_wp2_with fail
      refine (F.out _ (by repeat (first | exact Below.refl _ _ | refine Below.setCell ?_ (by first | (simp; done) | omega | (simp; omega)) _ | refine Below.alloc ?_ (by first | (simp; done) | omega | (simp; omega)) _ | refine bel_drew ?_))).mono ?_
      rintro e w1 ⟨rfl, hb1⟩
      have HB1 : Hid (Below w.heap.size w w1) := Lib.hid (by
        refine Below.trans ?_ (hb1.mono ?_)
        · repeat (first | exact Below.refl _ _ | refine Below.setCell ?_ (by first | (simp; done) | omega | (simp; omega)) _ | refine Below.alloc ?_ (by first | (simp; done) | omega | (simp; omega)) _ | refine bel_drew ?_)
        · simp)
      have q0 : w1.cell? ⟨w.heap.size, 0, none⟩ = some (.string s) := (hb1.cell (p := ⟨w.heap.size, 0, none⟩) (by simp)).trans (by simp)
      have q1 : w1.cell? ⟨w.heap.size, 1, none⟩ = some (.slice (some ⟨g, 0, none⟩) ls.length cap) := (hb1.cell (p := ⟨w.heap.size, 1, none⟩) (by simp)).trans (by simp)
      clear hb1
      go_wp2_with fail
      refine (TX.out (by simp) _ HB1.out w.heap.size q0 q1).mono ?_
      rintro e w2 ⟨rfl, hb2⟩
      have HB2 := Lib.hid (HB1.out.trans (hb2.mono HB1.out.size))
      clear hb2
      go_wp2_with fail
      go_ret
      exact ⟨rfl, HB2.out⟩

set_option maxRecDepth 100000 in
set_option maxHeartbeats 4000000 in
theorem implFigT_any (s : ByteArray) (hs : s.size ≤ maxLen) (g cap : Nat) (ls : List (List Int)) (bs : Nat → Nat) (w : World) (hb : ls.length ≤ 1048577) (hls : ∀ j, (h : j < ls.length) → ls[j].length ≤ 1048577) (hr : LRow w g ls bs) (ht : TabOK w) :
    Calls Tryd.prog 12 #[.agg #[.string s, .slice (some ⟨g, 0, none⟩) ls.length cap]] w fun e w' => e = .returned (.string (figTxt s ls)) ∧ Below w.heap.size w w' := by
  have V := Lib.hid (fun (W : World) (hB : Below w.heap.size w W) => isValidFor_any s hs 24 (by omega) (by omega) g cap ls bs W hb hls (hr.below hB))
  have HL := Lib.hid hr
  have E := Lib.hid ht
  unfold figTxt
  clear hr hls ht
  cases hv : figB 24 s ls with
  | false =>
    rw [if_neg (by simp)]
    rw [hv] at V
    clear hv
    go_enter Tryd.func12, Tryd.ntmps12
    go_wp2_with fail
    refine (V.out _ (by repeat (first | exact Below.refl _ _ | refine Below.setCell ?_ (by first | (simp; done) | omega | (simp; omega)) _ | refine Below.alloc ?_ (by first | (simp; done) | omega | (simp; omega)) _ | refine bel_drew ?_))).mono ?_
    rintro e w1 ⟨rfl, hb1⟩
    have HB1 : Hid (Below w.heap.size w w1) := Lib.hid (by
      refine Below.trans ?_ (hb1.mono ?_)
      · repeat (first | exact Below.refl _ _ | refine Below.setCell ?_ (by first | (simp; done) | omega | (simp; omega)) _ | refine Below.alloc ?_ (by first | (simp; done) | omega | (simp; omega)) _ | refine bel_drew ?_)
      · simp)
    clear hb1
    go_wp2_with fail
    go_ret
    exact ⟨rfl, HB1.out⟩
  | true =>
    rw [if_pos rfl]
    rw [hv] at V
    obtain ⟨hs10, hl16, hln⟩ := figB_ok hv
    have LN := Lib.hid hln
    have JJ := Lib.hid (joinF s ls ls.length)
    have JL : Hid ((Lib.join ((wordsF s ls ls.length).map (·.data.toList)) [32]).length ≤ 140737488355328) := Lib.hid (by
      rw [← size_of, JJ.out]
      have := txtF_sz s ls hs10 hln ls.length (Nat.le_refl _)
      omega)
    have WN := Lib.hid (wordsF_next s ls)
    have WL := Lib.hid (wordsF_len s ls)
    have W0' : Hid (wordsF s ls 0 = [s]) := Lib.hid rfl
    generalize wordsF s ls = W at *
    generalize txtF s ls ls.length = r at *
    clear hv hln hs
    obtain ⟨i0, hi, hzz⟩ := Option.map_eq_some_iff.1 info_str
    simp only [Prod.mk.injEq] at hzz
    obtain ⟨hz0, hz1, hz2⟩ := hzz
    have HI0 := Lib.hid hi
    have HZ0 := Lib.hid hz0
    have HZ1 := Lib.hid hz1
    have HZ2 := Lib.hid hz2
    clear hi hz0 hz1 hz2
    go_enter Tryd.func12, Tryd.ntmps12
    go_wp2_with fail
    refine (V.out _ (by repeat (first | exact Below.refl _ _ | refine Below.setCell ?_ (by first | (simp; done) | omega | (simp; omega)) _ | refine Below.alloc ?_ (by first | (simp; done) | omega | (simp; omega)) _ | refine bel_drew ?_))).mono ?_
    rintro e w1 ⟨rfl, hb1⟩
    have HB1 : Hid (Below w.heap.size w w1) := Lib.hid (by
      refine Below.trans ?_ (hb1.mono ?_)
      · repeat (first | exact Below.refl _ _ | refine Below.setCell ?_ (by first | (simp; done) | omega | (simp; omega)) _ | refine Below.alloc ?_ (by first | (simp; done) | omega | (simp; omega)) _ | refine bel_drew ?_)
      · simp)
    have hl1 : w.heap.size < w1.heap.size := by have := hb1.size; simp at this; omega
    have q0 : w1.cell? ⟨w.heap.size, 0, none⟩ = some (.string s) := (hb1.cell (p := ⟨w.heap.size, 0, none⟩) (by simp)).trans (by simp)
    have q1 : w1.cell? ⟨w.heap.size, 1, none⟩ = some (.slice (some ⟨g, 0, none⟩) ls.length cap) := (hb1.cell (p := ⟨w.heap.size, 1, none⟩) (by simp)).trans (by simp)
    have HB2 : Hid (Below w.heap.size w (w1.alloc (.cells #[.string s] 9))) := Lib.hid (HB1.out.alloc HB1.out.size _)
    have OW : Hid ((w1.alloc (.cells #[.string s] 9)).ownsRow w.heap.size 9 1 (.slice (some ⟨w1.heap.size, 0, none⟩) 1 1) (W 0).length ((W 0).map Value.string)) := Lib.hid (by
      rw [W0'.out]
      exact Go.Joins.ownsRow_le (World.ownsRow_lit (base := w1.heap.size) (e := 9) (size := 1) w1 #[.string s] 1 (Nat.le_refl _) (by decide) rfl) HB1.out.size)
    clear hb1 V
    go_wp2_with fail
    clear q0 q1
    go_loopg [3, 15] (ls.length + 1) (fun kx s3 s15 wr => ∃ j : Nat, s15 = .int .i64 (j : Int) ∧ j ≤ ls.length ∧ kx = ls.length + 1 - j ∧ Hid (wr.ownsRow w.heap.size 9 1 s3 (W j).length ((W j).map Value.string)) ∧ Hid (Below w.heap.size w wr))
    case atStart => exact ⟨0, rfl, Nat.zero_le _, rfl, OW, HB2⟩
    case round =>
      obtain ⟨j, rfl, hj, rfl, HO, HB⟩ := hrel
      by_cases hlt : j < ls.length
      · obtain ⟨a, c, hac, la, lc⟩ := LN.out j hlt
        obtain ⟨c0, hx⟩ := (HL.out.below HB.out).at j hlt
        have WJ : Hid (W (j + 1) = W j ++ [decT (a : Int) ++ ⟨#[45]⟩ ++ decT (c : Int)]) := Lib.hid (by rw [WN.out, getL_at ls j hlt, hac]; rfl)
        have hbg : g < w.heap.size := HL.out.lt
        have hbk : bs j < w.heap.size := World.rowIs.lt (HL.out.each j hlt)
        obtain ⟨_, hxw⟩ := HL.out.at j hlt
        rw [hac] at c0 hx hxw
        have x0 := hx.at 0 (by simp)
        have x1 := hx.at 1 (by simp)
        have y0 := hxw.at 0 (by simp)
        have y1 := hxw.at 1 (by simp)
        simp only [List.length_cons, List.length_nil, List.getElem_cons_zero, List.getElem_cons_succ, Nat.zero_add, Nat.reduceAdd] at c0 x0 x1 y0 y1
        have YW := Lib.hid (And.intro y0 y1)
        clear hxw y0 y1
        have wl := WL.out j
        have DA := Lib.hid (fun w ht => implDec_any (a : Int) w (by omega) (by omega) ht)
        have DC := Lib.hid (fun w ht => implDec_any (c : Int) w (by omega) (by omega) ht)
        have ea : (⟨(Lib.itoa (a : Int)).toArray⟩ : ByteArray) = decT (a : Int) := rfl
        have ec : (⟨(Lib.itoa (c : Int)).toArray⟩ : ByteArray) = decT (c : Int) := rfl
        rw [ea] at DA
        rw [ec] at DC
        have la' := decT_20 a la
        have lc' := decT_20 c lc
        clear ea ec hx hac
        generalize decT (a : Int) = A at *
        generalize decT (c : Int) = C at *
        generalize W j = L at *
        have z1 : (A ++ ⟨#[45]⟩ : ByteArray).size = A.size + 1 := by rw [ByteArray.size_append]; rfl
        have g1 : ¬ 9223372036854775807 < A.size + 1 := by omega
        have g2 : ¬ 9223372036854775807 < (A ++ ⟨#[45]⟩ : ByteArray).size + C.size := by omega
        have g3 : ¬ 9223372036854775807 < A.size + 1 + C.size := by omega
        clear z1
        have j0 : (0 : Int) ≤ (j : Int) := by omega
        have j1 : (j : Int) < (ls.length : Int) := by omega
        have hi := HI0.out
        have hz0 := HZ0.out
        have hz1 := HZ1.out
        have hz2 := HZ2.out
        have EE := Lib.hid (fun (X : World) (h : Below wr.heap.size wr X) => E.out.below (HB.out.trans (h.mono HB.out.size)))
        have K : Hid (wr.cell? ⟨bs j, 0, none⟩ = some (.int .i64 (a : Int)) ∧ wr.cell? ⟨bs j, 1, none⟩ = some (.int .i64 (c : Int)) ∧ Below w.heap.size w wr) := Lib.hid ⟨x0, x1, HB.out⟩
        clear x0 x1
        go_wp2_with fail
        clear c0
        go_region_held3 (fun X => X.cell? ⟨bs j, 0, none⟩ = some (.int .i64 (a : Int)) ∧ X.cell? ⟨bs j, 1, none⟩ = some (.int .i64 (c : Int)) ∧ Below w.heap.size w X) (first | (exact keepW2 K.out (drewG wr)) | (exact keepW2 K.out z3) | (exact keepW2 K.out z2) | (exact keepW2 K.out z1) | (exact keepW2 K.out (z2.alloc z2.size _)) | (exact ⟨(hgB.1.cell (p := ⟨bs j, 0, none⟩) hbk).trans YW.out.1, (hgB.1.cell (p := ⟨bs j, 1, none⟩) hbk).trans YW.out.2, hgB.1⟩) | go_keep) ((first
          | (go_at_call 37; (first
            | ((with_reducible refine (DA.out _ (by first | exact EE.out _ (drewG wr) | exact EE.out _ z1)).mono ?_); rintro e u1 ⟨rfl, hu1⟩; (first | have z2 := z1.trans (hu1.mono z1.size) | have z1 := undrewG hu1))
            | ((with_reducible refine (DC.out _ (by first | exact EE.out _ (drewG wr) | exact EE.out _ z1)).mono ?_); rintro e u2 ⟨rfl, hu2⟩; (first | have z2 := z1.trans (hu2.mono z1.size) | have z1 := undrewG hu2))))
          | (refine step_append_lies _ (by rfl) _ _ _ (by rfl) w.heap.size 9 i0 (.string ByteArray.empty) 1 16 Tryd.underlying61 hi hz0 hz1 hz2 rfl (by decide) _ L.length (L.map Value.string) (by rfl) ((ownsRow_belF HO.out z2).alloc _) ⟨_, 0, none⟩ 1 1 [.string (A ++ ⟨#[45]⟩ ++ C)] (by rfl) (by rfl) (World.news_of_block (cs := #[.string (A ++ ⟨#[45]⟩ ++ C)]) (t := 9) (fr := (0, 0)) (heap_alloc_new _ _)) (by simp [Value.oneCell']) (by omega) (by unfold maxLen; omega) (by omega) (by have := z2.size; have := HB.out.size; simp; omega) _ rfl ?_; intro gg cap' w5 hown' hgrow hat hlt'; have hgB := own_below (ownsRow_belF HO.out z2) (HB.out.trans (z2.mono HB.out.size)) (HB.out.trans (z2.mono HB.out.size)).size hgrow)))
        all_goals
          rename_i held
          have HB5 := Lib.hid hgB.1
          have ho : w5.ownsRow w.heap.size 9 1 (.slice (some ⟨gg, 0, none⟩) (L.length + 1) cap') (W (j + 1)).length ((W (j + 1)).map Value.string) := by
            rw [WJ.out, List.map_append, List.length_append]
            exact hown'
          have HO2 := Lib.hid ho
          rw [wl] at HO2
          clear held K hgB hown' hgrow ho
          go_wp2_with fail
          go_roundg (ls.length + 1 - (j + 1))
          case measure => omega
          case rel => exact ⟨j + 1, by go_num, by omega, by omega, HO2, HB5⟩
      · obtain rfl : j = ls.length := by omega
        have wl := WL.out ls.length
        have hown := HO.out
        obtain ⟨g2, cap2, rfl⟩ := Go.Joins.ownsRow_form hown (by omega)
        have hcl : ∀ (j : Nat) (x : ByteArray), (W ls.length)[j]? = some x → wr.cell? ⟨g2, 0 + j, none⟩ = some (.string x) := by
          intro j x hx
          have hjl : j < (W ls.length).length := (List.getElem?_eq_some_iff.1 hx).1
          rw [Nat.zero_add, hown.cellAt j (by omega), List.getElem?_map, hx]
          rfl
        have hblk := (hown.lt _ rfl).2
        have hcap : (W ls.length).length ≤ cap2 := by
          rcases hown.2 with ⟨hv, _⟩ | ⟨g1, cap1, cur, hv, _, _, hc, _⟩
          · cases hv
          · injection hv with _ _ e3; omega
        have hjn := Tryd.strings_Join g2 0 cap2 (W ls.length) ⟨#[32]⟩ wr hcl hblk (by omega) hcap JL.out
        rw [show (⟨#[32]⟩ : ByteArray).data.toList = [32] from rfl, JJ.out] at hjn
        have JN := Lib.hid hjn
        clear hjn hcl hown hcap
        rw [wl] at JN ⊢
        go_wp2_with fail
        with_reducible refine JN.out.mono ?_
        rintro e w2 ⟨rfl, hb⟩
        have HB3 := Lib.hid (HB.out.trans (hb.mono HB.out.size))
        clear hb
        go_wp2_with fail
        go_ret
        exact ⟨rfl, HB3.out⟩
end Go.Proofs.YtikfcadookimeaaDoor
