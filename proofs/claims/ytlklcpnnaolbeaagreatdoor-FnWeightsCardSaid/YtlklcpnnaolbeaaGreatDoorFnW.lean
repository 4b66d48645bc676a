/-
  Shares of a whole: they are 1000 in all, none is below 0, and a weight of 0 has none; a mean by shares lies between the bounds of what has a share.
  The law's own helper b10Sum.
  FnWeights: shares are 1000 in all, a weight of 0 has none, and the brightness lies between the powers of what has a weight.
-/
import Derived.Test.YtlklcpnnaolbeaaGreatDoorLitB
import Derived.Deep.LoopGhost
import Derived.Test.YtlklcpnnaolbeaaGreatDoorDrwX
namespace Go.Proofs.YtlklcpnnaolbeaaGreatDoor
section
open Go.RowKit
set_option linter.unusedVariables false

theorem sumK_set (r : List Int) (b : Nat) (v : Int) : ∀ n, n ≤ r.length → b < n → sumK (r.set b v) n = sumK r n - r.getD b 0 + v := by
  have low : ∀ n, n ≤ b → n ≤ r.length → sumK (r.set b v) n = sumK r n := by
    intro n
    induction n with
    | zero => intros; rfl
    | succ n ih =>
      intro h1 h2
      unfold sumK
      rw [ih (by omega) (by omega), List.getD, List.getD, List.getElem?_set_ne (by omega)]
  intro n
  induction n with
  | zero => intro _ h; omega
  | succ n ih =>
    intro h1 h2
    unfold sumK
    by_cases c : b = n
    · subst c
      rw [low b (Nat.le_refl _) (by omega)]
      have e : (r.set b v).getD b 0 = v := by rw [List.getD, List.getElem?_set_self (by omega)]; rfl
      rw [e]
      omega
    · have e : (r.set b v).getD n 0 = r.getD n 0 := by rw [List.getD, List.getD, List.getElem?_set_ne c]
      rw [ih (by omega) (by omega), e]
      omega
theorem giveL_sum (n : Nat) : ∀ (D T : List Int), D.length = T.length → 0 < T.length → sumK (giveL n D T) D.length = sumK D D.length + n := by
  induction n with
  | zero => intro D T _ _; show sumK D D.length = _; omega
  | succ n ih =>
    intro D T h h0
    have hb := bestK_lt T T.length h0
    have e := ih (D.set (bestK T T.length) (D.getD (bestK T T.length) 0 + 1)) (T.set (bestK T T.length) (-1)) (by simp [h]) (by simpa using h0)
    rw [List.length_set] at e
    rw [giveL_next, e, sumK_set D _ _ D.length (Nat.le_refl _) (by omega)]
    omega
/-- How many of the numbers are above 0. -/
def posN (T : List Int) : Nat := T.countP (fun x => decide (0 < x))
theorem posN_set (T : List Int) (b : Nat) (hb : b < T.length) (hp : 0 < T.getD b 0) : posN (T.set b (-1)) + 1 = posN T := by
  have e : T.getD b 0 = T[b] := by rw [List.getD, List.getElem?_eq_getElem hb]; rfl
  rw [e] at hp
  have h1 : 0 < posN T := by
    unfold posN
    rw [List.countP_pos_iff]
    exact ⟨T[b], List.getElem_mem hb, by simpa using hp⟩
  unfold posN at *
  rw [List.countP_set hb]
  simp [hp]
  omega
theorem posN_max (T : List Int) (h : 0 < posN T) : 0 < T.getD (bestK T T.length) 0 := by
  unfold posN at h
  rw [List.countP_pos_iff] at h
  obtain ⟨x, hx, hp⟩ := h
  obtain ⟨j, hj, rfl⟩ := List.getElem_of_mem hx
  have hs := (bestK_spec T T.length (by omega)).1 j hj
  have e : T.getD j 0 = T[j] := by rw [List.getD, List.getElem?_eq_getElem hj]; rfl
  rw [e] at hs
  have : 0 < T[j] := by simpa using hp
  omega
theorem giveL_none (n : Nat) : ∀ (D T : List Int), D.length = T.length → n ≤ posN T → ∀ i, T.getD i 0 ≤ 0 → (giveL n D T).getD i 0 = D.getD i 0 := by
  induction n with
  | zero => intros; rfl
  | succ n ih =>
    intro D T hl hn i hi
    have hm := posN_max T (by omega)
    have hne : ¬ bestK T T.length = i := fun e => by rw [e] at hm; omega
    have hlt : bestK T T.length < T.length := by
      rcases Nat.eq_zero_or_pos T.length with h0 | h0
      · have : T = [] := List.length_eq_zero_iff.1 h0
        subst this
        simp [posN] at hn
      · exact bestK_lt T T.length h0
    have hp := posN_set T _ hlt hm
    rw [giveL_next, ih _ _ (by simp [hl]) (by omega) i (by rw [List.getD, List.getElem?_set_ne hne]; exact hi), List.getD, List.getElem?_set_ne hne]
    rfl
theorem giveL_nn (n : Nat) : ∀ (D T : List Int), (∀ i, 0 ≤ D.getD i 0) → ∀ i, 0 ≤ (giveL n D T).getD i 0 := by
  induction n with
  | zero => intro D T h i; exact h i
  | succ n ih =>
    intro D T h i
    rw [giveL_next]
    refine ih _ _ (fun j => ?_) i
    have h1 := h j
    have h2 := h (bestK T T.length)
    generalize bestK T T.length = b at *
    by_cases c : b = j
    · subst c
      by_cases d : b < D.length
      · rw [List.getD, List.getElem?_set_self d]
        show 0 ≤ D.getD b 0 + 1
        omega
      · rw [List.getD, List.getElem?_eq_none (by rw [List.length_set]; omega)]
        exact Int.le_refl _
    · rw [List.getD, List.getElem?_set_ne c]
      exact h1
/-- What is over is less than what has a rest. -/
theorem rest_few (s : Int) (s0 : 0 < s) : ∀ T : List Int, (∀ x ∈ T, 0 ≤ x ∧ x ≤ s - 1) → T.foldr (· + ·) 0 ≤ (s - 1) * (posN T : Int) := by
  intro T
  induction T with
  | nil => intro _; simp [posN]
  | cons x T ih =>
    intro h
    have h1 := ih (fun y hy => h y (List.mem_cons_of_mem _ hy))
    have h2 := h x (List.mem_cons_self ..)
    by_cases c : 0 < x
    · have e : posN (x :: T) = posN T + 1 := by unfold posN; rw [List.countP_cons_of_pos (by simpa using c)]
      rw [e, Int.natCast_add, Int.mul_add]
      show x + T.foldr (· + ·) 0 ≤ _
      have : (s - 1) * ((1 : Nat) : Int) = s - 1 := by simp
      omega
    · have e : posN (x :: T) = posN T := by unfold posN; rw [List.countP_cons_of_neg (by simpa using c)]
      rw [e]
      show x + T.foldr (· + ·) 0 ≤ _
      omega
theorem sumK_fold : ∀ (T : List Int), sumK T T.length = T.foldr (· + ·) 0 := by
  have gen : ∀ (T : List Int) (x : Int) (n : Nat), n ≤ T.length → sumK (x :: T) (n + 1) = x + sumK T n := by
    intro T x n
    induction n with
    | zero => intro _; show sumK (x :: T) 0 + (x :: T).getD 0 0 = x + 0; show (0 : Int) + x = x + 0; omega
    | succ n ih =>
      intro h
      show sumK (x :: T) (n + 1) + (x :: T).getD (n + 1) 0 = x + (sumK T n + T.getD n 0)
      rw [ih (by omega)]
      have : (x :: T).getD (n + 1) 0 = T.getD n 0 := rfl
      rw [this]
      omega
  intro T
  induction T with
  | nil => rfl
  | cons x T ih => rw [List.length_cons, gen T x T.length (Nat.le_refl _), ih]; rfl
theorem wgt_facts (r : List Int) (h : ∀ i, i < r.length → 0 ≤ r.getD i 0) (hs : 0 < sumK r r.length) :
    (wgtL r).length = r.length ∧ sumK (wgtL r) r.length = 1000 ∧ (∀ i, 0 ≤ (wgtL r).getD i 0) ∧ ∀ i, i < r.length → r.getD i 0 = 0 → (wgtL r).getD i 0 = 0 := by
  obtain ⟨b0, b1⟩ := left_bd r h hs
  have hsp := split_sum (sumK r r.length) r r.length (Nat.le_refl _)
  have hlen : (wgtL r).length = r.length := by rw [wgtL_len, if_neg (by omega)]
  refine ⟨hlen, ?_⟩
  unfold wgtL
  rw [if_neg (by omega)]
  generalize hq : sumK r r.length = s at *
  have dl : (downL s r).length = r.length := by simp [downL]
  have tl : (restL s r).length = r.length := by simp [restL]
  have er : ∀ i, i < r.length → (restL s r).getD i 0 = 1000 * r.getD i 0 % s := fun i hi => getD_map _ r i hi
  have ed : ∀ i, i < r.length → (downL s r).getD i 0 = 1000 * r.getD i 0 / s := fun i hi => getD_map _ r i hi
  have hpos : 0 < r.length := by
    rcases Nat.eq_zero_or_pos r.length with h0 | h0
    · rw [h0] at hq; simp [sumK] at hq; omega
    · exact h0
  have hfew := rest_few s hs (restL s r) (fun x hx => by
    obtain ⟨y, _, rfl⟩ := List.mem_map.1 hx
    have := Int.emod_nonneg (1000 * y) (show s ≠ 0 by omega)
    have := Int.emod_lt_of_pos (1000 * y) hs
    omega)
  rw [← sumK_fold, tl] at hfew
  have hn : (1000 - sumK (downL s r) r.length).toNat ≤ posN (restL s r) := by
    generalize sumK (restL s r) r.length = R at *
    generalize sumK (downL s r) r.length = D at *
    have e : s * (1000 - D) = R := by rw [Int.mul_sub]; omega
    rcases (show 1000 - D ≤ (posN (restL s r) : Int) ∨ (posN (restL s r) : Int) + 1 ≤ 1000 - D by omega) with c | c
    · omega
    · have := Int.mul_le_mul_of_nonneg_left c (Int.le_of_lt hs)
      rw [Int.mul_add] at this
      rw [Int.sub_mul] at hfew
      omega
  refine ⟨?_, ?_, ?_⟩
  · have := giveL_sum (1000 - sumK (downL s r) r.length).toNat (downL s r) (restL s r) (by rw [dl, tl]) (by rw [tl]; exact hpos)
    rw [dl] at this
    rw [this]
    omega
  · refine giveL_nn _ _ _ (fun i => ?_)
    by_cases c : i < r.length
    · rw [ed i c]
      exact Int.ediv_nonneg (by have := h i c; omega) (by omega)
    · rw [List.getD, List.getElem?_eq_none (by rw [dl]; omega)]
      exact Int.le_refl _
  · intro i hi h0
    rw [giveL_none _ _ _ (by rw [dl, tl]) hn i (by rw [er i hi, h0]; simp), ed i hi, h0]
    simp
theorem mean_low (L P : Nat → Int) (lo : Int) : ∀ n, (∀ i, i < n → 0 ≤ L i ∧ (L i = 0 ∨ lo ≤ P i)) → lo * sumF L n ≤ sumF (fun i => L i * P i) n := by
  intro n
  induction n with
  | zero => intro _; simp [sumF]
  | succ n ih =>
    intro h
    have h1 := ih (fun i hi => h i (by omega))
    obtain ⟨h2, h3⟩ := h n (by omega)
    unfold sumF
    rw [Int.mul_add]
    rcases h3 with h3 | h3
    · rw [h3]; simp; omega
    · have := Int.mul_le_mul_of_nonneg_left h3 h2
      rw [Int.mul_comm (L n) lo] at this
      try dsimp only
      omega
theorem mean_high (L P : Nat → Int) (hi : Int) : ∀ n, (∀ i, i < n → 0 ≤ L i ∧ (L i = 0 ∨ P i ≤ hi)) → sumF (fun i => L i * P i) n ≤ hi * sumF L n := by
  intro n
  induction n with
  | zero => intro _; simp [sumF]
  | succ n ih =>
    intro h
    have h1 := ih (fun i hi => h i (by omega))
    obtain ⟨h2, h3⟩ := h n (by omega)
    unfold sumF
    rw [Int.mul_add]
    rcases h3 with h3 | h3
    · rw [h3]; simp; omega
    · have := Int.mul_le_mul_of_nonneg_left h3 h2
      rw [Int.mul_comm (L n) hi] at this
      try dsimp only
      omega
/-- The least and the greatest power of what has a weight. -/
def lowW (R P : Nat → Int) : Nat → Int
  | 0 => 1000
  | j + 1 => if 0 < R j then (if P j < lowW R P j then P j else lowW R P j) else lowW R P j
def highW (R P : Nat → Int) : Nat → Int
  | 0 => 0
  | j + 1 => if 0 < R j then (if highW R P j < P j then P j else highW R P j) else highW R P j
theorem lowW_le (R P : Nat → Int) : ∀ n i, i < n → 0 < R i → lowW R P n ≤ P i := by
  intro n
  induction n with
  | zero => intro i h; omega
  | succ n ih =>
    intro i h hr
    unfold lowW
    by_cases c : i = n
    · subst c
      rw [if_pos hr]
      split <;> omega
    · have := ih i (by omega) hr
      split
      · split <;> omega
      · exact this
theorem highW_le (R P : Nat → Int) : ∀ n i, i < n → 0 < R i → P i ≤ highW R P n := by
  intro n
  induction n with
  | zero => intro i h; omega
  | succ n ih =>
    intro i h hr
    unfold highW
    by_cases c : i = n
    · subst c
      rw [if_pos hr]
      split <;> omega
    · have := ih i (by omega) hr
      split
      · split <;> omega
      · exact this
theorem bright_between (r : List Int) (P : Nat → Int) (h : ∀ i, i < r.length → 0 ≤ r.getD i 0) (hs : 0 < sumK r r.length) :
    lowW (fun i => r.getD i 0) P r.length ≤ sumF (fun i => (wgtL r).getD i 0 * P i) r.length / 1000 ∧ sumF (fun i => (wgtL r).getD i 0 * P i) r.length / 1000 ≤ highW (fun i => r.getD i 0) P r.length := by
  obtain ⟨_, f1, f2, f3⟩ := wgt_facts r h hs
  have e : sumF (fun i => (wgtL r).getD i 0) r.length = 1000 := by rw [sumF_K]; exact f1
  have hl := mean_low (fun i => (wgtL r).getD i 0) P (lowW (fun i => r.getD i 0) P r.length) r.length (fun i hi => ⟨f2 i, by
    rcases (show r.getD i 0 = 0 ∨ 0 < r.getD i 0 by have := h i hi; omega) with c | c
    · exact Or.inl (f3 i hi c)
    · exact Or.inr (lowW_le _ _ _ i hi c)⟩)
  have hh := mean_high (fun i => (wgtL r).getD i 0) P (highW (fun i => r.getD i 0) P r.length) r.length (fun i hi => ⟨f2 i, by
    rcases (show r.getD i 0 = 0 ∨ 0 < r.getD i 0 by have := h i hi; omega) with c | c
    · exact Or.inl (f3 i hi c)
    · exact Or.inr (highW_le _ _ _ i hi c)⟩)
  rw [e] at hl hh
  try dsimp only at hl hh
  constructor <;> omega
theorem fin_FnWm : True := trivial
end

section
open Go.RowKit
set_option linter.unusedVariables false

set_option maxRecDepth 100000 in
set_option maxHeartbeats 2000000 in
theorem b10Sum_any (B g cap : Nat) (L : List Int) (w : World) (hn : L.length ≤ 1000) (hL : ∀ i, 0 ≤ L.getD i 0 ∧ L.getD i 0 ≤ 1000000) (hr : IOwn w B (.slice (some ⟨g, 0, none⟩) L.length cap) L) :
    Calls Tryz.prog 23 #[.slice (some ⟨g, 0, none⟩) L.length cap] w fun e w' => e = .returned (.int .i64 (sumK L L.length)) ∧ Below w.heap.size w w' := by
  have SB := Lib.hid (fun j => sumF_bd (fun i => L.getD i 0) 1000000 j (fun i _ => hL i) j (Nat.le_refl _))
  have HL := Lib.hid hL
  have HR := Lib.hid hr
  have SK := Lib.hid (sumF_K L)
  clear hr hL
  go_enter Tryz.func23, Tryz.ntmps23
  go_wp2_with fail
  go_loopg [3, 4] (L.length + 1) (fun kx s3 s4 wr => ∃ j : Nat, s3 = .int .i64 (sumK L j) ∧ s4 = .int .i64 (j : Int) ∧ j ≤ L.length ∧ kx = L.length + 1 - j ∧ w = wr)
  case atStart => exact ⟨0, rfl, rfl, Nat.zero_le _, rfl, rfl⟩
  case round =>
    obtain ⟨j, rfl, rfl, hj, rfl, rfl⟩ := hrel
    by_cases hlt : j < L.length
    · have j0 : (0 : Int) ≤ (j : Int) := by omega
      have j1 : (j : Int) < (L.length : Int) := by omega
      have c0 := HR.out.at' rfl j hlt
      obtain ⟨y0, y1⟩ := HL.out j
      obtain ⟨z0, z1⟩ := SB.out j
      rw [SK.out] at z0 z1
      have hN : Hid (sumK L j + L.getD j 0 = sumK L (j + 1)) := Lib.hid rfl
      generalize L.getD j 0 = y at *
      generalize sumK L j = z at *
      go_wp2_with fail
      go_roundg (L.length + 1 - (j + 1))
      case measure => omega
      case rel => exact ⟨j + 1, by rw [← hN.out], by go_num, by omega, rfl, rfl⟩
    · obtain rfl : j = L.length := by omega
      go_wp2_with fail
      go_ret
      exact ⟨rfl, Below.refl _ _⟩
theorem fin_FnWs : True := trivial
end

section
open Go.RowKit
set_option linter.unusedVariables false

theorem owned_len {w : World} {B : Nat} {e : TypeId} {v : Value} {n : Nat} {xs : List Value} (h : w.ownsRow B e 1 v n xs) : ∃ a c, v = .slice a n c := by
  rcases h.2 with ⟨rfl, rfl⟩ | ⟨g, cap, cur, rfl, _⟩
  · exact ⟨_, _, rfl⟩
  · exact ⟨_, _, rfl⟩
theorem wgtR_snd (zs : List StarV) (u v : Int) : (wgtR zs u v).2 = litC zs u v := by
  rw [wgtR_lit]
  split
  · rename_i h; exact h.symm
  · rfl
theorem brightV_snd (zs : List StarV) (u v : Int) : (brightV zs u v).2 = litC zs u v := by
  rw [brightV_lit]
  split
  · rename_i h; exact h.symm
  · rfl

set_option maxRecDepth 100000 in
set_option maxHeartbeats 8000000 in
theorem weights_walk (w : World) (v0 : Value) (a0 : List Int) (w0 : BytesIn w v0 a0) (henv : SinesOK w) :
    Calls Tryz.prog 6 #[v0] w fun e w' => e = .returned (.bool true) ∧ Below w.heap.size w w' := by
  have E := Lib.hid henv
  have I0 := Lib.hid w0
  obtain ⟨sa, sc, rfl⟩ := w0.len
  clear w0 henv
  by_cases hb0 : 1048576 < a0.length
  · skip
    go_enter Tryz.func6, Tryz.ntmps6
    go_wp2_with fail
    refine (b10Long_yes _ _ _ _ hb0).mono ?_
    rintro e w' ⟨rfl, rfl⟩
    go_wp2_with fail
    go_ret
    exact ⟨rfl, Below.refl _ _⟩
  have hn0 : a0.length ≤ 1048576 := by omega
  clear hb0
  have D := Lib.hid (drawW_any I0.out hn0)
  go_enter Tryz.func6, Tryz.ntmps6
  go_wp2_with fail
  refine (b10Long_no _ _ _ _ hn0).mono ?_
  rintro e w' ⟨rfl, rfl⟩
  go_wp2_with fail
  refine D.out.mono ?_
  rintro e w1 ⟨lg, lc, ys, u, v, rfl, hrow, hl7, hsm, hu, hv, hb1⟩
  have R1 := Lib.hid hrow
  have HB1 := Lib.hid hb1
  have OKS : Hid (∀ j, (h : j < ys.length) → ys[j].ok) := Lib.hid (fun j h => (hsm _ (List.getElem_mem h)).ok)
  have hl7' : ys.length ≤ 1048577 := by omega
  clear hrow hsm hb1 D
  go_wp2_with fail
  refine (implWeights_any lg lc ys u v w1 hl7' R1.out OKS.out (E.out.below HB1.out)).mono ?_
  rintro e w2 ⟨s, rfl, hown, hb2⟩
  have HB2 := Lib.hid (HB1.out.trans (hb2.mono HB1.out.size))
  have R2 := Lib.hid (R1.out.below hb2)
  have OW2 := Lib.hid hown
  clear hown hb2 R1
  obtain ⟨sg, scp, rfl⟩ := owned_len OW2.out
  rw [wgtR_snd] at *
  go_wp2_with fail
  refine (implBright_any lg lc ys u v w2 hl7' R2.out OKS.out (E.out.below HB2.out)).mono ?_
  rintro e w3 ⟨rfl, hb3⟩
  have HB3 := Lib.hid (HB2.out.trans (hb3.mono HB2.out.size))
  have R3 := Lib.hid (R2.out.below hb3)
  have OW3 : Hid (IOwn w3 w1.heap.size (.slice sg (wgtR ys u v).1.length scp) (wgtR ys u v).1) := Lib.hid (IOwn.below OW2.out hb3)
  clear hb3 R2 OW2
  rw [brightV_snd]
  by_cases hlit : litC ys u v = 0
  · obtain ⟨hok, hspot, hne⟩ := lit_0 hlit
    have hR : (wgtR ys u v).1 = wgtL (rawsL ys u v) := by rw [wgtR_lit, if_pos hlit]
    have hB : (brightV ys u v).1 = sumF (fun i => (wgtL (rawsL ys u v)).getD i 0 * (ys.map (·.d)).getD i 0) ys.length / 1000 := by rw [brightV_lit, if_pos hlit]
    have hgood := (okL_good hok).1
    have hrl : (rawsL ys u v).length = ys.length := rawsL_len ys u v
    have hrb := rawsL_bd hgood u v
    have hrg : ∀ i, i < (rawsL ys u v).length → 0 ≤ (rawsL ys u v).getD i 0 := fun i hi => by
      rw [List.getD, List.getElem?_eq_getElem hi]
      exact (hrb _ (List.getElem_mem hi)).1
    have hsp : 0 < sumK (rawsL ys u v) (rawsL ys u v).length := by
      have := sumK_nn (rawsL ys u v) hrg _ (Nat.le_refl _)
      rw [hrl] at *
      omega
    obtain ⟨f0, f1, f2, f3⟩ := wgt_facts _ hrg hsp
    have hbt := bright_between (rawsL ys u v) (fun i => (ys.map (·.d)).getD i 0) hrg hsp
    rw [hrl] at f0 f1 f3 hbt
    rw [← hB] at hbt
    have LS : Hid (∀ i, 0 ≤ (wgtL (rawsL ys u v)).getD i 0 ∧ (wgtL (rawsL ys u v)).getD i 0 ≤ 1000000) := Lib.hid (fun i => ⟨f2 i, by
      by_cases c : i < ys.length
      · have := sumK_ge (wgtL (rawsL ys u v)) (fun j _ => f2 j) i (by rw [f0]; exact c)
        rw [f0, f1] at this
        omega
      · rw [List.getD, List.getElem?_eq_none (by rw [f0]; omega)]
        show (0 : Int) ≤ 1000000
        omega⟩)
    have RW : Hid (∀ (j : Nat) (hj : j < ys.length) (W : World), Below w.heap.size w W → Calls Tryz.prog 24 #[.agg #[.string ys[j].s, .int .i64 ys[j].a, .int .i64 ys[j].b, .int .i64 ys[j].c, .int .i64 ys[j].d], .int .i64 u, .int .i64 v] W fun e W' => e = .returned (.tuple #[.int .i64 ((rawsL ys u v).getD j 0), .int .i64 0]) ∧ Below W.heap.size W W') := Lib.hid (fun j hj W hW => by
      have h := implRaw_any ys[j].s ys[j].a ys[j].b ys[j].c ys[j].d u v (OKS.out j hj).1 W (E.out.below hW)
      have e : rawV10 ys[j].s ys[j].a ys[j].b ys[j].c ys[j].d u v = .tuple #[.int .i64 ((rawsL ys u v).getD j 0), .int .i64 0] := by
        unfold rawV10
        rw [if_pos (show starB ys[j].s ys[j].a ys[j].b ys[j].c ys[j].d = true from hgood j hj), if_pos hspot, List.getD, rawsL_at ys u v j hj]
        rfl
      rw [e] at h
      exact h)
    have RB : Hid (∀ j, j < ys.length → 0 ≤ (rawsL ys u v).getD j 0 ∧ (rawsL ys u v).getD j 0 ≤ 1001) := Lib.hid (fun j hj => by
      rw [List.getD, List.getElem?_eq_getElem (by rw [hrl]; exact hj)]
      exact hrb _ (List.getElem_mem _))
    have PD : Hid (∀ j, (hj : j < ys.length) → (ys.map (·.d)).getD j 0 = ys[j].d ∧ 1 ≤ ys[j].d ∧ ys[j].d ≤ 1000) := Lib.hid (fun j hj => ⟨by rw [List.getD, List.getElem?_map, List.getElem?_eq_getElem hj]; rfl, (starB_bd (hgood j hj)).2.2.2⟩)
    have F3 := Lib.hid f3
    have hpos : 0 < ys.length := by
      rcases Nat.eq_zero_or_pos ys.length with h0 | h0
      · rw [hrl, h0] at hsp
        simp [sumK] at hsp
      · exact h0
    rw [hR, f0, hlit]
    rw [hR] at OW3
    have F0 := Lib.hid f0
    have F1 := Lib.hid f1
    have BT := Lib.hid hbt
    clear hR hB hgood hrl hrb hrg hsp f0 f1 f2 f3 hbt hok hspot hne hlit
    generalize wgtL (rawsL ys u v) = L at *
    generalize rawsL ys u v = r at *
    generalize (brightV ys u v).1 = br at *
    obtain ⟨g2, c2, hsl, _, _⟩ := OW3.out.form (by rw [F0.out]; exact hpos)
    rw [F0.out] at hsl
    obtain ⟨rfl, rfl⟩ : sg = some ⟨g2, 0, none⟩ ∧ scp = c2 := by
      have h := OW3.out
      rw [F0.out] at h
      injection hsl with h1 h2 h3
      exact ⟨h1, h3⟩
    have SUM := Lib.hid (b10Sum_any w1.heap.size g2 scp L w3 (by rw [F0.out]; omega) LS.out OW3.out)
    rw [F0.out, F1.out] at SUM
    go_wp2_with fail
    refine SUM.out.mono ?_
    rintro e w4 ⟨rfl, hb4⟩
    have HB4 := Lib.hid (HB3.out.trans (hb4.mono HB3.out.size))
    have R4 := Lib.hid (R3.out.below hb4)
    have OW4 := Lib.hid (OW3.out.below hb4)
    clear hb4 R3 OW3 SUM
    go_wp2_with fail
    clear F1
    have OW5 : Hid (IOwn w4 w1.heap.size (.slice (some ⟨g2, 0, none⟩) ys.length scp) L) := Lib.hid (by have h := OW4.out; rw [F0.out] at h; exact h)
    go_loopg [10, 11, 12] (ys.length + 1) (fun kx s10 s11 s12 wr => ∃ j : Nat, s10 = .int .i64 (lowW (fun i => r.getD i 0) (fun i => (ys.map (·.d)).getD i 0) j) ∧ s11 = .int .i64 (highW (fun i => r.getD i 0) (fun i => (ys.map (·.d)).getD i 0) j) ∧ s12 = .int .i64 (j : Int) ∧ j ≤ ys.length ∧ kx = ys.length + 1 - j ∧ Hid (Below w.heap.size w wr) ∧ Hid (Row wr lg ys) ∧ Hid (IOwn wr w1.heap.size (.slice (some ⟨g2, 0, none⟩) ys.length scp) L))
    case atStart => exact ⟨0, rfl, rfl, rfl, Nat.zero_le _, rfl, HB4, R4, OW5⟩
    case round =>
      clear HB4 R4 OW4 OW5
      obtain ⟨j, rfl, rfl, rfl, hj, rfl, HB, HR, HO⟩ := hrel
      by_cases hlt : j < ys.length
      · have j0 : (0 : Int) ≤ (j : Int) := by omega
        have j1 : (j : Int) < (ys.length : Int) := by omega
        obtain ⟨d0, d1, d2, d3, d4⟩ := HR.out.at j hlt
        have RWj := Lib.hid (RW.out j hlt)
        obtain ⟨pd, pd0, pd1⟩ := PD.out j hlt
        obtain ⟨x0, x1⟩ := RB.out j hlt
        have F3j := Lib.hid (F3.out j hlt)
        have y0 := (LS.out j).1
        have LW : Hid (lowW (fun i => r.getD i 0) (fun i => (ys.map (·.d)).getD i 0) (j + 1) = if 0 < r.getD j 0 then (if (ys.map (·.d)).getD j 0 < lowW (fun i => r.getD i 0) (fun i => (ys.map (·.d)).getD i 0) j then (ys.map (·.d)).getD j 0 else lowW (fun i => r.getD i 0) (fun i => (ys.map (·.d)).getD i 0) j) else lowW (fun i => r.getD i 0) (fun i => (ys.map (·.d)).getD i 0) j) := Lib.hid rfl
        have HW : Hid (highW (fun i => r.getD i 0) (fun i => (ys.map (·.d)).getD i 0) (j + 1) = if 0 < r.getD j 0 then (if highW (fun i => r.getD i 0) (fun i => (ys.map (·.d)).getD i 0) j < (ys.map (·.d)).getD j 0 then (ys.map (·.d)).getD j 0 else highW (fun i => r.getD i 0) (fun i => (ys.map (·.d)).getD i 0) j) else highW (fun i => r.getD i 0) (fun i => (ys.map (·.d)).getD i 0) j) := Lib.hid rfl
        rw [pd] at LW HW
        have D4 : Hid (∀ W, Below wr.heap.size wr W → W.cell? ⟨lg, j * 5 + 4, none⟩ = some (.int .i64 ys[j].d)) := Lib.hid (fun W hW => ((HR.out.below hW).at j hlt).c4)
        have C0 : Hid (∀ W, Below wr.heap.size wr W → W.cell? ⟨g2, j, none⟩ = some (.int .i64 (L.getD j 0))) := Lib.hid (fun W hW => (HO.out.below hW).at' F0.out j hlt)
        clear pd
        generalize lowW (fun i => r.getD i 0) (fun i => (ys.map (·.d)).getD i 0) j = lw at *
        generalize highW (fun i => r.getD i 0) (fun i => (ys.map (·.d)).getD i 0) j = hw at *
        generalize r.getD j 0 = x at *
        generalize L.getD j 0 = y at *
        generalize ys[j].s = q0 at *
        generalize ys[j].a = q1 at *
        generalize ys[j].b = q2 at *
        generalize ys[j].c = q3 at *
        generalize ys[j].d = q4 at *
        go_wp2_with fail
        refine (RWj.out wr HB.out).mono ?_
        rintro e w5 ⟨rfl, hb5⟩
        have HB5 := Lib.hid (HB.out.trans (hb5.mono HB.out.size))
        have HR5 := Lib.hid (HR.out.below hb5)
        have HO5 := Lib.hid (HO.out.below hb5)
        have e4 := D4.out w5 hb5
        have e0 := C0.out w5 hb5
        clear hb5 HB HR HO d0 d1 d2 d3 d4 D4 C0 RWj
        by_cases hx : x = 0
        · have hy : y = 0 := F3j.out hx
          subst hx hy
          go_wp2_with fail
          go_roundg (ys.length + 1 - (j + 1))
          case measure => omega
          case rel => exact ⟨j + 1, by rw [LW.out, if_neg (by omega)], by rw [HW.out, if_neg (by omega)], by go_num, by omega, rfl, HB5, HR5, HO5⟩
        · have hx1 : 0 < x := by omega
          go_wp2_with fail
          go_roundg (ys.length + 1 - (j + 1))
          case measure => omega
          case rel =>
            have e1 : min lw q4 = if q4 < lw then q4 else lw := by rw [Int.min_def]; split <;> split <;> omega
            have e2 : max hw q4 = if hw < q4 then q4 else hw := by rw [Int.max_def]; split <;> split <;> omega
            exact ⟨j + 1, by rw [LW.out, if_pos hx1, e1], by rw [HW.out, if_pos hx1, e2], by go_num, by omega, rfl, HB5, HR5, HO5⟩
      · have h4 : j = ys.length := by omega
        subst h4
        obtain ⟨b0, b1⟩ := BT.out
        generalize lowW (fun i => r.getD i 0) (fun i => (ys.map (·.d)).getD i 0) ys.length = lo at *
        generalize highW (fun i => r.getD i 0) (fun i => (ys.map (·.d)).getD i 0) ys.length = hi at *
        go_wp2_with fail
        go_ret
        exact ⟨rfl, HB.out⟩
  · have hR : (wgtR ys u v).1 = [] := by rw [wgtR_lit, if_neg hlit]
    rw [hR]
    generalize litC ys u v = c at *
    generalize (brightV ys u v).1 = br at *
    go_wp2_with fail
    go_ret
    exact ⟨rfl, HB3.out⟩
theorem fin_FnWl : True := trivial
end
end Go.Proofs.YtlklcpnnaolbeaaGreatDoor
