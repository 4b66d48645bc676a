/-
  Angles read from texts: the contracts of ReadAngle (packages impl and spec).
-/
import Derived.Test.YtjghopepgfgebaaDoorAngT
import Derived.Test.YtjghopepgfgebaaDoorRead
import Derived.Test.YtjghopepgfgebaaDoorSplit
import Derived.Test.YtjghopepgfgebaaDoorShelfCut
namespace Go.Proofs.YtjghopepgfgebaaDoor
open Go.RowKit
set_option linter.unusedVariables false

theorem fold_from : ∀ (l : List UInt8) (n : Nat), l.foldl (fun n c => 10 * n + (c.toNat - 48)) n = n * 10 ^ l.length + valN l
  | [], n => by simp [valN]
  | c :: r, n => by
    have e : valN (c :: r) = (c.toNat - 48) * 10 ^ r.length + valN r := by
      show List.foldl _ (10 * 0 + (c.toNat - 48)) r = _
      rw [fold_from r, Nat.mul_zero, Nat.zero_add]
    rw [List.foldl_cons, fold_from r, e, List.length_cons, Nat.pow_succ, Nat.add_mul, Nat.mul_comm 10 n, Nat.mul_assoc n 10, Nat.mul_comm 10 (10 ^ r.length)]
    omega
theorem valN_app (a b : List UInt8) : valN (a ++ b) = valN a * 10 ^ b.length + valN b := by
  show List.foldl _ 0 (a ++ b) = _
  rw [List.foldl_append, fold_from b]
  rfl
theorem valN_zeros (k : Nat) : valN (List.replicate k 48) = 0 := by
  induction k with
  | zero => rfl
  | succ k ih => rw [List.replicate_succ', valN_snoc, ih]; rfl
theorem dd_len3 (u : Nat) (h : u < 1000) : 1 ≤ (Lib.decDigits u).length ∧ (Lib.decDigits u).length ≤ 3 := by
  by_cases c1 : u < 10
  · rw [dd_small u c1]; simp
  · rw [dd_big u c1, List.length_append, List.length_singleton]
    by_cases c2 : u / 10 < 10
    · rw [dd_small _ c2]; simp
    · rw [dd_big _ c2, List.length_append, List.length_singleton, dd_small _ (by omega)]; simp
theorem dd_dig (u : Nat) : (Lib.decDigits u).all digB = true := (dd_facts (u + 1) u (by omega)).2.1
theorem dec3_facts (n : Int) (h0 : 0 ≤ n) (h1 : n < 1000) : (dec3 n).length = 3 ∧ (dec3 n).all digB = true ∧ (valN (dec3 n) : Int) = n := by
  obtain ⟨u, rfl⟩ : ∃ u : Nat, n = (u : Int) := ⟨n.toNat, by omega⟩
  unfold dec3
  rw [Lib.itoa_nonneg]
  have hl := dd_len3 u (by omega)
  refine ⟨?_, ?_, ?_⟩
  · rw [List.length_append, List.length_replicate]; omega
  · rw [List.all_append, dd_dig, Bool.and_true, List.all_replicate]
    simp [digB]
  · rw [valN_app, valN_zeros, dd_val]; simp
/-- The degrees as text. -/
def degL (a : Int) : List UInt8 := Lib.itoa (absI a / 1000)
theorem degL_facts (a : Int) (h0 : -359999 ≤ a) (h1 : a ≤ 359999) : 1 ≤ (degL a).length ∧ (degL a).length ≤ 3 ∧ (degL a).all digB = true ∧ (valN (degL a) : Int) = absI a / 1000 := by
  unfold degL
  have hb : 0 ≤ absI a ∧ absI a ≤ 359999 := by unfold absI; split <;> omega
  obtain ⟨u, hu⟩ : ∃ u : Nat, absI a / 1000 = (u : Int) := ⟨(absI a / 1000).toNat, by omega⟩
  rw [hu, Lib.itoa_nonneg]
  have hl := dd_len3 u (by omega)
  exact ⟨hl.1, hl.2, dd_dig u, by rw [dd_val]⟩
theorem ang_body (a : Int) (h0 : -359999 ≤ a) (h1 : a ≤ 359999) : bodyN (angL a) = degL a ++ [46] ++ dec3 (absI a % 1000) ∧ ((angL a).head? = some 45 ↔ a < 0) := by
  have hd := degL_facts a h0 h1
  have hne : (degL a).head? ≠ some 45 := by
    intro e
    obtain ⟨c, r, hr⟩ := List.exists_cons_of_length_pos (show 0 < (degL a).length by omega)
    have hc := hd.2.2.1
    rw [hr] at e hc
    obtain rfl : c = 45 := Option.some.inj e
    rw [List.all_cons, Bool.and_eq_true] at hc
    exact absurd hc.1 (by decide)
  have hne2 : (degL a ++ [46] ++ dec3 (absI a % 1000)).head? ≠ some 45 := by
    obtain ⟨c, r, hr⟩ := List.exists_cons_of_length_pos (show 0 < (degL a).length by omega)
    rw [hr] at hne ⊢
    exact hne
  unfold angL
  by_cases hn : a < 0
  · rw [if_pos hn]
    have e : [45] ++ Lib.itoa (absI a / 1000) ++ [46] ++ dec3 (absI a % 1000) = 45 :: (degL a ++ [46] ++ dec3 (absI a % 1000)) := by
      unfold degL; simp
    rw [e]
    exact ⟨rfl, fun _ => hn, fun _ => rfl⟩
  · rw [if_neg hn]
    have e : [] ++ Lib.itoa (absI a / 1000) ++ [46] ++ dec3 (absI a % 1000) = degL a ++ [46] ++ dec3 (absI a % 1000) := by
      unfold degL; simp
    rw [e]
    unfold bodyN
    rw [if_neg hne2]
    exact ⟨rfl, fun h => absurd h hne2, fun h => absurd h hn⟩
/-- The angle that bytes spell, if they spell one. -/
def candA (l : List UInt8) : Int := if l.head? = some 45 then -(valN ((bodyN l).filter (· ≠ 46)) : Int) else (valN ((bodyN l).filter (· ≠ 46)) : Int)
def okA (l : List UInt8) : Bool := inR (-359999) 359999 [candA l] && decide (angL (candA l) = l)
theorem filt_dig : ∀ (l : List UInt8), l.all digB = true → l.filter (· ≠ 46) = l
  | [], _ => rfl
  | c :: r, h => by
    rw [List.all_cons, Bool.and_eq_true] at h
    have hc : c ≠ 46 := by rintro rfl; exact absurd h.1 (by decide)
    rw [List.filter_cons, if_pos (by simpa using hc), filt_dig r h.2]
theorem cand_ang (a : Int) (h0 : -359999 ≤ a) (h1 : a ≤ 359999) : candA (angL a) = a := by
  obtain ⟨hb, hs⟩ := ang_body a h0 h1
  have hd := degL_facts a h0 h1
  have hab : 0 ≤ absI a ∧ absI a ≤ 359999 ∧ (a < 0 → absI a = -a) ∧ (¬ a < 0 → absI a = a) := by unfold absI; split <;> omega
  have h3 := dec3_facts (absI a % 1000) (by omega) (by omega)
  have hv : (valN ((bodyN (angL a)).filter (· ≠ 46)) : Int) = absI a := by
    rw [hb, List.filter_append, List.filter_append, filt_dig _ hd.2.2.1, filt_dig _ h3.2.1]
    rw [show ([46] : List UInt8).filter (· ≠ 46) = [] from rfl, List.append_nil, valN_app, h3.1]
    have e1 := hd.2.2.2
    have e2 := h3.2.2
    omega
  unfold candA
  rw [hv]
  by_cases hn : a < 0
  · rw [if_pos (hs.2 hn)]; omega
  · rw [if_neg (fun e => hn (hs.1 e))]; omega
theorem okA_of (a : Int) (l : List UInt8) (h0 : -359999 ≤ a) (h1 : a ≤ 359999) (h : angL a = l) : okA l = true ∧ candA l = a := by
  have hc : candA l = a := by rw [← h]; exact cand_ang a h0 h1
  refine ⟨?_, hc⟩
  unfold okA
  rw [hc, h]
  simp [inR_1]
  omega
theorem parse_dig (l : List UInt8) (h0 : (bodyN l).length ≠ 0) (h1 : (bodyN l).length ≤ 18) (h2 : (bodyN l).all digB = true) : Lib.parseIntB 64 l = .ok (if l.head? = some 45 then -(valN (bodyN l) : Int) else (valN (bodyN l) : Int)) := by
  have hne : bodyN l ≠ [] := fun e => h0 (by rw [e]; rfl)
  have hrun : Lib.parseUintM (2 ^ 64 - 1) 0 (bodyN l) = .ok (valN (bodyN l)) := parse_run (bodyN l) 0 0 h2 (by omega) (by decide)
  have hval := valN_lt 18 (bodyN l) h1 h2
  have hu : Lib.parseUintB 64 (bodyN l) = .ok (valN (bodyN l)) := by unfold Lib.parseUintB; rw [if_neg hne]; exact hrun
  cases l with
  | nil => exact absurd rfl h0
  | cons c r =>
    by_cases hs : c = 45
    · subst hs
      have hb : bodyN (45 :: r) = r := rfl
      rw [hb] at hu hval ⊢
      rw [if_pos (show (45 :: r).head? = some 45 from rfl)]
      have e45 : (45 : UInt8).toNat = 45 := rfl
      simp only [Lib.parseIntB, e45, or_true, if_true, hu]
      rw [if_neg (by simp), if_neg (by omega)]
    · have hb : bodyN (c :: r) = c :: r := by unfold bodyN; rw [if_neg (by simpa using hs)]
      rw [hb] at hu hval h2 ⊢
      rw [if_neg (by simpa using hs)]
      have hc := (digB_iff c).1 (by rw [List.all_cons, Bool.and_eq_true] at h2; exact h2.1)
      simp only [Lib.parseIntB]
      rw [if_neg (by omega), hu]
      simp only
      rw [if_neg (by omega), if_neg (by omega), if_neg (by omega)]
theorem index_dot : ∀ (x y : List UInt8), (∀ c ∈ x, c ≠ 46) → Lib.index (x ++ 46 :: y) [46] = x.length
  | [], y, _ => by simp [Lib.index, List.isPrefixOf]
  | c :: r, y, h => by
    have hc : c ≠ 46 := h c (by simp)
    have ih := index_dot r y (fun d hd => h d (by simp [hd]))
    show Lib.index (c :: (r ++ 46 :: y)) [46] = _
    have hp : ([46] : List UInt8).isPrefixOf (c :: (r ++ 46 :: y)) = false := by simp [List.isPrefixOf]; exact fun e => hc e.symm
    rw [Lib.index, hp, ih]
    have hb : ((r.length : Int) == -1) = false := beq_eq_false_iff_ne.2 (by omega)
    simp only [Bool.false_eq_true, if_false, hb]
    rw [List.length_cons]; rfl
theorem cut_dot (x y : List UInt8) (h : ∀ c ∈ x, c ≠ 46) : Lib.cut (x ++ 46 :: y) [46] = (x, y, true) := by
  unfold Lib.cut
  rw [index_dot x y h, if_pos (by omega)]
  have e1 : ((x.length : Int)).toNat = x.length := by omega
  rw [e1]
  simp
theorem cut_size (l : List UInt8) : (Lib.cut l [46]).1.length + (Lib.cut l [46]).2.1.length ≤ l.length := by
  unfold Lib.cut
  split
  · show (l.take _).length + (l.drop _).length ≤ l.length
    rw [List.length_take, List.length_drop]
    simp only [List.length_singleton]
    omega
  · show l.length + ([] : List UInt8).length ≤ l.length
    simp
theorem dig_ne (l : List UInt8) (h : l.all digB = true) : ∀ c ∈ l, c ≠ 46 := by
  rintro c hc rfl
  have := List.all_eq_true.1 h 46 hc
  exact absurd this (by decide)
theorem cut_ang (a : Int) (h0 : -359999 ≤ a) (h1 : a ≤ 359999) : Lib.parseIntB 64 ((Lib.cut (angL a) [46]).1 ++ (Lib.cut (angL a) [46]).2.1) = .ok a := by
  have hd := degL_facts a h0 h1
  have hab : 0 ≤ absI a ∧ absI a ≤ 359999 ∧ (a < 0 → absI a = -a) ∧ (¬ a < 0 → absI a = a) := by unfold absI; split <;> omega
  have h3 := dec3_facts (absI a % 1000) (by omega) (by omega)
  have hdd : (degL a ++ dec3 (absI a % 1000)).all digB = true := by rw [List.all_append, hd.2.2.1, h3.2.1]; rfl
  have hv : (valN (degL a ++ dec3 (absI a % 1000)) : Int) = absI a := by
    rw [valN_app, h3.1]
    have e1 := hd.2.2.2
    have e2 := h3.2.2
    omega
  have hlen : (degL a ++ dec3 (absI a % 1000)).length ≤ 6 ∧ (degL a ++ dec3 (absI a % 1000)).length ≠ 0 := by rw [List.length_append]; omega
  have hnd : (degL a ++ dec3 (absI a % 1000)).head? ≠ some 45 := by
    intro e
    obtain ⟨c, r, hr⟩ := List.exists_cons_of_length_pos (show 0 < (degL a ++ dec3 (absI a % 1000)).length by omega)
    rw [hr] at e hdd
    obtain rfl : c = 45 := Option.some.inj e
    rw [List.all_cons, Bool.and_eq_true] at hdd
    exact absurd hdd.1 (by decide)
  by_cases hn : a < 0
  · have e : angL a = (45 :: degL a) ++ 46 :: dec3 (absI a % 1000) := by unfold angL degL; rw [if_pos hn]; simp
    rw [e, cut_dot _ _ (fun c hc => (List.mem_cons.1 hc).elim (fun e => by rw [e]; decide) (fun hc => dig_ne _ hd.2.2.1 c hc))]
    show Lib.parseIntB 64 (45 :: (degL a ++ dec3 (absI a % 1000))) = _
    have hb : bodyN (45 :: (degL a ++ dec3 (absI a % 1000))) = degL a ++ dec3 (absI a % 1000) := rfl
    rw [parse_dig _ (by rw [hb]; omega) (by rw [hb]; omega) (by rw [hb]; exact hdd), if_pos (show (45 :: (degL a ++ dec3 (absI a % 1000))).head? = some 45 from rfl), hb, hv]
    congr 1; omega
  · have e : angL a = degL a ++ 46 :: dec3 (absI a % 1000) := by unfold angL degL; rw [if_neg hn]; simp
    rw [e, cut_dot _ _ (dig_ne _ hd.2.2.1)]
    show Lib.parseIntB 64 (degL a ++ dec3 (absI a % 1000)) = _
    have hb : bodyN (degL a ++ dec3 (absI a % 1000)) = degL a ++ dec3 (absI a % 1000) := by unfold bodyN; rw [if_neg hnd]
    rw [parse_dig _ (by rw [hb]; omega) (by rw [hb]; omega) (by rw [hb]; exact hdd), if_neg hnd, hb, hv]
    congr 1; omega
/-- The checks that an angle's text passes. -/
theorem ang_checks (a : Int) (h0 : -359999 ≤ a) (h1 : a ≤ 359999) : ∃ x y : List UInt8, bodyN (angL a) = x ++ [46] ++ y ∧ 1 ≤ x.length ∧ x.length ≤ 3 ∧ y.length = 3 ∧ x.all digB = true ∧ y.all digB = true := by
  have hd := degL_facts a h0 h1
  have hab : 0 ≤ absI a ∧ absI a ≤ 359999 := by unfold absI; split <;> omega
  have h3 := dec3_facts (absI a % 1000) (by omega) (by omega)
  exact ⟨_, _, (ang_body a h0 h1).1, hd.1, hd.2.1, h3.1, hd.2.2.1, h3.2.1⟩

/-- What ReadAngle returns. -/
def raV (l : List UInt8) : Value := .tuple #[.int .i64 (if okA l = true then candA l else 0), .bool (okA l)]
theorem raV_yes (l : List UInt8) (h : okA l = true) : raV l = .tuple #[.int .i64 (candA l), .bool true] := by unfold raV; rw [h]; rfl
theorem raV_no (l : List UInt8) (h : okA l = false) : raV l = .tuple #[.int .i64 0, .bool false] := by unfold raV; rw [h]; rfl
theorem okA_yes (l : List UInt8) (h : okA l = true) : (-359999 ≤ candA l ∧ candA l ≤ 359999) ∧ angL (candA l) = l := by
  unfold okA at h
  rw [Bool.and_eq_true, inR_1, decide_eq_true_eq] at h
  exact h
theorem okA_cut (l : List UInt8) (h : okA l = true) : Lib.parseIntB 64 ((Lib.cut l [46]).1 ++ (Lib.cut l [46]).2.1) = .ok (candA l) := by
  obtain ⟨⟨h0, h1⟩, h2⟩ := okA_yes l h
  have := cut_ang (candA l) h0 h1
  rw [h2] at this
  exact this
theorem parse_nil (v : Int) : Lib.parseIntB 64 [] ≠ .ok v := by simp [Lib.parseIntB]
theorem cut_parts (s : ByteArray) : ∃ A B : ByteArray, A = ⟨(Lib.cut s.data.toList [46]).1.toArray⟩ ∧ B = ⟨(Lib.cut s.data.toList [46]).2.1.toArray⟩ ∧ (A ++ B).data.toList = (Lib.cut s.data.toList [46]).1 ++ (Lib.cut s.data.toList [46]).2.1 ∧ A.size + B.size ≤ s.size ∧ (A ++ B).size ≤ s.size := by
  have hc := cut_size s.data.toList
  have hl : s.data.toList.length = s.size := Array.length_toList
  refine ⟨_, _, rfl, rfl, ?_, ?_, ?_⟩
  · rw [ByteArray.data_append, Array.toList_append]
  · rw [size_of, size_of]; omega
  · rw [ByteArray.size_append, size_of, size_of]; omega
theorem bel_drewAR {B : Nat} {a w : World} (h : Below B a w) (n : Nat) : Below B a (w.drewN n) := ⟨h.os, h.tape, h.output, h.size, h.block⟩
set_option maxRecDepth 100000 in
set_option maxHeartbeats 1000000 in
theorem implRA_any (s : ByteArray) (w : World) (hs : s.size ≤ 1048576) (ht : TabOK w) (he : ErrOK w) (hlen : LenOK w) :
    Calls Tryd.prog 49 #[.string s] w fun e w' => e = .returned (raV s.data.toList) ∧ Below w.heap.size w w' := by
  obtain ⟨m, hm⟩ := hlen
  have CU := Lib.hid (Tryd.strings_Cut s ⟨#[46]⟩ m w (by omega) hm)
  obtain ⟨A, B, hA, hB, hAB, hsz, hsz2⟩ := cut_parts s
  have e46 : (⟨#[46]⟩ : ByteArray).data.toList = [46] := rfl
  rw [e46, ← hA, ← hB] at CU
  have hg : ¬ 9223372036854775807 < A.size + B.size := by omega
  by_cases hok : ∃ v, Lib.parseIntB 64 (A ++ B).data.toList = .ok v
  · obtain ⟨v, hp⟩ := hok
    have PG := Lib.hid (fun w => parse_good (A ++ B) w (by omega) v hp)
    have AT := Lib.hid (fun w ht => implAngT_any v w ht)
    have hcmp : (angTV v = s ∧ raV s.data.toList = .tuple #[.int .i64 v, .bool true]) ∨ (¬ angTV v = s ∧ raV s.data.toList = .tuple #[.int .i64 0, .bool false]) := by
      rw [hAB] at hp
      cases hq : okA s.data.toList with
      | true =>
        obtain ⟨⟨b0, b1⟩, b2⟩ := okA_yes _ hq
        have hv := okA_cut _ hq
        rw [hp] at hv
        obtain rfl : v = candA s.data.toList := by injection hv
        refine Or.inl ⟨?_, raV_yes _ hq⟩
        unfold angTV
        rw [if_pos (by rw [inR_1]; exact ⟨b0, b1⟩), b2]
      | false =>
        refine Or.inr ⟨fun e => ?_, raV_no _ hq⟩
        unfold angTV at e
        cases hr : inR (-359999) 359999 [v] with
        | true =>
          rw [hr, if_pos rfl] at e
          have hr2 := hr
          rw [inR_1] at hr2
          have := okA_of v s.data.toList hr2.1 hr2.2 (by rw [← e])
          rw [hq] at this
          cases this.1
        | false =>
          rw [hr, if_neg (by simp)] at e
          rw [← e] at hp
          exact parse_nil v hp
    generalize raV s.data.toList = R at *
    generalize angTV v = T at *
    have HC := Lib.hid hcmp
    clear hcmp hp hA hB hAB hsz hsz2
    generalize hD : A ++ B = D at *
    have HD := Lib.hid hD
    clear hD
    rcases HC.out with ⟨h1, h2⟩ | ⟨h1, h2⟩
    · rw [h1] at AT
      have RE := Lib.hid h2
      clear h1 h2
      go_enter Tryd.func49, Tryd.ntmps49
      go_wp2_with fail
      refine CU.out.mono ?_
      rintro e w1 ⟨rfl, q, rfl⟩
      have HB1 := Lib.hid (bel_drewAR (Below.refl w.heap.size w) q)
      generalize w.drewN q = w1 at *
      go_wp2_with fail
      rw [HD.out]
      refine (PG.out _).mono ?_
      rintro e w2 ⟨rfl, hb2⟩
      have HB2 := Lib.hid (HB1.out.trans (hb2.mono HB1.out.size))
      clear hb2
      go_wp2_with fail
      refine (AT.out _ (ht.below HB2.out)).mono ?_
      rintro e w3 ⟨rfl, hb3⟩
      have HB3 := Lib.hid (HB2.out.trans (hb3.mono HB2.out.size))
      clear hb3 ht he
      go_wp2_with fail
      rw [RE.out]
      go_ret2
      exact ⟨rfl, HB3.out⟩
    · have n2 : (T.toList == s.toList) = false := by
        rw [ByteArray.toList_eq, ByteArray.toList_eq]
        exact beq_eq_false_iff_ne.2 (fun e => h1 (WideShapes.bytes_inj e))
      have RE := Lib.hid h2
      clear h2
      go_enter Tryd.func49, Tryd.ntmps49
      go_wp2_with fail
      refine CU.out.mono ?_
      rintro e w1 ⟨rfl, q, rfl⟩
      have HB1 := Lib.hid (bel_drewAR (Below.refl w.heap.size w) q)
      generalize w.drewN q = w1 at *
      go_wp2_with fail
      rw [HD.out]
      refine (PG.out _).mono ?_
      rintro e w2 ⟨rfl, hb2⟩
      have HB2 := Lib.hid (HB1.out.trans (hb2.mono HB1.out.size))
      clear hb2
      go_wp2_with fail
      refine (AT.out _ (ht.below HB2.out)).mono ?_
      rintro e w3 ⟨rfl, hb3⟩
      have HB3 := Lib.hid (HB2.out.trans (hb3.mono HB2.out.size))
      clear hb3 ht he
      go_wp2_with fail
      rw [RE.out]
      go_ret2
      exact ⟨rfl, HB3.out⟩
  · have hbad : ∀ v, Lib.parseIntB 64 (A ++ B).data.toList ≠ .ok v := fun v h => hok ⟨v, h⟩
    have hno : okA s.data.toList = false := by
      cases hq : okA s.data.toList with
      | false => rfl
      | true => exact absurd (by rw [hAB]; exact okA_cut _ hq) (hbad (candA s.data.toList))
    have PB := Lib.hid (fun w he => parse_bad (A ++ B) w (by omega) he hbad)
    rw [raV_no _ hno]
    clear hno hbad hok hA hB hAB hsz hsz2
    generalize hD : A ++ B = D at *
    have HD := Lib.hid hD
    clear hD
    go_enter Tryd.func49, Tryd.ntmps49
    go_wp2_with fail
    refine CU.out.mono ?_
    rintro e w1 ⟨rfl, q, rfl⟩
    have HB1 := Lib.hid (bel_drewAR (Below.refl w.heap.size w) q)
    generalize w.drewN q = w1 at *
    go_wp2_with fail
    rw [HD.out]
    refine (PB.out _ (he.below HB1.out)).mono ?_
    rintro e w2 ⟨v, a, rfl, hb2⟩
    have HB2 := Lib.hid (HB1.out.trans (hb2.mono HB1.out.size))
    clear hb2 ht he
    go_wp2_with fail
    go_ret2
    exact ⟨rfl, HB2.out⟩
theorem okA_shape (l : List UInt8) (h : okA l = true) : ∃ x y : List UInt8, bodyN l = x ++ [46] ++ y ∧ 1 ≤ x.length ∧ x.length ≤ 3 ∧ y.length = 3 ∧ x.all digB = true ∧ y.all digB = true := by
  have h' := h
  unfold okA at h'
  rw [Bool.and_eq_true, inR_1, decide_eq_true_eq] at h'
  have := ang_checks (candA l) h'.1.1 h'.1.2
  rw [h'.2] at this
  exact this
theorem no_len (l : List UInt8) (h : (bodyN l).length < 5 ∨ 7 < (bodyN l).length) : okA l = false := by
  cases hq : okA l with
  | false => rfl
  | true =>
    obtain ⟨x, y, e, h1, h2, h3, _, _⟩ := okA_shape l hq
    rw [e, List.length_append, List.length_append, List.length_singleton] at h
    omega
theorem no_dot (l : List UInt8) (k : Nat) (hk : (bodyN l).length = k + 4) (h : (bodyN l)[k]? ≠ some 46) : okA l = false := by
  cases hq : okA l with
  | false => rfl
  | true =>
    obtain ⟨x, y, e, h1, h2, h3, _, _⟩ := okA_shape l hq
    rw [e, List.length_append, List.length_append, List.length_singleton] at hk
    refine absurd ?_ h
    rw [e, List.append_assoc, List.getElem?_append_right (by omega), show k - x.length = 0 by omega]
    rfl
theorem no_dig (l : List UInt8) (k j : Nat) (c : UInt8) (hk : (bodyN l).length = k + 4) (hj : j ≠ k) (hc : (bodyN l)[j]? = some c) (hd : digB c = false) : okA l = false := by
  cases hq : okA l with
  | false => rfl
  | true =>
    obtain ⟨x, y, e, h1, h2, h3, h4, h5⟩ := okA_shape l hq
    rw [e, List.length_append, List.length_append, List.length_singleton] at hk
    rw [e, List.append_assoc] at hc
    have hm : c ∈ x ∨ c ∈ y := by
      by_cases hlt : j < x.length
      · rw [List.getElem?_append_left hlt] at hc
        exact Or.inl (List.mem_of_getElem? hc)
      · rw [List.getElem?_append_right (by omega)] at hc
        obtain ⟨i, hi⟩ : ∃ i, j - x.length = i + 1 := ⟨j - x.length - 1, by omega⟩
        rw [hi] at hc
        exact Or.inr (List.mem_of_getElem? (show y[i]? = some c from hc))
    rcases hm with hm | hm
    · rw [List.all_eq_true.1 h4 c hm] at hd; cases hd
    · rw [List.all_eq_true.1 h5 c hm] at hd; cases hd
/-- The bytes of a text that were read, less the dot. -/
def preA (l : List UInt8) (k j : Nat) : List UInt8 := if j ≤ k then l.take j else l.take k ++ (l.drop (k + 1)).take (j - (k + 1))
theorem preA_skip (l : List UInt8) (k : Nat) : preA l k (k + 1) = preA l k k := by
  unfold preA
  rw [if_neg (by omega), if_pos (Nat.le_refl _), Nat.sub_self, List.take_zero, List.append_nil]
theorem preA_next (l : List UInt8) (k j : Nat) (hj : j ≠ k) (h : j < l.length) : preA l k (j + 1) = preA l k j ++ [l[j]] := by
  unfold preA
  by_cases c : j < k
  · rw [if_pos (by omega), if_pos (by omega), List.take_succ_eq_append_getElem h]
  · rw [if_neg (by omega), if_neg (by omega), show j + 1 - (k + 1) = (j - (k + 1)) + 1 by omega, List.take_succ_eq_append_getElem (by rw [List.length_drop]; omega), List.getElem_drop, List.append_assoc]
    simp only [show k + 1 + (j - (k + 1)) = j by omega]
theorem preA_zero (l : List UInt8) (k : Nat) : preA l k 0 = [] := by unfold preA; rw [if_pos (Nat.zero_le _)]; rfl
theorem preA_done (l : List UInt8) (k : Nat) (hk : l.length = k + 4) (hdot : l[k]? = some 46) (hd : (preA l k l.length).all digB = true) : l.filter (· ≠ 46) = preA l k l.length := by
  have e : preA l k l.length = l.take k ++ l.drop (k + 1) := by
    unfold preA
    have h9 : (l.drop (k + 1)).take (l.length - (k + 1)) = l.drop (k + 1) := List.take_of_length_le (by rw [List.length_drop]; omega)
    rw [if_neg (by omega), h9]
  rw [e] at hd ⊢
  rw [List.all_append, Bool.and_eq_true] at hd
  have hl : l = l.take k ++ 46 :: l.drop (k + 1) := by
    have h1 := List.getElem?_eq_some_iff.1 hdot
    obtain ⟨h2, h3⟩ := h1
    conv => lhs; rw [← List.take_append_drop k l, List.drop_eq_getElem_cons h2, h3]
  conv => lhs; rw [hl]
  rw [List.filter_append, List.filter_cons, if_neg (by simp), filt_dig _ hd.1, filt_dig _ hd.2]
theorem candA_of (l : List UInt8) (k : Nat) (hk : (bodyN l).length = k + 4) (hdot : (bodyN l)[k]? = some 46) (hd : (preA (bodyN l) k (bodyN l).length).all digB = true) :
    candA l = if l.head? = some 45 then -(valN (preA (bodyN l) k (bodyN l).length) : Int) else (valN (preA (bodyN l) k (bodyN l).length) : Int) := by
  unfold candA
  rw [preA_done (bodyN l) k hk hdot hd]
/-- What the loop knows. -/
structure AngInv (l : List UInt8) (k j : Nat) (n : Int) : Prop where
  le : j ≤ l.length
  val : n = (valN (preA l k j) : Int)
  dig : (preA l k j).all digB = true
theorem preA_len (l : List UInt8) (k j : Nat) : (preA l k j).length ≤ j := by
  unfold preA
  split
  · rw [List.length_take]; omega
  · rw [List.length_append, List.length_take, List.length_take]; omega
theorem AngInv.bd {l : List UInt8} {k j : Nat} {n : Int} (h : AngInv l k j n) (hl : l.length ≤ 7) : 0 ≤ n ∧ n < 10000000 := by
  have h1 := preA_len l k j
  have h2 := h.le
  have h3 := valN_lt 7 (preA l k j) (by omega) h.dig
  rw [h.val]
  omega
theorem AngInv.start (l : List UInt8) (k : Nat) : AngInv l k 0 0 := ⟨Nat.zero_le _, by rw [preA_zero]; rfl, by rw [preA_zero]; rfl⟩
theorem AngInv.skip {l : List UInt8} {k : Nat} {n : Int} (h : AngInv l k k n) (hk : k < l.length) : AngInv l k (k + 1) n := ⟨hk, by rw [preA_skip]; exact h.val, by rw [preA_skip]; exact h.dig⟩
theorem AngInv.next {l : List UInt8} {k j : Nat} {n : Int} (h : AngInv l k j n) (hj : j ≠ k) (hl : j < l.length) (hd : digB l[j] = true) : AngInv l k (j + 1) (10 * n + ((l[j].toNat : Int) - 48)) := by
  have hc := (digB_iff _).1 hd
  refine ⟨hl, ?_, ?_⟩
  · rw [preA_next l k j hj hl, valN_snoc, h.val]; omega
  · rw [preA_next l k j hj hl, List.all_append, h.dig, List.all_cons, hd]; rfl

set_option maxRecDepth 100000 in
set_option maxHeartbeats 2000000 in
theorem l02ReadM_any (s : ByteArray) (hs : s.size ≤ 1048576) (w : World) (hpos : 0 < s.size) (hsg : ((s[0].toNat : Int) == 45) = true)
    (hb : bodyN s.data.toList = (s.extract 1 s.size).data.toList) (hh : s.data.toList.head? = some 45) :
    Calls Tryd.prog 85 #[.string s] w fun e w' => e = .returned (raV s.data.toList) ∧ Below w.heap.size w w' := by
  have h0 : decide ((0 : Int) < (s.size : Int)) = true := decide_eq_true (by omega)
  have hTl : (s.extract 1 s.size).data.toList.length = (s.extract 1 s.size).size := Array.length_toList
  by_cases c1 : (s.extract 1 s.size).size < 5
  · have d1 : decide (((s.extract 1 s.size).size : Int) < 5) = true := decide_eq_true (by omega)
    rw [raV_no _ (no_len _ (Or.inl (by rw [hb]; omega)))]
    clear hb hTl hh
    go_enter Tryd.func85, Tryd.ntmps85
    go_upto_region 6 with fail
    generalize s.extract 1 s.size = T at *
    go_wp2_with fail
    go_ret2
    exact ⟨rfl, Below.refl _ _⟩
  have d1 : decide (((s.extract 1 s.size).size : Int) < 5) = false := decide_eq_false (by omega)
  by_cases c2 : 7 < (s.extract 1 s.size).size
  · have d2 : decide ((7 : Int) < ((s.extract 1 s.size).size : Int)) = true := decide_eq_true (by omega)
    rw [raV_no _ (no_len _ (Or.inr (by rw [hb]; omega)))]
    clear hb hTl hh
    go_enter Tryd.func85, Tryd.ntmps85
    go_upto_region 6 with fail
    generalize s.extract 1 s.size = T at *
    go_wp2_with fail
    go_ret2
    exact ⟨rfl, Below.refl _ _⟩
  have d2 : decide ((7 : Int) < ((s.extract 1 s.size).size : Int)) = false := decide_eq_false (by omega)
  obtain ⟨k, hk⟩ : ∃ k, (s.extract 1 s.size).size = k + 4 := ⟨(s.extract 1 s.size).size - 4, by omega⟩
  have hk4 : ((s.extract 1 s.size).size : Int) - 4 = (k : Int) := by omega
  have hkl : k < (s.extract 1 s.size).size := by omega
  have hbk : (bodyN s.data.toList).length = k + 4 := by rw [hb]; omega
  have hgk : (bodyN s.data.toList)[k]? = some ((s.extract 1 s.size)[k]) := by rw [hb, List.getElem?_eq_getElem (by omega)]; rfl
  by_cases c3 : (s.extract 1 s.size)[k] = 46
  · have d3 : (((s.extract 1 s.size)[k].toNat : Int) == 46) = true := by rw [c3]; rfl
    have d4 : (((s.extract 1 s.size)[k].toNat : Int) != 46) = false := by rw [bne, d3]; rfl
    have hdot : (bodyN s.data.toList)[k]? = some 46 := by rw [hgk, c3]
    have CA := Lib.hid (candA_of s.data.toList k hbk hdot)
    have ND := Lib.hid (fun j c h1 h2 h3 => raV_no s.data.toList (no_dig s.data.toList k j c hbk h1 h2 h3))
    have hbl : (bodyN s.data.toList).length = (s.extract 1 s.size).size := by rw [hb]; exact hTl
    have HG : Hid (∀ j, (h : j < (bodyN s.data.toList).length) → ∃ h2, (s.extract 1 s.size)[j]'h2 = (bodyN s.data.toList)[j]) := Lib.hid (fun j h => ⟨by omega, by simp only [hb]; rfl⟩)
    have RV : Hid (raV s.data.toList = .tuple #[.int .i64 (if okA s.data.toList = true then candA s.data.toList else 0), .bool (okA s.data.toList)]) := Lib.hid rfl
    have OA : Hid (okA s.data.toList = (inR (-359999) 359999 [candA s.data.toList] && decide (angL (candA s.data.toList) = s.data.toList))) := Lib.hid rfl
    have hsl : Hid (∀ t : List UInt8, (⟨t.toArray⟩ : ByteArray) = s ↔ t = s.data.toList) := Lib.hid (fun t => ⟨fun e => by rw [← e], fun e => by rw [e]⟩)
    clear hgk hdot hTl c3
    rw [hbl] at CA
    generalize bodyN s.data.toList = b at *
    generalize candA s.data.toList = ca at *
    generalize okA s.data.toList = ok at *
    generalize raV s.data.toList = R at *
    rw [if_pos hh] at CA
    have hb7 : b.length ≤ 7 := by omega
    clear hb hh
    go_enter Tryd.func85, Tryd.ntmps85
    go_upto_region 6 with fail
    generalize s.extract 1 s.size = T at *
    go_wp2_with fail
    go_loopg [6, 7] (b.length + 1) (fun kx s6 s7 wr => ∃ (j : Nat) (n : Int), s6 = .int .i64 n ∧ s7 = .int .i64 (j : Int) ∧ kx = b.length + 1 - j ∧ Hid (AngInv b k j n) ∧ w = wr)
    case atStart => exact ⟨0, 0, rfl, rfl, rfl, Lib.hid (AngInv.start b k), rfl⟩
    case round =>
      obtain ⟨j, n, rfl, rfl, rfl, HI, rfl⟩ := hrel
      have hle := HI.out.le
      obtain ⟨n0, n1⟩ := HI.out.bd hb7
      by_cases hj : j < b.length
      · have j1 : (j : Int) < (T.size : Int) := by omega
        obtain ⟨hx, hy⟩ := HG.out j hj
        by_cases hjk : j = k
        · subst hjk
          have NX := Lib.hid (HI.out.skip hj)
          clear hy
          go_wp2_with fail
          go_roundg (b.length + 1 - (j + 1))
          case measure => omega
          case rel => exact ⟨j + 1, n, rfl, by go_num, rfl, NX, rfl⟩
        · have hne : ((j : Int) == (k : Int)) = false := beq_eq_false_iff_ne.2 (by omega)
          have hnk : ¬ (j : Int) = (k : Int) := by omega
          have hnx := HI.out.next hjk hj
          have hnd := ND.out j T[j] hjk (by rw [List.getElem?_eq_getElem hj, hy])
          rw [← hy] at hnx
          have HN := Lib.hid hnx
          have HD := Lib.hid hnd
          clear hnx hnd hy
          cases hd : digB T[j] with
          | true =>
            obtain ⟨e0, e1⟩ := (digB_iff _).1 hd
            have NX := Lib.hid (HN.out hd)
            clear hd
            have g1 : decide ((T[j].toNat : Int) < 48) = false := by simp; omega
            have g2 : decide ((57 : Int) < (T[j].toNat : Int)) = false := by simp; omega
            go_wp2_with fail
            go_roundg (b.length + 1 - (j + 1))
            case measure => omega
            case rel => exact ⟨j + 1, _, rfl, by go_num, rfl, NX, rfl⟩
          | false =>
            have RE := Lib.hid (HD.out hd)
            have hq : T[j].toNat < 48 ∨ 57 < T[j].toNat := by
              rcases (show (T[j].toNat < 48 ∨ 57 < T[j].toNat) ∨ (48 ≤ T[j].toNat ∧ T[j].toNat ≤ 57) by omega) with h | h
              · exact h
              · rw [(digB_iff _).2 h] at hd; cases hd
            clear hd
            rcases hq with hq | hq
            · have g1 : decide ((T[j].toNat : Int) < 48) = true := by simp; omega
              go_wp2_with fail
              rw [RE.out]
              go_ret2
              exact ⟨rfl, Below.refl _ _⟩
            · have g1 : decide ((T[j].toNat : Int) < 48) = false := by simp; omega
              have g2 : decide ((57 : Int) < (T[j].toNat : Int)) = true := by simp; omega
              go_wp2_with fail
              rw [RE.out]
              go_ret2
              exact ⟨rfl, Below.refl _ _⟩
      · obtain rfl : j = b.length := by omega
        have CE := CA.out (by rw [← hbl]; exact HI.out.dig)
        have hv := HI.out.val
        rw [← hbl, ← hv] at CE
        clear hv
        have hj2 : ¬ ((b.length : Int) < (T.size : Int)) := by omega
        cases hr : inR (-359999) 359999 [ca] with
        | false =>
          have hok : ok = false := by rw [OA.out, hr]; rfl
          have RE : Hid (R = .tuple #[.int .i64 0, .bool false]) := Lib.hid (by rw [RV.out, hok]; rfl)
          have IR := Lib.hid (fun w => l00In_any ca (-359999) 359999 w)
          rw [hr] at IR
          clear hr hok
          subst CE
          go_wp2_with fail
          refine (IR.out _).mono ?_
          rintro e w' ⟨rfl, rfl⟩
          go_wp2_with fail
          rw [RE.out]
          go_ret2
          exact ⟨rfl, Below.refl _ _⟩
        | true =>
          have hr2 := hr
          rw [inR_1] at hr2
          have LT := Lib.hid (fun w => l02Text_any ca hr2.1 hr2.2 w)
          have IR := Lib.hid (fun w => l00In_any ca (-359999) 359999 w)
          rw [hr] at IR
          by_cases hq : angL ca = s.data.toList
          · have hok : ok = true := by rw [OA.out, hr, decide_eq_true hq]; rfl
            have RE : Hid (R = .tuple #[.int .i64 ca, .bool true]) := Lib.hid (by rw [RV.out, hok]; rfl)
            rw [(hsl.out _).2 hq] at LT
            clear hr hr2 hok hq
            subst CE
            go_wp2_with fail
            refine (IR.out _).mono ?_
            rintro e w' ⟨rfl, rfl⟩
            go_wp2_with fail
            refine (LT.out _).mono ?_
            rintro e w2 ⟨rfl, hb2⟩
            have HB2 := Lib.hid hb2
            clear hb2
            go_wp2_with fail
            rw [RE.out]
            go_ret2
            exact ⟨rfl, HB2.out⟩
          · have hok : ok = false := by rw [OA.out, hr, decide_eq_false hq]; rfl
            have RE : Hid (R = .tuple #[.int .i64 0, .bool false]) := Lib.hid (by rw [RV.out, hok]; rfl)
            have h1 : ¬ (⟨(angL ca).toArray⟩ : ByteArray) = s := fun e => hq ((hsl.out _).1 e)
            clear hr hr2 hok hq
            generalize (⟨(angL ca).toArray⟩ : ByteArray) = X at *
            have n2 : (X.toList == s.toList) = false := by
              rw [ByteArray.toList_eq, ByteArray.toList_eq]
              exact beq_eq_false_iff_ne.2 (fun e => h1 (WideShapes.bytes_inj e))
            subst CE
            go_wp2_with fail
            refine (IR.out _).mono ?_
            rintro e w' ⟨rfl, rfl⟩
            go_wp2_with fail
            refine (LT.out _).mono ?_
            rintro e w2 ⟨rfl, hb2⟩
            have HB2 := Lib.hid hb2
            clear hb2
            go_wp2_with fail
            rw [RE.out]
            go_ret2
            exact ⟨rfl, HB2.out⟩
  · have d3 : (((s.extract 1 s.size)[k].toNat : Int) == 46) = false := (byte_eq _ 46 (by omega)).trans (decide_eq_false c3)
    have d4 : (((s.extract 1 s.size)[k].toNat : Int) != 46) = true := by rw [bne, d3]; rfl
    rw [raV_no _ (no_dot _ k hbk (by rw [hgk]; exact fun e => c3 (Option.some.inj e)))]
    clear hb hTl hh hbk hgk c3
    go_enter Tryd.func85, Tryd.ntmps85
    go_upto_region 6 with fail
    generalize s.extract 1 s.size = T at *
    go_wp2_with fail
    go_ret2
    exact ⟨rfl, Below.refl _ _⟩

set_option maxRecDepth 100000 in
set_option maxHeartbeats 2000000 in
theorem l02ReadP_any (s : ByteArray) (hs : s.size ≤ 1048576) (w : World) (hpos : 0 < s.size) (hsg : ((s[0].toNat : Int) == 45) = false)
    (hb : bodyN s.data.toList = s.data.toList) (hh : ¬ s.data.toList.head? = some 45) :
    Calls Tryd.prog 85 #[.string s] w fun e w' => e = .returned (raV s.data.toList) ∧ Below w.heap.size w w' := by
  have h0 : decide ((0 : Int) < (s.size : Int)) = true := decide_eq_true (by omega)
  have hTl : s.data.toList.length = s.size := Array.length_toList
  by_cases c1 : s.size < 5
  · have d1 : decide ((s.size : Int) < 5) = true := decide_eq_true (by omega)
    rw [raV_no _ (no_len _ (Or.inl (by rw [hb]; omega)))]
    clear hb hTl hh
    go_enter Tryd.func85, Tryd.ntmps85
    go_upto_region 6 with fail
    go_wp2_with fail
    go_ret2
    exact ⟨rfl, Below.refl _ _⟩
  have d1 : decide ((s.size : Int) < 5) = false := decide_eq_false (by omega)
  by_cases c2 : 7 < s.size
  · have d2 : decide ((7 : Int) < (s.size : Int)) = true := decide_eq_true (by omega)
    rw [raV_no _ (no_len _ (Or.inr (by rw [hb]; omega)))]
    clear hb hTl hh
    go_enter Tryd.func85, Tryd.ntmps85
    go_upto_region 6 with fail
    go_wp2_with fail
    go_ret2
    exact ⟨rfl, Below.refl _ _⟩
  have d2 : decide ((7 : Int) < (s.size : Int)) = false := decide_eq_false (by omega)
  obtain ⟨k, hk⟩ : ∃ k, s.size = k + 4 := ⟨s.size - 4, by omega⟩
  have hk4 : (s.size : Int) - 4 = (k : Int) := by omega
  have hkl : k < s.size := by omega
  have hbk : (bodyN s.data.toList).length = k + 4 := by rw [hb]; omega
  have hgk : (bodyN s.data.toList)[k]? = some (s[k]) := by rw [hb, List.getElem?_eq_getElem (by omega)]; rfl
  by_cases c3 : s[k] = 46
  · have d3 : ((s[k].toNat : Int) == 46) = true := by rw [c3]; rfl
    have d4 : ((s[k].toNat : Int) != 46) = false := by rw [bne, d3]; rfl
    have hdot : (bodyN s.data.toList)[k]? = some 46 := by rw [hgk, c3]
    have CA := Lib.hid (candA_of s.data.toList k hbk hdot)
    have ND := Lib.hid (fun j c h1 h2 h3 => raV_no s.data.toList (no_dig s.data.toList k j c hbk h1 h2 h3))
    have hbl : (bodyN s.data.toList).length = s.size := by rw [hb]; exact hTl
    have HG : Hid (∀ j, (h : j < (bodyN s.data.toList).length) → ∃ h2, s[j]'h2 = (bodyN s.data.toList)[j]) := Lib.hid (fun j h => ⟨by omega, by simp only [hb]; rfl⟩)
    have RV : Hid (raV s.data.toList = .tuple #[.int .i64 (if okA s.data.toList = true then candA s.data.toList else 0), .bool (okA s.data.toList)]) := Lib.hid rfl
    have OA : Hid (okA s.data.toList = (inR (-359999) 359999 [candA s.data.toList] && decide (angL (candA s.data.toList) = s.data.toList))) := Lib.hid rfl
    have hsl : Hid (∀ t : List UInt8, (⟨t.toArray⟩ : ByteArray) = s ↔ t = s.data.toList) := Lib.hid (fun t => ⟨fun e => by rw [← e], fun e => by rw [e]⟩)
    clear hgk hdot hTl c3
    rw [hbl] at CA
    generalize bodyN s.data.toList = b at *
    generalize candA s.data.toList = ca at *
    generalize okA s.data.toList = ok at *
    generalize raV s.data.toList = R at *
    rw [if_neg hh] at CA
    have hb7 : b.length ≤ 7 := by omega
    clear hb hh
    go_enter Tryd.func85, Tryd.ntmps85
    go_upto_region 6 with fail
    go_wp2_with fail
    go_loopg [6, 7] (b.length + 1) (fun kx s6 s7 wr => ∃ (j : Nat) (n : Int), s6 = .int .i64 n ∧ s7 = .int .i64 (j : Int) ∧ kx = b.length + 1 - j ∧ Hid (AngInv b k j n) ∧ w = wr)
    case atStart => exact ⟨0, 0, rfl, rfl, rfl, Lib.hid (AngInv.start b k), rfl⟩
    case round =>
      obtain ⟨j, n, rfl, rfl, rfl, HI, rfl⟩ := hrel
      have hle := HI.out.le
      obtain ⟨n0, n1⟩ := HI.out.bd hb7
      by_cases hj : j < b.length
      · have j1 : (j : Int) < (s.size : Int) := by omega
        obtain ⟨hx, hy⟩ := HG.out j hj
        by_cases hjk : j = k
        · subst hjk
          have NX := Lib.hid (HI.out.skip hj)
          clear hy
          go_wp2_with fail
          go_roundg (b.length + 1 - (j + 1))
          case measure => omega
          case rel => exact ⟨j + 1, n, rfl, by go_num, rfl, NX, rfl⟩
        · have hne : ((j : Int) == (k : Int)) = false := beq_eq_false_iff_ne.2 (by omega)
          have hnk : ¬ (j : Int) = (k : Int) := by omega
          have hnx := HI.out.next hjk hj
          have hnd := ND.out j s[j] hjk (by rw [List.getElem?_eq_getElem hj, hy])
          rw [← hy] at hnx
          have HN := Lib.hid hnx
          have HD := Lib.hid hnd
          clear hnx hnd hy
          cases hd : digB s[j] with
          | true =>
            obtain ⟨e0, e1⟩ := (digB_iff _).1 hd
            have NX := Lib.hid (HN.out hd)
            clear hd
            have g1 : decide ((s[j].toNat : Int) < 48) = false := by simp; omega
            have g2 : decide ((57 : Int) < (s[j].toNat : Int)) = false := by simp; omega
            go_wp2_with fail
            go_roundg (b.length + 1 - (j + 1))
            case measure => omega
            case rel => exact ⟨j + 1, _, rfl, by go_num, rfl, NX, rfl⟩
          | false =>
            have RE := Lib.hid (HD.out hd)
            have hq : s[j].toNat < 48 ∨ 57 < s[j].toNat := by
              rcases (show (s[j].toNat < 48 ∨ 57 < s[j].toNat) ∨ (48 ≤ s[j].toNat ∧ s[j].toNat ≤ 57) by omega) with h | h
              · exact h
              · rw [(digB_iff _).2 h] at hd; cases hd
            clear hd
            rcases hq with hq | hq
            · have g1 : decide ((s[j].toNat : Int) < 48) = true := by simp; omega
              go_wp2_with fail
              rw [RE.out]
              go_ret2
              exact ⟨rfl, Below.refl _ _⟩
            · have g1 : decide ((s[j].toNat : Int) < 48) = false := by simp; omega
              have g2 : decide ((57 : Int) < (s[j].toNat : Int)) = true := by simp; omega
              go_wp2_with fail
              rw [RE.out]
              go_ret2
              exact ⟨rfl, Below.refl _ _⟩
      · obtain rfl : j = b.length := by omega
        have CE := CA.out (by rw [← hbl]; exact HI.out.dig)
        have hv := HI.out.val
        rw [← hbl, ← hv] at CE
        clear hv
        have hj2 : ¬ ((b.length : Int) < (s.size : Int)) := by omega
        cases hr : inR (-359999) 359999 [ca] with
        | false =>
          have hok : ok = false := by rw [OA.out, hr]; rfl
          have RE : Hid (R = .tuple #[.int .i64 0, .bool false]) := Lib.hid (by rw [RV.out, hok]; rfl)
          have IR := Lib.hid (fun w => l00In_any ca (-359999) 359999 w)
          rw [hr] at IR
          clear hr hok
          subst CE
          go_wp2_with fail
          refine (IR.out _).mono ?_
          rintro e w' ⟨rfl, rfl⟩
          go_wp2_with fail
          rw [RE.out]
          go_ret2
          exact ⟨rfl, Below.refl _ _⟩
        | true =>
          have hr2 := hr
          rw [inR_1] at hr2
          have LT := Lib.hid (fun w => l02Text_any ca hr2.1 hr2.2 w)
          have IR := Lib.hid (fun w => l00In_any ca (-359999) 359999 w)
          rw [hr] at IR
          by_cases hq : angL ca = s.data.toList
          · have hok : ok = true := by rw [OA.out, hr, decide_eq_true hq]; rfl
            have RE : Hid (R = .tuple #[.int .i64 ca, .bool true]) := Lib.hid (by rw [RV.out, hok]; rfl)
            rw [(hsl.out _).2 hq] at LT
            clear hr hr2 hok hq
            subst CE
            go_wp2_with fail
            refine (IR.out _).mono ?_
            rintro e w' ⟨rfl, rfl⟩
            go_wp2_with fail
            refine (LT.out _).mono ?_
            rintro e w2 ⟨rfl, hb2⟩
            have HB2 := Lib.hid hb2
            clear hb2
            go_wp2_with fail
            rw [RE.out]
            go_ret2
            exact ⟨rfl, HB2.out⟩
          · have hok : ok = false := by rw [OA.out, hr, decide_eq_false hq]; rfl
            have RE : Hid (R = .tuple #[.int .i64 0, .bool false]) := Lib.hid (by rw [RV.out, hok]; rfl)
            have h1 : ¬ (⟨(angL ca).toArray⟩ : ByteArray) = s := fun e => hq ((hsl.out _).1 e)
            clear hr hr2 hok hq
            generalize (⟨(angL ca).toArray⟩ : ByteArray) = X at *
            have n2 : (X.toList == s.toList) = false := by
              rw [ByteArray.toList_eq, ByteArray.toList_eq]
              exact beq_eq_false_iff_ne.2 (fun e => h1 (WideShapes.bytes_inj e))
            subst CE
            go_wp2_with fail
            refine (IR.out _).mono ?_
            rintro e w' ⟨rfl, rfl⟩
            go_wp2_with fail
            refine (LT.out _).mono ?_
            rintro e w2 ⟨rfl, hb2⟩
            have HB2 := Lib.hid hb2
            clear hb2
            go_wp2_with fail
            rw [RE.out]
            go_ret2
            exact ⟨rfl, HB2.out⟩
  · have d3 : ((s[k].toNat : Int) == 46) = false := (byte_eq _ 46 (by omega)).trans (decide_eq_false c3)
    have d4 : ((s[k].toNat : Int) != 46) = true := by rw [bne, d3]; rfl
    rw [raV_no _ (no_dot _ k hbk (by rw [hgk]; exact fun e => c3 (Option.some.inj e)))]
    clear hb hTl hh hbk hgk c3
    go_enter Tryd.func85, Tryd.ntmps85
    go_upto_region 6 with fail
    go_wp2_with fail
    go_ret2
    exact ⟨rfl, Below.refl _ _⟩

theorem minus_listA (s : ByteArray) (h1 : 0 < s.size) (hsg : ((s[0].toNat : Int) == 45) = true) : s.data.toList = 45 :: (s.extract 1 s.size).data.toList := by
  have hq : decide (s[0] = 45) = true := (byte_eq s[0] 45 (by omega)).symm.trans hsg
  have h0 : s[0] = 45 := of_decide_eq_true hq
  have hl : s.data.toList.length = s.size := Array.length_toList
  have hh : s.data.toList.head? = some 45 := by rw [head_of s (by omega), h0]
  clear hq h0 hsg
  rw [ext_data]
  show s.data.toList = 45 :: ((s.data.toList.drop 1).take (s.size - 1)).toArray.toList
  rw [List.toList_toArray]
  generalize s.data.toList = l at *
  cases l with
  | nil => cases hh
  | cons c r =>
    obtain rfl : c = 45 := Option.some.inj hh
    rw [List.length_cons] at hl
    rw [List.drop_succ_cons, List.drop_zero, List.take_of_length_le (by omega)]
set_option maxHeartbeats 400000 in
theorem l02Read_any (s : ByteArray) (hs : s.size ≤ 1048576) (w : World) :
    Calls Tryd.prog 85 #[.string s] w fun e w' => e = .returned (raV s.data.toList) ∧ Below w.heap.size w w' := by
  by_cases c0 : s.size = 0
  · obtain rfl : s = ByteArray.empty := by simpa using c0
    rw [raV_no ByteArray.empty.data.toList (no_len _ (Or.inl (by show (0 : Nat) < 5; omega)))]
    clear c0 hs
    go_enter Tryd.func85, Tryd.ntmps85
    go_wp2_with fail
    go_ret2
    exact ⟨rfl, Below.refl _ _⟩
  · have hpos : 0 < s.size := by omega
    cases hsg : ((s[0].toNat : Int) == 45) with
    | true =>
      have hm := minus_listA s hpos hsg
      have hh : s.data.toList.head? = some 45 := by rw [hm]; rfl
      have hb : bodyN s.data.toList = (s.extract 1 s.size).data.toList := by
        unfold bodyN
        rw [if_pos hh, hm]
        rfl
      exact l02ReadM_any s hs w hpos hsg hb hh
    | false =>
      have hh : ¬ s.data.toList.head? = some 45 := by
        rw [head_of s hpos]
        intro e
        have h45 : s[0] = 45 := Option.some.inj e
        rw [h45] at hsg
        exact absurd hsg (by decide)
      exact l02ReadP_any s hs w hpos hsg (body_plain s hpos hsg) hh
end Go.Proofs.YtjghopepgfgebaaDoor
