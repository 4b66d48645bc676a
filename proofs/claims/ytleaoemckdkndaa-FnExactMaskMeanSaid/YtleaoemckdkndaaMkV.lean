/-
  Valid masks (packages impl and spec).
-/
import Derived.Test.YtleaoemckdkndaaMkS
import Derived.Test.YtleaoemckdkndaaMkL
import Derived.Test.YtleaoemckdkndaaUpB
import Derived.Test.YtleaoemckdkndaaNrm
import Derived.Test.YtleaoemckdkndaaCore3
namespace Go.Proofs.Ytleaoemckdkndaa.Mk
open Go.RowKit
set_option linter.unusedVariables false

/-- A mask is valid. -/
def maskB (x0 x1 x2 x3 x4 : Int) : Bool := inR 0 359999 [x0] && (inR 0 359999 [x1] && (inR 0 90000 [x2, x3] && (decide (x2 ≤ x3) && inR 0 1000 [x4])))
def V.good (x : V) : Bool := maskB x.f0 x.f1 x.f2 x.f3 x.f4
def masksB (zs : List V) : Bool := decide (zs.length ≤ 8) && zs.all V.good
theorem maskB_bd {x : V} (h : x.good = true) : (0 ≤ x.f0 ∧ x.f0 ≤ 359999) ∧ (0 ≤ x.f1 ∧ x.f1 ≤ 359999) ∧ (0 ≤ x.f2 ∧ x.f2 ≤ 90000) ∧ (0 ≤ x.f3 ∧ x.f3 ≤ 90000) ∧ x.f2 ≤ x.f3 ∧ 0 ≤ x.f4 ∧ x.f4 ≤ 1000 := by
  unfold V.good maskB at h
  simp only [inR_2, Bool.and_eq_true, inR_1, decide_eq_true_eq] at h
  omega
theorem maskB_spec (x0 x1 x2 x3 x4 : Int) : maskB x0 x1 x2 x3 x4 = (inR 0 359999 [x0] && (inR 0 359999 [x1] && (inR 0 90000 [x3] && (inR 0 x3 [x2] && inR 0 1000 [x4])))) := by
  unfold maskB
  rw [Bool.eq_iff_iff]
  simp only [inR_2, Bool.and_eq_true, inR_1, decide_eq_true_eq]
  constructor <;> (rintro ⟨h1, h2, h3, h4, h5⟩ <;> (refine ⟨h1, h2, ?_⟩; omega))
theorem not_all (p : V → Bool) (zs : List V) : (!(zs.any fun x => !p x)) = zs.all p := by
  induction zs with
  | nil => rfl
  | cons x zs ih => simp only [List.any_cons, List.all_cons, Bool.not_or, Bool.not_not, ih]

set_option maxHeartbeats 400000 in
theorem areLevels_any (a : Int) (b cap : Nat) (w : World) (hc : w.cell? ⟨b, 0, none⟩ = some (.int .i64 a)) :
    Calls Try.prog 81 #[.slice (some ⟨b, 0, none⟩) 1 cap] w fun e w' => e = .returned (.bool (inR 0 1000 [a])) ∧ w = w' := by
  have I := Lib.hid (within1 0 1000 a b cap w hc)
  clear hc
  go_enter Try.func81, Try.ntmps81
  go_wp2_with fail
  refine (I.out).mono ?_
  rintro e w' ⟨rfl, rfl⟩
  go_wp2_with fail
  go_ret
  exact ⟨rfl, rfl⟩
set_option maxHeartbeats 2000000 in
theorem isValid_any (x0 x1 x2 x3 x4 : Int) (w : World) :
    Calls Try.prog 137 #[.agg #[.int .i64 x0, .int .i64 x1, .int .i64 x2, .int .i64 x3, .int .i64 x4]] w fun e w' => e = .returned (.bool (maskB x0 x1 x2 x3 x4)) ∧ Below w.heap.size w w' := by
  have I1 := Lib.hid (fun w => isTurn_any x0 w)
  have I2 := Lib.hid (fun w => isTurn_any x1 w)
  have I3 := Lib.hid (fun b cap w hc hc' => within2 0 90000 x2 x3 b cap w hc hc')
  have I5 := Lib.hid (fun b cap w hc => areLevels_any x4 b cap w hc)
  unfold maskB
  generalize inR 0 359999 [x0] = p1 at *
  generalize inR 0 359999 [x1] = p2 at *
  generalize inR 0 90000 [x2, x3] = p3 at *
  generalize inR 0 1000 [x4] = p5 at *
  cases p1 with
  | false =>
    rw [Bool.false_and]
    go_enter Try.func137, Try.ntmps137
    go_wp2_with fail
    refine (I1.out _).mono ?_
    rintro e wx0 ⟨rfl, hb⟩
    have hswx0 := hb.size
    try simp at hswx0
    obtain ⟨hcwx0, hfwx0⟩ := bcell hb
    have HBwx0 : Hid (Below w.heap.size w wx0) := by
      apply Lib.hid
      refine Below.trans ?_ (hb.mono ?_)
      · repeat (first | exact Below.refl _ _ | refine Below.setCell ?_ (by first | (simp; done) | omega | (simp; omega)) _ | refine Below.alloc ?_ (by first | (simp; done) | omega | (simp; omega)) _)
      · first | (simp; done) | omega | (simp; omega)
    have hzwx0 : w.heap.size < wx0.heap.size := by have := hb.size; (try simp at this); omega
    clear hb
    go_wp2_with fail
    go_ret
    refine ⟨rfl, ?_⟩
    repeat (first | exact Below.refl _ _ | exact HBwx0.out | refine Below.setCell ?_ (by first | (simp; done) | omega | (simp; omega)) _ | refine Below.alloc ?_ (by first | (simp; done) | omega | (simp; omega)) _ | refine bel_drew ?_)
  | true =>
    rw [Bool.true_and]
    cases p2 with
    | false =>
      rw [Bool.false_and]
      go_enter Try.func137, Try.ntmps137
      go_wp2_with fail
      refine (I1.out _).mono ?_
      rintro e wx0 ⟨rfl, hb⟩
      have hswx0 := hb.size
      try simp at hswx0
      obtain ⟨hcwx0, hfwx0⟩ := bcell hb
      have HBwx0 : Hid (Below w.heap.size w wx0) := by
        apply Lib.hid
        refine Below.trans ?_ (hb.mono ?_)
        · repeat (first | exact Below.refl _ _ | refine Below.setCell ?_ (by first | (simp; done) | omega | (simp; omega)) _ | refine Below.alloc ?_ (by first | (simp; done) | omega | (simp; omega)) _)
        · first | (simp; done) | omega | (simp; omega)
      have hzwx0 : w.heap.size < wx0.heap.size := by have := hb.size; (try simp at this); omega
      clear hb
      go_wp2_with fail
      refine (I2.out _).mono ?_
      rintro e wx1 ⟨rfl, hb⟩
      have hswx1 := hb.size
      try simp at hswx1
      obtain ⟨hcwx1, hfwx1⟩ := bcell hb
      have HBwx1 : Hid (Below w.heap.size w wx1) := by
        apply Lib.hid
        refine Below.trans ?_ (hb.mono ?_)
        · repeat (first | exact Below.refl _ _ | exact HBwx0.out | refine Below.setCell ?_ (by first | (simp; done) | omega | (simp; omega)) _ | refine Below.alloc ?_ (by first | (simp; done) | omega | (simp; omega)) _)
        · first | (simp; done) | omega | (simp; omega)
      have hzwx1 : w.heap.size < wx1.heap.size := by have := hb.size; (try simp at this); omega
      clear hb
      first | (have gswx1wx0 : wx0.heap.size < wx1.heap.size := by omega) | skip
      go_wp2_with fail
      go_ret
      refine ⟨rfl, ?_⟩
      repeat (first | exact Below.refl _ _ | exact HBwx1.out | refine Below.setCell ?_ (by first | (simp; done) | omega | (simp; omega)) _ | refine Below.alloc ?_ (by first | (simp; done) | omega | (simp; omega)) _ | refine bel_drew ?_)
    | true =>
      rw [Bool.true_and]
      cases p3 with
      | false =>
        rw [Bool.false_and]
        go_enter Try.func137, Try.ntmps137
        go_wp2_with fail
        refine (I1.out _).mono ?_
        rintro e wx0 ⟨rfl, hb⟩
        have hswx0 := hb.size
        try simp at hswx0
        obtain ⟨hcwx0, hfwx0⟩ := bcell hb
        have HBwx0 : Hid (Below w.heap.size w wx0) := by
          apply Lib.hid
          refine Below.trans ?_ (hb.mono ?_)
          · repeat (first | exact Below.refl _ _ | refine Below.setCell ?_ (by first | (simp; done) | omega | (simp; omega)) _ | refine Below.alloc ?_ (by first | (simp; done) | omega | (simp; omega)) _)
          · first | (simp; done) | omega | (simp; omega)
        have hzwx0 : w.heap.size < wx0.heap.size := by have := hb.size; (try simp at this); omega
        clear hb
        go_wp2_with fail
        refine (I2.out _).mono ?_
        rintro e wx1 ⟨rfl, hb⟩
        have hswx1 := hb.size
        try simp at hswx1
        obtain ⟨hcwx1, hfwx1⟩ := bcell hb
        have HBwx1 : Hid (Below w.heap.size w wx1) := by
          apply Lib.hid
          refine Below.trans ?_ (hb.mono ?_)
          · repeat (first | exact Below.refl _ _ | exact HBwx0.out | refine Below.setCell ?_ (by first | (simp; done) | omega | (simp; omega)) _ | refine Below.alloc ?_ (by first | (simp; done) | omega | (simp; omega)) _)
          · first | (simp; done) | omega | (simp; omega)
        have hzwx1 : w.heap.size < wx1.heap.size := by have := hb.size; (try simp at this); omega
        clear hb
        first | (have gswx1wx0 : wx0.heap.size < wx1.heap.size := by omega) | skip
        go_wp2_with fail
        refine (I3.out _ _ _ (by simp) (by simp)).mono ?_
        rintro e w' ⟨rfl, rfl⟩
        go_wp2_with fail
        go_ret
        refine ⟨rfl, ?_⟩
        repeat (first | exact Below.refl _ _ | exact HBwx1.out | refine Below.setCell ?_ (by first | (simp; done) | omega | (simp; omega)) _ | refine Below.alloc ?_ (by first | (simp; done) | omega | (simp; omega)) _ | refine bel_drew ?_)
      | true =>
        rw [Bool.true_and]
        by_cases h4 : x2 ≤ x3
        · rw [show decide (x2 ≤ x3) = true by simpa using h4, Bool.true_and]
          go_enter Try.func137, Try.ntmps137
          go_wp2_with fail
          refine (I1.out _).mono ?_
          rintro e wx0 ⟨rfl, hb⟩
          have hswx0 := hb.size
          try simp at hswx0
          obtain ⟨hcwx0, hfwx0⟩ := bcell hb
          have HBwx0 : Hid (Below w.heap.size w wx0) := by
            apply Lib.hid
            refine Below.trans ?_ (hb.mono ?_)
            · repeat (first | exact Below.refl _ _ | refine Below.setCell ?_ (by first | (simp; done) | omega | (simp; omega)) _ | refine Below.alloc ?_ (by first | (simp; done) | omega | (simp; omega)) _)
            · first | (simp; done) | omega | (simp; omega)
          have hzwx0 : w.heap.size < wx0.heap.size := by have := hb.size; (try simp at this); omega
          clear hb
          go_wp2_with fail
          refine (I2.out _).mono ?_
          rintro e wx1 ⟨rfl, hb⟩
          have hswx1 := hb.size
          try simp at hswx1
          obtain ⟨hcwx1, hfwx1⟩ := bcell hb
          have HBwx1 : Hid (Below w.heap.size w wx1) := by
            apply Lib.hid
            refine Below.trans ?_ (hb.mono ?_)
            · repeat (first | exact Below.refl _ _ | exact HBwx0.out | refine Below.setCell ?_ (by first | (simp; done) | omega | (simp; omega)) _ | refine Below.alloc ?_ (by first | (simp; done) | omega | (simp; omega)) _)
            · first | (simp; done) | omega | (simp; omega)
          have hzwx1 : w.heap.size < wx1.heap.size := by have := hb.size; (try simp at this); omega
          clear hb
          first | (have gswx1wx0 : wx0.heap.size < wx1.heap.size := by omega) | skip
          go_wp2_with fail
          refine (I3.out _ _ _ (by simp) (by simp)).mono ?_
          rintro e w' ⟨rfl, rfl⟩
          go_wp2_with fail
          refine (I5.out _ _ _ (by simp)).mono ?_
          rintro e w' ⟨rfl, rfl⟩
          go_wp2_with fail
          go_ret
          refine ⟨rfl, ?_⟩
          repeat (first | exact Below.refl _ _ | exact HBwx1.out | refine Below.setCell ?_ (by first | (simp; done) | omega | (simp; omega)) _ | refine Below.alloc ?_ (by first | (simp; done) | omega | (simp; omega)) _ | refine bel_drew ?_)
        · rw [show decide (x2 ≤ x3) = false by simpa using h4, Bool.false_and]
          go_enter Try.func137, Try.ntmps137
          go_wp2_with fail
          refine (I1.out _).mono ?_
          rintro e wx0 ⟨rfl, hb⟩
          have hswx0 := hb.size
          try simp at hswx0
          obtain ⟨hcwx0, hfwx0⟩ := bcell hb
          have HBwx0 : Hid (Below w.heap.size w wx0) := by
            apply Lib.hid
            refine Below.trans ?_ (hb.mono ?_)
            · repeat (first | exact Below.refl _ _ | refine Below.setCell ?_ (by first | (simp; done) | omega | (simp; omega)) _ | refine Below.alloc ?_ (by first | (simp; done) | omega | (simp; omega)) _)
            · first | (simp; done) | omega | (simp; omega)
          have hzwx0 : w.heap.size < wx0.heap.size := by have := hb.size; (try simp at this); omega
          clear hb
          go_wp2_with fail
          refine (I2.out _).mono ?_
          rintro e wx1 ⟨rfl, hb⟩
          have hswx1 := hb.size
          try simp at hswx1
          obtain ⟨hcwx1, hfwx1⟩ := bcell hb
          have HBwx1 : Hid (Below w.heap.size w wx1) := by
            apply Lib.hid
            refine Below.trans ?_ (hb.mono ?_)
            · repeat (first | exact Below.refl _ _ | exact HBwx0.out | refine Below.setCell ?_ (by first | (simp; done) | omega | (simp; omega)) _ | refine Below.alloc ?_ (by first | (simp; done) | omega | (simp; omega)) _)
            · first | (simp; done) | omega | (simp; omega)
          have hzwx1 : w.heap.size < wx1.heap.size := by have := hb.size; (try simp at this); omega
          clear hb
          first | (have gswx1wx0 : wx0.heap.size < wx1.heap.size := by omega) | skip
          go_wp2_with fail
          refine (I3.out _ _ _ (by simp) (by simp)).mono ?_
          rintro e w' ⟨rfl, rfl⟩
          go_wp2_with fail
          go_ret
          refine ⟨rfl, ?_⟩
          repeat (first | exact Below.refl _ _ | exact HBwx1.out | refine Below.setCell ?_ (by first | (simp; done) | omega | (simp; omega)) _ | refine Below.alloc ?_ (by first | (simp; done) | omega | (simp; omega)) _ | refine bel_drew ?_)
set_option maxHeartbeats 400000 in
theorem notValid_any (x0 x1 x2 x3 x4 : Int) (w : World) :
    Calls Try.prog 136 #[.agg #[.int .i64 x0, .int .i64 x1, .int .i64 x2, .int .i64 x3, .int .i64 x4]] w fun e w' => e = .returned (.bool (!maskB x0 x1 x2 x3 x4)) ∧ Below w.heap.size w w' := by
  have I := Lib.hid (fun w => isValid_any x0 x1 x2 x3 x4 w)
  generalize maskB x0 x1 x2 x3 x4 = p at *
  go_enter Try.func136, Try.ntmps136
  go_wp2_with fail
  refine (I.out _).mono ?_
  rintro e w1 ⟨rfl, hb⟩
  have hsw1 := hb.size
  try simp at hsw1
  obtain ⟨hcw1, hfw1⟩ := bcell hb
  have HBw1 : Hid (Below w.heap.size w w1) := by
    apply Lib.hid
    refine Below.trans ?_ (hb.mono ?_)
    · repeat (first | exact Below.refl _ _ | refine Below.setCell ?_ (by first | (simp; done) | omega | (simp; omega)) _ | refine Below.alloc ?_ (by first | (simp; done) | omega | (simp; omega)) _)
    · first | (simp; done) | omega | (simp; omega)
  have hzw1 : w.heap.size < w1.heap.size := by have := hb.size; (try simp at this); omega
  clear hb
  go_wp2_with fail
  go_ret
  refine ⟨rfl, ?_⟩
  repeat (first | exact Below.refl _ _ | exact HBw1.out | refine Below.setCell ?_ (by first | (simp; done) | omega | (simp; omega)) _ | refine Below.alloc ?_ (by first | (simp; done) | omega | (simp; omega)) _ | refine bel_drew ?_)
set_option maxRecDepth 100000 in
set_option maxHeartbeats 1000000 in
theorem implValid_any (g cap : Nat) (zs : List V) (w : World) (hb : zs.length ≤ 1048577) (h1 : Row w g zs) :
    Calls Try.prog 105 #[.slice (some ⟨g, 0, none⟩) zs.length cap] w fun e w' => e = .returned (.bool (masksB zs)) ∧ Below w.heap.size w w' := by
  have eg : ∀ args w, (callFunc 136 args).run Try.prog w = .ok (.enter 136 args) w := enters_of Try.func136 (by kernel_rfl) rfl
  have C := Lib.hid (contains_any 136 #[] (fun x => !x.good) eg g cap zs w hb h1 (fun W' j hj _ => notValid_any _ _ _ _ _ W'))
  have NA := Lib.hid (not_all V.good zs)
  clear eg h1
  unfold masksB
  by_cases hl : zs.length ≤ 8
  · rw [show decide (zs.length ≤ 8) = true by simpa using hl, Bool.true_and]
    have hl' : (zs.length : Int) ≤ 8 := by omega
    go_enter Try.func105, Try.ntmps105
    go_wp2_with fail
    refine C.out.mono ?_
    rintro e w2 ⟨rfl, hb2⟩
    have HB2 := Lib.hid hb2
    clear hb2
    go_wp2_with fail
    go_ret
    exact ⟨ret_bool NA.out, HB2.out⟩
  · rw [show decide (zs.length ≤ 8) = false by simpa using hl, Bool.false_and]
    have hl' : ¬ (zs.length : Int) ≤ 8 := by omega
    clear C NA
    go_enter Try.func105, Try.ntmps105
    go_wp2_with fail
    go_ret
    exact ⟨rfl, Below.refl _ _⟩

set_option maxHeartbeats 400000 in
theorem l06Turn_any (a : Int) (w : World) :
    Calls Try.prog 134 #[.int .i64 a] w fun e w' => e = .returned (.bool (inR 0 359999 [a])) ∧ w = w' := by
  go_enter Try.func134, Try.ntmps134
  go_wp2_with fail
  refine (l00In_any _ _ _ _).mono ?_
  rintro e w' ⟨rfl, rfl⟩
  go_wp2_with fail
  go_ret
  exact ⟨rfl, rfl⟩
set_option maxHeartbeats 400000 in
theorem l12Level_any (a : Int) (w : World) :
    Calls Try.prog 84 #[.int .i64 a] w fun e w' => e = .returned (.bool (inR 0 1000 [a])) ∧ w = w' := by
  go_enter Try.func84, Try.ntmps84
  go_wp2_with fail
  refine (l00In_any _ _ _ _).mono ?_
  rintro e w' ⟨rfl, rfl⟩
  go_wp2_with fail
  go_ret
  exact ⟨rfl, rfl⟩
def okG (zs : List V) (j : Nat) : Bool := (zs.take j).all V.good
theorem okG_next (zs : List V) (j : Nat) (h : j < zs.length) : okG zs (j + 1) = (okG zs j && zs[j].good) := by
  unfold okG
  rw [List.take_succ_eq_append_getElem h, List.all_append]
  simp
theorem okG_stop (zs : List V) (j : Nat) (h : j < zs.length) (hs : zs[j].good = false) : masksB zs = false := by
  have : zs.all V.good = false := by
    rw [List.all_eq_false]
    exact ⟨zs[j], List.getElem_mem h, by rw [hs]; simp⟩
  unfold masksB
  rw [this, Bool.and_false]
theorem okG_all (zs : List V) (h : okG zs zs.length = true) : masksB zs = decide (zs.length ≤ 8) := by
  unfold okG at h
  rw [List.take_length] at h
  unfold masksB
  rw [h, Bool.and_true]
set_option maxRecDepth 100000 in
set_option maxHeartbeats 4000000 in
theorem l12Masks_any (g cap : Nat) (zs : List V) (w : World) (hb : zs.length ≤ 1048577) (h1 : Row w g zs) :
    Calls Try.prog 100 #[.slice (some ⟨g, 0, none⟩) zs.length cap] w fun e w' => e = .returned (.bool (masksB zs)) ∧ Below w.heap.size w w' := by
  have H1 := Lib.hid h1
  have KN := Lib.hid (okG_next zs)
  have KS := Lib.hid (okG_stop zs)
  have KA := Lib.hid (okG_all zs)
  clear h1
  generalize masksB zs = r at *
  go_enter Try.func100, Try.ntmps100
  go_wp2_with fail
  go_loopg [3] (zs.length + 1) (fun kx s3 wr => ∃ j : Nat, s3 = .int .i64 (j : Int) ∧ j ≤ zs.length ∧ kx = zs.length + 1 - j ∧ Hid (okG zs j = true) ∧ Hid (Below w.heap.size w wr))
  case atStart => exact ⟨0, rfl, Nat.zero_le _, rfl, Lib.hid rfl, Lib.hid (Below.refl _ _)⟩
  case round =>
    obtain ⟨j, rfl, hj, rfl, HO, HB⟩ := hrel
    by_cases hlt : j < zs.length
    · obtain ⟨c0, c1, c2, c3, c4⟩ := (H1.out.below HB.out).at j hlt
      have HN := Lib.hid (KN.out j hlt)
      have HS := Lib.hid (KS.out j hlt)
      have GE : zs[j].good = maskB zs[j].f0 zs[j].f1 zs[j].f2 zs[j].f3 zs[j].f4 := rfl
      rw [maskB_spec] at GE
      rw [GE] at HN HS
      clear GE
      generalize zs[j] = x at *
      obtain ⟨x0, x1, x2, x3, x4⟩ := x
      simp only at c0 c1 c2 c3 c4 HN HS
      have I1 := Lib.hid (fun w => l06Turn_any x0 w)
      have I2 := Lib.hid (fun w => l06Turn_any x1 w)
      have I3 := Lib.hid (fun w => l00In_any x3 0 90000 w)
      have I4 := Lib.hid (fun w => l00In_any x2 0 x3 w)
      have I5 := Lib.hid (fun w => l12Level_any x4 w)
      generalize inR 0 359999 [x0] = p1 at *
      generalize inR 0 359999 [x1] = p2 at *
      generalize inR 0 90000 [x3] = p3 at *
      generalize inR 0 x3 [x2] = p4 at *
      generalize inR 0 1000 [x4] = p5 at *
      have j0 : (0 : Int) ≤ (j : Int) := by omega
      have j1 : (j : Int) < (zs.length : Int) := by omega
      have HBa : Hid (Below w.heap.size w (wr.alloc (Obj.cells #[.int .i64 x0, .int .i64 x1, .int .i64 x2, .int .i64 x3, .int .i64 x4] 126))) := Lib.hid (HB.out.alloc HB.out.size _)
      cases p1 with
      | false =>
        have HR := Lib.hid (HS.out (by simp))
        clear HS HN
        go_wp2_with fail
        refine (I1.out _).mono ?_
        rintro e w' ⟨rfl, rfl⟩
        go_wp2_with fail
        go_ret
        exact ⟨ret_bool HR.out.symm, HBa.out⟩
      | true =>
        cases p2 with
        | false =>
          have HR := Lib.hid (HS.out (by simp))
          clear HS HN
          go_wp2_with fail
          refine (I1.out _).mono ?_
          rintro e w' ⟨rfl, rfl⟩
          go_wp2_with fail
          refine (I2.out _).mono ?_
          rintro e w' ⟨rfl, rfl⟩
          go_wp2_with fail
          go_ret
          exact ⟨ret_bool HR.out.symm, HBa.out⟩
        | true =>
          cases p3 with
          | false =>
            have HR := Lib.hid (HS.out (by simp))
            clear HS HN
            go_wp2_with fail
            refine (I1.out _).mono ?_
            rintro e w' ⟨rfl, rfl⟩
            go_wp2_with fail
            refine (I2.out _).mono ?_
            rintro e w' ⟨rfl, rfl⟩
            go_wp2_with fail
            refine (I3.out _).mono ?_
            rintro e w' ⟨rfl, rfl⟩
            go_wp2_with fail
            go_ret
            exact ⟨ret_bool HR.out.symm, HBa.out⟩
          | true =>
            cases p4 with
            | false =>
              have HR := Lib.hid (HS.out (by simp))
              clear HS HN
              go_wp2_with fail
              refine (I1.out _).mono ?_
              rintro e w' ⟨rfl, rfl⟩
              go_wp2_with fail
              refine (I2.out _).mono ?_
              rintro e w' ⟨rfl, rfl⟩
              go_wp2_with fail
              refine (I3.out _).mono ?_
              rintro e w' ⟨rfl, rfl⟩
              go_wp2_with fail
              refine (I4.out _).mono ?_
              rintro e w' ⟨rfl, rfl⟩
              go_wp2_with fail
              go_ret
              exact ⟨ret_bool HR.out.symm, HBa.out⟩
            | true =>
              cases p5 with
              | false =>
                have HR := Lib.hid (HS.out (by simp))
                clear HS HN
                go_wp2_with fail
                refine (I1.out _).mono ?_
                rintro e w' ⟨rfl, rfl⟩
                go_wp2_with fail
                refine (I2.out _).mono ?_
                rintro e w' ⟨rfl, rfl⟩
                go_wp2_with fail
                refine (I3.out _).mono ?_
                rintro e w' ⟨rfl, rfl⟩
                go_wp2_with fail
                refine (I4.out _).mono ?_
                rintro e w' ⟨rfl, rfl⟩
                go_wp2_with fail
                refine (I5.out _).mono ?_
                rintro e w' ⟨rfl, rfl⟩
                go_wp2_with fail
                go_ret
                exact ⟨ret_bool HR.out.symm, HBa.out⟩
              | true =>
                have HT : Hid (okG zs (j + 1) = true) := Lib.hid (by rw [HN.out, HO.out]; rfl)
                clear HS HN
                go_wp2_with fail
                refine (I1.out _).mono ?_
                rintro e w' ⟨rfl, rfl⟩
                go_wp2_with fail
                refine (I2.out _).mono ?_
                rintro e w' ⟨rfl, rfl⟩
                go_wp2_with fail
                refine (I3.out _).mono ?_
                rintro e w' ⟨rfl, rfl⟩
                go_wp2_with fail
                refine (I4.out _).mono ?_
                rintro e w' ⟨rfl, rfl⟩
                go_wp2_with fail
                refine (I5.out _).mono ?_
                rintro e w' ⟨rfl, rfl⟩
                go_wp2_with fail
                go_roundg (zs.length + 1 - (j + 1))
                case measure => omega
                case rel => exact ⟨j + 1, by go_num, by omega, by omega, HT, HBa⟩
    · obtain rfl : j = zs.length := by omega
      have HR := Lib.hid (KA.out HO.out)
      go_wp2_with fail
      go_ret
      refine ⟨ret_bool ?_, HB.out⟩
      rw [HR.out]
      simp only [decide_eq_decide]
      omega
end Go.Proofs.Ytleaoemckdkndaa.Mk
