/-
  Valid meshes and equal meshes (packages impl and spec).
-/
import Derived.Test.YtleaoemckdkndaaMeL
import Derived.Test.YtleaoemckdkndaaSpS
import Derived.Test.YtleaoemckdkndaaCore3
import Derived.IntWalk
namespace Go.Proofs.Ytleaoemckdkndaa.Me
open Go.RowKit
open Sp (V Own Row)
set_option linter.unusedVariables false

/-- A point is on the plane. -/
def ptB (x : V) : Bool := inR (-2000000) 2000000 [x.f0, x.f1]
def sizeB (c r : Int) : Bool := inR 2 9 [c, r]
/-- A mesh is valid. -/
def meshB (c r : Int) (zs : List V) : Bool := sizeB c r && (decide ((zs.length : Int) = c * r) && zs.all ptB)
theorem sizeB_bd {c r : Int} (h : sizeB c r = true) : (2 ≤ c ∧ c ≤ 9) ∧ (2 ≤ r ∧ r ≤ 9) := by
  unfold sizeB at h
  rw [inR_2, Bool.and_eq_true, inR_1, inR_1] at h
  exact h
theorem mul_bd {c r : Int} (hc : 2 ≤ c ∧ c ≤ 9) (hr : 2 ≤ r ∧ r ≤ 9) : 4 ≤ c * r ∧ c * r ≤ 81 := by
  rcases (by omega : c = 2 ∨ c = 3 ∨ c = 4 ∨ c = 5 ∨ c = 6 ∨ c = 7 ∨ c = 8 ∨ c = 9) with rfl | rfl | rfl | rfl | rfl | rfl | rfl | rfl <;> omega
theorem ptB_bd {x : V} (h : ptB x = true) : (-2000000 ≤ x.f0 ∧ x.f0 ≤ 2000000) ∧ (-2000000 ≤ x.f1 ∧ x.f1 ≤ 2000000) := by
  unfold ptB at h
  rw [inR_2, Bool.and_eq_true, inR_1, inR_1] at h
  exact h
theorem not_all (p : V → Bool) (zs : List V) : (!(zs.any fun x => !p x)) = zs.all p := by
  induction zs with
  | nil => rfl
  | cons x zs ih => simp only [List.any_cons, List.all_cons, Bool.not_or, Bool.not_not, ih]

set_option maxHeartbeats 400000 in
theorem onPlane_any (x y : Int) (w : World) :
    Calls Try.prog 118 #[.agg #[.int .i64 x, .int .i64 y]] w fun e w' => e = .returned (.bool (inR (-2000000) 2000000 [x, y])) ∧ Below w.heap.size w w' := by
  go_enter Try.func118, Try.ntmps118
  go_wp2_with fail
  refine (within2 (-2000000) 2000000 x y _ _ _ (by simp) (by simp)).mono ?_
  rintro e w' ⟨rfl, rfl⟩
  go_wp2_with fail
  go_ret
  refine ⟨rfl, ?_⟩
  repeat (first | exact Below.refl _ _ | refine Below.setCell ?_ (by first | (simp; done) | omega | (simp; omega)) _ | refine Below.alloc ?_ (by first | (simp; done) | omega | (simp; omega)) _ | refine bel_drew ?_)
set_option maxHeartbeats 400000 in
theorem notOn_any (x y : Int) (w : World) :
    Calls Try.prog 117 #[.agg #[.int .i64 x, .int .i64 y]] w fun e w' => e = .returned (.bool (!inR (-2000000) 2000000 [x, y])) ∧ Below w.heap.size w w' := by
  have V := Lib.hid (fun w => onPlane_any x y w)
  generalize inR (-2000000) 2000000 [x, y] = p at *
  go_enter Try.func117, Try.ntmps117
  go_wp2_with fail
  refine (V.out _).mono ?_
  rintro e w1 ⟨rfl, hb⟩
  have hsw1 := hb.size
  try simp at hsw1
  obtain ⟨hcw1, hfw1⟩ := bcell hb
  have HBw1 : Hid (Below w.heap.size w w1) := by
    apply Lib.hid
    refine Below.trans ?_ (hb.mono ?_)
    · repeat (first | exact Below.refl _ _ | refine Below.setCell ?_ (by first | (simp; done) | omega | (simp; omega)) _ | refine Below.alloc ?_ (by first | (simp; done) | omega | (simp; omega)) _)
    · first | (simp; done) | omega | (simp; omega)
  have hzw1 : w.heap.size < w1.heap.size := by have := hb.size; (try simp at this); omega
  clear hb
  go_wp2_with fail
  go_ret
  refine ⟨rfl, ?_⟩
  repeat (first | exact Below.refl _ _ | exact HBw1.out | refine Below.setCell ?_ (by first | (simp; done) | omega | (simp; omega)) _ | refine Below.alloc ?_ (by first | (simp; done) | omega | (simp; omega)) _ | refine bel_drew ?_)
set_option maxHeartbeats 400000 in
theorem isMeshSize_any (c r : Int) (w : World) :
    Calls Try.prog 111 #[.int .i64 c, .int .i64 r] w fun e w' => e = .returned (.bool (sizeB c r)) ∧ Below w.heap.size w w' := by
  unfold sizeB
  go_enter Try.func111, Try.ntmps111
  go_wp2_with fail
  refine (within2 2 9 c r _ _ _ (by simp) (by simp)).mono ?_
  rintro e w' ⟨rfl, rfl⟩
  go_wp2_with fail
  go_ret
  refine ⟨rfl, ?_⟩
  repeat (first | exact Below.refl _ _ | refine Below.setCell ?_ (by first | (simp; done) | omega | (simp; omega)) _ | refine Below.alloc ?_ (by first | (simp; done) | omega | (simp; omega)) _ | refine bel_drew ?_)
set_option maxRecDepth 100000 in
set_option maxHeartbeats 1000000 in
theorem validMesh_any (c r : Int) (g cap : Nat) (zs : List V) (w : World) (hb : zs.length ≤ 1048577) (h1 : Row w g zs) :
    Calls Try.prog 66 #[.agg #[.int .i64 c, .int .i64 r, .slice (some ⟨g, 0, none⟩) zs.length cap]] w fun e w' => e = .returned (.bool (meshB c r zs)) ∧ Below w.heap.size w w' := by
  have eg : ∀ args w, (callFunc 117 args).run Try.prog w = .ok (.enter 117 args) w := enters_of Try.func117 (by kernel_rfl) rfl
  have C := Lib.hid (fun (W : World) (hB : Below w.heap.size w W) => Sp.contains_any 117 #[] (fun x => !ptB x) eg g cap zs W hb (h1.below hB) (fun W' j hj _ => notOn_any _ _ W'))
  have S := Lib.hid (fun w => isMeshSize_any c r w)
  have NA := Lib.hid (not_all ptB zs)
  clear eg h1
  unfold meshB
  cases hs : sizeB c r with
  | false =>
    rw [Bool.false_and]
    rw [hs] at S
    clear hs C NA
    go_enter Try.func66, Try.ntmps66
    go_wp2_with fail
    refine (S.out _).mono ?_
    rintro e w1 ⟨rfl, hb⟩
    have hsw1 := hb.size
    try simp at hsw1
    obtain ⟨hcw1, hfw1⟩ := bcell hb
    have HBw1 : Hid (Below w.heap.size w w1) := by
      apply Lib.hid
      refine Below.trans ?_ (hb.mono ?_)
      · repeat (first | exact Below.refl _ _ | refine Below.setCell ?_ (by first | (simp; done) | omega | (simp; omega)) _ | refine Below.alloc ?_ (by first | (simp; done) | omega | (simp; omega)) _)
      · first | (simp; done) | omega | (simp; omega)
    have hzw1 : w.heap.size < w1.heap.size := by have := hb.size; (try simp at this); omega
    clear hb
    go_wp2_with fail
    go_ret
    refine ⟨rfl, ?_⟩
    repeat (first | exact Below.refl _ _ | exact HBw1.out | refine Below.setCell ?_ (by first | (simp; done) | omega | (simp; omega)) _ | refine Below.alloc ?_ (by first | (simp; done) | omega | (simp; omega)) _ | refine bel_drew ?_)
  | true =>
    rw [Bool.true_and]
    rw [hs] at S
    have hbd := sizeB_bd hs
    have hm := mul_bd hbd.1 hbd.2
    have hw : IntKind.i64.wrap (c * r) = c * r := IntWalk.i64_in _ (by omega)
    clear hs hbd
    by_cases hl : (zs.length : Int) = c * r
    · rw [show decide ((zs.length : Int) = c * r) = true by simpa using hl, Bool.true_and]
      go_enter Try.func66, Try.ntmps66
      go_wp2_with fail
      refine (S.out _).mono ?_
      rintro e w1 ⟨rfl, hb⟩
      have hsw1 := hb.size
      try simp at hsw1
      obtain ⟨hcw1, hfw1⟩ := bcell hb
      have HBw1 : Hid (Below w.heap.size w w1) := by
        apply Lib.hid
        refine Below.trans ?_ (hb.mono ?_)
        · repeat (first | exact Below.refl _ _ | refine Below.setCell ?_ (by first | (simp; done) | omega | (simp; omega)) _ | refine Below.alloc ?_ (by first | (simp; done) | omega | (simp; omega)) _)
        · first | (simp; done) | omega | (simp; omega)
      have hzw1 : w.heap.size < w1.heap.size := by have := hb.size; (try simp at this); omega
      clear hb
      go_wp2_with fail
      refine (C.out _ HBw1.out).mono ?_
      rintro e w2 ⟨rfl, hb2⟩
      have HB2 := Lib.hid (HBw1.out.trans (hb2.mono HBw1.out.size))
      clear hb2
      go_wp2_with fail
      go_ret
      exact ⟨ret_bool NA.out, HB2.out⟩
    · rw [show decide ((zs.length : Int) = c * r) = false by simpa using hl, Bool.false_and]
      clear C NA
      go_enter Try.func66, Try.ntmps66
      go_wp2_with fail
      refine (S.out _).mono ?_
      rintro e w1 ⟨rfl, hb⟩
      have hsw1 := hb.size
      try simp at hsw1
      obtain ⟨hcw1, hfw1⟩ := bcell hb
      have HBw1 : Hid (Below w.heap.size w w1) := by
        apply Lib.hid
        refine Below.trans ?_ (hb.mono ?_)
        · repeat (first | exact Below.refl _ _ | refine Below.setCell ?_ (by first | (simp; done) | omega | (simp; omega)) _ | refine Below.alloc ?_ (by first | (simp; done) | omega | (simp; omega)) _)
        · first | (simp; done) | omega | (simp; omega)
      have hzw1 : w.heap.size < w1.heap.size := by have := hb.size; (try simp at this); omega
      clear hb
      go_wp2_with fail
      go_ret
      refine ⟨rfl, ?_⟩
      repeat (first | exact Below.refl _ _ | exact HBw1.out | refine Below.setCell ?_ (by first | (simp; done) | omega | (simp; omega)) _ | refine Below.alloc ?_ (by first | (simp; done) | omega | (simp; omega)) _ | refine bel_drew ?_)

set_option maxHeartbeats 400000 in
theorem l11Spot_any (x y : Int) (w : World) :
    Calls Try.prog 115 #[.agg #[.int .i64 x, .int .i64 y]] w fun e w' => e = .returned (.bool (inR (-2000000) 2000000 [x, y])) ∧ Below w.heap.size w w' := by
  have I1 := Lib.hid (fun w => l00In_any x (-2000000) 2000000 w)
  have I2 := Lib.hid (fun w => l00In_any y (-2000000) 2000000 w)
  rw [inR_2]
  generalize inR (-2000000) 2000000 [x] = p1 at *
  generalize inR (-2000000) 2000000 [y] = p2 at *
  cases p1 with
  | false =>
    rw [Bool.false_and]
    go_enter Try.func115, Try.ntmps115
    go_wp2_with fail
    refine (I1.out _).mono ?_
    rintro e w' ⟨rfl, rfl⟩
    go_wp2_with fail
    go_ret
    refine ⟨rfl, ?_⟩
    repeat (first | exact Below.refl _ _ | refine Below.setCell ?_ (by first | (simp; done) | omega | (simp; omega)) _ | refine Below.alloc ?_ (by first | (simp; done) | omega | (simp; omega)) _ | refine bel_drew ?_)
  | true =>
    rw [Bool.true_and]
    go_enter Try.func115, Try.ntmps115
    go_wp2_with fail
    refine (I1.out _).mono ?_
    rintro e w' ⟨rfl, rfl⟩
    go_wp2_with fail
    refine (I2.out _).mono ?_
    rintro e w' ⟨rfl, rfl⟩
    go_wp2_with fail
    go_ret
    refine ⟨rfl, ?_⟩
    repeat (first | exact Below.refl _ _ | refine Below.setCell ?_ (by first | (simp; done) | omega | (simp; omega)) _ | refine Below.alloc ?_ (by first | (simp; done) | omega | (simp; omega)) _ | refine bel_drew ?_)
theorem quiet_leftM {P : Program} {f : FuncId} {args : Array Value} {w : World} {n : Nat} {v : Value}
    (h : Calls P f args (w.drewN n) fun e w' => e = .returned v ∧ w.drewN n = w') : Calls P f args (w.drewN n) fun e w'' => e = .returned v ∧ ∃ m, w'' = w.drewN m :=
  h.mono fun _ _ ⟨he, hm⟩ => ⟨he, n, hm.symm⟩
def okP (zs : List V) (j : Nat) : Bool := (zs.take j).all ptB
theorem okP_next (zs : List V) (j : Nat) (h : j < zs.length) : okP zs (j + 1) = (okP zs j && ptB zs[j]) := by
  unfold okP
  rw [List.take_succ_eq_append_getElem h, List.all_append]
  simp
theorem okP_stop (zs : List V) (j : Nat) (h : j < zs.length) (hs : ptB zs[j] = false) : zs.all ptB = false := by
  rw [List.all_eq_false]
  exact ⟨zs[j], List.getElem_mem h, by rw [hs]; simp⟩
theorem okP_all (zs : List V) : okP zs zs.length = zs.all ptB := by unfold okP; rw [List.take_length]

set_option maxRecDepth 100000 in
set_option maxHeartbeats 2000000 in
theorem l11Ok_any (b : Nat) (c r : Int) (g cap : Nat) (zs : List V) (w : World) (hb : zs.length ≤ 1048577) (hm : MAt w b c r (.slice (some ⟨g, 0, none⟩) zs.length cap)) (h1 : Row w g zs) :
    Calls Try.prog 62 #[.pointer (some ⟨b, 0, none⟩)] w fun e w' => e = .returned (.bool (meshB c r zs)) ∧ Below w.heap.size w w' := by
  have H1 := Lib.hid h1
  have HM := Lib.hid hm
  obtain ⟨m0, m1, m2⟩ := hm
  have I1 := Lib.hid (fun w => l00In_any c 2 9 w)
  have I2 := Lib.hid (fun w => l00In_any r 2 9 w)
  clear h1
  unfold meshB
  have es : sizeB c r = (inR 2 9 [c] && inR 2 9 [r]) := by unfold sizeB; exact inR_2 _ _ _ _
  cases hc : inR 2 9 [c] with
  | false =>
    rw [hc, Bool.false_and] at es
    rw [hc] at I1
    rw [es, Bool.false_and]
    clear hc es I2 HM H1
    go_enter Try.func62, Try.ntmps62
    go_wp2_with fail
    go_quiet ((go_at_call 69; with_reducible exact quiet_leftM (I1.out _)))
    rename Nat => q1
    go_wp2_with fail
    go_ret
    exact ⟨rfl, Sp.bel_drewNS (Below.refl _ _) _⟩
  | true =>
    rw [hc, Bool.true_and] at es
    rw [hc] at I1
    cases hr : inR 2 9 [r] with
    | false =>
      rw [hr] at es I2
      rw [es, Bool.false_and]
      clear hc es HM H1 hr
      go_enter Try.func62, Try.ntmps62
      go_wp2_with fail
      go_quiet ((first | (go_at_call 69; with_reducible exact quiet_leftM (I1.out _)) | (go_at_call 69; with_reducible exact quiet_leftM (I2.out _))))
      rename Nat => q1
      go_wp2_with fail
      go_ret
      exact ⟨rfl, Sp.bel_drewNS (Below.refl _ _) _⟩
    | true =>
      have hmb := mul_bd ((inR_1 _ _ _).1 hc) ((inR_1 _ _ _).1 hr)
      have hw : IntKind.i64.wrap (c * r) = c * r := IntWalk.i64_in _ (by omega)
      rw [hr] at es I2
      rw [es, Bool.true_and]
      clear hc es hr
      by_cases hl : (zs.length : Int) = c * r
      · rw [show decide ((zs.length : Int) = c * r) = true by simpa using hl, Bool.true_and]
        have PS := Lib.hid (fun x y w => l11Spot_any x y w)
        have KN := Lib.hid (okP_next zs)
        have KS := Lib.hid (okP_stop zs)
        have KA := Lib.hid (okP_all zs)
        go_enter Try.func62, Try.ntmps62
        go_wp2_with fail
        go_quiet ((first | (go_at_call 69; with_reducible exact quiet_leftM (I1.out _)) | (go_at_call 69; with_reducible exact quiet_leftM (I2.out _))))
        rename Nat => q1
        go_wp2_with fail
        have HB0 : Hid (Below w.heap.size w (w.drewN q1)) := Lib.hid (Sp.bel_drewNS (Below.refl _ _) _)
        clear m0 m1 m2 hw
        have HL := Lib.hid hl
        clear hl hmb
        go_loopg [3] (zs.length + 1) (fun kx s3 wr => ∃ j : Nat, s3 = .int .i64 (j : Int) ∧ j ≤ zs.length ∧ kx = zs.length + 1 - j ∧ Hid (okP zs j = true) ∧ Hid (Below w.heap.size w wr))
        case atStart => exact ⟨0, rfl, Nat.zero_le _, rfl, Lib.hid rfl, HB0⟩
        case round =>
          obtain ⟨j, rfl, hj, rfl, HO, HB⟩ := hrel
          obtain ⟨m0, m1, m2⟩ := HM.out.below HB.out
          by_cases hlt : j < zs.length
          · obtain ⟨c0, c1⟩ := (H1.out.below HB.out).at j hlt
            have P := Lib.hid (fun w => PS.out zs[j].f0 zs[j].f1 w)
            have PE : Hid (inR (-2000000) 2000000 [zs[j].f0, zs[j].f1] = ptB zs[j]) := Lib.hid rfl
            have HN := Lib.hid (KN.out j hlt)
            have HS := Lib.hid (KS.out j hlt)
            rw [PE.out] at P
            clear PE
            generalize ptB zs[j] = p at *
            generalize zs[j] = x at *
            obtain ⟨x0, x1⟩ := x
            simp only at c0 c1 P
            have j0 : (0 : Int) ≤ (j : Int) := by omega
            have j1 : (j : Int) < (zs.length : Int) := by omega
            cases p with
            | true =>
              have HT : Hid (okP zs (j + 1) = true) := Lib.hid (by rw [HN.out, HO.out]; rfl)
              clear HN HS
              go_wp2_with fail
              refine (P.out _).mono ?_
              rintro e w1 ⟨rfl, hb1⟩
              have HB1 := Lib.hid (HB.out.trans (hb1.mono HB.out.size))
              clear hb1
              go_wp2_with fail
              go_roundg (zs.length + 1 - (j + 1))
              case measure => omega
              case rel => exact ⟨j + 1, by go_num, by omega, by omega, HT, HB1⟩
            | false =>
              have HR := Lib.hid (HS.out rfl)
              clear HN HS
              go_wp2_with fail
              refine (P.out _).mono ?_
              rintro e w1 ⟨rfl, hb1⟩
              have HB1 := Lib.hid (HB.out.trans (hb1.mono HB.out.size))
              clear hb1
              go_wp2_with fail
              go_ret
              exact ⟨ret_bool HR.out.symm, HB1.out⟩
          · obtain rfl : j = zs.length := by omega
            go_wp2_with fail
            go_ret
            exact ⟨ret_bool (by rw [← KA.out, HO.out]), HB.out⟩
      · rw [show decide ((zs.length : Int) = c * r) = false by simpa using hl, Bool.false_and]
        clear HM H1
        go_enter Try.func62, Try.ntmps62
        go_wp2_with fail
        go_quiet ((first | (go_at_call 69; with_reducible exact quiet_leftM (I1.out _)) | (go_at_call 69; with_reducible exact quiet_leftM (I2.out _))))
        rename Nat => q1
        go_wp2_with fail
        go_ret
        exact ⟨rfl, Sp.bel_drewNS (Below.refl _ _) _⟩

end Go.Proofs.Ytleaoemckdkndaa.Me
