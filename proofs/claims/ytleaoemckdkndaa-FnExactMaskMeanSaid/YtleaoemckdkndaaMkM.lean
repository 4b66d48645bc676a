/-
  MaskMean (both packages).
-/
import Derived.Test.YtleaoemckdkndaaMkW
import Derived.Test.YtleaoemckdkndaaDome11
import Derived.Test.YtleaoemckdkndaaSpots2
import Derived.Deep.RegionHeld3
import Derived.Handy
namespace Go.Proofs.Ytleaoemckdkndaa.Mk
open Go.RowKit
set_option linter.unusedVariables false

/-- The level that the masks leave at the j-th direction. -/
def lvA (zs : List V) (L : List (Int × Int)) (j : Nat) : Int := levelB zs (L.getD j (0, 0)).1 (L.getD j (0, 0)).2
def sumD (v : Nat → Int) : Nat → Int
  | 0 => 0
  | j + 1 => sumD v j + v j
theorem sumD_bd {v : Nat → Int} {n : Nat} (h : ∀ j, j < n → 0 ≤ v j ∧ v j ≤ 1000) : ∀ j, j ≤ n → 0 ≤ sumD v j ∧ sumD v j ≤ 1000 * (j : Int)
  | 0, _ => ⟨Int.le_refl _, by show (0 : Int) ≤ _; omega⟩
  | j + 1, hj => by
    have ih := sumD_bd h j (by omega)
    have g := h j (by omega)
    unfold sumD
    omega
theorem dget (L : List (Int × Int)) (j : Nat) (h : j < L.length) : L.getD j (0, 0) = L[j] := by rw [List.getD, List.getElem?_eq_getElem h]; rfl
theorem lvA_bd {zs : List V} (hg : masksB zs = true) (L : List (Int × Int)) (j : Nat) : 0 ≤ lvA zs L j ∧ lvA zs L j ≤ 1000 := lvN_bd hg _ _ zs.length (Nat.le_refl _)
theorem tdq (a : Int) (n : Nat) (h0 : 0 ≤ a) : a.tdiv (n : Int) = a / (n : Int) := Int.tdiv_eq_ediv_of_nonneg h0
def meanV (zs : List V) (t : Int) : Int × Int := if masksB zs = true then (if inR 10000 90000 [t] = true then (sumD (lvA zs (upsL t)) (upsL t).length / ((upsL t).length : Int), 0) else (0, 2)) else (0, 1)
def NPost (r : Int × Int) (w : World) (e : Ending) (w' : World) : Prop := e = .returned (.tuple #[.int .i64 r.1, .int .i64 r.2]) ∧ Below w.heap.size w w'
theorem step_any (t : Int) (w : World) :
    Calls Try.prog 101 #[.int .i64 t] w fun e w' => e = .returned (.bool (inR 10000 90000 [t])) ∧ w = w' := by
  go_enter Try.func101, Try.ntmps101
  go_wp2_with fail
  refine (l00In_any _ _ _ _).mono ?_
  rintro e w' ⟨rfl, rfl⟩
  go_wp2_with fail
  go_ret
  exact ⟨rfl, rfl⟩

set_option maxRecDepth 100000 in
set_option maxHeartbeats 4000000 in
theorem specMean_any (g cap : Nat) (zs : List V) (t : Int) (w : World) (hb : zs.length ≤ 1048577) (h1 : Row w g zs) :
    Calls Try.prog 50 #[.slice (some ⟨g, 0, none⟩) zs.length cap, .int .i64 t] w (NPost (meanV zs t) w) := by
  have V := Lib.hid (l12Masks_any g cap zs w hb h1)
  have S := Lib.hid (fun w => step_any t w)
  have MK := Lib.hid (fun (W : World) (hB : Below w.heap.size w W) hg a h ha => l12Mask_any g cap zs a h W hb (h1.below hB) hg ha)
  clear h1
  unfold meanV
  cases ho : masksB zs with
  | false =>
    rw [if_neg (by simp)]
    rw [ho] at V
    clear ho MK
    go_enter Try.func50, Try.ntmps50
    go_wp2_with fail
    refine V.out.mono ?_
    rintro e w1 ⟨rfl, hb1⟩
    have HB1 := Lib.hid hb1
    clear hb1
    go_wp2_with fail
    go_ret2
    exact ⟨rfl, HB1.out⟩
  | true =>
    rw [if_pos rfl]
    rw [ho] at V
    cases ht : inR 10000 90000 [t] with
    | false =>
      rw [if_neg (by simp)]
      rw [ht] at S
      clear ho ht MK
      go_enter Try.func50, Try.ntmps50
      go_wp2_with fail
      refine V.out.mono ?_
      rintro e w1 ⟨rfl, hb1⟩
      have HB1 := Lib.hid hb1
      clear hb1
      go_wp2_with fail
      refine (S.out _).mono ?_
      rintro e w' ⟨rfl, rfl⟩
      go_wp2_with fail
      go_ret2
      exact ⟨rfl, HB1.out⟩
    | true =>
      rw [if_pos rfl]
      rw [ht] at S
      have hr := (inR_1 _ _ _).1 ht
      have MK2 := Lib.hid (fun W hB a h ha => MK.out W hB ho a h ha)
      have LV := Lib.hid (lvA_bd ho (upsL t))
      have SP := Lib.hid (fun w => l10Spots_any t hr.1 hr.2 w)
      have LP := upsL_pos t hr.1
      have LB : (upsL t).length ≤ 360 := upsN_bd t hr.1 _ (Nat.le_refl _)
      have IN := Lib.hid (upsL_in t (by omega))
      have LD : Hid (∀ j, (hj : j < (upsL t).length) → lvA zs (upsL t) j = levelB zs (upsL t)[j].1 (upsL t)[j].2) := Lib.hid (fun j hj => by unfold lvA; rw [dget _ j hj])
      have SB := Lib.hid (sumD_bd (v := lvA zs (upsL t)) (n := (upsL t).length) (fun j _ => LV.out j))
      have SN : Hid (∀ j, sumD (lvA zs (upsL t)) (j + 1) = sumD (lvA zs (upsL t)) j + lvA zs (upsL t) j) := Lib.hid (fun _ => rfl)
      have S0 : sumD (lvA zs (upsL t)) 0 = 0 := rfl
      generalize sumD (lvA zs (upsL t)) = sm at *
      generalize lvA zs (upsL t) = lv at *
      generalize upsL t = L at *
      clear ho ht MK hr
      go_enter Try.func50, Try.ntmps50
      go_wp2_with fail
      refine V.out.mono ?_
      rintro e w0 ⟨rfl, hb0⟩
      have HB0 := Lib.hid hb0
      clear hb0
      go_wp2_with fail
      refine (S.out _).mono ?_
      rintro e w' ⟨rfl, rfl⟩
      go_wp2_with fail
      refine (SP.out _).mono ?_
      rintro e w1 ⟨v, rfl, ⟨bs, hs⟩, hb1⟩
      obtain ⟨g', cap', rfl, hcell⟩ := hs.at LP
      have HS := Lib.hid hs
      have HC := Lib.hid hcell
      have HB1 := Lib.hid (HB0.out.trans (hb1.mono HB0.out.size))
      clear hs hcell hb1
      go_wp2_with fail
      go_loopg [7, 8] (L.length + 1) (fun kx s8 s9 wr => ∃ j : Nat, s8 = .int .i64 (sm j) ∧ s9 = .int .i64 (j : Int) ∧ j ≤ L.length ∧ kx = L.length + 1 - j ∧ Hid (Below w1.heap.size w1 wr))
      case atStart => exact ⟨0, by rw [S0], rfl, Nat.zero_le _, rfl, Lib.hid (Below.refl _ _)⟩
      case round =>
        obtain ⟨j, rfl, rfl, hj, rfl, HB⟩ := hrel
        by_cases hlt : j < L.length
        · have j0 : (0 : Int) ≤ (j : Int) := by omega
          have j1 : (j : Int) < (L.length : Int) := by omega
          have hs' := HS.out.below HB.out
          obtain ⟨p0, p1⟩ := hs'.pair j hlt
          have cj : wr.cell? ⟨g', j, none⟩ = some (.slice (some ⟨bs j, 0, none⟩) 2 2) := (HB.out.cell (p := ⟨g', j, none⟩) (World.block_lt_of_cell? w1 ⟨g', j, none⟩ (HC.out j hlt))).trans (HC.out j hlt)
          obtain ⟨⟨u0, u1⟩, v0, v1⟩ := IN.out L[j] (List.getElem_mem hlt)
          have HW := Lib.hid (HB1.out.trans (HB.out.mono HB1.out.size))
          have R := Lib.hid (fun W hB => MK2.out W hB L[j].1 L[j].2 ⟨u0, u1⟩)
          rw [← LD.out j hlt] at R
          have SNj := SN.out j
          have sb := SB.out j hj
          have lb := LV.out j
          generalize hE1 : sm (j + 1) = s1 at *
          have HE1 := Lib.hid hE1
          clear hE1
          generalize lv j = n at *
          generalize sm j = s at *
          generalize L[j] = x at *
          obtain ⟨a, h⟩ := x
          simp only at p0 p1 R
          have wk1 : IntKind.i64.wrap (s + n) = s + n := IntWalk.i64_in _ (by omega)
          have wk2 : wrap64 (s + n) = s + n := IntWalk.wrap64_in _ (by omega)
          have K : Hid ((fun X => X.cell? ⟨g', j, none⟩ = some (.slice (some ⟨bs j, 0, none⟩) 2 2) ∧ X.cell? ⟨bs j, 0, none⟩ = some (.int .i64 a) ∧ X.cell? ⟨bs j, 1, none⟩ = some (.int .i64 h) ∧ Below w1.heap.size w1 X) wr) := Lib.hid ⟨cj, p0, p1, HB.out⟩
          have hrs := HB.out.size
          have HE2 := Lib.hid SNj
          clear SNj sb lb hs' cj p0 p1 u0 u1 v0 v1
          generalize bs j = bj at *
          go_wp2_with fail
          go_region_held3 (fun X => X.cell? ⟨g', j, none⟩ = some (.slice (some ⟨bj, 0, none⟩) 2 2) ∧ X.cell? ⟨bj, 0, none⟩ = some (.int .i64 a) ∧ X.cell? ⟨bj, 1, none⟩ = some (.int .i64 h) ∧ Below w1.heap.size w1 X) (first | (exact keepG3 K.out hrs (drewG wr)) | (exact keepG3 K.out hrs y5) | go_keep) ((first
            | (go_at_call 103; (refine (R.out _ (HW.out.trans ((drewG wr).mono HW.out.size))).mono ?_); rintro e x5 ⟨rfl, hb5⟩; have y5 := undrewG hb5)))
          all_goals
            rename_i held
            have HR5 := Lib.hid (HB.out.trans (y5.mono HB.out.size))
            clear held hb5 y5
            go_wp2_with fail
            go_roundg (L.length + 1 - (j + 1))
            case measure => omega
            case rel => exact ⟨j + 1, by rw [HE1.out, HE2.out], by go_num, by omega, by omega, HR5⟩
        · obtain rfl : j = L.length := by omega
          have mb := SB.out L.length (Nat.le_refl _)
          generalize sm L.length = m at *
          have q0 : m.tdiv (L.length : Int) = m / (L.length : Int) := tdq _ _ (by omega)
          have qb : 0 ≤ m / (L.length : Int) := Int.ediv_nonneg (by omega) (by omega)
          have qc : m / (L.length : Int) ≤ 1000 := Int.ediv_le_of_le_mul (by omega) (by omega)
          have e3 : IntKind.i64.wrap (m / (L.length : Int)) = m / (L.length : Int) := IntWalk.i64_in _ (by omega)
          have e5 : IntKind.i64.wrap (L.length : Int) = (L.length : Int) := IntWalk.i64_in _ (by omega)
          have hz : ¬ (L.length : Int) = 0 := by omega
          have HF := Lib.hid (HB1.out.trans (HB.out.mono HB1.out.size))
          clear qb qc mb
          go_wp2_with fail
          go_ret2
          exact ⟨by first | rfl | simp [q0, e3, e5], HF.out⟩

set_option maxHeartbeats 1000000 in
theorem behind_any (b g cap : Nat) (zs : List V) (a h : Int) (w : World) (hb : zs.length ≤ 1048577) (hc : w.cell? ⟨b, 0, none⟩ = some (.slice (some ⟨g, 0, none⟩) zs.length cap)) (h1 : Row w g zs) (hg : masksB zs = true) (ha : 0 ≤ a ∧ a ≤ 359999) :
    Calls Try.prog 108 #[.agg #[.int .i64 a, .int .i64 h], .pointer (some ⟨b, 0, none⟩)] w fun e w' => e = .returned (.int .i64 (levelB zs a h)) ∧ Below w.heap.size w w' := by
  have hbl := World.block_lt_of_cell? w ⟨b, 0, none⟩ hc
  simp only at hbl
  have HB0 := (Below.refl w.heap.size w).alloc (Nat.le_refl _) (Obj.cells #[.int .i64 a, .int .i64 h] 133)
  have c2 := (HB0.cell (p := ⟨b, 0, none⟩) hbl).trans hc
  have C := Lib.hid (levelBehind_any g cap zs a h _ hb (h1.below HB0) hg ha)
  have HB := Lib.hid HB0
  clear HB0 hc h1 hg
  go_enter Try.func108, Try.ntmps108
  go_wp2_with fail
  refine C.out.mono ?_
  rintro e w2 ⟨rfl, hb2⟩
  have HB2 := Lib.hid (HB.out.trans (hb2.mono HB.out.size))
  clear hb2
  go_wp2_with fail
  go_ret
  exact ⟨rfl, HB2.out⟩

set_option maxRecDepth 100000 in
set_option maxHeartbeats 2000000 in
theorem sumD_any (f : Nat) (cb : Array Value) (g cap : Nat) (L : List (Int × Int)) (v : Nat → Int) (w : World) (eg : ∀ args w, (callFunc f args).run Try.prog w = .ok (.enter f args) w) (hn : L.length ≤ 1000)
    (hc : ∀ j, (hj : j < L.length) → w.cell? ⟨g, j * 2, none⟩ = some (.int .i64 L[j].1) ∧ w.cell? ⟨g, j * 2 + 1, none⟩ = some (.int .i64 L[j].2)) (hv : ∀ i, i < L.length → 0 ≤ v i ∧ v i ≤ 1000)
    (hf : ∀ (X : World) (i : Nat) (hi : i < L.length), Below w.heap.size w X → Calls Try.prog f (#[.agg #[.int .i64 L[i].1, .int .i64 L[i].2]] ++ cb) X fun e w' => e = .returned (.int .i64 (v i)) ∧ Below X.heap.size X w') :
    Calls Try.prog 107 #[.slice (some ⟨g, 0, none⟩) L.length cap, .func (.func f) #[] cb] w fun e w' => e = .returned (.int .i64 (sumD v L.length)) ∧ Below w.heap.size w w' := by
  have HF := Lib.hid hf
  have HR := Lib.hid hc
  have SB := Lib.hid (sumD_bd hv)
  have HV := Lib.hid hv
  clear hf hc hv
  go_enter Try.func107, Try.ntmps107
  go_wp2_with fail
  go_loopg [5, 10] (L.length + 1) (fun kx s5 s10 wr => ∃ j : Nat, s5 = .int .i64 (sumD v j) ∧ s10 = .int .i64 (j : Int) ∧ j ≤ L.length ∧ kx = L.length + 1 - j ∧ Hid (Below w.heap.size w wr))
  case atStart => exact ⟨0, rfl, rfl, Nat.zero_le _, rfl, Lib.hid (Below.refl _ _)⟩
  case round =>
    obtain ⟨j, rfl, rfl, hj, rfl, HB⟩ := hrel
    by_cases hlt : j < L.length
    · have hat := HR.out j hlt
      have c0 := (HB.out.cell (p := ⟨g, j * 2, none⟩) (World.block_lt_of_cell? w ⟨g, j * 2, none⟩ hat.1)).trans hat.1
      have c1 := (HB.out.cell (p := ⟨g, j * 2 + 1, none⟩) (World.block_lt_of_cell? w ⟨g, j * 2 + 1, none⟩ hat.2)).trans hat.2
      have s0 := SB.out j hj
      have v0 := HV.out j hlt
      have j0 : (0 : Int) ≤ (j : Int) := by omega
      have j1 : (j : Int) < (L.length : Int) := by omega
      have HB0 : Hid (Below w.heap.size w (wr.alloc (.cells #[.int .i64 L[j].1, .int .i64 L[j].2] 133))) := Lib.hid (HB.out.alloc HB.out.size _)
      have C := Lib.hid (HF.out _ j hlt HB0.out)
      have SN : Hid (sumD v (j + 1) = sumD v j + v j) := Lib.hid rfl
      have wr1 : IntKind.i64.wrap (sumD v j + v j) = sumD v j + v j := IntWalk.i64_in _ (by omega)
      have wr2 : wrap64 (sumD v j + v j) = sumD v j + v j := IntWalk.wrap64_in _ (by omega)
      clear s0 v0 hat
      generalize hs : sumD v (j + 1) = sn at *
      have HS := Lib.hid hs
      clear hs
      generalize sumD v j = sj at *
      generalize v j = vj at *
      generalize L[j] = x at *
      obtain ⟨a, h⟩ := x
      simp only at c0 c1 C HB0
      go_wp2_with (go_at_fn f; refine C.out.mono ?_; rintro e w2 ⟨rfl, hb2⟩)
      have HB2 := Lib.hid (HB0.out.trans (hb2.mono HB0.out.size))
      clear hb2
      go_roundg (L.length + 1 - (j + 1))
      case measure => omega
      case rel => exact ⟨j + 1, by rw [HS.out, SN.out], by go_num, by omega, rfl, HB2⟩
    · obtain rfl : j = L.length := by omega
      go_wp2_with fail
      go_ret
      exact ⟨rfl, HB.out⟩

set_option maxRecDepth 100000 in
set_option maxHeartbeats 4000000 in
theorem implMean_any (g cap : Nat) (zs : List V) (t : Int) (w : World) (hb : zs.length ≤ 1048577) (h1 : Row w g zs) :
    Calls Try.prog 52 #[.slice (some ⟨g, 0, none⟩) zs.length cap, .int .i64 t] w (NPost (meanV zs t) w) := by
  have V := Lib.hid (fun (W : World) (hB : Below w.heap.size w W) => implValid_any g cap zs W hb (h1.below hB))
  have BH := Lib.hid (fun (W : World) (hB : Below w.heap.size w W) b hc hg a h ha => behind_any b g cap zs a h W hb hc (h1.below hB) hg ha)
  have eg : ∀ args w, (callFunc 108 args).run Try.prog w = .ok (.enter 108 args) w := enters_of Try.func108 (by kernel_rfl) rfl
  clear h1
  unfold meanV
  obtain ⟨T, hT⟩ : ∃ T, T = inR 10000 90000 [t] := ⟨_, rfl⟩
  have WI : Hid (∀ (b cap : Nat) (w : World) (hc : w.cell? ⟨b, 0, none⟩ = some (.int .i64 t)), Calls Try.prog 71 #[.int .i64 10000, .int .i64 90000, .slice (some ⟨b, 0, none⟩) 1 cap] w fun e w' => e = .returned (.bool T) ∧ w = w') := Lib.hid (by
    intro b cap w hc
    rw [hT]
    exact within1 10000 90000 t b cap w hc)
  cases ho : masksB zs with
  | false =>
    rw [if_neg (by simp)]
    rw [ho] at V
    clear ho BH WI hT
    go_enter Try.func52, Try.ntmps52
    go_wp2_with fail
    refine (V.out _ (by repeat (first | exact Below.refl _ _ | refine Below.setCell ?_ (by first | (simp; done) | omega | (simp; omega)) _ | refine Below.alloc ?_ (by first | (simp; done) | omega | (simp; omega)) _ | refine bel_drew ?_)
      )).mono ?_
    rintro e w1 ⟨rfl, hb1⟩
    have HB1 : Hid (Below w.heap.size w w1) := Lib.hid (((Below.refl _ _).alloc (Nat.le_refl _) _).trans (hb1.mono (by simp)))
    clear hb1
    go_wp2_with fail
    go_ret2
    exact ⟨rfl, HB1.out⟩
  | true =>
    rw [if_pos rfl]
    rw [ho] at V
    rw [← hT]
    have HB0 := (Below.refl w.heap.size w).alloc (Nat.le_refl _) (Obj.cells #[.slice (some ⟨g, 0, none⟩) zs.length cap] 67)
    obtain ⟨W1, hW1⟩ : ∃ W, W = w.alloc (Obj.cells #[.slice (some ⟨g, 0, none⟩) zs.length cap] 67) := ⟨_, rfl⟩
    rw [← hW1] at HB0
    have c1 : W1.cell? ⟨w.heap.size, 0, none⟩ = some (.slice (some ⟨g, 0, none⟩) zs.length cap) := by rw [hW1]; simp
    have hz1 : w.heap.size < W1.heap.size := by rw [hW1]; simp
    cases T with
    | false =>
      rw [if_neg (by simp)]
      have HB1 := Lib.hid HB0
      clear ho BH hT HB0
      go_enter Try.func52, Try.ntmps52
      go_wp2_with fail
      rw [← hW1]
      clear hW1
      go_wp2_with fail
      refine (V.out _ HB1.out).mono ?_
      rintro e w2 ⟨rfl, hb2⟩
      have HB2 := Lib.hid (HB1.out.trans (hb2.mono HB1.out.size))
      clear hb2 c1
      go_wp2_with fail
      refine (WI.out _ _ _ (by simp)).mono ?_
      rintro e w' ⟨rfl, rfl⟩
      have HB3 := Lib.hid (HB2.out.alloc HB2.out.size (Obj.cells #[.int .i64 t] 2))
      go_wp2_with fail
      go_ret2
      exact ⟨rfl, HB3.out⟩
    | true =>
      rw [if_pos rfl]
      have HB1 := Lib.hid HB0
      clear HB0
      have hr := (inR_1 _ _ _).1 hT.symm
      have LV := Lib.hid (lvA_bd ho (upsL t))
      have DU := Lib.hid (fun w => directionsUp_any t hr.1 hr.2 w)
      have LP := upsL_pos t hr.1
      have LB : (upsL t).length ≤ 360 := upsN_bd t hr.1 _ (Nat.le_refl _)
      have IN := Lib.hid (upsL_in t (by omega))
      have LD : Hid (∀ j, (hj : j < (upsL t).length) → lvA zs (upsL t) j = levelB zs (upsL t)[j].1 (upsL t)[j].2) := Lib.hid (fun j hj => by unfold lvA; rw [dget _ j hj])
      have mb := sumD_bd (v := lvA zs (upsL t)) (n := (upsL t).length) (fun j _ => LV.out j) _ (Nat.le_refl _)
      have BH2 : Hid (∀ (W : World), Below w.heap.size w W → W.cell? ⟨w.heap.size, 0, none⟩ = some (.slice (some ⟨g, 0, none⟩) zs.length cap) → ∀ (i : Nat) (hi : i < (upsL t).length), Calls Try.prog 108 #[.agg #[.int .i64 (upsL t)[i].1, .int .i64 (upsL t)[i].2], .pointer (some ⟨w.heap.size, 0, none⟩)] W fun e w' => e = .returned (.int .i64 (lvA zs (upsL t) i)) ∧ Below W.heap.size W w') := Lib.hid (by
        intro W hB hc i hi
        rw [LD.out i hi]
        exact BH.out W hB _ hc ho _ _ (IN.out _ (List.getElem_mem hi)).1)
      clear ho hT BH hr IN LD
      generalize upsL t = L at *
      go_enter Try.func52, Try.ntmps52
      go_wp2_with fail
      rw [← hW1]
      clear hW1
      go_wp2_with fail
      refine (V.out _ HB1.out).mono ?_
      rintro e w2 ⟨rfl, hb2⟩
      have HB2 := Lib.hid (HB1.out.trans (hb2.mono HB1.out.size))
      have c2 := Lib.hid ((hb2.cell (p := ⟨w.heap.size, 0, none⟩) hz1).trans c1)
      have hz2 : w.heap.size < w2.heap.size := Nat.lt_of_lt_of_le hz1 hb2.size
      clear hb2 c1 hz1
      go_wp2_with fail
      refine (WI.out _ _ _ (by simp)).mono ?_
      rintro e w' ⟨rfl, rfl⟩
      have HB3 := Lib.hid (HB2.out.alloc HB2.out.size (Obj.cells #[.int .i64 t] 2))
      have c3 := Lib.hid ((((Below.refl w2.heap.size w2).alloc (Nat.le_refl _) (Obj.cells #[.int .i64 t] 2)).cell (p := ⟨w.heap.size, 0, none⟩) hz2).trans c2.out)
      go_wp2_with fail
      refine (DU.out _).mono ?_
      rintro e w4 ⟨v, rfl, hown, hb4⟩
      have HB4 := Lib.hid (HB3.out.trans (hb4.mono HB3.out.size))
      have c4 := Lib.hid ((hb4.cell (p := ⟨w.heap.size, 0, none⟩) (by simp; omega)).trans c3.out)
      have hz4 : w.heap.size < w4.heap.size := by have := hb4.size; simp at this; omega
      obtain ⟨g', cap', hv, hg1, hg2⟩ := World.ownsRow.form hown LP
      subst hv
      have HC : Hid (∀ j, (hj : j < L.length) → w4.cell? ⟨g', j * 2, none⟩ = some (.int .i64 L[j].1) ∧ w4.cell? ⟨g', j * 2 + 1, none⟩ = some (.int .i64 L[j].2)) := Lib.hid (fun j hj => by
        have := flatD_at L j hj
        exact ⟨by rw [World.ownsRow.cellAt hown (j * 2) (by omega)]; exact this.1, by rw [World.ownsRow.cellAt hown (j * 2 + 1) (by omega)]; exact this.2⟩)
      have SU := Lib.hid (sumD_any 108 #[.pointer (some ⟨w.heap.size, 0, none⟩)] g' cap' L (lvA zs L) w4 eg (by omega) HC.out (fun i _ => LV.out i)
        (fun X i hi hB => BH2.out X (HB4.out.trans (hB.mono HB4.out.size)) ((hB.cell (p := ⟨w.heap.size, 0, none⟩) hz4).trans c4.out) i hi))
      clear hown hb4 hg1 hg2 hz2 hz4
      generalize sumD (lvA zs L) L.length = m at *
      go_wp2_with fail
      refine (SU.out).mono ?_
      rintro e w5 ⟨rfl, hb5⟩
      have HB5 := Lib.hid (HB4.out.trans (hb5.mono HB4.out.size))
      clear hb5
      have q0 : m.tdiv (L.length : Int) = m / (L.length : Int) := tdq _ _ (by omega)
      have qb : 0 ≤ m / (L.length : Int) := Int.ediv_nonneg (by omega) (by omega)
      have qc : m / (L.length : Int) ≤ 1000 := Int.ediv_le_of_le_mul (by omega) (by omega)
      have e3 : IntKind.i64.wrap (m / (L.length : Int)) = m / (L.length : Int) := IntWalk.i64_in _ (by omega)
      have e5 : IntKind.i64.wrap (L.length : Int) = (L.length : Int) := IntWalk.i64_in _ (by omega)
      have hz : ¬ (L.length : Int) = 0 := by omega
      clear qb qc mb
      go_wp2_with fail
      go_ret2
      exact ⟨by first | rfl | simp [q0, e3, e5], HB5.out⟩
end Go.Proofs.Ytleaoemckdkndaa.Mk
