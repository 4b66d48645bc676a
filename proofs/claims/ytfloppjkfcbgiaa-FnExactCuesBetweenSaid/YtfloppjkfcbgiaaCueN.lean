/-
  InsertTime (both packages).
-/
import Derived.Test.YtfloppjkfcbgiaaCueQ
import Derived.Test.YtfloppjkfcbgiaaSrch
namespace Go.Proofs.Ytfloppjkfcbgiaa.Cue
open Go.RowKit
open Sm (memS)
set_option linter.unusedVariables false

/-- A cue moved if it begins late enough. -/
def mvd (a b : Int) (x : V) : V := if a ≤ x.f1 then ⟨x.f0, x.f1 + b, x.f2, x.f3, x.f4, x.f5⟩ else x
def insTo (a b : Int) (zs : List V) (j : Nat) : List V := (zs.take j).map (mvd a b) ++ zs.drop j
theorem insTo_len (a b : Int) (zs : List V) (j : Nat) (h : j ≤ zs.length) : (insTo a b zs j).length = zs.length := by
  unfold insTo
  rw [List.length_append, List.length_map, List.length_take, List.length_drop]
  omega
theorem insTo_zero (a b : Int) (zs : List V) : insTo a b zs 0 = zs := by simp [insTo]
theorem insTo_all (a b : Int) (zs : List V) : insTo a b zs zs.length = zs.map (mvd a b) := by simp [insTo]
theorem insTo_at (a b : Int) (zs : List V) (j : Nat) (h : j < zs.length) : (insTo a b zs j).set j zs[j] = insTo a b zs j := by
  have hl : ((zs.take j).map (mvd a b)).length = j := by rw [List.length_map, List.length_take]; omega
  unfold insTo
  rw [List.drop_eq_getElem_cons h, List.set_append_right _ _ (by omega), hl, Nat.sub_self, List.set_cons_zero]
theorem insTo_set (a b : Int) (zs : List V) (j : Nat) (h : j < zs.length) : (insTo a b zs j).set j (mvd a b zs[j]) = insTo a b zs (j + 1) := by
  have hl : ((zs.take j).map (mvd a b)).length = j := by rw [List.length_map, List.length_take]; omega
  unfold insTo
  rw [List.drop_eq_getElem_cons h, List.set_append_right _ _ (by omega), hl, Nat.sub_self, List.set_cons_zero, List.take_succ_eq_append_getElem h, List.map_append, List.append_assoc]
  rfl
theorem insTo_get (a b : Int) (zs : List V) (j : Nat) (h : j < zs.length) (h2 : j < (insTo a b zs j).length) : (insTo a b zs j)[j] = zs[j] := by
  have hl : ((zs.take j).map (mvd a b)).length = j := by rw [List.length_map, List.length_take]; omega
  have e : (insTo a b zs j)[j]? = some zs[j] := by
    unfold insTo
    rw [List.getElem?_append_right (by omega), hl, Nat.sub_self, List.getElem?_drop, Nat.add_zero, List.getElem?_eq_getElem h]
  rw [List.getElem?_eq_getElem h2] at e
  exact Option.some.inj e
theorem insTo_skip (a b : Int) (zs : List V) : ∀ j, j ≤ zs.length → (∀ i, (hi : i < zs.length) → i < j → ¬ a ≤ zs[i].f1) → insTo a b zs j = zs
  | 0, _, _ => insTo_zero a b zs
  | j + 1, hj, h => by
    rw [← insTo_set a b zs j (by omega)]
    have e : mvd a b zs[j] = zs[j] := by unfold mvd; rw [if_neg (h j (by omega) (by omega))]
    rw [e, insTo_at a b zs j (by omega)]
    exact insTo_skip a b zs j (by omega) (fun i hi hij => h i hi (by omega))
def insV (zs : List V) (a b : Int) : List V × Int :=
  if cuesB zs = true then (if (inR 0 7200000 [a] && inR 0 7200000 [b]) = true then (if cuesB (zs.map (mvd a b)) = true then (zs.map (mvd a b), 0) else ([], 6)) else ([], 2)) else ([], 1)
theorem insV_len (zs : List V) (a b : Int) : (insV zs a b).1.length ≤ zs.length := by
  unfold insV
  split
  · split
    · split
      · rw [List.length_map]; exact Nat.le_refl _
      · exact Nat.zero_le _
    · exact Nat.zero_le _
  · exact Nat.zero_le _
/-- What a list and a code come to. -/
def LPost (r : List V × Int) (w : World) (e : Ending) (w' : World) : Prop := ∃ v, e = .returned (.tuple #[v, .int .i64 r.2]) ∧ Own w' w.heap.size w'.heap.size v r.1 ∧ Below w.heap.size w w'
theorem mvd_txt {a b : Int} {zs : List V} (h : ∀ j, (hj : j < zs.length) → zs[j].txt) : ∀ j, (hj : j < (zs.map (mvd a b)).length) → (zs.map (mvd a b))[j].txt := by
  intro j hj
  rw [List.getElem_map]
  have := h j (by simpa using hj)
  unfold mvd
  split
  · exact this
  · exact this

set_option maxRecDepth 100000 in
set_option maxHeartbeats 8000000 in
theorem specIns_any (g cap : Nat) (zs : List V) (a b : Int) (w : World) (hb : zs.length ≤ 1048577) (h1 : Row w g zs) :
    Calls Try.prog 31 #[.slice (some ⟨g, 0, none⟩) zs.length cap, .int .i64 a, .int .i64 b] w (LPost (insV zs a b) w) := by
  have V := Lib.hid (okS_any g cap zs w hb h1)
  have H1 := Lib.hid h1
  have T1 := Lib.hid (fun w => l13Time_any a w)
  have T2 := Lib.hid (fun w => l13Time_any b w)
  clear h1
  unfold insV
  cases ho : cuesB zs with
  | false =>
    rw [if_neg (by simp)]
    rw [ho] at V
    clear ho
    go_enter Try.func31, Try.ntmps31
    go_wp2_with fail
    refine V.out.mono ?_
    rintro e w1 ⟨rfl, hb1⟩
    have HB1 := Lib.hid hb1
    clear hb1
    go_wp2_with fail
    go_ret2
    exact ⟨_, rfl, Own.nil _ _ _, HB1.out⟩
  | true =>
    rw [if_pos rfl]
    rw [ho] at V
    cases ha : inR 0 7200000 [a] with
    | false =>
      rw [ha] at T1
      rw [Bool.false_and, if_neg (by simp)]
      clear ho ha
      go_enter Try.func31, Try.ntmps31
      go_wp2_with fail
      refine V.out.mono ?_
      rintro e w1 ⟨rfl, hb1⟩
      have HB1 := Lib.hid hb1
      clear hb1
      go_wp2_with fail
      refine (T1.out _).mono ?_
      rintro e w' ⟨rfl, rfl⟩
      go_wp2_with fail
      go_ret2
      exact ⟨_, rfl, Own.nil _ _ _, HB1.out⟩
    | true =>
      rw [ha] at T1
      rw [Bool.true_and]
      have hab := (inR_1 _ _ _).1 ha
      clear ha
      cases hbb : inR 0 7200000 [b] with
      | false =>
        rw [hbb] at T2
        rw [if_neg (by simp)]
        clear ho hbb
        go_enter Try.func31, Try.ntmps31
        go_wp2_with fail
        refine V.out.mono ?_
        rintro e w1 ⟨rfl, hb1⟩
        have HB1 := Lib.hid hb1
        clear hb1
        go_wp2_with fail
        refine (T1.out _).mono ?_
        rintro e w' ⟨rfl, rfl⟩
        go_wp2_with fail
        refine (T2.out _).mono ?_
        rintro e w' ⟨rfl, rfl⟩
        go_wp2_with fail
        go_ret2
        exact ⟨_, rfl, Own.nil _ _ _, HB1.out⟩
      | true =>
        rw [hbb] at T2
        rw [if_pos rfl]
        have hbd := (inR_1 _ _ _).1 hbb
        obtain ⟨R, hR⟩ : ∃ R, R = (if cuesB (zs.map (mvd a b)) = true then (zs.map (mvd a b), (0 : Int)) else ([], 6)) := ⟨_, rfl⟩
        rw [← hR]
        have HR := Lib.hid hR
        clear hR
        clear hbb
        have hz32 := cuesB_len ho
        have GB := Lib.hid (fun j hj => good_bd (cuesB_good ho j hj))
        have IL := Lib.hid (insTo_len a b zs)
        have IS := Lib.hid (insTo_set a b zs)
        have IG := Lib.hid (insTo_get a b zs)
        have IAt := Lib.hid (insTo_at a b zs)
        have IA := Lib.hid (insTo_all a b zs)
        have I0 := insTo_zero a b zs
        clear ho
        generalize insTo a b zs = M at *
        obtain ⟨i0, hi, hzz⟩ := Option.map_eq_some_iff.1 info_rec
        simp only [Prod.mk.injEq] at hzz
        obtain ⟨hz0, hz1, hz2⟩ := hzz
        go_enter Try.func31, Try.ntmps31
        go_wp2_with fail
        refine V.out.mono ?_
        rintro e w1 ⟨rfl, hb1⟩
        have HB1 := Lib.hid hb1
        clear hb1
        go_wp2_with fail
        refine (T1.out _).mono ?_
        rintro e w' ⟨rfl, rfl⟩
        go_wp2_with fail
        refine (T2.out _).mono ?_
        rintro e w' ⟨rfl, rfl⟩
        have own0 : (w1.alloc (Obj.cells #[] 26)).ownsRow w1.heap.size 26 6 (.slice (some ⟨w1.heap.size, 0, none⟩) 0 0) 0 [] := World.ownsRow_made w1 #[] 0 (Nat.le_refl _) (Nat.zero_le _) rfl
        have hb2 : Below w1.heap.size w1 (w1.alloc (Obj.cells #[] 26)) := (Below.refl _ _).alloc (Nat.le_refl _) _
        have L1 : (flat zs).length = zs.length * 6 := flat_len zs
        have P1 := flat_one zs
        have S1 := ((H1.out.below HB1.out).below hb2).src
        have hm1 : 0 + zs.length ≤ maxLen := by unfold maxLen; omega
        have hy1 : (0 + zs.length) * 64 ≤ 140737488355328 := by omega
        go_wp2_with (at_builtin; refine wpList_append_own _ rfl _ _ 32 rfl w1.heap.size 26 i0 (.agg #[.string ByteArray.empty, .int .i64 0, .int .i64 0, .string ByteArray.empty, .int .i64 0, .int .i64 0]) 6 64 Try.underlying32 hi hz0 hz1 hz2 rfl (by decide) _ _ _ rfl own0 ⟨g, 0, none⟩ zs.length _ (flat zs) rfl L1 S1 P1 hm1 hy1 hb2.size ?_; intro v3 w3 hown3 hgrow3 hnil3; have hb3 : Below w1.heap.size w1 w3 := hb2.grown hgrow3 hb2.size (fun kk hk => (own0.lt kk hk).1); have O3 : Hid (Own w3 w1.heap.size w3.heap.size v3 zs) := Lib.hid (Own.mk (by simpa using hown3)); have N3 : Hid (v3 ≠ .slice none 0 0) := Lib.hid (fun e => by have := (hnil3.1 e).1; cases this))
        have HB3 := Lib.hid (HB1.out.trans (hb3.mono HB1.out.size))
        have hs3 := hb3.size
        clear hb3 hgrow3 hown3 own0 hb2 L1 P1 S1 hi hz0 hz1 hz2 hnil3 hm1 hy1
        obtain ⟨h, hcp, rfl, hh1, hh2⟩ : ∃ h hcp, v3 = .slice (some ⟨h, 0, none⟩) zs.length hcp ∧ w1.heap.size ≤ h ∧ h < w3.heap.size := by
          rcases O3.out.forms with ⟨e, _⟩ | ⟨h, c, e, e1, e2, _⟩
          · exact absurd e N3.out
          · exact ⟨h, c, e, e1, e2⟩
        have hw1 := HB1.out.size
        have M0 : Hid (Own w3 w.heap.size w3.heap.size (.slice (some ⟨h, 0, none⟩) zs.length hcp) (M 0)) := Lib.hid (by rw [I0]; exact O3.out.le hw1 (Nat.le_refl _))
        have hC := Nat.le_refl w3.heap.size
        clear O3 N3 I0
        obtain ⟨CC, hCC⟩ : ∃ C, C = w3.heap.size := ⟨_, rfl⟩
        rw [← hCC] at M0 hh2
        clear hC
        go_wp2_with fail
        go_loopg [9] (zs.length + 1) (fun kx s9 wr => ∃ j : Nat, s9 = .int .i64 (j : Int) ∧ j ≤ zs.length ∧ kx = zs.length + 1 - j ∧ Hid (Own wr w.heap.size CC (.slice (some ⟨h, 0, none⟩) zs.length hcp) (M j)) ∧ Hid (Below w.heap.size w wr) ∧ CC ≤ wr.heap.size)
        case atStart => exact ⟨0, rfl, Nat.zero_le _, rfl, M0, HB3, by omega⟩
        case round =>
          obtain ⟨j, rfl, hj, rfl, HO, HB, hcw⟩ := hrel
          by_cases hlt : j < zs.length
          · have j0 : (0 : Int) ≤ (j : Int) := by omega
            have j1 : (j : Int) < (zs.length : Int) := by omega
            have hml := IL.out j hj
            have gb := GB.out j hlt
            have hat := HO.out.at j (by omega)
            rw [IG.out j hlt (by omega)] at hat
            rw [getD_at zs j hlt] at gb
            have hms := IS.out j hlt
            have hma := IAt.out j hlt
            obtain ⟨c0, c1, c2, c3, c4, c5⟩ := hat
            have f1 := HO.out.free (j * 6 + 1)
            generalize zs[j] = x at *
            obtain ⟨x0, x1, x2, x3, x4, x5⟩ := x
            unfold mvd at hms
            simp only at c0 c1 c2 c3 c4 c5 gb hms
            by_cases hc : a ≤ x1
            · rw [if_pos hc] at hms
              have hO := HO.out
              rw [← hma] at hO
              have PU := Lib.hid (Own.put1 hO (by omega) (x1 + b))
              rw [hms] at PU
              have PB := Lib.hid (HB.out.setCell (p := ⟨h, j * 6 + 1, none⟩) (show w.heap.size ≤ h by omega) (.int .i64 (x1 + b)))
              have hz : CC ≤ (wr.setCell ⟨h, j * 6 + 1, none⟩ (.int .i64 (x1 + b))).heap.size := by simpa [World.setCell] using hcw
              have HZ := Lib.hid hz
              have hsum : 0 ≤ x1 + b ∧ x1 + b ≤ 14400000 := by omega
              clear hO hms hma hz gb
              go_wp2_with fail
              go_roundg (zs.length + 1 - (j + 1))
              case measure => omega
              case rel => exact ⟨j + 1, by go_num, by omega, by omega, PU, PB, HZ.out⟩
            · rw [if_neg hc, hma] at hms
              have hc2 : decide (a ≤ x1) = false := decide_eq_false hc
              have PU : Hid (Own wr w.heap.size CC (.slice (some ⟨h, 0, none⟩) zs.length hcp) (M (j + 1))) := Lib.hid (by rw [← hms]; exact HO.out)
              clear hms hma gb
              go_wp2_with fail
              go_roundg (zs.length + 1 - (j + 1))
              case measure => omega
              case rel => exact ⟨j + 1, by go_num, by omega, by omega, PU, HB, hcw⟩
          · obtain rfl : j = zs.length := by omega
            have hO := HO.out
            rw [IA.out] at hO
            have hll : (zs.map (mvd a b)).length = zs.length := List.length_map _
            have V2 := Lib.hid (okS_any h hcp (zs.map (mvd a b)) wr (by omega) hO.row)
            rw [hll] at V2
            have HO2 := Lib.hid hO
            clear hO
            cases hv : cuesB (zs.map (mvd a b)) with
            | false =>
              have hr := HR.out
              rw [hv, if_neg (by simp)] at hr
              subst hr
              rw [hv] at V2
              go_wp2_with fail
              refine V2.out.mono ?_
              rintro e w5 ⟨rfl, hb5⟩
              have HB5 := Lib.hid (HB.out.trans (hb5.mono HB.out.size))
              clear hb5
              go_wp2_with fail
              go_ret2
              exact ⟨_, rfl, Own.nil _ _ _, HB5.out⟩
            | true =>
              have hr := HR.out
              rw [hv, if_pos rfl] at hr
              subst hr
              rw [hv] at V2
              go_wp2_with fail
              refine V2.out.mono ?_
              rintro e w5 ⟨rfl, hb5⟩
              have HB5 := Lib.hid (HB.out.trans (hb5.mono HB.out.size))
              have HO5 := Lib.hid ((HO2.out.below hb5).le (Nat.le_refl _) (show CC ≤ w5.heap.size from Nat.le_trans hcw hb5.size))
              clear hb5
              go_wp2_with fail
              go_ret2
              exact ⟨_, rfl, HO5.out, HB5.out⟩

def lateB (zs : List V) (a : Int) (i : Nat) : Bool := decide (a ≤ (zs.getD i zero).f1)
def latN (zs : List V) (a : Int) : Nat := cnt zs.length (lateB zs a)
theorem latN_le (zs : List V) (a : Int) : latN zs a ≤ zs.length := cnt_le _ _
theorem lateB_mono {zs : List V} (h : cuesB zs = true) (a : Int) (i j : Nat) (hij : i ≤ j) (hj : j < zs.length) (hi : lateB zs a i = true) : lateB zs a j = true := by
  unfold lateB at *
  rw [decide_eq_true_eq] at *
  have := cuesB_time h i j hij hj
  omega
theorem latN_iff {zs : List V} (h : cuesB zs = true) (a : Int) (i : Nat) (hi : i < zs.length) : a ≤ (zs.getD i zero).f1 ↔ latN zs a ≤ i := by
  have := cnt_iff zs.length (lateB zs a) (lateB_mono h a) i hi
  unfold lateB at this
  rwa [decide_eq_true_eq] at this
set_option maxRecDepth 100000 in
set_option maxHeartbeats 2000000 in
theorem late_any (g cap b1 b2 : Nat) (zs : List V) (x : Int) (i : Nat) (W : World) (hi : i < zs.length) (hb : zs.length ≤ 1048577) (h1 : Row W g zs) (hc : W.cell? ⟨b1, 0, none⟩ = some (.slice (some ⟨g, 0, none⟩) zs.length cap)) (hx : W.cell? ⟨b2, 0, none⟩ = some (.int .i64 x)) :
    Calls Try.prog 97 #[.int .i64 (i : Int), .pointer (some ⟨b1, 0, none⟩), .pointer (some ⟨b2, 0, none⟩)] W fun e w' => e = .returned (.bool (lateB zs x i)) ∧ Below W.heap.size W w' := by
  obtain ⟨c0, c1, c2, c3, c4, c5⟩ := h1.at i hi
  unfold lateB
  rw [getD_at zs i hi]
  clear c0 c2 c3 c4 c5 h1
  generalize zs[i].f1 = p0 at *
  have i0 : (0 : Int) ≤ (i : Int) := by omega
  have i1 : (i : Int) < (zs.length : Int) := by omega
  go_enter Try.func97, Try.ntmps97
  go_wp2_with fail
  go_quiet (fail)
  rename Nat => q1
  go_wp2_with fail
  go_ret
  exact ⟨rfl, bel_dC (Below.refl _ _) _⟩
set_option maxRecDepth 100000 in
set_option maxHeartbeats 2000000 in
theorem firstFrom_any (g cap : Nat) (zs : List V) (x : Int) (w : World) (h1 : Row w g zs) (ho : cuesB zs = true) :
    Calls Try.prog 70 #[.slice (some ⟨g, 0, none⟩) zs.length cap, .int .i64 x] w fun e w' => e = .returned (.int .i64 (latN zs x : Nat)) ∧ Below w.heap.size w w' := by
  have hz32 := cuesB_len ho
  obtain ⟨W0, hW0⟩ : ∃ W0, W0 = (w.alloc (Obj.cells #[.slice (some ⟨g, 0, none⟩) zs.length cap] 32)).alloc (Obj.cells #[.int .i64 x] 2) := ⟨_, rfl⟩
  have hB0 : Below w.heap.size w W0 := by rw [hW0]; exact ((Below.refl _ w).alloc (Nat.le_refl _) _).alloc (by simp) _
  have e0 : W0.cell? ⟨w.heap.size, 0, none⟩ = some (.slice (some ⟨g, 0, none⟩) zs.length cap) := by rw [hW0, World.cell?_alloc_lt _ _ _ (by simp)]; simp
  have e1 : W0.cell? ⟨w.heap.size + 1, 0, none⟩ = some (.int .i64 x) := by rw [hW0]; first | (simp; done) | (rw [show w.heap.size + 1 = (w.alloc (Obj.cells #[.slice (some ⟨g, 0, none⟩) zs.length cap] 32)).heap.size by simp, World.cell?_alloc_at]; rfl)
  have hl0 := World.block_lt_of_cell? W0 ⟨w.heap.size, 0, none⟩ e0
  have hl1 := World.block_lt_of_cell? W0 ⟨w.heap.size + 1, 0, none⟩ e1
  have SE := Lib.hid (search_any 97 #[.pointer (some ⟨w.heap.size, 0, none⟩), .pointer (some ⟨w.heap.size + 1, 0, none⟩)] zs.length (lateB zs x) W0 (enters_of Try.func97 (by kernel_rfl) rfl) (by omega)
    (fun W i hB hi => late_any g cap w.heap.size (w.heap.size + 1) zs x i W hi (by omega) ((h1.below hB0).below hB) ((hB.cell (p := ⟨w.heap.size, 0, none⟩) hl0).trans e0) ((hB.cell (p := ⟨w.heap.size + 1, 0, none⟩) hl1).trans e1))
    (lateB_mono ho x))
  have hcn : cnt zs.length (lateB zs x) = latN zs x := rfl
  rw [hcn] at SE
  clear hcn ho h1 hl0 hl1
  have HW := Lib.hid hW0
  have HB0 := Lib.hid hB0
  clear hW0 hB0
  generalize latN zs x = r at *
  go_enter Try.func70, Try.ntmps70
  go_wp2_with fail
  rw [← HW.out]
  refine (SE.out).mono ?_
  rintro e w1 ⟨rfl, hb1⟩
  have HB1 := Lib.hid (HB0.out.trans (hb1.mono HB0.out.size))
  clear hb1
  go_wp2_with fail
  go_ret
  exact ⟨rfl, HB1.out⟩
set_option maxRecDepth 100000 in
set_option maxHeartbeats 8000000 in
theorem implIns_any (g cap : Nat) (zs : List V) (a b : Int) (w : World) (hb : zs.length ≤ 1048577) (h1 : Row w g zs) (hok : ∀ j, (h : j < zs.length) → zs[j].txt) :
    Calls Try.prog 32 #[.slice (some ⟨g, 0, none⟩) zs.length cap, .int .i64 a, .int .i64 b] w (LPost (insV zs a b) w) := by
  have V := Lib.hid (implValid_any g cap zs w hb h1 hok)
  have H1 := Lib.hid h1
  have TX := Lib.hid (mvd_txt (a := a) (b := b) hok)
  have T2 := Lib.hid (fun bl cap w hc hc' => areTimes2 a b bl cap w hc hc')
  clear h1 hok
  unfold insV
  rw [← inR_2]
  cases ho : cuesB zs with
  | false =>
    rw [if_neg (by simp)]
    rw [ho] at V
    clear ho
    go_enter Try.func32, Try.ntmps32
    go_wp2_with fail
    refine V.out.mono ?_
    rintro e w1 ⟨rfl, hb1⟩
    have HB1 := Lib.hid hb1
    clear hb1
    go_wp2_with fail
    go_ret2
    exact ⟨_, rfl, Own.nil _ _ _, HB1.out⟩
  | true =>
    rw [if_pos rfl]
    rw [ho] at V
    cases hr : inR 0 7200000 [a, b] with
    | false =>
      rw [hr] at T2
      rw [if_neg (by simp)]
      clear ho hr
      go_enter Try.func32, Try.ntmps32
      go_wp2_with fail
      refine V.out.mono ?_
      rintro e w1 ⟨rfl, hb1⟩
      have HB1 := Lib.hid hb1
      clear hb1
      go_wp2_with fail
      refine (T2.out _ _ _ (by first | (simp; done) | (rw [World.cell?_alloc_at _ _ _ _ (by simp)]; rfl) | (rw [World.cell?_alloc_at]; rfl)) (by first | (simp; done) | (rw [World.cell?_alloc_at _ _ _ _ (by simp)]; rfl) | (rw [World.cell?_alloc_at]; rfl))).mono ?_
      rintro e w' ⟨rfl, rfl⟩
      go_wp2_with fail
      go_ret2
      exact ⟨_, rfl, Own.nil _ _ _, HB1.out.alloc HB1.out.size _⟩
    | true =>
      rw [hr] at T2
      rw [if_pos rfl]
      rw [inR_2, Bool.and_eq_true, inR_1, inR_1] at hr
      obtain ⟨hab, hbd⟩ := hr
      obtain ⟨R, hR⟩ : ∃ R, R = (if cuesB (zs.map (mvd a b)) = true then (zs.map (mvd a b), (0 : Int)) else ([], 6)) := ⟨_, rfl⟩
      rw [← hR]
      have HR := Lib.hid hR
      clear hR
      have hz32 := cuesB_len ho
      have CL := Lib.hid (fun (W : World) (h : Row W g zs) => clone_any g cap zs W hb h)
      have FF := Lib.hid (fun (W : World) (h : Row W g zs) => firstFrom_any g cap zs a W h ho)
      have LI := Lib.hid (fun i hi => latN_iff ho a i hi)
      have LL := latN_le zs a
      have GB := Lib.hid (fun j hj => good_bd (cuesB_good ho j hj))
      have IL := Lib.hid (insTo_len a b zs)
      have IS := Lib.hid (insTo_set a b zs)
      have IG := Lib.hid (insTo_get a b zs)
      have IAt := Lib.hid (insTo_at a b zs)
      have IA := Lib.hid (insTo_all a b zs)
      have I0 : insTo a b zs (latN zs a) = zs := insTo_skip a b zs (latN zs a) LL (fun i hi hlt hle => by
        have := (latN_iff ho a i hi).1 (by rw [getD_at zs i hi]; exact hle)
        omega)
      clear ho
      generalize insTo a b zs = M at *
      generalize latN zs a = s at *
      go_enter Try.func32, Try.ntmps32
      go_wp2_with fail
      refine V.out.mono ?_
      rintro e w1 ⟨rfl, hb1⟩
      have HB1 := Lib.hid hb1
      clear hb1
      go_wp2_with fail
      refine (T2.out _ _ _ (by first | (simp; done) | (rw [World.cell?_alloc_at _ _ _ _ (by simp)]; rfl) | (rw [World.cell?_alloc_at]; rfl)) (by first | (simp; done) | (rw [World.cell?_alloc_at _ _ _ _ (by simp)]; rfl) | (rw [World.cell?_alloc_at]; rfl))).mono ?_
      rintro e w' ⟨rfl, rfl⟩
      have HB2 := Lib.hid (HB1.out.alloc HB1.out.size (Obj.cells #[.int .i64 a, .int .i64 b] 2))
      go_wp2_with fail
      refine (CL.out _ (H1.out.below HB2.out)).mono ?_
      rintro e w3 ⟨v3, rfl, ho3, hn3, hb3⟩
      have hsz := HB2.out.size
      have HB3 := Lib.hid (HB2.out.trans (hb3.mono HB2.out.size))
      obtain ⟨h, hcp, rfl, hh1, hh2⟩ : ∃ h hcp, v3 = .slice (some ⟨h, 0, none⟩) zs.length hcp ∧ w.heap.size ≤ h ∧ h < w3.heap.size := by
        rcases ho3.forms with ⟨e, _⟩ | ⟨h, c, e, e1, e2, _⟩
        · exact absurd e hn3
        · exact ⟨h, c, e, by omega, e2⟩
      have O3 := Lib.hid (ho3.le hsz (Nat.le_refl _))
      clear ho3 hn3 hb3
      go_wp2_with fail
      refine (FF.out _ (H1.out.below HB3.out)).mono ?_
      rintro e w4 ⟨rfl, hb4⟩
      have HB4 := Lib.hid (HB3.out.trans (hb4.mono HB3.out.size))
      obtain ⟨CC, hCC⟩ : ∃ C, C = w3.heap.size := ⟨_, rfl⟩
      have hc4 := hb4.size
      rw [← hCC] at hh2 O3 hc4
      have M0 : Hid (Own w4 w.heap.size CC (.slice (some ⟨h, 0, none⟩) zs.length hcp) (M s)) := Lib.hid (by rw [I0]; exact (O3.out.below hb4))
      clear hb4 O3 I0 hCC
      go_wp2_with fail
      go_loopg [9] (zs.length + 1 - s) (fun kx s9 wr => ∃ j : Nat, s9 = .int .i64 (j : Int) ∧ s ≤ j ∧ j ≤ zs.length ∧ kx = zs.length + 1 - j ∧ Hid (Own wr w.heap.size CC (.slice (some ⟨h, 0, none⟩) zs.length hcp) (M j)) ∧ Hid (Below w.heap.size w wr) ∧ CC ≤ wr.heap.size)
      case atStart => exact ⟨s, rfl, Nat.le_refl _, LL, by omega, M0, HB4, hc4⟩
      case round =>
        obtain ⟨j, rfl, hsj, hj, rfl, HO, HB, hcw⟩ := hrel
        by_cases hlt : j < zs.length
        · have j0 : (0 : Int) ≤ (j : Int) := by omega
          have j1 : (j : Int) < (zs.length : Int) := by omega
          have hml := IL.out j hj
          have gb := GB.out j hlt
          have hat := HO.out.at j (by omega)
          rw [IG.out j hlt (by omega)] at hat
          have hc := (LI.out j hlt).2 hsj
          rw [getD_at zs j hlt] at gb hc
          have hms := IS.out j hlt
          have hma := IAt.out j hlt
          obtain ⟨c0, c1, c2, c3, c4, c5⟩ := hat
          have f1 := HO.out.free (j * 6 + 1)
          generalize zs[j] = x at *
          obtain ⟨x0, x1, x2, x3, x4, x5⟩ := x
          unfold mvd at hms
          simp only at c0 c1 c2 c3 c4 c5 gb hms hc
          rw [if_pos hc] at hms
          have hO := HO.out
          rw [← hma] at hO
          have PU := Lib.hid (Own.put1 hO (by omega) (x1 + b))
          rw [hms] at PU
          have PB := Lib.hid (HB.out.setCell (p := ⟨h, j * 6 + 1, none⟩) hh1 (.int .i64 (x1 + b)))
          have hz : CC ≤ (wr.setCell ⟨h, j * 6 + 1, none⟩ (.int .i64 (x1 + b))).heap.size := by simpa [World.setCell] using hcw
          have HZ := Lib.hid hz
          have hsum : 0 ≤ x1 + b ∧ x1 + b ≤ 14400000 := by omega
          clear hO hms hma hz gb
          go_wp2_with fail
          go_roundg (zs.length + 1 - (j + 1))
          case measure => omega
          case rel => exact ⟨j + 1, by go_num, by omega, by omega, by omega, PU, PB, HZ.out⟩
        · obtain rfl : j = zs.length := by omega
          have hO := HO.out
          rw [IA.out] at hO
          have hll : (zs.map (mvd a b)).length = zs.length := List.length_map _
          have V2 := Lib.hid (implValid_any h hcp (zs.map (mvd a b)) wr (by omega) hO.row TX.out)
          rw [hll] at V2
          have HO2 := Lib.hid hO
          clear hO
          cases hv : cuesB (zs.map (mvd a b)) with
          | false =>
            have hr := HR.out
            rw [hv, if_neg (by simp)] at hr
            subst hr
            rw [hv] at V2
            go_wp2_with fail
            refine V2.out.mono ?_
            rintro e w5 ⟨rfl, hb5⟩
            have HB5 := Lib.hid (HB.out.trans (hb5.mono HB.out.size))
            clear hb5
            go_wp2_with fail
            go_ret2
            exact ⟨_, rfl, Own.nil _ _ _, HB5.out⟩
          | true =>
            have hr := HR.out
            rw [hv, if_pos rfl] at hr
            subst hr
            rw [hv] at V2
            go_wp2_with fail
            refine V2.out.mono ?_
            rintro e w5 ⟨rfl, hb5⟩
            have HB5 := Lib.hid (HB.out.trans (hb5.mono HB.out.size))
            have HO5 := Lib.hid ((HO2.out.below hb5).le (Nat.le_refl _) (show CC ≤ w5.heap.size from Nat.le_trans hcw hb5.size))
            clear hb5
            go_wp2_with fail
            go_ret2
            exact ⟨_, rfl, HO5.out, HB5.out⟩
end Go.Proofs.Ytfloppjkfcbgiaa.Cue
