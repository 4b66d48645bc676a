/-
  RaiseBlack (both packages).
-/
import Derived.Test.YtleaoemckdkndaaKnG
import Derived.Test.YtleaoemckdkndaaPow
import Derived.Test.YtleaoemckdkndaaKnS
import Derived.Deep.RegionHeld3
import Derived.Deep.AppendLies
namespace Go.Proofs.Ytleaoemckdkndaa.Kn
open Go.RowKit
set_option linter.unusedVariables false

def rsd (l : Int) (x : V) : V := ⟨x.f0, l + nearQ (x.f1 * (1000 - l)) 1000⟩
def rsL (zs : List V) (l : Int) (j : Nat) : List V := (zs.take j).map (rsd l)
theorem rsL_next (zs : List V) (l : Int) (j : Nat) (h : j < zs.length) : rsL zs l (j + 1) = rsL zs l j ++ [rsd l (gk zs j)] := by
  unfold rsL
  rw [List.take_succ_eq_append_getElem h, List.map_append, gk_at zs j h]
  rfl
theorem rsL_len (zs : List V) (l : Int) (j : Nat) (h : j ≤ zs.length) : (rsL zs l j).length = j := by
  unfold rsL
  rw [List.length_map, List.length_take]
  omega
theorem rsL_all (zs : List V) (l : Int) : rsL zs l zs.length = zs.map (rsd l) := by unfold rsL; rw [List.take_length]
/-- The first j raised, the others as they were. -/
def rsT (zs : List V) (l : Int) (j : Nat) : List V := (zs.take j).map (rsd l) ++ zs.drop j
theorem rsT_len (zs : List V) (l : Int) (j : Nat) (h : j ≤ zs.length) : (rsT zs l j).length = zs.length := by
  unfold rsT
  rw [List.length_append, List.length_map, List.length_take, List.length_drop]
  omega
theorem rsT_zero (zs : List V) (l : Int) : rsT zs l 0 = zs := by simp [rsT]
theorem rsT_all (zs : List V) (l : Int) : rsT zs l zs.length = zs.map (rsd l) := by simp [rsT]
theorem rsT_at (zs : List V) (l : Int) (j : Nat) (h : j < zs.length) : (rsT zs l j).set j zs[j] = rsT zs l j := by
  have hl : ((zs.take j).map (rsd l)).length = j := by rw [List.length_map, List.length_take]; omega
  unfold rsT
  rw [List.drop_eq_getElem_cons h, List.set_append_right _ _ (by omega), hl, Nat.sub_self, List.set_cons_zero]
theorem rsT_set (zs : List V) (l : Int) (j : Nat) (h : j < zs.length) : (rsT zs l j).set j (rsd l zs[j]) = rsT zs l (j + 1) := by
  have hl : ((zs.take j).map (rsd l)).length = j := by rw [List.length_map, List.length_take]; omega
  unfold rsT
  rw [List.drop_eq_getElem_cons h, List.set_append_right _ _ (by omega), hl, Nat.sub_self, List.set_cons_zero, List.take_succ_eq_append_getElem h, List.map_append, List.append_assoc]
  rfl
theorem rsT_get (zs : List V) (l : Int) (j : Nat) (h : j < zs.length) (h2 : j < (rsT zs l j).length) : (rsT zs l j)[j] = zs[j] := by
  have hl : ((zs.take j).map (rsd l)).length = j := by rw [List.length_map, List.length_take]; omega
  have e : (rsT zs l j)[j]? = some zs[j] := by
    unfold rsT
    rw [List.getElem?_append_right (by omega), hl, Nat.sub_self, List.getElem?_drop, Nat.add_zero, List.getElem?_eq_getElem h]
  rw [List.getElem?_eq_getElem h2] at e
  exact Option.some.inj e
def raiV (zs : List V) (l : Int) : KR := if curveB zs = true then (if inR 0 1000 [l] = true then (zs.map (rsd l), 0) else ([], 2)) else ([], 1)
theorem raiV_len (zs : List V) (l : Int) : (raiV zs l).1.length ≤ zs.length := by
  unfold raiV
  split
  · split
    · rw [List.length_map]; exact Nat.le_refl _
    · exact Nat.zero_le _
  · exact Nat.zero_le _
theorem rs_bd {y l : Int} (hy : 0 ≤ y ∧ y ≤ 1000) (hl : 0 ≤ l ∧ l ≤ 1000) : (0 ≤ y * (1000 - l) ∧ y * (1000 - l) ≤ 1000000) ∧ 0 ≤ nearQ (y * (1000 - l)) 1000 ∧ nearQ (y * (1000 - l)) 1000 ≤ 1000 := by
  have h := mul_pw (v := y) (x := 1000 - l) hy (by omega)
  refine ⟨h, ?_⟩
  rw [nearQ_pp _ _ h.1 (by omega)]
  omega

theorem grownR {B : Nat} {w0 w w1 : World} {e : TypeId} {v : Value} {n : Nat} {xs : List Value} (hown : w.ownsRow B e 2 v n xs) (hb : Below B w0 w) (hB : B ≤ w.heap.size) (hg : w.grownBy w1 v.ownBlock) : Below B w0 w1 :=
  hb.grown hg hB (fun k hk => (hown.lt k hk).1)

set_option maxRecDepth 100000 in
set_option maxHeartbeats 4000000 in
theorem implRaise_any (g cap : Nat) (zs : List V) (l : Int) (w : World) (hb : zs.length ≤ 1048577) (h1 : Row w g zs) :
    Calls Try.prog 40 #[.slice (some ⟨g, 0, none⟩) zs.length cap, .int .i64 l] w (KPost (raiV zs l) w) := by
  have V := Lib.hid (implCurve_any g cap zs w hb h1)
  have L := Lib.hid (fun b cap w hc => areLevels1_any l b cap w hc)
  have CL := Lib.hid (fun (W : World) (hB : Below w.heap.size w W) => clone_any g cap zs W hb (h1.below hB))
  clear h1
  unfold raiV
  cases ho : curveB zs with
  | false =>
    rw [if_neg (by simp)]
    rw [ho] at V
    clear ho
    go_enter Try.func40, Try.ntmps40
    go_wp2_with fail
    refine V.out.mono ?_
    rintro e w1 ⟨rfl, hb1⟩
    have HB1 := Lib.hid hb1
    clear hb1
    go_wp2_with fail
    go_ret2
    exact ⟨_, rfl, Own.nil _ _ _, HB1.out⟩
  | true =>
    rw [if_pos rfl]
    rw [ho] at V
    have hc := cur_of ho
    clear ho
    cases hx : inR 0 1000 [l] with
    | false =>
      rw [hx] at L
      rw [if_neg (by simp)]
      clear hx hc
      go_enter Try.func40, Try.ntmps40
      go_wp2_with fail
      refine V.out.mono ?_
      rintro e w1 ⟨rfl, hb1⟩
      have HB1 := Lib.hid hb1
      clear hb1
      go_wp2_with fail
      refine (L.out _ _ _ (by simp)).mono ?_
      rintro e w' ⟨rfl, rfl⟩
      go_wp2_with fail
      go_ret2
      exact ⟨_, rfl, Own.nil _ _ _, HB1.out.alloc HB1.out.size _⟩
    | true =>
      rw [hx] at L
      rw [if_pos rfl]
      have hl := (inR_1 _ _ _).1 hx
      have n2 := hc.n2
      have n16 := hc.n16
      have CI := Lib.hid hc.i
      have IL := Lib.hid (rsT_len zs l)
      have IS := Lib.hid (rsT_set zs l)
      have IG := Lib.hid (rsT_get zs l)
      have IAt := Lib.hid (rsT_at zs l)
      have IA := Lib.hid (rsT_all zs l)
      have I0 := rsT_zero zs l
      clear hx hc
      generalize rsT zs l = M at *
      generalize zs.map (rsd l) = RR at *
      go_enter Try.func40, Try.ntmps40
      go_wp2_with fail
      refine V.out.mono ?_
      rintro e w1 ⟨rfl, hb1⟩
      have HB1 := Lib.hid hb1
      clear hb1
      go_wp2_with fail
      refine (L.out _ _ _ (by simp)).mono ?_
      rintro e w' ⟨rfl, rfl⟩
      have HB2 := Lib.hid (HB1.out.alloc HB1.out.size (Obj.cells #[.int .i64 l] 2))
      go_wp2_with fail
      refine (CL.out _ HB2.out).mono ?_
      rintro e w3 ⟨v3, rfl, ho3, hn3, hb3⟩
      have hsz := HB2.out.size
      have HB3 := Lib.hid (HB2.out.trans (hb3.mono HB2.out.size))
      obtain ⟨h, hcp, rfl, hh1, hh2⟩ : ∃ h hcp, v3 = .slice (some ⟨h, 0, none⟩) zs.length hcp ∧ w.heap.size ≤ h ∧ h < w3.heap.size := by
        rcases ho3.forms with ⟨e, _⟩ | ⟨h, c, e, e1, e2, _⟩
        · exact absurd e hn3
        · exact ⟨h, c, e, by omega, e2⟩
      have O3 := Lib.hid (ho3.le hsz (Nat.le_refl _))
      clear ho3 hn3 hb3
      obtain ⟨CC, hCC⟩ : ∃ C, C = w3.heap.size := ⟨_, rfl⟩
      have hc4 : CC ≤ w3.heap.size := by omega
      rw [← hCC] at hh2 O3
      have M0 : Hid (Own w3 w.heap.size CC (.slice (some ⟨h, 0, none⟩) zs.length hcp) (M 0)) := Lib.hid (by rw [I0]; exact O3.out)
      clear O3 I0 hCC
      go_wp2_with fail
      go_loopg [22] (zs.length + 1) (fun kx s22 wr => ∃ j : Nat, s22 = .int .i64 (j : Int) ∧ j ≤ zs.length ∧ kx = zs.length + 1 - j ∧ Hid (Own wr w.heap.size CC (.slice (some ⟨h, 0, none⟩) zs.length hcp) (M j)) ∧ Hid (Below w.heap.size w wr) ∧ CC ≤ wr.heap.size)
      case atStart => exact ⟨0, rfl, Nat.zero_le _, rfl, M0, HB3, hc4⟩
      case round =>
        obtain ⟨j, rfl, hj, rfl, HO, HB, hcw⟩ := hrel
        by_cases hlt : j < zs.length
        · have j0 : (0 : Int) ≤ (j : Int) := by omega
          have j1 : (j : Int) < (zs.length : Int) := by omega
          have hml := IL.out j hj
          have ci := CI.out j hlt
          have hat := HO.out.at j (by omega)
          rw [IG.out j hlt (by omega)] at hat
          rw [gk_at zs j hlt] at ci
          have hms := IS.out j hlt
          have hma := IAt.out j hlt
          obtain ⟨c0, c1⟩ := hat
          generalize zs[j] = x at *
          obtain ⟨x0, x1⟩ := x
          unfold rsd at hms
          simp only at c0 c1 ci hms
          have rb := rs_bd ci.2 hl
          have D := Lib.hid (fun w => implDiv_any (x1 * (1000 - l)) 1000 w)
          rw [divR_in _ rb.1] at D
          have hO := HO.out
          rw [← hma] at hO
          obtain ⟨q, hq⟩ : ∃ q, q = nearQ (x1 * (1000 - l)) 1000 := ⟨_, rfl⟩
          rw [← hq] at D rb hms
          clear hq
          obtain ⟨m, hm⟩ : ∃ m, m = x1 * (1000 - l) := ⟨_, rfl⟩
          have wm : wrap64 (x1 * (1000 - l)) = x1 * (1000 - l) := IntWalk.wrap64_in _ (by omega)
          clear hm
          have PUT := Lib.hid (fun (W : World) (hB : Below wr.heap.size wr W) => Own.put1 (hO.below hB) (by omega) (l + q))
          rw [hms] at PUT
          have FR := Lib.hid (fun (W : World) (hB : Below wr.heap.size wr W) => (hO.below hB).free (j * 2 + 1))
          have CE := Lib.hid (fun (W : World) (hB : Below wr.heap.size wr W) => (hB.cell (p := ⟨h, j * 2 + 1, none⟩) (World.block_lt_of_cell? wr ⟨h, j * 2 + 1, none⟩ c1)).trans c1)
          have hsum : 0 ≤ l + q ∧ l + q ≤ 2000 := by omega
          clear hO hms hma
          go_wp2_with fail
          refine (D.out _).mono ?_
          rintro e w5 ⟨rfl, hb5⟩
          have hba : Below wr.heap.size wr w5 := ((Below.refl wr.heap.size wr).alloc (Nat.le_refl _) _).trans (hb5.mono (by simp))
          have d1 := CE.out w5 hba
          have f1 := FR.out w5 hba
          have PU := Lib.hid (PUT.out w5 hba)
          have PB := Lib.hid ((HB.out.trans (hba.mono HB.out.size)).setCell (p := ⟨h, j * 2 + 1, none⟩) hh1 (.int .i64 (l + q)))
          have hz : CC ≤ (w5.setCell ⟨h, j * 2 + 1, none⟩ (.int .i64 (l + q))).heap.size := by have := hba.size; simp [World.setCell]; omega
          have HZ := Lib.hid hz
          clear hb5 hba hz c0 c1 wm
          go_wp2_with fail
          go_roundg (zs.length + 1 - (j + 1))
          case measure => omega
          case rel => exact ⟨j + 1, by go_num, by omega, by omega, PU, PB, HZ.out⟩
        · obtain rfl : j = zs.length := by omega
          have hO := HO.out
          rw [IA.out] at hO
          have HO2 := Lib.hid (hO.le (Nat.le_refl _) hcw)
          clear hO
          go_wp2_with fail
          go_ret2
          exact ⟨_, rfl, HO2.out, HB.out⟩

set_option maxRecDepth 100000 in
set_option maxHeartbeats 4000000 in
theorem specRaise_any (g cap : Nat) (zs : List V) (l : Int) (w : World) (hb : zs.length ≤ 1048577) (h1 : Row w g zs) :
    Calls Try.prog 39 #[.slice (some ⟨g, 0, none⟩) zs.length cap, .int .i64 l] w (KPost (raiV zs l) w) := by
  have V := Lib.hid (l12Ok_any g cap zs w hb h1)
  have L := Lib.hid (fun w => l12Level_any l w)
  have RP := Lib.hid (fun (W : World) (hB : Below w.heap.size w W) k hk => Row.gk (h1.below hB) k hk)
  have HGL := Lib.hid h1.lt
  clear h1
  unfold raiV
  cases ho : curveB zs with
  | false =>
    rw [if_neg (by simp)]
    rw [ho] at V
    clear ho
    go_enter Try.func39, Try.ntmps39
    go_wp2_with fail
    refine V.out.mono ?_
    rintro e w1 ⟨rfl, hb1⟩
    have HB1 := Lib.hid hb1
    clear hb1
    go_wp2_with fail
    go_ret2
    exact ⟨_, rfl, Own.nil _ _ _, HB1.out⟩
  | true =>
    rw [if_pos rfl]
    rw [ho] at V
    have hc := cur_of ho
    clear ho
    cases hx : inR 0 1000 [l] with
    | false =>
      rw [hx] at L
      rw [if_neg (by simp)]
      clear hx hc
      go_enter Try.func39, Try.ntmps39
      go_wp2_with fail
      refine V.out.mono ?_
      rintro e w1 ⟨rfl, hb1⟩
      have HB1 := Lib.hid hb1
      clear hb1
      go_wp2_with fail
      refine (L.out _).mono ?_
      rintro e w' ⟨rfl, rfl⟩
      go_wp2_with fail
      go_ret2
      exact ⟨_, rfl, Own.nil _ _ _, HB1.out⟩
    | true =>
      rw [hx] at L
      rw [if_pos rfl]
      have hl := (inR_1 _ _ _).1 hx
      have n16 := hc.n16
      have CI := Lib.hid hc.i
      have RN := Lib.hid (rsL_next zs l)
      have RLn := Lib.hid (rsL_len zs l)
      have RA := Lib.hid (rsL_all zs l)
      have e0 : rsL zs l 0 = [] := rfl
      clear hx hc
      generalize rsL zs l = M at *
      generalize zs.map (rsd l) = RR at *
      obtain ⟨i0, hi, hzz⟩ := Option.map_eq_some_iff.1 info_rec
      simp only [Prod.mk.injEq] at hzz
      obtain ⟨hz0, hz1, hz2⟩ := hzz
      have HI0 := Lib.hid hi
      have HZ0 := Lib.hid hz0
      have HZ1 := Lib.hid hz1
      have HZ2 := Lib.hid hz2
      clear hi hz0 hz1 hz2
      go_enter Try.func39, Try.ntmps39
      go_wp2_with fail
      refine V.out.mono ?_
      rintro e w1 ⟨rfl, hb1⟩
      have HB1 := Lib.hid hb1
      clear hb1
      go_wp2_with fail
      refine (L.out _).mono ?_
      rintro e w' ⟨rfl, rfl⟩
      have hsz := HB1.out.size
      have O0 : Own (w1.alloc (Obj.cells #[] 91)) w.heap.size (w1.alloc (Obj.cells #[] 91)).heap.size (.slice (some ⟨w1.heap.size, 0, none⟩) 0 0) (M 0) := by
        rw [e0]
        exact Own.mk (World.ownsRow_made w1 #[] 0 hsz (Nat.zero_le _) rfl)
      have HO0 := Lib.hid O0
      have HB0 : Hid (Below w.heap.size w (w1.alloc (Obj.cells #[] 91))) := Lib.hid (HB1.out.alloc hsz _)
      clear O0 e0 hsz HB1
      go_wp2_with fail
      go_loopg [7, 6] (zs.length + 1) (fun kx s7 s6 wr => ∃ (j : Nat) (a : Option Addr) (cap6 : Nat), s7 = .int .i64 (j : Int) ∧ s6 = .slice a j cap6 ∧ j ≤ zs.length ∧ kx = zs.length + 1 - j ∧ Hid (Own wr w.heap.size wr.heap.size (.slice a j cap6) (M j)) ∧ Hid (Below w.heap.size w wr))
      case atStart => exact ⟨0, _, _, rfl, rfl, Nat.zero_le _, rfl, HO0, HB0⟩
      case round =>
        obtain ⟨j, a, cap6, rfl, rfl, hj, rfl, HO, HB⟩ := hrel
        by_cases hlt : j < zs.length
        · have j0 : (0 : Int) ≤ (j : Int) := by omega
          have j1 : (j : Int) < (zs.length : Int) := by omega
          obtain ⟨c0, c1⟩ := RP.out wr HB.out j hlt
          have ci := CI.out j hlt
          have rn := RN.out j hlt
          have ml := RLn.out j hj
          unfold rsd at rn
          have RPJ := Lib.hid (fun (W : World) (hB : Below w.heap.size w W) => And.intro (RP.out W hB j hlt).c0 (RP.out W hB j hlt).c1)
          generalize (gk zs j).f0 = y0 at *
          generalize (gk zs j).f1 = y1 at *
          have rb := rs_bd ci.2 hl
          have DV := Lib.hid (fun w => l01Div_any (y1 * (1000 - l)) 1000 w (by omega) (by omega) (by omega) (by omega) (by omega))
          obtain ⟨q, hq⟩ : ∃ q, q = nearQ (y1 * (1000 - l)) 1000 := ⟨_, rfl⟩
          rw [← hq] at DV rb rn
          clear hq
          have RNJ := Lib.hid rn
          have wk1 : IntKind.i64.wrap (1000 - l) = 1000 - l := IntWalk.i64_in _ (by omega)
          have wk2 : IntKind.i64.wrap (y1 * (1000 - l)) = y1 * (1000 - l) := IntWalk.i64_in _ (by omega)
          have wk3 : IntKind.i64.wrap (l + q) = l + q := IntWalk.i64_in _ (by omega)
          have hi := HI0.out
          have hz0 := HZ0.out
          have hz1 := HZ1.out
          have hz2 := HZ2.out
          have hbs := HB.out.size
          have hgl : g < w.heap.size := HGL.out
          have K : Hid ((fun X => X.cell? ⟨g, j * 2, none⟩ = some (.int .i64 y0) ∧ X.cell? ⟨g, j * 2 + 1, none⟩ = some (.int .i64 y1) ∧ Below w.heap.size w X) wr) := Lib.hid ⟨c0, c1, HB.out⟩
          have hn1 : j + 1 ≤ maxLen := by unfold maxLen; omega
          have hn2 : (j + 1) * 16 ≤ 140737488355328 := by omega
          have BD := Lib.hid (bel_drew ((Below.refl wr.heap.size wr).alloc (Nat.le_refl _) (Obj.cells #[.int .i64 y0, .int .i64 (l + q)] 91)))
          have OD0 := (HO.out.below BD.out).1
          rw [ml] at OD0
          have OD := Lib.hid OD0
          have MLJ := Lib.hid ml
          clear rn rb OD0 c0 c1 ml
          generalize M j = Lj at *
          go_wp2_with fail
          go_region_held3 (fun X => X.cell? ⟨g, j * 2, none⟩ = some (.int .i64 y0) ∧ X.cell? ⟨g, j * 2 + 1, none⟩ = some (.int .i64 y1) ∧ Below w.heap.size w X) (first | (exact keepW2 K.out (drewG wr)) | (exact keepW2 K.out (bel_drew ((Below.refl wr.heap.size wr).alloc (Nat.le_refl _) _))) | (exact keepGR) | go_keep) ((first
            | (go_at_call 90; (refine (DV.out _).mono ?_); rintro e w' ⟨rfl, rfl⟩)
            | (refine step_append_lies _ (by rfl) _ _ _ (by rfl) w.heap.size 91 i0 (.agg #[.int .i64 0, .int .i64 0]) 2 16 Try.underlying41 hi hz0 hz1 hz2 rfl (by decide) _ j (flat Lj) (by rfl) OD.out ⟨wr.heap.size, 0, none⟩ 1 1 [.int .i64 y0, .int .i64 (l + q)] (by rfl) (by rfl) (new_cells wr _ _ _) (cells_one _ _) (by omega) hn1 hn2 (by simp; omega) _ rfl ?_; intro gg cap7 w5 hown' hgrow hat hlt'; have hgB := grownR OD.out (HB.out.trans (BD.out.mono HB.out.size)) (Nat.le_trans HB.out.size BD.out.size) hgrow; have rr := RPJ.out w5 hgB; have keepGR := And.intro rr.1 (And.intro rr.2 hgB))))
          all_goals
            rename_i held
            have HB5 := Lib.hid hgB
            have O5 : Hid (Own w5 w.heap.size w5.heap.size (.slice (some ⟨gg, 0, none⟩) (j + 1) cap7) (M (j + 1))) := Lib.hid (by
              rw [RNJ.out]
              refine Own.mk ?_
              rw [List.length_append, flat_app, MLJ.out]
              exact hown')
            clear held hgB hown' hgrow
            go_wp2_with fail
            go_roundg (zs.length + 1 - (j + 1))
            case measure => omega
            case rel => exact ⟨j + 1, _, _, by go_num, rfl, by omega, by omega, O5, HB5⟩
        · obtain rfl : j = zs.length := by omega
          have ho := HO.out
          rw [RA.out] at ho
          go_wp2_with fail
          go_ret2
          exact ⟨_, rfl, ho, HB.out⟩
end Go.Proofs.Ytleaoemckdkndaa.Kn
