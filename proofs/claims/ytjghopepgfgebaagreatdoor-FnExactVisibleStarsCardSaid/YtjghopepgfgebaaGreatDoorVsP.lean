/-
  VisibleStars (package spec).
-/
import Derived.Test.YtjghopepgfgebaaGreatDoorVsI
import Derived.WalkSpells
namespace Go.Proofs.YtjghopepgfgebaaGreatDoor
open Go.RowKit
set_option linter.unusedVariables false

theorem addr_add (g o j : Nat) : ((⟨g, o, none⟩ : Addr).add j) = ⟨g, o + j, none⟩ := by unfold Addr.add; split <;> simp_all
set_option maxRecDepth 100000 in
set_option maxHeartbeats 1000000 in
theorem l00Own_any (g n cap : Nat) (zs : List Int) (w : World) (hl : zs.length = n) (hn : n ≤ 1048577) (hx : ∀ j, (h : j < zs.length) → w.cell? ⟨g, j, none⟩ = some (.int .i64 zs[j])) (hg : zs.length = 0 ∨ g < w.heap.size) :
    Calls Tryz.prog 25 #[.slice (some ⟨g, 0, none⟩) n cap] w fun e w' => ∃ v', e = .returned v' ∧ w'.ownsRow w.heap.size 2 1 v' n (zs.map (Value.int .i64)) ∧ Below w.heap.size w w' := by
  have HX := Lib.hid hx
  have HG := Lib.hid hg
  have own : (w.alloc (.cells #[] 2)).ownsRow w.heap.size 2 1 (.slice (some ⟨w.heap.size, 0, none⟩) 0 0) 0 [] := World.ownsRow_lit (base := w.heap.size) (e := 2) (size := 1) w #[] 0 (Nat.le_refl _) (by decide) rfl
  obtain ⟨i0, hi, hzz⟩ := Option.map_eq_some_iff.1 info_n64
  simp only [Prod.mk.injEq] at hzz
  obtain ⟨hz0, hz1, hz2⟩ := hzz
  clear hx hg
  go_enter Tryz.func25, Tryz.ntmps25
  go_wp2_with (at_builtin; refine wpList_append_own _ rfl _ _ 27 rfl w.heap.size 2 i0 (.int .i64 0) 1 8 Tryz.underlying27 hi hz0 hz1 hz2 rfl (by decide) _ _ _ rfl own ⟨g, 0, none⟩ n cap (zs.map (Value.int .i64)) rfl (by rw [List.length_map, hl, Nat.mul_one]) ?c1 ?c2 ?c3 ?c4 ?c5 ?_)
  case c1 =>
    intro j u hj
    rw [List.getElem?_map] at hj
    cases hz : zs[j]? with
    | none => rw [hz] at hj; cases hj
    | some z =>
      rw [hz] at hj
      have hj' : Value.int .i64 z = u := by simpa using hj
      obtain ⟨hjl, hjz⟩ := List.getElem?_eq_some_iff.1 hz
      have h := HX.out j hjl
      rw [hjz] at h
      have hgl : g < w.heap.size := World.block_lt_of_cell? w ⟨g, j, none⟩ h
      rw [addr_add, Nat.zero_add, World.cell?_alloc_lt _ _ _ hgl, h, hj']
  case c2 =>
    intro u hu
    obtain ⟨z, _, rfl⟩ := List.mem_map.1 hu
    rfl
  case c3 => unfold maxLen; omega
  case c4 => omega
  case c5 => simp
  intro v' w5 hown' hgrow _
  have hb : Below w.heap.size w w5 := ((Below.refl _ w).alloc (Nat.le_refl _) _).grown hgrow (by simp) (fun k hk => (own.lt k hk).1)
  clear hgrow own
  go_wp2_with fail
  go_ret
  exact ⟨_, rfl, hown', hb⟩

/-- The heights so far, and the places in order. -/
structure SV (w0 wr : World) (B : Nat) (f : Nat → Int) (L : List Nat) (i go gc gh hc : Nat) : Prop where
  bel : Below B w0 wr
  size : B ≤ wr.heap.size
  out : wr.ownsRow B 2 1 (.slice (some ⟨go, 0, none⟩) L.length gc) L.length ((asI L).map (Value.int .i64))
  hts : wr.ownsRow B 2 1 (.slice (some ⟨gh, 0, none⟩) i hc) i (((List.range i).map f).map (Value.int .i64))
  ne : go ≠ gh
theorem SV.below {w0 wr w' : World} {B : Nat} {f : Nat → Int} {L : List Nat} {i go gc gh hc : Nat} (h : SV w0 wr B f L i go gc gh hc) (hb : Below wr.heap.size wr w') : SV w0 w' B f L i go gc gh hc :=
  ⟨h.bel.trans (hb.mono h.size), Nat.le_trans h.size hb.size, ownsRow_belowV h.out hb, ownsRow_belowV h.hts hb, h.ne⟩
theorem SV.outAt {w0 wr : World} {B : Nat} {f : Nat → Int} {L : List Nat} {i go gc gh hc : Nat} (h : SV w0 wr B f L i go gc gh hc) (k : Nat) (hk : k < L.length) : wr.cell? ⟨go, k, none⟩ = some (.int .i64 (L[k] : Int)) := by
  rw [h.out.cellAt k (by omega), List.getElem?_map, asI_get _ _ hk]
  rfl
theorem SV.htAt {w0 wr : World} {B : Nat} {f : Nat → Int} {L : List Nat} {i go gc gh hc : Nat} (h : SV w0 wr B f L i go gc gh hc) (k : Nat) (hk : k < i) : wr.cell? ⟨gh, k, none⟩ = some (.int .i64 (f k)) := by
  rw [h.hts.cellAt k (by omega), List.getElem?_map, List.getElem?_map, List.getElem?_range hk]
  rfl
theorem SV.high {w0 wr w5 : World} {B : Nat} {f : Nat → Int} {L : List Nat} {i go gc gh hc gg cap2 : Nat} {o : Obj} (h : SV w0 wr B f L i go gc gh hc) (hg : (wr.alloc o).grownBy w5 (some gh)) (hl : gh = gg ∨ gg = wr.heap.size + 1)
    (own : w5.ownsRow B 2 1 (.slice (some ⟨gg, 0, none⟩) (i + 1) cap2) (i + 1) (((List.range i).map f).map (Value.int .i64) ++ [.int .i64 (f i)])) : SV w0 w5 B f L (i + 1) go gc gg cap2 := by
  have hba : Below wr.heap.size wr (wr.alloc o) := (Below.refl _ _).alloc (Nat.le_refl _) _
  have hol := (h.out.lt go rfl).2
  refine ⟨(h.bel.alloc h.size o).grown hg (Nat.le_trans h.size hba.size) (fun k hk => by cases hk; exact (h.hts.lt gh rfl).1), Nat.le_trans h.size (Nat.le_trans hba.size hg.size), ?_, ?_, ?_⟩
  · exact (h.out.alloc o).kept hg (Or.inr (fun e => h.ne (by simpa [Value.ownBlock] using e)))
  · rw [List.range_succ, List.map_append, List.map_append]
    exact own
  · rcases hl with hl | hl
    · rw [← hl]; exact h.ne
    · omega

theorem own_cap {w : World} {B g n cap : Nat} {e : TypeId} {xs : List Value} (h : w.ownsRow B e 1 (.slice (some ⟨g, 0, none⟩) n cap) n xs) : n ≤ cap := by
  rcases h.2 with ⟨hv, _⟩ | ⟨g1, cap1, cur, hv, _, _, hc, _⟩
  · cases hv
  · injection hv with h1 h2 h3
    subst h3
    exact hc
theorem own_form {w : World} {B n : Nat} {e : TypeId} {v : Value} {xs : List Value} (h : w.ownsRow B e 1 v n xs) (hn : 0 < n) : ∃ g cap, v = .slice (some ⟨g, 0, none⟩) n cap ∧ B ≤ g ∧ g < w.heap.size := World.ownsRow.form h hn
theorem asI_app (a b : List Nat) : asI (a ++ b) = asI a ++ asI b := by simp [asI]

set_option maxRecDepth 100000 in
set_option maxHeartbeats 16000000 in
theorem specVs_any (t : ByteArray) (lo la sid least : Int) (g cap : Nat) (zs : List StarV) (w : World) (hb : zs.length ≤ 1048577) (h1 : Row w g zs) :
    Calls Tryz.prog 7 #[.agg #[.string t, .int .i64 lo, .int .i64 la], .int .i64 sid, .slice (some ⟨g, 0, none⟩) zs.length cap, .int .i64 least] w (VisPost (vsV zs t lo la sid least) w) := by
  have VS := Lib.hid (fun (W : World) gg c0 c1 c2 => l06Ok_at gg 0 t lo la W c0 c1 c2)
  have IT := Lib.hid (fun (W : World) => l06Turn_any sid W)
  have IE := Lib.hid (fun (W : World) => l06Lat_any least W)
  have VG := Lib.hid (fun s a b c d (W : World) => specValidStar_any s a b c d W)
  obtain ⟨W0, hW0⟩ : ∃ W0, W0 = w.alloc (.cells #[.string t, .int .i64 lo, .int .i64 la] 30) := ⟨_, rfl⟩
  have hb0 : Below w.heap.size w W0 := by rw [hW0]; exact (Below.refl _ w).alloc (Nat.le_refl _) _
  have qz : W0.cell? ⟨w.heap.size, 0, none⟩ = some (.string t) ∧ W0.cell? ⟨w.heap.size, 1, none⟩ = some (.int .i64 lo) ∧ W0.cell? ⟨w.heap.size, 2, none⟩ = some (.int .i64 la) := by
    rw [hW0]
    refine ⟨?_, ?_, ?_⟩ <;> (rw [World.cell?_alloc_at _ _ _ _ (by simp)]; rfl)
  have QK : Hid (∀ W, Below W0.heap.size W0 W → W.cell? ⟨w.heap.size, 0, none⟩ = some (.string t) ∧ W.cell? ⟨w.heap.size, 1, none⟩ = some (.int .i64 lo) ∧ W.cell? ⟨w.heap.size, 2, none⟩ = some (.int .i64 la)) := Lib.hid (fun W h => by
    obtain ⟨k0, k1, k2⟩ := qz
    obtain ⟨c, _⟩ := bcell h
    have l0 := World.block_lt_of_cell? _ _ k0
    exact ⟨(c _ _ l0).trans k0, (c _ _ l0).trans k1, (c _ _ l0).trans k2⟩)
  have HA := Lib.hid hb0
  have asz : w.heap.size ≤ W0.heap.size := hb0.size
  have HW := Lib.hid hW0
  have H1 := Lib.hid h1
  have GOOD : Hid (allG zs = true → Dirs zs) := Lib.hid (fun h j hj => good_dir (by
    unfold allG at h
    exact List.all_eq_true.1 h _ (List.getElem_mem hj)))
  clear h1 hb0 qz hW0
  unfold vsV
  cases hsi : siteB t lo la with
  | false =>
    rw [Bool.false_and, if_neg (by simp)]
    rw [hsi] at VS
    clear hsi
    go_enter Tryz.func7, Tryz.ntmps7
    go_wp2_with fail
    rw [← HW.out]
    obtain ⟨q0, q1, q2⟩ := QK.out _ (Below.refl _ W0)
    refine (VS.out _ _ q0 q1 q2).mono ?_
    rintro e w' ⟨rfl, rfl⟩
    go_wp2_with fail
    go_ret2
    exact ⟨_, rfl, World.ownsRow_nil _ _ _ _, HA.out⟩
  | true =>
    rw [Bool.true_and]
    rw [hsi] at VS
    have hla : -90000 ≤ la ∧ la ≤ 90000 := by
      unfold siteB at hsi
      simp only [Bool.and_eq_true, inR_1, decide_eq_true_eq] at hsi
      omega
    clear hsi
    have AJ : Hid (allG zs = true → 0 ≤ sid ∧ sid ≤ 359999 → ∀ a, a < zs.length → ∀ w1, Below w.heap.size w w1 → Calls Tryz.prog 24 #[.int .i64 la, .int .i64 sid, .pointer (some ⟨g, a * 5, none⟩)] w1 fun e w' => e = .returned (.int .i64 (altF la sid zs a)) ∧ Below w1.heap.size w1 w') := Lib.hid (by
      intro hg hsid a ha w1 hw
      obtain ⟨c0, c1, c2, c3, c4⟩ := (H1.out.below hw).at a ha
      obtain ⟨r0, r1, d0, d1⟩ := GOOD.out hg a ha
      have r := l06Alt_any g (a * 5) zs[a] la sid hla.1 hla.2 hsid.1 (by omega) r0 r1 d0 d1 w1 c1 c2
      unfold altF
      rw [getD_at zs a ha]
      exact r)
    generalize altF la sid zs = f at *
    obtain ⟨R, hR⟩ : ∃ R : List Int × Int, R = if allG zs = true then (if (inR 0 359999 [sid] && inR (-90000) 90000 [least]) = true then (if 24 < zs.length then ([], 5) else (asI (visV f least zs.length), 0)) else ([], 2)) else ([], 1) := ⟨_, rfl⟩
    rw [← hR]
    have HR := Lib.hid hR
    clear hR
    go_enter Tryz.func7, Tryz.ntmps7
    go_wp2_with fail
    rw [← HW.out]
    obtain ⟨q0, q1, q2⟩ := QK.out _ (Below.refl _ W0)
    refine (VS.out _ _ q0 q1 q2).mono ?_
    rintro e w' ⟨rfl, rfl⟩
    clear q0 q1 q2
    go_wp2_with fail
    go_loopg [10] (zs.length + 1) (fun kx s10 wr => ∃ j : Nat, s10 = .int .i64 (j : Int) ∧ j ≤ zs.length ∧ kx = zs.length + 1 - j ∧ Hid (∀ k, (hk : k < zs.length) → k < j → zs[k].good = true) ∧ Hid (Below W0.heap.size W0 wr))
    case atStart => exact ⟨0, rfl, Nat.zero_le _, rfl, Lib.hid (fun _ _ h => absurd h (Nat.not_lt_zero _)), Lib.hid (Below.refl _ _)⟩
    case round =>
      obtain ⟨j, rfl, hj, rfl, HG, HB⟩ := hrel
      by_cases hlt : j < zs.length
      · obtain ⟨c0, c1, c2, c3, c4⟩ := (H1.out.below (HA.out.trans (HB.out.mono asz))).at j hlt
        have NG := Lib.hid (fun W => VG.out zs[j].s zs[j].a zs[j].b zs[j].c zs[j].d W)
        have GJ : Hid (starB zs[j].s zs[j].a zs[j].b zs[j].c zs[j].d = zs[j].good) := Lib.hid rfl
        have AF := Lib.hid (fun h => allG_not (zs := zs) j hlt h)
        rw [GJ.out] at NG
        have NX : Hid (zs[j].good = true → ∀ k, (hk : k < zs.length) → k < j + 1 → zs[k].good = true) := Lib.hid (fun h k hk hkj => by
          by_cases c : k = j
          · subst c; exact h
          · exact HG.out k hk (by omega))
        clear GJ
        generalize zs[j].good = p at *
        generalize zs[j] = x at *
        obtain ⟨xs, xa, xb, xc, xd⟩ := x
        simp only at c0 c1 c2 c3 c4 NG
        have j0 : (0 : Int) ≤ (j : Int) := by omega
        have j1 : (j : Int) < (zs.length : Int) := by omega
        cases p with
        | false =>
          have af : allG zs = false := AF.out (by first | rfl | trivial)
          have hr : R = ([], 1) := by rw [HR.out, af, if_neg (by simp)]
          go_wp2_with fail
          refine (NG.out _).mono ?_
          rintro e w2 ⟨rfl, hb2⟩
          have HB2 := Lib.hid (HB.out.trans (hb2.mono HB.out.size))
          clear hb2
          go_wp2_with fail
          go_returns
          exact ⟨_, by rw [hr]; rfl, by rw [hr]; exact World.ownsRow_nil _ _ _ _, HA.out.trans (HB2.out.mono asz)⟩
        | true =>
          go_wp2_with fail
          refine (NG.out _).mono ?_
          rintro e w2 ⟨rfl, hb2⟩
          have HB2 := Lib.hid (HB.out.trans (hb2.mono HB.out.size))
          clear hb2 c0 c1 c2 c3 c4
          go_wp2_with fail
          go_roundg (zs.length + 1 - (j + 1))
          case measure => omega
          case rel => exact ⟨j + 1, by go_num, by omega, by omega, Lib.hid (NX.out (by first | rfl | trivial)), HB2⟩
      · obtain rfl : j = zs.length := by omega
        have at' : allG zs = true := allG_all (zs := zs) (fun k hk => HG.out k hk hk)
        have AJ2 := Lib.hid (AJ.out at')
        have HR2 : Hid (R = if (inR 0 359999 [sid] && inR (-90000) 90000 [least]) = true then (if 24 < zs.length then ([], 5) else (asI (visV f least zs.length), 0)) else ([], 2)) := Lib.hid (by rw [HR.out, at', if_pos rfl])
        clear HG AJ GOOD HR
        cases hi : inR 0 359999 [sid] with
        | false =>
          have hr : R = ([], 2) := by rw [HR2.out, hi, Bool.false_and, if_neg (by simp)]
          rw [hi] at IT
          clear hi
          go_wp2_with fail
          refine (IT.out _).mono ?_
          rintro e w' ⟨rfl, rfl⟩
          go_wp2_with fail
          go_returns
          exact ⟨_, by rw [hr]; rfl, by rw [hr]; exact World.ownsRow_nil _ _ _ _, HA.out.trans (HB.out.mono asz)⟩
        | true =>
          have HR3 : Hid (R = if inR (-90000) 90000 [least] = true then (if 24 < zs.length then ([], 5) else (asI (visV f least zs.length), 0)) else ([], 2)) := Lib.hid (by rw [HR2.out, hi, Bool.true_and])
          have hsid : 0 ≤ sid ∧ sid ≤ 359999 := by simpa only [inR_1, decide_eq_true_eq, Bool.and_eq_true] using hi
          have AK := Lib.hid (AJ2.out hsid)
          rw [hi] at IT
          clear hi hsid AJ2
          cases hl : inR (-90000) 90000 [least] with
          | false =>
            have hr : R = ([], 2) := by rw [HR3.out, hl, if_neg (by simp)]
            rw [hl] at IE
            clear hl
            go_wp2_with fail
            refine (IT.out _).mono ?_
            rintro e w' ⟨rfl, rfl⟩
            go_wp2_with fail
            refine (IE.out _).mono ?_
            rintro e w' ⟨rfl, rfl⟩
            go_wp2_with fail
            go_returns
            exact ⟨_, by rw [hr]; rfl, by rw [hr]; exact World.ownsRow_nil _ _ _ _, HA.out.trans (HB.out.mono asz)⟩
          | true =>
            have HR4 : Hid (R = if 24 < zs.length then ([], 5) else (asI (visV f least zs.length), 0)) := Lib.hid (by rw [HR3.out, hl, if_pos rfl])
            rw [hl] at IE
            clear hl
            by_cases h24 : 24 < zs.length
            · have hr : R = ([], 5) := by rw [HR4.out, if_pos h24]
              go_wp2_with fail
              refine (IT.out _).mono ?_
              rintro e w' ⟨rfl, rfl⟩
              go_wp2_with fail
              refine (IE.out _).mono ?_
              rintro e w' ⟨rfl, rfl⟩
              go_wp2_with fail
              go_returns
              exact ⟨_, by rw [hr]; rfl, by rw [hr]; exact World.ownsRow_nil _ _ _ _, HA.out.trans (HB.out.mono asz)⟩
            · have HR5 : Hid (R = (asI (visV f least zs.length), 0)) := Lib.hid (by rw [HR4.out, if_neg h24])
              clear HR2 HR3 HR4
              have SV0 : Hid (SV W0 ((wr.alloc (.cells #[] 2)).alloc (.cells #[] 2)) W0.heap.size f [] 0 wr.heap.size 0 (wr.heap.size + 1) 0) := Lib.hid (by
                have s0 := HB.out.size
                have o2 := World.ownsRow_lit (base := W0.heap.size) (e := 2) (size := 1) (wr.alloc (.cells #[] 2)) #[] 0 (by simp; omega) (by decide) rfl
                have e1 : (wr.alloc (.cells #[] 2)).heap.size = wr.heap.size + 1 := by simp
                rw [e1] at o2
                exact ⟨(HB.out.alloc s0 _).alloc (by simp; omega) _, by simp; omega, (World.ownsRow_lit (base := W0.heap.size) (e := 2) (size := 1) wr #[] 0 s0 (by decide) rfl).alloc _, o2, by omega⟩)
              go_wp2_with fail
              refine (IT.out _).mono ?_
              rintro e w' ⟨rfl, rfl⟩
              go_wp2_with fail
              refine (IE.out _).mono ?_
              rintro e w' ⟨rfl, rfl⟩
              go_wp2_with fail
              generalize wr.heap.size + 1 = g2 at *
              generalize wr.heap.size = g1 at *
              go_loopg [11, 12, 13, 14, 15, 16] (zs.length + 1) (fun kx s11 s12 s13 s14 s15 s16 wr => ∃ i : Nat, s13 = .int .i64 (i : Int) ∧ i ≤ zs.length ∧ kx = zs.length + 1 - i ∧ Hid (∃ L go gc gh hc, s11 = .slice (some ⟨go, 0, none⟩) L.length gc ∧ s12 = .slice (some ⟨gh, 0, none⟩) i hc ∧ SortV f L ∧ L.Perm (upL f least i) ∧ SV W0 wr W0.heap.size f L i go gc gh hc))
              case atStart => exact ⟨0, rfl, Nat.zero_le _, rfl, Lib.hid ⟨[], _, _, _, _, rfl, rfl, List.Pairwise.nil, List.Perm.refl _, SV0.out⟩⟩
              case round =>
                clear SV0
                obtain ⟨i, rfl, hi, rfl, HL⟩ := hrel
                obtain ⟨L, go, gc, gh, hcp, rfl, rfl, hso, hpm, hS⟩ := HL.out
                clear HL
                have HSO := Lib.hid hso
                have HPM := Lib.hid hpm
                have hLlen : L.length ≤ i := by
                  rw [hpm.length_eq]
                  exact upL_len f least i
                clear hso hpm
                by_cases hlt : i < zs.length
                · have HBw := Lib.hid (HA.out.trans (hS.bel.mono asz))
                  have AC := Lib.hid (AK.out i hlt _ (HBw.out.trans ((drewG wr).mono HBw.out.size)))
                  obtain ⟨q0, q1, q2⟩ := QK.out _ hS.bel
                  have K : Hid (wr.cell? ⟨w.heap.size, 2, none⟩ = some (.int .i64 la) ∧ Below W0.heap.size W0 wr) := Lib.hid ⟨q2, hS.bel⟩
                  have UN := Lib.hid (upL_next f least i)
                  have HS := Lib.hid hS
                  have i0' : (0 : Int) ≤ (i : Int) := by omega
                  have i1 : (i : Int) < (zs.length : Int) := by omega
                  clear q0 q1 q2 hS HBw
                  go_wp2_with fail
                  go_region_held3 (fun W => W.cell? ⟨w.heap.size, 2, none⟩ = some (.int .i64 la) ∧ Below W0.heap.size W0 W) (first | (exact keepW1 K.out (drewG wr)) | (exact keepW1 K.out z1) | go_keep) ((go_at_call 24; (with_reducible refine (AC.out).mono ?_); rintro e u1 ⟨rfl, hu1⟩; have z1 := undrewG hu1))
                  all_goals
                    rename_i held
                    have S1 := Lib.hid (HS.out.below z1)
                    have hown := S1.out.hts
                    have hsz := S1.out.size
                    obtain ⟨i0, hi0, hzz⟩ := Option.map_eq_some_iff.1 info_n64
                    simp only [Prod.mk.injEq] at hzz
                    obtain ⟨hz0, hz1, hz2⟩ := hzz
                    have HI0 := Lib.hid hi0
                    have HZ0 := Lib.hid hz0
                    have HZ1 := Lib.hid hz1
                    have HZ2 := Lib.hid hz2
                    clear held K AC hu1 z1 HS
                    go_wp2_with (at_builtin; refine wpList_append_lies _ rfl _ _ 27 rfl W0.heap.size 2 i0 (.int .i64 0) 1 8 Tryz.underlying27 hi0 hz0 hz1 hz2 rfl (by decide) _ _ _ rfl (hown.alloc _) ⟨u1.heap.size, 0, none⟩ 1 1 [.int .i64 (f i)] rfl rfl ?c1 ?c2 ?c0 ?c3 ?c4 ?c5 (u1.heap.size + 1) ?c6 ?_)
                    case c1 => exact one_cellE _ _ _
                    case c2 => exact one_plainE _
                    case c0 => omega
                    case c3 => unfold maxLen; omega
                    case c4 => omega
                    case c5 => simp; omega
                    case c6 => simp
                    intro gg cap2 w6 hown' hgrow hlies hlt2
                    have S6 := Lib.hid (S1.out.high (gg := gg) (cap2 := cap2) (by simpa [Value.ownBlock] using hgrow) (by simpa [Value.ownBlock] using hlies) (by first | exact hown' | (rw [List.map_map]; exact hown')))
                    clear hown hown' hgrow hlies hi0 hz0 hz1 hz2 hsz S1
                    by_cases hc : least ≤ f i
                    · rw [if_pos hc] at UN
                      have hc' : ¬ f i < least := by omega
                      go_wp2_with fail
                      go_loopg [15] (L.length + 1) (fun kx s15 wr => ∃ a : Nat, s15 = .int .i64 (a : Int) ∧ a ≤ L.length ∧ kx = a + 1 ∧ Hid (∀ k, (hk : k < L.length) → a ≤ k → f L[k] < f i) ∧ Hid (Below w6.heap.size w6 wr))
                      case atStart => exact ⟨L.length, rfl, Nat.le_refl _, rfl, Lib.hid (fun k hk h => by omega), Lib.hid (Below.refl _ _)⟩
                      case round =>
                        obtain ⟨a, rfl, ha, rfl, HK, HB⟩ := hrel
                        have S := Lib.hid (S6.out.below HB.out)
                        by_cases hcont : 0 < a ∧ f (L.getD (a - 1) 0) < f i
                        · obtain ⟨b, hab⟩ : ∃ b, a = b + 1 := ⟨a - 1, by omega⟩
                          have hbl : b < L.length := by omega
                          have eb : L.getD (a - 1) 0 = L[b] := by
                            rw [show a - 1 = b by omega, List.getD, List.getElem?_eq_getElem hbl]
                            rfl
                          have h2 := hcont.2
                          rw [eb] at h2
                          have co := S.out.outAt b hbl
                          have hxi : L[b] < i := upL_lt (HPM.out.mem_iff.1 (List.getElem_mem hbl))
                          have ch := S.out.htAt L[b] (by omega)
                          have NK : Hid (∀ k, (hk : k < L.length) → b ≤ k → f L[k] < f i) := Lib.hid (fun k hk h => by
                            by_cases c : k = b
                            · subst c; exact h2
                            · exact HK.out k hk (by omega))
                          have ek : (a : Int) - 1 = (b : Int) := by omega
                          have d0 : (0 : Int) < (a : Int) := by omega
                          have dd : decide (0 < a) = true := by simp; omega
                          have b0 : (0 : Int) ≤ (b : Int) := by omega
                          have b1 : (b : Int) < (L.length : Int) := by omega
                          have x1 : ((L[b] : Nat) : Int) < (i : Int) + 1 := by omega
                          have x0 : (0 : Int) ≤ ((L[b] : Nat) : Int) := by omega
                          clear eb hcont
                          obtain ⟨x, hx⟩ : ∃ x, x = L[b] := ⟨_, rfl⟩
                          rw [← hx] at co ch h2 x1 x0 hxi
                          clear hx
                          go_wp2_with fail
                          go_roundg (b + 1)
                          case measure => omega
                          case rel => exact ⟨b, by first | go_num | (congr 1; omega), by omega, by omega, NK, HB⟩
                        · have EX : a = 0 ∨ (0 < a ∧ ∃ (hk : a - 1 < L.length), f i ≤ f L[a - 1]) := by
                            by_cases c : a = 0
                            · exact Or.inl c
                            · refine Or.inr ⟨by omega, by omega, ?_⟩
                              have e : L.getD (a - 1) 0 = L[a - 1]'(by omega) := by
                                rw [List.getD, List.getElem?_eq_getElem (by omega)]
                                rfl
                              rw [e] at hcont
                              omega
                          have EXH : Hid (a = 0 ∨ ∃ (hk : a - 1 < L.length), f i ≤ f L[a - 1]) := Lib.hid (EX.imp id (fun h => h.2))
                          have hgc : L.length ≤ gc := own_cap S.out.out
                          have OWN := Lib.hid (l00Own_any go a gc (asI (L.take a)) wr (by rw [asI_len, List.length_take]; omega) (by omega) (fun j h => by
                            rw [asI_len, List.length_take] at h
                            rw [S.out.outAt j (by omega)]
                            simp [asI]) (Or.inr (S.out.out.lt go rfl).2))
                          have a0 : (0 : Int) ≤ (a : Int) := by omega
                          have ag : (a : Int) ≤ (gc : Int) := by omega
                          have al : (a : Int) ≤ (L.length : Int) := by omega
                          clear hcont
                          rcases EX with h0 | ⟨hp, hk, hge⟩
                          all_goals first
                            | (have dd : decide (0 < a) = false := (by rw [h0]; rfl)
                               have nd : ¬ ((0 : Int) < (a : Int)) := by omega
                               clear h0
                               go_wp2_with fail
                               clear dd nd)
                            | (obtain ⟨b, hab⟩ : ∃ b, a = b + 1 := ⟨a - 1, by omega⟩
                               have hbl : b < L.length := by omega
                               have h2 : f i ≤ f L[b] := by
                                 have e : a - 1 = b := by omega
                                 simp only [e] at hge
                                 exact hge
                               have co := S.out.outAt b hbl
                               have hxi : L[b] < i := upL_lt (HPM.out.mem_iff.1 (List.getElem_mem hbl))
                               have ch := S.out.htAt L[b] (by omega)
                               have ek : (a : Int) - 1 = (b : Int) := by omega
                               have d0 : (0 : Int) < (a : Int) := by omega
                               have dd : decide (0 < a) = true := by simp; omega
                               have b0 : (0 : Int) ≤ (b : Int) := by omega
                               have b1 : (b : Int) < (L.length : Int) := by omega
                               have x1 : ((L[b] : Nat) : Int) < (i : Int) + 1 := by omega
                               have x0 : (0 : Int) ≤ ((L[b] : Nat) : Int) := by omega
                               clear hge hk hab
                               obtain ⟨x, hx⟩ : ∃ x, x = L[b] := ⟨_, rfl⟩
                               rw [← hx] at co ch h2 x1 x0 hxi
                               clear hx
                               go_wp2_with fail
                               clear co ch dd ek)
                          all_goals
                            refine OWN.out.mono ?_
                            rintro e w8 ⟨v8, rfl, hown8, hb8⟩
                            have hi0 := HI0.out
                            have hz0 := HZ0.out
                            have hz1 := HZ1.out
                            have hz2 := HZ2.out
                            go_wp2_with (at_builtin; refine wpList_append_own _ rfl _ _ 27 rfl wr.heap.size 2 i0 (.int .i64 0) 1 8 Tryz.underlying27 hi0 hz0 hz1 hz2 rfl (by decide) _ _ _ rfl (hown8.alloc _) ⟨w8.heap.size, 0, none⟩ 1 1 [.int .i64 (i : Int)] rfl rfl ?e1 ?e2 ?e3 ?e4 ?e5 ?_)
                            case e1 => exact one_cellE _ _ _
                            case e2 => exact one_plainE _
                            case e3 => unfold maxLen; omega
                            case e4 => omega
                            case e5 => have := hb8.size; simp; omega
                            intro v9 w9 hown9 hgrow9 _
                            have hb9 := (own_belowV hown8 hb8 hb8.size hgrow9).1
                            have S9 := Lib.hid (S.out.below hb9)
                            have HB9 := Lib.hid hb9
                            rcases Nat.lt_or_ge a gc with hag | hag
                            · go_wp2_with (at_builtin; refine wpList_append_own _ rfl _ _ 27 rfl wr.heap.size 2 i0 (.int .i64 0) 1 8 Tryz.underlying27 hi0 hz0 hz1 hz2 rfl (by decide) _ _ _ rfl hown9 _ _ _ ((asI (L.drop a)).map (Value.int .i64)) rfl ?f0 ?f1 ?f2 ?f3 ?f4 ?f5 ?_)
                              case f0 => rw [List.length_map, asI_len, List.length_drop, Nat.mul_one]
                              case f1 =>
                                intro j u hj
                                rw [List.getElem?_map] at hj
                                by_cases hjl : j < (L.drop a).length
                                · rw [asI_get _ _ hjl] at hj
                                  have hju : Value.int .i64 ((L.drop a)[j] : Int) = u := by simpa using hj
                                  rw [List.length_drop] at hjl
                                  rw [addr_add, ← hju, S9.out.outAt (a + j) (by omega), List.getElem_drop]
                                · rw [List.getElem?_eq_none (by rw [asI_len]; omega)] at hj
                                  cases hj
                              case f2 =>
                                intro u hu
                                obtain ⟨z, _, rfl⟩ := List.mem_map.1 hu
                                rfl
                              case f3 => unfold maxLen; omega
                              case f4 => omega
                              case f5 => exact hb9.size
                              intro v10 w10 hown10 hgrow10 _
                              have hb10 : Below wr.heap.size wr w10 := HB9.out.grown hgrow10 HB9.out.size (fun k hk => (hown9.lt k hk).1)
                              obtain ⟨gN, cN, hvN, hN1, hN2⟩ := own_form hown10 (by omega)
                              subst hvN
                              have hlen : (L.take a ++ [i] ++ L.drop a).length = a + 1 + (L.length - a) := by simp; omega
                              have hown11 : w10.ownsRow wr.heap.size 2 1 (.slice (some ⟨gN, 0, none⟩) (a + 1 + (L.length - a)) cN) (a + 1 + (L.length - a)) ((asI (L.take a ++ [i] ++ L.drop a)).map (Value.int .i64)) := by
                                have e : (asI (L.take a ++ [i] ++ L.drop a)).map (Value.int .i64) = (asI (L.take a)).map (Value.int .i64) ++ Value.int .i64 (i : Int) :: (asI (L.drop a)).map (Value.int .i64) := by
                                  rw [asI_app, asI_app, List.map_append, List.map_append, List.append_assoc]
                                  rfl
                                rw [e]
                                exact hown10
                              have NX : Hid (∃ L' go' gc' gh' hc', Value.slice (some ⟨gN, 0, none⟩) (a + 1 + (L.length - a)) cN = .slice (some ⟨go', 0, none⟩) L'.length gc' ∧ Value.slice (some ⟨gg, 0, none⟩) (i + 1) cap2 = .slice (some ⟨gh', 0, none⟩) (i + 1) hc' ∧ SortV f L' ∧ L'.Perm (upL f least (i + 1)) ∧ SV W0 w10 W0.heap.size f L' (i + 1) go' gc' gh' hc') := Lib.hid ⟨L.take a ++ [i] ++ L.drop a, gN, cN, gg, cap2, by rw [hlen], rfl, sortV_put HSO.out i a ha (fun x hx => upL_lt (HPM.out.mem_iff.1 hx)) HK.out EXH.out, by rw [UN.out]; exact (perm_put L i a).trans (HPM.out.append_right _), ⟨S.out.bel.trans (hb10.mono S.out.size), Nat.le_trans S.out.size hb10.size, by rw [hlen]; exact Go.Joins.ownsRow_le hown11 S.out.size, ownsRow_belowV S.out.hts hb10, by have := (S.out.hts.lt gg rfl).2; omega⟩⟩
                              clear hown10 hown11 hgrow10 hlen hb10 hown9 hown8 hgrow9 hb8 hb9 hi0 hz0 hz1 hz2
                              go_wp2_with fail
                              go_roundg (zs.length + 1 - (i + 1))
                              case measure => omega
                              case rel => exact ⟨i + 1, by go_num, by omega, by omega, NX⟩
                            · obtain rfl : gc = a := by omega
                              have dn : L.drop gc = [] := List.drop_eq_nil_of_le (by omega)
                              have DN := Lib.hid dn
                              clear dn hag
                              go_wp2_with (at_builtin; refine wpList_append_own _ rfl _ _ 27 rfl wr.heap.size 2 i0 (.int .i64 0) 1 8 Tryz.underlying27 hi0 hz0 hz1 hz2 rfl (by decide) _ _ _ rfl hown9 _ _ _ [] rfl ?f0 ?f1 ?f2 ?f3 ?f4 ?f5 ?_)
                              case f0 => first | (simp; done) | (simp; omega)
                              case f1 => intro j u hj; cases hj
                              case f2 => intro u hu; cases hu
                              case f3 => unfold maxLen; omega
                              case f4 => omega
                              case f5 => exact hb9.size
                              intro v10 w10 hown10 hgrow10 _
                              have hb10 : Below wr.heap.size wr w10 := HB9.out.grown hgrow10 HB9.out.size (fun k hk => (hown9.lt k hk).1)
                              obtain ⟨gN, cN, hvN, hN1, hN2⟩ := own_form hown10 (by omega)
                              subst hvN
                              have hlen : (L.take gc ++ [i] ++ L.drop gc).length = gc + 1 := by simp; omega
                              have hown11 : w10.ownsRow wr.heap.size 2 1 (.slice (some ⟨gN, 0, none⟩) (gc + 1) cN) (gc + 1) ((asI (L.take gc ++ [i] ++ L.drop gc)).map (Value.int .i64)) := by
                                have e : (asI (L.take gc ++ [i] ++ L.drop gc)).map (Value.int .i64) = (asI (L.take gc)).map (Value.int .i64) ++ [Value.int .i64 (i : Int)] := by
                                  rw [DN.out, List.append_nil, asI_app, List.map_append]
                                  rfl
                                rw [e]
                                exact hown10
                              have NX : Hid (∃ L' go' gc' gh' hc', Value.slice (some ⟨gN, 0, none⟩) (gc + 1) cN = .slice (some ⟨go', 0, none⟩) L'.length gc' ∧ Value.slice (some ⟨gg, 0, none⟩) (i + 1) cap2 = .slice (some ⟨gh', 0, none⟩) (i + 1) hc' ∧ SortV f L' ∧ L'.Perm (upL f least (i + 1)) ∧ SV W0 w10 W0.heap.size f L' (i + 1) go' gc' gh' hc') := Lib.hid ⟨L.take gc ++ [i] ++ L.drop gc, gN, cN, gg, cap2, by rw [hlen], rfl, sortV_put HSO.out i gc ha (fun x hx => upL_lt (HPM.out.mem_iff.1 hx)) HK.out EXH.out, by rw [UN.out]; exact (perm_put L i gc).trans (HPM.out.append_right _), ⟨S.out.bel.trans (hb10.mono S.out.size), Nat.le_trans S.out.size hb10.size, by rw [hlen]; exact Go.Joins.ownsRow_le hown11 S.out.size, ownsRow_belowV S.out.hts hb10, by have := (S.out.hts.lt gg rfl).2; omega⟩⟩
                              clear hown10 hown11 hgrow10 hlen hb10 hown9 hown8 hgrow9 hb8 hb9 hi0 hz0 hz1 hz2
                              go_wp2_with fail
                              go_roundg (zs.length + 1 - (i + 1))
                              case measure => omega
                              case rel => exact ⟨i + 1, by go_num, by omega, by omega, NX⟩
                    · rw [if_neg hc] at UN
                      have hc' : f i < least := by omega
                      have NX : Hid (∃ L' go' gc' gh' hc', Value.slice (some ⟨go, 0, none⟩) L.length gc = .slice (some ⟨go', 0, none⟩) L'.length gc' ∧ Value.slice (some ⟨gg, 0, none⟩) (i + 1) cap2 = .slice (some ⟨gh', 0, none⟩) (i + 1) hc' ∧ SortV f L' ∧ L'.Perm (upL f least (i + 1)) ∧ SV W0 w6 W0.heap.size f L' (i + 1) go' gc' gh' hc') := Lib.hid ⟨L, go, gc, gg, cap2, rfl, rfl, HSO.out, by rw [UN.out]; exact HPM.out, S6.out⟩
                      go_wp2_with fail
                      go_roundg (zs.length + 1 - (i + 1))
                      case measure => omega
                      case rel => exact ⟨i + 1, by go_num, by omega, by omega, NX⟩
                · obtain rfl : i = zs.length := by omega
                  have eL := visV_of HSO.out HPM.out
                  have HO : Hid (wr.ownsRow w.heap.size 2 1 (.slice (some ⟨go, 0, none⟩) L.length gc) (asI (visV f least zs.length)).length ((asI (visV f least zs.length)).map (Value.int .i64))) := Lib.hid (by
                    rw [asI_len, ← eL]
                    exact Go.Joins.ownsRow_le hS.out asz)
                  have HBe := Lib.hid (HA.out.trans (hS.bel.mono asz))
                  have hr := HR5.out
                  clear hS
                  go_wp2_with fail
                  go_returns
                  exact ⟨_, by rw [hr]; rfl, by rw [hr]; exact HO.out, HBe.out⟩
end Go.Proofs.YtjghopepgfgebaaGreatDoor
