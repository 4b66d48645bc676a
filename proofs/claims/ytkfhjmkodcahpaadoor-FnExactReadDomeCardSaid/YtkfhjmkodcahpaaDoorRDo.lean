/-
  Domes read from texts in package impl: the contracts of readNumbers, readNamedNumbers, ReadDome; ReadDome of package spec.
-/
import Derived.Test.YtkfhjmkodcahpaaDoorRDoS
namespace Go.Proofs.YtkfhjmkodcahpaaDoor
open Go.RowKit
set_option linter.unusedVariables false

set_option maxHeartbeats 1000000 in
theorem specRD_any (s : ByteArray) (hs : s.size ≤ 1048576) (w : World) :
    Calls Tryd.prog 8 #[.string s] w fun e w' => e = .returned (rdV s.data.toList) ∧ Below w.heap.size w w' := by
  have R := Lib.hid (fun w => l09Read_any s hs w)
  obtain ⟨n, a, b, ok, hz⟩ := rdV_form s.data.toList
  rw [hz] at R ⊢
  clear hz
  have Z0 : Hid (DZ (w.alloc (.cells #[.string ⟨#[]⟩, .int .i64 0, .int .i64 0] 29)) w.heap.size ⟨#[]⟩ 0 0) := Lib.hid (DZ.new _ _ _ _ _)
  go_enter Tryd.func8, Tryd.ntmps8
  go_wp2_with fail
  refine (R.out _).mono ?_
  rintro e w1 ⟨rfl, hb⟩
  have Z1 := Z0.out.go hb
  have HB1 : Hid (Below w.heap.size w w1) := Lib.hid (((Below.refl _ _).alloc (Nat.le_refl _) _).trans (hb.mono (by simp)))
  clear hb Z0
  obtain ⟨q0, q1, q2, f0, f1, f2⟩ := Z1
  go_wp2_with fail
  refine bodyPost_ret (v := .tuple #[.agg #[.string n, .int .i64 a, .int .i64 b], .bool ok]) (by first | (simp [results, Tryd.results8, go_sem]; done) | (simp [results, Tryd.results8, go_sem, *]; done)) rfl ⟨rfl, ?_⟩
  repeat (first | exact Below.refl _ _ | exact HB1.out | refine Below.setCell ?_ (by first | (simp; done) | omega | (simp; omega)) _ | refine Below.alloc ?_ (by first | (simp; done) | omega | (simp; omega)) _ | refine bel_drew ?_)

set_option maxRecDepth 100000 in
set_option maxHeartbeats 1000000 in
theorem readNums_any (s : ByteArray) (k : Nat) (hk : k ≤ 64) (hs : s.size ≤ 1048576) (w : World) (ht : TabOK w) (he : ErrOK w) (hlen : LenOK w) :
    Calls Tryd.prog 23 #[.string s, .int .i64 (k : Int)] w (ListPost (listN k s.data.toList) w) := by
  have L := Lib.hid (implList_any s w hs ht he hlen)
  unfold listN
  clear ht he hlen
  cases hr : listR s.data.toList with
  | none =>
    rw [hr] at L
    clear hr
    go_enter Tryd.func23, Tryd.ntmps23
    go_wp2_with fail
    refine (L.out).mono ?_
    rintro e w1 ⟨v, rfl, hown, hb⟩
    simp only [Option.isSome_none, Option.getD_none, List.map_nil, List.length_nil] at hown ⊢
    have HO := Lib.hid hown
    have HB := Lib.hid hb
    clear hown hb
    go_wp2_with fail
    go_ret2
    exact list_none HB.out rfl
  | some zs =>
    rw [hr] at L
    clear hr
    by_cases hl : zs.length = k
    · simp only [if_pos hl]
      subst hl
      have hl' : ((zs.length : Int) != (zs.length : Int)) = false := by simp
      go_enter Tryd.func23, Tryd.ntmps23
      go_wp2_with fail
      refine (L.out).mono ?_
      rintro e w1 ⟨v, rfl, hown, hb⟩
      simp only [Option.isSome_some, Option.getD_some] at hown ⊢
      have HB := Lib.hid hb
      clear hb
      rcases Go.Joins.ownsRow_forms hown with ⟨rfl, hz⟩ | ⟨gg, cap2, rfl⟩
      · have HO := Lib.hid hown
        clear hown
        have hl0 : (zs.length : Int) = 0 := by omega
        go_wp2_with fail
        go_ret2
        exact list_some HB.out rfl rfl HO.out
      · have HO := Lib.hid hown
        clear hown
        go_wp2_with fail
        go_ret2
        exact list_some HB.out rfl rfl HO.out
    · simp only [if_neg hl]
      have hl' : ((zs.length : Int) != (k : Int)) = true := by simp; omega
      have hl2 : ((zs.length : Int) == (k : Int)) = false := by simp; omega
      go_enter Tryd.func23, Tryd.ntmps23
      go_wp2_with fail
      refine (L.out).mono ?_
      rintro e w1 ⟨v, rfl, hown, hb⟩
      simp only [Option.isSome_some, Option.getD_some] at hown ⊢
      have HB := Lib.hid hb
      clear hb
      rcases Go.Joins.ownsRow_forms hown with ⟨rfl, hz⟩ | ⟨gg, cap2, rfl⟩
      · have HO := Lib.hid hown
        clear hown
        go_wp2_with fail
        go_ret2
        exact list_none HB.out rfl
      · have HO := Lib.hid hown
        clear hown
        go_wp2_with fail
        go_ret2
        exact list_none HB.out rfl

/-- What readNamedNumbers answers and leaves. -/
def NamedPost (A : ByteArray) (r : Option (List Int)) (w : World) (e : Ending) (w' : World) : Prop :=
  ∃ v, e = .returned (.tuple #[.string A, v, .bool r.isSome]) ∧ w'.ownsRow w.heap.size 2 1 v (r.getD []).length ((r.getD []).map (Value.int .i64)) ∧ Below w.heap.size w w'
set_option maxRecDepth 100000 in
set_option maxHeartbeats 1000000 in
theorem readNamed_any (s : ByteArray) (k : Nat) (hk : k ≤ 64) (hs : s.size ≤ 1048576) (w : World) (ht : TabOK w) (he : ErrOK w) (hlen : LenOK w) :
    Calls Tryd.prog 14 #[.string s, .int .i64 (k : Int)] w (NamedPost ⟨(Lib.cut s.data.toList [32]).1.toArray⟩ (listN k (Lib.cut s.data.toList [32]).2.1) w) := by
  have hlen2 := hlen
  obtain ⟨m, hm⟩ := hlen2
  have CU := Lib.hid (Tryd.strings_Cut s ⟨#[32]⟩ m w (by omega) hm)
  have e32 : (⟨#[32]⟩ : ByteArray).data.toList = [32] := rfl
  have hl := cut_len s.data.toList
  have hsl : s.data.toList.length = s.size := Array.length_toList
  rw [e32] at CU
  have dB : (⟨(Lib.cut s.data.toList [32]).2.1.toArray⟩ : ByteArray).data.toList = (Lib.cut s.data.toList [32]).2.1 := data_ofD _
  have sB : (⟨(Lib.cut s.data.toList [32]).2.1.toArray⟩ : ByteArray).size ≤ 1048576 := by
    show ((Lib.cut s.data.toList [32]).2.1.toArray).size ≤ 1048576
    simp only [List.size_toArray]
    omega
  have R := Lib.hid (fun w ht he hl => readNums_any ⟨(Lib.cut s.data.toList [32]).2.1.toArray⟩ k hk sB w ht he hl)
  rw [dB] at R
  have TE := Lib.hid ht
  have EE := Lib.hid he
  have LE := Lib.hid hlen
  clear ht he hlen dB sB hl hsl hm e32
  generalize listN k (Lib.cut s.data.toList [32]).2.1 = r at *
  generalize (⟨(Lib.cut s.data.toList [32]).1.toArray⟩ : ByteArray) = A at *
  generalize (⟨(Lib.cut s.data.toList [32]).2.1.toArray⟩ : ByteArray) = B at *
  generalize (Lib.cut s.data.toList [32]).2.2 = c at *
  go_enter Tryd.func14, Tryd.ntmps14
  go_wp2_with fail
  refine CU.out.mono ?_
  rintro e w1 ⟨rfl, q, rfl⟩
  have hz : (w.drewN q).heap.size = w.heap.size := rfl
  have HB1 := Lib.hid (bel_drewN (Below.refl w.heap.size w) q)
  generalize w.drewN q = w1 at *
  go_wp2_with fail
  refine (R.out _ (TE.out.below HB1.out) (EE.out.below HB1.out) (LE.out.below HB1.out)).mono ?_
  rintro e w2 ⟨v, rfl, hown, hb⟩
  rw [hz] at hown
  have HB2 := Lib.hid (HB1.out.trans (hb.mono HB1.out.size))
  have HO := Lib.hid hown
  clear hown hb
  go_wp2_with fail
  refine bodyPost_ret (v := .tuple #[.string A, v, .bool r.isSome]) (by simp [results, Tryd.results14, go_sem]) rfl ⟨v, rfl, HO.out, HB2.out⟩

theorem rdV_cut (l : List UInt8) : (listN 2 (Lib.cut l [32]).2.1 = none ∧ rdV l = .tuple #[.agg #[.string ⟨#[]⟩, .int .i64 0, .int .i64 0], .bool false]) ∨
    (∃ a b, listN 2 (Lib.cut l [32]).2.1 = some [a, b] ∧ rdV l = if domeB ⟨(Lib.cut l [32]).1.toArray⟩ a b = true then .tuple #[.agg #[.string ⟨(Lib.cut l [32]).1.toArray⟩, .int .i64 a, .int .i64 b], .bool true] else .tuple #[.agg #[.string ⟨#[]⟩, .int .i64 0, .int .i64 0], .bool false]) := by
  rcases spl_cut l with ⟨n, t, hx, hc⟩ | ⟨hl, hc⟩
  · rw [hc]
    unfold listN
    simp only
    cases hr : listR t with
    | none => exact Or.inl ⟨rfl, rdV_bad l n t hx (by rw [hr]; intro a b h; cases h)⟩
    | some zs =>
      by_cases hl : zs.length = 2
      · obtain ⟨a, b, rfl⟩ : ∃ a b, zs = [a, b] := by
          match zs, hl with
          | [a, b], _ => exact ⟨a, b, rfl⟩
        exact Or.inr ⟨a, b, by simp, rdV_at l n t a b hx hr⟩
      · exact Or.inl ⟨by simp only [if_neg hl], rdV_bad l n t hx (by rw [hr]; intro a b h; apply hl; cases h; rfl)⟩
  · refine Or.inl ⟨?_, rdV_len l hl⟩
    unfold listN
    rw [hc]

set_option maxRecDepth 100000 in
set_option maxHeartbeats 4000000 in
theorem implRD_any (s : ByteArray) (hs : s.size ≤ 1048576) (w : World) (ht : TabOK w) (he : ErrOK w) (hlen : LenOK w) :
    Calls Tryd.prog 9 #[.string s] w fun e w' => e = .returned (rdV s.data.toList) ∧ Below w.heap.size w w' := by
  have RN := Lib.hid (fun w ht he hl => readNamed_any s 2 (by omega) hs w ht he hl)
  have hsz := (cut_len s.data.toList).1
  have hsl : s.data.toList.length = s.size := Array.length_toList
  have hA : (⟨(Lib.cut s.data.toList [32]).1.toArray⟩ : ByteArray).size ≤ 1048576 := by
    show ((Lib.cut s.data.toList [32]).1.toArray).size ≤ 1048576
    simp only [List.size_toArray]
    omega
  have CC := rdV_cut s.data.toList
  have Z0 : Hid (DZ (w.alloc (.cells #[.string ⟨#[]⟩, .int .i64 0, .int .i64 0] 29)) w.heap.size ⟨#[]⟩ 0 0) := Lib.hid (DZ.new _ _ _ _ _)
  have hb0 : Hid (Below w.heap.size w (w.alloc (.cells #[.string ⟨#[]⟩, .int .i64 0, .int .i64 0] 29))) := Lib.hid ((Below.refl _ _).alloc (Nat.le_refl _) _)
  have T0 := Lib.hid (ht.below hb0.out)
  have E0 := Lib.hid (he.below hb0.out)
  have L0 := Lib.hid (hlen.below hb0.out)
  clear ht he hlen hsz hsl
  generalize rdV s.data.toList = D at *
  generalize (⟨(Lib.cut s.data.toList [32]).1.toArray⟩ : ByteArray) = A at *
  generalize listN 2 (Lib.cut s.data.toList [32]).2.1 = r at *
  rcases CC with ⟨hr, hD⟩ | ⟨a, b, hr, hD⟩
  · subst hr hD
    go_enter Tryd.func9, Tryd.ntmps9
    go_wp2_with fail
    refine (RN.out _ T0.out E0.out L0.out).mono ?_
    rintro e w1 ⟨v, rfl, hown, hb1⟩
    have Z1 := Lib.hid (Z0.out.go hb1)
    have HB1 := Lib.hid (hb0.out.trans (hb1.mono hb0.out.size))
    clear hb1 hb0 Z0
    simp only [Option.isSome_none, Option.getD_none, List.map_nil, List.length_nil] at hown ⊢
    have HO := Lib.hid hown
    clear hown
    obtain ⟨q0, q1, q2, f0, f1, f2⟩ := Z1.out
    go_wp2_with fail
    refine bodyPost_ret (v := .tuple #[.agg #[.string ⟨#[]⟩, .int .i64 0, .int .i64 0], .bool false]) (by first | (simp [results, Tryd.results9, go_sem]; done) | (simp [results, Tryd.results9, go_sem, *]; done)) rfl ⟨rfl, ?_⟩
    repeat (first | exact Below.refl _ _ | exact HB1.out | refine Below.setCell ?_ (by first | (simp; done) | omega | (simp; omega)) _ | refine Below.alloc ?_ (by first | (simp; done) | omega | (simp; omega)) _ | refine bel_drew ?_)
  · subst hr
    have V := Lib.hid (fun w => validDome_any A a b (by unfold maxLen; omega) w)
    clear hA
    cases hv : domeB A a b with
    | false =>
      rw [hv] at V hD
      simp only [Bool.false_eq_true, if_false] at hD
      subst hD
      clear hv
      go_enter Tryd.func9, Tryd.ntmps9
      go_wp2_with fail
      refine (RN.out _ T0.out E0.out L0.out).mono ?_
      rintro e w1 ⟨v, rfl, hown, hb1⟩
      have Z1 := Lib.hid (Z0.out.go hb1)
      have HB1 := Lib.hid (hb0.out.trans (hb1.mono hb0.out.size))
      clear hb1 hb0 Z0
      simp only [Option.isSome_some, Option.getD_some] at hown ⊢
      obtain ⟨gg, cap2, rfl⟩ := Go.Joins.ownsRow_form hown (by simp)
      obtain ⟨m0, m1⟩ := nums_atD hown
      clear hown
      have KK : Hid (w1.cell? ⟨gg, 0, none⟩ = some (.int .i64 a) ∧ w1.cell? ⟨gg, 1, none⟩ = some (.int .i64 b) ∧ Below w1.heap.size w1 w1) := Lib.hid ⟨m0, m1, Below.refl _ _⟩
      go_upto_region 4 with fail
      go_cut [7] from 8 (fun s7 wx => ∃ q : Nat, s7 = .pointer (some ⟨q, 0, none⟩) ∧ Hid (DZ wx q A a b) ∧ Hid (Below w1.heap.size w1 wx))
      case first =>
        go_region_held3 (fun w' => w'.cell? ⟨gg, 0, none⟩ = some (.int .i64 a) ∧ w'.cell? ⟨gg, 1, none⟩ = some (.int .i64 b) ∧ Below w1.heap.size w1 w') (first | (exact keepND KK.out (bel_drew (Below.refl _ _))) | (exact keepND KK.out ((bel_drew (Below.refl _ _)).alloc (Nat.le_refl _) _)) | (exact keepND KK.out (bel_drew ((Below.refl _ _).alloc (Nat.le_refl _) _))) | go_keep | (exact keepND KK.out ((bel_drew ((Below.refl _ _).alloc (Nat.le_refl _) _)).setCell (Nat.le_refl _) _))) (fail)
        all_goals
          rename_i held
          have S1 := Lib.hid held.2.2
          clear held
          go_wp2_with fail
          go_meet
          case rel => first | exact ⟨_, rfl, Lib.hid (DZ.new _ _ _ _ _), S1⟩ | exact ⟨_, rfl, Lib.hid (DZ.drew (DZ.new _ _ _ _ _)), S1⟩ | exact ⟨_, rfl, Lib.hid (DZ.set (DZ.new _ _ _ _ _) _ _ _), S1⟩
      case rest =>
        obtain ⟨q, rfl, CQ, S2⟩ := hcut
        have Z2 := Lib.hid (Z1.out.go S2.out)
        have HB2 := Lib.hid (HB1.out.trans (S2.out.mono HB1.out.size))
        obtain ⟨v0, v1, v2, _, _, _⟩ := CQ.out
        clear m0 m1 KK
        go_wp2_with fail
        refine (V.out _).mono ?_
        rintro e w4 ⟨rfl, hb4⟩
        have Z4 := Lib.hid (Z2.out.go hb4)
        have C4 := Lib.hid (CQ.out.go hb4)
        have HB4 := Lib.hid (HB2.out.trans (hb4.mono HB2.out.size))
        clear hb4 v0 v1 v2
        obtain ⟨v0, v1, v2, _, _, _⟩ := C4.out
        obtain ⟨q0, q1, q2, f0, f1, f2⟩ := Z4.out
        go_wp2_with fail
        refine bodyPost_ret (v := .tuple #[.agg #[.string ⟨#[]⟩, .int .i64 0, .int .i64 0], .bool false]) (by first | (simp [results, Tryd.results9, go_sem]; done) | (simp [results, Tryd.results9, go_sem, *]; done)) rfl ⟨rfl, ?_⟩
        repeat (first | exact Below.refl _ _ | exact HB4.out | refine Below.setCell ?_ (by first | (simp; done) | omega | (simp; omega)) _ | refine Below.alloc ?_ (by first | (simp; done) | omega | (simp; omega)) _ | refine bel_drew ?_)
    | true =>
      rw [hv] at V hD
      simp only [if_true] at hD
      subst hD
      clear hv
      go_enter Tryd.func9, Tryd.ntmps9
      go_wp2_with fail
      refine (RN.out _ T0.out E0.out L0.out).mono ?_
      rintro e w1 ⟨v, rfl, hown, hb1⟩
      have Z1 := Lib.hid (Z0.out.go hb1)
      have HB1 := Lib.hid (hb0.out.trans (hb1.mono hb0.out.size))
      clear hb1 hb0 Z0
      simp only [Option.isSome_some, Option.getD_some] at hown ⊢
      obtain ⟨gg, cap2, rfl⟩ := Go.Joins.ownsRow_form hown (by simp)
      obtain ⟨m0, m1⟩ := nums_atD hown
      clear hown
      have KK : Hid (w1.cell? ⟨gg, 0, none⟩ = some (.int .i64 a) ∧ w1.cell? ⟨gg, 1, none⟩ = some (.int .i64 b) ∧ Below w1.heap.size w1 w1) := Lib.hid ⟨m0, m1, Below.refl _ _⟩
      go_upto_region 4 with fail
      go_cut [7] from 8 (fun s7 wx => ∃ q : Nat, s7 = .pointer (some ⟨q, 0, none⟩) ∧ Hid (DZ wx q A a b) ∧ Hid (Below w1.heap.size w1 wx))
      case first =>
        go_region_held3 (fun w' => w'.cell? ⟨gg, 0, none⟩ = some (.int .i64 a) ∧ w'.cell? ⟨gg, 1, none⟩ = some (.int .i64 b) ∧ Below w1.heap.size w1 w') (first | (exact keepND KK.out (bel_drew (Below.refl _ _))) | (exact keepND KK.out ((bel_drew (Below.refl _ _)).alloc (Nat.le_refl _) _)) | (exact keepND KK.out (bel_drew ((Below.refl _ _).alloc (Nat.le_refl _) _))) | go_keep | (exact keepND KK.out ((bel_drew ((Below.refl _ _).alloc (Nat.le_refl _) _)).setCell (Nat.le_refl _) _))) (fail)
        all_goals
          rename_i held
          have S1 := Lib.hid held.2.2
          clear held
          go_wp2_with fail
          go_meet
          case rel => first | exact ⟨_, rfl, Lib.hid (DZ.new _ _ _ _ _), S1⟩ | exact ⟨_, rfl, Lib.hid (DZ.drew (DZ.new _ _ _ _ _)), S1⟩ | exact ⟨_, rfl, Lib.hid (DZ.set (DZ.new _ _ _ _ _) _ _ _), S1⟩
      case rest =>
        obtain ⟨q, rfl, CQ, S2⟩ := hcut
        have Z2 := Lib.hid (Z1.out.go S2.out)
        have HB2 := Lib.hid (HB1.out.trans (S2.out.mono HB1.out.size))
        obtain ⟨v0, v1, v2, _, _, _⟩ := CQ.out
        clear m0 m1 KK
        go_wp2_with fail
        refine (V.out _).mono ?_
        rintro e w4 ⟨rfl, hb4⟩
        have Z4 := Lib.hid (Z2.out.go hb4)
        have C4 := Lib.hid (CQ.out.go hb4)
        have HB4 := Lib.hid (HB2.out.trans (hb4.mono HB2.out.size))
        clear hb4 v0 v1 v2
        obtain ⟨v0, v1, v2, _, _, _⟩ := C4.out
        obtain ⟨q0, q1, q2, f0, f1, f2⟩ := Z4.out
        go_wp2_with fail
        refine bodyPost_ret (v := .tuple #[.agg #[.string A, .int .i64 a, .int .i64 b], .bool true]) (by first | (simp [results, Tryd.results9, go_sem]; done) | (simp [results, Tryd.results9, go_sem, *]; done)) rfl ⟨rfl, ?_⟩
        repeat (first | exact Below.refl _ _ | exact HB4.out | refine Below.setCell ?_ (by first | (simp; done) | omega | (simp; omega)) _ | refine Below.alloc ?_ (by first | (simp; done) | omega | (simp; omega)) _ | refine bel_drew ?_)
end Go.Proofs.YtkfhjmkodcahpaaDoor
