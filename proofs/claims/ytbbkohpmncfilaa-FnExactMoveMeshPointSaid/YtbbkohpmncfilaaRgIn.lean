/-
  A region that draws its order inside a round of a range over a function, if it defers nothing: as outside of a round.
-/
import Derived.Test.YtbbkohpmncfilaaCore
import Derived.RangeFuncCalls
import Derived.OwnWalkIn
import Derived.RangeFuncBox
namespace Go.Proofs.Ytbbkohpmncfilaa
open Go.RowKit
set_option linter.unusedVariables false

/-- No operation defers. -/
def noDefer (ops : Array Oper) : Bool := ops.toList.all fun o => match o.op with
  | .defer _ => false
  | _ => true
theorem noDefer_at {ops : Array Oper} (h : noDefer ops = true) {i : Nat} {o : Oper} (ho : ops[i]? = some o) : ∀ c, o.op ≠ .defer c := by
  intro c hc
  have hm : o ∈ ops.toList := by
    rw [Array.mem_toList_iff]
    exact Array.mem_of_getElem? ho
  have := List.all_eq_true.1 h o hm
  rw [hc] at this
  cases this
theorem uponIn_round {F : Fence} {n : Nat} {P : Program} {o : Oper} {a : Act} {K K' : Act → World → Prop} {Q : Exit → Act → World → Prop} {l : Nat} (hk : ∀ a w, K a w → K' a w) :
    ∀ r : Result Next, o.uponIn F n P a K Q r → o.uponIn (F.inRound l) n P a K' Q r := by
  intro r h
  cases r with
  | ok x w' =>
    cases x <;> simp only [Oper.uponIn] at h ⊢
    case enter f args => exact ⟨h.1, CallsIn.inRound l (CallsIn.mono h.2 (fun e w'' he => by cases e <;> first | exact hk _ _ he | exact he))⟩
    case row r args => exact ⟨h.1, RowsIn.mono h.2 (fun _ _ he => hk _ _ he)⟩
    case round l' f tmps assign body => exact ⟨h.1, RoundIn.mono h.2 (fun e w'' he => by cases e <;> first | exact hk _ _ he | exact he)⟩
    all_goals first | exact hk _ _ h | exact h
  | halt x w' => cases x <;> simp only [Oper.uponIn] at h ⊢ <;> exact h
theorem opsIn_round {F : Fence} {n : Nat} {P : Program} {ops : Array Oper} {Q : Exit → Act → World → Prop} {l : Nat} (hro : F.round = none) (hnd : noDefer ops = true) :
    ∀ (li : List Nat) (a : Act) (w : World), wpOpsIn F n P ops Q li a w → wpOpsIn (F.inRound l) n P ops Q li a w
  | [], _, _, h => h
  | i :: rest, a, w, h => by
    have ih := opsIn_round (n := n) (P := P) (Q := Q) (l := l) hro hnd rest
    simp only [wpOpsIn] at h ⊢
    cases ho : ops[i]? with
    | none => rw [ho] at h; exact ih a w h
    | some o =>
      rw [ho] at h
      simp only at h ⊢
      by_cases hw : Region.wanted o (yielded ops a.tmps) = true
      · rw [if_pos hw] at h ⊢
        unfold Oper.wpIn at h ⊢
        rw [Oper.semAt_plain F _ _ (noDefer_at hnd ho)] at h
        rw [Oper.semAt_plain (F.inRound l) _ _ (noDefer_at hnd ho)]
        exact ⟨h.1, uponIn_round ih _ h.2⟩
      · rw [if_neg hw] at h ⊢
        exact ⟨h.1, ih _ _ h.2⟩
theorem region_round {F : Fence} {n id l : Nat} {P : Program} {ops : Array Oper} {Q : Exit → Act → World → Prop} {a : Act} {w : World} (hro : F.round = none) (hm : P.follows .mixedOrders = true) (hnd : noDefer ops = true)
    (h : wpAnyIn F n P .any ops Q ops.size (Array.replicate ops.size false) a w.drew) : (Code.region id ops true).wpIn (F.inRound l) n P Q a w :=
  wpIn_region_draw fun t => by
    simp only [Region.schedule, hm, Bool.true_or, if_true]
    exact opsIn_round hro hnd _ _ _ (wpAnyIn_sound ops.size t _ a _ h)
theorem opIn_append {F : Fence} {n : Nat} {P : Program} {o : Oper} {a : Act} {w w' : World} {K : Act → World → Prop} {Q : Exit → Act → World → Prop} {ops : Array Oper} {E : Prop} (s x : Operand) (t : TypeId) (hg : o.guard = none)
    (hop : o.op = Op.call { callee := Callee.builtin Builtin.append, args := #[s, x], argTypes := #[t, t] }) {v u v' : Value} (hs : a.eval s = v) (hx : a.eval x = u) (hrun : (Builtin.append_ #[t, t] o.type #[v, u]).run P w = .ok v' w') (hk : K (a.put o.dst v') w') :
    if Region.wanted o (yielded ops a.tmps) = true then o.wpIn F n P a w K Q else E := by
  have hw : Region.wanted o (yielded ops a.tmps) = true := by simp [Region.wanted, hg]
  rw [if_pos hw]
  unfold Oper.wpIn
  refine ⟨?_, ?_⟩
  · simp [Oper.about, hop, resolve, Target.leads, Sem.run_pure]
  · rw [Oper.semAt_plain F _ _ (by rw [hop]; intro c hc; cases hc)]
    simp [execOp, hop, resolve, invoke, builtin, hs, hx, hrun, Result.andThen, Oper.uponIn]
    exact hk
end Go.Proofs.Ytbbkohpmncfilaa
