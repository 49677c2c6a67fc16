import PyProof.Rows.All
import Lean
import Wide.All
import OpenK.AllK
import Wide.FinOn
import PyProof.EqAt
import PyProof.EqKinds
import PyProof.TupleCall
import KE.BitLaws
import Open.SpecLaws
import KE.OsHead
import KE.OsGo
import KE.SpHead
import KE.OsShapes
import KE.KMinKey
import KE.KLam
import VaattcSpec
import PySem.Challenge.RW0_hangson_s01_answers
import PyVaattc
import PySem.SetOps
import PyProof.SetKind
import PyProof.TupleKey
import PyProof.SetRoads
import PyProof.IsRules
import PyProof.Rows.SetFrom
import KE.KDictSum
import KE.KSortTupG
import PySem.Challenge.RW_hangson_s01_answers
set_option Elab.async true
set_option linter.all false
set_option maxRecDepth 100000
set_option maxHeartbeats 4000000
set_option genSizeOf false
set_option compiler.extract_closed false
set_option genSizeOfSpec false
set_option bootstrap.genMatcherCode false
set_option tactic.hygienic false
universe u
theorem e03{p0 p1 p2:Prop}{G:Prop}(h:p0/\p1/\p2)(f:p0->p1->p2->G):G:=by obtain⟨h0,h1,h2⟩:=h;exact f h0 h1 h2
theorem e04{p0 p1 p2 p3:Prop}{G:Prop}(h:p0/\p1/\p2/\p3)(f:p0->p1->p2->p3->G):G:=by obtain⟨h0,h1,h2,h3⟩:=h;exact f h0 h1 h2 h3
theorem e05{p0 p1 p2 p3 p4:Prop}{G:Prop}(h:p0/\p1/\p2/\p3/\p4)(f:p0->p1->p2->p3->p4->G):G:=by obtain⟨h0,h1,h2,h3,h4⟩:=h;exact f h0 h1 h2 h3 h4
theorem e06{p0 p1 p2 p3 p4 p5:Prop}{G:Prop}(h:p0/\p1/\p2/\p3/\p4/\p5)(f:p0->p1->p2->p3->p4->p5->G):G:=by obtain⟨h0,h1,h2,h3,h4,h5⟩:=h;exact f h0 h1 h2 h3 h4 h5
theorem e12{α0:Type u}{p0 p1:α0->Prop}{G:Prop}(h:∃x0:α0,p0 x0/\p1 x0)(f:∀x0,p0 x0->p1 x0->G):G:=by obtain⟨x0,h0,h1⟩:=h;exact f x0 h0 h1
theorem e13{α0:Type u}{p0 p1 p2:α0->Prop}{G:Prop}(h:∃x0:α0,p0 x0/\p1 x0/\p2 x0)(f:∀x0,p0 x0->p1 x0->p2 x0->G):G:=by obtain⟨x0,h0,h1,h2⟩:=h;exact f x0 h0 h1 h2
theorem e14{α0:Type u}{p0 p1 p2 p3:α0->Prop}{G:Prop}(h:∃x0:α0,p0 x0/\p1 x0/\p2 x0/\p3 x0)(f:∀x0,p0 x0->p1 x0->p2 x0->p3 x0->G):G:=by obtain⟨x0,h0,h1,h2,h3⟩:=h;exact f x0 h0 h1 h2 h3
theorem e15{α0:Type u}{p0 p1 p2 p3 p4:α0->Prop}{G:Prop}(h:∃x0:α0,p0 x0/\p1 x0/\p2 x0/\p3 x0/\p4 x0)(f:∀x0,p0 x0->p1 x0->p2 x0->p3 x0->p4 x0->G):G:=by obtain⟨x0,h0,h1,h2,h3,h4⟩:=h;exact f x0 h0 h1 h2 h3 h4
theorem e16{α0:Type u}{p0 p1 p2 p3 p4 p5:α0->Prop}{G:Prop}(h:∃x0:α0,p0 x0/\p1 x0/\p2 x0/\p3 x0/\p4 x0/\p5 x0)(f:∀x0,p0 x0->p1 x0->p2 x0->p3 x0->p4 x0->p5 x0->G):G:=by obtain⟨x0,h0,h1,h2,h3,h4,h5⟩:=h;exact f x0 h0 h1 h2 h3 h4 h5
theorem e21{α0 α1:Type u}{p0:α0->α1->Prop}{G:Prop}(h:∃x0:α0,∃x1:α1,p0 x0 x1)(f:∀x0 x1,p0 x0 x1->G):G:=by obtain⟨x0,x1,h0⟩:=h;exact f x0 x1 h0
theorem e22{α0 α1:Type u}{p0 p1:α0->α1->Prop}{G:Prop}(h:∃x0:α0,∃x1:α1,p0 x0 x1/\p1 x0 x1)(f:∀x0 x1,p0 x0 x1->p1 x0 x1->G):G:=by obtain⟨x0,x1,h0,h1⟩:=h;exact f x0 x1 h0 h1
theorem e23{α0 α1:Type u}{p0 p1 p2:α0->α1->Prop}{G:Prop}(h:∃x0:α0,∃x1:α1,p0 x0 x1/\p1 x0 x1/\p2 x0 x1)(f:∀x0 x1,p0 x0 x1->p1 x0 x1->p2 x0 x1->G):G:=by obtain⟨x0,x1,h0,h1,h2⟩:=h;exact f x0 x1 h0 h1 h2
theorem e24{α0 α1:Type u}{p0 p1 p2 p3:α0->α1->Prop}{G:Prop}(h:∃x0:α0,∃x1:α1,p0 x0 x1/\p1 x0 x1/\p2 x0 x1/\p3 x0 x1)(f:∀x0 x1,p0 x0 x1->p1 x0 x1->p2 x0 x1->p3 x0 x1->G):G:=by obtain⟨x0,x1,h0,h1,h2,h3⟩:=h;exact f x0 x1 h0 h1 h2 h3
theorem e25{α0 α1:Type u}{p0 p1 p2 p3 p4:α0->α1->Prop}{G:Prop}(h:∃x0:α0,∃x1:α1,p0 x0 x1/\p1 x0 x1/\p2 x0 x1/\p3 x0 x1/\p4 x0 x1)(f:∀x0 x1,p0 x0 x1->p1 x0 x1->p2 x0 x1->p3 x0 x1->p4 x0 x1->G):G:=by obtain⟨x0,x1,h0,h1,h2,h3,h4⟩:=h;exact f x0 x1 h0 h1 h2 h3 h4
theorem e26{α0 α1:Type u}{p0 p1 p2 p3 p4 p5:α0->α1->Prop}{G:Prop}(h:∃x0:α0,∃x1:α1,p0 x0 x1/\p1 x0 x1/\p2 x0 x1/\p3 x0 x1/\p4 x0 x1/\p5 x0 x1)(f:∀x0 x1,p0 x0 x1->p1 x0 x1->p2 x0 x1->p3 x0 x1->p4 x0 x1->p5 x0 x1->G):G:=by obtain⟨x0,x1,h0,h1,h2,h3,h4,h5⟩:=h;exact f x0 x1 h0 h1 h2 h3 h4 h5
theorem e31{α0 α1 α2:Type u}{p0:α0->α1->α2->Prop}{G:Prop}(h:∃x0:α0,∃x1:α1,∃x2:α2,p0 x0 x1 x2)(f:∀x0 x1 x2,p0 x0 x1 x2->G):G:=by obtain⟨x0,x1,x2,h0⟩:=h;exact f x0 x1 x2 h0
theorem e32{α0 α1 α2:Type u}{p0 p1:α0->α1->α2->Prop}{G:Prop}(h:∃x0:α0,∃x1:α1,∃x2:α2,p0 x0 x1 x2/\p1 x0 x1 x2)(f:∀x0 x1 x2,p0 x0 x1 x2->p1 x0 x1 x2->G):G:=by obtain⟨x0,x1,x2,h0,h1⟩:=h;exact f x0 x1 x2 h0 h1
theorem e33{α0 α1 α2:Type u}{p0 p1 p2:α0->α1->α2->Prop}{G:Prop}(h:∃x0:α0,∃x1:α1,∃x2:α2,p0 x0 x1 x2/\p1 x0 x1 x2/\p2 x0 x1 x2)(f:∀x0 x1 x2,p0 x0 x1 x2->p1 x0 x1 x2->p2 x0 x1 x2->G):G:=by obtain⟨x0,x1,x2,h0,h1,h2⟩:=h;exact f x0 x1 x2 h0 h1 h2
theorem e34{α0 α1 α2:Type u}{p0 p1 p2 p3:α0->α1->α2->Prop}{G:Prop}(h:∃x0:α0,∃x1:α1,∃x2:α2,p0 x0 x1 x2/\p1 x0 x1 x2/\p2 x0 x1 x2/\p3 x0 x1 x2)(f:∀x0 x1 x2,p0 x0 x1 x2->p1 x0 x1 x2->p2 x0 x1 x2->p3 x0 x1 x2->G):G:=by obtain⟨x0,x1,x2,h0,h1,h2,h3⟩:=h;exact f x0 x1 x2 h0 h1 h2 h3
theorem e35{α0 α1 α2:Type u}{p0 p1 p2 p3 p4:α0->α1->α2->Prop}{G:Prop}(h:∃x0:α0,∃x1:α1,∃x2:α2,p0 x0 x1 x2/\p1 x0 x1 x2/\p2 x0 x1 x2/\p3 x0 x1 x2/\p4 x0 x1 x2)(f:∀x0 x1 x2,p0 x0 x1 x2->p1 x0 x1 x2->p2 x0 x1 x2->p3 x0 x1 x2->p4 x0 x1 x2->G):G:=by obtain⟨x0,x1,x2,h0,h1,h2,h3,h4⟩:=h;exact f x0 x1 x2 h0 h1 h2 h3 h4
theorem e36{α0 α1 α2:Type u}{p0 p1 p2 p3 p4 p5:α0->α1->α2->Prop}{G:Prop}(h:∃x0:α0,∃x1:α1,∃x2:α2,p0 x0 x1 x2/\p1 x0 x1 x2/\p2 x0 x1 x2/\p3 x0 x1 x2/\p4 x0 x1 x2/\p5 x0 x1 x2)(f:∀x0 x1 x2,p0 x0 x1 x2->p1 x0 x1 x2->p2 x0 x1 x2->p3 x0 x1 x2->p4 x0 x1 x2->p5 x0 x1 x2->G):G:=by obtain⟨x0,x1,x2,h0,h1,h2,h3,h4,h5⟩:=h;exact f x0 x1 x2 h0 h1 h2 h3 h4 h5
theorem e37{α0 α1 α2:Type u}{p0 p1 p2 p3 p4 p5 p6:α0->α1->α2->Prop}{G:Prop}(h:∃x0:α0,∃x1:α1,∃x2:α2,p0 x0 x1 x2/\p1 x0 x1 x2/\p2 x0 x1 x2/\p3 x0 x1 x2/\p4 x0 x1 x2/\p5 x0 x1 x2/\p6 x0 x1 x2)(f:∀x0 x1 x2,p0 x0 x1 x2->p1 x0 x1 x2->p2 x0 x1 x2->p3 x0 x1 x2->p4 x0 x1 x2->p5 x0 x1 x2->p6 x0 x1 x2->G):G:=by obtain⟨x0,x1,x2,h0,h1,h2,h3,h4,h5,h6⟩:=h;exact f x0 x1 x2 h0 h1 h2 h3 h4 h5 h6
theorem e42{α0 α1 α2 α3:Type u}{p0 p1:α0->α1->α2->α3->Prop}{G:Prop}(h:∃x0:α0,∃x1:α1,∃x2:α2,∃x3:α3,p0 x0 x1 x2 x3/\p1 x0 x1 x2 x3)(f:∀x0 x1 x2 x3,p0 x0 x1 x2 x3->p1 x0 x1 x2 x3->G):G:=by obtain⟨x0,x1,x2,x3,h0,h1⟩:=h;exact f x0 x1 x2 x3 h0 h1
theorem e43{α0 α1 α2 α3:Type u}{p0 p1 p2:α0->α1->α2->α3->Prop}{G:Prop}(h:∃x0:α0,∃x1:α1,∃x2:α2,∃x3:α3,p0 x0 x1 x2 x3/\p1 x0 x1 x2 x3/\p2 x0 x1 x2 x3)(f:∀x0 x1 x2 x3,p0 x0 x1 x2 x3->p1 x0 x1 x2 x3->p2 x0 x1 x2 x3->G):G:=by obtain⟨x0,x1,x2,x3,h0,h1,h2⟩:=h;exact f x0 x1 x2 x3 h0 h1 h2
theorem e44{α0 α1 α2 α3:Type u}{p0 p1 p2 p3:α0->α1->α2->α3->Prop}{G:Prop}(h:∃x0:α0,∃x1:α1,∃x2:α2,∃x3:α3,p0 x0 x1 x2 x3/\p1 x0 x1 x2 x3/\p2 x0 x1 x2 x3/\p3 x0 x1 x2 x3)(f:∀x0 x1 x2 x3,p0 x0 x1 x2 x3->p1 x0 x1 x2 x3->p2 x0 x1 x2 x3->p3 x0 x1 x2 x3->G):G:=by obtain⟨x0,x1,x2,x3,h0,h1,h2,h3⟩:=h;exact f x0 x1 x2 x3 h0 h1 h2 h3
theorem e45{α0 α1 α2 α3:Type u}{p0 p1 p2 p3 p4:α0->α1->α2->α3->Prop}{G:Prop}(h:∃x0:α0,∃x1:α1,∃x2:α2,∃x3:α3,p0 x0 x1 x2 x3/\p1 x0 x1 x2 x3/\p2 x0 x1 x2 x3/\p3 x0 x1 x2 x3/\p4 x0 x1 x2 x3)(f:∀x0 x1 x2 x3,p0 x0 x1 x2 x3->p1 x0 x1 x2 x3->p2 x0 x1 x2 x3->p3 x0 x1 x2 x3->p4 x0 x1 x2 x3->G):G:=by obtain⟨x0,x1,x2,x3,h0,h1,h2,h3,h4⟩:=h;exact f x0 x1 x2 x3 h0 h1 h2 h3 h4
theorem e51{α0 α1 α2 α3 α4:Type u}{p0:α0->α1->α2->α3->α4->Prop}{G:Prop}(h:∃x0:α0,∃x1:α1,∃x2:α2,∃x3:α3,∃x4:α4,p0 x0 x1 x2 x3 x4)(f:∀x0 x1 x2 x3 x4,p0 x0 x1 x2 x3 x4->G):G:=by obtain⟨x0,x1,x2,x3,x4,h0⟩:=h;exact f x0 x1 x2 x3 x4 h0
theorem e55{α0 α1 α2 α3 α4:Type u}{p0 p1 p2 p3 p4:α0->α1->α2->α3->α4->Prop}{G:Prop}(h:∃x0:α0,∃x1:α1,∃x2:α2,∃x3:α3,∃x4:α4,p0 x0 x1 x2 x3 x4/\p1 x0 x1 x2 x3 x4/\p2 x0 x1 x2 x3 x4/\p3 x0 x1 x2 x3 x4/\p4 x0 x1 x2 x3 x4)(f:∀x0 x1 x2 x3 x4,p0 x0 x1 x2 x3 x4->p1 x0 x1 x2 x3 x4->p2 x0 x1 x2 x3 x4->p3 x0 x1 x2 x3 x4->p4 x0 x1 x2 x3 x4->G):G:=by obtain⟨x0,x1,x2,x3,x4,h0,h1,h2,h3,h4⟩:=h;exact f x0 x1 x2 x3 x4 h0 h1 h2 h3 h4
theorem e56{α0 α1 α2 α3 α4:Type u}{p0 p1 p2 p3 p4 p5:α0->α1->α2->α3->α4->Prop}{G:Prop}(h:∃x0:α0,∃x1:α1,∃x2:α2,∃x3:α3,∃x4:α4,p0 x0 x1 x2 x3 x4/\p1 x0 x1 x2 x3 x4/\p2 x0 x1 x2 x3 x4/\p3 x0 x1 x2 x3 x4/\p4 x0 x1 x2 x3 x4/\p5 x0 x1 x2 x3 x4)(f:∀x0 x1 x2 x3 x4,p0 x0 x1 x2 x3 x4->p1 x0 x1 x2 x3 x4->p2 x0 x1 x2 x3 x4->p3 x0 x1 x2 x3 x4->p4 x0 x1 x2 x3 x4->p5 x0 x1 x2 x3 x4->G):G:=by obtain⟨x0,x1,x2,x3,x4,h0,h1,h2,h3,h4,h5⟩:=h;exact f x0 x1 x2 x3 x4 h0 h1 h2 h3 h4 h5
theorem e63{α0 α1 α2 α3 α4 α5:Type u}{p0 p1 p2:α0->α1->α2->α3->α4->α5->Prop}{G:Prop}(h:∃x0:α0,∃x1:α1,∃x2:α2,∃x3:α3,∃x4:α4,∃x5:α5,p0 x0 x1 x2 x3 x4 x5/\p1 x0 x1 x2 x3 x4 x5/\p2 x0 x1 x2 x3 x4 x5)(f:∀x0 x1 x2 x3 x4 x5,p0 x0 x1 x2 x3 x4 x5->p1 x0 x1 x2 x3 x4 x5->p2 x0 x1 x2 x3 x4 x5->G):G:=by obtain⟨x0,x1,x2,x3,x4,x5,h0,h1,h2⟩:=h;exact f x0 x1 x2 x3 x4 x5 h0 h1 h2
theorem e64{α0 α1 α2 α3 α4 α5:Type u}{p0 p1 p2 p3:α0->α1->α2->α3->α4->α5->Prop}{G:Prop}(h:∃x0:α0,∃x1:α1,∃x2:α2,∃x3:α3,∃x4:α4,∃x5:α5,p0 x0 x1 x2 x3 x4 x5/\p1 x0 x1 x2 x3 x4 x5/\p2 x0 x1 x2 x3 x4 x5/\p3 x0 x1 x2 x3 x4 x5)(f:∀x0 x1 x2 x3 x4 x5,p0 x0 x1 x2 x3 x4 x5->p1 x0 x1 x2 x3 x4 x5->p2 x0 x1 x2 x3 x4 x5->p3 x0 x1 x2 x3 x4 x5->G):G:=by obtain⟨x0,x1,x2,x3,x4,x5,h0,h1,h2,h3⟩:=h;exact f x0 x1 x2 x3 x4 x5 h0 h1 h2 h3
theorem r{A:Sort u}{a:A}:a=a:=rfl
@[elab_as_elim]theorem zT{A:Sort u}{a b:A}{p:A->Prop}(h:a=b)(e:p b):p a:=h▸e
@[elab_as_elim]theorem zU{A:Sort u}{a b:A}{p:A->Prop}(h:b=a)(e:p b):p a:=h▸e
universe v
section
set_option tactic.hygienic true
open PySem PySem.W
def zHa : Obj → Option Obj
  | ⟨_, _, .freed, _⟩ => none
  | o => some o
theorem zHb (h : Heap) (a : Addr) : h.get? a = h.objs[a]?.bind zHa := by
  unfold Heap.get?
  cases h.objs[a]? with
  | none => rfl
  | some o => obtain ⟨c, d, x, m⟩ := o; cases x <;> rfl
noncomputable def zHc (os : List Obj) : Nat → List Nat → List (Option Obj) :=
  @List.rec Obj (fun _ => Nat → List Nat → List (Option Obj)) (fun _ as => as.map fun _ => none)
    (fun o _ ih i as => match as with
      | [] => []
      | a :: r => bif Nat.beq i a then zHa o :: ih (Nat.succ i) r else ih (Nat.succ i) (a :: r)) os
theorem zHe {n i : Nat} (h : i + 1 ≤ n) : n - i = (n - (i+1)) + 1 := by omega
theorem zHd : ∀ (os : List Obj) (i : Nat) (K : Frag), zHc os i (K.map (·.1)) = K.map (fun p => some p.2) →
    ∀ p ∈ K, i ≤ p.1 ∧ os[p.1 - i]?.bind zHa = some p.2 := by
  intro os
  induction os with
  | nil =>
    intro i K e p hp
    cases K with
    | nil => cases hp
    | cons q r => cases e
  | cons o os ih =>
    intro i K e p hp
    cases K with
    | nil => cases hp
    | cons q r =>
      change (bif Nat.beq i q.1 then zHa o :: zHc os (i+1) (r.map (·.1)) else zHc os (i+1) (q.1 :: r.map (·.1))) = some q.2 :: r.map (fun p => some p.2) at e
      cases hb : Nat.beq i q.1 with
      | true =>
        rw [hb] at e
        have e1 := (List.cons.inj e).1
        have e2 := (List.cons.inj e).2
        have hi := Nat.eq_of_beq_eq_true hb
        cases List.mem_cons.mp hp with
        | inl h => subst h; rw [hi]; refine ⟨Nat.le_refl _, ?_⟩; rw [Nat.sub_self]; exact e1
        | inr h =>
          have ⟨a, b⟩ := ih _ _ e2 _ h
          refine ⟨Nat.le_of_succ_le a, ?_⟩
          rw [zHe a]; exact b
      | false =>
        rw [hb] at e
        have ⟨a, b⟩ := ih (i+1) (q :: r) e _ hp
        refine ⟨Nat.le_of_succ_le a, ?_⟩
        rw [zHe a]; exact b
theorem zHf : ∀ {K : Frag} {a : Addr} {o : Obj}, K.lookup a = some o → (a, o) ∈ K := by
  intro K
  induction K with
  | nil => intro a o e; cases e
  | cons p r ih =>
    intro a o e
    obtain ⟨b, x⟩ := p
    simp only [List.lookup] at e
    split at e
    · rename_i q; cases e; rw [beq_iff_eq.mp q]; exact List.mem_cons_self
    · exact List.mem_cons_of_mem _ (ih e)
theorem zHg {K : Params → Frag} {as : List Addr} (e : ∀ P, as = (K P).map (·.1)) (w : World) (s : Shared) (x : zHc s.heap.objs.toList 0 as = (K w.params).map fun p => some p.2) : InK K w s.heap := by
  intro a o l
  rw [e w.params] at x
  have ⟨_, b⟩ := zHd _ _ _ x _ (zHf l)
  rw [zHb, ← Array.getElem?_toList]; exact b
noncomputable def zHook (K : Params → Frag) (as : List Addr) (e : ∀ P, as = (K P).map (·.1)) : Hook :=
  ⟨List (Option Obj), fun s => zHc s.heap.objs.toList 0 as, fun w => (K w.params).map fun p => some p.2, InK K, zHg e, InK.keeps⟩
end
theorem zWa{a b:Bool}(h:a=true)(k:b=true):(a&&b)=true:=Bool.and_eq_true_iff.mpr ⟨h,k⟩
theorem zF{c:Prop}{i:Decidable c}(h:¬c){A:Sort u}{a b:A}:ite c a b=b:=if_neg h
theorem zG{c:Prop}{i:Decidable c}(h:c){A:Sort u}{a b:A}:ite c a b=a:=if_pos h
theorem zH{a b:Prop}(h:a)(n:¬a):b:=absurd h n
theorem zI{p:Prop}[i:Decidable p](h:decide p=true):p:=of_decide_eq_true h
theorem zJ{p:Prop}[i:Decidable p](h:p):decide p=true:=decide_eq_true h
theorem zK{p:Prop}[i:Decidable p](h:¬p):decide p=false:=decide_eq_false h
theorem zL{A:Sort u}{B:Sort v}{a b:A}(f:A->B)(h:a=b):f a=f b:=congrArg f h
section
local macro_rules|`(tactic|o_headS ($f:ident $K $a $e))=>if f.getId.eraseMacroScopes==`kHook then `(tactic|o_headS (zHook $K $a $e)) else Lean.Macro.throwUnsupported
open Lean Parser in
def zM:Nat->NameMap (Array Name×Syntax)->Syntax->Array Syntax|0,_,s=>#[s]|n+1,m,s=>Id.run do
  let g:=λx:Syntax=>if x.isIdent then (m.find? x.getId).map λq=>(q.1,q.2,#[]) else if x.isOfKind ``Term.app then (m.find? x[0].getId).map λq=>(q.1,q.2,x[1].getArgs) else none
  let f:=λ(p:Array Name)(b:Syntax)(a:Array Syntax)=>Id.run (b.replaceM λx=>pure (if x.isIdent then (p.idxOf? x.getId.getRoot).map λi=>let y:=a[i]!;if y.isIdent then mkIdent (x.getId.replacePrefix x.getId.getRoot y.getId) else y else none))
  if s.isOfKind ``calcTactic then
    if let some (p,b,a):=g s[1][0][0] then
      if b.isOfKind ``Term.byTactic then return (f p b a)[1][0][0].getArgs.flatMap (zM n m)
  if s.isOfKind ``Elab.Tactic.Ext.ext then
    let a:=s[1].getArgs.map (·[0][0])
    if let some q:=m.find? a[0]!.getId then return (f q.1 q.2 (a.extract 1 a.size))[1][0][0].getArgs.flatMap (zM n m)
  if let some (p,b,a):=g s then
    let c:=f p b a
    if b.isOfKind ``Term.paren then return c[1][1].getArgs.flatMap (zM n m)
    let r:=a.extract p.size a.size
    return zM n m (if r.isEmpty then c else if c.isOfKind ``Term.app then c.modifyArg 1 λx=>mkNullNode (x.getArgs++r) else mkNode ``Term.app #[c,mkNullNode r])
  let s:=s.setArgs (s.getArgs.flatMap (zM n m))
  return #[if s.isOfKind ``Term.app&&s[0].isOfKind ``Term.paren&&s[0][1].isOfKind ``Term.proj then s.setArg 0 s[0][1] else s]
open Lean Parser in
def zN:Nat->Bool->Syntax->NameSet×NameSet->NameSet×NameSet|0,_,_,q=>q|n+1,t,s,(u,b)=>if s.isIdent then (u.insert s.getId.getRoot,if t then b.insert s.getId.getRoot else b) else let k:=s.getKind;if k==``Term.byTactic||k==``Term.binderTactic||k==``Term.structInstLVal then (u,b) else s.getArgs.size.fold (λi _ q=>if k==``Term.proj&&i==2||k==``Term.dotIdent||k==``Term.namedArgument&&i==1 then q else zN n (t||k==`Lean.binderIdent||k==``Term.letId||(k==``Term.doIdDecl||k==``Term.doPatDecl)&&i==0||k==`Lean.unbracketedExplicitBinders&&i==0||k==``Term.basicFun&&i==0||k==``Command.ctor&&i==3||k==``Command.structExplicitBinder&&i==2||(k==``Term.explicitBinder||k==``Term.implicitBinder||k==``Term.strictImplicitBinder||k==``Term.matchAlt||k==``Term.forall)&&i==1) s[i] q) (u,b)
open Lean Parser in
def zO(c:Syntax):NameSet×NameSet->NameSet×NameSet:=λq=>if c[1].isOfKind ``Command.theorem then zN 999 false c[1][2] q else zN 999 false c[1] q
open Lean Parser in
def zP(v:Array Syntax)(u b:NameSet):Array Syntax:=Id.run do
  let mut w:=u
  let mut o:=#[]
  for x in v.reverse do
    let i:=x[1].getArgs.filter λy=>w.contains y.getId&& !b.contains y.getId
    if !i.isEmpty then
      w:=(zN 999 false x[2] (w,{})).1
      o:=o.push (x.setArg 1 (mkNullNode i))
  return o.reverse
open Lean Parser in
def zQ(w:Array Syntax)(c:Syntax):Syntax:=if w.isEmpty then c else c.modifyArg 1 λd=>d.modifyArg 2 λs=>s.modifyArg 0 λx=>mkNullNode (w++x.getArgs)
open Lean Parser in
def zR:Nat->Array Syntax->Syntax->Syntax|0,_,c=>c|n+1,v,c=>if c.isOfKind ``Command.in then c.modifyArg 2 (zR n v) else if c.isOfKind ``Command.mutual then let q:=c[1].getArgs.foldl (λq x=>zO x q) ({},{});let w:=zP v q.1 q.2;c.modifyArg 1 λx=>mkNullNode (x.getArgs.map (zQ w)) else if c.isOfKind ``Command.declaration then let q:=zO c ({},{});zQ (zP v q.1 q.2) c else c
open Lean Parser in
def zS:Nat->Syntax->Syntax|0,c=>c|n+1,c=>if c.isOfKind ``Command.in then c.modifyArg 2 (zS n) else if c.isOfKind ``Command.mutual then c.modifyArg 1 λx=>mkNullNode (x.getArgs.map (zS n)) else if c.isOfKind ``Command.declaration then let d:=c[1];if d.isOfKind ``Command.definition then c.setArg 1 (mkNode ``Command.theorem #[mkAtom "theorem",d[1],mkNode ``Command.declSig #[d[2][0],d[2][1][0]],d[3]]) else if d.isOfKind ``Command.abbrev then (c.setArg 1 (mkNode ``Command.definition #[mkAtom "def",d[1],d[2],d[3],mkNullNode])).modifyArg 0 (·.setArg 4 (mkNullNode #[mkNode ``Command.noncomputable #[mkAtom "noncomputable"]])) else c else c
open Lean Parser in
local macro_rules|`(mutual $cs* end)=>do
  unless cs[0]!.raw.isOfKind ``Command.init_quot do Macro.throwUnsupported
  let mut m:={}
  let mut v:=#[]
  let mut o:=#[]
  let mut t:=false
  let mut g:=.missing
  for c in cs do
    let c:=c.raw
    if c.isOfKind ``Command.init_quot then t:=!t else
    if c[1][1][0].getId==`tw then o:=(o++((List.range 1360).map (s!"o_{·}")++[8,44,100,145,167,189,211,233,255,277,299,321,343,365,387,409,432,443,508,559,567,627,692,715,738,761,819,863,884,943,1015,1037,1210,1288,1327,1350].map (s!"tree_{·}")++[10,45,101,146,168,190,212,234,256,278,300,322,344,366,388,410,433,446,509,560,570,628,693,716,739,762,820,864,885,944,1016,1038,1292,1328].map (s!"sts_{·}")++["heap_1","heap_7","heap_1351","env_2","view_1"]).toArray.map λi=>c.modifyArg 1 (·.modifyArg 1 (·.setArg 0 (mkIdent (`PySem.W.Fast++.mkSimple s!"tw{hash (`VV++.mkSimple i)}"))))).push g else
    if t then m:=m.insert c[1][1][0].getId (c[1][2][0].getArgs.map (·.getId),c[1][3][1]) else
    if c.isOfKind ``guardMsgsCmd then g:=c else
    let c:=zS 9 (zM 999 m c)[0]!
    if c.isOfKind ``Command.variable&&c[1][0].isOfKind ``Term.implicitBinder then v:=v++c[1].getArgs else o:=o.push (zR 9 v c)
    if o.size%16==0 then o:=o.push g
  return mkNullNode o
set_option hygiene false
open Lean Parser Tactic in
def zA:Nat->Syntax->Syntax|0,s=>s|n+1,s=>if s.isIdent then mkNode ``rcasesPat.one #[s] else if s.isOfKind ``Term.hole then mkNode ``rcasesPat.ignore #[mkAtom "_"] else mkNode ``rcasesPat.tuple #[mkAtom "⟨",mkNullNode (s[1].getArgs.map λx=>if x.isAtom then x else mkNode ``rcasesPatLo #[mkNode ``rcasesPatMed #[mkNullNode #[zA n x]],mkNullNode]),mkAtom "⟩"]
open Lean Parser Tactic in
def zB(s:Syntax):Bool:=s.isOfKind ``Term.anonymousCtor||s.isOfKind `«term#[_,]»
open Lean Parser Tactic in
def zC(s:Syntax):MacroM Unit:=if (s.find? (·.isOfKind ``Term.syntheticHole)).isSome then Macro.throwUnsupported else pure ()
open Lean Parser Tactic in
def zD(x:Syntax):TSyntax `rintroPat:=⟨mkNode ``rintroPat.one #[zA 9 x]⟩
open Lean Parser Tactic in
def zE(x:Syntax):TSyntax ``rcasesPatMed:=⟨mkNode ``rcasesPatMed #[mkNullNode #[zA 9 x]]⟩
open Lean Parser Tactic in
local macro_rules|`(fun $xs* => $b)=>do {unless xs.any (zB ·) do {Macro.throwUnsupported};zC b;`(by rintro $(xs.map (zD ·))*; exact $b)}
open Lean Parser Tactic in
local macro_rules|`(let $p:term:=$e;$b)=>do {unless zB p do {Macro.throwUnsupported};zC b;`(by rcases $e:term with $(zE p);exact $b)}|`(have $p:term:=$e;$b)=>do {unless zB p do {Macro.throwUnsupported};zC b;`(by rcases $e:term with $(zE p);exact $b)}
open Lean Parser Tactic in
local macro_rules|`($f^$x)=>do {if f.raw.isOfKind ``Term.app then {return f.raw.modifyArg 1 (λa=>mkNullNode (a.getArgs.push x))};if f.raw.isIdent||f.raw.isOfKind ``Term.dotIdent||f.raw.isOfKind ``Term.explicit||f.raw.isOfKind ``Term.proj then {return mkNode ``Term.app #[f,mkNullNode #[x]]};Macro.throwUnsupported}
open Lean Parser Tactic in
local macro_rules|`(tactic|let $d:letDecl)=>do
  let s:=d.raw[0]
  unless s.isOfKind ``Term.letPatDecl do return ←`(tactic|refine_lift have $d:letDecl; ?_)
  let c:=s[0]
  let e:Term:=⟨s[4]⟩
  let n:=(c[1].getArgs.size+1)/2
  let o←`(tactic|rcases $e:term with $(zE c))
  if n<3||n>11 then return o
  let ps:=c[1].getSepArgs.map zD
  let ts←(List.range n).toArray.mapM λk=>do
    let l:=mkIdent (.mkSimple s!"e{k}{n-k}")
    if e.raw.isIdent then `(tactic|(refine $l $e ?_; (try clear $(⟨e.raw⟩)); rintro $ps*)) else `(tactic|(refine $l $e ?_; rintro $ps*))
  `(tactic|first $[|$(ts.push o):tactic]*)
open Lean Parser Tactic in
def zV(h:TSyntax `ident):MacroM (TSyntax `tactic):=do {let i←`(tactic|first|contradiction|(injection $h with $h:ident sZ;subst $h;subst sZ)|((fail_if_success injection $h with $h:ident sZ);injection $h with $h:ident;subst $h));`(tactic|first|subst $h|(replace $h:ident:=Option.some.inj $h;first|subst $h|$i:tactic)|$i:tactic|rcases $h:ident with ⟨⟩)}
open Lean Parser Tactic in
local macro_rules|`(tactic|cases $h:ident)=>zV h
open Lean Parser Tactic in
local macro_rules|`(tactic|ext $p:rintroPat)=>zV ⟨p.raw[0][0]⟩
open Lean Parser Tactic in
local macro_rules|`(tactic|rwa[$rs,*])=>let a:=rs.getElems;let t:Term:=⟨a.back!.raw[1]⟩;`(tactic|(rw[$(a.pop),*];refine $t))
open Lean Parser Tactic in
local macro_rules|`(tactic|rw[$rs,*])=>do
  let ts←rs.getElems.mapM λr=>do
    let t:Term:=⟨r.raw[1]⟩
    if (t.raw.find? (·.isOfKind ``Term.syntheticHole)).isSome then `(tactic|rewrite[$r]) else if r.raw[0].getNumArgs==0 then `(tactic|first|refine zT $t ?_|refine zT ($t _) ?_|refine zT ($t _ _) ?_|rewrite[$r]) else `(tactic|first|refine zU $t ?_|refine zU ($t _) ?_|refine zU ($t _ _) ?_|rewrite[$r])
  `(tactic|($[$ts];*;try with_reducible rfl))
open Lean Parser Tactic in
local macro_rules|`(tactic|exists $h)=>`(tactic|simpa using $h)
open Lean Parser Tactic in
local macro_rules|`(tactic|simp)=>`(tactic|first|decide|simp[])
open Lean Parser Tactic in
local macro_rules|`(tactic|nofun)=>`(tactic|refine V0 λhkZ=>?_)
open Lean Parser Tactic in
local macro_rules|`(tactic|left)=>`(tactic|(refine hkZ ?_;clear hkZ))
open Lean Parser Tactic in
local macro_rules|`(tactic|symm)=>`(tactic|first|refine let DZ:dI:=_;let u5':cN:=_;let u4':cN:=UV _ u5';let u3':cN:=UV _ u4';let u2':cN:=UV _ u3';let u1':cN:=UV _ u2';VW (UV _ u1') DZ ?_|refine let DZ:dI:=_;let u4':cN:=_;let u3':cN:=UV _ u4';let u2':cN:=UV _ u3';let u1':cN:=UV _ u2';VW (UV _ u1') DZ ?_|refine let DZ:dI:=_;let u3':cN:=_;let u2':cN:=UV _ u3';let u1':cN:=UV _ u2';VW (UV _ u1') DZ ?_|refine let DZ:dI:=_;let u2':cN:=_;let u1':cN:=UV _ u2';VW (UV _ u1') DZ ?_|refine let DZ:dI:=_;let u1':cN:=_;VW (UV _ u1') DZ ?_|refine let DZ:dI:=_;VW _ DZ ?_|refine let u7':cN:=_;let u6':cN:=UV _ u7';let u5':cN:=UV _ u6';let u4':cN:=UV _ u5';let u3':cN:=UV _ u4';let u2':cN:=UV _ u3';let u1':cN:=UV _ u2';VZ (UV _ u1') ?_|refine let u6':cN:=_;let u5':cN:=UV _ u6';let u4':cN:=UV _ u5';let u3':cN:=UV _ u4';let u2':cN:=UV _ u3';let u1':cN:=UV _ u2';VZ (UV _ u1') ?_|refine let u5':cN:=_;let u4':cN:=UV _ u5';let u3':cN:=UV _ u4';let u2':cN:=UV _ u3';let u1':cN:=UV _ u2';VZ (UV _ u1') ?_|refine let u4':cN:=_;let u3':cN:=UV _ u4';let u2':cN:=UV _ u3';let u1':cN:=UV _ u2';VZ (UV _ u1') ?_|refine let u3':cN:=_;let u2':cN:=UV _ u3';let u1':cN:=UV _ u2';VZ (UV _ u1') ?_|refine let u2':cN:=_;let u1':cN:=UV _ u2';VZ (UV _ u1') ?_|refine let u1':cN:=_;VZ (UV _ u1') ?_|skip)
open Lean Parser Tactic in
local macro_rules|`(tactic|right)=>`(tactic|first|refine let sZ:aR:=_;VX sZ ?_|refine let sZ:aR:=_;VY sZ ?_|skip)
open Lean Parser Tactic in
local macro_rules|`(tactic|calc $e:term)=>`(tactic|refine $e)
open Lean Parser Tactic in
local macro_rules|`(#[$ts,*])=>if ts.getElems.isEmpty then Macro.throwUnsupported else `(⟨$ts,*⟩)
set_option hygiene true
open Option renaming some->aa,none->ah,map_eq_some_iff->cv,isSome_iff_exists->f4,isSome_map->nv,map_some->nw,bind->s3,map_map->v2,map->Am,getD_none->Hv,getD_some->Hw,isSome_some->Hx
open PySem renaming Addr->ac,Value->aj,Str->al,wpAny_bind->ar,Shared->ax,Heap->aG,wpAny->aH,World->aN,Program->aQ,wpAny_pure->aT,model->a0,sizeLine->a9,Obj->bb,Paired->be,Expr->bn,eval->b1,sizeLine_eq->b2,Pos->b7,FuncData->b',Around->cp,starEach->cw,Stmt->cE,Env->cR,mainGlobals->c5,Scope->dF,boot_len->dG,DictEntry->d4,cLine->eV,wpAny_mono->eW,Sem->fo,backTo->fp,call->fB,compareOp->fC,sysModules->fD,rawInt->fQ,cellsFrom->f6,wpAny_holding->f7,pyNext->gq,Tok->hi,wpAny_newObj_type->hk,NameKind->hM,mem_of_lookup->ig,wpAny_call_entry->ih,SetTable->iM,holding->iO,codeAny->jo,atKey->jU,compEnvC->jV,wpAny_dictEntries->jW,wpAny_field->jX,Model->kD,IsPart->ln,PyData->lp,getItem->lu,standAt->lv,attributeBase->mg,backToKw->mh,binaryOp->mi,bootBuiltins->mj,codeAny_mono->ml,excClassObj->mm,keywordEach->mn,noteFrame->mo,swapsWith->mq,wpAny_callSpecial?_slot->mr,wpAny_dictEpoch->ms,wpAny_truthy_bool->mu,IsItemIter->nC,Params->nD,assignEach->nJ,bindC->nK,bindL->nL,callWith->nM,codeAmong->nN,getMethod->nO,notedBy->nP,pushCells->nQ,pyIter->nR,valueAt->nS,wpAny_Call_Name_kw->nT,wpAny_setField->nU,CmpOp->o7,assign->pe,builtinsNs->pf,setField->pg,sliceBounds->ph,wpAny_attempt->pi,wpAny_call->pj,wpAny_letGo->pk,wpAny_loadPart_at->pl,wpAny_passesOwn->pm,BindsTo->qO,Keyword->qR,Result->qW,behindInMarks->q2,codeAny_builtin->q3,firstArgMember->q4,newExc->q5,tupleKind->q6,wpAny_execs_nil->q7,wpAny_fieldsOf->q8,wpAny_tryCatch->q9,GenState->ta,Operator->tb,call_meets->tj,callerA->tk,compPost->tl,getAttr->tm,intKind->tn,isTrue->to,plainId_quiet->tp,size_of_entries->tq,tupleKind_room_in1->tr,typeLookup->ts,wpAny_of_eq->tt,wpAny_seqItems->tu,wpAny_setField_rec->tv,wpAny_setState_of->tx,wpAny_standAt->ty,wpAny_typeOf->tz,bindArgs->wk,closureFor->wl,entry_at->wm,foldedSetIterable->wn,leaving->wo,letOwnedTupleGo->wp,ofAClassStatement->wq,pushCells_keeps->wr,setFlight->ws,setSearchFrom->wt,subscripted->wu,wpAny_Name->wv,wpAny_execs_cons->ww,wpAny_isSubtype_exc->wx,wpAny_notOrdered_dict->wy,wpAny_pyIter_list->wz,wpAny_pyIter_slot->wA,wpAny_throw->wB,wpAny_typeNameOfWhole_itemiter->wC,wpAny_typeNameOfWhole_keyiter->wD,wpAny_typeNameOfWhole_valiter->wE,wpAny_typeNameOf_keyiter->wF,wpAny_updateSeq->wG,Arguments->Au,PassesOwn->AH,Within->AW,codeAny_call_builtin->AX,entryOfKey->AY,inplaceOp->AZ,isInstance->A0,isSubtype_stop->A1,raiseStmt->A2,seqIndex_neg->A3,seqIndex_of->A4,seqItems?->A5,storeName->A6,unsupported->A7,wpAny_Call_method->A8,wpAny_forIn_list->A9,wpAny_handled->A',wpAny_isInstance->Ba,wpAny_isOneOf_itemiter->Bb,wpAny_isOneOf_valiter->Bc,wpAny_loadName_local->Bd,wpAny_pyIter_keyiter->Be,wpAny_loadPart'->GK,callGetattribute->IY,checkBuiltinCall->IZ,codeAny_call_function->I0,codeAny_of_tree->I1,evalArgs_none->I2,getAttrByItsOwn->I3,pastItsLine_dict->I4,plainObj_wpAny_Assign_Attribute->I5,searchCouldBeSeen->I6,slot_list_getitem->I7,wpAny_Dict_empty->I8,wpAny_List_spliced->I9,wpAny_Return_some->I',wpAny_assign_Name->Ja,wpAny_eqIsQuiet_tuple->Jb,wpAny_getItem_of->Jc,wpAny_isOneOf_keyiter->Jd,wpAny_isTrue_Compare1->Je,wpAny_loadName_cell->Jf,wpAny_lookBehind->Jg,wpAny_madeBy_exc->Jh,wpAny_newFunctionEnv_cells->Ji,wpAny_pyIter_enum->Jj,wpAny_pyNext_dict_item->Jk,wpAny_sequenceKey->Jl,wpAny_specialOf->Jm,wpAny_storeSet_of->Jn,wpAt_bind->Jo,wpAt_of_wpAny->Jp
open Bool renaming true->af,false->ay,and_eq_true->db,false_ne_true->ej,eq_iff_iff->e4,false_eq_true->fy,or_eq_true->hG,noConfusion->ji,or_false->ku,not_eq_true'->nh,or_true->oW,false_or->qx,and_false->sG,true_and->sH,and_eq_true_iff->vJ,and_self->vK,false_and->vL,or_assoc->vM,not_true->zx,and_comm->GN
open PySem.W renaming Frag->ap,findIn->dh,WData->ec,nsIn->fe,mg_of->fP,keepIn->gR,Codec->hN,fnOf->iN,codeIn->ls,CodeHd->md,ReadsW->me,emptyDict->mf,WellAll->nG,instObj->nH,isFn->nI,Looks->pb,exmOne->pd,tabIn->q0,hasDictIn->tf,kla_obj->tg,looks_findIn->th,plainGet->ti,callWith_K->we,clsIn->wf,envX->wg,lookIn->wh,subIn->wi,typeIn->wj,InstAt->AJ,KdlSrc->AK,ReadsAllW->AL,callWith_K0->AM,cellsFrom_some->AN,handedIn->AO,looks_clsIn->AP,makesIn->AQ,methodCall_KW->AR,methodObj->AS,plainGet_of->AT,plainOver->AU,takerIn->AV,WRecords->IL,check_slot->IM,codeRec_of->IN,findCls->IP,findObj_own->IQ,kdl_call->IR,length_le_weightAllW->IS,mg_none_of->IT,readsIn->IU,set_plain->IV,specialIn->IW
open Vaattb renaming Grammar->aE,Production->bs,Sym->dV,many->ef,Rule->eY,strip->gE,sizeIn->hl,symOf->jq,attrsAt->jZ,plainProd->kH,plainSym->lA,prodOf->lB,readItems->mA,attrAt->n2,mine->n3,readRules->n4,plain->pt,readRule->pu,readSym->pv,readTarget->pw,namesBefore->rc,sizes->rd,targetFlaws->re,duties->tD,nameFlaws->tE,read->tF,readProd->tG,sizeRound->tH,targets->tI,mostAttrs->wL,one->wM,prodFlaws->wN,symFlaws->wO,treeSize->wP,namedOf->Bk,mostBytes->Jt
open List renaming length_map->aI,getElem?_eq_getElem->bi,getElem?_eq_some_iff->bp,range->bB,mem_map->bE,mem_cons->bK,mem_singleton->b4,getElem?_map->b9,length_cons->ce,mem_cons_self->cj,mem_of_getElem?->cq,mem_cons_of_mem->cu,map_append->cA,mem_append->cL,length_append->cO,mem_filter->dc,map_cons->dg,size_toArray->dw,length_take->dD,take_add_one->dE,getD_eq_getElem?_getD->dN,length_range->dU,map_map->dZ,take_length->d0,mem_iff_getElem->d3,mem_range->eC,filter_cons->eM,mem_append_right->eU,append_nil->fd,mem_filterMap->fz,append_assoc->fN,contains_iff_mem->gB,length->gP,range_succ->hg,mem_append_left->hI,mem_flatMap->hJ,eq_nil_of_length_eq_zero->h9,all_eq_true->iI,filter_append->iJ,any_cons->jj,find?_cons->jk,length_drop->jl,replicate->jm,lookup->jL,lookup_cons->jM,nodup_cons->jN,any_eq_true->kv,flatMap_cons->kx,length_filter_le->ky,all_cons->la,getElem?_append_left->lb,getElem?_append_right->lc,getElem_map->lf,map_nil->lg,nodup_append->lh,nodup_nil->li,findIdx?_eq_some_iff_getElem->l5,flatMap_append->l6,getElem?_eq_none->l7,length_set->l8,contains_cons->nl,getElem?_set_ne->nm,getElem?_set_self->nn,getElem_range->np,not_mem_nil->nq,drop_drop->oY,find?_isSome->oZ,pairwise_map->o0,append_eq_nil_iff->qz,filterMap_cons->qA,getElem?_range->qB,getElem_inj->qC,length_pos_iff->qD,length_replicate->qE,nil_append->qF,nodup_range->qG,pairwise_iff_getElem->qH,any_eq_false->sK,drop_eq_getElem_cons->sL,findIdx?_map->sM,foldl_append->sN,foldl_cons->sO,getElem_mem->sP,length_nil->sQ,mem_of_mem_drop->sR,mem_take_iff_getElem->sS,take_succ_cons->sT,zip->sU,replicate_succ'->vG,cons_append->vP,find?_eq_some_iff_getElem->vQ,getElem_take->vR,map_congr_left->vS,map_eq_nil_iff->vT,mk_mem_zipIdx_iff_getElem?->vU,of_mem_zip->vV,pairwise_cons->vW,take_append_drop->vX,take_of_length_le->vY,all_map->z1,any_nil->z2,drop_eq_nil_of_le->z3,drop_succ_cons->z4,drop_zero->z5,ext_getElem?->z6,filter_eq_self->z7,find?_eq_none->z8,flatMap_map->z9,getElem?_drop->z',getElem_replicate->Aa,headD_cons->Ab,map_drop->Ac,map_take->Ad,takeWhile_cons_of_neg->Ae,takeWhile_cons_of_pos->Af,Nodup->GQ,any_map->GS,drop_left->GU,drop_length->GV,filterMap_append->GW,filterMap_map->GX,filter_congr->GY,filter_sublist->GZ,findIdx?_eq_none_iff->G0,flatMap->G1,flatMap_eq_nil_iff->G2,forIn_nil->G3,getElem?_cons_zero->G4,getElem_zipIdx->G5,isEmpty_iff->G6,length_erase_of_mem->G7,length_pos_of_mem->G8,map_dropLast->G9,map_set->G',mem_erase_of_ne->Ha,mem_of_mem_take->Hb,pairwise_append->Hc,pairwise_lt_range->Hd,range_succ_eq_map->He,take_left->Hf,take_sublist->Hg,zipIdx_cons->Hh
open Nat renaming le_refl->a5,zero_le->bF,le_add_right->cQ,le_trans->ds,ne_of_lt->ek,min_le_left->et,lt_of_lt_of_le->eN,lt_irrefl->fn,not_lt_zero->fO,le_add_left->gC,sub_le->ia,add_assoc->jn,le_of_lt->jO,lt_succ_self->jP,add_le_add->kz,zero_add->kA,le_succ->lj,min_le_right->lk,add_comm->nr,add_right_comm->nt,le_succ_of_le->nu,le_of_eq->o1,add_zero->qI,ne_of_gt->qJ,add_sub_cancel'->sE,le_of_not_lt->sV,le_of_succ_le->sW,lt_of_le_of_lt->sX,lt_trans->sY,min_eq_left->s0,mul_le_mul->s1,not_lt->s2,mod_lt->vZ,sub_self->v0,testBit_or->v1,add_mul->Ag,add_sub_cancel_left->Ah,lt_succ_of_lt->Ai,one_shiftLeft->Aj,zero_testBit->Al,add_left_comm->Hi,div_div_eq_div_mul->Hj,lt_of_le_of_ne->Hk,lt_of_not_le->Hl,lt_trichotomy->Hm,max_self->Hn,not_le_of_lt->Ho,pow_succ->Hp,strongRecOn->Hq,sub_zero->Hr,succ_le_succ->Hs,testBit_and->Ht,testBit_two_pow->Hu
open Vaattc renaming Node->bc,Family->bJ,step->bN,Arrow->b5,allPairs->cP,distance->cY,nodeOf->c6,below->dn,symNo->dp,graphOf->dP,State->d5,walk->eE,arrows->ff,attrsOf->fg,shortest->fr,hasCircle->fR,flatNodes->f8,no->gU,kindOk->hm,said->hP,nodeIn->ij,nodes->ik,pairOf->il,circleOf->iR,attrNo->j0,ruleArrows->j1,ledTo->kI,spread->kJ,doAssume->lC,atPlace->mB,mixed->mC,wayAnswer->mD,whyAnswer->mE,belowBy->n5,enough->n6,flatArrows->n7,free->n8,listed->n9,spreadArrows->n',circleAnswer->px,family->py,settle->pz,Call->rf,assumed->rg,grammarOf->rh,reached->ri,fromAbove->tJ,fromBelow->tK,leads->tL,places->tM,roundsOf->tN,Answer->wQ,belowGraph->wR,joined->wS,above->Bl,firstRound->Bm,reason->Bn,belowAfter->Ju,firstOf->Jv,graphBy->Jw,secondOf->Jx
open Sum renaming inl->bz,inr->pn
open PySem.Paired renaming length->bC,snoc->AG,nil->Iy
open PySem.Value renaming ref->bD,none->eu,int->hj,type->mc,bool->nF,str->te,isInt->AI,bytes->II,float->IJ,isStrOf->IK
open Vaatta renaming signNext->bT,Bytes->cV,Tok->ed,expr->ee,numOf->eX,binary->e5,isDigit->e6,signed->gD,Expr->gS,more->gT,atom->hO,isWord->ii,isLetter->iQ,isBlank->jp,isPlain->jY,isGreat->kG,NEST->lx,opNext->ly,wordNext->lz,SIGNS->mw,eatSign->mx,partsAll->my,Op->nX,elements->nY,occsAll->nZ,ownAny->n0,someElements->pp,tokensFrom->pq,wIf->pr,STEPS->ra,readExpr->rb,CALLS->tA,wElse->tB,wThen->tC,SIGNOPS->wI,isSmall->wJ,Fault->Bg,callOf->Bh,eatWord->Bi,tokens->Bj,DIGITS->Jq,EXPR->Jr,NAME->Js
open Option.some renaming inj->bW,injEq->v3
open Ne renaming symm->ci
open PySem.Heap renaming lt_size->co,get?_push_of_some->cr,get?_push_size->dd,size_push->ie,SameBut->kC,get?_update_other->l',get?_update_self->nB,ExtBut->AD
open PySem.Str renaming ofString->dm
open PyVaattc renaming shape->dO,answers->q',answers_asked->Bf
open PySem.PassesOwn renaming never->el
open PySem.F renaming plainAttrs_list->eD,slot_list_append->ic,type_list_append->iL,slot_list_extend->jR,type_list_extend->lm,called_set->nA,plain_min_loop->o8,slot_list_index->o9,slot_dict_keyiterator_next->qQ,slot_dict_itemiterator_next->s8,slot_dict_valueiterator_next->s9,type_list_index->s',entry_min_loop->AA,excBase_Exception->AB,plainAttrs_dict->AC,args_dict_itemiterator_next_1->H6,args_dict_keyiterator_next_1->H7,args_dict_valueiterator_next_1->H8,args_list_extend_2->H9,args_list_index_2->H',entry_dict_itemiterator_next->Ia,entry_dict_keyiterator_next->Ib,entry_dict_valueiterator_next->Ic,entry_list_extend->Ie,entry_list_index->Ig,excAttr_ValueError->Ih,slot_dict_getitem->Ii,slot_dict_items->Ij,slot_dict_items_iter->Ik,slot_dict_iter->Il,slot_dict_keyiterator_iter->Im,slot_dict_len->Io,slot_dict_pop->Ip,slot_dict_values->Iq,slot_dict_values_iter->Ir,store_Exception->It
open Vaattb.Named renaming name->fq
open PySem.SetTable renaming bits->fA,runEnd->f5,below->hh,turns->kF,leap->nE,insertAt->pa,Probe->qX,grown->wc,laid->IG,put->IH
open Iff renaming rfl->fM
open Prod renaming fst->gp,ext->hK
open Int renaming natCast_nonneg->gA,toNat_natCast->hf,not_lt->nk,not_le->sI,zero_add->sJ,toNat_of_nonneg->vO,ofNat_inj->zY,ofNat_le->zZ,ofNat_lt->z0,le_refl->GO,natCast_pow->GP
open PySem.PyData renaming eqvAll->gQ,int->jT,canLayAll0->lq,depthAll->lr,eqv->ma,depth->qV,canLay0->wa
open False renaming elim->he
open Except renaming bind->hH,pure->iH
open PyProof.Rows renaming envOfC->hL,seqObj->jQ,arrOf->l9,AllBare->ny,callWith_type1->o2,slot_tuple_getitem->o3,Call_->qM,boot_list->qN,kws_cons->v6,Subscript_->Ap,boot_range->Aq,boot_tuple->Ar,subscriptTail->As,args_list_sort->HA,args_tuple_getitem->HB,callWith_kw->HC,entry_list_sort->HD,entry_tuple_getitem->HE,get?_update_seq->HF,iadd_int->HG,kws_nil->HH,slot_list_sort->HI,sortedHeap_at->HJ,sortedHeap_old->HK,subscriptTail_builtinR->HL,callWith_builtin1->Vj,isub_int->Vk,list_sort_tree->Vl
open Or renaming inr->ib,inl->nx
open Array renaming length_toList->iG,getElem?_eq_getElem->l3,getElem?_toList->l4,getElem?_eq_some_iff->ni,toList->oV,getElem?_eq_none->sF,getD->vH,toArray_toList->vI,getD_eq_getD_getElem?->zv,replicate->zw,forIn_toList->GL,toList_append->GM
open NeutralIO renaming bytes->iK
open Vaatta.Tok renaming small->iP,great->po
open PySem.Heap.SameBut renaming update->jS,extBut->v',refl->VQ
open PyFlat renaming calls->kB,played->qK,told->qL,rows->s4,call->v4,row->An
open PySem.Obj renaming mapSeq->kE,mapFields->o',data_mapFields->qT,putSet->qU,isFreed_of_fields->AF,cls_mapFields->Iw,data_mapDictKeys->Ix
open Prod.mk renaming inj->ll
open True renaming intro->lw
open VaattcNeutral renaming step->lD,encode->wT,ifBytes->wU,asked1->Bo,callOf->Bp,start->Bq,text->Br,natural->Jy,S->VT,asked->VU
open PySem.SeqAt renaming shaped->mb,EqAt->wb,canLay_of_shaped->IB,in_listAt->IC,list_indexAt->ID,notIn_listAt->IE
open Vaatta.Expr renaming parts->mv,occs->nV,usesOwn->nW,app->wH
open Vaattb.Production renaming name->mz
open Classical renaming not_not->nj,choose_spec->zy
open PySem.Builtin.Dict_items renaming ownsTuple->nz,newIterator->HR,ownedTupleFields->HS,ownedTupleIsFree->HT,pairFromOwner->HU
open Vaattb.Sym renaming attrs->n1,name->ps
open Eq renaming symm->oX
open PySem.Builtin renaming bitOr->o4,bitAnd->s7,«dict.pop»->HZ
open PySem.Calls renaming spliced_cons->o5,spliced_nil->o6,Name_function_global->Ax,callWith_builtin->H0,call_function_entry->H1,evalArgs_plain->H2,loadGlobal_global->H3
open PySem.W.Looks renaming here->pc,ld->VR
open Function renaming comp_def->qy
open PySem.Builtin.Dict renaming showsAll->qP,notOrdered->HP,takeOut->HQ,dictSlotNone->Vm,keyAndDefault->Vn,pendingCount->Vo
open PySem.NameKind renaming free->qS,cell->AE
open PySem.SetTable.probe renaming go->qY
open PySem.Value.type renaming inj->qZ
open PySem.Walks renaming list->q1
open PySem.Around renaming under_plainId->s5,under->Av,frames_deeper->HM,in1_units->HN
open PySem.Builtin.List renaming listTooLong->s6
open PySem.SetTable.below renaming go->tc
open PySem.SetTable.layClean renaming free->td
open ForInStep renaming yield->vN
open PyProof.Rows.G renaming tupKeyC->v5
open PySem.Builtin.Slice renaming slicePlaces->v7,sliceAdjust->Aw,sliceApplied->HW,sliceFields->Vq,slicePartIndex->Vr
open PySem.Builtin.Tuple renaming tupleExact->v8,tupleIsExact->HX,tupleItemsOf->HY
open PySem.Challenge renaming rw_hangson_s01_answers->v9,pw_hangson_s01_answers->Vs
open PySem.Shared renaming TypeIs->wd
open Vaattb.Grammar renaming mk->wK
open Except.ok renaming inj->zX
open Nat.succ renaming inj->Ak
open PyProof.Rows.F renaming plain_set_update_loop->Ao,entry_set_update_loop->Hy
open PySem.Code renaming isFrame->Ay,quiet_builtin->Az,frames->H4
open List.Pairwise renaming imp->GR,filterMap->Vh
open List.cons renaming injEq->GT
open PyProof.Rows.IsTup renaming new->Hz
open PySem.Builtin.Builtins renaming bindParams->HO
open PySem.Builtin.Range renaming rangeSize->HV
open PySem.EntryCells renaming newEntry->H5
open PySem.Heap.Ns1 renaming of_empty->Iu
open PySem.IsRange renaming new->Iv
open PySem.SeqAt.EqAt renaming int_str->Iz,str_int->IA
open PySem.SetFound renaming there->IF
open PySem.Within renaming cons->IX,nil->VS
open List.Sublist renaming map->Vi
open PySem.Builtin.Frozenset renaming updateFrom->Vp
open PySem.EqMixed renaming eq_bool_str->Vt,eq_int_str->Vu,eq_str_bool->Vv,eq_str_int->Vw,ne_bool_str->Vx,ne_int_str->Vy,ne_str_bool->Vz,ne_str_int->VA
open PySem.EqNone renaming eq_bool_none->VB,eq_int_none->VC,eq_none_bool->VD,eq_none_int->VE,eq_none_none->VF,eq_none_str->VG,eq_str_none->VH,ne_bool_none->VI,ne_int_none->VJ,ne_none_bool->VK,ne_none_int->VL,ne_none_none->VM,ne_none_str->VN,ne_str_none->VO
open PySem.Heap.IsSliceOf renaming new->VP
open PySem PySem.Spec PyProof.Rows
mutual init_quot
def Į a:=(#[a.aa,a.no _^by{simp}])
def aod:=aS q i d m t
def ac3 a b c:=by let a:aW b _:=c.mono^by{decide}
def À a:=.ref a
def ë a:=ak (ae a)
def ó a b c d e f g h:=by calc a.aI b ?_;intro c zaa zab zac d e zad f zae g h zaf;nofun
def aBr a b c d e f g h i:=by ext afw a;let#[b,zag,zah,zai,c,zaj,zak]:=d.bM;left;calc#[e,b,î c,e,b,zag,zah,zai,r,c,Í zal,λf=>g.no d (by unfold bN;rw[zaj f])^by decide];nofun;let#[h,i]:=zak zal
def Õ a:=a8 (Í a) (Í a)
def Ã:=List Nat
def Á:=List ab
def Û:=by decide+kernel
def Ê a:=.int (a:Nat)
def ý a b c d e f g h i j k:=by calc a.aJ b ?_;intro c zam zan zao d e f g h i j k;nofun
def Ç:=(#[_,_,r,r])
def ļ:=a6.an a1
def Ϥ:=bx q i d m t
def agI a b:={cls:=.type a,data:=.fields (List.toArray b)}
def ϣ a:=by left;calc bl.mk a ?_;symm;right
def ε:=a2 q i
def Ò a b:=bo a b.ak r r
def atj b c d e f g h:=by let b:ϑ _ _ _:=c.raises λa M d=>iX d e f g h (dJ.ad^by ext Û) r r r aep
def Ľ a:=(#[r,a.av,a.rest.first])
def apQ:=by ext axl;(case a4=>k_is);(case a5=>k_is)
def ϊ:=bI q i d m t
def ae' a:=by ext ϝ a;calc aih a
def Â a b:=λa b=>?_
def adf:=a0 b.prog b.w
def Ö a b:=b3 d m a (aB b)
def Ę a b c:=λa=>by{ext ā a b c}
def È a:=aa^À a
def Æ a b:=by rw[a]at b;ext b
def Ł a b d:=(#[a.c,b,î d,a.c,a.l,a.a9,a.all])
def Ā a b c:=by rcases a with _|⟨b,c⟩
def ö:=bV (W1:=1)
def Ă:=av b U
def Ĝ a:=λa=>(by ext a)
def ú a b:=(#[_,_,r,a.ae,Į b,r])
def ù a:=ab.int (a:Nat)
def å:=List Int
def Μ a b:={cls:=.type a,data:=.seq b.toArray}
def ail:={cls:=.type "dict",data:=.dict #[]}
def afn a b c d e f:=by ext afm a b c d;{rw[e c d a]at f;ext f}
def ç a:=bu (aB a)
def ä a:=(ľ a).1
def Ĉ:=List (ac×bb)
def ĩ:=ag->Prop
def ß:=.ref s
def ō:=j.heap.objs.size+1
def ahW a b c d e f g:=by calc am0 a (O:=[Ì b,c]) d (ajs #[e,r] #[f,r]) g
def afs a b c d:=gM (Zk:=[a]) r b.ak c (ahJ b) (e2 d b.ak r r)
def ahM a b c d e f g h:=arf a b c #[as,a' d] (λe f _ #[_,g]=>Ć g a h) ?_ ?_
def Ø a:=ë a an
def aiO a:=(#[(zL gp^bW a).symm,by{ext Û},by{rw[<-(show _=Zm from zL gp^bW a)];rfl},r])
def Ą:=al->aju
def ĥ a b:=an2 a=aa b
def Ý:=(#[_,r,?_])
def Ù:=List aU
def Đ:=aX (W1:=1)
def Þ a:=.type a
def Å a b c:=λa b c=>?_
def afa a b c:=by rw[b9]at a;ext ό b c a
def ť:=aH Ϻ W2
def afM a b c:=apZ a b c a.aD
def ę a:=aw.ad a
def ayh a b c d e f g:=by let#[zap,a,b,c]:=id d;unfold gq;calc ar^pi^apy "__next__" d.typeIs qQ^ih qQ d.typeIs Ib ?_^H7 _;calc adi;calc ź;ext at' d;calc ar^q8 a c ?_;let zaq:nz "dict_keyiterator"=ay:=by{decide};simp only[zaq,fy,if_false];show aH _ _ (if(bD s==eu)=af then _ else _) _ _ j;rwa[zF^show¬((bD s==eu)=af) from ej,adi];calc ar^jW e f ?_;rwa[zF^by{rw[g];simp},adi];calc ar^ms e f ?_;rwa[ai0,ŏ]
def Ó:=List ac
def awT a b c:=eb (cD a b.ak r r)^eb (cD c b.ak r r) hE
def Ë a:=aD.af a
def ae2:=anA=(ay,ϴ)::ajT
def Ď a b:=(#[Ŝ a,Į b,r])
def ă a:=a3^ae a
def à a:=aa^.lst a
def adA:=cH d J ["symbols","productions"]
def Ģ a:=aH _ _ a _ _
def Ē a b:=a.length=b.length
def adn a:=show ay=af from a
def Ĕ:=List (bh×ab)
def agC a b c d e:=by calc#[by{show 1<=a9;calc aX (W1:=16777215)^au a},Â b c];let d:=Ϭ [ϫ e] c
def afD:=ada 4 "require_grammar" ["self"]^i1 d N w
def axe a b c d e f g h i j k l m n o p q s t u v w x y:=by nofun;let#[a,b]:=jx c^show dO d=aa (0,3) from r;ext ahT a;let#[e,Ä f g]:=sp b;let#[h,Ä i j,k,l,m]:=xu n;let#[rfl,o]:=lH (XT:=[e,f,g]) p;rw[o e^by simp]at k;rw[o f^by simp]at l;rw[o g^by simp]at m;left;calc#[q,s,î t,u,Ļ v,r,u,Ļ v,r,u,Ļ v,r,XO,q,h,i,j,ů w,r,k,l,m,x,y]
def χ:=(L==("__debug__":al))=ay
def Ũ a:=c4 dY r a.len dG
def al1 a b:=bm^bU a.bl (ae 0) b ļ^ak dL an
def adE a:=ak (br cl (ae a) a7)
def Ż a:=a.map ab.int
def arX a b c d e f g h i j k l m:=by let a:á b c^am c b^.lst d:=λe f g h=>by{rwa[ao^λi=>h^by{rw[i];simp},g]};let j:ahd e k c b:=λe k l i=>by{ext akh i e b;ext ā i m l}
def ad3 a b:=bQ (bR c2 a b^bH _)
def Î a:=Ì a
def ė a:=a.map (·.1)
def arY a b c d e f g h i:=by calc a.aI b (v:=λzar zas zat zau #[c,d,e,f,g,_,_]=>by rw[f,ce,g];rfl) ?_;intro zav zaw zax zay zaz zas zar zat zau zaA zaB zaC;nofun;let#[c,d,e,f,g,h,i]:=zaB
def adc:=ag->aA->Prop
def ŭ:=di J E f A w I
def ŕ:=c' J E f A w I
def aex a b:=by obtain⟨a,rfl⟩:∃b,a=b+1:=#[a-1,by lia]
def afu a b c d e:=aX a^acD (aF (ai b c) d) e
def ĝ a:=aa^.lst^aP a
def â:=List aj
def afH a b c:=by rcases a:b.held with _|c;{unfold bN;rwa[a,eP _]}
def ņ:=Ϥ _ _ _ _ _
def aAN a b:=by ext ayk;simp only[q5,newTuple,raiseNew];calc ar^hk (ar (m:=q4 _ _)^ayl^hk (ar^A' ?_)^by size_fits)^by{size_fits};ext aym a;calc ar^ayn^ayo b
def í:=Ă X h j
def Ţ a b c d e:=by ext ac3 a b c;ext ac3 d e c;left
def alg a b c d e f g h i j k:=λa b c d e=>by{let f:d=g:=by{exists e};subst f;let#[h,f,i,j]:=c;calc#[h,f,λk zaD=>by ext Æ j zaD]}
def awx a b c d:=by let a:=a' (o:=.tup b) c;left;calc#[d,aiY,?_]
def aAK a b c d:=by let zaE:nz "dict_valueiterator"=ay:=by{decide};let zaF:¬((bD Xq==eu)=af):=ej;unfold gq;calc ar^pi^apy "__next__" a.typeIs s9^ih s9 a.typeIs Ic (ar^aT^ar^ź)^H8 _;calc ar^wE a.typeIs^aT^ar^q8 b c ?_;rw[zaE];show awu j;ext awv zaF d
def ϧ:=λ_ _ _=>by simp
def axd a b c d:=[("number",.int (a:Int)),axc b c,("wholes",À d)]
def Ï a b:=ao^ba a b
def ar0 a b c d:=by calc#[a,s,b,_,r,c,Į d,akw];calc#[a,s,b,ĭ,Į d,akx]
def Í a:=λa=>?_
def Ő:=.lst []
def aib:=ayI XU g Xl M Xh XC
def Φ a:=by symm;right;let a:=b2
def axF a b c d e f g:=by calc#[λa zaG X h=>zaG=O.length-a/\agQ a/\b a X h,#[O.length,ah7,c],?_];rintro a zaG X h ⟨rfl,zaH,zaI⟩;let zaJ:=d a X h zaH zaI;by_cases zaK:a<O.length;{calc è #[#[O,O[a],zaJ,by simp[zaK]],alm b a zaL (O.length-(a+1)) zaK e zaM];let#[zaN,zaM]:=zaM;subst zaN;calc f a e X _ (zaM O zaJ) zaI};{calc ar6 zaN a zaH zaK zaJ (g X h zaI)}
def aeA a:=aq (ac2 0 a r)
def Ś a:=a.aq.fresh^a5 _
def ě:=aod aO
def ą:=b8 z.syms
def axT a b c d:=by let#[zaO,zaP,zaQ,zaR]:=id a;let zaS:j.TypeIs ß "slice":=#[zaO,zaP,zaQ];unfold lu;(try with_reducible calc f7 ?_);(first|(calc adi)|skip);calc ar^Jl b.typeIs (by decide) ?_;calc ar^apy "__getitem__" b.typeIs o3^ih o3 b.typeIs HE ?_^HB _ _;show Ģ (HY^.ref f>>=_) j;calc ar^tupleItemsOf_ b ?_;calc ar^tz zaS ?_;rwa[zG^by{decide},ar^Fb a c d ?_]
def Ĭ a b:=ē a 1 b
def ć:=(#[_,_,_,_])
def ac4 a:=br dr (ae a) a7
def acu a:=.builtin a
def Ŷ a b c d e f g:=(#[Ô a b c d,ò a e f b g d])
def ado a b:=λa=>b^by{rw[a];simp}
def acJ:=fh d J E f A w I N
def ayc a b c d e f g h:=by ext aAD a b c d zaT zaU zaV e zaW;{calc è (aAE a zaV zaW c f zaX);let#[zaY,zaX]:=zaX;subst zaY;calc g a f _ (zaX O zaV) zaU};{calc ar6 zaY a zaT zaW zaV (h b zaU)}
def asO a b c d e f g h i j k:=by nofun;let#[a,b,c]:=d.au;left;calc apA (#[a,b.keep (S:=[e]) (Ô f g h i) (Â f j)^by{exists k},c]) d;{rwa[ajj i,h]}
def aql:=(((aig:Nat):Int)==0&&adh==1&&(alx-aig)==Xt.size)=af
def ajk a b:=(#[("grammar",À a),("assumed",À b)])
def Ŕ a:=.inl #[r,_,ę a]
def Ñ a:=(a:Int)
def Ŭ a b c e:=bY d a b (ç c e)
def þ:=ac->Prop
def ñ:=.ref f
def ύ:=beq_self_eq_true _
def Ϡ a b c d:=aL a b->a c=ah->ĕ d c b
def aq6:=j.heap.push ayO
def π a:=a.map ab.ref
def aha:=ě 1 "has_arrow" ["row","target"] lK
def atD:=["enumerate","zip","dict_itemiterator","dict_reverseitemiterator","odict_iterator","itertools.zip_longest","itertools.pairwise"].contains
def ady:=λ_=>?_
def ϻ a:=.ref a.heap.objs.size
def Ě a:=aa^.tup^bO a
def akm a b:=bm^eB eD ic iL iC a^ak b an
def aez a b c d e f g:=by let a:b c=aot d:=e c _ f^g.aT c _ f
def ħ:=.inl r
def aeS a b c:=by let a:eG q i d m t _ _ _ _ _ _:=b.bG c
def acz a b c:=bQ a (aC^fG b a1 c) b6
def af9 a b c e f g h:=∀a b c,dy d e (-2) a b c->á f g c->h a b c
def Ŵ:=DecidableEq XJ
def apd a b c:=je a b r c.ak r r (jg r r r r)
def Ű a:=aa^.tup a
def aun a:=by calc q3 AA ?_;rw[s5 o8 _];show aj8 (A5^.ref Yd>>=_) _;calc ar^tu a r ?_;show aj8 (tryCatch (gq^.ref Yz) _>>=_) _
def aqU:=W3.get? s=aa^ayH "Exception.__new__"
def ē a b:=ai (aF a b)
def ak4:=dh _ (.ref _) _=adP
def acB:=aD.keep (S:=[])
def apt a b c d e f g:=by induction a with|nil=>{intro _;calc .nil}|cons b _ c=>calcλd=>Ů e^c (γ f g d)
def adN:=.ref j.heap.objs.size
def akM a b c d e:=by ext aet a b c;ext aet d e c;ext af5 c
def ϑ:=du q i d m t
def aga a:={a with parts:=Β a}
def Ĺ:=aH adf b.ao
def apO a b c d e f g:=by let#[a,rfl]:=mM b;let#[c,rfl,d]:=pL e;let#[rfl,f]:=lH (XT:=[a]) g;rw[f a^by simp]at d;left
def δ:=Option Int
def ī a:=aev a
def Ć a b c:=aw.ad^a b _ c
def agS:=(fp Z^ajT).any (·.1)=ay
def aqz:=atC=adJ
def Ĳ a:=by split at a;{ext a}
def agx a b:=(#[Ŝ a,Į b,r])
def acA a b c:=dk a b^by{ext ı c}
def aAY a b c d e f g h i j k l m n o p q s t u v w x y z B C D:=by left;calc#[a,J,b,Ď c d,ê e f g zaZ za0];let h:aL i^afT i f e^.ae A f []:=λj k l=>by{rwa[Ï l g,Ï l zaZ,l]};calc#[e,f,m,n,o,r,as,p.same h,q,λs t u v w za1 x=>ag4];let y:aL i s:=λj k l=>za1 j k (h j k l)^by{rwa[b4,ba l g]};let z:∀B,B∈t::v->i B=ah:=λB C=>by{ext afm D i B k;{let:=x B^by{ext adQ C l;calc Ð l;calc .inr^ÿ l};rw[h B k D]at this;ext this}}
def afG a b c d e f:=#[a,Xo,b,Ď c d,r,_,r,a8 (Í e) (Í f)]
def afO a b c d e f h i j k l m n:=λa b=>#[r,c.bm (g:=d.toks) (λe f h i=>b e f h i) j k l m n]
def Ϗ a b c:=by nofun;let#[a,b]:=c
def agZ:=.ListComp Q [#[W6,Xj,Xe,0]] W9
def Ü a b:=bg a b bd
def ġ:=akB
def asC:=ě 1 "joined_graph" ["production","at_left","at_children","left_out"]^ua f A
def akV:=ŭ Xr h Yb ZE Yw Yp Ys Zs Zt Yi Xy H W7
def acX a b c:=(#[a.x,b,_,r,c,r,a.x,a.aW])
def ž:=List (XJ×ab)
def ż:=List (al×ac)
def ĉ a b c d e f g:=bv (a b c d e _ f g)
def apx a:=by show 2<=a9;calc aX (W1:=16777214)^au a
def ano:=j.heap.push (agI "range" [af2 YU,aka ZH,Î 1 ZI])
def É a b:=a.same b
def apJ a b:=Ϥ aO a w "require_families" ["self","kind"]^apI b
def af0:=f1 b.ai.cells W9.names []
def aln:={j with toks:=j.toks+1}
def ű:=aj->alc
def agp a b c d e f:=asw a b c d e f
def Ì a:=.int a
def č:=aod ε
def î a:=(#[_,r,a,r])
def aeY:=by with_unfolding_all rfl
def ğ a:=ai (aZ a)
def aup a:=tg "<lambda>" alS a (mL WC ZL WD) g0 [(dm "steps",V6)]
def ā a b c:=by rw[a,b]at c;ext c
def ĸ a:=by rcases a with a|a
def Ŀ a:=ϫ a
def Ġ a b:=aM (az a b)
def Γ a b c:=by nofun;ext Ο a b c
def ď a b c:=a.get? b=aa c
def atv a c d e:=(a∈b.au\/b.be.heap.objs.size<=a)/\agK a/\(∀c d,ak9 c d->d≠a)/\∀e∈b.bH++U,e.1≠a
def atc a b c d:=ca "wholes" (À a) [amU b,axc c d]
def arH a b:=by let a:¬(! decide b)=af:=a;rw[nh,decide_eq_false_iff_not,nj]at a;calc ab.str.inj a
def aum a c d e f g h i j:=by let#[a,c,d,_]:=e.list^ę f;let g:=q1 (prog:=b.prog) (w:=b.w) (A:=b.ao.in1) h Yz X3 i a.toArray;let j:a.toArray.size=O.length:=by{rw[dw,c.length]}
def Θ a:=ak (ă a) an
def Ī a:=bz (Ñ a)
def ams:=cH d E ["name","attributes","down_count"]
def ø a:=ab.ref a
def Ú a b:=by let#[a,rfl]:=b
def Ŏ a:=a.length+1
def ϗ a:=by rw[a]at this;ext this
def η:=aX (W1:=2)
def ae1:=aH agY W2
def axi:=amZ (.func^iN "__init__" YZ (jD Xm) af3 Ν .none Wo Wp Wq X7 YW Wr)
def ath:=tT q i d m N s X9 Z5 YC Yn YQ E f J A w Xo Wj Wk Wl Wm Wn aaf aag
def ad9 a:=of_decide_eq_false a
def auh:=#[ayA^aui,Z0,Z1,ZU,Z2]
def an9 a b c:=aW g^a.deeper^hL Xn Ν b.heap.objs.size f c
def ï a:=bL.ay a
def Ä a b:=(#[a,b,rfl])
def ũ a b:=(Ð a,û b)
def Ô a b c d:=λa b c d=>?_
def Υ a:=by dsimp only at a
def ac1 a:=a' (o:=.tup a)
def ahJ a:=a.aK^by ext Û
def as1:=Ϥ aO 8 w "graph_of" ["self","kind","production"]^pO J E f A w I
def apG a b:=(#[("assumed",a),("families",b)])
def ajp a:=am (ahU a) w (ft fW fX)
def đ:=List bf
def ao0 a b c:=by let za2:=asb a;obtain⟨b,rfl⟩:∃b,c=b+1:=#[c-1,ng za2]
def aeq a b c d:=by subst a;obtain rfl:b=bD c:=d
def ahl a b:=gI a b (by ext Û) (by ext Û)
def ajo a b c d e f g h:=by cases a b c;nofun;let#[d,e]:=jx f^show dO g=aa h from r
def Œ a:=(#[_,Ç,bw.ad a])
def akY a b c d:=(iR (ahS a b c d)^Ĥ a d).getD []
def aky a b:=cD a b.ak r r
def als:=bj b (.Call agN (Q::Xe) [] Z)
def aeG a:=(a.length:Nat)
def aeB:=eG q i d m t aO 1
def atA a b c d e:=∀(za3:Ĉ)(za4:ax)(za5:aR)(za6:ag)(za7 za8:ab)(a b:aj)(za9:aA),av c za3 za5 za6 za4->bP za7 a->bP za8 b->d za7 za8 za6 za9->afM c e (fJ c za3 za5 za9) za4
def axm a:=by calc aBN (kU (show ak4 from ?a5) a);(case a6=>k_is)
def afd a:=∀a za',h a=Ű za'->a∉S
def aly a b:={cls:=Þ a,data:=.seq b}
def akE a b:=[("symbols",À a),("productions",À b)]
def aBQ:=.Call (alq Yo Yl)
def Ķ a:=λ_ _ a=>a
def an3:=aqX Ya YZ W9 Xl Zx W2 Yc Yx Y' XA
def acO:=.ref Xl
def amX:=f2 aO q i d m t Xh Xn Ν f
def Ņ a:=(ao a).trans
def ahH a:=(#[r,#[_,ę a]])
def aA' a b c:=by let a:¬((bD Xq==eu)=af):=ej;unfold gq;calc ar^pi^apy "__next__" b s8^ih s8 b Ia (ar^aT^ar^ź)^H6 _;calc ar^wC b^aT^ar^q8 c r ?_;rw[show nz "dict_itemiterator"=af by decide];simp only[if_true]
def aAZ a b c d e f g h:=λa=>by{nofun;ext aws b c d a e f;let:=(qC g (h₀:=Đ^Ĭ (ai c^acG) h) (h₁:=h)).mp^d.trans e.symm;left;calc aBc c}
def aBG a b c e:=∃a:b',(∀(b:ax)(c:â),c.length=(["calls"]:Ĩ).length->qO b a #[c,[]]^(["calls"]:Ĩ).zip c)/\∀e:aG,d.In e->e.Ns c5 m->md e YS I->kK m e->bI q i d m e aO 356 aah a ["calls"]^pM d I
def aBO:=by(case b0=>k_is);(case b1=>rfl);(case b2=>(repeat(first|(exact .nil)|(refine .cons ⟨y5 _ _,rfl,⟨_,rfl⟩⟩ ?_)|refine .cons ⟨y4 _ _,rfl,⟨_,rfl⟩⟩ ?_)));(case b3=>ext Û)
def ahI a b c:=aq (bm^ģ a b^ak c an)
def akp a b:=č a b ["cursor","expression"]
def asK a b c:=at4 a {cls:=Þ b,data:=.fields (List.toArray (æ c))}
def awv a b:=by rwa[zF a,ar^aT^ar^jW b.get b.a5 ?_];rwa[ai0,ar^aT^ar^ms b.get b.a5 ?_];rwa[ai0,ŏ]
def afE a b:=aq (bm^cT a (ae 0) b^ļ)
def aiM:=gI (by ext Û) (by ext Û)
def auN a b c d e f:=by ext acV zba zbb a;left;calc#[acX b zba zbb,_,1,r,by{show 1<=c.am+1;calc aea 1},a.au,Å d zbc e];let f:=a.bw zbc e a.aM
def avv a b c d e f g:=∃a:Nat,(b::c)[a]?=aa d/\(∀(e:Nat) f,(b::c)[e]?=aa f->g d<=g f)/\∀(e:Nat) f,e<a->(b::c)[e]?=aa f->g d<g f
def akj a:={a with am:=a.am+1}
def alG a b:=nP agY W2 XF λa b=>Y7 (Ϛ a) b
def af7 a:=(bB a).foldl d1
def atg:=λ_ _ _ _ _ _=>by repeat'(first|(calc rs r)|calc pE ady)
def ac7:=List (bf×Nat)
def ajP a b c d e:=λa b c d=>(e.2 a c).trans d
def apV a b c d e f g h:=(#[a.os,a.a6,#[b,ò c d e f g h,a.base.free,Ô c d e h,a.base.b9,a.base.bS,a.base.b1]])
def aeb a:=a8 ady λa=>zH r a
def ak6 a b c d:=by rcases k8 a with⟨b,c,rfl,rfl⟩|⟨d,c,rfl,rfl⟩
def ate a b:=Ϥ ε a w b ["self","name","one","other"]
def acS a:=Ů a .nil
def Ϭ a:=a' (o:=.lst a)
def aiF:=(#[by{show 2<1000;decide},?_])
def adQ a b:=by rcases bK.mp a with b|b
def atQ:=(Xt.toList.drop^aig).take (alx-aig)
def ag5 a b c:=List.toArray [a,.int b c]
def asx:=ě 1 "told_occurrences" ["occurrences","numbers"] uf
def aew a b:=bU a (ae 0) b ļ
def aiW a:=(#[Į a,by{show 3<1000;decide}])
def ag9 a:=by rcases cL.mp a with a|a
def ahn:=by dsimp only[bind,hH,pure,iH]
def ad5:=Option (cy×Ù)
def Ŋ:=Ă XX h j
def apY a:=(#[ala a,a.bd,a.cell,a.free,a.br,a.bj,a.aq,a.len])
def asE a b c d e f g:=∀{a:Ó}{b:Τ},apk c d e a b->(∀c∈a,c≠f)->be g a b
def adB a b c:=aM (ct a)^d8 a b c
def ό a b c:=by let#[a,b,rfl]:=acR c
def ata a b c d e f g:=am (am a b^adl) c^ł d^ca "families" (À b) [ajk e f,("families",g)]
def ajf a b c d e f:=by let a:á b c^am c b^.lst d:=gG;let e:=gH f
def aeR:=cn H W7 1 XK B
def Ų a b:=ea a b^by simp
def akH a b:=by rw[zG a]at b;ext b;subst a
def ϒ a b c d:=a b _ c^by{exists d}
def azz a b c d e f g h i j k l m n:=∃a b,ø c=À a/\d a=à b/\aij b/\(λ(e:ag)=>∃(f:Á) (g:Ù),e c=à f/\be (gr e) f^g.map cz/\(∀h∈g,eo h)/\g.length<=i+1/\aL j e/\k=(au9 l i m).map (g++·)) (adX d a (b++[n]))
def υ:=cG q i h W3
def aog:=ě 1 "with_arrow" ["row","target"] rJ
def ξ a b:=a.parts+b.parts
def agw a b:=a.length=b.prods.length
def ai6 a b c:=f5 a (ς a b c)-ς a b c
def afI:=List (aeg×ab)
def aiY:=(#[_,r,bw.ad as,r,_,_,r,Ç])
def arv a b c d e f g:=by let a:aW 4 _:=b.mono^η c;let d:aW 5 _:=b.mono^Đ c;let e:aW f _:=b.mono^aX g c
def asT:=ě 4 "first_way" ["graph","start","target"]^ug I
def asl a:={cls:=Þ "set",dict:=ah,data:=.set #[] 0^.fresh 0 0 a}
def agv:=ai (aF acG 1)
def asY a:=ak (bG a.below)^ahb (bG a.above) (bG a.joined)
def aob:=rt q i d m t L f ß w W2 Yc j^aj9
def aBA a b c d e f:=by let a:gk (Ż b) (aa (Ñ c+1))^aa ((afF c d:Nat):Int)=Ż d:=by{calc(BK (g:=c+1) (B:=(afF c d)) ġ^by rwa[aI,e]).trans ?_;rw[<-Ac,<-Ad,show afF c d-(c+1)=d.length by{lia},f]}
def ahj:=ho (by ext Û)
def ŝ a:=(bW a).symm
def adW a b:=a.length+b.length
def ţ:=az z p
def alw a:=f6 (alL a) W9.names
def aiS a:=aC^bt^ae a
def ajx a b:=W3.get? a=aa b->h'.get? a=aa b
def ϳ a b:={a with heap:=b}
def afm a b c d:=by rcases a:b c with _|d;{rfl}
def adt a:=λ_ a=>by ext a
def azL b c:=if p.kids.length<b.1 then[{pos:=Yv.pos,code:=25,a:=c}]else Vaattb.iff ((jZ z p b.1).isSome&&(n2 z p b.1 b.2).isNone) {pos:=Yv.pos,code:=26,a:=c}
def κ a:=br cl (ae a)
def akD a:=(Ċ a 1).length
def ae7 a:=aa^.tup^a.map dA
def agG:=es H W7 g^dn H W7
def aki:=(#[by{show 4<1000;decide},?_])
def adZ a b:=by rcases bK.mp a with b|a
def aeC:=Nat×Nat
def akx:=(#[by{show 1<1000;decide},?_])
def akw:=(#[by{show 0<1000;decide},?_])
def axX a b c:=by ext adF a b;{simp[ph,ck]};{simp only[ph,ck,Hv,show adh>0 by{decide},if_true];by_cases c:b<0;{simp only[c,if_true]<;>lia};{simp only[c,if_false]<;>lia}}
def awn:=ě 5 "work_out" ["kind","grammar","assumed","families"]^xX J E f A
def akX a b c d e f g h i:=λa b c d e=>f.no g h (by decide) a b c d^Ë i e
def ac':=Xp.held=aa H
def auJ:=∀zbd,g=zbd+1->arx "read_whole"^mT d f s w zbd
def ν:=zF^by{lia}
def axB a b c d e f:=by calc#[a.heap.objs.size,[a.heap.objs.size],_,_,b,r,ajJ c a (Ϙ zbe zbf d),e,agV,Â zbe zbg,f];let d:zbe=a.heap.objs.size:=by{exists zbg};subst d;calc ap1 c
def asV:=aly "tuple" (List.toArray [YI.key,YI.val])
def ajU a:={j with heap:=j.heap.push a}
def agX a:=a.cells.lookup y=aa c
def ann a:=by intro zbh zbi zbj zbk zbl zbm zbn;calc ĉ a zbh zbi zbj zbk zbm zbn ?_
def arG a b c:=λa=>by{let b:(! decide c)=af:=b;rw[a,zJ r]at b;ext b}
def afY a:=by rcases bK.mp a with rfl|a
def adw a b:=λa b=>(by ext b)
def axV a b c:=∀(zbo:Ĉ)(zbp:ax)(zbq:aR)(zbr:ag)(zbs:ab)(zbt:Á)(zbu:aj)(zbv:â)(zbw:aA),av a zbo zbq zbr zbp->bP zbs zbu->bM zbt zbv->b zbs zbt zbr zbw->afM a (fB (.builtin c) (zbu::zbv)) (fJ a zbo zbq zbw) zbp
def afT a b c:=am (am a b^.own c) c
def awt a b c:=zH (by show aow (ab.int (Ñ a)=Ŀ 0);rw[zK^λb=>c^by ext ae' b];rfl)
def ae9 a b c:=λa=>by ext ā a b c
def aeJ a b c d e g h i j k l:=fU f a b c d e g h i j (bq k l) (az k l)
def Č a b c:=by intro a b c;nofun
def ϯ a b:=a.trans^aD.aC b
def am':=by first|(calc ħ)|(calc ϛ)|assumption
def Ĩ:=List al
def ad0 a:={j with heap:=a}
def Ė a b:=bA m a^Î b
def aub a b c d:=by let zbx:a.size=b.length:=tq c;let zby:Xs.length=b.length:=bC d;calc anZ zbx zby
def awI:=ada 4 "production_named" ["self","name"]^awz
def Ħ:=List b5
def amw a b:=arf a (O:=b)
def ags a b c d:=by intro a;nofun;let#[b,c,d]:=a
def apN:=fj H ((gb XE (B+1)).map (·.1)) T
def agF a:=(aD.aC a).trans
def ak0:=by split;{calc eP _}
def ahZ a b:=a.names.lookup b
def amc a b c d e:=λa b c=>by{rwa[Ï c d,Ï c d,Ï c e,c]}
def al8 a b c:=fc^Ü a b^ak (br dr (ae 0)^ae c) an
def agH a b:=aq (ad3 (ă 1) a b b6)
def Ń a b:=(#[È a,aa^Ê b])
def amP:=.tup [Ŀ 0,Î 1,Î 2,Î 3]
def aoo a:=(#[aa^.ref a.c,aa^.ref a.x])
def afh a:=a.next (by simp)
def ϝ a:=by injection a with a
def axo:=.Name L
def alo a:=W2.under^acu "type.__call__" a
def au1 a b c d e:=by nofun;obtain⟨a,b,rfl⟩:∃c d,b=c::d:=by{ext Ā b c d;{calc zH r^dt e};{calc#[c,d,r]}}
def ao6 a b:=a.map λb=>(b.1,avy b)
def aoy a b c d e:=rB a b (cX (bV (W1:=2) c) d) (by decide) e.step
def ĵ a b:=cm (az a b)
def ϓ a b c:=by let#[a,b,rfl]:=bE.mp c
def ω a:=zH (adn a) ej
def aBz a b c d e f g h i j k l m n o p q r s:=by let a:=Ϭ [Ŀ b] c;let d:e f=ah:=by{calc g.free ?_;ext afm h i f j;{exfalso;by_cases k:f=l;{ext aio k c};{by_cases m:f=n;{rw[m,ao o,as]at c;ext c};{by_cases p:f=q;{rw[p,ao^ci r,ao^ci s,as]at c;ext c};{rw[ao k,ao m,ao p,h]at c;ext c}}}}}
def alU:=ě 2 "closed" ["graph"] pN
def ax3 a c d e f g h i j k:=by subst a;calc#[Ϝ,_,r,q1 (A:=b.ao.in1) (ŋ c d) _ e f g.toArray,h,GC i,Å zbz zbA zbB];calc#[.ah _,j,c.kept λzbC zbD zbE=>zbB zbC zbD (Í zbF)^cr _ zbE,?_,k];{ext adZ zbF zbG;{calc φ (zbG▸co zbE)};{ext zbF}}
def aiK a b c:=bU a.bU (ae 0) b ļ^ak c an
def aho a:=by ext acQ a;dsimp only
def acM a:=by rcases a with _|_
def ahg a b:=by rcases Y with _|⟨a,b⟩
def ar7:=ě 1 "number_named" ["name","named"]^ub d
def av6:=ě 2 "graph_of_kind" ["kind","production","families"]^xG f A
def aea:=aF (bF _)
def afA a b:=ab.int (aM a b:Nat)
def adC:=.lst [Ŀ 0]
def awM a b c d e f g h i j k l m n o p q s t:=by ext ajn a b c d e f g h i j;left;calc#[e,b,î c,_,k,r,Å l m n,λo=>g.no d p^by decide];nofun;let#[q,rfl,s]:=xq l;let t:=É d n
def İ:=dd _ r
def at' a:=by calc ź;(first|(calc ar^wD a.typeIs^ŏ)|calc ar^wF a.typeIs^ŏ)
def apc:=č 4 "require" ["holds"]^pP d N
def awD:=ada 4 "symbol_named" ["self","name"]^awB
def ahc a b:=∀a zbH,b a=Ű zbH->a∉S
def akZ:=.tup [Ŀ 1,Î 2,Î 3]
def γ a b c:=λa b=>c a^cu _ b
def ń a b:=λa=>b a=ah
def akr a b:=aq (bm^cT a.ah (ae 1) b^ļ)
def alT a b:=λa=>by{ext aio a b}
def Ź a:=c3 XI a XR
def ϖ:=aa .cell
def ϴ:=b1 Q b.ai
def awa a:=fL a^η^ai (Ĭ (ai (ai (aF afW 1) a)^afW) a)^afW
def agh a:=ad1 a f M
def aee:=List (al×ab)
def œ a:=(bk a).aH
def aAO a b c d:=.of_wp λzbI a b #[zbJ,zbK]=>by calc ar^ar (m:=HP _ _)^wy zbJ^ŏ;show Ģ (qP c>>=_) b;unfold qP;rwa[zF^by{rwa[d,ej]},ar^aT^ar^hk^aT #[_,r,zbK]]
def axZ a b c d e f g:=by let a:b.toArray.size+c.toArray.size<=a9:=by{rwa[dw,dw,ai (kz (au d)^au e) f]};let g:¬(! b.toArray.isEmpty&&s6 (b.toArray.size+c.toArray.size))=af:=by{rwa[F9 a,sG,ej]}
def avL a b c d e f g h i j k l m:=by ext agu a b c d e f g;let h:=ä d;calc aeM #[_,f,i,ķ j k l];{rw[as,vG,hr];rfl};{rwa[Ï l m,g j k l]}
def Ş a b:=by subst a;ext ϣ b
def ay9 a b c d e f g h i j:=by let zbL:aij a:=by{let:=bC b;rw[this,b2];let:=c.aM;calc alW (ai this.1 this.2)};let zbM:(act d e [.int f,À g]) h.aW=à a:=by{rwa[ao i,j]};calc#[h.aW,a,_,r,r,zbM,zbL,?_]
def aoE a:=((bO a).length:Int)
def atK a b c d e f:=by rw[show ca a b ((c,d)::e)=(if c=a then(c,b)::e else(c,d)::ca a b e) from r];by_cases f:c=a
def Ō a:=ai (au a)
def acH a b:=(cc a b).length
def ah0 a b c:=a.ai.cells.lookup b=aa c
def ϭ a:=a8 (Ĝ a) ady
def afU:=gh b (Q::Xe) X0
def Ϫ a:=a.map (·.2)
def aBi a b c d e f g:=ï a λb zbN #[zbO,c,d,e,f,zbP,zbQ,#[zbR,zbS,zbT],zbU]=>#[zbO,c,d,e,f,g zbO _ zbP r,ac9 g d zbQ,#[zbR,ac9 g e zbS,ï zbT λb zbV #[zbW,zbX,zbY]=>#[zbW,zbX,ac9 g zbW zbY]],zbU]
def aqM:=.seq Xd.toArray
def Ĵ:=List^å
def amV a b:=ca "end" (.int (Ñ a+1+aeG b))
def amy a b:=afu (W1:=16777192) a b 16777192
def aBM:=by ext apQ;(case a6=>k_is);(case a7=>k_is);(case a8=>k_is);(case a9=>k_is);(case a10=>k_is);(case a11=>k_is);(case a12=>k_is)
def ĺ a b:=ai a^au b
def ayJ:=[.ExceptHandler (aa^axo abv) (aa Zn) [.Return (aa^.List [.Attribute aq3 "number" abw] abx) aby] abz]
def auG:=am (am h s^.tup [.int (n:Nat),ñ]) XB.aW^.lst (O++[ß])
def afp a:=a.kids.length<=3
def adT:=d.lookup f
def ċ a:=b4.mp a
def ago:=eR Xa i
def agW:=b.ao.units+64<eV
def ad' a b:=by let#[a,_,rfl]:=bE.mp b
def anG a b c d:=∀a b c d,XC a b c d->a.length=Ya.length
def asZ a:=ϊ ε a s M ["self","name","one","other"]
def ň a b:=by rcases a with b|b
def amz a b c d:=.az^cU a (amx b c d)^agM
def aph a b c:=a.prods.take (b+1)=ahN a b++[c]
def agj a:=a.left::a.kids
def ϟ:=#[r,Ý]
def ρ a:=eq_of_beq a
def agR a b:=am a b.heap.objs.size
def aii:=·.setIfInBounds
def aiI a b c d e f g:=by left;calc#[λa b c d e=>?_,λa=>ev.bA f g]
def aov a b c d e:=if 30<=a.am then ah else hW b c (a.am+1) d e
def afP a b c:={a with heap:=b,toks:=c}
def ayr a b c d e f g h i j k l m n o p q s t u v w x y z A B C D:=by calc Jk a b c λzbZ d zb0 zb1 zb2=>?_;let zb3:av e f g h (ϳ i d):=alh j i k l m n zb2 o p q s t;let#[u,n,v,w]:=id zb1;calc#[zbZ,r,ap0 i d n v w #[dA x,h,zb3,zl^show jF x zbZ=af from zb0,#[r,x,y,z,r],?_,ah5 k m A]];show d.IsKeyIter B Xq (C+1) Xy.length _;rwa[D,zb1]
def asr a b c:=(#[by{show 1<=a9;calc aX (W1:=16777215)^au a},Â b c])
def aeI a b:=.int (aM a b:Nat)
def am0 a b c d e:=by ext a;calc gd b c (by show 2<=a9;decide) d e
def ώ:=b0 (g:=0)
def adD a b c:=(#[a,b,_,r,c.ae,r,a,b])
def azl a b c e f g h i j k l m n o:=by calc#[a,b+1,Ċ c 1,_,e,f,auM g h,by{lia},?_];show ew d a i _ (d6^aks e f h^Ċ c 1) _ j;rcases k:aks e f h^Ċ c 1 with l|l;{rw[k]at m;calc ev.bA (n.none m) o}
def axl:=by(case a0=>k_is);(case a1=>k_is);(case a2=>k_is);(case a3=>k_is)
def amd a b c:=by calc ahs a b;let c:=apo b
def aih a:=bX (aZ^cf a)^au^cf a
def agc a b:=cT a.bL (ae 0) b bd
def akq a:=by calc bl.mk a ?_;symm;right
def ü a b:=ë a^Ø b
def akf:=by rw[zF^by ext Û];unfold ca
def aqo a b:=show a.toArray.any^hB b=a.any^hB b by{simp}
def ŀ:=List bc
def apw a b c:=λ_ _ _ _ _=>rA d r (B:=2) r^awT a b c
def aeU:=λ_ _=>False
def apq a:=by show 3<=a9;calc aX (W1:=16777213)^au a
def aiH a b c:=by nofun;ext acV a b c;left
def alS:=b.ai.qual++"<lambda>"
def aBx a b c d:=λa zb4 b=>by{let:=c.tab;rw[b]at this;rcases zb4 with d|d|d;{ext ϗ d};{rw[d,c.ae]at this;ext this};{rw[d,c.bo]at this;ext this}}
def amr a b c d:=am a b^.lst^aP^ao' c^cm d
def amZ a:=d.lookup Xl=aa #[YX,X1,a,Zi]
def aeN:=dB^ad7 an
def acN:=bj b W6 Xg
def age a b c:=dM gm r a (aky b c)
def amJ a b c:=dM el r a (aky b c)
def ã a b c d:=cg a b c^aB d
def aAU a b c d e f g i:=by calc#[λa zb5 Xf h=>zb5=Xs.length-a/\a<=Xs.length/\b a Xf h,#[Xs.length,ah7,c],?_];rintro a zb5 Xf h ⟨rfl,d,e⟩;let f:=g a Xf h d e;by_cases i:a<Xs.length
def afi a:=ab.str.inj^zI a
def ahG a b:=a.filterMap (b[·]?)
def aAq a b c d e f g h i j k l:=by let#[a,zb6,b,c,zb7]:=d.get^bi e;let f:d7 g h.1=(g.syms[h.1]' e).downs.length:=by{unfold d7;rw[bi e];rfl};left;generalize zb8:g.syms[h.1]' e=i at zb7 f;nofun;let#[j,k,Ä zb9 zb',l,zca,zcb,_,_]:=zb7;left
def apE:=agE Xr h H Yw Yp Ys Yi
def ahh:=cF XB h YB Y Yt
def anN:=j.heap.push ail
def ê a b c d e:=λa b c d e=>?_
def ahm a b c d:=a b (by decide) r^c.mpr d
def an0 a b c:=by ext a;calc#[[],trivial,λb c=>alp c]
def ŗ:=fe d c5
def Ŧ:=#[_,r]
def axx a:=#[a.mod,a.kind,a.bB,a.blt,a.above,a.inj,a.has,a.cA,a.aS,a.frames,a.dc,a.c6,a.bk,a.bP,a.cL,a.cG,a.bz,a.bX]
def Ϧ a b c d e f:=by intro a b c d e f;symm;nofun
def adL:=aH YK W2
def asG a b:=by(rw[show a+(b+1)=a+1+b by lia]at this;assumption)
def Ļ a:=(#[_,Ç,ę a])
def amm a b c d e:=a.contains (b,c)&&cY a c d==aa (e+1)
def arV a:=mS d f (λa=>e6^ad8 a=af->mK a) ow
def arj a b:=zH a^show¬ab.str b=ab.str "mark" by ext Û
def Δ a b c:=(#[È a,È b,È c])
def ahi a b c d e f:=(#[Ľ a,λ_ b c d=>?_,λe=>zH f e])
def asS:=i4 Xz Z7 apB Xz.length
def axg a:=lG _^w5 (hp^hn a) (hp^hn^eO^eO a)^hp^hn^eO^eO^eO^eO a
def Β a:=a.parts+1
def al3 a b:=aq (bm^cT a.cr (ae 1) b^ļ)
def ama a b:=(a.drop b).take^acC a b
def agf a b:=(a::b).length=Ŏ b
def ae3 a:=ck a.length
def Κ:=.cons r
def are a b c d e:=apd a (Zk:=[b]) c (dC^ae d) (ahJ c) (e2 e c.ak r r) e3
def ahd a b c d:=∀a b,c a=Ű b->a∉[d]
def azJ a b c d e f:=by let:=a (γ b c d);rw[eM,eM];split;{rename_i e;rw[zG^d f cj e];simp only[ce];calc af6};{split;{simp only[ce];calc cX this 1};{calc this}}
def ayw a b:=∀a b,h2 a g s w X1 A^aa b->oG aqR s X7 j.heap a->(X7=aa b\/aqS b)->Yq () (ad0 a)
def aBP:=ck Xt.size
def š a b c d:=by subst a;ext ac3 b c d
def anQ a b:=λa=>decide (a.1=b)
def amK:=hS j.heap Xq W5 Xx X8
def ac8 a b:=aD.af (Ë a b)
def afZ:=List (al×hM)
def azk a b c d e f g h i j k l m:=h4 λ(a:gS) (b:Nat) (c:Ù) (d:Nat)=>g8 (e=[aoo f,adq (B:Nat)]) g (cF f h b c^i.aP^cZ a) (aJ f.a8 j h) (afk c+1<=d/\e5 k (l+1) (B+1) i.am m=gT k d (B+1) i.am a c)
def ϰ:=Option ab
def afV:=W2.handled=ah
def ako:=aok f s w
def ο:=.error _
def Ϻ:=a0 Xa i
def amC a b c d e f:=λa b=>∃c,gj (b d=à c) e^aL f b
def av1:=ě 2 "is_of_kind" ["kind","symbols","pair"]^xN E
def as9 a b c d:=ca "assumed" (À a) [("grammar",À b),apG c d]
def aru a b:=by rw[a]at b;calc zH b^show¬("":al)="." by ext Û
def ayL a b c d e f g h i j:=a.dt (λb c=>by ext adQ c d;{rwa[d,e]};{rwa[ċ d,f]})^λb c=>by{ext adQ c d;{rwa[d,#[_,g,λh d=>nomatch d]]};{rwa[ċ d,#[_,i,λh d=>by ext Æ j d]]}}
def awK:=ada 4 "require_kind" ["self","kind"]^rH d N
def amb a b c d e f:=by let a:b≠c:=λd=>e.some c (by simp) (d▸f)
def aw4 a:=by(repeat' split at a);all_goals(first|((ext a;decide))|ext a)
def aoM a b c d e:=by ext Ϗ a b c;rw[d]at e;left;dsimp only at e⊢
def ahE:=ai9 j.heap
def arZ a b:=aeA (ae a)^aC^ac2 0 (ae b) r
def api a:=show(aa a).toList=[a] from r
def Λ:=(g:Int)
def aoq a b c e f g:=∀a b c,dy d e (-2) a b c->aL f c->g a b c
def aAr a b c:=by calc aiP;calc a8 (λa=>aiP) (Í a);{rw[a,sH]at b;calc b};{let a:decide c=ay:=by{exists a};rw[a,vL]at b;calc b}
def Ϣ a:=(#[r,.inl^ę a])
def amH a b:=aq (ad3 (ae 0) (bG a) b b6)
def adb a:=a.length<=a9
def aus:=by congr 1<;>rw[e4]<;>simp only[decide_eq_true_eq]<;>omega
def adU:=Option Nat
def arc a b c d:=gM (Zk:=[a]) r b.ak c (ahJ b) (e2 d b.ak r r) e3
def al9 a:=adq (aj4 a)
def akn a b:=auW a b
def ar6 a b c d e f:=by let a:b=O.length:=bX c^c8 d;calc ajL a #[#[O,e,a5 _],f]
def aiv a b:=λa=>b^by{rw[a];rfl}
def al5:=Option (cy×Nat×Ù)
def asQ a b:=a.push (aly "list" (acv b).toArray)
def azd a b c d e f g h i j k l m:=h4 λ(a b:Nat) (c:Ù) (d:Nat)=>p' (e=[aoo f,aa^Ê a]) g (cF f h b c^mN i a) (aJ f.a8 j h) (afk c+2<=d) (d6^gD k l i.am m=om a^d6^gD k d (i.am+a) c) (i.am+a<=30)
def aid:=gx b.as M Xh Xd
def adS:=h3 XU b XA
def ad4 a b c d e f:=ï a λb c d=>ð d e f
def aeH a:=(ao^ci a).trans
def apK a b:=ru H a b (by decide)^by decide
def av4 a b c d e:=by let a:((ĵ b c d:Nat):Int)+((e:Nat):Int)=((ĵ b c d+e:Nat):Int):=by{lia}
def acL:=Option ac
def avY:=ě 2 "told_arrows" ["occurrences","graph"] xT
def aAV a b c d:=by ext adQ a zcc;{rw[zcc,b.a']at c;ext c};{ext acF zcd zce zcf zcc;let#[zcg,_,zch]:=cK b.row^show W'[zcd]?=aa d by{rw[bi zce,zcf]};ext Æ zch c}
def apj a:=ab.int (a.2:Nat)
def adJ:=aa .local
def axL a b c d e:=by rintro zci zcj zck a zcl zcm zcn zco zcp b zcq zcr ⟨c,d,rfl,rfl,e⟩;let#[zcs,rfl]:=(show∃zcs,zcn=hj c zcs from zcq);let#[zct,rfl]:=(show∃zct,zco=hj d zct from zcr)
def aBy a b c d e f g h i:=a.d2 b (XO:=c) d (by rw[as];rfl) (by rw[ao^ci e,ao^ci f,as]) (by rw[ao g,as]) (by rwa[ao^h _^aj0,ao^h _^.inl i,ao^h _^.inr^ϛ,a.tab])
def į:=cs z p
def af4 a b:=by rw[a,b]at this;ext this
def aoG a b c:=(#[r,r,a,by{rwa[b,b2,ī (aF c 1)]},?_])
def aqh a b:=anF (show a∈([]:Ó) from b)
def aer a:=a.objs.size+1
def agg a b:=aq (Ò a b^dB an)
def al':=by(rw[aI]at this;assumption)
def afK a b:=λa=>b^by simp[a]
def ag7 a b:=a.length<b.length
def aAQ a:=by rw[qs];{unfold c0;rw[cA];rfl};{rcases zcu:bS (c0 W7)^cI T with _|zcv;{rfl};{calc zH (pK.mp^by rw[zcu];rfl) a}}
def awg:=show¬((W1:Int)<0) from by{calc aqk}
def arK a:=by show aa a=_;unfold cZ;simp only[nV,nW,mv]
def Ω:=aR->ĩ
def ahV a b c:=.seq [Î a b,c].toArray
def Ð a:=.inl a
def aBR a b c d e f g h i j k l:=λa b c zcw=>by{let d:a≠e:=λf=>by{rw[f,g.ae]at c;ext c;ext zcw};let h:a≠i:=Ę f j c;let k:a≠l:=λf=>by{rw[f,g.bo]at c;ext c;ext zcw};rwa[ao d,ao h,ao k,c]}
def Ŗ:=.ae Xo
def as5:=gw H W7 1 XK (es H W7 1 XK) XE
def amU a:=("number",.int (Ñ a))
def aj8 a:=aH _ b.ao.in1 a _ _
def act a b c:=am a b^.tup c
def aeL a b c d:=by ext afa a b c;let d:=ä c
def alO:=(bD s::XS).contains
def agq a:=br cl (ă a)
def ag8 a b:=a.length<=b.length
def atJ:=(ant).push^atL
def ahP:=XE.map (·.1)
def Η:=df R W0
def ſ:=Ă Xf h
def auQ a b c:=by obtain rfl:g=4:=by{let a:(5:Nat)=g+1:=a;lia};rw[b.mp c];simp[fY]
def adv a:=bZ a.mask
def apS a b:={cls:=Þ "list",data:=.seq a.toArray b}
def aff:=b0 (g:=1) r
def anJ a b c d e f g h i j k:=ĉ a b c d e f g λh zcx #[i,zcy,zcz,j,zcA]=>ĉ k b zcx d zcy zcz zcA ?_
def ĭ:=(#[_,r,as])
def Ϲ:=.ref x
def aAG a b c d e:=a.size=Xs.length/\∀(b:Nat) c d,Xs[b]?=õ c d->∃(zcB:d4) (e:ac),é a b zcB/\zcB.key=À e/\h e=ae7 c/\bP d zcB.val
def art a b c d e f g h i:=by let a:Β b<=60:=a;let c:=d.bw e f #[nu g.aM.1,a];let h:=ϥ i f
def af5 a:=by let a:=hu.mp a;ext a
def aj5:=bY d L Xn Xm f M
def av8 a b c:=am (am a M^adm) b^.ae A c^ca "found_in" (.ref M) []
def awh:=.Call (ajS "values" Yl) [] [] Y9
def afy a b c d e:=(#[a,f,b,agx (c a _ d.ae) e])
def adp a:=bl.mk a ?_
def ajg a b c d e:=by subst a;let b:=hC c;ext ac3 d e c
def azU a b c d e:=by ext Ā a b zcC;{rfl};{exfalso;unfold hY at c;rcases zcD:hY d zcC with _|e;{ext Æ zcD c};{ext aiL zcD c;ext alv c}}
def ads:=(bk Y).aH
def afC a:=by unfold bN;rw[a];rfl
def amS a b c d e f g h i j k l:=by let a:=b.bZ c;let#[d,e,f,g,h,M,i,j,k]:=id a;let l:=k.ba.bg
def aiy:=Nat->Nat->Prop
def aft a b c d e f:=λa b c d=>e a b^f a b c d
def ak9 a c:=b.ai.cells.lookup a=aa c
def aoK a b c d:=λa b c d zcE=>#[a,b,_,r,r,as,r,?_]
def aop a b:=qq a b.ak r (nx r) a7 qe
def avT a b c:=awV^aiX (ai a^aF b 1) 16777212 c
def Ξ:=d.In W3
def alJ a b c d:=by rwa[ao^a b _ c^λ_ _ d=>nomatch d,c]
def aor:=ϑ f "Unreadable" (-2)
def Τ:=List^Ã
def aku a b:=λa=>b^zJ^zL ab.str a
def ahu a:=∀a,Xr a->Y5 a
def ahR a b c:=.az^cU a (Ī b)^À c
def aiu a:=by let a:=zI a;ext ae' a
def ŏ:=aT ?_
def aeM a:=by left;calc#[r,e0 a]
def β a b:=a.length<=b
def ų a:=.lst^Ż a
def akI:=by simp only[fy,if_false]
def ajl a:=λ_ a=>by{ext a}
def au0 a:=by by_cases a:30<=W1;{rw[zG^show lx<=W1 from a,zG a];rfl}
def akR a b:=ak (iD a (ae 2)^bG b)
def adg a b:=a.heap.get? b
def agK a:=a≠b.ai.locals
def ayZ a b c d e f:=.Call (.Attribute (.Name "Refusal" a) "__init__" b) [.Name "self" c,.UnaryOp .USub (.Constant af2 d e) f] []
def aef:=am h f
def ah7:=(#[by{simp},bF _])
def apm a b c d e:=by let a:b[c]?=aa (b[c]'(ĺ d e)):=adx d e
def auy a b c d e f g h:=(#[a,s,b,Ŝ c,d.aa,d.dp,r,a,s,b,Ŝ c,d.aa,d.ce,r,e,f,Ç,aw.ad g.lst,b0 h])
def ap6:=ϸ "__init__"=ajN
def auT:=((aon).length:Int)
def aqv a b c:=a==qS&&b.kind==.function&&ahZ b c==ϖ
def awO:=fr (dP H W7 Xb.toNat Xw) (ik H Xw) Yh Y0
def alm a b c d e f g:=(#[a (b+1),λzcF c zcG=>#[d,jK e,r,e,zcG],Å f c g])
def aBf:=by unfold hm;rw[e4];simp only[gl,jj,z2,g9,hG,decide_eq_true_eq,db,beq_iff_eq,fy,or_false];lia
def an4:=.ref (W3.objs.size+1)
def aik:=Zk.map (·.2)
def arR a:=cz #[if ii a then 3 else 0,a,0]
def ac6 a b c d:=by intro a b;ext Ϗ c d b
def Ĥ a b:=aK^az a b
def aq8:=aoa #[] 0
def azm a b c d e f g h i j k l m n o p:=lZ λ(a:cy) (b c:Nat) (d:Ù) (e:Nat)=>iB (f=[aoo g,aa^û h,aa^û i,aa^Ê b]) j (cF g k c d^(al4 l) a) (aJ g.a8 m k) (afk d+10<=e) (n=kV o e (l.am+1) p a b d)
def agd a:=dT hD (ae a)
def á a:=aJ [a]
def aeh a:=(ė a).Nodup
def aiD a:=a.mono^by decide
def amT a b c:=((agF a) b).trans^aD.aC c
def alP a:=by with_reducible calc pl a ?_
def aqP:=j.heap.FunFrames t (XF::Yc)
def aeu a:=zH a^fO _
def acy a b:=bA m a^û b
def arI a:=#[a.occs,a.own,1+a.parts]
def adM:=bj b Q Xg
def Ψ:=List cR
def ahr a:=ak (ac4 a) an
def agz a b c:=am a b (.tup c)
def ac9 a b c:=a b _ c trivial
def aoU a:=(hl Zc a.name).isSome=af
def aoz a:=by dsimp only[bind,hH,pure,iH]at a
def apg a b:=a.own=af\/b.expr.usesOwn=ay
def al2:=by show 2<=a9;ext ah8
def α:=b.bi=af
def azy a b c d e f g h i j k l m n:=p9 (a=[È b,Ń c d,e]) f (d<=g.length) (g.length-d<h) (i c=à j) (be (gr i) j^k.map cz) ((∀l∈k,eo l)) (β k d) (aL m i) (n=(hq h d^g.drop d).map (k++·))
def θ a:=eT (ö a)
def ao8 a b:={(XQ.put a).1 with plain:=b}
def as2:=acJ XO h Yb (acI ZF) Yj XA
def agV:=#[_,İ,r,r]
def adY:=List Bool
def agD:=aa^ft fW fX
def adH a:=by rcases a with _|a
def akJ:=eB eD jR lm
def aed a b c:=bU a (ae b) c bd
def aje a b c d e f g:=by let a:b c=ah:=by{ext afn d b c e f g}
def apr a c d:=(#[r,by{rwa[<-a,dW.k (b:=bz c) d]}])
def aqp a b c d e f g h i j k:=by intro a b c d e zcH f g zcI zcJ;let#[Ä h i,j,k]:=zcJ;let#[zcK,rfl,zcL]:=nf zcI;ext zcL
def af1:=eL d W3 W'
def asX a b:=(#[bL.ay a.prods b,a.bg,a.cH,a.cI,a.cJ])
def agJ:=eh q i h
def alN:=#[W3,Z0,Z1,ZU,Z2]
def ae4:=ab->Á->adc
def avF:=by(repeat(any_goals(first|(assumption)|wp_step)))
def adK:=aa .free
def ai4:=cn z XD X2 Xv
def amQ:=kN J E f A w I XO
def adz:=az H Xw
def ag6:=λ_=>True
def avc a b c d e f g:=by let a:∀b∈[c],¬(ń d e) b:=λb f=>by{ext akh f b c;rwa[f,g]}
def afz:=.ref X'
def at4 a b:={a with heap:=a.heap.push b}
def afj a b:=a.next (dt b)
def ahz a:=(cc z a).length
def aiA a b:=k9 a b.ak r (ib r)
def aim a b:=a<b.heap.objs.size
def ϩ:=bq z p
def auj a b:=(#[Ķ a,ak7 a,λb zcM a=>atr a])
def aiq a b:=decide a&&decide b
def ı a:=by intro a;ext a
def arb:=ě 1 "spelled" ["word"] uc
def Ε:=c6 z p
def acw:=.ref N
def aia:=aZ^nt _ _ _
def auI:=show¬aro="small" by ext Û
def asP a b c d e:=by let a:aeP b c=Ğ b c++[d]:=by{rw[dE,e];rfl}
def ι a b:=a.testBit b
def akQ a b c d:=dM el r a (jI r^awT b c d)
def apl:=fS f h s w A E W' XE
def auf:=iN L Xn (jD Xm) af3 Ν .none
def acC a b:=cB^a.drop b
def avA a b:=by rintro⟨zcN,zcO⟩ a ⟨b,rfl,_⟩;simp only at b;subst b
def ahq a:=a.length<=3000
def φ a:=zH a^fn _
def asc a b:=by rcases a with⟨b,_⟩|⟨_,b⟩;{ext b}
def apX:=.Compare W6 [YF] [Xj] Z
def auu:=ě 1 "is_great_letter" ["byte"]^j9 kG
def aes a:=decide a=af
def ϙ:=ai this
def akL a:=dW.k (b:=(Ī a))
def awl:=agT (.Name "range" ZL) [W6] aaH
def anp a b c d e f g h i j k l:=ĉ a b c d e f g λh zcP #[i,zcQ,zcR,j,zcS]=>ĉ k b zcP d zcQ zcR zcS l
def aBa a b c d e f g:=∀a,a.DictOfH Y6 b (c.filter (anR d e))->kC b j.heap a->f g {j with heap:=a,toks:=j.toks+Y6.draws e}
def aw1:=ate 5 "pair_named"^awE
def aBh:=ada 4 "attribute_named" ["self","symbol","name"]^awC
def arq a:=by unfold en.a8;simp at a;simp[a]
def ali a b c d e:=λa b c d=>e a b (by exists c) d
def alE a b:={j with heap:=a,toks:=b}
def ϵ a b c d e f g h i j k l m n o:=by intro a b c d e f g h i j k l m n o;subst b c d
def axk:=(#[.ref w,.ref A,.ref E,.ref I])
def ś a b:=a<b.length
def amE a b:=a.length=b.syms.length
def Ϸ a b:=a b^by{simp}
def atd a b c d e f g h:=am (Ž a b) c^Ŗ d^ca "rows" (À b) (axd e f g h)
def aq5 a b c:=(a.bj b^eU _^eU _^oO (by simp) c).1
def ajW:=ab->δ->δ->adc
def ay2 a b c d e f g h i j k l:=by calc ý a ["self"] zcT zcU zcV zcW zcX zcY zcZ zc0 zc1;let#[b,c,d,e,f,g,h]:=zc0;subst e;let#[i,j]:=f.ae;calc ϣ (aq (vr (ae 0) a7 y1)^aC^arS (Ϩ 0) k l zcZ)
def akW:=mH J E f A w I
def avf a:=by ext auF a;rcases a with a|a|a
def atO a b:=if a<0 then(a+Ñ b).toNat else min a.toNat b
def ŧ:=aL h V
def afc a b c d:=by let#[#[a,b],c,d]:=dQ.mp d
def amk a:=∀a,a∈R↔a∈YT
def atY:=if([]:List qR).isEmpty then 0 else 1
def aem:=aa^.lst O
def aeT:=W3.get? f
def akK:=od q i d m t E
def arC:=e5 g B (W1+1) Xu^ahf
def aeD:=cJ D R Xz
def ass a b c:=(agj a).map ((λb=>j6^dp c b)∘fq)
def Ι a b:=by rw[a]at b;calc b
def afx a:=aa^.tup^iZ a
def aix a:=zF^by{exists a}
def ajj a:=ao^by{exists a}
def μ a:=eX a.text
def aAD a b c d e f g h i:=by calc#[λa zc2 b=>zc2=O.length-a/\agQ a/\c a b,#[O.length,ah7,d],?_];rintro a zc2 b ⟨rfl,e,f⟩;let g:=h a b e f;by_cases i:a<O.length
def akP:=(#[[],as,.nil])
def ayN:=HO "min" ["key","default"] 0 #[[],[(dm "key",XM),aq4]]
def acG:=et _ _
def asW a:=nC a X' Xq (W1+1) Xx.size X8
def apv a b c:=(Ĥ a b).map λc=>adB a b c
def awu:=Ģ (if(bD Xq==eu)=af then _ else _)
def adI a:=eN (co a)
def adh:=(1:Int)
def aAR:=ě 4 "new_pairs" ["kind","grammar","families","touched"]^Dc J E f A
def afq a b:=by rw[zF a]at b;clear a
def aAf:=č 6 "draw_rules" ["production","rules","symbols"]^CV d N f E Yn X9
def alz a b:=a.laid (t':=b.toks)
def apP a b c d e f g:=by let a:ņ _:=Ň b c d;let e:ņ _:=Ň f c g
def ahC:=eE R (aK D)
def agP a b:=a b (by simp)
def aAc:=č 5 "occurrence_number" ["production","symbols","told"]^Dg d N f E
def Ϙ a b c:=λa b c=>cr _ c
def ac2 a:=c7 (ae a)
def ahU:=eL d j.heap
def ajJ a b:=a.kept (t':=b.toks)
def arx a:=č B a ["cursor","expression"]
def aqw:=p5 b.aX b.ai.scope W9 Zk
def aqZ a b:=a b.heap.objs.size=ah
def ahD a b:=a.getD b (0,0)
def aso a:=a.downs.length+a.ups.length
def awG a b c d:=by nofun;let#[a,b]:=f4.mp this;left;calc#[a,b,(c.bQ d a b).dl]
def axU a b c d e f g h:=by ext a;let#[zc3,b,c,d]:=e.tuple f;let g:zc3.toArray.size=h.length:=by{rwa[dw,b.length.symm]};calc#["tuple",_,o3.lookup,c.typeIs,?_]
def Ř a b:=(#[Ä a b,rfl])
def ahS a b:=dP a b.assumes
def agL:=fa b.stack
def acW a b:=ë a^ak b an
def aeQ a:=ϊ ε a s M
def aux:=br dr (br cl (Ϩ 0)^Ϩ 0) a7
def acD a b:=ai a^au b
def alL a:=a.heap.objs.size+1
def ĳ a b c:=by rintro⟨a,b,c⟩
def aAd:=ě 2 "is_to_be_defined" ["production","symbols","number"]^Du f E
def ϸ:=dh d ß
def alq:=.Attribute XV
def akb a:=by rw[a]at this;calc this
def ayd:=Xy.length<=a9/\(a==fD)=ay/\∃zc4,d2 Xy zc4/\W3.DictOf ag2 a zc4
def apb a b c d e f g:=gy (bL.ay (jv a b) λc d e=>ð e f g)
def af6:=aF this 1
def aiG a b:=bk a=.mark b
def aye b:=Xs.length<=a9/\(a==fD)=ay/\∃b,hz h Xs b/\W3.DictOfH (q6^ag2) a b
def acx:=List cS
def ad2:=aJ S h V
def ajD:=b.aX[g]?=aa L
def adO a:=by rw[a];dsimp only
def aqi:=f2 XU q i d m t Xh
def anZ a b:=bX (ğ a^au b)^ğ b^au a
def alA:=j.heap.update f
def agk a b c:=by let#[a,b,rfl]:=d3.mp c
def avK a b c d e f g h i j:=let a:ez:=(λb c=>c d=aa^.lst^aP^jm b 0/\aL e c);ahM f (O:=g) a h b c i j
def ò a b c d e f:=λa b c d e f=>?_
def ajB:=cG b.prog b.w
def avI:=ě 1 "are_different" ["names"] xE
def aoC a b:=by let a:=zI a;rw[b]at a;calc gO a
def ayF a b c d e f g:=(#[λa b c d _ _=>e a b (ae9 f g d) c,λa b c d _ _=>#[b.slots,e a b (ae9 f g d) c],λa b c d _=>?_,λa b c _=>?_])
def Š a:=by rw[zF a,zF a]
def atG a b c d e:=a (.int b c.toks) {c with toks:=adj c}->Ĺ d a e c
def amp:=Array (Int×aj)
def arW:=dq s h YS X3 V8 Ym YB Y
def Ζ:=c1 D R
def an8 a:=.bN [("number",Ì a)]
def aBS a b c d e:=am (act a b c) d^.lst (e++æ b)
def ajC:=eh b.prog b.w
def afR a:=.ah^decide a
def acZ:=(#[r,r,r,r])
def auY:=(#[by{ext Û},by{ext Û},by{ext Û}])
def ahO a:=aa^.lst^aP a
def aiw a:=ab.ah^decide a
def awd a b c d e:=#[λa=>#[b,c,a],λ#[zc5,d,e]=>by ext Æ c d;calc e]
def agr a b:=by rw[a]at b;left;ext b
def axh a b c:=λa b=>by calc aqN b c (qZ c)
def ř:=.ae s
def asp a b c d e:=ahI a b (ha jG (Ũ c^Θ d) (bG e)^bH _)
def azC a b c:=by ext arY a b zc6 zc7 zc8 zc9 zc' zda zdb;let#[zdc,zdd,rfl]:=vh zc';calc Ş zc9 (arZ 1 2);ext ar0 zc6 zc7 zda c;rwa[gn,zdb]
def aey a:=(bk a).kind
def ayV a b:=by calc ó a ["byte"] zde zdf zdg zdh zdi zdj;let#[zdk,zdl,b]:=zdj;calc Ş zdl (aC^bt^vn jG jG a7 (ae 0) a7)
def ϔ a:=.lst^π a
def arP a b:=bR m' (ae a) (Ũ b^Ø 0)^bH _
def asN a b c d e f:=by ext ags a b c d;rw[ċ e,f]at c;left;ext c;calc d
def alD a b c:=∀a b,ĥ a b->ď c a b
def akd:=by left;calc#[r,e0 ?_]
def ŉ:=aa W5
def agN:=axo XG
def arF a b c:=aq (bm^bU a.bl (ae 0) b ļ^Ø c)
def aAl a b c d e f g h i:=by let a:=a' (o:=.lst^aP b) c;let d:(am e f^.lst^aP b) f=ĝ b:=as;generalize am e f (.lst (aP b))=g at a d;calc af8 f d h i
def Χ:=f9 d f
def az1 a b c d e:=(bB (f5 a (ς a b c)+1-ς a b c)).find? (λd=>(e.getD (ς a b c+d)^aa 0).isNone)
def arl:=ϑ w "Unreadable" (-2)
def ap2:=cw [Q] b.ai=[(ay,ϴ)]
def ajm a b:=(#[a.assumes,r,b.one])
def ald:=λ_ _ _=>False
def amv a b:=cJ (az a b) (ff a b)
def ϡ:=gC _ _
def ajO a:=beq_iff_eq.mp a
def ahk a b:=a.and^aD.keep b
def akO a:=mP d r (ae a) r
def ae5 a:=bB a.length
def aoZ a b:=decide (a.2.2<d7 b a.1)
def Ν:=da Xm
def azn a:=č a "read_arguments" ["cursor","expression","opening","closing"]
def Ο a b c:=by let#[a,b]:=c.av.ae
def aoY a b:=decide (a.2.1<d7 b a.1)
def aBb:=ě 3 "family_before" ["turn","grammar","family"]^CO J E f A
def apR a:=beq_eq_false_iff_ne.mpr a
def auv:=ě 2 "is_letter" ["byte"]^j9 iQ
def ahB:=cY R Xc W0
def akz:=cB (W1::D)
def ag':=ex R W0 Xc
def axj a:=adT=aa #[Þ "tuple",X1,.seq a g,Zi]
def ai2:=or_congr fM
def ai7:=f0 XQ XN Yg
def asv a b c d:=(∀a∈b,c[a]?=ζ)->c[d]?=ζ
def ait:=.inl aeX
def afk a:=12*a.length
def aAh:=č 7 "production_of" ["read","symbols"]^Dl d N f E YC Yn X9
def aol a:=bQ (bR c2 a dL^bH _)
def ax9 a b c:=λa b=>#[(c a b).1.2.2.2.1,(c a b).1.2.1,(c a b).1.2.2.2.2.1,(c a b).1.2.2.2.2.2]
def aqx:=W9.names.lookup y
def ai0:=zF^by{simp}
def aqF b c:=b.laid (a:=c.heap.objs.size)
def aqI a b c:=by show Ģ a j;calc ar^nU b c (by simp) ?_
def Ϟ a b:=a.getD b 0
def ael:=bP W4 W8
def Α a b:=aq a^aiS b
def axs a b c:=∀(zdm:Ĉ)(zdn:ax)(zdo:aR)(zdp:ag)(zdq:dI),av a zdm zdo zdp zdn->b zdq zdo zdp->afM a c (iA a zdm zdq) zdn
def ψ:=.int _
def alx:=aBP Xt.size YM
def aiB:=by rcases g with _|g
def acK a b c:=by subst a;ext Æ b c
def ū a b c:=agx (a b _ c)
def ar4 a b c d e:=by let a:=b.mpr c;rw[zG a]at d;let e:=e7 _^dt a
def aAx:=ě 3 "pairs_from" ["kind","production","families"]^CZ f A
def aqO:=W2.frames=aa (XF::Yc)
def amF a b c d e f g h i:=by ext awx a b c d;let e:=a f _ g;let h:=Ë i a
def aut:=ě 1 "is_digit" ["byte"]^j9 e6
def akA:=oa q i d m t
def aBD:=ě 355 "answered" ["holder","call"]^CM d J E f A w Xo I N
def auD a b:=λa=>by{rw[a]at b;calc aoF b}
def ϛ:=.inr r
def agt:=b8 H.syms
def ax4 a b c d e f g:=by intro zdr zds zdt a zdu zdv zdw zdx zdy b zdz zdA zdB;let#[zdC,zdD,zdE,zdF,c,d,e]:=zdB;let#[zdG,f]:=eS.b4 b zdC zdu zdw zdE zdz;let#[zdH,g]:=eS.b4 b zdD zdv zdx zdF zdA
def akT:=hV D XL^aK D
def ajS:=.Attribute Q
def aze a b c d e f g:=#[a,λb c #[d,e,f,g,zdI,zdJ,zdK,zdL,zdM,zdN,zdO]=>#[_,zdJ,d,e,f,g,zdI,r,zdK,zdL,zdM,zdN,zdO],?_]
def ģ a b:=bg a b ļ
def aBe:=ě 6 "reason_of" ["pair","grammar","family"]^Dm J E f A I
def aAp a b c d e:=by rcases a with a|⟨zdP,zdQ,zdR,zdS,zdT,zdU,zdV,b,c,d⟩;{calc Ð a};{calc è #[zdP,zdQ,zdR,zdS,zdT,zdU,zdV,b,e,d]}
def akU:=gF A H W7 Xr
def aAB:=ě 1 "attribute_numbers" ["production","attributes"]^Df f
def ava a:=if ŷ 35 a then Ċ a 1 else a
def auE a b c:=by ext ahg a b;{calc#[Ĝ c,λ#[_,_,c,_]=>(by ext c)]}
def alr a b:=λa b=>zH b^by{simp}
def as4 a b c d e:=by let#[a,b,_]:=oB.mp c;let#[Xc,d,e]:=fz.mp^cq b
def ap8 a:=(show False from a).elim
def ati a b c d e f g h i j k:=by ext atj a b c d e f g;ext atj h i c d e f g;ext atj j k c d e f g
def aAg:=cH d YC ["name","left","is_numbered","children","rules"]
def aeg:=List bh
def awH a:=es H Xp.assumes a^dn H Xp.assumes
def aoh a b c d e f:=by let#[a,b,c]:=d;calc#[a,b,afe e a c f]
def ash a b:=vZ a (by{calc aea 1}:0<b+1)
def acP:=ia _ _
def aiZ a:=(eQ a).length
def atx a:=a.step (g':=j.gens) (d':=j.drawn)
def ao4:=hh XQ.place V'.1
def afW:=au this
def apC a b c d:=ar^tv a (by simp) (Å b c d)
def ayD:=j.heap.push {cls:=Þ "tuple",data:=.seq rest.toArray}
def aoj a:=[.ref a.c,.ref a.x]
def anb a:=a.mod.bB.keeps a.bE
def arU a b:=#[a,_,r,.inr^bw.ad b,Ç,Ý]
def acE a b:=[À a,À b]
def am7 a b:=ĥ a b->h'.get? a=aa b
def ada a:=Ϥ ε a w
def amY:=by ext ak0;{calc j5 _}
def axc a b:=("end",.int ((afF a b:Nat):Int))
def ac5 a:=b8 a.syms
def ľ a:=bp.mp a
def aja a b c d e f:=by intro a b;nofun;let#[c,d,e,f]:=b
def ah2 a:=adL a Yq Xk j
def awo:=(Xz.getD (aM D Xc) 0).testBit
def asH a b:=a.TypeIs (À b) "dict"
def afg:=Nat×Ã
def ł:=.ae w
def af' a:=by calc ϟ;calc Õ a
def ajn a b c d e f g h i j:=by ext aBr a b c d e f g h i;let#[zdW,j]:=d.2.1
def ayv a b c d e f g h i j k l m n o p:=by let a:ec.weightAll b<=1048576:=c;let#[d,e,f]:=u4 b _ g h λi j=>ds (zp j) a;let k:∀l∈d,l∈m::d:=λl n=>cu _ n;calc#[m::d,cj ..,Â l n];rcases bK.mp n with o|p
def aoi a:=a.map cz++[.fin]
def asw a b c e f g:=∀a b c,dy d N e a b c->aL f c->g a b c
def azD a b c:=by by_cases a:akk b;{ext aho a;by_cases zdX:ŷ 61 c;{ext acQ zdX};{ext Š zdX}}
def ak3 a b c:=aa #[Þ "tuple",a,b,c]
def aqE a b c d e f g:=by rintro zdY a ⟨zdZ,b,c,zd0,d,e,zd1,f,g⟩;ext aeq zd1 zdY d zd0
def adk:=.ref l
def as7 a b c:=a.assumes.filter λb=> !(b==c)
def aiR a b:=a.isSign b=af
def aAi a b:=fL (oU a)^ī (ö^ai (Ρ (akC (ğ b this)^oU a) b) this)
def amR:=ŕ XO h Yb Xp
def alQ a:=aH _ _ a _ _ _
def é a b c:=a[b]?=aa c
def amL a:=oT a^by ext aeY
def apZ a:=aH (a0 a.prog a.w) a.ao
def aAC:=ě 2 "spread_at_once" ["grammar","attributes"]^Dh J f
def atV:={cls:=Þ "list",data:=aqM g}
def alH:=W2.units+1<eV
def ajV a:=aT #[_,r,aT a]
def aj6 a b:=by rcases cL.mp a with b|b
def aqL a:=a.toArray.toList.map hb
def aur a c:=by calc let a:aV:=_;bl.mk (b:=a) c ?_;symm;right
def aw7 a:=a.2 (by show afQ<=0;decide) _
def aBC:=č 354 "made" ["holder","call"]^C' d J E f A w Xo I N
def ajX a:=ae3 a a.length
def aAk:=ě 1 "symbols_with_tree" ["count","productions"]^Dy f
def aqT a:=X7.elim .none λa=>fQ a
def ajc a b c d e f g h i:=λa b c d e f=>g h b c d e^Ë i f
def Ť a b:=by let a:=b.length
def avl:=j0 ((jZ z p g).getD []) YJ
def ì a:=List a
def ade:=axo Z
def aom a b c d e f g h i j k l m n o p q r s t:=by ext ý a b c zd2 d e f g h i zd3;let#[j,k,l,m,n,o,zd4,zd5,zd6,p,q,r,s,t]:=i;subst p zd4 zd5 zd6
def aBd:=ě 5 "way_for" ["pair","production","below"]^Dz f A I
def afo:=List aeC
def alu:=aW (g+1) b.ao
def ajr:=W3.Ns c5 m
def ap0 a b c d e:=oN (j:=(ϳ a b)) c d e (by decide)
def Ϝ:=(#[ć,_,_])
def ahY:=cG q i h t
def alj a b:=by rcases a with _|⟨b,a⟩
def ayH:=mm WM WN s WO WP XS YL WQ WR Zv WS We ZJ WT WU WV WW
def az5:=by calc q3 Hy ?_;rw[s5 Ao _];show aH _ W2.in1 (gq^.ref Yz>>=_) _ _ j
def ayK:=(toString "min"++toString ".loop":String)="min.loop"
def anw a:=a.length=Xh.length
def ajM:=d.In j.heap
def aqA a b c:=λa=>if a.1=b then(a.1,c)else a
def adq a:=aa^.int a
def ai1 a b:=bE.mpr #[a,b,r]
def adu a:=iE r a.bF
def acT a b:=Đ^ē a 1 b
def ain a b:=(bS a b).isSome
def adR:=bj b XV
def ahN a b:=a.prods.take b
def az6 a:=m4 Xa i j.heap a j.heap.objs.size^g4^(bB Xt.size).map aaF
def Ϯ:=gW d w
def anB:=mh Z^mn [] b.ai
def anW:=b.ao.units+1<eV
def ahs a b:=#[bF _,Â a b]
def aw6:=("families",.ref M)
def ad8 a:=a.headD 0
def anA:=cw (Q::Xe) b.ai
def aiC a b:=bR jd a b^bH _
def aui:=fx s ah W3.objs.size .none
def ans a:=aH adf W2 a XP Xk j
def am8:=sg b.ai.scope L
def ak2:=gR d^acO=af
def asI:=ť (gq^afz) Zz Xk j
def aAF:=ě 3 "spread_from" ["grammar","attribute"]^Dq J E f
def akc a:=by ext Υ a;split at a
def ajK:=m7 XW XZ Yk
def aqJ:=W5.data=.dict Xx X8
def aos a:=by left;calc adp a;symm;right
def arw a b:=bm^bg (a g r) b ļ^ü 0 1
def aw' a b c d:=ca "grammar" (À a) [("grammar",b),apG c d]
def ac0 a:=(#[a,by{lia}])
def aAt:=ě 2 "pairs_at" ["production","place","ways"]^Di f
def arD a:=zF^show¬lx<=W1 from a
def ayP a b c:=∀a b,(h a=ah\/a=I\/h a=aa^.own I)->a∉fa Yc->ĥ a b->adg c a=aa b
def aqc:=aBQ (Q::Xe) [] Z
def acY a:=(#[Ľ a,r,Ý])
def alF a b:=a.names.lookup b.1
def aeP a b:=a.take (b+1)
def as3 a b:=by rcases a:hY gP^ir R^aK D with _|b
def avW a b c d e:=apd a (Zk:=[b]) c (dC^ă d) (ahJ c) (e2 e c.ak r r)
def alh a b c d e f h:=a.bm (g:=b.toks) (ajP c d e f h)
def alK a b:=qo (g:=a.toks) b _
def aws a b c d e f:=by ext acF a b c d;rw[dD]at b;rw[vR]at c;let#[_,e]:=ľ f
def aet a b c:=by let#[a,b,c]:=dQ.mp c
def ayu a:=∃(zd7:ac) (zd8:â),W8=À zd7/\t.get? zd7=aa (Μ a zd8)/\nG ZT t zd8 Y3
def akv a b c d e f:=by ext Č a b c;let#[d,rfl,e,f]:=c
def ð a b:=a.keep b
def akN a b c d e:=λa b=>b c=aa d/\aL e b
def ala a:=(#[a.os,a.a6,a.base])
def aj4 a:=((a+1:Nat):Int)
def ayt a b c d:=∃(a:â) (b:bb) (c:Nat),bM O a/\aeT=aa b/\b.cls=Þ d/\b.data=.seq a.toArray c
def agy a b:=acD (ĺ a b)
def avE a:=pa XN (XQ.put a).2 (ai',ß)
def as' a b:=(a.bI^aJ.new b).bI aJ.one
def awj a b:=c4 (yY r) r a.any boot_any^ak b an
def auk:=b.ai.scope.names.lookup Zn
def ant:=j.heap.push mf
def è a:=by calc ÿ a
def auX a b c d:=aC^bQ (bR (zb a.units) b (ae c)^bH _) d b6
def aA3 a:=by let:=(ϕ a).2;rw[db,decide_eq_true_iff,decide_eq_true_iff]at this
def axN a b c d e f g h i j k l:=by intro a zd9 b zd' zea c zeb;calc AR (pl:=Zw) (ĉ d a zd9 b zd' c zeb λzec e #[L,f,g,zed,h,zee,zef,zeg,zeh,zei,i]=>?_) j;ext aeq zeg zec h zed;calc FQ g zeh k l zei ?_
def aty:={j with heap:=h',toks:=t'}
def agi a b:=a.none b.some
def agm a b:=a.target=aa b
def alk a b:=XZ^Yk.cd^a (b+1)
def afS a:=hv b (acu a)
def alf:=b1 W6 b.ai
def avq a b:=∃a,a∈c3 XI (b+1) XR/\a∉Ź b
def ae8:=(#[?_,?_,?_])
def ayB a:=(anN).update x λa=>{a with dict:=aa j.heap.objs.size}
def aAX:=Ϥ aO 2 A "add_pair" ["self","pair","turn"]^xy A
def afL:=Bool->ĩ
def amN:=eE XL (aK D)
def ak8:=t.get? f=ŉ
def ϱ:=e8 b L
def ô a:=û a
def aox a b:=bY d a a (aB b)
def aAz a b c d e f g h i j k l:=by let#[zej,zek,zel]:=cK a b;let#[c,d,Ä zem e,f,zen,#[g,h,zeo],_,_]:=zel;let i:=ä zek;let j:g.length=acH k l:=by{unfold cc;rwa[zek,bC zeo]}
def ase a b c d e f:=a∈cn b c d e (f+1)/\a∉cn b c d e f
def agE:=fF J E f
def atb a b c:=be (λa b=>c a=aa^.tup^Ż b)
def adr a b:=λa=>b^zJ a
def aqr a:={cls:=Þ a,data:=aqM}
def afN:=Nat->Ω
def ah9 a:=ť a XP Xk j
def axy a b:=by cases a with|next=>{calc q7 b}|ret zep=>{calc b}|brk=>{calc b}|cont=>calc b
def aA9 a:=IsItemIterOut a X' Xq (W1+1) Xx.size X8 YI.key YI.val
def alY:=bY d "__init__"
def aww a:={j with toks:=j.toks+Y6.draws a}
def az0 a:=fL this^η^ai (ai (aF (ai (ē a 1 this) a) 1) this) a
def adF a b:=by rcases a with _|b
def ahx a b c:=a.rules[b]?=aa c
def Ϛ a:=.error a
def ao5 a b c d e:=show é a b c by{rw[bi d,e]}
def ϫ a:=ab.int a
def aot a:=aa^.tup^bO a.text
def agQ a:=a<=O.length
def ajy:=am h a o
def apI:=lL J E f A w I
def anY:=fb b.prog b.w
def ayl:=tt (a:=eu) (by first|(rfl)|(simp only[q4];rfl))
def awb a b c:=[.int ((d8 a b c).1:Nat),.int (c.2:Nat)]
def anU:=.tup^YO.map dA
def aoB a b c d e:=#[a,_,Ç,b,b0^jy c,d[e],r,Ý]
def auB:=am h s^.ae f dx^fi w st'
def alX a:=agh 1 ["self",a]
def ź:=ar ?_
def anD a b c:=hL a b c.heap.objs.size
def anE:=f6 ō W9.names
def aon:=W'.map ab.ref
def anh a b c d:=by rintro zeq a ⟨b,c,d⟩;ext acM zeq
def auP a:=#[a,_,r,.inr^bw.ad as,r,r,Ý]
def auo a b c d e:=wg a g0 b.heap.objs.size c d [(dm "steps",e)]
def aoT a b:=(hl a b.name).isSome
def anz a:=iO [a]^nO a Yo Zw
def an7 a b:=a≠b.heap.objs.size
def adl:=.az []
def aue a b c d e:=by let#[zer,zes,zet,zeu,zev,zew,a,Ä zex zey,zez,zeA]:=b.au;calc y0 zez zeA c d e
def atw:={j with heap:=h',toks:=g}
def afv a b c d:=dj E a b c d.syms
def aec a:=ak (ă a)
def ayR a c d e:={j with heap:=a.push^aup (ol XG) ((b.aO "__name__").getD .none) c d,toks:=e}
def atC:=b.ai.scope.names.lookup L
def ae0:=.ref a
def au6 a b:=#[a,ŝ b,by{ext Û},r,by ext Û]
def τ a b:=a.lookup b
def asz a b:=#[.inl,λa=>a.elim id b]
def ay0:=bx b.prog b.w b.as b.aO b.base XU g s Yo Xh XC
def σ a b:=a->b->Prop
def arS a b:=acz (bR l1 a (bG b)^bH _)
def ax0 a b c d e f g h i j:=by calc tj jR (ϋ a) Ie (H9 _ _) b #[a,c,?_];calc#[.ar,_,d.dO (XS:=e++f) g a (by simp) (h.append i) ?_,r,j];rw[cO];omega
def adm:=.aB []
def azq:=č 348 "read_expression" ["cursor"]^CX d f s w
def agb a b c e f:=ew d a b c e (f .ar)
def akl:=#[[],ay,1]
def ayx a b c d:=λa=>by{ext ĸ b;{calc c^by rw[b,a]};{rw[a]at d;calc φ (adI d b)}}
def Ň a b:=a.aw b.aa
def apB:=Ye.map (·.1)
def aep:=λ_=>r
def ajE:=bj b Xj XY
def at1:=b.ai.cells.lookup y=aa c
def aic:=aW g b.ao
def ayn:=Ba (T:="StopIteration") (b:=af) #[_,İ,r] A1
def ajd a b c:=(#[a,r,#[_,Ć b a c]])
def û a:=.str a
def axb a:=ca "number" (.int (Ñ a)) []
def azH a b c d:=by obtain⟨a,b,rfl⟩:∃a b,c=a::b:=by{ext Ā c a b;{calc zH r d};{calc#[a,b,r]}}
def aBw a b c d e f g h i j k l m n o p q r s t u:=by let a:b≠c:=alT d e;let f:g≠c:=h i.ae (ajl j);let k:l b=ah:=by{rw[ao a]at e;calc e};let m:eF l^am (am n b^adl) g^ł o^ca "families" (À b) [ajk p c,aw6]:=aBR q r j s g d i t b k u c
def agT a b:=.Call a b []
def arz:=λ_ _ _=>by{simp}
def at3 a:=tl adf b.ao b.aD Wz Xk (À a)
def agY:=a0 q i
def apu a b c:=#[by{ext apx a},Â b c]
def aiP:=#[_,r,?_]
def azu a b c d:=by let a:0<b.length:=qD.mpr c;let d:ad8 b=b[0]:=by{ext Ā b zeB zeC;{calc zH r c};{rfl}}
def auZ:=d6^hO g (B+1) W1 (XH::Y)
def am4 a b c d:=λa b c=>by{rwa[Ï c d,c]}
def axr a b:=λzeD zeE=>by let#[zeF,zeG,zeH,zeI,zeJ]:=zeE;ext Æ a zeI;calc#[_,zeG,zeH,b,zeJ]
def ajt:=(↑g:Int)
def azp:=eG b.prog b.w b.as b.aO b.base XU g L s Xh XC
def aj2:=(f==fD)=ay
def ajT:=cw Xe b.ai
def aBF:=adT=aa #[Þ "dict",ah,.dict Wb.toArray g,#[]]
def aBk a b c:=(#[r,amu a,b,c.ba,c.bo,c.cg,c.ch,c.a1,by{let:=c.ed;calc ϙ^cd r}])
def ajI:=ab->ab->adc
def at6:={j with heap:=t,toks:=g}
def awi:=cU (c0 W7) (cI T)^agM
def ahf:=Y.drop 1
def aq4:=(dm "default",V2)
def aBs a:=by unfold hm at a;rw[db,decide_eq_true_iff,decide_eq_true_iff]at a
def aya a b c d e f g h i j:=by let a:aqZ b c:=by{let d:b e.locals=ah:=f.free;ext Ι g d};let#[h,i,_]:=f.bd;let i:j.heap.Ns e.locals h:=i;rw[g]at i
def aiJ a b:=aq (Ò a b a7)
def asU a:=bR sr (ae a) gz^bH _
def azY:=cJ ţ ((p.rules.take (g+1)).flatMap^j1 z p)
def aiU a b:=aC^akm (ae a) b
def amA a b c:=(a.map^aM^az b c).take
def õ a b:=aa (a,b)
def aqj a b:={a0:=λ_ a=>b .ar a,b6:=b}
def aBN a:=by refine'⟨tW ?a0 ?a1 ?a2 ?a3,kU (show ak4 from ?a4) a⟩;ext apQ
def aAo a:=[.inl (a.1:Int),.inl (a.2.1:Int),.inl (a.2.2:Int)]
def ah' a b:=a.symm.trans b
def ÿ a:=.inr a
def agl a:=z.syms[a]?
def aeV a:=(#[a.a3 _,Ŧ])
def alZ a:=agh a ["self"]
def aiz a b:=d1 (af7 a b) a
def atM a:=mq ZK a Z.line b.ai=pure ay
def ajh a:=λa:Nat=>Ñ a
def atu:=j.heap.FunFrames b.base
def am9:=b.bx L=af\/aqz
def anS:=List (XJ×aj)
def ah4:=km q i d
def anR a b:=λa=>decide (a.1≠b)
def aev a:=ai a^cd r
def ϥ a b:=a.and^eJ b
def aAL:=j.heap.update X'^o' (aii 1^fQ asJ)
def afF a b:=a+1+b.length
def aoO a:=by rcases bK.mp a with a|a
def ahe a b c d:=á a b c->d .ar c
def au2 a b:=akp a "read_whole"^mT d f s w b
def au3 a:=#[a.occs,a.usesOwn,a.parts,0]
def axp a b:=by induction a with|nil=>{calc .nil}|cons zeK _ zeL=>calc .cons (b _ _ zeK) zeL
def aA1 a:=by calc .inr ?_;calc#[(a _ _).trans^zK^by{omega},?_];rw[lex_true]
def am6 a b:=ek^adI a b.ok.above
def av2 a b c d:=∀zeM zeN zeO,zeM zeN=ĝ zeO->cJ a b zeO->Ϡ c zeM zeN d
def anI:=zF^by{decide}
def anM a:=.ref a.objs.size
def ank:=j.heap.get? f
def amh:=kb YP XI XR
def af2:=.int Xb
def ale:=.Tuple Xe g
def aoL a b c:=∀{a},b a=ah->c a=ah
def aoH a b c d e f:=á a (act b c d)^aBS b c e a f
def ahF a b:=adv a (ago b)
def arT a b:=aC^bt^fm^ak (bG a)^Ø b
def af3:=f3 Xm
def auK a b:=bm^bU a.di (ae 1) b bd^ad7 an
def anf a:=.BoolOp .And a Z
def afb:=List ed
def apD a b:=(gb a b).map (·.1)
def azN a b:=by subst a;rw[nn (ä b),b];simp only[v3,exists_eq_left',v1,hG,true_and]
def aoJ a b c d:=ð a b c.aT^by{exists d}
def ŋ a b:=a.ok.aS b
def aqq a b:=a.get? b.heap.objs.size
def au9 a b c:=hq a (b+acC c b)^c.drop (b+acC c b)
def aug:=h2 j.heap g s w X1 A X7
def amf a b:=(az a b).length
def anP:=qg XW X4 Xg D
def ahL a b:=#[a,ahH b,?_]
def ŷ a b:=bT a b=af
def aua:=aa^.aL W5^.aB Xs
def azX:=cJ ţ ((p.rules.take g).flatMap^j1 z p) D
def aq9:=[(dm "steps",w)]
def apU a b c d e f:=(a.aq b c d).aZ e (λ_ f=>f) (Ķ f)
def apA a b:=#[a,b.mem,b.all,b.ak]
def adi:=ar^ŏ
def ap9:=h a=aa^ř YR Y1
def avO a b:=qp r a.range^ak (Ũ a^Θ b) an
def acv a:=a.map bD
def aeF a b:=(bZ g a b).j
def arr:=h f=aa^.tup^bO D
def ayb a b c d:=∀a b c,O[a]?=aa b->d a c->XW b (gN X D) c^qf X4 Xg D X s^d (a+1)
def aqD:=.Subscript XV Zr
def aq0:={j with heap:=t}
def atN:=kk q i d m t W2 Yc j h
def aqt a:=a.Pairwise (·<=·)
def avw a b c:=∀a,b a=(c[a]?.map (·.1)).getD 0
def avP a b:=afu (W1:=16777156) a b 16777156
def af8 a b c d:=#[a,ahH b,Â c d]
def azP a b c:=by unfold rg;rwa[dc,db,gB,#[λ#[_,a,b]=>#[b,a],λ#[a,b]=>#[(c T a).1,b,a]]]
def ζ:=aa af
def amI a:=(cc H a).length
def aAm:=č 352 "grammar_of" ["text"]^C0 d N J E f
def Ŝ a:=(#[_,_,r,a])
def av' a b:=afu (W1:=16777168) a b 16777168
def awr a b:=m9 [] [(bz (aM a b:Int),Î 0)]
def aqS a:=j.heap.objs.size<=a
def azh a:=č a "read_step" ["cursor","expression","step"]
def ş a b:=.ok (a,b)
def amM a b c:=(Ğ a b).filter c
def at8 a:=.str #[(List.toArray [a])]
def av5 a b:=afu (W1:=16777200) a b 16777200
def ŵ a:=ë a an
def ayY a b c:=by induction a with|one b=>{calc .one^c _ b}|step _ b zeP=>calc .step zeP^c _ b
def Ů a:=.cons a
def aAa a b c d e:=aa^ř a [("name",b),("places",c),("starts",À d),("occurrences",À e)]
def aij a:=a.length<a9
def ajq a:=Wa a.params
def afw a:=by ext Φ a;nofun
def al7 a b c:=cT a.cu (ae b) c bd
def asi a:=XN.getD a (0,.none)
def avV a b:=afu (W1:=16777204) a b 16777204
def aip a:=.inl^.inr a
def aqu:=nQ anN W9.names
def azR a b c:=by apply z6;intro a;rw[b9];by_cases b:ś a c;{rw[qB b,bi b];simp[dN,bi b]}
def atF a b c d:=λzeQ zeR #[zeS,zeT,zeU,zeV,zeW]=>a b zeR c zeT zeS zeQ d zeU zeV zeW
def axC:=(((X5-Xb).toNat:Nat):Int)-((0:Nat):Int)
def atE a b c d:=show a.heap.IsTuple b c.toArray from d
def ayj a b c:=#[_,nB _ a^AF^qT b _,(Iw ..).trans c,by rw[qT b];simp[fQ]]
def azM a b:=(z.prods.filter λa=>a.left.name==b).filterMap^wP Zc
def ϲ a b:=a.length=b
def azv:=č 4 "number_token" ["run"]^mS d f mK rM
def axW:={cls:=Þ "list",data:=.seq XS.toArray B}
def azB:=č 5 "read_names" ["cursor","kind"]^xL s
def aAW:=aeB "Family" A ["self","symbols"]^xI A E
def aiQ a b c:=zF λa=>b^c.mp a
def azs a b c d e f g:=by let a:β b c:=by{let d:¬(Ñ c<aoE b):=adr e d;rw[f]at d;calc kt d};rw[z3 a]at g;rwa[g,aeX]
def ahQ a b c:=by rw[ċ a,b]at c;ext c
def ayG:=agT (.Attribute agN Yo Yl) (Q::Xe) Z
def aAy a b c d e:=azO a b c d e
def aml:=fI z X2 Xv
def aqb a b c d e f:=bv a λb zeX #[c,zeY,d,e,f]=>#[d.a2,?_]
def ah5 a b c:=λa b=>(c a b).1
def axQ:=iN L Xn abh Zh W9 W8 XM YW Y8 X1 YX Zx
def aAH a b c d e f g h i:=∀(a:Nat) b c,d[a]?=õ b c->∃(e:d4) (f:ac),g[h+a]?=aa e/\e.key=À f/\i f=ae7 b/\bP c e.val
def avp:=lM (z.prods.map^bq z)
def amD a:=amJ (dC^ae a)
def ark a b c d e:=λa b c d=>by{rwa[ao^ado e d,c]}
def avd a b c d:=a.aZ b (by exists ci c) (by exists d)
def atL:=nH s j.heap.objs.size
def aju:=Option aj
def auR:=gT g (B+1) W1 Xu ZB Y
def anO:=oI b W9 Q Xg
def aAA:=ě 1 "attributes_of" ["grammar"]^CN J E
def aud:=ad1 (g+1) f M Ya XC
def ahT a:=by obtain rfl:=h9 a
def apM:=ij (ik H Xw)
def atZ a b c d e f g h i:=by intro zeZ a ze0 ze1 ze2 ze3 ze4 ze5 ze6 b ze7 c ze8;let#[d,e,Ř ze9 ze',f,g,h,i]:=ze8;ext ze7
def alC a:=.int a.length
def aow a:=(! decide a)=af
def aok:=j3 q i d m t
def ao1:=cn z Xv g XD
def agn:=List gK
def ag1:=ky _ _
def anl a b c d e f g h:=λa b c d e=>d.at λf g=>agP e h f g
def atP:=((ck g 0 Yf:Nat):Int)
def ajH:=bj b Q Yy
def acF a b c d:=by let#[a,b,c]:=d3.mp d
def ao3 a b:=nE a b.i b.perturb
def asR:=i3 R D W0 Xu Ye
def afQ:=(0:Int)
def ar9:=(cc z g).length
def azt:=č 4 "name_token" ["run"]^mS d f ag6 rL
def ayi:=show¬(Λ<0) from by{calc aqk}
def auV a:=by split at a;{ext a;calc ġ};{ext a}
def ake:=aJ W' h V
def Ϩ a:=a3^ae a
def al0 a:=bl.mk a ?_
def azO a b c d e:=(bq a b)[c]?=aa d.1/\d.2.1<(cc a d.1).length/\ex e (c,d.2.1) (c,d.2.2)
def acV a b c:=by let#[a,b]:=c.au.ae
def ajN:=aa^aa^acO
def anx:=lv Yl.atName
def aqe:=.Call agN [] []
def arm:=("great":al)
def auA a b c d e f g h:=λa b zfa c d=>e f a b zfa c^g.trans (aD.keep d) λ_ h=>h
def aBB a b c d:=by calc#[by{show 0<=a9;calc aX (W1:=16777216)^au a},Â b c];let d:=apo c
def asA:=bS (eI XE)^cI T
def ape a b c:=a.length=(az b c).sum
def aBJ a:=d.lookup A=aa #[Þ "tuple",ab3,.seq a Xu,ab4]
def ayO:=agI "list_iterator" [.ref X3,Î 0 0]
def afl a b:=aq (al1 a b)
def aqX:=f2 ε q i d m t
def anj a b:=by rcases a with _|⟨a,b⟩
def ak1:=ko j.heap
def ang a:=.BoolOp .Or a Z
def adX a b c:=am a b^.lst c
def alV:=(#[_,r,by{lia}])
def arQ a b:=by let a:aoE b=aeG b:=by{rw[aI]}
def aji:=js J E f
def aA2:=be (λ(zfb:Keyed) (zfc:ac)=>zfb=(bD zfc,bD zfc))
def an5:=pc (s:=aln)
def ar' a:=λa=>by{simp at a}
def azo a b c d:=by let a:b.aP (arI c)=(aga b:cb).aP c:=by{unfold cb.aP;simp only[jn]};rwa[a,d]
def aie:=bM YV Xd
def ķ a b c:=(#[?_,Å a b c])
def ah6:=hw b U h
def amn a b c:=by ext akH a b;calc fk^fl c
def afr a:=(bB a).map
def aAE a b c d e f:=#[#[O,O[a],b,by simp[c]],d (a+1),λzfd zfe=>#[O.length-(a+1),jK c,r,c,zfe],Å e zfd f]
def akG:=aa (g+1)
def aif:=dJ Xh Ya
def aig:=aBP 0 Yf
def aBq a b c:=match lB H a with|ah=>gU (-11)|aa b=>hP^n7^n9 (ik H b) c
def aBI a:=d.lookup w=aa #[Þ "tuple",We,.seq a W1,ab2]
def ar5 a b c d:=am (afT a b c^.ae d b []) c
def ax2 a b c d e f g:=by intro zff zfg zfh a zfi zfj zfk b zfl zfm;let#[Ä c zfn,zfo,d]:=zfm;let#[e,zfp,f,_]:=b.list zfo;rw[bM.da zfl];let g:=zfp.dC
def axO:=(hL L W9 j.heap.objs.size f W8).kindOf
def alt:=b1 XV b.ai
def avC a b:=by calc ar^tx a.obj a.a5 b ?_;dsimp only
def axa:=jB^XT.drop (B+1)++Zf
def auC:=ϊ ε 4 f M ["self"]
def avD a b:={W5 with data:=.set a (g+1) b}
def aA5:=ě 2 "steps_to" ["graph","target"] Dr
def ayM a b c d e f:=(a.heap.update Yd^kE λ_=>(ag5 b c d)).get? Yd=aa^aoa (ag5 b e d) f
def ajs a b:=.cons a^acS b
def azr:=ě 3 "end_of_run" ["text","place"] Do
def ayC a b c d:=#[a.obj,ds b.ca a.ci,λc d=>#[ds b.ca (a.bT c d).1,(a.bT c d).2]]
def æ a:=[À a]
def ai5:=aZ this
def awc a b c d:=be (λzfq zfr=>de f a b zfq c zfr) d c.prods
def az':=by rw[e4,decide_eq_true_iff,decide_eq_true_iff];omega
def atz a b c d e:=by rintro zfs a ⟨zft,b,c,zfu,d⟩;let#[e,rfl,d]:=d;ext zfu
def atU a b c:=wu a ay b c=operate [b,c]^lu b c
def aBc a:=fL a^Đ^ai (ai (Ĭ (ai acG^afW) a)^acG)^afW
def aw3 a b c:=aq (Ò 4 a^aew b c^ë 1^ü 2 3)
def akh a b c:=by let a:b=c:=by{exists a}
def ayk:=by show alQ (q5 (Þ "StopIteration") []>>=_);calc ź
def aiT a b:=aq (bQ a b b6)
def avg a b c d:=dM el r a (jI r^eb b^eb (aky c d) hE)
def aAn:=bm^akJ rz (ae 2)^ak (κ 0^ae 3) an
def aj':=λ_=>ay
def arh a b c:=by rw[b9]at a;nofun;ext ό b c a
def at2 a:=∀a,wn Xj b.ai a=pure a
def aBH a:=d.lookup s=aa #[Þ "tuple",X7,.seq a B,aa8]
def aiE a b:=bo a b.ak r r
def ag2:=fb q i
def ah1 a b:=a.base.free b
def Ċ a b:=a.drop b
def atB:=.Subscript Q W6 Z
def avZ a:=zL (λa=>aa^cx.lst a) ?_
def avR a b c d e f g:=λa b c _ #[_,_,_,d]=>aw.ad^d e _ f^by exists g
def aBL:=(#[axk,.ref J,acw,ae0,acO,.ref Xo,.ref Xq,Ϲ])
def Ρ a b:=ai a^aZ b
def air a b:=t.get? a=aa b
def ů a:=(#[_,_,_,a])
def aqy:=vz ZY XW X4 Xg
def aen:=eA->ĩ
def asy:=lN z p Ze g ZX
def aBp a b:=[("grammar",.ar),("assumed",À a),("families",À b)]
def arp a:=by unfold cz at a;split at a
def adj a:=a.toks+1
def ar2 a b c d e f g h:=by let a:=afj b c d;let e:=f.and g;let h:=e7 _^dt c
def asf:=dO Xb=aa (g,B)
def ap':=gi.db (W4:=W4)
def ari:=ϊ XU g f M Xh
def aek:=h f=ah
def arA:=ak dL^ak dL an
def asj:=wc (XN.size+1)
def aAP a b c d e f:=by let a:asH b c:=#[d,e.get,e.au.1];calc#[a,λf Q=>by{ext Q;calc#[d,e.get,e.au.2.1]},?_]
def auM a b:=(#[acZ,a,by{show b.am+1+g=30;lia}])
def aeo:=.str _
def afX:=lk _ _
def aiL a b:=by rw[a]at b;ext Υ b
def az4 a:=(#[a.au,a.a5,a.tab,a.bg,a.bR,a.c8,a.ds,a.ak,a.len])
def aoF a:=zH a^by decide
def ahb a b:=ak a^ak b an
def ao2 a b:=by ext ag9 a;{calc .inl b}
def ajY a:=l' _ _^ci a
def atI:=oH j.heap x YR s ZQ
def asa a:=(Ε a).isSome=af
def aAv a b:=by ext afa a zfv zfw;let#[b,zfx]:=ľ zfw;rw[np]at zfx;subst zfx;rw[dU]at b
def aqd:=aBQ [] [] Z
def apk a b c:=be (λa b=>c a=ĝ b)
def aoS a:=a.prods.map mz
def agO:=Nat->ĩ
def ag4:=#[r,?_]
def aof a:=a.expr _ _ _ _
def agB a:=be (gX a)
def aA6:=ě 3 "nearest" ["row","steps"]^Db I
def awF a:=(bS a^bz adh).isSome=af
def av7 a b:=aC^bm^akJ sq (ae a)^ak b an
def azV a b:=λzfy=>(cY a zfy zfy).map λzfz=>zfy::(eE a b zfy zfz zfy).dropLast
def ars a:=zH (by rw[a];rfl)
def auH a b:=if a.small then aa b else ah
def axn:=show ak4 from ?a6
def az2 a:=by rcases a with⟨rfl,_⟩|⟨rfl,_⟩|⟨rfl,_⟩<;>lia
def aA8:=nC j.heap X' Xq W1 Xx.size X8 W8 XM
def avH a:=eB eD o9 s' (t3 a.units)
def arN:=("mark":al)
def asB a b c d:=bU a.down (ae b) c bd^ahr d
def avJ:=.ad λ_ _ _ _ _=>a7
def ax6 a:=aqx=adK/\(a.kindOf y=ϖ\/a.kindOf y=adK)
def att:=j.heap.objs.size<=f
def au4 a:=(a.takeWhile e6).length
def ar1 a:=aa^.tup^bO a.name
def anc:=q2 YF Xj=ay
def apa:=be (eH h) O
def an6 a b c d e:=a b _ c^by intro d e;ext e
def atX:=([]:List qR).length
def ag3:=List ec
def ay5 a b c:=č 6 "read_number" ["cursor","expression"]^De d a b c
def aps:=acD (aea 1)
def ax' a:={a with heap:=nQ (a.heap.push ail) W9.names}
def apf a b:=by show h a≠ah;rw[b];simp
def arB a:=gl (.str (œ a))
def aoD a:=by calc al0 a;symm;right
def avN a b:=decide (a.2<b.downs.length)
def ay1:=Ϥ aO 1 s "next_kind" ["self"]^rE s
def aqK a:=a.weight<=1048576
def aq3:=.Name Zn WX
def auS:=e5 g B (Xu+2) W1 Y
def ahv:=List dV
def akC a:=ai (aF a 1)
def alR a b:=λa b=>by ext b
def aoI a b:=(ef a b).1.map fq
def avi:=(jq z YJ).isSome=af
def aoe a:=akD a<a.length
def aoP a b c:=a.findIdx? λb=>b==c
def anq:=nI d^acO=af
def ae6 a c:=b.aK a c W9
def adV a:=aa^.az a
def am1 a b:=by subst a;rw[as]at b;ext b
def Ž a b:=am a b^Ő
def avx a b:=bX (Ō a^aZ b)^Ō b^aZ a
def awN:=(iR R^aK D).getD []
def ai3 a:=cM [] a ah
def adx a b:=bi^ĺ a b
def at9:=(#[Î 0 0,.int Xx.size 0])
def aA7:=ě 5 "first_circle" ["graph"]^CY I
def ak7 a:=λ_ _ _ a=>a
def aAM:=∀zfA,AD X' j.heap zfA->Zz ah (ad0 zfA)
def ayz:=pb Ϻ W3 (ts ß "__init__")^aa^ñ
def alp a:=zH a^by simp
def ayy:=hL YZ W9 Yx.heap.objs.size Xl Zx
def Ū a b:=(#[À a,À b])
def ay' a:=(aga a:cb).occs.length+1<=(aga a:cb).parts
def ay8:=show¬("end":al)="small" by ext Û
def azI a b:=sU (["symbols","productions"]:Ĩ) [ø a,ø b]
def amW a:=adE a^adE a an
def asg:=by unfold f5;split<;>lia
def azi a b:=bQ (bR c2 (ae 2) (Ũ a^ak (bG b.at_) an)^bH _)
def apT a b:=aa {a with slots:=b}
def axJ a b c d e f:=by rintro zfB zfC ⟨zfD,a,zfE,zfF,zfG,zfH,zfI,zfJ,b,zfK,zfL,c,d,zfM,e⟩;ext aeq zfK zfB zfG zfF;calc FP zfE zfL c d zfM f
def aBm:=ŭ Xr h s N a Xl Xo Xq x O Xy H W7
def ai8 a:=hh a.place
def azG a b c d e f g h i j k l m n o p q r s t u v w:=Fl (a=[Δ b c d,È e]) f (dq g h c i j (aoi k) l m) (m.length<n) (adW o p+m.length<=3000) (h d=à q) (be (gY r (ń b s) h) q o) (h e=à t) (be (f' u v w (ń b s) h) t p)
def aqR:=fa (XF::Yc)
def aBj a b:=bQ (g7.cf^nc (aiC (ae 1) (bG a.own))^nd^amL b)
def axf:=m "Refusal"=aa^acw
def aw5:=xB d J E f A w I N
def aqH:=j.heap.get? s
def aeX:=#[r,r]
def atR a b c:=at4 a (agI "slice" [b,c,.none])
def ayp a b c d e f:=#[λa b=>b c=aa^.aL d^.aB e/\ś a e,f,λa b=>b c=aa^.aL d^.aB e/\β e a]
def aj3:=Array d4
def azf a b c:=by obtain rfl:g=2:=by{let a:(3:Nat)=g+1:=a;lia};rw[b.mp c];simp[fY]
def aw8:=xP d J E f A w I N
def axz:=mq Q (aa^agN) Z.line b.ai=pure ay
def axw a b c d e f:=by rw[a]at b;injection b with zfN _;let:c=d:=by{exists zL oV zfN};subst this;calc e.inj f
def awE:=rG d J E f A w I N
def aeW:=b.aO L
def au':=dq s V YS X3 V8 Ym
def ajv:=Array aj
def atm:=List (aeg×ac×aj)
def atl a b c d e:=by rcases k8 a with⟨b,c,rfl,d⟩|⟨e,c,rfl,d⟩
def azg a b c:=by obtain rfl:g=3:=by{let a:(4:Nat)=g+1:=a;lia};rw[b.mp c];simp[fY]
def awL:=xD d J E f A w I N
def awB:=rI d J E f A w I N
def azj a b c:=by calc#[A,_,r,.inr^a.all b,r,Ý];let c:auT=5:=by{rw[aI,a.len];rfl}
def apW:=p8 b.ai.scope
def atk:=ls d YW YZ=af
def ajw:=agJ W3 a
def awJ:=xA d J E f A w I N
def aro:=("number":al)
def aqQ:=XF.frame=aa f
def at7:=j.TypeIs ñ "dict"
def azK a b c d:=by let a:(jZ z p b).isSome=af:=by{rw[oz c,bi^by rwa[er,aF (c8 d) 1]];rfl}
def aBv a b c d e f g h i:=by let a:∀{b c},d b=aa c->(∀zfO,c≠.aB zfO)->b≠e:=λ{b c} f g h=>by{rw[h,i.bo]at f;calc g _ (ŝ f)}
def ayQ:=wl g0 b.ai=pure [(dm "steps",V6)]
def aj7:=Nat->Int
def akg:=aJ [f] h
def awR:=xC d J E f A w I N
def amu:=h8 (bF _)
def aw9:=xJ d J E f A w I N
def ayW a:=by split at a;{rename_i zfP;calc#[zfP,(zX a).symm]};{ext a}
def azw a:=λa:Nat=>((.inl (Ñ a),.str^g1 [a]):bh×ab)
def ς a b c:=(cC a b c).1
def ayT a:=HC ?_ (by rw[a];rfl) (by rw[a];rfl) r r
def avb a b:=(am a b^cx.lst []) b=aa^Ő
def awY:=xH d J E f A w I N
def amg:=Xc∈aK D
def awP:=xV d J E f A w I N
def ajb:=ks this
def asm a b c d:=(#[f,a,ú b c,d,_,Ç,aw.ad b.bp])
def alB a b:=#[.ah _,a,b,r,?_]
def avU a b c d e f:=λa b c=>d a b (e a b c)^by{exists ba c f}
def axu a c:=Ĺ alf (λa zfQ=>Ĺ (b1 Xj b.ai) c b.aD zfQ) b.aD
def amj:=eC.mpr ?_
def aqa:=List (al×aj)
def aiN a b:=(.inr a,Î b)
def arE:=ee g B (W1+1)
def asq a b c:=apd (g:=2) a b c (ahJ b)
def acQ a:=by rw[zG a,zG a]
def aq7:=(aq6).push^aq8
def aqg:=al->Option hM
def aqW:=Xd.length<=a9
def atp:=e=x\/h e=aa^.own x
def acI:=bN Xp
def ahw a b c:=λa b c=>aeu c
def awm:=(lP z XD X2 Xv).cX
def asM:=gw z XD X2 Xv
def asL a b c d:=by intro a;ext Ϗ b c a;left;calc#[d,c]
def awz:=rF d J E f A w I N
def awC:=t9 d J E f A w I N
def afB:=eF h V
def as0:=a3 (ae 0) r
def aBn a b c d e f g h i:=by ext afm a b c d;{exfalso;by_cases e:c=f;{rw[e,g.a1]at h;ext h};{rw[i c d a^by exists e]at h;ext h}}
def az9 a b c:=show a.toArray.any^iW a b c=a.any^iW a b c by{simp}
def aqG:=List (bh×aj)
def ayf a:=(#[bF _,beq_eq_false_iff_ne.mpr^ci^ek a,[],.nil])
def awW:=xQ d J E f A w I N
def awZ:=xR d J E f A w I N
def aw0 a b:=fr a b (0,T.2.1) (0,T.2.2)
def aw2:=xW d J E f A w I N
def awU:=xU d J E f A w I N
def asF a:=t2 (d:=d) (f:=a)
def ϋ a:=#[_,a,r]
def asD a b:=(#[_,Ç,bw.ad^(Ņ a) b])
def axR a b:=if a<0 then max (a+Ñ b) 0 else min a (Ñ b)
def ah3:=Xj::Z9
def ay3:=fE XB.C V XB.c XB.l XB.a9 XB.all
def aAJ a:=by unfold HR;calc ar^jW a.get a.a5^ar^ms a.get a.a5 ?_
def arf a:=fK (d:=d) (f:=a)
def ő a b c d:=Ŭ a b c d f M
def aqf a:=a.kind=.function
def aei a:=a _ _ ħ
def aAu a:=.ad λ_ _ _ _ _=>br (xo d r) (ae a) a7
def ap1 a:=a.cm (a5 _)^Ś a
def ap7 a:=beq_iff_eq.mpr a
def aAe:=cH d Yn ["target","expression"]
def auq:=dJ.ad^by{ext Û}
def apo:=a' (o:=Ő)
def aqC a b:=u' a (by rwa[b,lw])
def ane:=iz b W6 X4
def arJ a b:=a.parts+(1+b.parts)
def ai9:=gL Xa i
def ax5:={cls:=Þ "cell",data:=.cell ah}
def apy a:=mr (name:=dm a)
def aqm a b:=ar (m:=v8 _)^hk a b
def ani:=nJ Xe b.ai
def awe a b c d:=λ_ _ _ _ _=>sA^fc^Ü a b^ü c d
def avS:=de f Xr h W4 H Xw
def awf a:=.ad λ_ _ _ _ _=>ae a
def aoA:=g<D.length
def aoV:=z.syms[g]?
def an1:=zF^by simp
def awV:=aX (W1:=16777212)
def auz:=aef^ř A^io w B
def avQ a:=a8 (λa=>by ext a) ady
def an2 a:=j.heap.get? a
def anX:=bj b Zr ZS
def avy a:=XN.getD a.2 (0,.none)
def ahX:=bM O Xd
def ais:=.str X6
def anv:=aX (W1:=5)
def ad6 a b:=a.and^fV b
def aBE:=wi d acw^Þ "BaseException"=ζ
def am3:=e' Ws Wt h
def azc a b c d e f g h i j k l m n o p q s t:=by let a:cF b c (d+1) e f:=afh g h i;ext aiH j k a;calc#[acX b j k,f,r,a.au,Í l,ò l m n o p q];{let:f.am+1<=30:=l;lia};{calc s.none t m n o p^(fV i).and^eJ q}
def ayS a:=bj b (.Call (.Name "min" XG) [Q] a Z)
def av9:=("attribute",4)
def auw a:=λa=> ! YE.contains a.2
def azW a b c d e f g h i j k:=by calc#[Ô a b c d,ò a b e c d f,Í g];{by_cases h:a=W1;{ext acK h i d;calc j};{calc k.occs a b (θ c h) d}}
def apH:=a3^Ϩ 0
def anK a b:=λa b=>by{ext b}
def axK:=fw b (.Assign [alq Xn Ww] ZK Z)
def agM:=.ah af
def anL a b:=am a b.objs.size
def ahK a:=h6 (O:=a)
def anT:=hz h Xs Zy
def aqB a b:=show Y8=bD a from b
def auU:=(fY B).map ab.str
def al4 a:=(akj a:cb).aP
def anF a:=zH a^by{simp}
def avr:=(cc z T.1).length
def aoc a:=am h a^.own I
def as8:=by unfold bN;dsimp only
def ayo a:=aT^a _^((jS ..).extBut.push _).push _
def auO a:=(bT 45 a||bT 33 a)=af
def axG a:=Yq () {j with heap:=a,toks:=j.toks+2}
def axq a b c:=a.1=b.1/\c b.2.1=aa^.tup^a.1.map dA/\bP a.2 b.2.2
def ag0 a b c:=eW a b (Ķ c)
def alv a:=by split at a<;>ext a
def azE a b c d e f g h i j k l m n o p q r s t u v w:=p9 (a=[Δ b c d,aa^.ah^bT 35 e,È f,È g]) h (dq i j b k l m n o) (o.length<p) (o.length<=akD q) (adW r o<=3000) (j g=à s) (be (hU t u (ń v w) j) s r) (aJ [b,g] w j)
def an' a:=by ext a;subst_vars;rfl
def atn a b:=∀a b,h a=Ű b->V a=Ű b
def ϕ a:=dc.mp a
def ap5:=fJ b U X Yj
def ajA a b:=a.base.keep b
def awX:=by unfold aP;rw[dg,dg,cA];rfl
def ar8 a b:=(a.filter b).length
def axA a b c:=(∀zfR zfS,ah0 a zfR zfS->zfS≠b)/\∀zfT∈a.bH++c,zfT.1≠b
def ave a:=by rw[cO];let:[a].length=1:=r;lia
def av0 a b:=bS ((cI a.1,apj a)::eI b)
def ast a b c d e:=amw a b c #[akP,a' d] e ?_ ?_
def aoN a b:=a.keep (acB b) ϧ
def aht a:=be (iT a)
def apn a b:=(Ĥ a b).length
def awq:=bS (eZ Ye)^bz Λ
def avk:=decide (B<d7 z g)
def aoQ a b:=(bB a).flatMap b
def agu a b c d e f g:=by intro a b c d e;ext Ϗ f g e
def aA4:=ě 3 "has_circle" ["graph"] CQ
def axH:=ť (setAttr Ϲ X6 W8) Yq Xk j
def ayE:=fx C ah j.heap.objs.size .none
def as6:=ac2 0 ss r
def ah8:=by rw[b2];decide
def aqV:=#[ß::Xd,[]]
def avG a:=(#[_,r,by{rwa[ao^ci a,as]}])
def ϐ a b c d:=by intro a b c d;nofun
def aAT a:=∀Xf h,a Xs.length Xf h->Yk.a0 Xf h
def az3 a b c d e:=#[a,by{simp},λzfU zfV b c d=>e^by rw[ċ c]at d;calc d▸zfV]
def asn a b c:=aq (Ò a b^agq 0^ae c)
def amt a b:=(#[Ç,ę a,b0 b,?_])
def ax8:=aly "list" ([]:â).toArray
def ap3:=Int->Int->ab
def aiX a b:=acD (aF a b)
def Ÿ a b c d:=a b _^c b _ d
def apF a:=(#[a.cg,a.aM,a.ch])
def axD a:=iy b Zq (agT (.Name "range" Z) a XG)
def ahp:=(#[rfl,rfl])
def afe a b c d:=a b _ c^d b _ c
def azQ a:=λa=>R.contains (Xc,a)&&cY R a W0==akG
def axE a b c:=∀a b X h,O[a]?=aa b->c a X h->XW b X h^alk c a
def ak' a b:=a.base.there b
def asJ:=(W1:Int)+1
def ĕ a b:=a (À b)
def arn:=("small":al)
def aAw a b c:=by let a:∀{zfW:Nat},aes (ù b=ù zfW)->b=zfW:=λc=>by{ext aiu c}
def aeO a:=.aB^c0 a
def agA:=kL d A
def ayU:=ě 1 "is_blank" ["byte"]^j9 jp
def axv:=by first|(calc SU _ (by decide)^by decide)|rfl
def amB a b:=ī (ö^ai a b)
def ai':=ago Xi
def azS a b c d:=if ι a b then[c.1,c.2,(ahD d b).1,(ahD d b).2]else[]
def azZ:=show(aa Yv).toList=[Yv] from r
def ay4 a:=λzfX zfY zfZ zf0=>a.aT zfX zfY zfZ^by{ext arq zf0}
def aeZ a:=aa^aa^acu a
def ary:=ud d f s w g
def asd:=ox R D W0 Xc
def ayI:=bI b.prog b.w b.as b.aO b.base
def ayX a b c d:=by let#[#[a,b,c],_]:=lR.mp d;obtain rfl:a=W0:=by{exists b};calc .one c
def axS:=j.heap.IsSliceOf s W8 XM .none
def akk a:=a.small=af
def ara a b:=((Ϟ a b:Nat):Int)
def aq1 a b:=λa=>b^by rwa[a,cj]
def ao' a:=(bB (a+1)).map
def ayq a b c d:=ah4 Zq a [b] b^λc d=>d.IsKeyIter b Xq c Xy.length X8
def ajz a b:=by rw[a]at b;simp at b
def azA a b c d e f g h i j k l m n o p q:=by ext Č a b c;let#[d,e,f,g,h,i,j,k,l,m,n,o,p]:=c;obtain rfl:q=d:=ab.ref.inj f;left;calc#[q,e,a,r,r,g,h,i,j,r,k,l,m,n,o,p]
def awp a:=(bz (a.1:Int),apj a)
def auc:=.Pass #[0,0,0,0]
def azx:=hq g (B+akz)^(W1::D).drop^akz
def aqY:=aef^.ext YD
def atr a:=#[#[],by rw[a];simp]
def aul a b c:=λa=>by{rw[a,b.1]at c;ext c}
def akB:=cQ _ _
def ame a:=hX a.length
def atW:=d9 b (fC .NotIn)
def anH a:=(a:Int).toNat
def auF a:=by simp only[bK,nq,or_false]at a
def ajR a:=ae1 a XP Xk
def axI a b c:=ar^aT^ar^ar^wpAny_loadPart a^ar^an5 (AP b c) ?_
def aqs a:=λ_ _ a=>cr _ a
def apz a:=#[_,a,trivial]
def alW a:=ī (aF a 1)
def am5 a b c d:=λa b c=>(d.bk a b c).1
def ajL a b:=by subst a;calc .inl b
def au7 a:=bX (au^cf a)^aZ^cf a
def ak5 a:=decide a=ay
def adG:=aa W4
def afJ:=aef o
def acU a b:=by rintro⟨a,b⟩
def ats a b:=ahZ a b=adJ\/ahZ a b=ϖ
def aio a b:=by rw[a,as]at b;ext b
def avs a b:=by split;{calc zH r a};{calc zH r b}
def aBo a b c d e:=(a.zipIdx b).find? λzf1=>fR^Jw c d (Jv c e d) (Jx c e d) zf1.1
def aAS a b:=∀a Xf h,a<=Xs.length->b a Xf h->h f=aua
def avz:=by simp only[zx,fy,if_false]
def ar3 a b c d e:=by let a:ŷ b c↔aiG c d:=ip e.aF;left
def arO a b c:=zG^show aiR a b from c
def aou a b c d e f:=by let a:=b.mpr c;let d:aiG e f:=ahj c
def awA a:=a.imp λ_ _=>trivial
def avu:=by unfold cM;split;{calc fM}
def azT:=(ϩ)[W0.1]?=aa (d8 z p W0).1
def axM a b c d e:=by let zf2:aqZ a b:=Ś c;calc#[ϻ b,d,alz c b (λzf3 zf4 Q=>cr _ Q) (a5 _) ?_,r,e _ zf2]
def awQ a b c d e f:=(fr (ahS a b c d) (Ĥ a d) e f).getD []
def avj a:=(dp z a.name).getD 0
def av3 a b c:=λa b c _ #[Ϝ,_,zf5]=>ę zf5
def akt a:=#[a,?_,?_]
def azF a:=a.syms.length+a.prods.length<=3000
def axP:=aqi L W9 f W8 W2 Yc j h XA
def aza a b c:=a.aP #[[b],ay,1]={a with occs:=a.occs++[c],parts:=Β a}
def asu a b:=sw (ae a) b sB^aep
def atf:=by dsimp only;ext ak0
def alc:=ax->Prop
def au5 a b:=(#[a.length-(b+1),by{lia},b+1])
def amG:=cm ţ g
def aAb a b c d e f g h i:=let a:ez:=(amC b c d e (be (fT c) d^(afr b) λf=>(g,f)) h);y7 a #[akP,a' i] ?_ ?_
def ax1 a b c d e f g h i j:=by rename_i a zf6;ext b;let#[c,d,#[#[zf7,e,zf8,f],g,h,zf9,zf',zga],zgb]:=i.list j;simp only at zf9 zga;subst zf9 zga
def avM a b c d e f g:=by ext afm a b c d;{rw[e c d a^by exists f]at g;ext g}
def aq' a:=mj a=aa^acu a
def alI:=W6::Xe
def aq2:=b.ai::b.bu
def ayA:=(W3.push (aqr "tuple")).push
def azb a b:=if bT 41 a then aa (cZ b,Ċ a 1)else ah
def ami:=T∈cP z
def al6 a:=XH.isSign a
def axt:=(L==("__classdict__":al))=ay
def az7:=j.heap.get? j.heap.objs.size
def alM:=kh W3 W'
def amo:=bB (g+1)
def aeE a b:=fA a%(b+1)
def ax7 a b:=zH (show a∈([]:Ĉ)++[] from b)^by simp
def aAI a b:=ar^aT^ar^ar^jX a b (x:=.ref Xq) r^aT^ź
def aqN a b c:=by rw[a]at b;calc zH c^by decide
def aej a b:=aa^.aL a b
def aBK a b c:=gd (O:=[ô a]) b (by show 1<=a9;decide) (acS c)
def ard:=(hG _ _).mp
def aoa:=jQ "list"
def anr:=g5 b.as s
def adP:=aa ah
def anm:=iy b Zq Q
def ajQ:=λ_=>ah
def aj0:=.inr^ħ
def avm:=Yv.target=aa Zd
def ap4:=vC ZO Xg XY
def ajZ:=List lp
def aka:=.int X5
def ay6:=show¬arN="small" by ext Û
def aoX:=W0∈aK D
def aqn a b c d e f:=λa b=>ql c d e f a^by exists b
def axY:=pure^Þ "method_descriptor"
def aoR:=Yu∈aK D
def aqk:=nk.mpr^gA _
def apL a b c d e:=aq (Ò a b^aew c d^Ø e)
def ad7:=ak a7
def arM:=(bk Y).kind
def arL:=XH.small=af
def az8:=by rw[e4,kv,decide_eq_true_iff];constructor
def acR a:=cv.mp a
def anV:=aa^.aB Xs
def au8 a:=mw.contains a[0]=af
def at0:=Xi.map ab.int
def avn:=(tI p).contains
def akF:=Nat×cV
def akS:=c1 D XL
def anu:=kz (a5 _)
def ahA:=ep z p
def ahy a b:=dp a b.name
def ays a b c d e f g h:=an9 a b c->XC d e f g->let zgc:aV:=(amX c a h b e g).cv;bl zgc af3 f (jf Xh d) e
def avo a b:=(ϩ)[a]'(by rwa[er,b])
def auW a b:=ab.str (œ a)=ab.str b
def alb a b c d e f g h i:=av a b c d e->f c d g->afM a h i e
def atH:=d9 b (fC YF) ZO
def aBl:=λ_=>by rw[ne,zG r];rfl
def ayg:=j.heap.IsKeyIter f s g B W1
def ajG:=g6 b Zh
def ad1:=ϊ aO
def ana:=iz b Q X4
def aks a b c:=ee a b (c.am+1)
def anC:=Κ .nil
def aAs a b c d e f:=by let a:=p1 (az b c) d;let e:=uH (az b c)^show d+1<=amf b c from f;rw[p0]at e
def atq a:=∃a,h'.get? e=aa a
def awk a b:=(bS (eI a)^cI b).isSome
def ato:=W3.objs.size<=a
def aj1 a b c:=a.any (anQ b c)
def aeK a:=(#[_,r,Í a])
def agU a:=fB (acu a)
def auL a b c:=by let a:¬30<=b.am:=jh^Ρ (aF ġ 1) c
def ao7 a:=10*kF a.mask
def Ğ a b:=a.take b
def asb a:=(it.mp a).1.pos
def avB a:=uO a.tab^jO a.bR.le
def amq a b c d:=agz a b [Ê c,ù d]
def aoW:=(ϩ)[g]?
def avh a b c:=(bB^Ϟ a b).map λc=>(b,c)
def aym a:=by rwa[show W2.in1.handled=ah from a,ar^aT^wB ?_]
def amx a b c:=bz (Ġ a b c:Int)
def ao9:=m4 Xa i t
def am2 a:=by rcases a with rfl|a
def aiV a:=aeA (ae a)
def ajF:=bw b.as
def avX:=ZD.getD g (0,0)
def awS:=ak (a3^ă 0) an
def aBu:=mD H W7 Xb X5 aad aaI aaJ D
def aBt:=(fr R (aK D) Xc W0).getD []
def aBg a b c d e:=by rw[a]at b;calc ϟ;calc aeb c;calcλzgd zge d zgf zgg=>b zgd zge d zgf^Ë e zgg
def awy a:=λa=>Xr a/\h a≠ah
def amO a b c d:=(fj a b c d).length
def aA0 a:=PyProof.Rows.lexLt itemOrd (oj a)
def aj9:=gu h I
def ay7:=show¬arm="small" by ext Û
def aAj a b c d e f:=λa b=>by{nofun;ext agk c d b;left;calc e c _ (ĺ d f)^bi d}
def avt a:=exists_congr (Í a)
def at5 a b:=∀a,b O.length a->Zl a
init_quot
#guard_msgs in set_option linter.all false
variable{g:Nat}{B:Nat}{W1:Nat}
def ai(a:g<=B)(b:B<=W1):g<=W1:=ds a b
def aF(b:g<=B)(a:Nat):g+a<=B+a:=Nat.add_le_add_right b a
def cX(b:g<=B)(a:Nat):g<=B+a:=ds b^cQ B a
def bV(a:g+W1<=B+W1):g<=B:=Nat.le_of_add_le_add_right a
def aX(a:g+W1<=B):g<=B:=Nat.le_of_add_right_le a
def aZ(a:g=B):g<=B:=o1 a
def au(a:g=B):B<=g:=o1 a.symm
def c8(a:¬g<B):B<=g:=sV a
def zu(a:¬g<=B):B<g:=Hl a
def bX(a:g<=B)(b:B<=g):g=B:=Nat.le_antisymm a b
def fL(a:g+1<=B)(b:B<=g):False:=s2.mpr b a
def k'(a:B<=g):¬g<B:=s2.mpr a
def jh(a:B+1<=g):¬g<=B:=Nat.not_le.mpr a
def eT(a:g<=B)(b:¬g=B):g<B:=Hk a b
def h8(a:g<=B)(b:¬B=g):g<B:=Hk a^λa=>b a.symm
def jK(a:g<B):B-(g+1)<B-g:=by omega
def ng(a:1<=g):g=g-1+1:=by omega
def cf(a:ajt=↑B):g=B:=Int.ofNat.inj a
def hd(a:g+1<=B):ajt<↑B:=z0.mpr a
def zt(a:g<=B):ajt<=↑B:=zZ.mpr a
def gO(a:ajt<↑B):g+1<=B:=z0.mp a
def cd(a:Nat.ble g B=af):g<=B:=Nat.le_of_ble_eq_true a
def kt(a:¬ajt<↑B):B<=g:=sV λb=>a^z0.mpr b
def oU(a:¬ajt<=↑B):B+1<=g:=Hl λb=>a^zZ.mpr b
def ks(a:ajt<=↑B):g<=B:=zZ.mp a
@[reducible]abbrev bh:=Sum Int al
abbrev jF:bh->aj->Bool|Ð b,a=>AI b a|ÿ b,a=>IK b a
abbrev y3(a:aN):bh->Int|Ð b=>hashInt b|ÿ b=>hashStr a b
def k8:∀{e:bh}{a:aj},jF e a=af->(∃c b,e=bz c/\a=hj c b)\/(∃d b,e=pn d/\a=te d b)|Ð c,a,e=>by{let#[b,f]:=Value.isInt_shape (k:=c) (v:=a) e;calc .inl #[c,b,r,f]}|ÿ d,a,e=>by let#[b,f]:=Value.isStrOf_shape (x:=d) (v:=a) e;calc è #[d,b,r,f]
def y4(a:Int)(b:hi):jF (Ð a)^Ì a b=af:=by simp[jF,AI]
def y5(a:al)(b:hi):jF (ÿ a)^û a b=af:=by simp[jF,IK]
def Sz(a b:Int):decide ((bz a:bh)=bz b)=(a==b):=by by_cases c:a=b;{subst c;simp};{let d:¬(bz a:bh)=bz b:=λa=>c^Sum.inl.inj a;rwa[zK d,(apR c).symm]}
def SC(a b:al):decide ((pn a:bh)=pn b)=decide (a=b):=by by_cases c:a=b;{subst c;simp};{let d:¬(pn a:bh)=pn b:=λa=>c^Sum.inr.inj a;rw[zK d,zK c]}
def SA(a:Int)(b:al):ak5 ((bz a:bh)=pn b):=zK^λa=>nomatch a
def SB(a:al)(b:Int):ak5 ((pn a:bh)=bz b):=zK^λa=>nomatch a
abbrev fb(b:aQ)(a:aN):PySem.KeyKind b a bh where is:=jF;hash:=y3 a;inj:=λj a a b a=>by{ext ak6 b e d f;{ext atl a h b c g;{injection c with k _;rw[k]};{calc nomatch c}};{ext atl a h b c g;{calc nomatch c};{injection c with k _;rw[k]}}};byValue:=λl j a=>by{rcases k8 a with⟨e,d,rfl,rfl⟩|⟨f,d,rfl,rfl⟩<;>rfl};pyHash:=λi a=>by{ext ak6 i e d f;{calc wpAny_pyHash_int a};{calc wpAny_pyHash_str a}};eqBool:=λm i a=>by{ext ak6 m e d f;{ext ak6 i h b g;{rw[Sz]at a;calc wpAny_eqBool_int a};{rw[SA]at a;calc Iz e d g b _ _ _ _ a}};{ext ak6 i h b g;{rw[SB]at a;calc IA f d h b _ _ _ _ a};{rw[SC]at a;calc wpAny_eqBool_str a}}};«strs»:=λl f d j a=>by ext atl a e b c g;{calc nomatch c};{injection c with k _;subst k;ext j<;>rfl}
def SL(c:aQ)(d:aN)(a:Int)(b:hi):(fb c d).is (Ð a)^Ì a b=af:=y4 a b
def SM(c:aQ)(d:aN)(a:al)(b:hi):(fb c d).is (ÿ a)^û a b=af:=y5 a b
inductive ab where|ar|ah(a:Bool)|int(b:Int)|str(c:al)|bv(a:Array UInt8)|dk(a:UInt64)|ref(d:ac)|dx(e:String)deriving DecidableEq
abbrev bP:ab->aj->Prop|.ar,a=>a=eu|.ah c,a=>a=nF c|Ì d,a=>∃b,a=hj d b|û d,a=>∃b,a=te d b|.bv c,a=>∃b,a=II c b|.dk c,a=>∃b,a=IJ c b|À b,a=>a=bD b|.dx b,a=>a=mc b
@[reducible]abbrev bM:Á->â->Prop:=be bP
def bM.length{a:Á}{b:â}(c:bM a b):Ē a b:=bC c
def cK{b d:Type}{e:σ b d}{f:ì b}{g:ì d}(i:be e f g):∀{a:Nat}{c:b},é f a c->∃h,é g a h/\e c h:=by induction i with|nil=>{intro a c b;ext b}|cons c d d=>intro a e b;ext adF a a;{ext b;calc#[_,r,c]};{calc d b}
def gy{a b:Type}{c:σ a b}{d:ì a}{e:ì b}{f:ì a}{g:ì b}(h:be c d e)(i:be c f g):be c (d++f) (e++g):=by induction h with|nil=>{calc i}|cons a _ b=>calc Ů a b
def S4{a b c d:Type}{e:σ a b}{f:σ c d}{g:a->c}{h:b->d}(m:∀i j,e i j->f (g i)^h j){k:ì a}{l:ì b}(n:be e k l):be f (k.map g)^l.map h:=by ext axp n m
def oP{a b c:Type}{d:σ a b}{e:σ a c}{f:b->c}(k:∀g h,d g h->e g^f h){i:ì a}{j:ì b}(l:be d i j):be e i^j.map f:=by ext axp l k
variable{O:List ab}{Xd:List aj}{W4:ab}
def bM.get(b:ahX)(c:O[g]?=adG):∃a,Xd[g]?=aa a/\bP W4 a:=cK b c
def bM.set{b:ab}{c:aj}(f:bP b c){d:Á}{e:â}(a:Nat)(g:bM d e):bM (d.set a b)^e.set a c:=by induction g generalizing a with|nil=>{calc .nil}|cons b c d=>ext adH a;{calc Ů f c};{calc Ů b^d a}
variable{Yi:List ab}{XS:List aj}
def bM.append(a:ahX)(b:bM Yi XS):bM (O++Yi) (Xd++XS):=gy a b
def bM.take{b:Á}{c:â}(a:Nat)(d:bM b c):bM (Ğ b a)^Ğ c a:=by induction d generalizing a with|nil=>{ext a<;>calc .nil}|cons b c c=>ext adH a;{calc .nil};{calc Ů b^c a}
def bM.drop{b:Á}{c:â}(a:Nat)(d:bM b c):bM (b.drop a)^c.drop a:=by induction d generalizing a with|nil=>{ext a<;>calc .nil}|cons b c d=>ext adH a;{calc Ů b c};{calc d a}
abbrev gi:ϰ->aju->Prop|aa a,aa b=>bP a b|ah,ah=>True|_,_=>False
abbrev d2{a:Type}:List (a×ab)->List (a×aj)->Prop:=be λ(c:a×ab) (k:a×aj)=>c.1=k.1/\bP c.2 k.2
abbrev dA:bh->ab|Ð a=>Ì a|ÿ a=>û a
inductive cx where|lst(a:Á)|tup(a:Á)|az(b:Ĕ)|aB(b:afI)|set(e:Int->Bool)(f:Nat)|ae(g dx:ac)(c:aee)|own(d:ac)|bN(c:aee)|dP(h d:ac)|dV(i j:Int)|aL(k:bb)(l:cx)|b0(m:ajv)|ext(n:aG->Prop)
@[reducible]abbrev ag:=ac->Option cx
abbrev am(b:ag)(c:ac)(d:cx):ag:=λa=>if a=c then aa d else b a
variable{h:ag}{f:ac}{o:cx}
def as:afJ f=aa o:=by unfold am;rw[zG r]
variable{s:ac}
def ao(a:s≠f):afJ s=h s:=by unfold am;rw[zF a]
variable{Wc:cx}
def gn:am afJ f Wc=aef Wc:=by funext c;unfold am;split<;>rfl
def dk(b:h f=aa o)(a:h s=aa Wc)(c:o≠Wc):f≠s:=by intro d;subst d;rw[b]at a;calc c^bW a
def ba(b:h f=aa o)(a:h s=ah):f≠s:=by intro c;ext acK c b a
variable(aai:aQ)
variable(aaj:aN)
abbrev eh(h:ag)(b:aG)(a:ac):cx->Prop|.lst d=>adb d/\∃(c:â) (f:Nat),bM d c/\b.get? a=aa (apS c f)|.tup d=>adb d/\∃c:â,bM d c/\IsTup b a c.toArray|.az c=>adb c/\(a==fD)=ay/\∃e,d2 c e/\b.DictOf (fb aai aaj) a e|.aB c=>adb c/\(a==fD)=ay/\∃d:atm,be (λ(k:aeg×ab) (e:aeg×ac×aj)=>axq k e h) c d/\∃c g i,ď b a c/\c.ExactDict/\c.data=.dict g i/\g.toList=d.map^AY^q6^fb aai aaj/\aeh d|.set d f=>b.SetOf (tn aai aaj) a d f|.ae f d g=>h d=aa^.own a/\g.length<=1000/\d≠a/\b.get? a=aa^nH f d/\∃f,b.Ns1 d f/\(∀d,gi (τ g d)^f d)/\AW f^ė g|.own _=>∃c,ď b a c|.bN g=>∃f,b.Ns1 a f/\∀d,gi (τ g d)^f d|.dV lo g=>∃i f j,b.get? a=aa (agI "range" [.int lo i,Ì g f,Î 1 j])|.aL c f=>ď b a c/\eh h b a f|.b0 f=>∃g:ajv,b.get? a=aa {cls:=.none,data:=.fields g}/\TriplesOk g.toList/\∀(i:b7)(j:aj),f[0]?=aa^.int i.line 0->f[1]?=aa^.int i.col 0->nN i g.toList=aa j->∃g e,j=À g/\h g=aa^.own a/\b.CodeRec (À g) e/\f[2]?=aa^û e 0|.dP d e=>b.get? a=aa^AS (À d)^À e|.ext d=>d b/\(∃c,ď b a c)/\∀b e:aG,d b->(∀c,ď b a c->ď e a c)->d e
abbrev cG(a:ag)(d:aG):Prop:=∀b c,a b=aa c->eh aai aaj a d b c
variable{q:aQ}{i:aN}{V:ag}{W3 h':aG}{a:ac}
def eh.lt(c:ajw o):a<W3.objs.size:=by cases o with|lst d=>{let#[ć,b]:=c;calc co b}|tup d=>{let#[_,_,_,d]:=c;calc d.lt}|az d=>{let#[ć,o,_,_,b,_]:=c;calc co b}|aB d=>{let#[ć,o,_,_,b,_]:=c;calc co b}|set d d=>{let#[o,ů b,_]:=c;calc co b}|ae d d d=>{let#[ů b,_]:=c;calc co b}|own e=>{let#[_,b]:=c;calc co b}|bN d=>{let#[_,#[ů b,_],_]:=c;calc co b}|dV d d=>{let#[_,_,_,b]:=c;calc co b}|aL d d=>{let#[b,_]:=c;calc co b}|b0 d=>{let#[_,b,_]:=c;calc co b}|dP d e=>{calc co^show W3.get? a=aa _ from c}|ext d=>let#[_,#[_,b],_]:=c;calc co b
def bL.ay{b c:Type}{d e:σ b c}{f:ì b}{g:ì c}(W3:be d f g)(i:∀a h,d a h->e a h):be e f g:=by induction W3 with|nil=>{calc .nil}|cons b _ c=>calc .cons (i _ _ b) c
def eh.aZ(e:ajw o)(c:∀b p,(b=a\/h b=aa^.own a)->ajx b p)(x:∀b,h b=aa^.own a->V b=aa^.own a)(u:atn b n):eh q i V h' a o:=by induction o with|lst n=>{let#[f,k,s,g,b]:=e;calc#[f,k,s,g,aei c b]}|tup n=>{let#[f,k,g,j,b,d]:=e;calc#[f,k,g,j,aei c b,d]}|az v=>{let#[f,m,t,g,j,k,l,b,d]:=e;calc#[f,m,t,g,j,k,l,aei c b,d]}|aB v=>{let#[f,m,n,g,j,k,l,b,d]:=e;calc#[f,m,n,ï g λy n f=>#[f.1,u _ _ f.2.1,f.2.2],j,k,l,aei c b,d]}|set u s=>{let#[j,k,l,s,b,d]:=e;calc#[j,k,l,s,aei c b,d]}|ae u u A=>{let#[z,f,B,b,u,#[v,k,l,w,d],g]:=e;calc#[x _ z,f,B,aei c b,u,#[v,k,l,c _ _ (ÿ z) w,d],g]}|own m=>{let#[j,b]:=e;calc#[j,aei c b]}|bN A=>{let#[u,#[v,k,l,b,d],g]:=e;calc#[u,#[v,k,l,aei c b,d],g]}|dV f f=>{let#[s,p,f,b]:=e;calc#[s,p,f,aei c b]}|aL j p f=>{let#[b,n]:=e;calc#[aei c b,f n]}|b0 f=>{let#[g,b,s,f]:=e;calc#[g,c a _ ħ b,s,ê j k l p s];let#[d,n,u,g,v,z]:=f j k l p s;let#[j,o,t,j,k,w,l]:=v;ext k;calc#[d,n,u,x _ g,#[d,o,t,j,r,c _ _ (ÿ g) w,l],z]}|dP f m=>{let b:W3.get? a=aa^AS (À f)^À m:=e;show h'.get? a=aa^AS (À f)^À m;calc c a _ ħ b}|ext d=>let#[y,#[o,b],d]:=e;calc#[d _ _ y λo n=>aei c n,#[o,aei c b],d]
def cG.lt(b:υ)(c:h a=aa o):a<W3.objs.size:=(b a o c).lt
def cG.fresh(b:υ)(c:ato):h a=ah:=by rcases d:h a with _|e;{rfl};{calc φ (eN (b.lt d) c)}
def cG.kept(b:υ)(e:∀c d,ajx c d):cG q i h h':=λa o f=>(b a o f).aZ (λc d _ b=>e c d b) (λ_ b=>b) (Ķ b)
def cG.laid(e:υ)(g:∀b c,ajx b c)(j:ato)(l:eh q i ajy h' a o):cG q i ajy h':=λb c d=>by let f:=e.fresh j;by_cases k:b=a;{ext am1 k d;calc l};{rw[ao k]at d;calc(e b c d).aZ (λc d _ b=>g c d b) (λc b=>by rwa[Ï b f,b]) λc c b=>by rwa[Ï b f,b]}
abbrev kl(a:ag)(b:ac)(c:cx):Prop:=a b=aa c\/∃d,a b=aej d c
variable{t:aG}
def kl.ok(a:kl h f o)(b:ahY):agJ t f o:=by rcases a with a|⟨c,a⟩;{calc b f o a};{let#[_,c]:=b f _ a;calc c}
abbrev m6:Option cx->Prop|aa (.lst _)=>True|aa (.az _)=>True|aa (.aB _)=>True|aa (.set _ _)=>True|aa (.ae _ _ _)=>True|aa (.ext _)=>True|_=>False
variable{x e:ac}
def cG.bY(p:υ)(j:m6^h x)(m:atp)(s:∀d f,d≠e->ajx d f)(t:atq f)(u:eh q i (am h x Wc) h' x Wc):cG q i (am h x Wc) h':=λd f g=>by let o:∀a b,h a=aa^.own b->a≠x:=λa b c b=>by{subst b;ext Ι c j};let v:∀a k,h a=Ű k->a≠x:=λa k c b=>by{subst b;ext Ι c j};by_cases l:d=x;{ext am1 l g;calc u};{rw[ao l]at g;by_cases n:d=e;{let j:h d=aa^.own x:=by{ext ň m b;{calc zH (n.trans b) l};{rwa[n,b]}};ext Æ g j;let#[j,u]:=t;calc#[j,by rwa[n,u]]};{calc(p d f g).aZ (λa j f c=>s a j ?_ c) (λa c=>by rwa[ao^o a d c,c]) λa k c=>by{rwa[ao^v a k c,c]};ext am2 f;{calc n};{rintro rfl;ext ň m b;{calc o a d f b};{ext Æ f b;calc l r}}}}
structure e'(h d:Ó)(c e:ag)(f g:aG):Prop where(keep:∀a b,ď f a b->c a=ah->a∉h->a∉d->ď g a b)(slot:∀a b,ď f a b->c a=ah->a∈h->a∉d->∃l,g.get? a=apT b l)(free:∀a b,ď f a b->c a=ah->a∉d->e a=ah)(there:∀a b,ď f a b->a∉d->∃m,ď g a m)(b9:∀a i,c a=Ű i->e a=Ű i)(bS:∀a b j,c a=aej b j->e a=aej b j)(b1:∀a k,c a=aa^.b0 k->∃n,e a=aa^.b0 (k++n))
variable{Ws acn Wt aco:List ac}{ab9 acp:ag}{aa9 acq:aG}{W5:bb}
def e'.any(a:am3 ab9 W3 aa9)(b:aeT=ŉ)(c:aek)(d:f∉Wt):∃e,aa9.get? f=aa {W5 with slots:=e}:=by by_cases k:f∈Ws;{calc a.slot f W5 b c k d};{calc#[W5.slots,a.keep f W5 b c k d]}
def e'.kept(d:∀b a,ajx b a):am3 h W3 h':=#[λb c a _ _ _=>d b c a,λb c a _ _ _=>#[c.slots,d b c a],λ_ _ _ e _=>e,λb c a _=>#[c,d b c a],Ķ a,ak7 a,λ_ b a=>atr a]
def e'.refl:am3 h W3 W3:=e'.kept (Ķ a)
def e'.laid(e:∀c d,ajx c d)(g:ato)(f:h a=ah):am3 ajy W3 h' where keep:=λc d b _ _ _=>e c d b;slot:=λc d b _ _ _=>#[d.slots,e c d b];free:=λc d b i _=>by{rwa[ao^ek^adI b g,i]};there:=λc d b _=>#[d,e c d b];b9:=am4 c e b f;bS:=λc d e b=>by{rwa[Ï b f,b]};b1:=λc c b=>#[#[],by rw[Ï b f,b];simp]
def e'.bY(g:m6^h x)(p:atp)(j:∀a b,a≠e->ajx a b)(q:atq b):am3 (am h x o) W3 h':=by let l:∀a,h a=ah->a≠x:=λa d f=>by{subst f;ext Ι d g};let m:∀a,h a=ah->a≠e:=λa d f=>by{subst f;ext ň p i;{calc l a d i};{ext Æ d i}};let k:∀a b,h a=aa b->¬m6^aa b->a≠x:=λa b c s f=>by{subst f;rw[c]at g;calc s g};calc#[λa b c d _ _=>j a b (m a d) c,λa b c d _ _=>#[b.slots,j a b (m a d) c],λa b c d _=>by{rwa[ao^l a d,d]},λa b c _=>?_,λa t c=>by{rwa[ao^k a _ c λf=>f,c]},λa b t c=>by{rwa[ao^k a _ c λf=>f,c]},λa u c=>#[#[],by rw[ao^k a _ c λf=>f,c];simp]];by_cases n:a=e;{subst n;calc q};{calc#[b,j a b n c]}
abbrev vE(a:aG)(b:ag):Ó:=(bB a.objs.size).filter λa=>(b a).isSome
abbrev ko(a:aG)(b:ag):aG:=W.hideAll a^vE a b
def RF(a:aG)(b:ag):(ko a b).objs.size=a.objs.size:=W.hideAll_size _ _
def RE(a:ak8)(b:aek):(ko t h).get? f=ŉ:=W.hideAll_get _ a λc=>by let a:(h f).isSome=af:=(ϕ c).2;ext ajz b a
def SX(a:(ko t h).get? f=ŉ):ak8/\aek:=by let b:ak8:=W.of_hideAll (vE t h) a;calc#[b,?_];rcases c:h f with _|d;{rfl};{let d:f∈vE t h:=dc.mpr #[eC.mpr^co b,by simp[c]];let b:(ko t h).get? f=ah:=W.hideAll_none (vE t h) d;ext Æ b a}
structure uU(d:ap)(e:Ą)(a:aG):Prop where(ct:d.In a)(bB:a.Ns c5 e)(blt:∃c,a.Ns pf c/\∀b:al,b≠"__name__"->c b=mj b)(nolimit:a.NoLimit)
structure aV where(prog:aQ)(w:aN)(as:ap)(aO:Ą)(base:aG)(ao:cp)(aX:Ĩ)(be:ax)(cj:ag)(ai:cR)(bu:Ψ)(stack:Ψ)(au:Ó)(bx:al->Bool)(bi:Bool)(bH:Ĉ)(aD:ű)
abbrev fa(a:Ψ):Ó:=a.filterMap (·.frame)
@[reducible]abbrev aV.bt(a:aV):Ó:=fa a.bu
abbrev p8(a:dF)(b:al):Prop:=ahZ a b=adJ\/ahZ a b=ϖ\/ahZ a b=adK
abbrev sg(a:dF)(b:al):Prop:=ats a b
abbrev Q2(b:cR)(e:aG)(d:Ą)(a:al)(c:aj):Prop:=(b.kindOf a=adJ/\d a=aa c)\/((b.kindOf a=ϖ\/b.kindOf a=adK)/\∃d,b.cells.lookup a=aa d/\e.IsCell d^aa c)
structure aV.bW(a:aV):Prop where(mod:uU a.as a.aO a.base)(kind:a.ai.scope.kind=.function)(bB:a.ai.globals=c5)(blt:a.ai.builtins=pf)(above:a.be.heap.objs.size<=a.ai.locals)(inj:∀c f d,ah0 a c d->ah0 a f d->c=f)(has:∀c,(a.ai.kindOf c=ϖ\/a.ai.kindOf c=adK)->∃d,ah0 a c d)(cA:∀c d,a.bx c=af->ah0 a c d->a.be.heap.objs.size<=d)(aS:a.bi=af->a.ao.handled=ah)(frames:a.ao.frames=aa a.stack)(dc:a.stack=a.bu\/(a.stack=a.ai::a.bu/\a.ai.frame=aa a.ai.locals))(c6:∀b∈a.au,b≠a.ai.locals/\∀c d,ah0 a c d->d≠b)(bk:∀b e,a.base.get? b=aa e->a.be.heap.get? b=aa e/\a.cj b=ah)(bP:a.base.objs.size<=a.be.heap.objs.size)(cL:∀b e,a.base.get? b=aa e->b∉a.au)(cG:∀b∈a.au,b∉a.bt)(bz:a.be.heap.FunFrames a.base a.bu)(bX:∀b∈a.bt,a.cj b=ah)
structure av(a:aV)(l:Ĉ)(h:List^ϰ)(f:ag)(b:ax):Prop where(ok:a.bW)(os:b.os=a.be.os)(a6:ny b.gens)(base:e' a.bt a.au a.cj f a.be.heap b.heap)(bd:∃i,b.heap.Ns a.ai.locals i/\∀(j:Nat)(c:al)(d:ab),a.aX[j]?=aa c->h[j]?=aa^aa d->p8 a.ai.scope c->∃k,bP d k/\Q2 a.ai b.heap i c k)(cell:∀c g,ah0 a c g->∃d,b.heap.IsCell g d)(free:f a.ai.locals=ah)(br:∀c g,ah0 a c g->f g=ah)(bj:∀e∈a.bH++l,b.heap.get? e.1=aa e.2/\f e.1=ah/\e.1≠a.ai.locals/\e.1∉a.bt/\∀d,e.2.data≠.cell d)(aq:cG a.prog a.w f b.heap)(len:h.length=a.aX.length)
variable{b:aV}{U:List (ac×bb)}{XX:List (Option ab)}{j:ax}
def aV.bW.e9(a:b.bW)(c:b.base.get? f=ŉ):f∉b.bt:=λd=>by let:=(a.bz.mem d).1;ext ϗ c
def av.bk(d:Ŋ):∀a c,b.base.get? a=aa c->ĥ a c/\h a=ah:=λa c e=>#[ajA d a c (d.ok.bk a c e).1 (d.ok.bk a c e).2 (d.ok.e9 e)^d.ok.cL a c e,ah1 d a c (d.ok.bk a c e).1 (d.ok.bk a c e).2^d.ok.cL a c e]
def av.bE(d:Ŋ):∀a c,b.base.get? a=aa c->ĥ a c:=am5 a c e d
def av.mod(a:Ŋ):uU b.as b.aO b.base:=a.ok.mod
def av.a2(a:Ŋ):b.as.In j.heap:=a.ok.mod.ct.keeps a.bE
def av.lt(a:Ŋ):b.ai.locals<j.heap.objs.size:=let#[_,c,_]:=a.bd;c.lt
def av.ca(a:Ŋ):b.be.heap.objs.size<=j.heap.objs.size:=ds a.ok.above^jO a.lt
def av.ej(a:Ŋ)(c:att):f∉b.bt:=λd=>by let#[_,e,e,_]:=a.ok.bz.mem d;calc φ (adI e^ds a.ca c)
def av.df(d:Ŋ):∀c a,ak9 c a->agK a:=λc a g i=>by let#[e,e,e,f]:=d.cell c a g;let#[a,#[a,a,a,a,c,_],_]:=d.bd;ext ā i a e;ext Æ c f
def av.bz(c:Ŋ):atu b.bu:=by let i:∀(a:Ψ),(∀d∈fa a,d∈b.bt)->b.be.heap.FunFrames b.base a->atu a:=by{intro a;induction a with|nil=>{intro _ _;trivial}|cons a a k=>intro g f;let#[l,#[a,m,e,n,o,p],q]:=f;let f:a∈b.bt:=g a^by{unfold fa;rwa[qA,e,cj]};let#[s,s]:=c.base.slot a m o (c.ok.bX a f) f λm=>c.ok.cG a m f;calc#[l,#[a,_,e,n,s,p],k (λd a=>g d^by unfold fa;rwa[qA,e,cu _ a]) q]};calc i b.bu (λ_ a=>a) c.ok.bz
def av.stack(a:Ŋ):atu b.stack:=by rcases a.ok.dc with c|⟨c,d⟩;{rwa[c,a.bz]};{rw[c];let#[c,c,_]:=a.bd;calc .cons (by rw[a.ok.kind];decide) d c ?_ a.bz;calc Heap.get?_none_of_le^ds a.ok.bP a.ok.above}
def av.de(c:Ŋ):∀a∈agL,a∈b.ai.locals::b.bt:=λa a=>by rcases c.ok.dc with c|⟨c,d⟩;{rw[c]at a;calc cu _ a};{rw[c]at a;unfold fa at a;rw[qA,d]at a;calc a}
def av.cV(a:Ŋ):∀c∈agL,h c=ah:=λc d=>by rcases bK.mp^a.de c d with e|d;{rwa[e,a.free]};{let#[_,e,f,_]:=a.ok.bz.mem d;calc ah1 a c e f (a.ok.bX c d) λe=>a.ok.cG c e d}
def av.step{g':Array ta}{d':Drawn}{ch:Ó}(f:Ŋ)(u:∀a∈ch,atv a i e m)(C:∀a c,agK a->a∉b.bt->a∉ch->ĥ a c->h a=ah->h'.get? a=aa c)(E:∀a c,agK a->a∈b.bt->a∉ch->ĥ a c->h a=ah->∃x,h'.get? a=apT c x)(y:∀a c,a∉ch->ĥ a c->h a=ah->V a=ah)(I:∀a c,a∉ch->ĥ a c->∃v,h'.get? a=aa v)(H:atn a p)(J:∀a c z,h a=aej c z->V a=aej c z)(L:∀a A,h a=aa^.b0 A->∃d,V a=aa^.b0 (A++d))(M:∀s,j.heap.Ns b.ai.locals s->h'.Ns b.ai.locals s)(N:ajB V h')(n:ny g'):Ă XX V {j with heap:=h',gens:=g',drawn:=d',toks:=g}:=by let F:∀a c,b.be.heap.get? a=aa c->agK a:=λa c d=>am6 d f;let B:∀a c,b.be.heap.get? a=aa c->a∉b.au->a∉ch:=λa c d k q=>by{rcases(u a q).1 with l|l;{calc k l};{calc φ (adI d l)}};let G:∀i e,ak9 i e->∀o,j.heap.IsCell e o->h'.IsCell e o:=λi e d o #[c,t,D]=>by{let w:e∉ch:=λl=>(u e l).2.2.1 i e d r;by_cases P:e∈b.bt;{let#[x,O]:=E e c (f.df i e d) P w t^f.br i e d;calc#[_,O,D]};{calc#[c,C e c (f.df i e d) P w t^f.br i e d,D]}};calc#[f.ok,f.os,n,#[ò a c d n q k,ò a c d n q k,ê a c d n k,Ô a c d k,λa p d=>H a p^f.base.b9 a p d,λa c p d=>J a c p^f.base.bS a c p d,Å a A d],ķ i e d,ķ i e d,Â m H,N,f.len];{calc C a c (F a c d) q (B a c d k) (ajA f a c d n q k)^ah1 f a c d n k};{let#[x,p]:=f.base.slot a c d n q k;let#[J,x]:=E a _ (F a c d) q (B a c d k) p^ah1 f a c d n k;calc#[J,x]};{let#[v,p]:=ak' f a c d k;calc y a v (B a c d k) p^ah1 f a c d n k};{let#[v,p]:=ak' f a c d k;calc I a v (B a c d k) p};{let#[k,p]:=f.base.b1 a A d;let#[q,x]:=L a _ p;calc#[k++q,by rw[x,Array.append_assoc]]};{let#[s,a,k]:=f.bd;calc#[s,M s a,ò q i o p x v];let#[z,A,a]:=k q i o p x v;calc#[z,A,?_];rcases a with a|⟨k,e,d,l⟩;{calc Ð a};{calc è #[k,e,d,G i e d _ l]}};{let#[o,l]:=f.cell i e d;calc#[o,G i e d o l]};{let#[s,#[c,_,_,t,_],_]:=f.bd;calc y _ c (λl=>(u _ l).2.1 r) t f.free};{let#[o,c,t,D]:=f.cell i e d;calc y e c (λl=>(u e l).2.2.1 i e d r) t^f.br i e d};{let#[d,n,a,c,e]:=f.bj m H;let w:m.1∉ch:=λl=>(u m.1 l).2.2.2 m H r;calc#[C m.1 m.2 a c w d n,y m.1 m.2 w d n,a,c,e]}
def av.bV(i:Ŋ)(a:e' b.bt [] h V j.heap h')(m:ajB V h'):Ă XX V atw:=by let#[c,#[c,d,d,l,d],_]:=id i.bd;let#[d,n]:=a.any l i.free^by{simp};calc atx i (ch:=[]) (λ_ d=>nomatch d) (λd c _ k _ e f=>ð a d c e f k^by simp) (λd c _ k _ e f=>a.slot d c e f k^by simp) (λd c _ e f=>a.free d c e f^by simp) (λd c _ e=>a.there d c e^by simp) a.b9 a.bS a.b1 (axr l n) m i.a6
def av.call{g':Array ta}{t':Nat}{d':Drawn}{ch:Ó}(i:Ŋ)(c:e' agL ch h V j.heap h')(n:ajB V h')(o:ny g')(e:∀a∈ch,atv a f d g):Ă XX V {j with heap:=h',gens:=g',drawn:=d',toks:=t'}:=by let#[d,#[d,f,f,m,f],_]:=id i.bd;let#[f,k]:=c.any m i.free λl=>(e _ l).2.1 r;calc i.step (ch:=ch) e (λa d k p e f g=>ð c a d f g (λl=>(bK.mp^i.de a l).elim k p) e) (λa d _ _ e f g=>c.any f g e) (λa d e f g=>c.free a d f g e) (λa d e f=>c.there a d f e) c.b9 c.bS c.b1 (axr m k) n o
def av.bm(n:Ŋ)(k:∀a d,a≠f->am7 a d)(i:aek)(o:f≠b.ai.locals)(q:f∈b.au\/b.be.heap.objs.size<=f)(s:∀c l,ak9 c l->l≠f)(t:∀e∈b.bH++U,e.1≠f):Ă XX h atw:=by let p:∀a m,h a=aa m->a≠f:=λa m c e=>by{ext ā e i c};calc atx n (ch:=[f]) (Â a u) (λa d _ _ i c _=>k a d (afK e i) c) (λa d _ _ i c _=>#[d.slots,k a d (afK e i) c]) (λ_ _ _ _ v=>v) (λa d i c=>#[d,k a d (afK e i) c]) (Ķ c) (ak7 c) (λa v c=>atr c) (Â v v) (Å a m c) n.a6;{let c:a=f:=by{exists u};subst c;calc#[q,o,s,t]};{let#[d,q,s,t,u]:=v;calc#[d,q,s,k _ d (ci o) t,u]};{calc apU n a m c (λl n i d=>k l n ?_ d) d;ext ň i e;{rwa[e,p a m c]};{calc p l _ e}}
def av.a3(a:Ŋ)(c:Nat):Ă XX h {j with toks:=c}:=a.bV (h':=j.heap) (g:=c) e'.refl a.aq
def av.kept{t':Nat}(a:Ŋ)(c:∀d e,am7 d e):Ă XX h aty:=a.bV (e'.kept c)^a.aq.kept c
def av.laid{a:ac}{o:cx}{t':Nat}(c:Ŋ)(e:∀f g,am7 f g)(d:j.heap.objs.size<=a)(i:ajC ajy h' a o):Ă XX ajy aty:=c.bV (e'.laid e d^c.aq.fresh d)^c.aq.laid e d i
def av.bY{x e:ac}{c:cx}{t':Nat}(f:Ŋ)(g:m6^h x)(i:atp)(k:∀d a,d≠e->am7 d a)(l:atq a)(m:ajC (am h x c) h' x c):Ă XX (am h x c) aty:=f.bV (e'.bY g i k l)^f.aq.bY g i k l m
variable{aaO:List (Option ab)}
def av.fp(a:Ŋ)(e:aaO.length=XX.length)(f:∀(c:Nat) d,aaO[c]?=aa^aa d->XX[c]?=aa^aa d):Ă aaO h j:=#[a.ok,ala a,let#[k,l,n]:=a.bd;#[k,l,λc g d i m o=>n c g d i (f c d m) o],a.cell,a.free,a.br,a.bj,a.aq,e.trans a.len]
variable{aaP:List (ac×bb)}
def av.c'(a:Ŋ)(d:∀c∈aaP,j.heap.get? c.1=aa c.2/\h c.1=ah/\c.1≠b.ai.locals/\c.1∉b.bt/\∀e,c.2.data≠.cell e):av b aaP XX h j:=#[a.ok,ala a,a.bd,a.cell,a.free,a.br,λc e=>(cL.mp e).elim (λe=>a.bj c^hI _ e)^d c,a.aq,a.len]
variable{Xh:List al}{L:al}
def y'(a:Xh.Nodup)(b:Xh[g]?=aa L)(c:Xh[B]?=aa L):g=B:=by let#[d,d]:=ľ b;let#[b,b]:=ľ c;calc(qC a).mp^d.trans b.symm
variable{YK:kD}{W2:cp}{Xk:aj->ax->Prop}{W8:aj}{Yq:Unit->ax->Prop}
def Gw(a:Ŋ)(Q:b.aX.Nodup)(x:ajD)(l:am8)(R:ael)(S:∀d,Ă (XX.set g^adG) h d->(∃c,kC c j.heap d.heap/\(c=b.ai.locals\/b.ai.cells.lookup L=aa c))->Yq () d)(X:am9:=by ext am'):ah2 (A6 b.ai L W8):=by let#[ae,D,T]:=id a.bd;let o:(b.ai.scope.kind==.class||(b.ai.scope.kind==.module&&b.ai.locals !=b.ai.globals))=ay:=by{rw[a.ok.kind];rfl};let V:g<XX.length:=by{rwa[a.len,ä x]};let E:=a.df;let W:∀{c:ac}{h':aG},(∃m,ĥ c m/\h c=ah)->kC c j.heap h'->ajB h h':=λ{c h'} f d e k c=>by{let#[_,_,i]:=f;calc apU a e k c (λf A k n=>(d.2 f ?_).trans n) n;rintro rfl;ext am2 k;{ext Æ i c};{ext Æ i k}};ext ň l t;{calc wpAny_storeName_local t D (λh' i d=>?_) o;let#[q,_,_,z,_]:=id D;calc S _ #[a.ok,apV a (ò e m c o u l) e m c o u l,#[_,i,ò y p F i s G],Å p f c,a.free,a.br,Â w H,W #[q,z,a.free] d,by exists a.len] #[_,d,ħ];{calc(d.2 e^am6 c a).trans^ajA a e m c o u l};{let#[I,i]:=a.base.slot e m c o u l;calc#[I,(d.2 e^am6 c a).trans i]};{let#[J,i]:=ak' a e m c l;calc#[J,(d.2 e^am6 c a).trans i]};{by_cases v:y=g;{ext acK v x i;rw[nn V]at s;ext s;calc#[W8,R,.inl #[t,by simp]]};{rw[nm^ci v]at s;let#[M,N,n]:=T y p F i s G;calc#[M,N,?_];rcases n with⟨z,c⟩|⟨z,f,c,q⟩;{calc .inl #[z,?_];let:p≠L:=λc=>v^y' Q i (c▸x);simp[this,c]};{calc è #[z,f,c,q.sameBut d^E p f c]}}};{let#[A,q]:=a.cell p f c;calc#[A,q.sameBut d^E p f c]};{let#[c,o,B,O,C]:=a.bj w H;calc#[(d.2 w.1 B).trans c,o,B,O,C]}};{let P:b.bx L=af:=by{ext ň X q;{calc q};{ext Æ q t}};let#[f,k]:=a.ok.has L^Ð t;let#[A,q]:=a.cell L f k;calc wpAny_storeName_cell a.ok.kind t k q^λh' X d=>?_;let#[Y,Z,ag]:=id q;calc S {j with heap:=h'} #[a.ok,apV a (ò e m c o u l) e m c o u l,#[ae,D.sameBut d^ci^E L f k,ò y p F i s G],Å p q c,a.free,a.br,Â w H,W #[Y,Z,a.br L f k] d,by exists a.len] #[f,d,ÿ k];{calc(d.2 e^ek^adI c^a.ok.cA L f P k).trans^ajA a e m c o u l};{let#[I,i]:=a.base.slot e m c o u l;calc#[I,(d.2 e^ek^adI c^a.ok.cA L f P k).trans i]};{let#[J,i]:=ak' a e m c l;calc#[J,(d.2 e^ek^adI c^a.ok.cA L f P k).trans i]};{by_cases v:y=g;{ext acK v x i;rw[nn V]at s;ext s;calc#[W8,R,.inr #[Ð t,f,k,X]]};{rw[nm^ci v]at s;let#[M,N,n]:=T y p F i s G;calc#[M,N,?_];rcases n with n|⟨z,q,c,e⟩;{calc Ð n};{calc è #[z,q,c,e.sameBut d ?_];rintro rfl;calc v^y' Q i (a.ok.inj _ _ _ c k▸x)}}};{by_cases ab:q=f;{subst ab;calc#[_,X]};{let#[e,f]:=a.cell p q c;calc#[e,f.sameBut d ab]}};{let#[c,o,B,O,C]:=a.bj w H;calc#[(d.2 w.1 ?_).trans c,o,B,O,C];intro n;rw[n,Z]at c;let a:Y=w.2:=bW c;calc C A^by rwa[<-a,ag]}}
def vx(c:Ŋ)(d:b.aX.Nodup)(e:ajD)(f:am8)(i:ael)(k:∀a,Ă (XX.set g^adG) h a->Yq () a)(l:am9:=by ext am'):ah2 (A6 b.ai L W8):=Gw c d e f i (λa c _=>k a c) l
variable{Yx:ax}{W':List ac}
def av.cZ(d:Ŋ)(e:Yx.os=j.os)(f:e' agL W' h V j.heap Yx.heap)(g:ajB V Yx.heap)(i:ny Yx.gens)(k:∀a∈W',atv a l c m):Ă XX V Yx:=by let#[h',a,c,l,m]:=Yx;let n:m=j.os:=e;subst n;calc d.call (g':=a) (t':=l) (d':=c) f g i k
@[reducible]abbrev aY:=aj->acL->ĩ
@[reducible]abbrev aR:=List^ϰ
@[reducible]abbrev aA:=ab->ĩ
@[reducible]abbrev a4:=aR->adc
@[reducible]abbrev dS:=aR->ag->(afL)->Prop
@[reducible]abbrev ei:=aR->ag->(Á->ĩ)->Prop
structure dI where(a0:Ω)(b6:aA)(bE:Ω:=aeU)(dg:Ω:=aeU)
@[reducible]abbrev cN:=dI->Ω
inductive Q1(c:aV)(d:Ĉ)(e:aR)(f:aA)(g:aj)(h:ax):Prop|mk(a b:_)(_:av c d e b h)(_:bP a g)(_:f a b)
abbrev fJ(a:aV)(b:Ĉ)(c:aR)(d:aA)(e:aj)(f:ax):Prop:=Q1 a b c d e f
abbrev yO(b:aV)(c:Ĉ)(d:aR)(e:afL)(f:Bool)(g:ax):Prop:=∃a,av b c d a g/\e f a
inductive QW(c:aV)(d:Ĉ)(e:aR)(f:Á->ĩ)(g:â)(h:ax):Prop|mk(a b:_)(_:av c d e b h)(_:bM a g)(_:f a b)
abbrev QV(a:aV)(b:Ĉ)(c:aR)(d:Á->ĩ)(e:â)(f:ax):Prop:=QW a b c d e f
abbrev iA(c:aV)(d:Ĉ)(e:dI)(a:Flow)(f:ax):Prop:=match a with|.next=>∃b a,av c d b a f/\e.a0 b a|.brk=>∃b a,av c d b a f/\e.bE b a|.cont=>∃b a,av c d b a f/\e.dg b a|.ret h=>∃g b a,av c d b a f/\bP g h/\e.b6 g a
abbrev bj(a:aV)(g:bn)(h:a4):Prop:=∀(c:Ĉ)(d:ax)(b:aR)(e:ag)(f:aA),alb a c b e d h f (b1 g a.ai) (fJ a c b f)
abbrev iz(a:aV)(c:bn)(h:dS):Prop:=∀(d:Ĉ)(e:ax)(b:aR)(f:ag)(g:afL),alb a d b f e h g (to c a.ai^b1 c a.ai) (yO a d b g)
abbrev g7(a:aV)(g:bn)(h:dS):Prop:=∀(i:fo aj)(c:Ĉ)(d:ax)(b:aR)(e:ag)(f:afL),alb a c b e d h f (to g a.ai i) (yO a c b f)
variable{Q:bn}{X4:dS}
def g7.cf(a:g7 b Q X4):ana:=a _
abbrev gh(a:aV)(g:List bn)(h:ei):Prop:=∀(i:b7)(c:Ĉ)(d:ax)(b:aR)(e:ag)(f:Á->ĩ),alb a c b e d h f (spliced^fp i^cw g a.ai) (QV a c b f)
abbrev fw(a:aV)(g:cE)(h:cN):Prop:=axs a h (exec g a.ai)
abbrev g6(a:aV)(g:List cE)(h:cN):Prop:=axs a h (execs g a.ai)
def bv{a:Type}{b:fo a}{c d:a->alc}(f:adL b c Xk j)(g:∀e j,c e j->d e j):adL b d Xk j:=eW f g (Ķ a)
abbrev qh(a:ag)(b:aA):Option^ϰ->Prop|aa (aa c)=>b c a|_=>False
abbrev vD(a:Nat):a4:=λb c d=>qh c d b[a]?
variable{Yj:aA}{aaQ:Option (Option ab)}
def qh.au(b:qh h Yj aaQ):∃a,aaQ=aa^aa a/\Yj a h:=by rcases aaQ with _|_|a;{calc b.elim};{calc b.elim};{calc#[a,r,b]}
abbrev qt(a:ab):a4:=λ_ b c=>c a b
variable{Z:b7}
def Tc(e:ajD)(h:apW L)(d:χ:=by decide)(i:axt:=by decide):bj b ade^vD g:=by intro j k l m n c a;let#[f,o,a]:=qh.au a;let#[p,p,q]:=c.bd;let#[s,t,u]:=q g L f e o h;let e:fJ b j l n s k:=#[f,m,c,t,a];rcases u with⟨a,j⟩|⟨a,f,f,h⟩;{calc wv (Bd c.ok.kind a p j e) d};{ext ĸ a;{calc wv (Jf c.ok.kind a f h e) d};{calc wv (wpAny_loadName_free c.ok.kind a f h e i) d}}
def a7{a c d}:bj b (.Constant (Ì a) c d)^qt^Ì a:=λ_ _ _ c _ d e=>wpAny_Constant_int #[Ì a,c,aeV d,e]
def jH{a c d}:bj b (.Constant (.bool a) c d)^qt^.ah a:=λ_ _ _ c _ d e=>Constant_bool #[.ah a,c,d,r,e]
def gz{a c}:bj b (.Constant .none a c)^qt .ar:=λ_ _ _ a _ c d=>Constant_none #[.ar,a,c,r,d]
def dL{a c d}:bj b (.Constant (û a) c d)^qt^û a:=λ_ _ _ c _ d e=>Calls.Constant_str #[û a,c,aeV d,e]
abbrev e8(b:aV)(a:al):Prop:=b.ai.kindOf a=aa .globalImplicit
variable{X:aR}{XP:aj->ax->Prop}
def qj(a:í)(c:ϱ)(d:aeW=aa W8)(e:XP W8 j)(f:χ:=by decide):Ĺ (b1 ade b.ai) XP Xk j:=Ax a.ok.kind c (H3 (by rwa[a.ok.bB,anb a]) d e) f
def kq(a:í)(c:ϱ)(d:aeW=ah)(e:mj L=aa W8)(f:XP W8 j)(g:L≠"__name__":=by decide)(i:χ:=by decide):Ĺ (b1 ade b.ai) XP Xk j:=by let#[k,k,l]:=a.mod.blt;calc Ax a.ok.kind c (Calls.loadGlobal_builtin (by rwa[a.ok.bB,anb a]) d (by rwa[a.ok.blt,k.keeps a.bE]) ((l L g).trans e) f) i
def S8(c:ϱ)(d:aeW=aa W8)(e:ael)(f:χ:=by decide):bj b ade^qt W4:=λ_ _ _ g _ a h=>qj a c d #[W4,g,a,e,h] f
variable{W6 Xj:bn}{Xg XY:a4}
abbrev uV(b:aV)(g:o7)(W6 Xj:bn)(h:a4):Prop:=∀(c:Ĉ)(d:ax)(a:aR)(e:ag)(f:aA),av b c a e d->h a e f->axu e (λi j=>Ĺ (fC g e i) (fJ b c a f) b.aD j) d
inductive Ul(b:(afL))(c:ab)(d:ag):Prop|mk(a:_)(_:c=.ah a)(_:b a d)
abbrev Gy(a:a4):dS:=λb c d=>a b c^Ul d
variable{YF:o7}
def Ge(a:uV b YF W6 Xj Xg)(c:anc:=by ext axv):bj b apX Xg:=λd e f g h i j=>wpAny_Compare1 (a d e f g h i j) c
def oT(c:uV b YF W6 Xj Xg)(a:anc:=by ext axv):iz b apX^Gy Xg:=by intro d e f g h h i;calc Je (ĉ c d e f g h i λc c a=>bv a λc c c=>bv c λc c #[v,k,l,n,u]=>?_) a;let#[a,rfl,a]:=u;ext n;calc mu #[k,l,a]
def fc(d:adM)(e:∀c,to Q b.ai c=(do{let a<-c;lv Q.pos;iO [a]^truthy a}):=by intro _;rfl):iz b Q^Gy Xg:=by intro c f g h i i j;calc isTrue_plain (ĉ d c f g h i j λa a #[v,k,l,n,u]=>?_)^e _;let#[a,rfl,a]:=u;ext n;calc mu #[k,l,a]
variable{aak:dS}{Z9:List bn}
abbrev RY(c:dS)(d:aR)(a:afL)(e:Bool)(b:ag):Prop:=if e=af then c d b a else a ay b
abbrev Uh(b c:dS):dS:=λa d e=>b a d^RY c a e
abbrev Sp(c:dS)(d:aR)(a:afL)(e:Bool)(b:ag):Prop:=if e=af then a af b else c d b a
abbrev UN(b c:dS):dS:=λa d e=>b a d^Sp c a e
abbrev Sm(a:afL)(b:Bool)(c:ag):Prop:=a (! b) c
abbrev UK(a:dS):dS:=λb c d=>a b c^Sm d
def nd(a:ane):g7 b (anf [W6]) X4:=by intro c c d e f g h i;calc isTrue_and^bv (a c d e f g h i) (Å c a a);ext acM c;{calc a};{calc isTrue_and_nil a}
def Tn(a:ane):g7 b (ang [W6]) X4:=by intro c c d e f g h i;calc isTrue_or^bv (a c d e f g h i) (Å c a a);ext acM c;{calc isTrue_or_nil a};{calc a}
def nc(d:ane)(g:g7 b (anf ah3) aak):g7 b (anf (W6::ah3))^Uh X4 aak:=by intro h a e c f i j k;calc isTrue_and^ĉ d a e c f j k ?_;ext anh k d e f;{calc#[d,e,f]};{calc g h a k c d i e f}
def Tl(d:ane)(g:g7 b (ang ah3) aak):g7 b (ang (W6::ah3))^UN X4 aak:=by intro h a e c f i j k;calc isTrue_or^ĉ d a e c f j k ?_;ext anh k d e f;{calc g h a k c d i e f};{calc#[d,e,f]}
def zj(a:ane):iz b (.UnaryOp .Not W6 Z)^UK X4:=by intro c d e f g h i;calc isTrue_not^a c d e f (λa c=>g (! a) c) h i
inductive Uj(XY:a4)(d:aR)(a:aA)(e:ab)(b:ag):Prop|mk(c:_)(_:e=.ah c)(_:if c=af then XY d b a else a (.ah ay) b)
abbrev Ui(Xg XY:a4):a4:=λa b c=>Xg a b^Uj XY a c
inductive UP(XY:a4)(d:aR)(a:aA)(e:ab)(b:ag):Prop|mk(c:_)(_:e=.ah c)(_:if c=af then a agM b else XY d b a)
abbrev UO(Xg XY:a4):a4:=λa b c=>Xg a b^UP XY a c
inductive UM(b:aA)(c:ab)(d:ag):Prop|mk(a:_)(_:c=.ah a)(_:b (.ah (! a)) d)
abbrev UL(Xg:a4):a4:=λa b c=>Xg a b^UM c
def oR{a}(c:acN):bj b (.BoolOp a [W6] Z) Xg:=λa d e f g h i=>BoolOp_one^c a d e f g h i
def zg(a:acN)(g:bj b (anf ah3) XY):bj b (anf (W6::ah3))^Ui Xg XY:=by intro c e d f h i j;calc BoolOp_and^ĉ a c e d f i j ?_;ext atz i e f a k;calc mu ?_;ext acM k;{calc#[.ah ay,e,f,r,a]};{calc g c i d e h f a}
def vp(a:acN)(g:bj b (ang ah3) XY):bj b (ang (W6::ah3))^UO Xg XY:=by intro c e d f h i j;calc BoolOp_or^ĉ a c e d f i j ?_;ext atz i e f a k;calc mu ?_;ext acM k;{calc g c i d e h f a};{calc#[agM,e,f,r,a]}
def su(a:acN):bj b (.UnaryOp .Not W6 Z)^UL Xg:=by intro c d e f g g h;calc UnaryOp_^ĉ a c d e f g h ?_;ext atz a c d a f;calc not_of^mu #[.ah (! f),c,d,r,a]
abbrev Se(Xg XY:a4)(a:aR)(b:aA)(d:Bool)(c:ag):Prop:=if d=af then Xg a c b else XY a c b
abbrev UB(b:dS)(Xg XY:a4):a4:=λa c d=>b a c^Se Xg XY a d
def zh(e:ana)(i:acN)(j:ajE):bj b (.IfExp Q W6 Xj Z)^UB X4 Xg XY:=by intro a f c g d h k;calc wpAny_IfExp^ĉ e a f c g h k ?_;ext anh e f g h;{calc j a e c f d g h};{calc i a e c f d g h}
abbrev aw(e:ap)(a:ag)(c:ac)(d:Á):Prop:=kl a c^.lst d\/∃(a:bb) (b:ajv) (f:Nat),τ e c=aa a/\a.cls=Þ "list"/\a.dict=ah/\a.data=.seq b f/\b.size<=a9/\bM d b.toList
abbrev bw(e:ap)(a:ag)(c:ac)(d:Á):Prop:=kl a c^.tup d\/∃(a:bb) (b:ajv) (f:Nat),τ e c=aa a/\a.cls=Þ "tuple"/\a.data=.seq b f/\b.size<=a9/\bM d b.toList
abbrev Q7:aj->ϰ|.none=>aa .ar|.bool a=>aa^.ah a|Ì b _=>aa^Ì b|û b _=>aa^û b|.bytes a _=>aa^.bv a|.float a _=>aa^.dk a|À a=>È a|.type a=>aa^.dx a|_=>ah
def bP.d0(a:ael):Q7 W8=adG:=by cases W4 with|ar=>{ext a;rfl}|ah _=>{ext a;rfl}|int _=>{ext Ú b a;rfl}|str _=>{ext Ú b a;rfl}|bv _=>{ext Ú b a;rfl}|dk _=>{ext Ú b a;rfl}|ref _=>{ext a;rfl}|dx _=>ext a;rfl
def bP.inj{a b:ab}{c:aj}(d:bP a c)(e:bP b c):a=b:=bW^d.d0.symm.trans e.d0
def bM.inj{b a:Á}{c:â}(e:bM b c)(d:bM a c):b=a:=by induction e generalizing a with|nil=>{ext d;rfl}|cons a b b=>ext Ā d c d;{rw[a.inj c,b d]}
variable{ZN:List ab}{d:ap}
def aw.ad(b:h a=aem):aw d h a O:=.inl^Ð b
def bw.ad(b:h a=aa^.tup O):bw d h a O:=.inl^Ð b
def av.list(i:í)(f:aw b.as h a O):∃c:â,bM O c/\PlainL j.heap a c.toArray/\O.length<=a9:=by rcases f with f|⟨k,c,g,l,m,n,o,p,d⟩;{let#[q,c,g,d,e]:=f.ok i.aq;calc#[c,d,#[_,g,e,r,r,r],q]};{calc#[c.toList,d,#[k,g,i.a2 a k l,m,n,by exists o],?_];ext Ť e d;simp only[iG]at e;calc ğ e p}
def av.tuple(f:í)(e:ajF h a O):∃c:â,bM O c/\IsTup j.heap a c.toArray/\O.length<=a9:=by rcases e with e|⟨g,c,i,k,l,m,n,d⟩;{let#[o,c,d,p]:=e.ok f.aq;calc#[c,d,p,o]};{calc#[c.toList,d,#[g,f.a2 a g k,l,i,by exists m],?_];ext Ť c d;simp only[iG]at c;calc ğ c n}
def av.ef(c:í)(d:aw b.as h a O)(f:aw b.as h a ZN):O=ZN:=by let#[g,i,#[e,e,k,_,_,l],_]:=c.list d;let#[m,n,#[d,d,d,_,_,e],_]:=c.list f;ext Æ k d;ext axw l e g m i n
def av.fm(c:í)(d:ajF h a O)(f:ajF h a ZN):O=ZN:=by let#[g,i,#[e,k,_,e,l],_]:=c.tuple d;let#[m,n,#[d,d,_,e,e],_]:=c.tuple f;ext Æ k d;ext axw l e g m i n
@[reducible]abbrev aV.bq(a:aV)(b:ű):aV:={a with aD:=b}
@[reducible]abbrev aV.cv(a:aV):aV:=a.bq aeU
def aV.bW.bq{b:aV}(a:b.bW)(c:ű):(b.bq c).bW:=axx a
def aV.bW.bD(a:(b.bq Xk).bW):b.bW:=axx a
def av.bq(a:í)(Xk:ű):av (b.bq Xk) U X h j:=#[a.ok.bq Xk,apY a]
def av.bD(a:av (b.bq Xk) U X h j):í:=#[a.ok.bD,apY a]
def iA.bD{c:dI}{a:Flow}{d:ax}(f:iA (b.bq Xk) U c a d):iA b U c a d:=by cases a with|next=>{let#[a,c,d,e]:=f;calc#[a,c,d.bD,e]}|brk=>{let#[a,c,d,e]:=f;calc#[a,c,d.bD,e]}|cont=>{let#[a,c,d,e]:=f;calc#[a,c,d.bD,e]}|ret g=>let#[g,a,c,d,h,e]:=f;calc#[g,a,c,d.bD,h,e]
def g6.cv{a:List cE}{c:cN}(d:g6 b.cv a c):g6 b a c:=λU j X h a c e=>eW (d U j X h a (c.bq _) e) (λ_ _ a=>a.bD) λ_ _ a=>he a
variable{Xm:cE}{Zh:List cE}{Zu XZ:cN}{Yy:a4}
abbrev UI:cN:=λa b c=>a.a0 b c
abbrev dI.fk(a:dI)(XZ:cN):dI:={a with a0:=XZ a}
abbrev dI.cd(a:dI)(b:Ω):dI:={a with a0:=b,dg:=b,bE:=a.a0}
abbrev UV(Zu XZ:cN):cN:=λa b c=>Zu (a.fk XZ) b c
def b6:g6 b [] UI:=λ_ _ a c _ d e=>q7 #[a,c,d,e]
def aq(a:fw b Xm Zu)(e:ajG XZ):g6 b (Xm::Zh)^UV Zu XZ:=by intro d f g h c i j;calc ww^bv (a d f g h {c with a0:=XZ c} i j) (Å f g a);cases f with|next=>{let#[f,h,i,a]:=a;calc e d g f h c i a}|ret c=>{calc a}|brk=>{calc a}|cont=>calc a
def aC(a:fw b Xm Zu):g6 b [Xm] Zu:=by intro c d e f g h i;calc ww^bv (a c d e f g h i) (Å c a a);ext axy c a
def av.quiet(a:í):interactive b.ai=ay:=by simp[interactive,a.ok.kind]
abbrev Sc(a:dI)(b:aR)(_:ab)(c:ag):Prop:=a.a0 b c
abbrev Uy(Yy:a4):cN:=λb a c=>Yy a c^Sc b a
def bm(d:ajH)(e:mq Q ah Z.line b.ai=pure ay:=by rfl):fw b (.Expr Q Z)^Uy Yy:=by intro f g a h c c i;calc wpAny_Expr_any (ĉ d f g a h c i λd d #[u,k,l,v,n]=>#[a,k,l,n]) c.quiet e
abbrev UT(Yy:a4):cN:=λa b c=>Yy b c a.b6
def bt(c:ajH):fw b (.Return (aa Q) Z)^UT Yy:=by intro d e a f g g h;calc I'^ĉ c d e a f g h λc c #[k,l,n,u,v]=>#[k,a,l,n,u,v]
abbrev UU:cN:=λa _ b=>a.b6 .ar b
def Gi:fw b (.Return ah Z) UU:=λ_ _ a c _ d e=>wpAny_Return_none #[.ar,a,c,d,r,e]
abbrev Sf(Zu XZ:cN)(a:dI)(b:aR)(d:Bool)(c:ag):Prop:=if d=af then Zu a b c else XZ a b c
abbrev UC(b:dS)(Zu XZ:cN):cN:=λc a d=>b a d^Sf Zu XZ c a
variable{aal:List cE}
def bQ(e:ana)(i:ajG Zu)(j:g6 b aal XZ):fw b (.If Q Zh aal Z)^UC X4 Zu XZ:=by intro a f c g d h k;calc wpAny_If^ĉ e a f c g h k ?_;ext anh e f g h;{calc j a e c f d g h};{calc i a e c f d g h}
abbrev UH:cN:=ald
def sz:ajG UH:=λ_ _ _ _ _ _ a=>a.elim
@[reducible]abbrev dX:=ab->aR->ag->(Ω)->Prop
@[reducible]abbrev k6:=Á->aR->ag->(Ω)->Prop
abbrev lX(a:aV)(i:bn)(j:dX):Prop:=∀(b:Ĉ)(c:ax)(d:aR)(e:ag)(f:ab)(g:aj)(h:Ω),av a b d e c->bP f g->j f d e h->afM a (pe i a.ai g) (λ_ f=>∃d e,av a b d e f/\h d e) c
abbrev sk(a:aV)(i:List bn)(j:k6):Prop:=∀(b:Ĉ)(c:ax)(d:aR)(e:ag)(f:Á)(g:â)(h:Ω),av a b d e c->bM f g->j f d e h->apZ a (assignInOrder ((nJ i a.ai).map (·.2)) g) (λ_ f=>∃d e,av a b d e f/\h d e) a.aD c
@[reducible]abbrev sm:=ab->ab->ab->ag->(ĩ)->Prop
abbrev Fi(a:aV)(m:sm):Prop:=∀(b:Ĉ)(c:ax)(d:aR)(e:ag)(f g h:ab)(i j k:aj)(l:ĩ),av a b d e c->bP f i->bP g j->bP h k->m f g h e l->afM a (setItem i j k) (λ_ f=>∃e,av a b d e f/\l e) c
@[reducible]abbrev u0:=ajI
abbrev Fh(a:aV)(k:tb)(l:u0):Prop:=atA h i a l (AZ k h i)
abbrev oM(a:Nat):dX:=λb c d e=>e (c.set a^aa b) d
def sv(a:b.aX.Nodup)(c:ajD)(d:am8)(e:am9:=by ext am'):lX b ade^oM g:=by intro f f f f h h h h i j;calc Ja^vx h a c d i (λa a=>#[_,f,a,j]) e
abbrev Rx:k6:=λa b c d=>a=[]/\d b c
inductive Rw(c:dX)(d:k6)(e:Á)(f:aR)(g:ag)(h:(Ω)):Prop|mk(a b:_)(_:e=a::b)(_:c a f g λi j=>d b i j h)
abbrev Rv(a:dX)(b:k6):k6:=λc d e f=>Rw a b c d e f
def hE:sk b [] Rx:=by intro a a c d a a a e f a;let#[g,a]:=a;subst g;ext f;calc assignInOrder_nil #[c,d,e,a]
variable{Xe:List bn}{XW:dX}{Wu:k6}
def eb(e:lX b Q XW)(f:sk b Xe Wu)(g:(nJ (Q::Xe) b.ai).map (·.2)=pe Q b.ai::(ani).map (·.2):=by rfl):sk b (Q::Xe)^Rv XW Wu:=by intro d h i j a a k l a c;let#[m,m,m,c]:=c;subst m;ext anj a m;{rwa[g,assignInOrder_cons^bv (e d h i j _ _ _ l a c) ?_];rintro _ a ⟨c,e,g,h⟩;calc f d a c e _ _ k g m h}
inductive Rz(d:ap)(e:Nat)(f:k6)(g:ab)(h:aR)(b:ag)(i:(Ω)):Prop|mk(c a:_)(_:g=À c)(_:bw d b c a)(_:ϲ a e)(_:f a h b i)
abbrev FO(a:ap)(b:Nat)(c:k6):dX:=λd e f g=>Rz a b c d e f g
def jI(j:α)(k:sk b Xe Wu)(l:(ani).length=B:=by rfl)(m:(ani).findIdx? (·.1)=ah:=by rfl):lX b (ale Z)^FO b.as B Wu:=by intro d e f h a a n a i c;let#[o,o,p,q,s,c]:=c;subst p;ext i;let#[i,i,p,t]:=a.tuple q;calc assign_Tuple_tuple (ŋ a j) p (by simp[l,<-s,i.length]) m (Â j l);let m:av b d f h (ϳ e j):=ajJ a e λe j a=>l e j (ek^co a) a;calc k d _ f h o _ n m (by exists i) c
abbrev Sv(a:sm)(b:ab)(c:aR)(d:Ω)(e f:ab)(g:ag):Prop:=a e f b g^d c
abbrev Su(b:a4)(c:sm)(d:ab)(a:aR)(e:Ω)(f:ab)(g:ag):Prop:=b a g^Sv c d a e f
abbrev Ry(b c:a4)(d:sm):dX:=λe a f g=>b a f^Su c d e a g
variable{aa':sm}
def sw(g:adM)(h:bj b W6 XY)(i:Fi b aa')(j:∀a,pe atB b.ai a=(do{let c<-iO [a]^ϴ;let d<-iO [a,c]^alf;lv Z;iO [a,c,d]^setItem c d a;release [a,c,d] []}):=by intro _;rfl):lX b atB^Ry Xg XY aa':=by intro f k e l a m n n o p;rwa[j,ar^f7^ĉ g f k e l n p ?_];rintro c g ⟨j,k,l,n,p⟩;calc ar^f7^ĉ h f g e k l p ?_;rintro d g ⟨h,k,l,p,q⟩;calc ar^ty^ar^f7^bv (i f g e k j h a c d m _ l n p o q) ?_;rintro _ a ⟨a,c,d⟩;calc wpAny_release #[e,a,c,d]
abbrev RZ(a:dX)(b:dI)(c:aR)(d:ab)(e:ag):Prop:=a d c e b.a0
abbrev vy(b:a4)(c:dX):cN:=λd a e=>b a e^RZ c d a
def sy(d:acN)(e:lX b Q XW)(f:swapsWithSole [Q] W6 Z.line b.ai=pure ay:=by rfl)(g:swappedStores [Q] W6 b.ai=pure ah:=by rfl)(h:(nJ [Q] b.ai).map (·.2)=[pe Q b.ai]:=by rfl):fw b (.Assign [Q] W6 Z)^vy Xg XW:=by intro a i c j k k l;calc wpAny_Assign_stores (ĉ d a i c j k l λd i #[n,u,v,y,C]=>?_) f g;rwa[h,bv (e a i c u n d _ v y C) λ_ a a=>a]
variable{XG:b7}
def k9(a:b.aX.Nodup)(c:ajD)(d:am8)(e:adM)(f:axz:=by rfl)(h:am9:=by ext am'):fw b (.Assign [agN] Q Z)^vy Xg^oM g:=by intro i j k l m m n;calc wpAny_Assign_Name (ĉ e i j k l m n λe e #[F,u,v,y,C]=>?_) f;calc vx v a c d y (λa a=>#[_,u,a,C]) h
abbrev Uk(c:Nat)(d:a4)(e:u0):cN:=λf a b=>qh b (λg b=>d a b λb d=>e g b d λb d=>f.a0 (a.set c^aa b) d) a[c]?
variable{Wd:tb}{aba:u0}
def qq(p:b.aX.Nodup)(j:ajD)(e:am8)(q:adM)(s:Fh b Wd aba)(t:am9:=by ext am'):fw b (.AugAssign agN Wd Q Z)^Uk g Xg aba:=by intro a k l u v d f;let#[m,i,f]:=qh.au f;let#[c,w,o]:=d.bd;let x:apW L:=by{ext ň e c;calc Ð c;calc .inr^Ð c};let#[n,h,y]:=o g L m j i x;calc wpAny_AugAssign_Name ?_;let o:Ĺ ϴ (λi x=>Ĺ (AZ Wd n i) (λh z=>Ĺ (A6 b.ai L h) (λ_=>iA b a v .next) b.aD z) b.aD x) b.aD k:=by{calc ĉ q a k l u d f ?_;rintro i f ⟨k,q,u,v,x⟩;calc bv (s a f l q m k n i _ u h v x) ?_;rintro a a ⟨a,a,f,h,i⟩;calc vx f p j e h (λf f=>#[_,a,f,i]) t};rcases y with⟨a,f⟩|⟨a,h,h,i⟩;{calc Bd d.ok.kind a w f o};{ext ĸ a;{calc Jf d.ok.kind a h i o};{ext ň e c;{let:atC=adK:=a;ext ϗ c};{let:atC=adK:=a;ext ϗ c}}}
inductive RW(c:Int->Int->Int)(d:ab)(e:ab)(f:ag)(g:aA):Prop|mk(a b:_)(_:d=Ì a)(_:e=Ì b)(_:g (.int^c a b) f)
abbrev RV(a:Int->Int->Int):u0:=λb c d e=>RW a b c d e
def qe:Fh b .Add^RV λa c=>a+c:=by intro d d d d e e e e e e f g h;let#[a,c,a,c,i]:=h;subst a;subst c;ext Ú a f;ext Ú a g;calc HG #[ψ,d,aeV e,i]
abbrev U1(f:dS)(j:cN):cN:=λe a b=>∃d:afN,(∃c,d c a b)/\∀c a b,d c a b->f a b λf b=>if f=af then∃f:Ω,(∀g h,f g h->∃i,i<c/\d i g h)/\j (e.cd f) a b else e.a0 a b
def h7(e:AH adf b.ao b.ai b.aD)(g:ana)(h:ajG XZ):fw b (.While Q Zh [] Z)^U1 X4 XZ:=by intro d a i j a k a;let#[l,#[m,n],o]:=a;calc wpAny_While^codeAny_whileLoop (λc p=>∃a f,av b d a f p/\l c a f) ?_ m #[i,j,k,n];rintro c i ⟨a,f,j,k⟩;calc pm e^bv (g d i a f _ j^o c a f k) ?_;ext anh k f g c;{rwa[zF ej,q7 #[a,f,g,c]]};{let#[i,j,c]:=c;rwa[zG r,pm e^ĉ h d k a f g c (Å a c d)];cases a with|next=>{let#[a,c,e,f]:=d;let#[g,h,i]:=j a c f;calc#[g,h,a,c,e,i]}|cont=>{let#[a,c,e,f]:=d;let#[g,h,i]:=j a c f;calc#[g,h,a,c,e,i]}|brk=>{calc d}|ret a=>calc d}
structure eA where(go:agO)(dZ:Nat->ag->ab->ĩ)(stop:agO)
abbrev hw(b:aV)(d:Ĉ)(c:ag)(a:ac):Prop:=c a=ah/\a≠b.ai.locals/\a∉b.bt/\(a∈b.au\/b.be.heap.objs.size<=a)/\axA b a d
def av.cm(a:í)(c:att)(d:V f=ah):hw b U V f:=by calc#[d,qJ^eN a.lt c,a.ej c,.inr^ds a.ca c,Ô e g i d,Å k l d];{let#[m,m]:=a.cell e g i;calc φ (eN m.lt^by rwa[d,c])};{calc φ (eN (co (a.bj k l).1)^by rwa[d,c])}
structure km(h:aQ)(i:aN)(v:ap)(A:bn)(p:eA)(j:Ó)(k:ac)(f:Nat->aG->Prop):Prop where(mem:k∈j)(obj:∀b m,f b m->∀d∈j,∃n,ď m d n/\∀B,n.data≠.cell B)(keep:∀b m w,f b m->(∀d∈j,∀n,ď m d n->ď w d n)->f b w)(item:∀(a:aV),a.prog=h->a.w=i->a.as=v->a.bi=af->∀(b:Nat)(g:Ĉ)(c:ax)(o:aR)(e:ag)(l:ű),av a g o e c->(∀d∈j,hw a g e d)->f b c.heap->p.go b e->aH (a0 h i) a.ao (gq^À k) (λq s=>∃t,q=aa t/\aH (a0 h i) a.ao (wp A (À k) t) (λ_ x=>∃y u,av a g o u x/\bP y t/\p.dZ b e y u/\f (b+1) x.heap/\∀d∈j,u d=ah) l s) l c)(done:∀(a:aV),a.prog=h->a.w=i->a.as=v->a.bi=af->∀(b:Nat)(g:Ĉ)(c:ax)(o:aR)(e:ag)(l:ű),av a g o e c->(∀d∈j,hw a g e d)->f b c.heap->p.stop b e->aH (a0 h i) a.ao (gq^À k) (λq s=>q=ah/\av a g o e s) l c)(self:∀(C:cp)(b:Nat)(c:ax)(z:ű)(l:ű),f b c.heap->ĕ z k c->aH (a0 h i) C (nR^À k) z l c)
@[reducible]abbrev hA:=aR->ag->(aen)->Prop
abbrev yM(a:aV)(c:Ĉ)(i:aR)(j:bn)(k:aen)(l:aj)(d:ax):Prop:=∃(e:ac) (f:Ó) (g:Nat->aG->Prop) (h:eA) (b:ag),l=À e/\av a c i b d/\km a.prog a.w a.as j h f e g/\g 0 d.heap/\(∀d∈f,hw a c b d)/\k h b
abbrev iy(a:aV)(g h:bn)(i:hA):Prop:=∀(c:Ĉ)(d:ax)(b:aR)(e:ag)(f:aen),alb a c b e d i f (b1 h a.ai) (λe h=>apZ a (nR e) (yM a c b g f) a.aD h)
variable{YG:String}{Xt:Array aj}
def oN(b:ank=ŉ)(c:W5.cls=.type YG)(d:W5.data=.fields Xt)(e:atD YG=ay)(a:Yq () j):ah2 (wp Q ñ W8):=by unfold wp;ext Q<;>first|(calc aT a)|(ext W8<;>first|(calc aT a)|(calc ar^wpAny_load b ?_;rw[c,d];show ah2 (if(atD YG&&Xt[0]?==aa^fQ _)=af then _ else _);rwa[zF^by{intro b;rw[e,vL]at b;ext b},aT a]))
abbrev uS(d:ap)(e:ac):eA:=#[λc b=>∃a f,aw d b e a/\é a c f,λc b f g=>g=b/\∀a,aw d b e a->é a c f,λc b=>∃a,aw d b e a/\β a c]
abbrev uT(d:ap)(e:ac):eA:=#[λc b=>∃a f,bw d b e a/\é a c f,λc b f g=>g=b/\∀a,bw d b e a->é a c f,λc b=>∃a,bw d b e a/\β a c]
abbrev p6(c:Int)(b:Nat):eA:=#[λa _=>a<b,λa d e f=>f=d/\e=.int (c+a),λa _=>b<=a]
def U6(a c:ac):ah4 Q (uS d a) [c] c^λj k=>k.IsListIter c a j where mem:=by{simp};obj:=alg j k b e f a c g F s h;keep:=anl j k m b h g a c;item:=by{ext ϵ G t u v H j I l J w N h n b x;let#[O,P,o,p]:=x;let#[R,y,z,S]:=h.list o;let#[L,M,T]:=y.get p;let#[A,B,U,C,D,E]:=Ϸ n c;calc wpAny_pyNext_list_item b z.isList (x:=L) (by exists M) (Å m M V);let W:av G I J w (ϳ l m):=alh h l e g f a V A B C D E;let#[g,a,F,s]:=id M;calc#[L,r,ap0 l m a F s #[P,w,W,T,#[r,λs s=>by rwa[h.ef s o,p]],M,ah5 e f n]]};done:=by{ext ϵ G t u v H j I l J w N h n b x;let#[O,o,p]:=x;let#[R,y,z,S]:=h.list o;let#[A,B,U,C,D,E]:=Ϸ n c;ext Ť c y;calc wpAny_pyNext_list_end (ŋ h H) b z.isList (by simp;calc Ō c p) (afO m c h l e g f a A B C D E)};self:=λ_ _ _ _ _ b k=>wpAny_pyIter_listiter b k
def U8(m c:ac):ah4 Q (uT d m) [c] c^λk l=>l.IsTupleIter c m k where mem:=by{simp};obj:=alg k l b e f a c g H t h;keep:=anl k l n b h g a c;item:=by{ext ϵ I u v w J k L h M x P j o b y;let#[R,S,p,s]:=y;let#[z,A,B,T]:=j.tuple p;let#[N,O,U]:=A.get s;let#[C,D,V,E,F,G]:=Ϸ o c;calc wpAny_pyNext_tuple_item b (atE h m z B) (x:=N) (by exists O) (Å n O W);let X:av I L M x (ϳ h n):=alh j h e g f a W C D E F G;let#[g,a,H,t]:=id O;calc#[N,r,ap0 h n a H t #[S,x,X,U,#[r,λt t=>by rwa[j.fm t p,s]],O,ah5 e f o]]};done:=by{ext ϵ I u v w J k L h M x P j o b y;let#[R,p,s]:=y;let#[z,A,B,T]:=j.tuple p;let#[C,D,V,E,F,G]:=Ϸ o c;ext Ť c A;calc wpAny_pyNext_tuple_end (ŋ j J) b (atE h m z B) (by simp;calc Ō c s) (afO n c j h e g f a C D E F G)};self:=λ_ _ _ _ _ b l=>wpAny_pyIter_tupleiter b l
def U7(c:ac)(l:Int)(m:Nat):ah4 Q (p6 l m) [c] c^λa g=>IsRangeIter g c (l+(a:Nat)*1) (Ñ m-(a:Nat)) 1 where mem:=by{simp};obj:=λa g b e f=>by{let h:e=c:=by{exists f};subst h;calc#[_,b,λD j=>by let k:Data.fields _=Data.cell D:=j;ext k]};keep:=λa g n b j=>agP j c _ b;item:=by{ext ϵ o s t u v a E j F w I k p b x;let#[y,z,J,A,B,C]:=Ϸ p c;let G:=Walks.range (prog:=o.prog) (w:=o.w) (ŋ k v) c l 1 m;calc G.item a j _ _ x b (ò D n G D H L);ext Ú M D;let N:av o E F w (afP j n G):=k.bm (ali e D f h L) y z A B C;calc#[_,r,oN (j:=(afP j n G)) (YG:="range_iterator") H r r (by decide) #[.int (l+a),w,N,#[M,?_],aeX,H,ah5 e f p]];rw[Int.mul_one]};done:=by{ext ϵ o s t u v a E j F w I k p b x;let#[y,z,J,A,B,C]:=Ϸ p c;calc wpAny_pyNext_range_end (ŋ k v) b (by let:m<=a:=x;lia) (afO n a k j e D f h y z A B C)};self:=λ_ _ _ _ _ b g=>wpAny_pyIter_rangeiter b g
variable{Zq:bn}
inductive RK(b:ap)(d:(aen))(e:ab)(c:ag):Prop|mk(a:_)(_:e=À a)(_:(∃f,aw b c a f))(_:d (uS b a) c)
abbrev FT(a:ap)(b:a4):hA:=λc d e=>b c d^RK a e
inductive RS(b:ap)(d:(aen))(e:ab)(c:ag):Prop|mk(a:_)(_:e=À a)(_:(∃f,bw b c a f))(_:d (uT b a) c)
abbrev RR(a:ap)(b:a4):hA:=λc d e=>b c d^RS a e
def dC(a:adM):anm^FT b.as Xg:=by ext ann a;rintro a c ⟨a,e,d,f,g⟩;let#[h,a,#[i,i],j]:=g;subst a;ext f;let#[f,f,f,g]:=d.list i;calc wz f.isList ?_;calc axB c e d a (U6 h _) j
def sx(a:adM):anm^RR b.as Xg:=by ext ann a;rintro a a ⟨c,f,d,g,h⟩;let#[e,c,#[i,i],j]:=h;subst c;ext g;let#[g,h,h,k]:=d.tuple i;calc wpAny_pyIter_tuple (atE a e g h) ?_;calc axB a f d c (U8 e _) j
variable{aam:eA->ag->Prop}{Xb:Int}{X5:Int}{YU:hi}{ZH:hi}{ZI:hi}
def Go(a:í)(c: -(2^62)<=Xb)(d:Xb<2^62)(e: -(2^62)<=X5)(f:X5<2^62)(i:aam (p6 Xb (X5-Xb).toNat) h):Ĺ (nR^adN) (yM b U X Zq aam) Xk {j with heap:=ano,toks:=g}:=by calc wpAny_pyIter_range (Iv ..) (small_one c d e f) ?_;let c:Ă X h {j with heap:=ano,toks:=g}:=a.kept (Ϙ d e a);calc#[(ano).objs.size,[(ano).objs.size],_,_,h,r,c.kept (t':=g) (Ϙ d e a),U7 _ Xb (X5-Xb).toNat,?_,Â d e,i];{let f:Xb+((0:Nat):Int)*1=Xb:=by{simp};let i:axC=HV Xb X5 1:=by{rw[rangeSize_one];split<;>lia};show IsRangeIter _ _ (Xb+((0:Nat):Int)*1) axC 1;rwa[f,i,İ]};{let a:d=(ano).objs.size:=by{exists e};subst a;calc ap1 c}
inductive RM(b:(aen))(c:Á)(d:ag):Prop|mk(a:Int)(_:c=[Ì a])(_: -(2^62)<=a)(_:a<2^62)(_:b (p6 0 a.toNat) d)
abbrev RL(a:ei):hA:=λb c d=>a b c^RM d
inductive RO(c:(aen))(d:Á)(e:ag):Prop|mk(a b:Int)(_:d=[Ì a,Ì b])(_:(-(2^62)<=a/\a<2^62/\ -(2^62)<=b/\b<2^62))(_:c (p6 a (b-a).toNat) e)
abbrev RN(a:ei):hA:=λb c d=>a b c^RO d
variable{X0:ei}
def qp(c:e8 b "range")(d:b.aO "range"=ah)(e:gh b [Q] X0)(f:ap2:=by rfl):axD [Q]^RL X0:=by intro g h i j a a k;calc qM^kq a c d Aq^o2 (bv (e XG g h i j _ a k) λa a #[u,v,l,n,a]=>?_) f r;let#[c,c,a,d,e]:=a;subst c;ext Ā n c f;{ext f;ext Ú f c;calc call_range_1^Go l (by lia) (by lia) a d^by exists e}
def Te(d:e8 b "range")(e:b.aO "range"=ah)(f:gh b [Q,W6] X0)(g:cw [Q,W6] b.ai=[(ay,ϴ),(ay,alf)]:=by rfl)(c:cw [W6] b.ai=[(ay,alf)]:=by rfl):axD [Q,W6]^RN X0:=by intro h i j k a a l;calc qM^kq a d e Aq^o2 (bv (f XG h i j k _ a l) λa a #[v,y,n,u,a]=>?_) (by rw[g,c])^by{rw[c];rfl};let#[c,c,c,#[a,d,e,f],g]:=a;subst c;ext Ā u h c;{ext alj c i;{ext c;ext Ú c h;ext Ú c i;calc call_range_2^Go n a d e f g}}
abbrev m7(l:dX)(m:cN)(h:dI)(a:aR)(f:eA)(b:ag):Prop:=∃g:Nat->afN,(∃e,g 0 e a b)/\∀b e a c,g b e a c->(f.stop b c/\h.a0 a c)\/(f.go b c/\∃i:Ω,(∀j d,i j d->∃k,k<e/\g (b+1) k j d)/\∀e d,f.dZ b c e d->l e a d^m^h.cd i)
abbrev UA(b:hA)(c:dX)(d:cN):cN:=λe a f=>b a f^m7 c d e a
abbrev oS(a:Ó)(b:aG):Ĉ:=a.filterMap λa=>(b.get? a).map λb=>(a,b)
def oO(a:f∈W')(b:ak8):(f,W5)∈oS W' t:=fz.mpr #[f,a,by rw[b];rfl]
variable{WI:ac×bb}
def SY(d:WI∈oS W' t):WI.1∈W'/\t.get? WI.1=aa WI.2:=by let#[c,e,a]:=fz.mp d;rcases b:t.get? c with _|f;{ext Æ b a};{rw[b]at a;let g:(c,f)=WI:=bW a;subst g;calc#[e,b]}
def av.dt(e:í)(g:∀a∈W',ah6 a)(i:∀a∈W',∃c,ĥ a c/\∀d,c.data≠.cell d):av b (U++oS W' j.heap) X h j:=e.c' λa d=>(cL.mp d).elim (λd=>e.bj a^eU _ d) λd=>by let#[e,f]:=SY d;let#[d,k,l,_]:=g a.1 e;let#[c,c,g]:=i a.1 e;ext Æ f c;calc#[f,d,k,l,g]
def av.cW(a:av b (U++aaP) X h j):í:=a.c' λc d=>a.bj c^eU _^hI _ d
variable{ZY:hA}
def dM(d:AH adf b.ao b.ai b.aD)(s:α)(a:anm ZY)(z:lX b Zq XW)(c:ajG XZ)(f:∀e,wn Q b.ai e=pure e:=by intro _;rfl):fw b (.For Zq Q Zh [] Z)^UA ZY XW XZ:=by intro i g h j k k l;calc wpAny_For (ĉ a i g h j k l λA a a=>bv a (Å a a a)) f;let#[f,j,t,f,v,k,w,l,x,o,u,#[y,B],C]:=a;subst k;let p:∀{f:ag},(∀a∈j,f a=ah)->∀a∈j,hw b i f a:=λg a c=>#[g a c,(o a c).2];calc codeAny_forLoop_any (λn q=>∃g m f,av b i m f q/\t g q.heap/\(∀a∈j,f a=ah)/\u g n m f) ?_ y #[0,h,v,w,x,ah5 a c o,B];rintro n v ⟨g,h,o,w,x,y,q⟩;rcases C g n h o q with⟨q,B⟩|⟨C,D,E,F⟩;{calc pm d^bv (l.done b r r r s g i v h o b.aD w (p y) x q) ?_;rintro G H ⟨q,I⟩;subst q;calc q7 #[h,o,I,B]};{calc pm d^bv (l.item b r r r s g i v h o b.aD w (p y) x C) ?_;rintro G H ⟨v,q,o⟩;subst q;calc pm d^bv o ?_;rintro _ q ⟨e,s,w,x,y,o,B⟩;let C:=w.dt (p B)^l.obj _ _ o;calc pm d^bv (z _ q h s e v _ C x^F e s y) ?_;rintro _ e ⟨h,p,s,v⟩;calc pm d^bv (c _ e h p _ s v) (Å v p h);let s:∀{d:aR}{e:ag},av b (i++oS j q.heap) d e p->D d e->∃q,q<n/\∃g m f,av b i m f p/\t g p.heap/\(∀a∈j,f a=ah)/\u g q m f:=λ{d e} f i=>by{let#[j,m,n]:=E d e i;calc#[j,m,g+1,d,e,f.cW,l.keep _ _ _ o λa c g k=>(f.bj (a,g)^eU _^eU _^oO c k).1,Â a c,n];let#[g,k,j]:=l.obj _ _ o a c;calc(f.bj (a,g)^eU _^eU _^oO c k).2.1};cases v with|next=>{let#[d,e,f,i]:=h;calc s f i}|cont=>{let#[d,e,f,i]:=h;calc s f i}|brk=>{let#[d,e,f,h]:=h;calc#[d,e,f.cW,h]}|ret A=>let#[a,d,e,f,c,h]:=h;calc#[a,d,e,f.cW,c,h]}
variable{Yk:dI}
def h6(b:afN)(g:b 0 X h)(i:∀a X h,agQ a->b a X h->aw d h f O)(l:axE a c b)(m:∀X h,b O.length X h->Yk.a0 X h):ajK X (uS d f) h:=by ext axF a b g i c l m
def vd(b:afN)(g:b 0 X h)(i:∀a X h,agQ a->b a X h->bw d h f O)(l:axE a c b)(m:∀X h,b O.length X h->Yk.a0 X h):ajK X (uT d f) h:=by ext axF a b g i c l m
def vc(b:afN)(e:b 0 X h)(f:∀a X h,a<g->b a X h->XW (.int (Xb+a)) X h^alk b a)(i:∀X h,b g X h->Yk.a0 X h):ajK X (p6 Xb g) h:=by calc#[λa d X h=>d=g-a/\a<=g/\b a X h,#[g,ah7,e],?_];rintro a d X h ⟨rfl,j,e⟩;by_cases c:a<g;{calc è #[c,alm b a b (g-(a+1)) c d b];let#[d,b]:=b;subst d b;calc f a X _ c e};{let d:a=g:=bX j^c8 c;calc ajL d #[a5 _,i X h e]}
@[reducible]abbrev e9:=ajI
abbrev d9(a:aV)(k:aj->aj->fo aj)(l:e9):Prop:=atA h i a l (k h i)
abbrev yP(a:aV)(i:aj->fo aj)(j:ab->adc):Prop:=∀(b:Ĉ)(c:ax)(d:aR)(e:ag)(f:ab)(g:aj)(h:aA),av a b d e c->bP f g->j f e h->afM a (i g) (fJ a b d h) c
abbrev hv(a:aV)(i:aj)(j:Á->adc):Prop:=∀(b:Ĉ)(c:ax)(d:aR)(e:ag)(f:Á)(g:â)(h:aA),av a b d e c->bM f g->j f e h->afM a (fB i g) (fJ a b d h) c
abbrev So(a:e9)(b:aA)(c d:ab)(e:ag):Prop:=a c d e b
abbrev Sn(a:e9)(b:a4)(c:aR)(d:aA)(e:ab)(f:ag):Prop:=b c f^So a d e
abbrev vC(b:e9)(c d:a4):a4:=λa e f=>c a e^Sn b d a f
abbrev Sx(a:ab->adc)(b:aA)(c:ab)(d:ag):Prop:=a c d b
abbrev U0(a:ab->adc)(b:a4):a4:=λc d e=>b c d^Sx a e
inductive TE(c:Int->Int->Prop)(d:ap3)(e:ab)(f:ab)(g:ag)(h:aA):Prop|mk(a b:_)(_:e=Ì a)(_:f=Ì b)(_:c a b)(_:h (d a b) g)
abbrev vs(a:Int->Int->Prop)(b:ap3):e9:=λc d e f=>TE a b c d e f
inductive TD(c:ap3)(d:ab)(e:ab)(f:ag)(g:aA):Prop|mk(a b:_)(_:d=Ì a)(_:e=Ì b)(_:g (c a b) f)
abbrev kr(a:ap3):e9:=λb c d e=>TD a b c d e
inductive TY(b:Int->ab)(c:ab)(d:ag)(e:aA):Prop|mk(a:_)(_:c=Ì a)(_:e (b a) d)
abbrev Gn(a:Int->ab):ab->adc:=λb c d=>TY a b c d
variable{aan:bn}{ZP:a4}{abb:ab->ab->ag->Prop}{Z':aj->aj->fo aj}
def yR(k:acN)(l:ajE)(m:í)(n:Xg X h λa i=>XY X i λc d=>abb a c d)(o:∀e f g a c d,Ă X d g->bP a e->bP c f->abb a c d->Ĺ (Z' e f) Xk b.aD g):axu e (λf q=>Ĺ (Z' e f) Xk b.aD q) j:=by calc bv (k U j X h _ m n) ?_;rintro e k ⟨a,i,m,n,p⟩;calc bv (l U k X i _ m p) ?_;rintro f g ⟨c,d,i,k,l⟩;calc o e f g a c d i n k l
variable{ZO:e9}
def dT(a:d9 b (mi Wd) ZO)(c:acN)(d:ajE):bj b (.BinOp W6 Wd Xj Z)^ap4:=by intro e f f g g h i;calc wpAny_BinOp^yR c d h i λc d h i j k l m n o=>a e h f k i j c d g l m n o
variable{abc:UnaryOp}{abd:ab->ag->aA->Prop}
def vq(d:yP b (unaryOp abc) abd)(e:acN):bj b (.UnaryOp abc W6 Z)^U0 abd Xg:=by intro a f c g h i j;calc UnaryOp_^ĉ e a f c g i j (atF d a c h)
variable{abe:Int->Int->Prop}{Wv:Int->Int->Int}
def za(h:∀(a c:Int)(e g:hi)(d:ax)(f:ű)(i:ű),abe a c->atG f (Wv a c) d (Z' (Ì a e)^Ì c g) i):d9 b Z'^vs abe λa c=>.int^Wv a c:=by intro i d i i j j j g f f g j k;let#[Ř a c,l,m]:=k;ext Ú e g;ext Ú g j;calc h a c e g d _ _ l #[.int^Wv a c,i,aeV f,m]
def vm(h:∀(a c:Int)(e g:hi)(d:ax)(f:ű)(i:ű),atG f (Wv a c) d (Z' (Ì a e)^Ì c g) i):d9 b Z'^kr λa c=>.int^Wv a c:=by intro i d i i j j j g f f g j k;let#[Ř a c,l]:=k;ext Ú e g;ext Ú g j;calc h a c e g d _ _ #[.int^Wv a c,i,aeV f,l]
variable{aaR:Int->Int->Bool}
def vl(h:∀(a c:Int)(e g:hi)(d:ax)(f:ű)(i:ű),f (.bool^aaR a c) d->Ĺ (Z' (Ì a e)^Ì c g) f i d):d9 b Z'^kr λa c=>.ah^aaR a c:=by intro i d i i j j j g f f g j k;let#[Ř a c,l]:=k;ext Ú e g;ext Ú g j;calc h a c e g d _ _ #[.ah^aaR a c,i,f,r,l]
abbrev QY(b a:Int):Prop:=0<=a/\a<=1000000/\b.natAbs<2^64
abbrev yF(a b:Int):Prop:=(-(2^64)<a/\a<2^64)\/(-(2^64)<b/\b<2^64)
def yF.ok(a:yF Xb X5):IntMulOk Xb X5:=by rcases a with⟨a,b⟩|⟨a,b⟩;{calc .of_left^intBits_le_64 a b};{calc .of_right^intBits_le_64 a b}
def U9(a:Nat):afQ<=2^a:=by rwa[two_pow_cast,gA _]
def hD:d9 b (mi .Add)^kr λa c=>.int (a+c):=vm λ_ _ _ _ _ _ _ a=>add_int a
def S3:d9 b (mi .Sub)^kr λa c=>.int (a-c):=vm λ_ _ _ _ _ _ _ a=>sub_int a
def S0:d9 b (mi .Mult)^vs yF λa c=>.int (a*c):=za λ_ _ _ _ _ _ _ a c=>mul_int c a.ok
def Gc:d9 b (mi .LShift)^vs QY λa c=>.int (a*2^c.toNat):=za λ_ _ _ _ _ _ _ a c=>lshift_int_small a.1 a.2.1 a.2.2 c
def S2:d9 b (mi .RShift)^vs (λ_ a=>0<=a) λc a=>.int (c/2^a.toNat):=za λc a _ _ _ _ _ a d=>rshift_int a^by rwa[Int.fdiv_eq_ediv_of_nonneg c^U9 _,d]
def Gb:d9 b (mi .BitAnd)^kr λa c=>.int^s7 a c:=vm λ_ _ _ _ _ _ _ a=>and_int a
def zf:d9 b (mi .BitOr)^kr λa c=>.int^o4 a c:=vm λ_ _ _ _ _ _ _ a=>or_int a
variable{aaT:aj->fo aj}{aaS:Int->Int}
def Vb(f:∀(a:Int)(d:hi)(c:ax)(e:ű)(g:ű),atG e (aaS a) c (aaT^Ì a d) g):yP b aaT^Gn λa=>.int^aaS a:=by intro g c g g h h e e h i;let#[a,rfl,j]:=i;ext Ú d h;calc f a d c _ _ #[.int^aaS a,g,aeV e,j]
def vF:yP b (unaryOp .USub)^Gn λa=>.int (-a):=Vb λ_ _ _ _ _ a=>neg_int a
abbrev Gs:ab->ab->Bool|.ar,.ar=>af|.ar,ψ=>af|ψ,.ar=>af|.ar,.ah _=>af|.ah _,.ar=>af|.ar,aeo=>af|aeo,.ar=>af|ψ,ψ=>af|.ah _,.ah _=>af|aeo,aeo=>af|.bv _,.bv _=>af|ψ,aeo=>af|aeo,ψ=>af|.ah _,aeo=>af|aeo,.ah _=>af|_,_=>ay
abbrev Tz:e9:=λa b c d=>Gs a b=af/\d (afR (a=b)) c
abbrev TM:e9:=λa b c d=>Gs a b=af/\d (.ah (! decide (a=b))) c
def FC:decide (ab.int Xb=ab.int X5)=(Xb==X5):=by rw[e4];simp
variable{YL:Bool}{Zv:Bool}
def FA:decide (ab.ah YL=ab.ah Zv)=(YL==Zv):=by rw[e4];simp
variable{Xn:al}
def FD:decide (ab.str L=ab.str Xn)=(L==Xn):=by rw[e4];simp
variable{aaU:Array UInt8}{aaV:Array UInt8}
def FB:decide (ab.bv aaU=ab.bv aaV)=(aaU.toList==aaV.toList):=by rw[e4];ext aaU;ext aaV;simp
def ea(a:í)(c:Yj (.ah YL) h)(d:YL=Zv):ap5 (.bool Zv) j:=by subst d;calc#[.ah YL,h,a,r,c]
def c2:d9 b (fC .Eq) Tz:=by intro a a a a e g a a a a i c f;let#[h,d]:=f;cases e with|ar=>{ext i;cases g with|ar=>{ext c;calc VF^Ų a d}|ah e=>{ext c;calc VD^Ų a d}|int e=>{ext Ú f c;calc VE^Ų a d}|str e=>{ext Ú f c;calc VG^Ų a d}|_=>calc ω h}|ah j=>{ext i;cases g with|ar=>{ext c;calc VB^Ų a d}|ah e=>{ext c;calc eq_bool^ea a d FA}|str e=>{ext Ú f c;calc Vt^Ų a d}|_=>calc ω h}|int j=>{ext Ú k i;cases g with|ar=>{ext c;calc VC^Ų a d}|int e=>{ext Ú f c;calc eq_int^ea a d FC}|str e=>{ext Ú f c;calc Vu^Ų a d}|_=>calc ω h}|str j=>{ext Ú k i;cases g with|ar=>{ext c;calc VH^Ų a d}|ah e=>{ext c;calc Vv^Ų a d}|int e=>{ext Ú f c;calc Vw^Ų a d}|str e=>{ext Ú f c;calc eq_str^ea a d FD}|_=>calc ω h}|bv j=>{ext Ú k i;cases g with|bv e=>{ext Ú f c;calc W.eq_bytes^ea a d FB}|_=>calc ω h}|_=>ext g<;>calc ω h
def jd:d9 b (fC .NotEq) TM:=by intro a a a a e g a a a a i c f;let#[h,d]:=f;cases e with|ar=>{ext i;cases g with|ar=>{ext c;calc VM^Ų a d}|ah e=>{ext c;calc VK^Ų a d}|int e=>{ext Ú f c;calc VL^Ų a d}|str e=>{ext Ú f c;calc VN^Ų a d}|_=>calc ω h}|ah j=>{ext i;cases g with|ar=>{ext c;calc VI^Ų a d}|ah e=>{ext c;calc ne_bool^ea a d^zL not FA}|str e=>{ext Ú f c;calc Vx^Ų a d}|_=>calc ω h}|int j=>{ext Ú k i;cases g with|ar=>{ext c;calc VJ^Ų a d}|int e=>{ext Ú f c;calc ne_int^ea a d^zL not FC}|str e=>{ext Ú f c;calc Vy^Ų a d}|_=>calc ω h}|str j=>{ext Ú k i;cases g with|ar=>{ext c;calc VO^Ų a d}|ah e=>{ext c;calc Vz^Ų a d}|int e=>{ext Ú f c;calc VA^Ų a d}|str e=>{ext Ú f c;calc ne_str^ea a d^zL not FD}|_=>calc ω h}|bv j=>{ext Ú k i;cases g with|bv e=>{ext Ú f c;calc W.ne_bytes^ea a d^zL not FB}|_=>calc ω h}|_=>ext g<;>calc ω h
def m':d9 b (fC .Lt)^kr λa c=>afR (a<c):=vl λ_ _ _ _ _ _ _ a=>lt_int a
def jG:d9 b (fC .LtE)^kr λa c=>afR (a<=c):=vl λ_ _ _ _ _ _ _ a=>le_int a
def l1:d9 b (fC .Gt)^kr λa c=>afR (c<a):=vl λ_ _ _ _ _ _ _ a=>gt_int a
def SZ:d9 b (fC .GtE)^kr λa c=>afR (c<=a):=vl λ_ _ _ _ _ _ _ a=>ge_int a
def sr:d9 b (fC .Is)^λa c d e=>c=.ar/\e (afR (a=.ar)) d:=by intro f f f d a c c c e d c e f;let#[rfl,g]:=f;ext e;calc is_none_gen^ea d g ?_;ext a<;>first|((ext c;rfl))|(ext Ú a c;rfl)
def ze:d9 b (fC .IsNot)^λa c d e=>c=.ar/\e (.ah (! decide (a=.ar))) d:=by intro f f f d a c c c e d c e f;let#[rfl,g]:=f;ext e;calc isnot_none_gen^ea d g ?_;ext a<;>first|((ext c;rfl))|(ext Ú a c;rfl)
def bH(Xj:bn)(a:YF≠.In:=by decide)(b:YF≠.NotIn:=by decide):anc:=by let c:(YF==CmpOp.In)=ay:=by{ext YF<;>first|(rfl)|calc zH r a};let a:(YF==CmpOp.NotIn)=ay:=by{ext YF<;>first|(rfl)|calc zH r b};ext Xj<;>simp[q2,c,a]
def ha(a:atH)(c:acN)(d:ajE)(e:anc):bj b apX^ap4:=by intro f g g h h i j;calc wpAny_Compare1 (yR c d i j λc d i j k l m n o p=>a f i g l j k c d h m n o p) e
inductive UY(b:(afL))(c:ab)(d:ag):Prop|mk(a:_)(_:c=.ah a)(_:b a d)
abbrev UX(a:a4):dS:=λb c d=>a b c^UY d
def bR(d:atH)(e:acN)(f:ajE)(g:anc):iz b apX^UX^ap4:=by intro a h c i j j k;calc Je (anp e a h c i j k e l v f (λf h #[C,F,G,P,W]=>bv (d a h c F l C e f _ G v P W) λaan a #[am,ab,ae,ag,an,ai,ak]=>?_)) g;subst ai;ext ag;calc mu #[ab,ae,ak]
inductive Un(d:e9)(ZP:a4)(e:aR)(a:aA)(f:ab)(g:ab)(b:ag):Prop|mk(c:_)(_:g=.ah c)(_:(if c=af then ZP e b λh i=>d f h i a else a (.ah ay) b))
abbrev R5(b c:e9)(ZP:a4)(d:aR)(e:aA)(f a:ab)(g:ag):Prop:=b f a g^Un c ZP d e a
abbrev R4(b c:e9)(XY ZP:a4)(a:aR)(d:aA)(e:ab)(f:ag):Prop:=XY a f^R5 b c ZP a d e
abbrev Um(b c:e9)(Xg XY ZP:a4):a4:=λa d e=>Xg a d^R4 b c XY ZP a e
variable{aaW:o7}{abf:e9}
def vn(e:atH)(f:d9 b (fC aaW) abf)(d:acN)(g:ajE)(h:bj b aan ZP)(i:lastMarks [YF,aaW] [Xj,aan]=ay:=by ext aeY):bj b (.Compare W6 [YF,aaW] [Xj,aan] Z)^Um ZO abf Xg XY ZP:=by intro a j c m o p q;calc Compare_chain (ĉ d a j c m p q λj d #[y,C,F,G,P]=>chain_link^ĉ g a d c C F P λd g #[k,W,ab,l,ae]=>bv (e a g c W y k j d _ ab G l ae) λe e #[au,n,u,ag,ai,ak,v]=>?_) i;subst ak;ext ag;calc mu ?_;ext acM ai;{calc ite_ff #[.ah ay,n,u,r,v]};{calc ite_tt^chain_last^ĉ h a e c n u v λe g #[am,an,ao,aq,as]=>f a g c an k am d e o ao l aq as}
def vj:(a9:Nat)<2^63:=by ext ah8
def nf(b:bM [W4] Xd):∃a,Xd=[a]/\bP W4 a:=by ext Ā b a b;{ext b;calc#[_,r,a]}
def Rg:afS "ord"^λd c e=>∃a,d=[û a]/\a.length=1/\e (.int (a.cps.getD 0 0:Nat)) c:=by intro f f f c d d e d e f;let#[a,rfl,a,g]:=f;let#[f,rfl,f,rfl]:=nf e;calc ord_of_one a #[ψ,c,aeV d,g]
structure oH(b:aG)(c a d:ac)(e:Ą):Prop where(obj:b.get? c=aa^nH d a)(ns:b.Ns1 a e)(b3:a≠c)
variable{m:al->Option aj}
def F6(d:t.Ns1 f m):∃a,t.get? f=aa a/\∀b,wh b a=aa^m b:=by let#[a,c,e,e,g,h,_,i]:=d;calc#[a,e,Í b];let a:=i b;unfold nsFind findBy at a;rw[<-Array.find?_toList]at a;unfold wh;ext adO g;split;{rename_i d b;rw[b]at a;calc zL aa a};{rename_i b;rw[b]at a;let b:c.toList.any (·.refKey)=ay:=by{rw[sK];intro d e;let#[g,g,g]:=h d^Array.mem_toList_iff.mp e;simp[DictEntry.refKey,g]};let d:¬c.toList.any (·.refKey)=af:=by{rwa[b,ej]};rwa[zF d,zL aa a]}
variable{w:ac}
def oH.look(b:oH t f s w m):∃a,AJ t f (nH w s) w^aa a/\∀c,wh c a=aa^m c:=let#[a,k,l]:=F6 b.ns;#[a,#[b.obj,r,r,k],l]
variable{Xa:aQ}{YR Xl:ac}{ZQ:al->Option aj}{X6:al}
def RB(a:ajM)(b:atI)(c:ti d s X6=af)(e:tf d s=af)(f:ϸ X6=adP)(g:ZQ X6=aa W8)(h:AO W8=af)(k:XP W8 aln):ah9 (tm Ϲ X6 YL):=by let#[l,l,m]:=b.look;calc W.get_value a l (AT c).1 (IQ e f r^by rw[m,g]) h k
variable{Zw:fo Bool}{aao:aj×List aj->ax->Prop}
def RC(b:ajM)(c:atI)(a:ti d s X6=af)(e:ϸ X6=ajN)(f:anq)(g:ZQ X6=ah)(h:aao (acO,[Ϲ]) j):ť (nO Ϲ X6 Zw) aao Xk j:=by let#[k,l,m]:=c.look;calc W.method_fn b l (AT a).1 (AT a).2 e (ajO f) (by show(wh X6 k).map (·.isSome)=aa ay;rw[m,g];rfl) h
def Ua(c:ajM)(a:atI)(f:ϸ "__setattr__"=aeZ "object.__setattr__")(g:AU d s=af)(h:AV d s X6=adP)(k:tf d s=af)(l:AW ZQ Xh)(m:Xh.length<=a9)(n:∀b,oH b x YR s (λe=>if e=X6 then aa W8 else ZQ e)->kC YR j.heap b->axG b):axH:=by let#[e,e,o]:=a.look;calc IV c e f^W.osa_open (s:=aln) (r:=ah) c e g h (Í e);let#[e,e,f]:=W.any_some k;let g:j.heap.get? x=aa #[ß,aa YR,.plain,#[]]:=a.obj;calc axI g c e;rwa[f,aT (a:=aa YR)^ar^aT^ź];calc wpAny_nsSet1 (s:=aln) a.ns (Å b b c);let#[e,e,e,e,f,g]:=b.count^IX X6 W8 l;calc ar^Jg e (by rwa[f,I4^ds g^by rwa[ce,aF m 1]]) ?_;calc aT^n _ #[(c.2 _^ci a.b3).trans a.obj,b,a.b3] c
variable{Y7:qW->ax->Prop}{WJ:List (al×aj)}
def SH(a:ajM)(b:AQ d s=af)(c:ap6)(e:wj d^acO=aa^Þ "function")(f:jo Ϻ (alo #[ß::Xd,WJ]) (.call acO #[.ref ō::Xd,WJ]) (W.InitBack ō Y7) {j with heap:=atJ}):jo Ϻ W2 (.call ß #[Xd,WJ]) Y7 j:=by let#[g,g,g,g,g]:=j;calc W.make_core (W.makes_of a b) (th a c) (λb=>W.bind_fn a b e) ħ f
abbrev ca(a:al)(b:ab):aee->aee|[]=>[(a,b)]|(c,e)::d=>if c=a then(c,b)::d else(c,e)::ca a b d
def F7(b a:al)(f:ab):∀d:aee,(ca b f d).lookup a=if a=b then aa f else τ d a|[]=>by{show jL a [(b,f)]=_;by_cases c:a=b;{let d:(a==b)=af:=ap7 c;simp only[jL,d,zG c]};{let d:(a==b)=ay:=apR c;simp only[jL,d,zF c]}}|(e,h)::g=>by let i:=F7 b a f g;ext atK b f e h g k;{rw[zG k];by_cases c:a=e;{let d:(a==e)=af:=ap7 c;simp only[jL,d,zG^c.trans k]};{let d:(a==e)=ay:=apR c;simp only[jL,d,zF^λf:a=b=>c^f.trans k.symm]}};{rw[zF k];by_cases c:a=e;{let d:(a==e)=af:=ap7 c;simp only[jL,d,zF^λf:a=b=>k^ah' c f]};{let d:(a==e)=ay:=apR c;simp only[jL,d];calc i}}
def y6(a:al)(b:ab):∀d:aee,a∈(ca a b d).map (·.1)/\∀c,c∈ė d->c∈(ca a b d).map (·.1)|[]=>#[by{simp[ca]},λc d=>by simp at d]|(e,g)::f=>by let#[h,i]:=y6 a b f;ext atK a b e g f k;{rw[zG k];subst k;calc#[by{simp},λc d=>by exists d]};{rwa[zF k,#[?_,Â c d]];{rwa[dg,cu _ h]};{rw[dg]at d⊢;ext adQ d a;{calc bK.mpr^Ð a};{calc cu _^i c a}}}
def F4(a:al)(b:ab):∀c:aee,(ca a b c).length<=Ŏ c|[]=>by{simp[ca]}|(c,e)::d=>by let f:=F4 a b d;ext atK a b c e d k;{rwa[zG k,ce,ce,cQ _ 1]};{rwa[zF k,ce,ce,aF f 1]}
variable{ZJ:Option aj}
def gi.db(b:gi adG ZJ):∃a,ZJ=aa a/\bP W4 a:=by rcases ZJ with _|a;{calc ap8 b};{calc#[a,r,b]}
def gi.fa(a:gi ah ZJ):ZJ=ah:=by rcases ZJ with _|b;{rfl};{calc ap8 a}
def RD(b:ael):AO W8=af:=by cases W4 with|ar=>{cases(show W8=eu from b);rfl}|ah d=>{cases(show W8=nF d from b);rfl}|int e=>{let#[a,c]:=(show∃a,W8=hj e a from b);ext c;rfl}|str e=>{let#[a,c]:=(show∃a,W8=te e a from b);ext c;rfl}|bv d=>{let#[a,c]:=(show∃a,W8=II d a from b);ext c;rfl}|dk d=>{let#[a,c]:=(show∃a,W8=IJ d a from b);ext c;rfl}|ref a=>{cases(show W8=bD a from b);rfl}|dx a=>cases(show W8=mc a from b);rfl
variable{Y1 acr:List (al×ab)}
def y2(d:υ)(e:ap9):∃b,oH W3 a YR s b/\(∀c,gi (Y1.lookup c)^b c)/\AW b^Y1.map (·.1)/\Y1.length<=1000/\h YR=aa^.own a:=by let#[c,f,g,j,b,k,l,m]:=(show ajw^ř YR Y1 from d a _ e);calc#[b,#[j,k,g],l,m,f,c]
structure g5(a:ap)(b:ac):Prop where(ff:ti a b Str.empty=af)(aS:tf a b=af)(fg:AU a b=af)(dX:dh a (À b) "__setattr__"=aeZ "object.__setattr__")
def g5.get(a:g5 d f)(b:al):ti d f b=af:=a.ff
abbrev e1(a:ap)(b:ac)(c:al):Prop:=dh a (À b) c=adP
def e1.fl(a:e1 d f L):AV d f L=adP:=by unfold AV;rw[show dh d ñ L=adP from a];rfl
structure sh(a:ap)(c:ac)(d:al)(b:ac):Prop where(at_:dh a (À c) d=aa^È b)(bx:nI a^À b=af)(bK:gR a^À b=af)
def FP(d:í)(g:ap9)(e:anr)(i:e1 b.as s Xn)(k:Y1.lookup Xn=adG)(l:∀c f,Ă X h f->bP W4 c->XP c f):ans (tm ae0 Xn YL):=by let#[m,n,o,_,_,_]:=y2 d.aq g;let#[c,g,f]:=ap' (ZJ:=m Xn)^by{rwa[<-k,o Xn]};calc RB d.a2 n (e.get Xn) e.aS i g (RD f)^l c _ (d.a3 _) f
def FQ(c:í)(e:ap9)(g:anr)(d:sh b.as s L f)(i:Y1.lookup L=ah)(k:aao (ñ,[ae0]) j):aH adf W2 (nO ae0 L Zw) aao Xk j:=by let#[l,m,n,_,_,_]:=y2 c.aq e;let e:l L=ah:=gi.fa^by{rwa[<-i,n L]};calc RC c.a2 m (g.get L) d.at_ d.bx e k
def Gu(c:í)(g:ap9)(d:anr)(f:e1 b.as s Xn)(i:Y1.length<1000)(n:ael)(o:∀e,Ă X (am h a^ř YR^ca Xn W4 Y1) e->Yq () e):aH adf W2 (setAttr ae0 Xn W8) Yq Xk j:=by let#[k,e,p,l,_,m]:=y2 c.aq g;let q:(Y1.map (·.1)).length<=a9:=by{rwa[aI,b2,ī (ö i)]};calc Ua c.a2 e d.dX d.fg f.fl d.aS l q λq f t=>o _ ?_;let o:∃d,q.get? YR=aa d:=let#[d,_,_,u,_]:=f.ns;#[d,u];calc c.bY (x:=a) (e:=YR) (by rwa[g,lw]) (ÿ m) (ajP c d q g t) o ?_;calc#[by{rwa[ao e.b3,m]},?_,e.b3,f.obj,_,f.ns,Í c,Â c e];{let:=F4 Xn W4 Y1;calc ϙ i};{show gi ((ca Xn W4 Y1).lookup c) (if c=Xn then aa W8 else k c);rw[F7];by_cases d:c=Xn;{rwa[zG d,zG d,n]};{rwa[zF d,zF d,p c]}};{by_cases d:c=Xn;{rwa[d,(y6 Xn W4 Y1).1]};{calc(y6 Xn W4 Y1).2 c^l c λg=>e ?_;show(if c=Xn then aa W8 else k c)=ah;rwa[zF d,g]}}
def av.made(a:í):Ă X (am (am h j.heap.objs.size^.own ō) ō^ř j.heap.objs.size []) {j with heap:=atJ}:=by let c:(ant).get? j.heap.objs.size=aa mf:=dd j.heap r;let d:(atJ).get? ō=aa^atL:=by{let:=dd ant (o:=atL) r;(rw[ie]at this;assumption)};let e:(ant).Ns j.heap.objs.size^ajQ:=#[mf,#[],_,c,r,(λf f=>alp f),aep];let f:=a.laid (a:=j.heap.objs.size) (o:=.own ō) (h':=ant) (t':=j.toks) (Ϙ g i a) (a5 _) #[_,c];calc f.laid (a:=ō) (o:=ř j.heap.objs.size []) (t':=j.toks) (Ϙ g i a) (o1^ie _ _) ?_;let c:j.heap.objs.size≠ō:=ek^jP _;calc#[by{rw[ao c,as]},bF _,c,d,ajQ,(Iu e).at λc a=>cr _ a,λ_=>lw,λa a=>zH r a]
variable{XF:cR}
def Fo{Xn:al}{j:ax}(a:mg Q Xn XF^b1 Q XF=b1 Q XF)(b:ae1 (b1 Q XF) (λc d=>ajR (tm c Xn af) d) Xk j):ajR (b1 (ajS Xn Z) XF) j:=Attribute_any_ b^by rw[arm_eval_Attribute,a]
inductive Uz(b:ap)(c:al)(h:aA)(i:ab)(d:ag):Prop|mk(e a j f g:_)(_:i=À e)(_:d e=aa^.ae a j f)(_:g5 b a)(_:e1 b a c)(_:τ f c=aa g)(_:h g d)
abbrev GB(a:ap)(b:a4)(c:al):a4:=λd e f=>b d e^Uz a c f
inductive T7(d:ap)(e:al)(h:dI)(i:aR)(j:ab)(k:ab)(f:ag):Prop|mk(b a g c:_)(_:k=À b)(_:f b=aa^.ae a g c)(_:g5 d a)(_:e1 d a e)(_:c.length<1000)(_:h.a0 i^am f b^.ae a g^ca e j c)
abbrev Sd(b:ap)(c:a4)(d:al)(e:dI)(a:aR)(f:ab)(g:ag):Prop:=c a g^T7 b d e a f
abbrev T4(b:ap)(c d:a4)(e:al):cN:=λf a g=>d a g^Sd b c e f a
abbrev yG(a:aV)(k:tb)(l:ajI):Prop:=atA h i a l (AZ k h i)
inductive T6(e:ap)(l:a4)(m:ajI)(c:al)(n:dI)(f:aR)(o:ab)(g:ag):Prop|mk(b a p h i:_)(_:o=À b)(_:g b=aa^.ae a p h)(_:g5 e a)(_:e1 e a c)(_:τ h c=aa i)(_:l f g λq s=>m i q s λt j=>∃k d,j b=aa^.ae a k d/\d.length<1000/\n.a0 f^am j b^.ae a k^ca c t d)
abbrev T5(b:ap)(c d:a4)(e:ajI)(f:al):cN:=λg a h=>c a h^T6 b d e f g a
variable{XV ZK:bn}{Ww ab':b7}{V1:a4}
def a3(a:adM)(c:mg Q Xn b.ai^ϴ=ϴ:=by rfl):bj b (ajS Xn Z)^GB b.as Xg Xn:=by intro d e f g h h i;calc Fo c^ĉ a d e f g h i ?_;calc axJ c g j k m λa a a d=>#[g,c,a,d,m]
def c7(d:adR Xg)(e:bj b ZK V1)(f:atM (aa^alq Xn Ww)):axK^T4 b.as Xg V1 Xn:=by intro c g a h i i j;calc I5 (anp e c g a h i j e ag n d (λc d #[ai,ak,v,y,C,am,an,ao,F,G,P,W,ab,ae]=>?_)) f;ext aeq F c C y;calc Gu v G P W ab n λc c=>#[a,_,c,ae]
variable{abg:ab->ab->ag->aA->Prop}
def vr(d:adR Xg)(f:bj b ZK V1)(g:yG b Wd abg):fw b (.AugAssign (alq Xn ab') Wd ZK Z)^T5 b.as Xg V1 abg Xn:=by intro c e a h i i j;calc wpAny_AugAssign_AttributeAny^ĉ d c e a h i j ?_;calc axJ i m d e q λh j k l=>ĉ f c j a i k q λf i #[u,v,y,C,F]=>bv (g c i a v m u h f _ y l C F) ?_;rintro c c ⟨c,c,c,f,g,g,g,h,i⟩;calc Gu c g d e h f λc c=>#[a,_,c,i]
inductive Tp(c:ab)(d:ab)(e:ag)(f:aA):Prop|mk(a b:_)(_:c=Ì a)(_:d=Ì b)(_:f (.int (a+b)) e)
abbrev To:ajI:=λa b c d=>Tp a b c d
inductive TX(c:ab)(d:ab)(e:ag)(f:aA):Prop|mk(a b:_)(_:c=Ì a)(_:d=Ì b)(_:f (.int (a-b)) e)
abbrev TW:ajI:=λa b c d=>TX a b c d
def y1:yG b .Add To:=by ext axL e h a c k;calc HG #[.int (a+c),e,aeV h,k]
def RT:yG b .Sub TW:=by ext axL e h a c k;calc Vk #[.int (a-c),e,aeV h,k]
structure aW(b:Nat)(a:cp):Prop where(aS:a.handled=ah)(c4:a.depth+b+5<recursionLimit)(bV:a.units+16*b+200<eV)
def aW.mono(a:aW B W2)(b:g<=B):aW g W2:=#[a.aS,by{let:=a.c4;calc ai (aF (anu b) 6) this},by let:=a.bV;lia]
def aW.deeper{a:Nat}{b:cp}(c:aW (a+1) b)(d:cR):aW a^b.deeper d:=#[c.aS,by{let:=c.c4;show b.depth+1+a+5<_;calc ai (aF aia 6) this},by let:=c.bV;show b.units+3+16*a+200<_;lia]
def aW.in1{a:Nat}{b:cp}(c:aW (a+1) b):aW a b.in1:=#[c.aS,by{let:=c.c4;show b.depth+a+5<_;calc Đ this},by let:=c.bV;show b.units+1+16*a+200<_;lia]
def SG:(alo #[ñ::Xd,WJ]).depth=W2.depth+1:=by first|(rfl)|simp[Av,Code.weight,Code.isCreation,Code.isGuard,Code.isCaller,H4,Ay,guardIds]
def SI:(alo #[ñ::Xd,WJ]).units=W2.units+1:=by first|(rfl)|simp[Av,Code.cUnits,H4,Ay]
def aW.c9(a:aW (g+1) W2)(b:ac)(c:â)(d:aqa):aW g^alo #[À b::c,d]:=#[a.aS,by{let:=a.c4;rwa[SG,ai (aF aia 6) this]},by let:=a.bV;rw[SI];lia]
def aW.depth{b:Nat}{a:cp}(c:aW b a):a.depth<recursionLimit:=by let:=c.c4;calc anv^ai (aF ġ 6) this
def aW.units{b:Nat}{a:cp}(c:aW b a):a.units+64<eV:=by let:=c.bV;calc aX (W1:=136)^ai (aF ġ 201) this
abbrev sC:ei:=λ_ a b=>b [] a
abbrev R7(a:Á->ĩ)(b:ab)(c:Á)(d:ag):Prop:=a (b::c) d
abbrev R6(a:ei)(b:aR)(c:Á->ĩ)(d:ab)(e:ag):Prop:=a b e^R7 c d
abbrev Uo(b:a4)(c:ei):ei:=λa d e=>b a d^R6 c a e
def an:gh b [] sC:=λ_ _ _ _ a c c d=>o6 #[[],a,c,.nil,d]
def ak(e:ajH)(f:gh b Xe X0)(g:ae2:=by rfl):gh b (Q::Xe)^Uo Yy X0:=by intro Z a c d h i i j;rw[g];show Ģ (spliced ((ay,ϴ)::fp Z^ajT)) c;calc o5^ĉ e a c d h i j ?_;rintro c c ⟨e,g,h,i,j⟩;calc bv (f Z a c d g _ h j) λa a #[k,l,n,u,v]=>#[e::k,l,n,Ů i u,v]
abbrev Sw(d:aA)(b:Á)(c:ag):Prop:=adb b/\∀a,c a=ah->ĕ d a^am c a^.tup b
abbrev UZ(X0:ei):a4:=λa b c=>X0 a b^Sw c
abbrev Sj(d:aA)(b:Á)(c:ag):Prop:=adb b/\∀a,c a=ah->ĕ d a^am c a^.lst b
abbrev UF(X0:ei):a4:=λa b c=>X0 a b^Sj c
def fm{a}(d:gh b Xe X0):bj b (.Tuple Xe a Z)^UZ X0:=by intro a e f g h h i;calc wpAny_Tuple_spliced^bv (d Z a e f g _ h i) λd a #[u,c,k,l,n,v]=>#[by{rwa[<-l.length,n]},?_];calc axM c a k (agR c a^.tup u) v;calc#[n,d,l,#[_,İ,r,_,r]]
def dB(a:gh b Xe X0):bj b (.List Xe Z)^UF X0:=by intro d e f g h h i;calc I9^bv (a Z d e f g _ h i) λd a #[u,c,k,l,n,v]=>#[by{rwa[<-l.length,n]},?_];calc axM c a k (agR c a^.lst u) v;calc#[n,d,0,l,İ]
@[reducible]abbrev dK:=Á->ag->aA->aY->Prop
@[reducible]abbrev fv:=Ψ->ag->ax->aY->ű
structure kk(g:aQ)(h:aN)(i:ap)(j:Ą)(c:aG)(k:cp)(d:Ψ)(a:ax)(e:ag):Prop where(frames:k.frames=aa d)(mod:uU i j c)(bk:∀b f,ď c b f->adg a b=aa f/\e b=ah)(bP:c.objs.size<=a.heap.objs.size)(bz:a.heap.FunFrames c d)(bX:∀b∈fa d,e b=ah)(aq:cG g h e a.heap)(a6:ny a.gens)
abbrev uP(e:Ψ)(f:aQ)(g:aN)(h:ag)(c:ax)(i:aA)(j:aj)(a:ax):Prop:=∃d b,a.os=c.os/\ny a.gens/\e' (fa e) [] h b c.heap a.heap/\cG f g b a.heap/\bP d j/\i d b
abbrev QZ(e:fv)(a:Ψ)(f:aQ)(g:aN)(b:ag)(c:ax)(h:aA)(i:aY)(j:qW)(d:ax):Prop:=match j with|.ok (.ret j)=>uP a f g b c h j d|.ok _=>False|Ϛ f=>e a b c i f d
structure bI(f:aQ)(g:aN)(n:ap)(o:Ą)(p:aG)(q:fv)(s:Nat)(t:ac)(u:b')(i:Ĩ)(j:dK):Prop where(len:∀a b c d,j a b c d->Ē a i)(cy:∀(h:cp)(k:Ψ)(e:ax)(b:ag)(l:Args)(m:â)(a:Á)(c:aA)(d:aY),aW s h->kk f g n o p h k e b->qO e u l^i.zip m->bM a m->j a b c d->jo (a0 f g) h (.call (À t) l) (QZ q k f g b e c d) e)
variable{Yc:List cR}
def kk.c9(a:atN)(b:ac)(c:â)(e:aqa):kk q i d m t (alo #[À b::c,e]) Yc j h:=#[by{first|(calc a.frames)|(simpa[Av,Code.envs,Ay,pushEnvs]using a.frames)},a.mod,a.bk,a.bP,a.bz,a.bX,a.aq,a.a6]
def kk.in1{b:aQ}{c:aN}{d:ap}{e:Ą}{f:aG}{g:cp}{h:Ψ}{i:ax}{j:ag}(a:kk b c d e f g h i j):kk b c d e f g.in1 h i j:=#[a.frames,a.mod,a.bk,a.bP,a.bz,a.bX,a.aq,a.a6]
variable{aaX:ax}
def av.dj(a:í):kk b.prog b.w b.as b.aO b.base b.ao b.stack j h:=#[a.ok.frames,a.ok.mod,a.bk,ds a.ok.bP a.ca,a.stack,a.cV,a.aq,a.a6]
def av.after(a:í)(c:uP b.stack b.prog b.w h j Yj W8 aaX):ap5 W8 aaX:=by let#[d,e,f,g,i,k,l,m]:=c;let#[c,n,o,p,q]:=aaX;obtain rfl:q=j.os:=f;calc#[d,e,a.call (h':=c) (g':=n) (d':=o) (t':=p) (ch:=[]) i k g^alr a a,l,m]
abbrev R3(a:dK)(b:Á)(c:aY)(d:aA)(e:Á)(f:ag):Prop:=a (e++b) f d c
abbrev zm(a:dK)(b:Á)(c:aY)(d:ei):a4:=λe f g=>d e f^R3 a b c g
inductive UG(e:ac)(f:al)(g:dK)(h:Á)(i:aY)(j:ei)(k:aR)(l:aA)(a:ab)(b:ag):Prop|mk(c m d:_)(_:a=À c)(_:b c=aa^.ae e m d)(_:τ d f=ah)(_:j k b λn o=>g (a::(n++h)) o l i)
abbrev vB(b:ac)(c:al)(d:dK)(e:Á)(f:aY)(g:a4)(h:ei):a4:=λa i j=>g a i^UG b c d e f h a j
abbrev Sl(a:aA)(b:ac)(c:ab)(d:ag):Prop:=c=.ar/\ĕ a b d
abbrev Sk(d:ac)(e:dK)(f:Á)(g:aY)(h:aA)(i:Á)(c:ag):Prop:=∀a b,c a=ah->c b=ah->b≠a->e (À a::(i++f)) (afT c b a^.ae d b []) (Sl h a) g
abbrev vA(a:ac)(b:dK)(c:Á)(d:aY)(e:ei):a4:=λf g h=>e f g^Sk a b c d h
abbrev gx(e:ap)(f:b')(b:Ĩ)(c:â):Prop:=∀(d:ax)(a:â),e.In d.heap->(a++c).length=b.length->qO d f #[a,[]]^b.zip (a++c)
variable{M:b'}
def gx.all(c:∀a:â,anw a->wk M #[a,[]]=pure^Xh.zip a):gx d M Xh []:=λb a _ b=>by rw[fd]at b⊢;calc .of_eq^c a b
abbrev h3(f:fv)(a:aV)(g:aY):Prop:=∀(h:Ĉ)(i:aR)(b:ag)(c:ax)(d:aj)(e:ax),av a h i b c->f a.stack b c g d e->a.aD d e
variable{XU:fv}{XC:dK}{YV:List ab}{XA:aY}{Yo:al}{Yl:b7}
def vt(a:aib)(i:aic)(k:aid)(l:aie)(m:adS)(c:í)(d:bM O XS)(e:XC (O++YV) h Yj XA):Ĺ (fB acO XS) ap5 b.aD j:=by let f:bM (O++YV) (XS++Xd):=d.append l;let l:(XS++Xd).length=Xh.length:=by{rwa[<-f.length,a.len _ _ _ _ e]};calc pj^ml (a.cy b.ao b.stack j h #[XS,[]] (XS++Xd) (O++YV) Yj XA i c.dj (k j XS c.a2 l) f e) (Å d e a);rcases d with Q|d;{calc m U X h j Q e c a};{cases d with|ret d=>{calc c.after a}|next=>{calc he a}|brk=>{calc he a}|cont=>calc he a}
def S6(d:aib)(e:aic)(f:ϱ)(h:aeW=aa^acO)(i:gR b.as^acO=af)(j:aid)(k:aie)(l:adS)(m:afU)(n:χ:=by decide)(o:ae2:=by rfl)(p:agS:=by rfl):als^zm XC YV XA X0:=by intro q s t u a a v;calc nT^qj a f h ?_ n;calc we (h₀:=b.base) a.ok.mod.ct i (aqb (m Z q s t u _ a v) a F c y C) o p;calc vt d e j k l c y C
def Ta(h:adR Xg)(i:anr)(a:sh b.as s Yo Xl)(j:aib)(m:aic)(o:aid)(p:aie)(q:adS)(t:afU)(u:ae2:=by rfl)(v:agS:=by rfl)(w:b1 aqc b.ai=(do{let k<-alt;anx;let(Xl,y)<-anz k;nM Z Xl y (fp Z^anA)^anB}):=by rfl):bj b aqc^vB s Yo XC YV XA Xg X0:=by ext axN d e f h x C l c ab w i a;calc we (first:=(æ c)) (h₀:=b.base) f.ok.mod.ct a.bK (aqb (t Z d x e C _ l ab) a ae n ag ai) u v;calc vt (XS:=À c::a) (O:=À c::ae) j m o p q n (Κ ag) ai
def Tb(d:adR Xg)(e:anr)(a:sh b.as s Yo Xl)(f:aib)(h:aic)(i:aid)(j:aie)(m:adS)(n:b1 aqd b.ai=(do{let l<-alt;anx;let(Xl,u)<-anz l;nM Z Xl u (fp Z^cw [] b.ai)^anB}):=by rfl):bj b aqd^vB s Yo XC YV XA Xg sC:=by ext axN o q v d o W k c P n e a;calc AM (first:=(æ c)) k.a2 a.bK^vt (XS:=(æ c)) (O:=(æ c)) f h i j m k anC P
structure si(a:ap)(s Xl:ac):Prop where(bG:AQ a s=af)(init:dh a ß "__init__"=ajN)(bx:nI a^acO=af)(bK:gR a^ß=af)
def Gr(d:si b.as s Xl)(f:aib)(m:alu)(n:aid)(o:aie)(p:adS)(a:í)(e:bM O XS)(l:∀L c,h L=ah->h c=ah->c≠L->XC (.ref L::(O++YV)) (am (am h c^.own L) L^ř c []) (λi k=>i=.ar/\Yj (.ref L) k) XA):Ĺ (fB ß XS) ap5 b.aD j:=by let k:=l ō j.heap.objs.size (a.aq.fresh^lj _) (Ś a)^ek^jP _;let c:=av.made (s:=s) a;let l:bM (ab.ref ō::(O++YV)) (bD ō::(XS++Xd)):=Κ^e.append o;let o:(bD ō::XS++Xd).length=Xh.length:=by{let Q:=l.length;rw[f.len _ _ _ _ k]at Q;calc Q.symm};calc pj^SH (Xl:=Xl) a.a2 d.bG d.init (beq_iff_eq.mp d.bx)^ml (f.cy _ b.stack _ _ #[bD ō::XS,[]] (bD ō::(XS++Xd)) _ _ XA (m.c9 s XS []) (c.dj.c9 s XS []) (n _ (bD ō::XS) c.a2 o) l k) (Å e d a);rcases e with Q|e;{calc p U X _ _ Q d c a};{cases e with|ret d=>{let#[i,d,e,f,i,k]:=c.after a;subst i;calc#[f,#[ab.ref ō,d,e,r,k]]}|next=>{calc he a}|brk=>{calc he a}|cont=>calc he a}
def S9(c:si b.as s Xl)(d:aib)(e:alu)(f:ϱ)(h:aeW=aa^ß)(i:aid)(j:aie)(l:adS)(m:afU)(n:χ:=by decide)(o:ae2:=by rfl)(p:agS:=by rfl):als^vA s XC YV XA X0:=by intro q t u v a a w;calc nT^qj a f h ?_ n;calc we (h₀:=b.base) a.ok.mod.ct c.bK (aqb (m Z q t u v _ a w) a F k y C) o p;calc Gr c d e i j l k y C
def S'(c:si b.as s Xl)(d:aib)(e:alu)(f:ϱ)(h:aeW=aa^ß)(i:aid)(j:aie)(k:adS)(l:χ:=by decide):bj b (aqe Z)^vA s XC YV XA sC:=by intro a a a a a a m;calc nT^qj a f h ?_ l;calc AM a.a2 c.bK^Gr (XS:=[]) c d e i j k a .nil m
structure dJ(c b:Ĩ)(a:dF):Prop where(kind:aqf a)(c3:a.isCoroutine=ay)(eb:a.isGenerator=ay)(ak:c.Nodup)(pre:c.take b.length=b)(dT:∀d∈b,ats a d)(e':∀e∈a.names,e.2≠.free)
def Ft{e:aqg}{a:al}:∀{d:aqa}{b:Ą},(∀c,(a,c)∉d)->nL e d b a=b a|[],_,_=>r|(e,c)::f,b,d=>by unfold nL;rw[Ft (γ b f d)];split;{let:a≠e:=by{rintro rfl;calc d c cj};simp[this]};{rfl}
def Fq{e:aqg}{a:al}:∀{d:aqa}{b:Ą},(∀c,(a,c)∉d)->nK e d b a=b a|[],_,_=>r|(e,c)::f,b,d=>by unfold nK;rw[Fq (γ b f d)];split;{rfl};{let:a≠e:=by{rintro rfl;calc d c cj};simp[this]}
def Fs{d:aqg}{e:al}{j:aj}:∀{a:Ĩ}{b:â}{f:Nat}{c:Ą},a.Nodup->é a f e->é b f j->d e=adJ->nL d (a.zip b) c e=aa j|[],_,_,_,_,g,_,_=>by{simp at g}|_::_,[],_,_,_,_,g,_=>by{simp at g}|g::a,k::b,0,c,l,h,i,m=>by{simp at h i;subst h;subst i;show nL d ((g,k)::a.zip b) c g=_;unfold nL;rw[Ft λj j=>(jN.mp l).1 (vV j).1,zG m];simp}|g::a,k::b,f+1,c,l,h,i,m=>by show nL d ((g,k)::a.zip b) c e=_;unfold nL;calc Fs (f:=f) (jN.mp l).2 (by exists h) (by exists i) m
def Fp{d:aqg}{e:al}{j:aj}:∀{a:Ĩ}{b:â}{f:Nat}{c:Ą},a.Nodup->é a f e->é b f j->d e≠adJ->nK d (a.zip b) c e=aa j|[],_,_,_,_,g,_,_=>by{simp at g}|_::_,[],_,_,_,_,g,_=>by{simp at g}|g::a,k::b,0,c,l,h,i,m=>by{simp at h i;subst h;subst i;show nK d ((g,k)::a.zip b) c g=_;unfold nK;rw[Fq λj j=>(jN.mp l).1 (vV j).1,zF m];simp}|g::a,k::b,f+1,c,l,h,i,m=>by show nK d ((g,k)::a.zip b) c e=_;unfold nK;calc Fp (f:=f) (jN.mp l).2 (by exists h) (by exists i) m
abbrev jf(b:Ĩ)(a:Á):aR:=a.map aa++jm (b.length-a.length) ah
abbrev f2(h:fv)(i:aQ)(j:aN)(m:ap)(n:Ą)(o:aG)(p:Ĩ)(b:al)(c:dF)(d:ac)(e:aj)(k:cp)(f:Ψ)(a:ax)(g:ag)(l:aY):aV where prog:=i;w:=j;as:=m;aO:=n;base:=o;ao:=k.deeper^anD b c a d e;aX:=p;be:=a;cj:=g;ai:=anD b c a d e;bu:=f;stack:=anD b c a d e::f;au:=[];bi:=af;bx:=λ_=>af;bH:=[];aD:=λm n=>aH (a0 i j) (k.deeper^anD b c a d e) (wo (anD b c a d e) m) (λ_ b=>h f g a l m b) (λc b=>h f g a l c b) n
variable{W9:dF}
def Fw(a:W9.names.lookup L=ϖ):∃b,(f6 g W9.names []).lookup L=aa b:=by let b:=AN W9.names g []^Ð a;calc f4.mp b
variable{Ya:List al}
def FV(k:aif W9)(w:afV)(c:atN)(x:O.length=Ya.length)(y:ahX)(l:InCallC j j.heap.objs.size (nL axO (Ya.zip Xd) ajQ) (anE []) (nK axO (Ya.zip Xd) ajQ) Yx):av axP [] (jf Xh O) h Yx:=by let a:Ya.length<=Xh.length:=by{let:=zL gP k.pre;rw[dD]at this;calc ai afW^afX};let#[Ä u a,v]:=l.done;let s:∀e:ac,e∉(axP).au:=λe o=>aqh e o;calc#[#[c.mod,k.kind,r,r,a5 _,ê a o g u b,Â a n,λa g _ p=>?_,λ_=>w,HM c.frames,.inr aeX,λe o=>zH o^s e,c.bk,c.bP,λe _ _=>s e,λe o=>zH o^s e,c.bz,c.bX],r,c.a6,e'.kept v,#[_,l.toInCall.ns,ò e a s u b o],λa g p=>#[_,l.cell a g p],Ś c,Å a g p,λw o=>anF (show w∈([]:Ĉ) from o),c.aq.kept v,?_];{calc name_of_addr l.apart (ig u)^ig b};{let n:W9.names.lookup a=ϖ\/W9.names.lookup a=adK:=n;ext ĸ n;{calc Fw n};{calc zH r^k.e' _^ig n}};{calc jO^l.above a g^ig p};{let n:e<O.length:=by{unfold jf at b;by_cases n:e<O.length;{calc n};{rw[lc^by exists n]at b;rw[List.getElem?_replicate]at b;ext alv b}};let w:O[e]?=aa s:=by{unfold jf at b;rw[lb^by{exists n},b9]at b;rcases s:O[e]?with _|v;{ext Æ s b};{ext Æ s b;rfl}};let#[b,v,z]:=y.get w;let o:Ya[e]?=aa a:=by{rwa[<-k.pre,List.getElem?_take_of_lt^ai n^aZ x,u]};let e:Ya.Nodup:=by{rwa[<-k.pre,k.ak.sublist^Hg _ _]};calc#[b,z,?_];rcases k.dT a^cq o with b|b;{calc .inl #[b,Fs e o v b]};{let#[g,s]:=Fw (g:=ō) b;calc è #[Ð b,g,s,?_];let k:=l.cell a g s;rw[Fp e o v^by show W9.names.lookup a≠_;rw[b];decide]at k;calc k}};{calc c.aq.fresh^jO^l.above a g^ig p};{unfold jf;show _=Xh.length;rw[cO,aI,qE];lia}
variable{abh:Au}{XM:aj}{YW:aj}{Y8:aj}{YX:aj}{Zx:aj}{V2:aj}{X1:Option ac}{X7:Option ac}{Zi:Array (Option aj)}
def y0(B:adT=aa #[V2,X7,.func^axQ,Zi])(C:ls d YX Xn=af)(o:aif W9)(a:anG e b h j)(D:∀(l:cp)(n:Ψ)(c:ax)(b:ag)(e:Á)(h:aA)(j:aY),aW g^l.deeper^hL Xn W9 c.heap.objs.size f YX->XC e b h j->∃w,g6 (aqi Xn W9 f YX l n c b j) Zh w/\w (aqj k h) (jf Xh e) b):ϊ XU (g+1) f axQ Ya XC:=by calc#[a,λl n c b p E e h j x p F G z=>?_];let H:=a _ _ _ _ z;let A:d.In c.heap:=p.mod.ct.keeps (am5 a y s p);let I:c.heap.NoLimit:=p.mod.nolimit.keeps (am5 a y s p);let y:∀a∈Ya.zip E,W9.names.lookup a.1=adJ\/(W9.names.lookup a.1=ϖ/\((alw c []).lookup a.1).isSome=af):=λ#[P,v] a=>by{rcases o.dT P (vV a).1 with a|a;{calc Ð a};{calc è #[a,AN _ _ _^Ð a]}};calc I0 x.depth (A _ _ B) r o.c3 o.eb r (IN A C)^F _ _ _ _ ?_;calc Ji o.kind y (Ô y B y A);subst B;calc#[I.keeps A.toInCall.keep,codeAny_func ?_];let#[w,w,B]:=D l n c b e h j (x.deeper _) z;let z:av (aqi Xn W9 f YX l n c b j) [] (jf Xh e) b y:=FV o x.aS p H G A;calc eW (w [] y (jf Xh e) b _ z B) (Å w p e) λs p e=>e;let s:∀{o:aR}{k:ag}{v:ab}{u:aj},av (aqi Xn W9 f YX l n c b j) [] o k p->bP v u->h v k->uP n q i b c h u p:=λ{o k v u} b c a=>#[v,k,ala b,b.aq,c,a];cases w with|ret u=>{let#[v,o,k,b,c,a]:=e;calc s b c a}|next=>{let#[o,k,b,a]:=e;calc s (v:=ab.ar) (u:=eu) b r a}|brk=>{let#[_,_,_,a]:=e;calc he a}|cont=>let#[_,_,_,a]:=e;calc he a
variable{ZR:String}{V3:List ab->ag->aA->Prop}
abbrev R2(V3:Á->adc)(a:aA)(b:Á)(c:ag):Prop:=V3 b c a
abbrev GA(V3:Á->adc)(X0:ei):a4:=λa b c=>X0 a b^R2 V3 c
def c4(e:hv b (.builtin YG) V3)(f:ϱ)(g:aeW=ah)(h:mj L=aa^.builtin YG)(i:afU)(j:L≠"__name__":=by decide)(k:χ:=by decide)(l:ae2:=by rfl)(m:agS:=by rfl):als^GA V3 X0:=by intro a n c o p d q;calc nT^kq d f g h ?_ j k;calc Vj (bv (i Z a n c o _ d q) (atF e a c p)) l m
def na(e:hv b (.type ZR) V3)(f:ϱ)(g:aeW=ah)(h:mj L=aa^.type ZR)(i:afU)(j:L≠"__name__":=by decide)(k:χ:=by decide)(l:ae2:=by rfl)(m:agS:=by rfl):als^GA V3 X0:=by intro a n c o p d q;calc nT^kq d f g h ?_ j k;calc o2 (bv (i Z a n c o _ d q) (atF e a c p)) l m
abbrev ck(b a:Nat):δ->Nat|ah=>a|aa a=>atO a b
def Fa(b a:Nat):ck b a ah=a:=r
def se(b c a:Nat):ck b c^aa (Ñ a)=min a b:=by show(if Ñ a<0 then(Ñ a+Ñ b).toNat else min (anH a) b)=min a b;rw[zF^aqk,hf]
def QU(a b:Nat)(d:b<=a)(c:δ):ck a b c<=a:=by ext adF c b;{calc d};{show(atO b a)<=a;by_cases k:b<0;{rw[zG k];lia};{rwa[zF k,afX]}}
def E'(a:Int)(b d:Nat):(axR a b)=((ck b d^aa a:Nat):Int):=by show(axR a b)=(((atO a b):Nat):Int);by_cases c:a<0;{simp only[zG c];lia};{simp only[zF c];lia}
def QP(b c:δ)(a:Nat):Aw b c 1 (Ñ a)=(((ck a 0 b:Nat):Int),((ck a a c:Nat):Int)):=by let d:¬(adh<0):=by{lia};unfold Aw;simp only[d,if_false];calc hK ?_ ?_;{ext adF b b;{rfl};{calc E' b a 0}};{ext adF c b;{rfl};{calc E' b a a}}
def QT(a b:Nat):v7 (Ñ a) (Ñ b) 1=b-a:=by unfold v7;let a:adh>0:=by{lia};simp only[a,if_true,Int.ediv_one];split<;>lia
variable{Yf:Option Int}{abi:Option Int->ax->Prop}
def Fc(b:ln W8 Yf)(a:abi Yf j):ť (Vr W8) abi Xk j:=by cases b with|none=>{calc slicePart_none a}|int b b=>calc slicePart_int a
variable{YM:Option Int}{abj:Int×Int×Nat->ax->Prop}
def Fb(c:j.heap.IsSliceOf f W8 XM .none)(d:ln W8 Yf)(e:ln XM YM)(h:abj (atP,1,ck g g YM-ck g 0 Yf) j):ť (HW ñ^pure Λ) abj Xk j:=by let#[a,a,b,b]:=id c;unfold HW Vq;calc ar^ar^jX a b (x:=W8) r^ar^jX a b (x:=XM) r^ar^jX a b (x:=.none) r^ŏ;calc ar^slicePart_none ?_;show Ģ (if(adh==0)=af then _ else _) j;rwa[anI,ar^Fc d^ar^Fc e^adi];show Ģ (match Aw Yf YM 1 Λ with|(Yf,YM)=>pure (Yf,adh,v7 Yf YM 1)) j;rw[QP Yf YM g];show Ģ (pure (atP,adh,v7 atP ((ck g g YM:Nat):Int) 1)) j;rwa[QT,aT h]
def QS(c:ajv)(b d:Nat):((bB d).filterMap λ(a:Nat)=>c[(Ñ b+Ñ a*1).toNat]?).toArray=((c.toList.drop b).take d).toArray:=by let e:(λ(a:Nat)=>c[(Ñ b+Ñ a*1).toNat]?)=λa=>c[b+a]?:=by{funext a;let:(Ñ b+Ñ a*1).toNat=b+a:=by{lia};rw[this]};rw[e];let:=pick_run c b d;rw[GX]at this;let e:((λd=>c[d]?)∘λd=>b+d)=λa=>c[b+a]?:=r;rw[e]at this;rw[this]
def QR(a:IsTup j.heap f Xt)(d:axS)(e:ln W8 Yf)(g:ln XM YM)(h:¬(aig=0/\alx=Xt.size))(b:XP adN (ajU (aly "tuple" (atQ).toArray)))(k:Xt.size<=a9):ah9 (lu ñ^ß):=by let c:sizeOk^.seq (atQ).toArray:=by{show(atQ).toArray.size<=a9;rwa[dw,dD,jl,iG,ai (ai afX^acP) k]};let k:alx<=Xt.size:=QU _ _ (a5 _) YM;ext axT d a e g;let e:¬(aql):=by{intro a;rw[db,db]at a;let d:((aig:Nat):Int)=0:=eq_of_beq a.1.1;let g:alx-aig=Xt.size:=eq_of_beq a.2;calc h #[aih d,bX k^Ō g^acP]};show Ģ (if aql then _ else _) j;rw[zF e,QS];first|(calc aqm (ajV b) c)|(calc aqm (ar^aT^ajV b) c)|(calc ar^aqm (aT^ajV b) c)|calc ar^aqm (ajV b) c
@[reducible]abbrev oJ:=aR->ag->(δ->ĩ)->Prop
abbrev uX(a:aV)(g:Option bn)(h:oJ):Prop:=∀(c:Ĉ)(d:ax)(b:aR)(e:ag)(f:δ->ĩ),alb a c b e d h f (evalPart g a.ai) (λh i=>∃e g,av a c b g i/\ln h e/\f e g)
abbrev UJ:oJ:=λ_ a b=>b ah a
inductive UR(b:(δ->ĩ))(c:ab)(d:ag):Prop|mk(a:_)(_:c=Ì a)(_:b (aa a) d)
abbrev UQ(a:a4):oJ:=λb c d=>a b c^UR d
variable{YN YY:Option bn}{Wx V4:oJ}{ZL:b7}
def zi:uX b ah UJ:=by intro a a a a c c d;rwa[evalPart_none,aT #[ah,a,c,.none,d]]
def l2(a:ajH):uX b (aa Q)^UQ Yy:=by intro c d e f g g h;rwa[evalPart_some,ĉ a c d e f g h ?_];rintro a a ⟨a,c,d,e,f⟩;let#[a,rfl,g]:=f;ext Ú f e;calc#[aa a,c,d,Ì a f,g]
abbrev sl(b:aV)(l:ajW):Prop:=∀(d:Ĉ)(a:ax)(e:aR)(f:ag)(g:ab)(c h i:aj)(YN YY:δ)(j:ac)(k:aA),av b d e f a->bP g c->a.heap.IsSliceOf j h i .none->ln h YN->ln i YY->l g YN YY f k->∃f g,ts (.type f) "__getitem__"=pure^aa^.builtin g/\a.TypeIs c f/\Ĺ (lu c^À j) (fJ b d e k) b.aD a
abbrev Ss(a:ajW)(b:aA)(c:ab)(d e:δ)(f:ag):Prop:=a c d e f b
abbrev Sr(a:ajW)(V4:oJ)(b:aR)(c:aA)(d:ab)(e:δ)(f:ag):Prop:=V4 b f^Ss a c d e
abbrev Sq(b:ajW)(Wx V4:oJ)(a:aR)(c:aA)(d:ab)(e:ag):Prop:=Wx a e^Sr b V4 a c d
abbrev UW(b:ajW)(Yy:a4)(Wx V4:oJ):a4:=λa c d=>Yy a c^Sq b Wx V4 a d
variable{abk:ab->Option Int->Option Int->ag->aA->Prop}
def qn(j:sl b abk)(a:ajH)(e:uX b YN Wx)(f:uX b YY V4):bj b (.Subscript Q (.Slice YN YY ah ZL) Z)^UW abk Yy Wx V4:=by intro c g d i h k l;calc Ap^ĉ a c g d i k l ?_;rintro g a ⟨k,i,l,m,n⟩;calc wpAny_Slice^anJ e c a d i l n e u C f;rintro f a ⟨l,i,n,o,p⟩;rwa[evalPart_none,ŏ];let q:av b c d i (atR a e f):=ajJ n a (Ϙ n n n);let#[n,n,n,s,t]:=j c (atR a e f) d i k g e f u l a.heap.objs.size h q m (VP ..) C o p;show Ĺ (As Q (.Slice YN YY ah ZL) g^ϻ a) (fJ b c d h) b.aD (atR a e f);calc tail_any (ops:=[ϻ a,g]) s n t^by ext aeY
abbrev gk(a:Á)(YN YY:δ):Á:=(a.drop^ae3 a 0 YN).take (ajX a YY-ae3 a 0 YN)
def Fz(a:Á)(YN YY:δ):(gk a YN YY).length<=a.length:=by unfold gk;rwa[dD,jl,ai afX^acP]
inductive TT(e:ap)(f:ab)(YN:δ)(YY:δ)(b:ag)(g:aA):Prop|mk(d a:_)(_:f=À d)(_:bw e b d a)(_:¬(ae3 a 0 YN=0/\ajX a YY=a.length))(_:∀c,b c=ah->ĕ g c^am b c^.tup^gk a YN YY)
abbrev TS(a:ap):ajW:=λb YN YY c d=>TT a b YN YY c d
def Gv:sl b^TS b.as:=by intro a f a a a a a a YN YY a a c e j k l g;let#[Ä a a,m,n,d]:=g;ext axU e g h i c m e a;calc QR h j k l (by rwa[e,n]) ?_^by{rwa[e,i]};rwa[e,#[ϻ f,_,alz c f (o:=.tup^gk a YN YY) (Ϙ e e d) (a5 _) ?_,r,d _^Ś c]];calc#[ds (Fz a YN YY) i,_,(g.drop^ae3 a 0 YN).take (ajX a YY-ae3 a 0 YN),Hz _ _]
abbrev kp(b:Nat)(a:Int):adU:=if 0<=a then(if a<b then aa a.toNat else ah)else if-Ñ b<=a then aa (a+b).toNat else ah
abbrev k7{a:Type}(b:ì a)(c:Int):Option a:=(kp b.length c).bind λa=>b[a]?
def FY(a:kp g Xb=aa B):seqIndex? Xb g=aa B/\B<g/\ -Λ<=Xb/\Xb<g:=by unfold kp at a;by_cases k:0<=Xb;{rw[zG k]at a;by_cases c:Xb<g;{rw[zG c]at a;let b:Xb.toNat=B:=bW a;calc#[by{rw[A4 k c,b]},by{lia},by{lia},c]};{rw[zF c]at a;ext a}};{rw[zF k]at a;by_cases c: -Λ<=Xb;{rw[zG c]at a;let b:(Xb+g).toNat=B:=bW a;calc#[by{rw[A3 (sI.mp k) c,b]},by{lia},c,by lia]};{rw[zF c]at a;ext a}}
def Fn{d:Type}{a:ì d}{e:d}(b:k7 a Xb=aa e):∃c,seqIndex? Xb a.length=aa c/\é a c e/\ś c a/\ -(a.length:Int)<=Xb/\Xb<a.length:=by unfold k7 at b;rcases d:kp a.length Xb with _|c;{ext Æ d b};{rw[d]at b;let#[a,e,f,g]:=FY d;calc#[c,a,b,e,f,g]}
def b0{b:Type}{a:ì b}{c:b}(d:a[g]?=aa c):k7 a Λ=aa c:=by let b:g<a.length:=ä d;let c:kp a.length Λ=aa g:=by{unfold kp;rw[zG^gA _,zG^hd b];simp};unfold k7;rwa[c,d]
def Rd{c:Type}(a:ì c)(b:c):k7 (a++[b]) (-1)=aa b:=by let c:(a++[b]).length=Ŏ a:=by{simp};let d:kp (a++[b]).length (-1)=aa a.length:=by{unfold kp;rw[c,anI,zG^by lia];congr 1;lia};unfold k7;rw[d];show(a++[b])[a.length]?=aa b;simp
abbrev Q4(c:bn):Prop:=∀a b,atU c a b
abbrev sf(a:aV)(l:e9):Prop:=∀(m d:bn)(e:Ĉ)(f:ax)(g:aR)(h:ag)(i j:ab)(b c:aj)(k:aA),av a e g h f->bP i b->bP j c->l i j h k->atU d b c->afM a (As m d b c) (fJ a e g k) f
abbrev p7(a:aV)(k:String)(l:ae4):Prop:=axV a l k
def br(a:sf b ZO)(c:acN)(d:ajE)(e:Q4 Xj:=by calcλ_ _=>r):bj b (.Subscript W6 Xj Z)^ap4:=by intro f g g h h i j;calc Ap^yR c d i j λc d i j k l m n o p=>a W6 Xj f i g l j k c d h m n o p^e _ _
inductive TI(f:ap)(g:ab)(h:ab)(a:ag)(i:aA):Prop|mk(b c d e:_)(_:g=À b)(_:h=Ì d)(_:aw f a b c)(_:k7 c d=aa e)(_:i e a)
abbrev Gk(a:ap):e9:=λb c d e=>TI a b c d e
inductive TJ(f:ap)(g:ab)(h:ab)(a:ag)(i:aA):Prop|mk(b c d e:_)(_:g=À b)(_:h=Ì d)(_:bw f a b c)(_:k7 c d=aa e)(_:i e a)
abbrev Gl(a:ap):e9:=λb c d e=>TJ a b c d e
def cl:sf b^Gk b.as:=by intro a a h p i q a a a a j g a c e l;let#[d,d,Ř d s,f,n,t]:=e;ext a;ext Ú a c;let#[u,a,e,c]:=g.list f;let#[m,c,o,f,v,w]:=Fn n;let#[f,n,x]:=a.get o;ext Ť y a;let o:=vj;let o:fJ b h i j f p:=#[s,q,g,x,t];by_cases k:0<=d;{let g:d.toNat=m:=by{rw[A4 k w]at c;calc bW c};calc item_listR e.isList k (by lia) (by rw[g];exists n) o l};{let g:(d+(u.toArray.size:Int)).toNat=m:=by{rw[A3 (sI.mp k) v]at c;rwa[dw,<-y,bW c]};calc HL (x:=f) e.isList.typeIs I7.lookup (wpAny_getItem_list_neg (Q:=λa c=>a=f/\fJ b h i j a c) e.isList (sI.mp k) (by rw[dw]<;>lia) (by lia) (by rw[g];exists n) #[r,o]) l}
def dr:sf b^Gl b.as:=by intro a a d i e j a a a a f g a c h k;let#[l,l,Ř l l,m,n,o]:=h;ext a;ext Ú a c;let#[a,a,h,c]:=g.tuple m;let#[m,p,q,c,c,c]:=Fn n;let#[c,n,s]:=a.get q;ext Ť q a;let t:=vj;let t:fJ b d e f c i:=#[l,j,g,s,o];calc HL (x:=c) h.typeIs o3.lookup (getItem_tuple (j:=m) (Q:=λa g=>a=c/\fJ b d e f a g) h (by lia) (by lia) (by rwa[dw,<-q,p]) (by exists n) #[r,t]) k
def SJ(a:â)(b c:Nat)(d:aj):kE (aii c d) (apS a b)={cls:=Þ "list",data:=.seq (a.set c d).toArray b}:=by simp[kE]
def av.lst{h:Ĉ}{i:aR}{f:ag}{g:ax}{c:ac}{d:Á}(j:av b h i f g)(k:f c=à d):∃(a:â) (e:Nat),bM d a/\adg g c=aa (apS a e)/\adb d:=by let#[d,a,e,f,g]:=j.aq c _ k;calc#[a,e,f,g,d]
variable{aap:bb->bb}
def av.eT(d:í)(e:h f=aem)(i:ank=aa atV)(a:aap atV=axW)(k:bM Yi XS)(l:Yi.length<=a9)(c:Nat):Ă X (aef^.lst Yi) {j with heap:=alA aap,toks:=c}:=by let c:(alA aap).get? f=aa axW:=by{rw[nB aap i^by{rw[a]<;>rfl},a]};calc d.bY (x:=f) (e:=f) (by rw[e];trivial) ħ (λXj a a d=>(ajY a).trans d) #[_,c] ?_;calc#[l,XS,B,k,c]
inductive TQ(f:ab)(g:ab)(h:ab)(c:ag)(i:(ĩ)):Prop|mk(a b d e:_)(_:f=À a)(_:g=Ì d)(_:c a=à b)(_:kp b.length d=aa e)(_:i^am c a^.lst^b.set e h)
abbrev TP:ab->ab->ab->ag->(ĩ)->Prop:=λa b c d e=>TQ a b c d e
def sB:Fi b TP:=by intro t d u v a a w a a h a i c f x g;let#[j,y,Ř e a,l,s,m]:=g;ext c;ext Ú c f;let#[n,z,o,f,A]:=i.lst l;let#[c,g,p,q]:=FY s;ext Ť g o;let s:=vj;let s:av b t u (am v j^.lst^y.set a w) {d with heap:=d.heap.update j^kE (aii a h)}:=i.eT l f (SJ n z a h) (o.set x a) (by rwa[l8,A]) d.toks;by_cases k:0<=e;{let d:e.toNat=a:=by{rw[A4 k q]at c;calc bW c};calc W.ki_setAt f k (by lia) (by rwa[dw,<-g,q])^by rwa[d,#[_,s,m]]};{let d:(e+(n.toArray.size:Int)).toNat=a:=by{rw[A3 (sI.mp k) p]at c;rwa[dw,<-g,bW c]};calc W.ki_setBack f (sI.mp k) (by rwa[dw,<-g,p]) (by lia)^by rwa[d,#[_,s,m]]}
def Uc(b c:δ)(a:Nat):(ph b c ah a).1=((ck a 0 b:Nat):Int)/\(ph b c ah a).2.1=((ck a a c:Nat):Int)/\(ph b c ah a).2.2=1:=by calc#[?_,?_,r];{ext axX b a k};{ext axX c a k}
def Ub(a:â)(b c:δ):slicePick a.toArray b c ah=((a.drop^ae3 a 0 b).take (ajX a c-ae3 a 0 b)).toArray:=by let#[d,e,f]:=Uc b c a.toArray.size;unfold slicePick;rw[d,e,f];simp only[sliceRange_one,pick_run,dw]<;>rfl
inductive TR(d:ap)(e:ab)(f:δ)(g:δ)(a:ag)(h:aA):Prop|mk(W6 c:_)(_:e=.ref W6)(_:aw d a W6 c)(_:∀b,a b=ah->ĕ h b^am a b^.lst^gk c f g)
abbrev Gm(a:ap):ajW:=λb c d e f=>TR a b c d e f
def vv:sl b^Gm b.as:=by intro a g a a a a a a c d a a e h l m n i;let#[W6,a,rfl,k,f]:=i;ext h;let#[h,h,i,j]:=e.list k;ext Ť k h;calc#["list",_,I7.lookup,i.isList.typeIs,?_];calc wpAny_getItem_list_slice i.isList l m n .none (by simp) ?_^by{rw[dw]<;>calc Ō k j};rwa[Ub,<-k,#[ϻ g,_,alz e g (o:=.lst^gk a c d) (λXj g f=>cr _ f) (a5 _) ?_,r,f _^Ś e]];calc#[ds (Fz a c d) j,_,0,(h.drop^ae3 a 0 c).take (ajX a d-ae3 a 0 c),İ]
abbrev h5:ab->Bool|.ar=>af|.ah _=>af|ψ=>af|aeo=>af|_=>ay
abbrev g9:ab->ab->Bool|.ar,.ar=>af|.ah W6,.ah Xj=>W6==Xj|.ah W6,.int Xj=>(if W6 then 1 else 0)==Xj|.int W6,.ah Xj=>W6==(if Xj then 1 else 0)|.int W6,.int Xj=>W6==Xj|.str W6,.str Xj=>W6==Xj|_,_=>ay
variable{YH:ab}
def Rt(d:ael)(a:bP YH XM)(f:h5 W4=af)(e:h5 YH=af):wb W2 j W8 XM^g9 W4 YH:=by cases W4 with|ar=>{ext d;cases YH with|ar=>{ext a;calc SeqAt.EqAt.same _}|ah Xj=>{ext a;calc SeqAt.EqAt.none_bool Xj}|int Xj=>{ext Ú b a;calc SeqAt.EqAt.none_int Xj b}|str Xj=>{ext Ú b a;calc SeqAt.EqAt.none_str Xj b}|_=>calc ω e}|ah W6=>{ext d;cases YH with|ar=>{ext a;calc SeqAt.EqAt.bool_none W6}|ah Xj=>{ext a;calc SeqAt.EqAt.bool_bool W6 Xj}|int Xj=>{ext Ú b a;calc SeqAt.EqAt.bool_int W6 Xj b}|str Xj=>{ext Ú b a;calc SeqAt.EqAt.bool_str W6 Xj b}|_=>calc ω e}|int W6=>{ext Ú c d;cases YH with|ar=>{ext a;calc SeqAt.EqAt.int_none W6 c}|ah Xj=>{ext a;calc SeqAt.EqAt.int_bool W6 c Xj}|int Xj=>{ext Ú b a;calc SeqAt.EqAt.int_int W6 c Xj b}|str Xj=>{ext Ú b a;calc Iz W6 c Xj b}|_=>calc ω e}|str W6=>{ext Ú c d;cases YH with|ar=>{ext a;calc SeqAt.EqAt.str_none W6 c}|ah Xj=>{ext a;calc SeqAt.EqAt.str_bool W6 c Xj}|int Xj=>{ext Ú b a;calc IA W6 c Xj b}|str Xj=>{ext Ú b a;calc SeqAt.EqAt.str_str W6 c Xj b}|_=>calc ω e}|_=>calc ω f
abbrev hB(a:ab)(b:aj):Bool:=match b with|.none=>g9 .ar a|.bool Xj=>g9 (.ah Xj) a|Ì b _=>g9 (Ì b) a|û b _=>g9 (û b) a|_=>ay
def vb(a:bP YH W8)(b:h5 YH=af):hB W4 W8=g9 YH W4:=by cases YH with|ar=>{ext a;rfl}|ah Xj=>{ext a;rfl}|int c=>{ext Ú c a;rfl}|str d=>{ext Ú c a;rfl}|_=>calc ω b
def u3(b:ahX)(a:O.all h5=af):Xd.any^hB W4=O.any λc=>g9 c W4:=by induction b with|nil=>{rfl}|cons b c c=>rw[la,db]at a;rw[jj,jj,vb b a.1,c a.2]
def ql{h:cp}{i:ax}{a:ab}{c:aj}(f:bP a c)(g:h5 a=af):∀{d:Á}{e:â},bM d e->d.all h5=af->∀b∈e,wb h i b c^hB a b|_,_,.nil,_=>anK b a|j::d,b::e,Ů h i,c=>λb a=>by rw[la,db]at c;ext afY a;{rwa[vb h c.1,Rt h f c.1 g]};{calc ql f g i c.2 b a}
abbrev gl(a:ab)(b:Á):Bool:=b.any λb=>g9 b a
inductive TF(e:ap)(f:Bool)(b:ab)(g:ab)(c:ag)(h:aA):Prop|mk(d a:_)(_:g=À d)(_:(aw e c d a\/bw e c d a))(_:h5 b=af)(_:a.all h5=af)(_:h (.ah (if f then ! gl b a else gl b a)) c)
abbrev zk(a:ap)(b:Bool):e9:=λc d e f=>TF a b c d e f
def zc:d9 b (fC .In)^zk b.as ay:=by intro a a a k a c c c c f l d e;let#[Ä c c,c,m,g,n]:=e;ext d;ext ĸ c;{let#[d,e,h,o]:=f.list c;calc IC (hB a) h.isList (aqn i j l m e g) (alB k f);rwa[aqo d a,u3 e g,n]};{let#[d,e,h,o]:=f.tuple c;calc SeqAt.in_tupleAt (hB a) h (aqn i j l m e g) (alB k f);rwa[aqo d a,u3 e g,n]}
def zd:atW^zk b.as af:=by intro a a a k a c c c c f l d e;let#[Ä c c,c,m,g,n]:=e;ext d;ext ĸ c;{let#[d,e,h,o]:=f.list c;calc IE (hB a) h.isList (aqn i j l m e g) (alB k f);rwa[aqo d a,u3 e g,n]};{let#[d,e,h,o]:=f.tuple c;calc SeqAt.notIn_tupleAt (hB a) h (aqn i j l m e g) (alB k f);rwa[aqo d a,u3 e g,n]}
def dY:afS "len"^λe a f=>∃d c,e=æ d/\(aw b.as a d c\/ajF a d c)/\f (alC c) a:=by ext aqp g j g a e f f d c d k;let l:=vj;ext ĸ d;{let#[m,g,h,i]:=f.list d;ext Ť e g;calc Calls.call_len_list h.isList (by simp only[dw]<;>calc hd^Ĭ (Ō e i) l) #[alC c,a,f.a3 _,#[adj j,by rw[dw,e]],k]};{let#[m,g,h,i]:=f.tuple d;ext Ť e g;calc len_tuple h (by simp only[dw]<;>calc hd^Ĭ (Ō e i) l) #[alC c,a,f.a3 _,#[adj j,by rw[dw,e]],k]}
def yS:hv b (Þ "list")^λe a f=>∃h d,e=æ h/\(aw b.as a h d\/ajF a h d)/\∀c,a c=ah->ĕ f c^am a c^.lst d:=by ext aqp k i l a e f m h d j n;let q:∀(c:â),bM d c->adb d->∀(a:aG)(e:Nat),(∀Xj g,i.heap.get? Xj=aa g->a.get? Xj=aa g)->aqq a i=aa {cls:=Þ "list",dict:=ah,data:=.seq c.toArray e,slots:=#[]}->fJ b k l f (ϻ i) (ϳ i a):=λc f g a e k l=>#[ϻ i,_,alz m i k (a5 _)^show ajC _ a _^.lst d from#[g,c,e,f,l],r,n _^Ś m];ext ĸ j;{let#[c,f,d,g]:=m.list j;ext Ť i f;let#[s,n,o,t,p]:=d.isList;calc call_list_seq h ħ n o p (λa e k l=>q c f g a e k l)^by simp only[dw]<;>calc Ō i g};{let#[c,f,d,g]:=m.tuple j;ext Ť i f;let#[s,n,o,t,p]:=d;calc call_list_seq h ϛ n o p (λa e k l=>q c f g a e k l)^by simp only[dw]<;>calc Ō i g}
def yT:hv b (Þ "tuple")^λg a f=>∃c d,g=æ c/\((aw b.as a c d/\∀e,a e=ah->ĕ f e^am a e^.tup d)\/(ajF a c d/\ĕ f c a)):=by intro n e o a g g f f h g;let#[Ä c d,g]:=g;let#[i,rfl,i]:=nf h;ext i;rcases g with⟨h,i⟩|⟨h,i⟩;{let#[j,k,l,m]:=f.list h;ext Ť p k;calc call_tuple_list l.isList (Â g q)^by{simp only[dw]<;>calc Ō p m};let p:av b n o a (ϳ e g):=ajJ f e q;let q:av b n o (anL a g^.tup d) {e with heap:=g.push (Μ "tuple" j)}:=alz p e (λXj e e=>cr _ e) (a5 _)^show ajC _ _ _^.tup d from#[m,j,k,Hz _ _];calc#[anM g,_,q,r,i _^Ś p]};{let#[j,k,l,m]:=f.tuple h;calc call_tuple_same l #[À c,a,f,r,i]}
abbrev GE(e:ap)(a:String)(b:ab)(c:ag):Prop:=match b with|aeo=>a="str"|ψ=>a="int"|À b=>(a="list"/\∃d,aw e c b d)\/(a="tuple"/\∃d,τ e b=aa d/\d.cls=Þ "tuple"/\d.dict=ah)\/(a="dict"/\((∃d,c b=adV d)\/∃d,c b=aa^.aB d))\/(a="set"/\∃a d,c b=aa^.set a d)|_=>False
def U'(f:í)(c:ael)(i:GE b.as YG W4 h):j.TypeIs W8 YG/\∀W6,W8=.ref W6->∃a,j.heap.get? W6=aa a/\a.dict=ah:=by cases W4 with|str k=>{ext Ú d c;cases(show YG="str" from i);calc#[typeIs_str j k d,λ_ a=>nomatch a]}|int e=>{ext Ú d c;cases(show YG="int" from i);calc#[typeIs_int j e d,λ_ a=>nomatch a]}|ref g=>{ext c;rcases i with⟨rfl,c,m⟩|⟨rfl,c,d,n,e⟩|⟨rfl,d⟩|⟨rfl,l,o,d⟩;{let#[l,_,l,_]:=f.list m;calc#[l.isList.typeIs,λW6 a=>?_];ext a;let#[c,o,a,m,e,_]:=l;calc#[c,a,e]};{calc#[#[c,f.a2 g c d,n],λW6 a=>?_];ext a;calc#[c,f.a2 _ c d,e]};{let k:∃c,ĥ g c/\c.ExactDict:=by{rcases d with⟨e,d⟩|⟨e,d⟩;{let#[ć,c,_,_,a,e,_]:=f.aq g _ d;calc#[c,a,e]};{let#[ć,c,_,_,a,e,_]:=f.aq g _ d;calc#[c,a,e]}};let#[c,a,e]:=k;calc#[#[c,a,e.1],λW6 k=>?_];ext k;calc#[c,a,e.2.1]};{let#[c,ů a,e,_]:=f.aq g _ d;calc#[#[c,a,e.1],λW6 k=>?_];ext k;calc#[c,a,e.2.1]}}|_=>calc he i
abbrev R1(a:ae4)(b:aA)(c:ab)(d:Á)(e:ag):Prop:=a c d e b
abbrev R0(c:ap)(d:String)(e:ae4)(f:ei)(g:aR)(h:aA)(a:ab)(b:ag):Prop:=GE c d a b/\f g b^R1 e h a
abbrev Gz(b:ap)(c:String)(d:ae4)(e:a4)(f:ei):a4:=λa g h=>e a g^R0 b c d f a h
variable{abl:a4}{Y9:b7}{aaq:ab->List ab->ag->aA->Prop}
def eB(g:PlainAttrs ZR)(h:Slot ZR X6 YG)(i:typeOf^.builtin YG=axY)(j:p7 b YG aaq)(e:adR abl)(k:afU)(f:mg XV X6 b.ai^alt=alt:=by rfl)(l:((fp Y9^anA).all (λa=> ! a.1)&&(mh Y9^mn [] b.ai).all (λa=>a.1.isSome)&&decide ((Q::Xe).length+atX+(atY)<30))=af:=by rfl)(m:(Yl.endLine==Y9.line)=af:=by rfl)(n:ae2:=by rfl)(o:(fp Y9^ajT).any (·.1)=ay:=by rfl):bj b (agT (alq X6 Yl) (Q::Xe) Y9)^Gz b.as ZR aaq abl X0:=by intro c p d q s t u;calc wpAny_Call_method_late f l m r^ĉ e c p d q t u ?_;rintro l m ⟨a,p,e,f,q,t⟩;let#[u,v]:=U' e f q;calc#[ZR,YG,g,h,i,u,v,?_];let g:=k Y9 c m d p _ e t;rw[n]at g⊢;calc H0 (by show(ay||(fp Y9^ajT).any (·.1))=ay;rw[o]<;>rfl)^H2 ?_;calc bv g λe g #[y,C,F,G,P]=>j c g d C a y l e s F f G P
abbrev yK(a:aV)(k:String)(l:ae4):Prop:=axV a l k
def bM.one(b:bM [W4] Xd):∃a,Xd=[a]/\bP W4 a:=by ext Ā b a b;{ext b;calc#[_,r,a]}
variable{X3 acs:ac}{aar:Array aj->Array aj}
def av.dO(c:í)(d:h X3=aem)(e:j.heap.get? X3=aa atV)(f:aar Xd.toArray=XS.toArray)(i:bM ZN XS)(k:ZN.length<=a9):Ă X (am h X3^.lst ZN) {j with heap:=j.heap.update X3^kE aar,toks:=B}:=by let a:=IsL.update e aar;rw[f]at a;calc c.bY (x:=X3) (e:=X3) (by rwa[d,trivial]) ħ (λc c c d=>(l' j.heap (kE aar)^ci c).trans d) #[_,a] ?_;calc#[k,XS,_,i,a]
def av.eR(a:í)(c:bM ZN Xd)(d:ZN.length<=a9):Ă X (am h j.heap.objs.size^.lst ZN) {j with heap:=j.heap.push (aqr "list"),toks:=g}:=a.laid (aqs a) (a5 _) #[d,Xd,0,c,İ]
def av.fresh(a:í):h j.heap.objs.size=ah:=Ś a
def av.cM(e:í)(f:h X3=aem):O.length<=a9/\∃(a:â) (c:Nat),bM O a/\O.length=a.length/\j.heap.get? X3=aa (apS a c):=by let#[g,a,c,d,i]:=e.aq X3 _ f;calc#[g,a,c,d,d.length,i]
def F9(a:g<=a9):s6 g=ay:=by unfold s6;calc zK^by lia
inductive Tv(d:ab)(e:Á)(b:ag)(f:aA):Prop|mk(l a c:_)(_:d=adk)(_:e=[c])(_:b l=à a)(_:aij a)(_:f .ar^am b l^.lst (a++[c]))
abbrev Tu:ae4:=λa b c d=>Tv a b c d
def iC:yK b "list.append" Tu:=by intro a a a a a a a a a c a g f;let#[h,Ř d d,d,e,i]:=f;ext a;let#[f,rfl,j]:=g.one;let#[a,g,k,l,m,a]:=c.cM d;calc tj ic (ϋ a) F.entry_list_append (F.args_list_append_2 _ _) (list_append h g.toArray k f^by rwa[dw,Đ^Ĭ (au m) e]) #[a,?_];calc#[.ar,_,c.dO (XS:=g++[f]) d a (by simp) (l.append^Ů j .nil) ?_,r,i];rwa[cO,List.length_singleton,e]
inductive TC(e:ab)(f:Á)(a:ag)(g:aA):Prop|mk(l d b c:_)(_:e=adk)(_:f=æ d)(_:a l=à b)(_:a d=à c)(_:adW b c<=a9)(_:g .ar^am a l^.lst (b++c))
abbrev TB:ae4:=λa b c d=>TC a b c d
def sq:yK b "list.extend" TB:=by ext atZ a d c i j f h k l;let#[a,rfl,a]:=c.one;ext a;let#[m,a,n,o,g,e]:=d.cM f;let#[c,c,p,q,s,t]:=d.cM h;ext axZ h a c g s k k;calc ax0 e (AutoSeq1.list_extend_list_list_0 i a.toArray n j c.toArray p k (by rwa[dw,Ō g m])^cX h 1) t d a c f o q l
inductive Tx(f:ab)(g:ab)(a:ag)(h:aA):Prop|mk(l e b c:_)(_:f=adk)(_:g=À e)(_:a l=à b)(_:a e=à c)(_:adW b c<=a9)(_:∀d,a d=ah->ĕ h d^adX a d (b++c))
abbrev Tw:e9:=λa b c d=>Tx a b c d
def l0:d9 b (mi .Add) Tw:=by ext atZ e a d g g g h i j;ext d;let#[c,c,d,f,k,l]:=a.cM g;let#[d,d,g,g,m,n]:=a.cM h;calc P.add_list l n ?_^by{rwa[dw,dw,ai (kz (au k)^au m) i]};let h:c.toArray++d.toArray=(c++d).toArray:=by{simp};rwa[h,#[.ref _,_,a.eR (g:=e.toks) (f.append g)^by{rw[cO];omega},r,j _ a.fresh]]
def bM.dM:∀{c:å}{b:â},bM (Ż c) b->IntsAre b c|[],b,a=>by{rw[lg]at a;ext a;calc IntsAre.nil}|d::c,b,a=>by rw[dg]at a;ext Ā a a b;{ext Ú c a;calc IntsAre.cons d c^bM.dM b}
variable{Xi:List Int}
def Ve(a:IntsAre Xd Xi):bM at0 Xd:=by induction a with|nil=>{calc Iy}|cons a a _ b=>calc Paired.cons #[a,r] b
def bM.dC:∀{c:adY}{b:â},bM (c.map ab.ah) b->b=c.map nF|[],b,a=>by{rw[lg]at a;ext a;rfl}|d::c,b,a=>by rw[dg]at a;ext Ā a a b;{ext a;rw[bM.dC b,dg]}
def bM.da(a:bM [ab.ref f] Xd):Xd=[bD f]:=by ext anj a b;{ext b;ext a;rfl}
variable{abm:List aj}
def SK(k:afV)(e:j.heap.IsList X3 abm.toArray)(f:IntsAre abm Xi)(l:0<Xi.length)(m:∀a c b n,(alD g h a)->b∈Xi->(∀d,d∈Xi->d<=b)->XP (Ì b n) (alE a c)):ah9 (agU "max" [.ref X3]):=by let#[b,g]:=f.allInts.items;let h:numsOf (intItems b).toList=Xi:=by{rwa[<-g,f.numsOf]};rw[nums_intItems]at h;subst h;rw[g]at e;let f:0<b.size:=by{exists l};calc max_intList k e f (ê e a c e f);let#[g,rfl]:=intItems_at e;let#[e,e]:=argBest_gt (numAt b) (b.size-1);calc m a c _ g f ?_ (Â d a);{rwa[numAt_eq,PySem.getD_mem^by rw[aI,iG];omega]};{let#[b,c,rfl]:=mem_getD a;rw[aI,iG]at c;rwa[<-numAt_eq,e b^by omega]}
inductive TL(f:ap)(g:Á)(c:ag)(h:aA):Prop|mk(d:ac)(a:å)(_:g=[ø d])(_:aw f c d^Ż a)(_:0<a.length)(_:∀b,b∈a->(∀e,e∈a->e<=b)->h (Ì b) c)
abbrev TK(a:ap):Á->adc:=λb c d=>TL a b c d
def Rk(c:α):afS "max"^TK b.as:=by intro a a a d a a a a e f;let#[Ä g g,g,h,i]:=f;let#[f,f,j,_]:=a.list g;rwa[bM.da e,SK (ŋ a c) j.isList f.dM h λc c c e e f g=>#[ψ,d,a.kept e,Ŧ,i c f g]]
def Ud(a:g<64):g<=a9:=by rwa[b2,ī (ö a)]
inductive TV(e:ab)(f:Á)(d:ag)(g:aA):Prop|mk(a:ac)(b:å)(_:e=ø a)(_:f=[])(_:d a=aa^ų b)(_:b.length<64)(_:∀c:å,c.Perm b->aqt c->g .ar^am d a^ų c)
abbrev TU:ae4:=λa b c d=>TV a b c d
def SP:p7 b "list.sort" TU:=by intro a k a l a a a a a e c d h;let#[Ř a f,f,g,m]:=h;ext c;ext d;let#[c,n,c,h,c]:=e.aq a _ f;let d:=h.dM;calc ih HI (ϋ c) HD (Vl c d (by rwa[d.length,g]) λh d o i p=>#[.none,r,?_])^HA _;let#[q,j]:=HJ (vs:=n) (out:=h) c;let c:(Ż d).length<=a9:=by{rwa[aI,i.length_eq,Ud g]};calc#[.ar,am l a^ų d,e.bY (e:=a) (t':=k.toks) (by rw[f];trivial) ħ (Ô a a e a) #[_,j] #[c,h.toList,q,Ve o,j],r,m d i p];rwa[HK e^co a,a]
inductive TH(i:ap)(j:ab)(k:Á)(d:ag)(l:aA):Prop|mk(e:ac)(a:Á)(b:ab)(c:Nat)(f:ab)(_:j=ø e)(_:k=[b])(_:aw i d e a)(_:h5 b=af)(_:a.all h5=af)(_:é a c f)(_:g9 f b=af)(_:(∀(g:Nat)(h:ab),g<c->é a g h->g9 h b=ay))(_:l (Ê c) d)
abbrev TG(a:ap):ae4:=λb c d e=>TH a b c d e
def FM(a:O.all h5=af)(b:O[g]?=adG):h5 W4=af:=iI.mp a W4^cq b
universe v737
set_option tactic.hygienic true in def SO:p7 b "list.index"^TG b.as:=by intro Y Z ab o ae ag ak am an j p q s;let#[t,f,u,Ř d ao,v,w,g,k,x,y,z]:=s;ext p;ext Ā q A B;{ext ax1 C B c e D E F l j v;let#[G,H,I]:=e.get k;let#[J,L]:=ľ H;ext Ť M e;let N:d<c.toArray.size:=by{exists J};let aA:=b2;calc tj o9 (ϋ l) Ig (H' _ _) (ID t c.toArray F D E C (hB u) d N (by lia) ?_ ?_) #[l,λO P=>ql A w e g O^by{exists P},?_];{let h:c.toArray[d]=G:=by{exists L};rwa[h,vb I^FM g k,x]};{intro a Q R;let S:ś a c:=by{exists Q};let T:ś a f:=ĺ S M;let i:f[a]?=aa f[a]:=bi T;let#[U,V,W]:=e.get i;let#[_,X]:=ľ V;let h:c.toArray[a]=U:=by{exists X};rwa[h,vb W^FM g i,y a _ R i]};{calc#[Ê d,o,aeV j,z]}}
def FX(b:j.heap.IsList f Xt)(c:∀a:ax,a=ajU (agI "list_iterator" [ñ,Î 0 0])->(a.heap.IsListIter j.heap.objs.size f 0/\a.heap.IsList f Xt)->f≠j.heap.objs.size->XP adN a):ajR (nR^ñ) j:=by let a:f<j.heap.objs.size:=by{let#[_,d,_]:=b;calc co d};calc wz b^c _ r #[agV,b.push _]^ek a
variable{Wy:List Bool}
def GC(d:Xd=Wy.map nF):TruthOf q i W2 (λa b=>Xd.toArray[a]?=aa b)^λa=>Wy.getD a ay:=λa b e f c g h=>by let c:Xd[a]?=aa b:=by{exists g};rw[d,b9]at c;ext ό b d c;let c:Wy.getD a ay=b:=by{rw[dN,d]<;>rfl};let b:f (Wy.getD a ay) e:=h;rw[c]at b;calc mu b
def Fm:∀a:adY,(ae5 a).any (λb=>a.getD b ay)=a.any id|[]=>r|b::a=>by rw[ce,He,jj,GS,jj,<-Fm a];all_goals rfl
def Fk:∀a:adY,(ae5 a).all (λb=>a.getD b ay)=a.all id|[]=>r|b::a=>by rw[ce,He,la,z1,la,<-Fk a];all_goals rfl
inductive Tt(d:ap)(e:Á)(a:ag)(f:aA):Prop|mk(b:ac)(c:adY)(_:e=[ø b])(_:aw d a b^c.map ab.ah)(_:f (.ah^c.any id) a)
abbrev Ts(a:ap):Á->adc:=λb c d=>Tt a b c d
inductive Tr(d:ap)(e:Á)(a:ag)(f:aA):Prop|mk(b:ac)(c:adY)(_:e=[ø b])(_:aw d a b^c.map ab.ah)(_:f (.ah^c.all id) a)
abbrev Tq(a:ap):Á->adc:=λb c d=>Tr a b c d
def yY(d:α):afS "any"^Ts b.as:=by ext ax2 e a g i f k c;calc call_any_walk^FX k.isList (Ô h h j k);ext ax3 h a d g k f j c e i;{show nF _=nF _;rw[<-Fm,c,dw,aI]}
def Fy(d:α):afS "all"^Tq b.as:=by ext ax2 e a g i f k c;calc call_all_walk^FX k.isList (Ô h h j k);ext ax3 h a d g k f j c e i;{show nF _=nF _;rw[<-Fk,c,dw,aI]}
mutual inductive eS(a:ap)(b:ag):ab->lp->Prop|ar:eS a b .ar .none|ah(f:Bool):eS a b (.ah f)^.bool f|int(g:Int):eS a b (Ì g)^Ì g|str(h:al):eS a b (û h)^û h|lst{d:ac}{e:Á}{c:ajZ}:aw a b d e->m5 a b e c->eS a b (À d)^.list c|tup{d:ac}{e:Á}{c:ajZ}:bw a b d e->m5 a b e c->eS a b (À d)^.tuple c inductive m5(a:ap)(b:ag):Á->ajZ->Prop|nil:m5 a b [] []|cons{i:ab}{j:Á}{k:lp}{c:ajZ}:eS a b i k->m5 a b j c->m5 a b (i::j) (k::c)end
mutual def eS.b4(e:í):∀(g:lp)(a:ab)(c:aj),eS b.as h a g->bP a c->∃f,Reads j.heap c g f|.none,_,_,a,c=>by{ext a;ext c;calc#[_,Reads.none]}|.bool i,_,_,a,c=>by{ext a;ext c;calc#[_,Reads.bool i]}|Ì k,_,_,a,c=>by{ext a;ext Ú i c;calc#[_,Reads.int k i]}|û k,_,_,a,c=>by{ext a;ext Ú i c;calc#[_,Reads.str k i]}|.list d,_,_,a,c=>by{cases a with|lst i k=>ext c;let#[l,m,#[u,v,n,o,_,p],_]:=e.list i;let#[f,q]:=eS.cw e d _ l k m;calc#[_,Reads.list n o p q]}|.tuple d,_,_,a,c=>by{cases a with|tup i k=>ext c;let#[l,m,#[u,n,o,v,p],_]:=e.tuple i;let#[f,q]:=eS.cw e d _ l k m;calc#[_,Reads.tuple n o p q]}|.dict _,_,_,a,_=>by{ext a}def eS.cw(e:í):∀(d:ajZ)(s:Á)(t:â),m5 b.as h s d->bM s t->∃f,ReadsAll j.heap t d f|[],_,_,a,c=>by{ext a;ext c;calc#[_,ReadsAll.nil]}|g::d,_,_,a,c=>by{ext Ā a a i;{ext Ā c c k;{let#[f,f]:=eS.b4 e g _ _ a c;let#[a,a]:=eS.cw e d _ _ i k;calc#[_,ReadsAll.cons f a]}}}end
inductive TA(d:ap)(e:ab)(f:ab)(a:ag)(g:aA):Prop|mk(b c:_)(_:eS d a e b)(_:eS d a f c)(_:mb b=af)(_:mb c=af)(_:g (.ah^ma b c) a)
abbrev Gj(a:ap):e9:=λb c d e=>TA a b c d e
inductive TO(d:ap)(e:ab)(f:ab)(a:ag)(g:aA):Prop|mk(b c:_)(_:eS d a e b)(_:eS d a f c)(_:mb b=af)(_:mb c=af)(_:g (.ah (! ma b c)) a)
abbrev TN(a:ap):e9:=λb c d e=>TO a b c d e
def zb(c:agW):d9 b (fC .Eq)^Gj b.as:=by ext ax4 d a p q s k e;calc SeqAt.compareEq_shaped k e p q c #[.ah _,d,a,r,s]
def S1(c:agW):d9 b (fC .NotEq)^TN b.as:=by ext ax4 d a p q s k e;calc SeqAt.compareNe_shaped k e p q c #[.ah _,d,a,r,s]
@[reducible]abbrev Fd(a:aG)(b:ac)(c:aju):Prop:=a.IsCell b c
abbrev T0(a b:dF):dF:={a with names:=a.names.map λ(c,k)=>if(k==.free&&b.kind==.function&&ahZ b c==ϖ)then(c,.cell)else(c,k)}
abbrev f1(b:ż):afZ->ż->ż|[],a=>a|(c,e)::d,a=>if e==.free then f1 b d ((c,(τ b c).getD 0)::a)else f1 b d a
def Fx(c:cR)(g:al×hM->ż->fo^ForInStep^ż)(i:∀b e a,g (b,e) a=if e==.free then(do{let l<-cellOf c b;pure^.yield ((b,l)::a)})else pure^.yield a):∀(h:afZ)(d:ż),(∀f∈h,f.2=.free->∃a,c.cells.lookup f.1=aa a)->forIn h d g=pure^f1 c.cells h d|[],d,_=>by{rw[G3];rfl}|(b,e)::m,d,h=>by rw[List.forIn_cons,i];let j:=λd=>Fx c g i m d (γ f d h);unfold f1;by_cases k:(e==qS)=af;{ext acQ k;let#[a,d]:=h (b,e) cj^by{exists k};let e:cellOf c b=pure a:=by{unfold cellOf;rw[d]};rw[e];let e:(c.cells.lookup b).getD 0=a:=by{rw[d];rfl};rwa[e,j _]};{rwa[zF k,zF k,j _]}
def Ri(c:∀a∈W9.names,a.2=.free->∃b,XF.cells.lookup a.1=aa b):wl W9 XF=pure^f1 XF.cells W9.names []:=by simp only[wl];rw[Fx XF _ (λa a b=>r) W9.names [] c];rfl
def y9{b:Type}:∀{c:List (al×b)}{a:al}{d:b},(a,d)∈c->∃e,τ c a=aa e|(c,e)::f,a,d,b=>by rw[jM];rcases d:a==c with _|_;{ext adZ b a;{ext a;simp at d};{calc y9 b}};{calc Ŧ}
def u9{a:ż}:∀{e:afZ}{d:ż}{b:al}{c:ac},(b,c)∈f1 a e d->(b,c)∈d\/((b,.free)∈e/\c=(τ a b).getD 0)|[],_,_,_,a=>Ð a|(f,e)::g,d,b,c,a=>by unfold f1 at a;split at a;{rename_i b;let b:e=.free:=by{exists b};rcases u9 a with a|⟨c,d⟩;{ext adZ a e;{ext e;calc è #[b▸cj,r]};{calc Ð a}};{calc è #[cu _ c,d]}};{rcases u9 a with a|⟨c,d⟩;{calc Ð a};{calc è #[cu _ c,d]}}
def yW{a:ż}:∀{d:afZ}{b:ż}{c:al×ac},c∈b->c∈f1 a d b|[],_,_,a=>a|(d,e)::f,b,c,a=>by unfold f1;split;{calc yW^cu _ a};{calc yW a}
def yX{b:ż}:∀{c:afZ}{d:ż}{a:al},(a,.free)∈c->(a,(τ b a).getD 0)∈f1 b c d|(c,e)::f,d,a,b=>by unfold f1;ext adZ b a;{ext a;calc yW cj};{split;{calc yX b};{calc yX b}}
def sn:∀{a:afZ}{b:aG}{e:ż}{d:al}{c:ac},(d,c)∈f6 b.objs.size a e->(d,c)∈e\/((d,.cell)∈a/\b.objs.size<=c/\Fd (nQ b a) c ah)|[],_,_,_,_,b=>Ð b|(h,f)::g,b,e,d,c,a=>by unfold f6 at a;unfold nQ;split at a;{rename_i c;rw[zG c];let c:f=.cell:=by{exists c};rw[<-ie b ax5]at a;rcases sn a with a|⟨d,b,e⟩;{ext adZ a f;{ext f;calc è #[c▸cj,a5 _,_,wr g _ _ _^İ,r]};{calc Ð a}};{rw[ie]at b;calc è #[cu _ d,sW b,e]}};{rename_i c;rw[zF c];rcases sn a with a|⟨d,b,e⟩;{calc Ð a};{calc è #[cu _ d,b,e]}}
def u7:∀{a:afZ}{d:Nat}{b:ż}{c:al×ac},c∈b->c∈f6 d a b|[],_,_,_,a=>a|(e,f)::g,d,b,c,a=>by unfold f6;split;{calc u7^cu _ a};{calc u7 a}
def yU:∀{a:afZ}{b:Nat}{d:ż}{c:al},(c,.cell)∈a->∃e,(c,e)∈f6 b a d|(e,f)::g,b,d,c,a=>by unfold f6;ext adZ a c;{ext c;calc#[b,u7 cj]};{split;{calc yU a};{calc yU a}}
def yV:∀{a:afZ}{f:aG}{g:ż}{b c:al}{d:ac},(∀j∈g,j.2<f.objs.size)->(∀b c d,(b,d)∈g->(c,d)∈g->b=c)->(b,d)∈f6 f.objs.size a g->(c,d)∈f6 f.objs.size a g->b=c|[],_,_,_,_,_,_,h,e,a=>h _ _ _ e a|(k,l)::m,f,g,b,c,d,i,h,e,a=>by unfold f6 at e a;split at e;{rename_i g;rw[zG g]at a;rw[<-ie f ax5]at e a;calc yV (f:=f.push _) (Â j f) (ê b c d b c) e a;{rw[ie];ext afY f;{calc jP _};{calc Ai^i j f}};{rcases bK.mp b with d|b<;>rcases bK.mp c with f|c;{obtain⟨⟩:=d;obtain⟨⟩:=f;rfl};{obtain⟨⟩:=d;calc φ (i _ c)};{obtain⟨⟩:=f;calc φ (i _ b)};{calc h _ _ _ b c}}};{rename_i g;rw[zF g]at a;calc yV i h e a}
variable{aaY:List (al×ac)}{abn:cR->ax->Prop}
def SQ(a:abn (newEnv W9 j.heap.objs.size f (anE aaY) L X1 W8 (aa XF) s) {j with heap:=aqu}):adL (newFunctionEnv W9 f aaY [] L X1 W8 (aa XF) s) abn Xk j:=by simp only[newFunctionEnv,Hx,if_true];calc ar^wpAny_alloc ?_;calc ar^wpAny_layCells _ (λb b b=>r) W9.names aaY _ _ ?_;rw[show({j with heap:=anN}:ax).heap.objs.size=ō from ie ..];rwa[G3,ar^aT^aT a]
def y8{c:dF}:∀{f:afZ}{e:al}{d:hM},(f.map λ(b,d)=>if(aqv d c b)then(b,AE)else(b,d)).lookup e=aa d->∃a,τ f e=aa a/\(d=a\/(a=.free/\d=.cell))|[],_,_,g=>by{simp at g}|(b,f)::h,e,d,g=>by let i:=@y8 c h e d;let a:jL e ((if(aqv f c b)=af then(b,AE)else(b,f))::(h.map _))=aa d:=g;rcases d:e==b with _|_;{simp only[jM,d];by_cases k:(aqv f c b)=af;{rw[zG k]at a;simp only[jM,d]at a;calc i a};{rw[zF k]at a;simp only[jM,d]at a;calc i a}};{simp only[jM,d];by_cases k:(aqv f c b)=af;{rw[zG k]at a;simp only[jM,d]at a;ext a;simp only[db,beq_iff_eq]at k;calc#[f,r,.inr #[k.1.1,r]]};{rw[zF k]at a;simp only[jM,d]at a;ext a;calc#[_,r,ħ]}}
structure p5(c:Ĩ)(d b:dF)(e:List (al×Nat)):Prop where(kind:aqf b)(cz:∀a∈b.names,alF b a=aa a.2)(eP:∀f∈e,c[f.2]?=aa f.1)(free:∀a∈b.names,a.2=.free->alF d a=ϖ\/alF d a=adK)(own:∀a∈b.names,a.2=.local\/a.2=.cell->a.1∈ė e\/a.1∉c)
abbrev gN(a:aR):Ã->aR|[]=>a|b::c=>(gN a c).set b ah
def zr(a:aR):∀b:Ã,(gN a b).length=a.length|[]=>r|c::b=>by unfold gN;rw[l8,zr a b]
def zs{d:aR}{b:Nat}{a:ab}:∀{c:Ã},(gN d c)[b]?=aa^aa a->d[b]?=aa^aa a/\b∉c|[],a=>#[a,by simp]|e::c,a=>by unfold gN at a;by_cases k:e=b;{subst k;by_cases l:e<(gN d c).length;{rw[nn l]at a;ext a};{rw[l7^by exists l]at a;ext a}};{rw[nm k]at a;let#[b,c]:=zs a;calc#[b,by simp only[bK,not_or];calc#[λa=>k a.symm,c]]}
@[reducible]abbrev aV.aK(a:aV)(b:ax)(c:ag)(d:dF)(e:cR)(f:Ó):aV:={a with be:=b,cj:=c,ai:=e,bu:=a.stack,au:=f,bx:=λa=>ahZ d a==ϖ,bH:=[],aD:=aeU}
variable{Zk:List (al×Nat)}
def Re(e:í)(p:aqw)(P:b.aX.Nodup)(z:∀g∈W',ah6 g/\g<j.heap.objs.size):av (b.aK j h W9 (jV W9 (anE^af0) j.heap.objs.size b.ai) W') [] (gN X^aik) h {j with heap:=aqu}:=by let d:∀y∈W9.names,y.2=.free->∃c,b.ai.cells.lookup y.1=aa c:=λy n a=>by{rcases p.free y n a with f|f;{calc e.ok.has _^Ð f};{calc e.ok.has _^ÿ f}};generalize F:jV W9 (anE af0) j.heap.objs.size b.ai=k;let E:∀g A,ĥ g A->(aqu).get? g=aa A:=λg A a=>wr _ _ _ _^cr _ a;let G:k.locals=j.heap.objs.size:=by{rw[<-F];rfl};let w:k.cells=anE^af0:=by{rw[<-F];rfl};let L:k.scope=T0 W9 b.ai.scope:=by{rw[<-F];rfl};rw[<-ie j.heap ail]at w;let v:∀{y c},(y,c)∈af0->at1/\c<j.heap.objs.size:=λ{y c} l=>by{rcases u9 l with l|⟨i,rfl⟩;{ext l};{let#[c,m]:=d _ i r;rw[m];let#[H,d]:=e.cell _ _ m;calc#[r,d.lt]}};let M:∀{y c},agX k->(at1/\c<j.heap.objs.size)\/(ō<=c/\Fd aqu c ah):=λ{y c} a=>by{rw[w]at a;rcases sn^ig a with l|⟨_,o,m⟩;{calc .inl^v l};{rw[ie]at o;calc è #[o,m]}};let O:∀{y},aqx=adK->∃c,agX k/\at1:=λ{y} I=>by{let n:(y,qS)∈W9.names:=ig I;let#[J,m]:=y9^u7 (a:=W9.names) (d:=(anN).objs.size)^yX (b:=b.ai.cells) (d:=[]) n;rw[<-w]at m;calc#[J,m,?_];rw[w]at m;rcases sn^ig m with l|⟨i,_,_⟩;{calc(v l).1};{let:=p.cz _ i;ext ϗ I}};let Q:(b.aK j h W9 k W').bW:=by{calc#[e.ok.mod,by{show k.scope.kind=_;rwa[L,p.kind]},by{show k.globals=_;rwa[<-F,e.ok.bB]},by{show k.builtins=_;rwa[<-F,e.ok.blt]},by{show j.heap.objs.size<=k.locals;rwa[G,a5 _]},λy d c q s=>?_,λy n=>?_,λy c d a=>?_,e.ok.aS,e.ok.frames,ħ,λg t=>#[?_,λy c a d=>?_],e.bk,ds e.ok.bP e.ca,Ô g A a t,Å g t d,e.stack,e.cV];{let q:agX k:=q;let s:k.cells.lookup d=aa c:=s;rw[w]at q s;calc yV (Â u B) (λy d c x g=>e.ok.inj y d c (v x).1 (v g).1) (ig q)^ig s;rwa[ie,Ai (v (y:=u.1) (c:=u.2) B).2]};{show∃c,agX k;let C:∀f,k.kindOf y=aa f->(f=.cell\/f=.free)->∃c,agX k:=λf x N=>by{unfold Env.kindOf at x;rw[L]at x;let#[v,a,D]:=y8 x;let:v=.cell\/v=.free:=by{rcases D with rfl|⟨rfl,_⟩;{calc N};{calc ϛ}};rcases this with rfl|rfl;{let#[c,l]:=yU (b:=(anN).objs.size) (d:=af0)^ig a;let#[J,m]:=y9 l;calc#[J,by rwa[w,m]]};{let#[c,i,_]:=O a;calc#[c,i]}};ext ĸ n;{calc C _ n^ħ};{calc C _ n^ϛ}};{let d:(aqx==aa AE)=af:=d;let d:aqx=ϖ:=by{exists d};let a:agX k:=a;rw[w]at a;rcases sn^ig a with l|⟨_,o,_⟩;{rcases u9 l with l|⟨i,_⟩;{ext l};{let n:=p.cz _ i;ext Æ d n}};{rw[ie]at o;calc sW o}};{show g≠k.locals;rwa[G,ek (z g t).2]};{let a:agX k:=a;rcases M a with⟨i,_⟩|⟨i,_⟩;{calc(z g t).1.2.2.2.2.1 y c i d};{let o:ō<=g:=by{rwa[<-d,i]};calc φ (eN (z g t).2^sW o)}};{rcases(z g t).1.2.2.2.1 with d|d;{calc e.ok.cL g A a d};{calc φ (adI a^ds e.ok.bP d)}};{rcases bK.mp^e.de g d with d|d;{calc(z g t).1.2.1 d};{calc(z g t).1.2.2.1 d}}};calc#[Q,r,e.a6,e'.kept E,#[ajQ,?_,λz y Q q s l=>?_],λy c a=>?_,?_,λy c a=>?_,Â u B,e.aq.kept E,by rwa[zr,e.len]];{show Heap.Ns _ k.locals _;rwa[G,Heap.Ns.keeps (Heap.Ns.new ..) λg A a=>wr _ _ _ _ a]};{let#[s,A]:=zs s;let g:ax6 k:=by{let C:∀f,k.scope.names.lookup y=aa f->f=.local\/f=.cell\/f=.free->ax6 k:=λf x N=>by{let t:=x;rw[L]at x;let#[v,a,D]:=y8 x;let w:¬(v=.local\/v=.cell):=λx=>by{rcases p.own _ (ig a) x with m|m;{let#[u,B,x]:=bE.mp m;let l:=p.eP u B;let:u.1=y:=x;rw[this]at l;calc A^bE.mpr #[u,B,y' P l q]};{calc m^cq q}};rcases D with rfl|⟨rfl,rfl⟩;{rcases N with rfl|rfl|rfl;{calc zH ħ w};{calc zH ϛ w};{calc#[a,ÿ t]}};{calc#[a,Ð t]}};let l:p8 k.scope y:=l;rcases l with l|l|l;{calc C _ l^ħ};{calc C _ l^aj0};{calc C _ l^.inr^ϛ}};let#[l,l,I]:=e.bd;let l:apW y:=(p.free _ (ig g.1) r).elim (λf=>.inr^Ð f)^λf=>.inr^ÿ f;let#[H,D,n]:=I z y Q q s l;calc#[H,D,.inr #[g.2,?_]];let#[c,i,o]:=O g.1;rcases n with⟨f,_⟩|⟨_,J,m,d⟩;{let f:b.ai.scope.names.lookup y=adJ:=f;rcases p.free _ (ig g.1) r with v|v<;>rw[show b.ai.scope.names.lookup y=_ from v]at f<;>ext f};{ext Æ o m;calc#[c,i,d.keeps E]}};{let a:agX k:=a;rcases M a with⟨i,_⟩|⟨_,d⟩;{let#[H,d]:=e.cell y c i;calc#[H,d.keeps E]};{calc#[_,d]}};{show h k.locals=ah;rwa[G,Ś e]};{let a:agX k:=a;rcases M a with⟨i,_⟩|⟨i,_⟩;{calc e.br y c i};{calc e.aq.fresh^sW i}};{calc ax7 u B}
def Q9(a:í)(c:h f=aem)(d:O.length<a9)(i:ael)(k:∀e,Ă X (aef^.lst (O++[W4])) e->XP .none e):Ĺ (agU "list.append" [ñ,W8]) XP Xk j:=by let#[e,l,m,e,g]:=a.aq f _ c;ext Ť n e;calc append_at (hsz:=by rwa[dw,Đ^Ĭ (au n) d]) g (Å n o g);calc k (ad0 n)^a.bY (t':=j.toks) (by rw[c];trivial) ħ (ajP a c c k o) #[_,g] #[by{rwa[cO,d]},l++[W8],m+1,e.append^Ů i .nil,?_];rw[g];simp
abbrev yN(b:aV)(c:List bn)(d:dS):Prop:=∀(U:Ĉ)(j:ax)(X:aR)(h:ag)(a:afL),í->d X h a->Ĺ (forIn c af λc d=>if d=af then do{let k<-to c b.ai^b1 c b.ai;pure^vN k}else pure^vN d) (yO b U X a) b.aD j
abbrev zo:dS:=λ_ h a=>a af h
def Tk:yN b [] zo:=λ_ _ _ h _ a c=>wpAny_tests_nil #[h,a,c]
def sA(a:ana):yN b [Q] X4:=λU j X h c d e=>wpAny_tests_one^a U j X h c d e
def qu{a:Type}{b:fo a}{c d:a->alc}(f:adL b c aeU j)(g:∀e j,c e j->d e j):adL b d Xk j:=eW f g λ_ _ a=>he a
def Rj(e:Nat->alc)(u:∀c j,e c j->ae1 (gq W8) (λd k=>match d with|ah=>Y7 (.ok .next) k|aa l=>ae1 (wp W6 W8 l) (λ_ n=>ae1 (pe W6 XF l) (λ_ o=>ae1 (forIn Xe af λp d=>if d=af then do{let f<-to p XF^b1 p XF;pure^vN f}else pure^vN d) (λf m=>if f=af then ae1 (b1 Q XF) (λg s=>ae1 (agU "list.append" [XM,g]) (λ_ t=>∃h,h<c/\e h t) (alG a b) s) (alG a b) m else∃h,h<c/\e h m) (alG a b) o) (alG a b) n) (alG a b) k) (alG a b) j)(c:Nat)(v:e c j):jo agY W2 (.compLoop (agZ Z) 0 W8 XM XF) Y7 j:=by calc codeAny_loop r e (λc j a=>?_) c v;show aH _ W2 ((compTurn (agZ Z) 0 W8 XM XF).onRaise^λg=>do{mo g XF;theTreesLotGoes g}) _ _ j;calc wpAny_noted ?_;rwa[compTurn_list,ar^ty^ar^eW (u c j a) (Å d k b) (Ķ a)];ext adF d l;{calc aT b};{calc ar^ag0 b (λ_ n b=>?_) a;calc ar^ag0 b (λ_ o b=>ar^eW b (Å f m b) (Ķ a)) a;ext acM f;{calc aT #[r,b]};{calc ar^ar^ag0 b (λg s b=>ar^eW b (λ_ t b=>aT^aT #[r,b]) (Ķ a)) a}}
inductive Si(b:ac)(d:ĩ)(e:ab)(c:ag):Prop|mk(a:Á)(_:c b=à a)(_:aij a)(_:d^adX c b (a++[e]))
abbrev Sh(c:a4)(d:aR)(e:ac)(a:ĩ)(f:Bool)(b:ag):Prop:=if f=af then c d b^Si e a else a b
abbrev qf(c:dS)(d:a4)(b:Ã)(e:aR)(f:ac)(g:ĩ)(a:aR)(h:ag):Prop:=gN a b=gN e b/\c a h^Sh d a f g
abbrev qg(l:dX)(m:dS)(n:a4)(g:Ã)(h:aR)(c:ĩ)(e:eA)(a:ag)(i:ac):Prop:=∃f:Nat->agO,(∃d,f 0 d^Ž a i)/\∀a d b,f a d b->(e.stop a b/\c b)\/(e.go a b/\∃j:ĩ,(∀c,j c->∃k,k<d/\f (a+1) k c)/\∀d c,e.dZ a b d c->l d (gN h g) c^qf m n g h i j)
abbrev Sg(c:dX)(d:dS)(e:a4)(f:Ã)(g:aR)(h:aA)(i:eA)(b:ag):Prop:=∀a,b a=ah->qg c d e f g (h^À a) i b a
abbrev vz(b:hA)(c:dX)(d:dS)(e:a4)(f:Ã):a4:=λa g h=>b a g^Sg c d e f a h
abbrev uW(b:aV)(a:dF)(c:bn)(d:dX):Prop:=∀(e:ax)(f:ag)(g:ac)(h:ż)(i:Ó),lX (b.aK e f a (jV a h g b.ai) i) c d
abbrev uZ(b:aV)(a:dF)(c:List bn)(d:dS):Prop:=∀(e:ax)(f:ag)(g:ac)(h:ż)(i:Ó),yN (b.aK e f a (jV a h g b.ai) i) c d
abbrev oI(b:aV)(d:dF)(j:bn)(k:a4):Prop:=∀(e:Ĉ)(c:aR)(l:Option (aj->fo Unit))(m:ű)(a:ax)(f:ag)(g:ż)(h:Ó)(n:aj),av b e c f a->(∀c∈h,(c∈b.au\/b.be.heap.objs.size<=c)/\agK c/\(∀o i,ak9 o i->i≠c)/\∀i∈b.bH++e,i.1≠c)->bj ((b.aK a f d (jV d g a.heap.objs.size b.ai) h).bq^nP adf b.ao (jV d g a.heap.objs.size b.ai) λc d=>tl adf b.ao b.aD l m n a.heap.objs.size (Ϛ c) d) j k
def e3:uZ b W9 [] zo:=λ_ _ _ _ _=>Tk
def e2(a:Nat)(d:b.aX.Nodup)(e:b.aX[a]?=aa L)(c:(jV W9 [] 0 b.ai).scope.names.lookup L=adJ):uW b W9 ade^oM a:=λ_ _ _ _ _=>sv d e (Ð c)^ÿ c
def oI.ad(g:∀(c:ax)(a:ag)(f:ac)(d:ż)(e:Ó),bj (ae6 c a (jV W9 d f b.ai) e) Q Xg):anO:=λ_ _ _ _ c a d e _ _ _ h i j k l f m=>qu (g c a _ d e h i j k l f.bD m) λd c #[n,a,f,u,v]=>#[n,a,f.bq _,u,v]
variable{Wz:Option (aj->fo Unit)}
def F0(L:α)(F:b.aX.Nodup)(d:í)(m:iy b W6 Xj ZY)(t:aqw)(G:uW b W9 W6 XW)(H:uZ b W9 Xe X4)(I:anO)(o:at2 q)(p:aqy aik X h Yj)(Y:∀i a k s f,Ă X f k->Yj (À i) f->k.heap.Ns a s->hw b U f a->at3 i a (.ok .next) k):Ĺ (comprehension (agZ Z) W9 b.ai XG (newList []) ay (b1 Xj b.ai) Wz) Xk b.aD j:=by let v:∀a∈W9.names,a.2=.free->∃A,b.ai.cells.lookup a.1=aa A:=λa g e=>by{rcases t.free a g e with l|l;{calc d.ok.has _^Ð l};{calc d.ok.has _^ÿ l}};calc wpAny_comprehension_free (use:=Wz) r o (Ri v) t.kind (λa g e=>by rw[t.cz a g,e])^bv (m U j X h _ d p) λa a a=>bv a (Å a d l);let#[B,g,z,a,o,e,a,p,v,w,m]:=l;subst e;calc hk (SQ ?_)^by{show 0<=a9;decide};generalize C:d.heap.objs.size=i;let l:o i=ah:=a.aq.fresh^o1 C;let#[M,#[J,D],ab]:=m i l;generalize P:(at4 d ax8:ax)=c;let y:Ă X (Ž o i) c:=by{rwa[<-P,alz a d (Ϙ a l e) (o1 C) #[bF _,[],0,.nil,?_]];rwa[<-C,İ]};let x:c.heap=d.heap.push ax8:=by{rw[<-P]};let N:∀a∈g,aim a d:=λa d=>by{let#[l,e,_]:=p.obj _ _ v a d;calc co e};let m:∀a∈g,hw b U (Ž o i) a/\aim a c:=λa d=>by{let E:=N a d;calc#[#[?_,(w a d).2],by rwa[x,ie,Ai E]];rwa[ao^by{rwa[<-C,ek E]},(w a d).1]};let w:z 0 c.heap:=p.keep _ _ _ v λa _ l e=>by{rwa[x,cr _ e]};let x:=Re y t F m;let F:=G c (Ž o i) c.heap.objs.size (alw c^af0) g;let G:=H c (Ž o i) c.heap.objs.size (alw c^af0) g;let H:=I U X Wz Xk c (Ž o i) (alw c^af0) g (À i) y (ax9 a d m);show jo _ _ (.compStart (agZ Z) 0 (À B) (À i)^jV W9 (alw c^af0) c.heap.objs.size b.ai) (at3 i c.heap.objs.size) (ax' c);let t:∀a∈g,(Ž o i) a=ah:=λa d=>(m a d).1.1;generalize ae:jV W9 (alw c af0) c.heap.objs.size b.ai=n at x F G H⊢;let N:n.locals=c.heap.objs.size:=by{subst ae;rfl};generalize az:am o i Ő=u at y x F G H D t m;generalize ai:(ax' c:ax)=W at x⊢;let O:z 0 W.heap:=p.keep _ _ _ w λa _ l e=>by{rwa[<-ai,wr _ _ _ _^cr _ e]};let I:∀{o:aR}{f:ag}{k:ax},av (ae6 c u n g) [] o f k->(∀a∈g,f a=ah)->∀a∈g,hw (ae6 c u n g) [] f a:=λ{o f k} v w a d=>#[w a d,(v.ok.c6 a d).1,v.ok.cG a d,Ð d,λq A e=>(v.ok.c6 a d).2 q A e,λo A=>ax7 o A];let R:jo adf b.ao (.compLoop (agZ Z) 0 (À B) (À i) n) (at3 i c.heap.objs.size) W:=by{calc Rj (λA k=>∃o f,av (ae6 c u n g) [] (gN X^aik) f k/\z o k.heap/\(∀a∈g,f a=ah)/\M o A f) ?_ J #[0,u,x,O,t,D];rintro A S ⟨o,t,B,T,V,x⟩;rcases ab o A t x with⟨x,ab⟩|⟨ak,an,aq,as⟩;{let D:=p.done (ae6 c u n g) r r r L o [] S _ t aeU B (I B V) T x;calc qu D ?_;rintro au D ⟨J,x⟩;subst J;let E:Ă X t D:=y.cZ (W':=g) x.os x.base x.aq x.a6 (ax9 a d m);ext aya aw t c m n x N s w D;calc Y i c.heap.objs.size D s t E ab w^y.cm (a5 _) aw};{let i:=p.item (ae6 c u n g) r r r L o [] S _ t aeU B (I B V) T ak;calc qu i ?_;rintro au D ⟨x,J,i⟩;subst J;calc qu i ?_;rintro _ t ⟨q,i,E,y,B,w,D⟩;let J:=E.dt (I E D)^p.obj _ _ w;calc qu (F _ t _ i q x _ J y^as q i B) ?_;rintro _ q ⟨i,y,B,x,D⟩;calc qu (G _ q i y _ B D) ?_;rintro a D ⟨E,y,q⟩;let B:∀{k:ax}{f:ag},av (ae6 c u n g) ([]++oS g t.heap) i f k->an f->∃s,s<A/\∃o f,av (ae6 c u n g) [] (gN X^aik) f k/\z o k.heap/\(∀a∈g,f a=ah)/\M o s f:=λ{k f} v s=>by{let#[A,F,G]:=aq f s;let z:∀a∈g,∀l,adg t a=aa l->adg k a=aa l/\f a=ah:=λa d l e=>let m:=v.bj (a,l)^eU _^eU _^oO d e;#[m.1,m.2.1];let k:(gN X^aik).length=i.length:=by{rw[<-x,zr]};calc#[A,F,o+1,f,(v.cW (U:=[])).fp k^Å f f e,p.keep _ _ _ w λa d l e=>(z a d l e).1,Â a d,G];{rw[<-x]at e;calc(zs e).1};{let#[l,e,_]:=p.obj _ _ w a d;calc(z a d l e).2}};ext acM a;{simp only[fy,if_false]at q⊢;calc B y q};{simp only[if_true]at q⊢;calc bv (H _ D i E _ (y.bq _) q) ?_;rintro m a ⟨a,a,a,d,e,e,f,s⟩;calc Q9 (b:=ae6 c u n g) a.bD e f d λa a=>B a s}}};calc codeAny_compStart_list R^p.self b.ao 0 _ _ _ O R
def gM(c:α)(d:b.aX.Nodup)(e:iy b W6 Xj ZY)(f:aqw)(g:uW b W9 W6 XW)(h:uZ b W9 Xe X4)(i:anO)(j:at2 a:=by intro _;rfl):bj b (agZ Z)^aqy^aik:=by intro a a a a a a k;rwa[eval_ListComp,F0 c d a e f g h i j k λa c c d e f g h i=>#[d,h,Â d d]];let#[h,j,k,k,l,m]:=i;calc#[À a,e,alh f c a c c e d h j k l m,r,g]
def je(i:α)(d:b.aX.Nodup)(j:ajD)(e:aqz)(l:mq (agZ XG) (aa^ade) Yl.line b.ai=pure af)(m:iy b W6 Xj ZY)(n:aqw)(o:uW b W9 W6 XW)(p:uZ b W9 Xe X4)(q:anO)(s:at2 a:=by intro _;rfl):fw b (.Assign [ade] (agZ XG) Yl)^vy (aqy^aik)^oM g:=by intro t u f v h w c;rwa[exec_Assign_Name_used _ _ _ _ l,ar^ty^ź];show aH _ b.ao (do{let _<-comprehension (agZ XG) W9 b.ai (firstIterPos [#[W6,Xj,Xe,0]] XG) (newList []) ay (b1 Xj b.ai)^aa^pe ade b.ai}) _ _ u;let c:aqy aik f v^λa l=>oM g a f l h.a0:=c;calc ar^bv (F0 (Xk:=λ_ a=>iA b t h .next a) i d w m n o p q s c λc f a h i l m n o=>?_) λ_ a a=>aT^aT a;show Ģ (pe ade b.ai^À c) _;calc Ja^Gw (W4:=(ø c)) l d j (Ð e) r (λj l #[k,y,C]=>?_)^ÿ e;let#[p,d,a,q,e,s]:=o;let o:f≠k:=by{ext ň C a;{rwa[a,d]};{calcλc=>e L k a c.symm}};calc#[h,n.sameBut y o,Â a a];calc#[_,i,alh l j f h h c a p d q e s,m]
variable{aca:List Comprehension}
def jg(a:XF.scope.kind=.function)(b:XF.scope.names.lookup L=adJ)(d:(XG.line==Z.line)=af)(e:(W9.names.any λ(k,c)=>k==L&&(c==.local||c==.cell))=ay):mq (.ListComp Q aca W9 Z) (aa^agN) g XF=pure af:=by let f:XF.kindOf L=adJ:=b;let b:XF.blockKind=.function:=by{unfold Env.blockKind;rw[a];rfl};unfold mq;simp only[b,f,e,Expr.pos,d];rfl
variable{D:List Nat}{Zl:ag->Prop}
def y7(c:agO)(e:c 0^aef^Ő)(i:∀a b,a<g->c a b->XW (.int (Xb+a)) (gN X D) b^qf X4 Xg D X f^c (a+1))(j:∀b,c g b->Zl b):anP X Zl (p6 Xb g) h f:=by calc#[λa d b=>d=g-a/\a<=g/\c a b,#[g,ah7,e],?_];rintro a d b ⟨rfl,l,e⟩;by_cases k:a<g;{calc è #[k,c (a+1),λc d=>#[g-(a+1),jK k,r,k,d],Å d c c];let#[d,c]:=c;subst d c;calc i a _ k e};{let d:a=g:=bX l^c8 k;calc ajL d #[a5 _,j b e]}
def fK(c:agO)(i:c 0^am h s^Ő)(j:∀a b,agQ a->c a b->aw d b f O)(m:ayb a e b c)(n:at5 b c):anP X Zl (uS d f) h s:=by ext ayc a b c i j e m n
def SE(c:agO)(i:c 0^am h s^Ő)(j:∀a b,agQ a->c a b->bw d b f O)(m:ayb a e b c)(n:at5 b c):anP X Zl (uT d f) h s:=by ext ayc a b c i j e m n
variable{XJ:Type}
abbrev bS[Ŵ](a:ž)(b:XJ):ϰ:=(a.find? (anQ a b)).map (·.2)
abbrev cU[Ŵ](b:ž)(c:XJ)(d:ab):ž:=if(aj1 b a c)=af then b.map^aqA a c d else b++[(c,d)]
abbrev oL[Ŵ](a:ž)(b:XJ):ž:=a.filter (anR a b)
def Vc[Ŵ]{a:XJ}:bS ([]:ž) a=ah:=r
def hF[Ŵ]{a:XJ×ab}{c:ž}{b:XJ}(d:a.1=b):bS (a::c) b=aa a.2:=by simp[bS,jk,d]
def hc[Ŵ]{b:XJ×ab}{c:ž}{a:XJ}(d:¬b.1=a):bS (b::c) a=bS c a:=by simp[bS,jk,d]
def qv[Ŵ](a:XJ):∀b:ž,(aj1 b d a)=ain b a|[]=>r|b::d=>by rw[jj];by_cases c:b.1=a;{simp only[hF c,zJ c,Bool.true_or,Hx]};{rwa[hc c,zK c,qx,qv a d]}
def GF[Ŵ](e b:XJ)(d:ab):∀f:ž,bS (f.map (aqA a e d)) b=(bS f b).map λg=>if b=e then d else g|[]=>r|a::g=>by let f:=GF e b d g;rw[dg];by_cases k:a.1=e;{rw[zG k];by_cases c:a.1=b;{rw[hF (a:=(a.1,d)) c,hF c,nw,zG^ah' c k]};{rw[hc (b:=(a.1,d)) c,hc c,f]}};{rw[zF k];by_cases c:a.1=b;{rw[hF (a:=a) c,hF c,nw,zF^λb=>k^c.trans b]};{rw[hc (b:=a) c,hc c,f]}}
def GG[Ŵ](a b:XJ)(d:ab):∀e:ž,bS e a=ah->bS (e++[(a,d)]) b=if b=a then aa d else bS e b|[],_=>by{by_cases c:a=b;{rwa[zG c.symm,hF (a:=(a,d)) c]};{rwa[zF^λe=>c e.symm,hc (b:=(a,d)) c]}}|g::i,f=>by rw[vP];let h:¬g.1=a:=λe=>by{rw[hF e]at f;ext f};rw[hc h]at f;let j:=GG a b d i f;by_cases c:g.1=b;{rw[hF c,hF c,zF^λe=>h^c.trans e]};{rw[hc c,hc c,j]}
def ne[Ŵ](a:ž)(b d:XJ)(e:ab):bS (cU a b e) d=if d=b then aa e else bS a d:=by unfold cU;by_cases c:(aj1 a f b)=af;{rw[zG c,GF];rw[qv]at c;by_cases k:d=b;{let#[f,g]:=f4.mp c;rw[zG k,k,g,nw,zG r]};{rw[zF k];rcases bS a d with _|f;{rfl};{rw[nw,zF k]}}};{rwa[zF c,GG b d e a ?_];rw[qv]at c;rcases d:bS a b with _|f;{rfl};{rw[d]at c;calc(c r).elim}}
def vi[Ŵ](a:ž)(b:XJ)(c:ab):(cU a b c).length<=Ŏ a:=by unfold cU;split;{rwa[aI,cQ _ 1]};{rw[cO,ce,sQ];lia}
def qs[Ŵ]{a:ž}{b:XJ}(c:ab)(d:bS a b=ah):cU a b c=a++[(b,c)]:=by unfold cU;rwa[qv,d,zF^by decide]
def gi.cK{b:ϰ}{a:aju}(c:gi b a):b.isSome=a.isSome:=by ext acM b;{ext acM a;{rfl};{calc ap8 c}};{ext acM a;{calc ap8 c};{rfl}}
def d2.val[Ŵ]{b:ž}{d:anS}(e:d2 b d)(a:XJ):gi (bS b a)^nS d a:=by unfold d2 at e;induction e with|nil=>{calc lw}|@cons e b d d f g h=>let#[g,i]:=f;by_cases c:e.1=a;{let e:b.1=a:=ah' g c;let f:nS (b::d) a=aa b.2:=by{simp[nS,jk,e]};rwa[hF c,f,i]};{let e:¬b.1=a:=λi=>c^g.trans i;let f:nS (b::d) a=nS d a:=by{simp[nS,jk,e]};rwa[hc c,f,h]}
def d2.any[Ŵ]{b:ž}{c:anS}(d:d2 b c)(e:XJ):(aj1 b a e)=aj1 c a e:=by unfold d2 at d;induction d with|nil=>{rfl}|cons a b b=>rw[jj,jj,b,a.1]
def d2.dU[Ŵ]{d:ž}{e:anS}(f:d2 d e)(b:XJ){g:ab}{h:aj}(i:bP g h):d2 (d.map (aqA a b g))^e.map (aqA a b h):=by unfold d2 at f⊢;induction f with|nil=>{calc .nil}|@cons d a a a e a a=>rwa[dg,dg,.cons ?_ a];let#[a,f]:=e;by_cases c:d.1=b;{rwa[zG c,zG^ah' a c,#[a,i]]};{rwa[zF c,zF^λb=>c^a.trans b,#[a,f]]}
def d2.put[Ŵ]{e:ž}{b:anS}(d:d2 e b)(a:XJ){f:ab}{g:aj}(h:bP f g):d2 (cU e a f)^stored b a g:=by unfold cU stored;rw[d.any a];by_cases c:(aj1 b b a)=af;{rwa[zG c,zG c,d.dU a h]};{rwa[zF c,zF c,AG d #[r,h]]}
def d2.length[Ŵ]{a:ž}{b:anS}(c:d2 a b):Ē a b:=bC c
def Rq[Ŵ](a:ž)(b:XJ):(oL a b).length<=a.length:=ag1
variable{Zm:bh}
def m8(c:bP (dA Zm) W8):(ag2).is Zm W8=af:=by rcases Zm with d|e;{let#[a,b]:=(show∃a,W8=hj d a from c);subst b;calc SL q i d a};{let#[a,b]:=(show∃a,W8=te e a from c);subst b;calc SM q i e a}
def FW{c:aQ}{d:aN}:∀{b:aeg}{a:â},bM (b.map dA) a->PySem.ItemsAre (fb c d) b a|[],_,a=>by{rw[lg]at a;ext a;calc .nil}|c::b,_,a=>by rw[dg]at a;ext Ā a a b;{calc .cons (m8 a)^FW b}
@[reducible]abbrev hz(c:ag):afI->atm->Prop:=be λa b=>axq a b c
variable{Xs:List (List bh×ab)}{Zy:List (List bh×ac×aj)}
def hz.val(b:anT)(a:aeg):gi (bS Xs a)^(jU Zy a).map (·.2):=by induction b with|nil=>{calc lw}|@cons e b d d f g i=>let#[g,_,j]:=f;by_cases c:e.1=a;{let e:b.1=a:=ah' g c;let f:jU (b::d) a=aa b.2:=by{simp[jU,jk,e]};rwa[hF c,f,j]};{let e:¬b.1=a:=λj=>c^g.trans j;let f:jU (b::d) a=jU d a:=by{simp[jU,jk,e]};rwa[hc c,f,i]}
def hz.dU(d:anT)(b:aeg)(e:ael):hz h (Xs.map λa=>if a.1=b then(a.1,W4)else a)^Zy.map^putAt b W8:=by induction d with|nil=>{calc .nil}|@cons f a a a g a a=>rwa[dg,dg,.cons ?_ a];let#[a,d,i]:=g;unfold putAt;by_cases c:f.1=b;{rwa[zG c,zG^ah' a c,#[a,d,e]]};{rwa[zF c,zF^λb=>c^a.trans b,#[a,d,i]]}
def hz.put(b:anT)(a:aeg)(e:h f=ae7 a)(d:ael):hz h (cU Xs a W4)^storedH Zy a f W8:=by let g:(Xs.any (anQ i a))=(jU Zy a).isSome:=by{rw[qv,(b.val a).cK,nv]};unfold cU storedH;rw[g];by_cases c:(jU Zy a).isSome=af;{rwa[zG c,zG c,b.dU a d]};{rwa[zF c,zF c,AG b #[r,e,d]]}
def hz.keeps(c:anT)(d:atn a b):hz V Xs Zy:=ï c λ_ _ a=>#[a.1,d _ _ a.2.1,a.2.2]
def Gp(b:υ)(c:kl h a o):ajw o:=c.ok b
variable{Xy:List (bh×ab)}
def qb(c:υ)(d:kl h a^.az Xy):ayd:=show ajw^.az Xy from Gp c d
def FG(c:υ)(d:h a=aa^.az Xy):ayd:=qb c^Ð d
variable{YO:List bh}
def qi(b:υ)(c:h a=aa^anU):(q6^ag2).is W3 YO a:=by let#[_,d,e,f,g,j,k,l]:=(show ajw^anU from b a _ c);calc#[f,d.toArray,k,g,j,l,by exists FW e]
def qc(f:υ)(d:kl h a^.aB Xs):aye b:=by let#[c,e,b,g,j,k,l,m,n,o,p,s]:=(show ajw^.aB Xs from Gp f d);calc#[c,e,b,g,j,k,l,m,n,o,p,Â b c,s];let k:∀{j:afI}{e:atm},hz h j e->∀b∈e,(q6^ag2).is W3 b.1 b.2.1:=by{intro j e e;induction e with|nil=>{intro b c;calc nomatch c}|@cons j e e e e j j=>intro b c;ext adZ c d;{subst d;calc qi f^by rwa[<-e.1,e.2.1]};{calc j b c}};calc k g b c
def FH(c:υ)(d:h a=anV):aye b:=qc c^Ð d
abbrev dW(c:ag)(d:ac)(e:ab)(f:ϰ):Prop:=(∃a b,kl c d^.az a/\e=dA b/\f=bS a b)\/∃a b g,kl c d^.aB a/\e=À g/\c g=ae7 b/\f=bS a b
abbrev ki(b:ag)(d:ac)(e f:ab)(g:ag):Prop:=(∃a c,b d=adV a/\e=dA c/\aij a/\g=am b d^.az^cU a c f)\/∃a c h,b d=aa^.aB a/\e=À h/\b h=ae7 c/\aij a/\g=am b d^.aB^cU a c f
def dW.k{c:ag}{d:ac}{a:Ĕ}{b:bh}(e:c d=adV a):dW c d (dA b)^bS a b:=.inl #[a,b,Ð e,r,r]
def dW.cq(a:h f=anV)(b:h s=aa^anU):dW h f ß^bS Xs YO:=.inr #[Xs,YO,s,Ð a,r,b,r]
def ki.k{b:ag}{c:ac}{a:Ĕ}{d:bh}{e:ab}(f:b c=adV a)(g:aij a):ki b c (dA d) e^am b c^.az^cU a d e:=.inl #[a,d,f,r,g,r]
def ki.cq(a:h f=anV)(b:h s=aa^anU)(c:Xs.length<a9):ki h f ß W4^aef^.aB^cU Xs YO W4:=.inr #[Xs,YO,s,a,r,b,c,r]
variable{abo:aj}{WK:Option ab}
def av.dB(a:í):fD<j.heap.objs.size:=by let c:c5<j.heap.objs.size:=(anb a).lt;calc sY (by decide) c
def Rl(q:alH)(d:í)(f:dW h a YH^adG)(o:bP YH Y8)(p:∀c e,Ă X h e->bP W4 c->XP c e):ans (lu ae0 Y8):=by rcases f with⟨k,e,f,g,i⟩|⟨k,e,s,f,g,t,i⟩;{subst g;let#[u,v,w,k,l]:=qb d.aq f;let#[c,m,n]:=ap' (ZJ:=nS w e)^by{rwa[i,k.val e]};calc Jc (m8 o) l.mapOf m^p c _ (d.a3 _) n};{subst g;cases(aqB s o);let#[u,v,g,k,l]:=qc d.aq f;let#[c,m,n]:=ap' (ZJ:=(jU g e).map (·.2))^by{rwa[i,k.val e]};let#[e,e,f]:=acR m;calc wpAny_getItem_heap (tr q) (qi d.aq t) l e ?_;rwa[f,p c _ (d.a3 _) n]}
def Rm(o:alH)(c:í)(e:dW h a YH WK)(m:bP YH Y8)(n:∀d,Ă X h d->XP (.bool WK.isSome) d):ans (fC .In Y8^ae0):=by rcases e with⟨i,d,e,f,g⟩|⟨i,d,p,e,f,q,g⟩;{subst f;let#[s,i,k,k,l]:=qb c.aq e;calc wpAny_in_of (m8 m) i l.mapOf ?_;rwa[<-(k.val d).cK,<-g,n _^c.a3 _]};{subst f;cases(aqB p m);let#[s,i,f,k,l]:=qc c.aq e;calc wpAny_in_heap (tr o) (qi c.aq q) i l ?_;let e:=(k.val d).cK;rw[nv]at e;rwa[<-e,<-g,n _^c.a3 _]}
def Rn(o:alH)(c:í)(e:dW h a YH WK)(m:bP YH Y8)(n:∀d,Ă X h d->XP (.bool (! WK.isSome)) d):ans (fC .NotIn Y8^ae0):=by rcases e with⟨i,d,e,f,g⟩|⟨i,d,p,e,f,q,g⟩;{subst f;let#[s,i,k,k,l]:=qb c.aq e;calc wpAny_notIn_of (m8 m) i l.mapOf ?_;rwa[<-(k.val d).cK,<-g,n _^c.a3 _]};{subst f;cases(aqB p m);let#[s,i,f,k,l]:=qc c.aq e;calc wpAny_notIn_heap (tr o) (qi c.aq q) i l ?_;let e:=(k.val d).cK;rw[nv]at e;rwa[<-e,<-g,n _^c.a3 _]}
def u'(d:í)(e:m6^h a)(f:kC a j.heap t)(i:∃c,t.get? a=aa c)(k:ajC ajy t a o):Ă X ajy at6:=d.bY (x:=a) (e:=a) e ħ (ajP d c c e f) i k
variable{ZZ:List (bh×aj)}
def FF(b:Xy.length<=a9)(c:(a==fD)=ay)(d:d2 Xy ZZ)(e:t.DictOf ag2 a ZZ):agJ t a^.az Xy:=#[b,c,ZZ,d,e]
def Ro(B:alH)(f:í)(d:ki h a YH W4 V)(w:bP YH Y8)(x:bP W4 abo)(y:∀c,Ă X V c->Yq () c):aH adf W2 (setItem ae0 Y8 abo) Yq Xk j:=by rcases d with⟨g,c,d,n,o,p⟩|⟨g,c,C,d,n,z,o,p⟩;{subst n p;let#[i,q,e,k,s]:=FG f.aq d;let t:adb e:=by{rwa[<-k.length,i]};let u:(cU g c W4).length<=a9:=by{let:=vi g c W4;calc ϙ o};calc wpAny_setItem_pairs (hsz:=t) (m8 w) s λA l v=>y _ ?_;let D:∃e,A.get? a=aa e:=let#[e,_,_,m,_]:=l;#[e,m];calc aqC f d v D^FF u q (k.put c x) l};{subst n p;cases(aqB C w);let#[i,q,n,k,s]:=FH f.aq d;let t:adb n:=by{rwa[<-bC k,i]};let u:(cU g c W4).length<=a9:=by{let:=vi g c W4;calc ϙ o};calc wpAny_setItem_heap (hsz:=t) (tr B) (qi f.aq z) s λA l v=>y _ ?_;let#[e,g,n,m,o,p,s,_,t]:=l;calc aqC f d v #[e,m] #[u,q,_,(k.put c z x).keeps (Å c c c),e,g,n,m,o,p,s,t];rwa[ao^dk c d^λi=>nomatch i,c]}
abbrev yL(c:bn):Prop:=∀a b,atU c a b
def Gx(g:ts (.type YG) "__getitem__"=pure^aa^.builtin ZR)(k:yL W6)(e:ae1 (b1 Q XF) (λa b=>ae1 (b1 W6 XF) (λc d=>d.TypeIs a YG/\ajR (lu a c) d) Xk b) Xk j):ajR (b1 atB XF) j:=by calc Ap^ag0 e (λa b b=>eW b (Å c d e) (Ķ b)) b;let#[f,e]:=e;unfold As;calc ź;rwa[getitemInPython_of_ne f.not_modules,ar^Jm f g ?_];let f:ae1 (wu W6 ay a c) (λg h=>ajR (letTemporaryGo Q a g>>=λ_=>pure g) h) Xk d:=by{rwa[k a c,wpAny_operating^ag0 e (λg h a=>ar^wpAny_letTemporaryGo^aT a) b]};first|(calc aT^ar f)|(calc ar^aT^ar f)|calc ar f
def Rp(d:í)(a:dW h f W4 WK):at7:=by rcases a with⟨c,e,a,_,_⟩|⟨c,e,c,a,_,_,_⟩;{let#[_,_,c,_,c]:=qb d.aq a;calc c.typeIs};{let#[_,_,e,_,c]:=qc d.aq a;calc c.typeIs}
inductive Uq(d:aA)(e:ab)(f:ab)(a:ag):Prop|mk(b c:_)(_:e=À b)(_:dW a b f^aa c)(_:d c a)
abbrev R8(a:a4)(b:aR)(c:aA)(d:ab)(e:ag):Prop:=a b e^Uq c d
abbrev Up(b c:a4):a4:=λa d e=>b a d^R8 c a e
inductive Us(d:aA)(e:ab)(f:ab)(a:ag):Prop|mk(b c:_)(_:f=À b)(_:dW a b e c)(_:d (.ah c.isSome) a)
abbrev R9(a:a4)(b:aR)(c:aA)(d:ab)(e:ag):Prop:=a b e^Us c d
abbrev Ur(b c:a4):a4:=λa d e=>b a d^R9 c a e
inductive Uw(d:aA)(e:ab)(f:ab)(a:ag):Prop|mk(b c:_)(_:f=À b)(_:dW a b e c)(_:d (.ah (! c.isSome)) a)
abbrev R'(a:a4)(b:aR)(c:aA)(d:ab)(e:ag):Prop:=a b e^Uw c d
abbrev Uv(b c:a4):a4:=λa d e=>b a d^R' c a e
inductive T3(c:dI)(d:aR)(e:ab)(f:ab)(g:ab)(h:ag):Prop|mk(a b:_)(_:f=À a)(_:ki h a g e b)(_:c.a0 d b)
abbrev Sb(b:a4)(c:dI)(a:aR)(d e:ab)(f:ag):Prop:=b a f^T3 c a d e
abbrev Sa(b c:a4)(d:dI)(a:aR)(e:ab)(f:ag):Prop:=b a f^Sb c d a e
abbrev T2(b c d:a4):cN:=λe a f=>d a f^Sa b c e a
variable{Zr:bn}{Y2 ZS:a4}
def iD(d:anW)(e:adR Y2)(f:anX)(g:yL Zr:=by calcλ_ _=>r):bj b (aqD Z)^Up Y2 ZS:=by intro a h c i j j k;calc Gx Ii.lookup g^anJ e a h c i j k e y u f;rintro a a ⟨a,f,a,g,h,i,j,c,k⟩;ext aeq j e h u;calc#[Rp a c,Rl d a c g λa a a c=>#[i,f,a,c,k]]
def Gd(d:anW)(e:anX)(f:adR Y2):uV b .In Zr XV^Ur ZS Y2:=by intro a g c h i i j;calc anJ e a g c h i j e v n f;ext aqE c c e g h j m;calc Rm d e j n λa a=>#[.ah h.isSome,c,a,r,m]
def oQ(d:anW)(e:anX)(f:adR Y2):uV b .NotIn Zr XV^Uv ZS Y2:=by intro a g c h i i j;calc anJ e a g c h i j e v n f;ext aqE c c e g h j m;calc Rn d e j n λa a=>#[.ah (! h.isSome),c,a,r,m]
def qr(d:anW)(e:adR Y2)(f:anX)(g:bj b ZK V1)(h:atM (aa^aqD Ww)):fw b (.Assign [aqD Ww] ZK Z)^T2 Y2 ZS V1:=by intro c i a j k k l;calc wpAny_Assign_Subscript (anp g c i a j k l g an v e (λe g #[ao,C,F,G,P]=>ĉ f c g a C F P λc c #[aq,as,W,ab,ae,ag,ai,ak,am]=>?_)) h;ext aeq ai e ae G;calc Ro d W ak ab v λc c=>#[a,ag,c,am]
def FE(a:aG)(b:fD<a.objs.size):agJ (a.push ail) a.objs.size^adl:=#[ayf b,Heap.DictOf.new a]
def Rr(a:aG)(b:fD<a.objs.size):agJ (a.push ail) a.objs.size^adm:=#[ayf b,_,#[],0,İ,#[r,r,r],r,r,li]
abbrev Ut:a4:=λ_ b c=>∀a,b a=ah->ĕ c a^am b a^adl
abbrev Uu:a4:=λ_ b c=>∀a,b a=ah->ĕ c a^am b a^adm
def ss:bj b (.Dict [] [] Z) Ut:=λa a c c c c d=>I8 #[ϻ a,_,aqF c a (o:=adl) (t':=a.toks) (aqs e) (a5 _)^FE a.heap c.dB,r,d _^Ś c]
def vo:bj b (.Dict [] [] Z) Uu:=λa a c c c c d=>I8 #[ϻ a,_,aqF c a (o:=adm) (t':=a.toks) (aqs e) (a5 _)^Rr a.heap c.dB,r,d _^Ś c]
abbrev zn:List (a4×a4)->aR->ag->(List (ab×ab)->ĩ)->Prop|[],_,a,b=>b [] a|(d,e)::f,c,a,b=>d c a λa d=>e c d λd e=>zn f c e λc e=>b ((a,d)::c) e
@[reducible]abbrev Fj:List (ab×ab)->List (aj×aj)->Prop:=be λa b=>bP a.1 b.1/\bP a.2 b.2
abbrev uY(a:aV)(g:b7)(h:List^Option bn)(i:List bn)(j:List (a4×a4)):Prop:=∀(c:Ĉ)(d:ax)(b:aR)(e:ag)(f:List (ab×ab)->ĩ),av a c b e d->zn j b e f->afM a (evalPairs^pairTrees h i a.ai g) (λh i=>∃e g,av a c b g i/\Fj e h/\f e g) d
def Th:uY b Z [] [] []:=λa a a a c c d=>pairTrees_nil_walk #[[],a,c,.nil,d]
variable{V5:List (Option bn)}{aas:List (a4×a4)}
def Tg(d:adM)(e:bj b W6 XY)(f:uY b Z V5 Xe aas):uY b Z (aa Q::V5) alI ((Xg,XY)::aas):=λa g c h i i j=>pairTrees_cons_walk^anp d a g c h i j d k u e (λd d #[y,C,F,G,P]=>ĉ f a d c C F P λa a #[W,ab,ae,ag,ai]=>#[(k,y)::W,ab,ae,.cons #[u,G] ag,ai])
abbrev m9(b a:Ĕ):Ĕ:=a.foldl (λc a=>cU c a.1 a.2) b
def d2.merge:∀{c:Ĕ}{d:aqG}{a:Ĕ}{b:aqG},d2 c d->d2 a b->d2 (m9 a c)^merged b d:=by intro c d a b c;unfold d2 at c;induction c generalizing a b with|nil=>{intro c;calc c}|@cons d c e e e f f=>intro g;let h:d2 (cU a d.1 d.2)^stored b c.1 c.2:=by{let:=g.put d.1 e.2;rwa[<-e.1,this]};calc f h
def F3:∀(b a:Ĕ),(m9 a b).length<=adW a b|[],a=>by{show a.length<=a.length+0;calc a5 _}|b::c,a=>by let d:=F3 c^cU a b.1 b.2;let d:=vi a b.1 b.2;show(m9 (cU a b.1 b.2) c).length<=_;rw[ce];lia
def Fv{d:aQ}{e:aN}:∀{c:Ĕ}{f:List (aj×aj)},Fj (c.map λg=>(dA g.1,g.2)) f->∃b,Carries (fb d e) f b/\d2 c b|[],_,a=>by{rw[lg]at a;ext a;calc#[[],lw,.nil]}|i::c,_,a=>by rw[dg]at a;cases a with|@cons o j p q h k=>let#[b,l,m]:=Fv (d:=d) (e:=e) k;let#[s,n]:=j;calc#[(i.1,n)::b,#[m8 h.1,r,l],.cons #[r,h.2] m]
abbrev Ux(c:List (a4×a4)):a4:=λd b e=>∀a,b a=ah->zn c d (am b a^adl) λd c=>c a=aa^adl/\∃b:Ĕ,d=b.map (λd=>(dA d.1,d.2))/\b.length<=15/\ĕ e a^am c a^.az^m9 [] b
def S7(e:uY b Z V5 Xe aas)(f:V5.all (·.isSome)=af)(g:V5.length=Xe.length)(h:V5≠[])(i:V5.length<=15):bj b (.Dict V5 Xe Z)^Ux aas:=by intro j a k c c d c;let l:=d.aq.fresh^a5 a.heap.objs.size;let m:=aqF d a (o:=adl) (h':=a.heap.push ail) (t':=a.toks) (aqs c) (a5 _)^FE a.heap d.dB;calc wpAny_Dict_walk (knd:=anY) f g h i^bv (e j _ k _ _ m^c _ l) ?_;rintro d d ⟨d,d,d,g,e,f,h,i,i⟩;subst h;let#[h,j,k]:=Fv (d:=b.prog) (e:=b.w) g;let#[g,l,g,g,m]:=FG d.aq e;ext g;calc#[h,j,m,λh g j=>#[ϻ a,_,?_,r,i]];let i:(m9 [] f).length<=a9:=by{let m:=F3 f [];rw[sQ]at m;rw[b2];lia};let f:∃c,aqq h a=aa c:=let#[c,_,_,n,_]:=g;#[c,n];calc aqC d e j f^FF i l (k.merge .nil) g
structure Q3(a:aV)(d:bn)(f:al)(g:b7)(b:bn)(c:b7):Prop where(base:mg d f a.ai^b1 d a.ai=b1 d a.ai)(aM:((fp c^cw [b] a.ai).all (λe=> ! e.1)&&(mh c^mn [] a.ai).all (λe=>e.1.isSome)&&decide (([b]:List bn).length+atX+(atY)<30))=af)(line:(g.endLine==c.line)=af)(dw:fp c^cw [b] a.ai=[(ay,b1 b a.ai)])
abbrev Fe(b:ag)(c:ac):Prop:=(∃a,kl b c^.az a)\/∃a,kl b c^.aB a
def RX(m:í)(c:Fe h f):at7/\(∀d,bD f=À d->∃a,ĥ d a/\a.dict=ah)/\aj2:=by rcases c with⟨c,e⟩|⟨c,e⟩;{let#[_,g,c,_,c]:=qb m.aq e;calc#[c.typeIs,Â d i,g];ext i;let#[a,_,_,k,l,_]:=c;calc#[a,k,l.2.1]};{let#[_,g,n,_,c]:=qc m.aq e;calc#[c.typeIs,Â d i,g];ext i;let#[a,_,_,k,l,_]:=c;calc#[a,k,l.2.1]}
def av.eu(s:í)(p:∀a d,a∉W'->am7 a d)(m:∀a∈W',ah6 a)(t:att)(v:ajC afJ h' f o):Ă X afJ atw:=by let q:aek:=s.aq.fresh t;let u:∀a n,h a=aa n->a∉W':=λa n c i=>by{let e:=(m a i).1;ext Æ e c};calc atx s (ch:=W') (λa k=>#[(m a k).2.2.2.1,(m a k).2.1,(m a k).2.2.2.2.1,(m a k).2.2.2.2.2]) (λa d _ _ l c _=>p a d l c) (λa d _ _ l c _=>#[d.slots,p a d l c]) (λa d _ c w=>?_) (λa d l c=>#[d,p a d l c]) (Å a x c) (Ô a d n c) (λa y c=>#[#[],?_]) (Â y y) (Å a n c) s.a6;{rwa[ao^ek^adI c t,w]};{rwa[Ï c q,c]};{rwa[Ï c q,c]};{rw[Ï c q,c];simp};{let#[d,t,w,z,A]:=y;calc#[d,t,w,p _ d (λi=>(m _ i).2.1 r) z,A]};{by_cases k:a=f;{ext am1 k c;calc v};{rw[ao k]at c;calc(s.aq a n c).aZ (λd k l e=>p d k ?_ e) (λd e=>by rwa[Ï e q,e]) (am4 d x e q);ext ň l i;{rwa[i,u a n c]};{calc u d _ i}}}
def av.eS(l:í)(g:h f=aa o)(i:m6^aa o):∃d,Ă X (aef^.aL d o) j:=by let c:=l.aq f o g;let k:∃d,ank=aa d:=by{cases o with|lst m=>{let#[ć,a]:=c;calc#[_,a]}|az n=>{let#[ć,e,_,_,a,_]:=c;calc#[e,a]}|aB n=>{let#[ć,e,_,_,a,_]:=c;calc#[e,a]}|set n n=>{let#[e,ů a,_]:=c;calc#[e,a]}|ae e e e=>{let#[ů a,_]:=c;calc#[_,a]}|ext e=>{let#[_,#[_,a],_]:=c;calc#[_,a]}|_=>calc he i};let#[d,a]:=k;let n:ajC (aef^.aL d o) j.heap f^.aL d o:=by{calc#[a,c.aZ (λe p _ c=>c) (Â e c) (Å e m c)];{rwa[ao^λk=>by{ext ā k g c;calc i},c]};{rwa[ao^λk=>by{ext ā k g c;calc i},c]}};calc#[d,l.bY (x:=f) (e:=f) (t':=j.toks) (h':=j.heap) (by rwa[g,i]) ħ (λe p _ c=>c) #[d,a] n]
def av.dq(e:í)(g:h f=aa o)(i:m6^aa o):∀a c,b.cj f≠aej a c:=λa c k=>by let d:=e.base.bS f a c k;ext Æ g d;calc i
def av.dy(e:í)(q:h f=aa^.aL W5 o)(t:∀a c,b.cj f≠aej a c):Ă X afJ j:=by let l:∀d k,h d=aa k->(∀a c,k≠.aL a c)->d≠f:=λd k a c g=>by{ext ā g q a;calc c _ _ r};let p:∀d,h d=ah->d≠f:=λd a g=>by{ext ā g q a};calc#[e.ok,e.os,e.a6,#[e.base.keep,e.base.slot,ê d k a n c,e.base.there,Å d s a,Ô d k m a,Å d v a],e.bd,e.cell,ķ m i a,Â w x,Å d k a,e.len];{rwa[ao^p d^ah1 e d k a n c,ah1 e d k a n c]};{let c:=e.base.b9 d s a;ext alJ l d c g};{let c:=e.base.bS d k m a;rwa[ao^λg=>by{rw[g]at a;calc t _ _ a},c]};{let#[t,c]:=e.base.b1 d v a;calc#[t,by ext alJ l d c g]};{rwa[ao^p _ e.free,e.free]};{rwa[ao^p i^e.br m i a,e.br m i a]};{let#[a,n,t]:=e.bj w x;calc#[a,by{rwa[ao^p _ n,n]},t]};{by_cases u:d=f;{ext aio u a;rw[u];let#[_,m]:=e.aq f _ q;calc m.aZ (λi m _ c=>c) (λi c=>by ext alJ l i c g) λi s c=>by ext alJ l i c g};{rw[ao u]at a;calc(e.aq d k a).aZ (λi m _ c=>c) (λi c=>by ext alJ l i c g) λi s c=>by ext alJ l i c g}}
inductive UE(h:cN)(f:dI)(i:aR)(g:ag):Prop|mk(c a:_)(_:g c=aa a)(_:m6^aa a)(_:∀d,h #[λe b=>b c=aej d a/\f.a0 e^am b c a,λj b=>b c=aej d a/\f.b6 j^am b c a,λe b=>b c=aej d a/\f.bE e^am b c a,λe b=>b c=aej d a/\f.dg e^am b c a] i^am g c^.aL d a)
abbrev UD(a:cN):cN:=λb c d=>UE a b c d
def Gh(c:fw b Xm XZ):fw b Xm^UD XZ:=by intro d e i a a f a;let#[g,g,g,h,a]:=a;let#[j,k]:=f.eS g h;calc bv (c d e i _ _ k^a j) (Å c a a);cases c with|next=>{let#[c,i,d,e,a]:=a;calc#[c,_,d.dy e^f.dq g h,a]}|brk=>{let#[c,i,d,e,a]:=a;calc#[c,_,d.dy e^f.dq g h,a]}|cont=>{let#[c,i,d,e,a]:=a;calc#[c,_,d.dy e^f.dq g h,a]}|ret j=>let#[j,c,i,d,i,e,a]:=a;calc#[j,c,_,d.dy e^f.dq g h,i,a]
variable{aaZ:eA}{aa0:Nat->aG->Prop}
def qo(a:í)(c:bb)(e:km b.prog b.w b.as Q aaZ [j.heap.objs.size] j.heap.objs.size aa0)(f:aa0 0^j.heap.push c)(i:aam aaZ h):yM b U X Q aam adN {j with heap:=j.heap.push c,toks:=g}:=by calc#[j.heap.objs.size,[j.heap.objs.size],aa0,aaZ,h,r,a.kept (Ϙ d c c),e,f,Â d e,i];let c:d=j.heap.objs.size:=by{exists e};subst c;calc ap1 a
abbrev yI(b:al):eA:=#[λa _=>a<b.cps.size,λa c d e=>e=c/\∃c,b.cps[a]?=aa c/\d=at8 c,λa _=>b.cps.size<=a]
def GD(c:ac)(j:al)(t:hi)(n:String)(u:n="str_ascii_iterator"\/n="str_iterator"):ah4 Q (yI j) [c] c^λe k=>k.IsStrIter c n j t e where mem:=by{simp};obj:=alg e k b g h a c f B m L;keep:=λe k o b l=>let#[f,P,W]:=b;#[f,agP l c f P,W];item:=by{ext ϵ p C D E s e H m I F J l v b G;let#[w,x,M,y,z,A]:=Ϸ v c;let N:Walks p.prog p.w p.ao c [c] [c] j.cps.size (SignAt j)^λe k=>k.IsStrIter c n j t e:=by{ext ň u a;{rwa[a,Walks.strAscii (ŋ l s) c j t]};{rwa[a,Walks.strWide (ŋ l s) c j t]}};let O:atD n=ay:=by{ext ň u a;{rw[a];decide};{rw[a];decide}};calc N.item e m _ _ G b (ò L o n L t N);let#[B,Ä R S]:=L;let L:av p H I F (afP m o n):=l.bm (ali g f h a N) w x y z A;let#[N,a,N,T]:=id t;calc#[_,r,oN (j:=(afP m o n)) a N T O #[at8 B,F,L,#[R,r],#[r,B,S,r],t,ah5 g h v]]};done:=by{ext ϵ p C D E s e H m I F J l v b G;let#[w,x,M,y,z,A]:=Ϸ v c;let n:j.cps[e]?=ah:=sF G;ext ň u a;{rw[a]at b;calc wpAny_pyNext_ascii_end (ŋ l s) b n (afO o c l m g f h a w x y z A)};{rw[a]at b;calc wpAny_pyNext_wide_end (ŋ l s) b n (afO o c l m g f h a w x y z A)}};self:=λc e m c J b k=>by ext ň u a;{rw[a]at b;calc wpAny_pyIter_striter_ascii b k};{rw[a]at b;calc wpAny_pyIter_striter_wide b k}
inductive RQ(b:(aen))(c:ab)(d:ag):Prop|mk(a:_)(_:c=û a)(_:b (yI a) d)
abbrev RP(a:a4):hA:=λb c d=>a b c^RQ d
def Tf(a:acN):iy b Q W6^RP Xg:=by ext ann a;rintro a c ⟨a,a,d,g,a,f,e⟩;subst f;ext Ú f g;cases g:a.cps.all (·<128);{calc wpAny_pyIter_wide g^alK c d (GD _ a f "str_iterator"^ϛ) agV e};{calc wpAny_pyIter_ascii g^alK c d (GD _ a f "str_ascii_iterator"^ħ) agV e}
variable{Xx:Array d4}
def vg(d:aj2)(a:ank=ŉ)(e:W5.ExactDict)(c:W5.data=.dict Xx g)(h:XP adN (ajU (agI "dict_keyiterator" [ñ,at9,.int g 0]))):ah9 (nR^ñ):=by let b:at7:=#[W5,a,e.1];calc wA b Il^ih Il b F.entry_dict_iter ?_^F.args_dict_iter_1 _;unfold Builtin.«dict.__iter__»;calc ź;unfold Vm;calc ar^wy b ?_;show Ģ (pure^bD f) j;calc ŏ;show Ģ (qP f>>=_) j;unfold qP;rwa[zF^by{rwa[d,ej]},adi];calc ar^jW a c ?_;calc ar^ms a c ?_;calc ar^hk^aT #[_,r,"dict_keyiterator",_,#[_,İ,r],qQ.lookup,?_];simpa[fQ]using h
variable{YI:d4}{Zz:Option aj->ax->Prop}
def F8(a:ayg)(d:aqH=ŉ)(e:W5.data=.dict Xx W1)(h:Xx.size=B)(k:Xx[g]?=aa YI)(l:∀b,b.IsKeyIter f s (g+1) B W1->kC f j.heap b->Zz (aa YI.key) (ad0 b)):ť (gq^ñ) Zz Xk j:=by ext ayh c m b a d e h;let#[d,e]:=ni.mp k;simp only[ayi,if_false,hf,l3 d];ext at' a;calc ar^Jd a.typeIs ?_;calc aqI (pg ñ 1^fQ (Λ+1)>>=_) c b;let a:(alA^o' (aii 1^fQ (Λ+1))).IsKeyIter f s (g+1) B W1:=ayj c b m;calc ar^f7 ?_;calc ar^Jd (s:={j with heap:=alA^o' (aii 1^fQ (Λ+1))}) a.typeIs ?_;show Ģ (pure Xx[g].key) _;rwa[e,aT^aT #[_,r,aT^l _ a^jS ..]]
def vk(k:afV)(a:ayg)(b:aqH=ŉ)(c:W5.data=.dict Xx W1)(d:Xx.size=B)(l:B<=g)(m:∀e,AD f j.heap e->Zz ah (ad0 e)):ť (gq^ñ) Zz Xk j:=by ext ayh e h h a b c d;let b:Xx.size<=g:=by{rwa[d,l]};simp only[ayi,if_false,hf,sF b];ext at' a;calc aqI (pg ñ 0 .none>>=_) e h;ext ayk;simp only[q5,newTuple];calc ar^hk ?_^by{size_fits};calc ar (m:=q4 _ _)^ayl ?_;calc hk ?_^by{size_fits};simp only[raiseNew];calc ar^A' ?_;ext aym k;calc ar^ayn ?_;calc ayo m
def FZ{a:Type}{e:List (a×ab)}{f:List (a×aj)}(g:d2 e f):∀{b:Nat}{c:a}{d:ab},e[b]?=õ c d->∃h,f[b]?=õ c h/\bP d h:=by unfold d2 at g;induction g with|nil=>{intro b c d a;simp at a}|@cons e f e e e g g=>intro b c d a;ext adF b b;{simp only[G4,v3]at a;subst a;calc#[f.2,?_,e.2];simp only[G4];calc zL aa^hK e.1.symm r};{simp only[List.getElem?_cons_succ]at a⊢;calc g a}
def zl{b:bh}{c:aj}(d:jF b c=af):bP (dA b) c:=by ext ak6 d e a f;{calc#[a,r]};{calc#[a,r]}
variable{Xq:ac}
def av.dJ(m:í)(n:h Xq=aa^.aL W5^.az Xy):(Xq==fD)=ay/\j.heap.get? Xq=ŉ/\W5.ExactDict/\∃(a:aj3) (d:Nat) (c:aqG),W5.data=.dict a d/\a.size=Xy.length/\d2 Xy c/\j.heap.DictAt anY Xq c d:=by let#[e,f,o,c,f,g,a,d,g,i,k,l]:=m.aq Xq _ n;ext Æ e g;calc#[o,e,i,a,d,c,k,?_,f,W5,a,e,i,k,l];let a:=l.2.1.length;let d:Xy.length=c.length:=bC f;rw[iG]at a;calc anZ a d
def av.dL(o:í)(p:h Xq=aua):(Xq==fD)=ay/\j.heap.get? Xq=ŉ/\W5.ExactDict/\∃(a:aj3) (e:Nat),W5.data=.dict a e/\a.size=Xs.length/\∀(d:Nat)(f:aeg)(g:ab),Xs[d]?=õ f g->∃(i:d4) (c:ac),é a d i/\i.key=À c/\h c=ae7 f:=by let#[i,k,q,k,l,m,a,e,m,s,t,n,_]:=o.aq Xq _ p;ext Æ i m;calc#[q,i,s,a,e,t,?_,Ô d f g f];{ext aub a k n l};{let#[a,e,g,g,_]:=cK l f;let c:=wm n d;rw[e]at c;calc#[_,a.2.1,c,r,g]}
abbrev Ff(d:ac)(e:bb)(a:Ĕ):eA:=#[λb c=>c d=aa^.aL e^.az a/\ś b a,λb c g f=>f=c/\∃f h,a[b]?=õ f h/\g=dA f,λb c=>c d=aa^.aL e^.az a/\β a b]
abbrev yH(d:ac)(e:bb)(b:afI):eA:=ayp c a d e b (λc a h f=>f=a/\∃(f:aeg) (i:ab) (g:ac),b[c]?=õ f i/\h=À g/\a g=ae7 f)
variable{abp:Array d4}
def qa(b:W5.data=.dict Xx g)(a:W5.data=.dict abp B):abp=Xx/\B=g:=by ext Æ b a;calc aeX
variable{X8:Nat}
def U4(e:ac)(G:aqJ):ayq (Ff Xq W5 Xy) e c k where mem:=by{simp};obj:=alg c k b f g a e n H s I;keep:=anl c k l b m n a e;item:=by{ext ϵ J t u v L c M h N w O j o b x;let#[y,z]:=x;let#[A,B,Y,C,D,E]:=Ϸ o e;let#[Z,P,ab,ae,ag,Q,p,R,F,S]:=j.dJ y;let#[rfl,rfl]:=qa G p;obtain⟨⟨m,I⟩,T⟩:∃U,Xy[c]?=aa U:=#[Xy[c],bi z];let#[U,V,U]:=FZ F T;let U:Xy.length=Q.length:=bC F;rw[U]at b;ext ayr b S V l J M N w h j f X g a A B C D E n H s m I T o e c U};done:=by{ext ϵ J t u v L c M h N w O j o b x;let#[y,z]:=x;let#[A,B,Y,C,D,E]:=Ϸ o e;let#[Z,P,ab,ae,ag,Q,p,R,F,S]:=j.dJ y;let#[rfl,rfl]:=qa G p;calc vk (ŋ j L) b P p R z (afO l e j h f X g a A B C D E)};self:=λa c h a O b k=>Be b k
def U5(e:ac)(J:aqJ):ah4 Zq (yH Xq W5 Xs) [e] e^λc k=>k.IsKeyIter e Xq c Xs.length X8 where mem:=by{simp};obj:=alg c k a f g b e m L s t;keep:=anl c k n a o m b e;item:=by{ext ϵ M u v w N c O h P x Q j p a y;let#[z,A]:=y;let#[B,C,W,D,E,G]:=Ϸ p e;let#[X,H,Y,Z,ab,l,I,R]:=j.dL z;let#[rfl,rfl]:=qa J l;obtain⟨⟨o,t⟩,S⟩:∃T,Xs[c]?=aa T:=#[Xs[c],bi A];let#[ae,T,U,ag,ai]:=R c o t S;calc F8 a H l I U (Å n U ak);let am:av M O P x (ϳ h n):=alh j h f V g b ak B C D E G;let#[m,b,L,s]:=id U;calc#[ae.key,r,ap0 h n b L s #[À T,x,am,ag,#[r,o,t,T,S,r,ai],U,ah5 f g p]]};done:=by{ext ϵ M u v w N c O h P x Q j p a y;let#[z,A]:=y;let#[B,C,W,D,E,G]:=Ϸ p e;let#[X,H,Y,Z,ab,l,I,R]:=j.dL z;let#[rfl,rfl]:=qa J l;calc vk (ŋ j N) a H l I A (afO n l j h f V g b B C D E G)};self:=λb c h b Q a k=>by calc wA a.typeIs Im^ih Im a.typeIs F.entry_dict_keyiterator_iter ?_^F.args_dict_keyiterator_iter_1 _;show Ģ (ret^À e) h;calc aT #[_,r,"dict_keyiterator",_,a.typeIs,qQ.lookup,k]
inductive RJ(e:(aen))(f:ab)(c:ag):Prop|mk(a d:_)(_:f=À a)(_:((∃b,c a=aa^.aL d^.az b/\e (Ff a d b) c)\/∃b,c a=aa^.aL d^.aB b/\e (yH a d b) c))
abbrev RI(a:a4):hA:=λb c d=>a b c^RJ d
def Td(a:bj b Q Y2):anm^RI Y2:=by ext ann a;rintro c j ⟨a,a,d,e,f,a,g,a⟩;ext aeq g c f e;rcases a with⟨c,e,a⟩|⟨c,e,a⟩;{let#[f,g,h,k,l,c,c,i,m,m]:=d.dJ e;calc vg f g h c^alK j d (U4 _ c) #[_,İ,r,?_] a;rw[i]<;>rfl};{let#[f,g,h,k,l,c,i,k]:=d.dL e;calc vg f g h c^alK j d (U5 _ c) #[_,İ,r,?_] a;rw[i]<;>rfl}
abbrev uR(e:ap)(f:ac):eA:=#[λc b=>∃(a:Á) (d:ab),aw e b f a/\é a c d,λc b h i=>∃g d,h=À g/\b g=ah/\i=act b g [Ê c,d]/\∀a,aw e b f a->é a c d,λc b=>∃a:Á,aw e b f a/\β a c]
def U3(a l h:ac):ah4 (ale Z) (uR d a) [l,h] l^λb o=>(∃p,IsEnum o l h ((b:Nat):Int) p)/\o.IsListIter h a b/\l≠h where mem:=by{simp};obj:=λb o m f j=>by{let#[#[p,k],#[s,B,C,a],_]:=m;let D:f=l\/f=h:=by{exists j};ext ň D e;{rwa[e,#[_,k,λn c=>nomatch c]]};{rwa[e,#[s,B,λn c=>by ext Æ a c]]}};keep:=λb o E m a=>let#[#[p,k],W,t]:=m;#[#[p,agP a l _ k],W.at λs c=>agP a h s c,t];item:=by{ext ϵ u F G H C b O a P I Q n v m J;let#[#[p,k],w,t]:=m;let#[S,x,y,z]:=J;let#[T,L,M,U]:=n.list y;let#[A,N,V]:=L.get z;let R:aim l a:=co k;let X:aim h a:=by{let#[_,c,_]:=w;calc co c};calc wpAny_pyNext_enum_item k w M.isList (x:=A) (by exists N) t (ò E B Y ab N ae);calc#[_,r,wpAny_letOwnedTupleGo_enum (s:={a with heap:=E,toks:=adj a}) B (Å B ag N)];let ak:aqq B a=aa (aly "tuple" (List.toArray [Ì b a.toks,A])):=(N.2 _^qJ R).trans ab;let ab:eh u.prog u.w (agR I a^.tup [Ê b,x]) B a.heap.objs.size^.tup [Ê b,x]:=#[by{show 2<=a9;decide},[Ì b a.toks,A],.cons Ŧ^Ů V .nil,#[_,ak,r,_,r]];let V:av u O P (agR I a^.tup [Ê b,x]) {a with heap:=B,toks:=adj a}:=n.eu (W':=[l,h]) (λf B j c=>(N.2 f^afK e j).trans^ae f B (afK e j) (afK e j) c) v (a5 _) ab;calc#[ϻ a,_,V,r,#[_,x,r,Ś n,r,λx x=>by rwa[n.ef x y,z]],#[#[A,?_],Y.at λs c=>(N.2 h^ci t).trans c,t],Â f j];{let x:aj4 b=Ñ b+1:=by{lia};rwa[x,ag]};{let x:aim f a:=by{let D:f=l\/f=h:=by{exists j};ext ň D e;{rwa[e,R]};{rwa[e,X]}};rwa[ao^ek x,(v f j).1]}};done:=by{ext ϵ u F G H C b O a P I Q n v m J;let#[#[p,k],w,t]:=m;let#[S,y,z]:=J;let#[T,L,M,U]:=n.list y;let#[e,l,p,p,t,u]:=Ϸ v h;ext Ť h L;calc wpAny_pyNext_enum_end (ŋ n C) k w M.isList (by simp;calc Ō h z) (afO E h n a f s j c e l p t u)};self:=λc b a a Q m o=>let#[#[_,k],_]:=m;Jj k o
inductive RH(b:ap)(d:(aen))(e:Á)(c:ag):Prop|mk(a f:_)(_:e=æ a)(_:aw b c a f)(_:d (uR b a) c)
abbrev RG(a:ap)(b:ei):hA:=λc d e=>b c d^RH a e
def iE(f:e8 b "enumerate")(h:b.aO "enumerate"=ah)(i:gh b [Q] X0)(j:ap2:=by rfl):iy b (ale Yl) (agT (.Name "enumerate" Z) [Q] XG)^RG b.as X0:=by intro d l e m a a n;calc qM^kq a f h boot_enumerate^o2 (bv (i XG d l e m _ a n) λa a #[y,k,c,u,v]=>?_) j r;let#[h,f,f,i,j]:=v;subst f;ext Ā u f l;{ext l;ext f;let#[f,f,f,l]:=c.list i;calc call_enumerate_list f.isList λi f l m m=>Jj f ?_;let n:av b d e k (ϳ a i):=ajJ c a m;calc#[alL a,[alL a,a.heap.objs.size],_,_,k,r,n,U3 h (alL a) a.heap.objs.size,#[#[.none,f],l,Nat.succ_ne_self _],Â d e,j];let f:d=alL a\/d=a.heap.objs.size:=by{exists e};let e:a.heap.objs.size<=d:=by{ext ň f a;{rwa[a,ġ]};{rwa[a,a5 _]}};calc c.cm e^c.aq.fresh e}
def Jz(a:0<=Xb)(b:0<=X5):o4 Xb X5=((Xb.toNat|||X5.toNat:Nat):Int):=by let c:=nat_or_add_and Xb.toNat X5.toNat;rw[bitOr_and,bitAnd_pp a b];omega
abbrev bu(a:cE)(b:Nat):cE:=match a with|.ClassDef _ _ _ a _ _ _ _ _ _ _=>a.getD b^auc|_=>auc
abbrev jD(a:cE):Au:=match a with|.FunctionDef _ a _ _ _ _ _ _ _ _=>a|_=>{posonlyargs:=[],args:=[],vararg:=ah,kwonlyargs:=[],kw_defaults:=[],kwarg:=ah,defaults:=[]}
abbrev f3(a:cE):List cE:=match a with|.FunctionDef _ _ a _ _ _ _ _ _ _=>a|_=>[]
abbrev da(a:cE):dF:=match a with|.FunctionDef _ _ _ _ _ _ a _ _ _=>a|_=>{kind:=.function,names:=[],isGenerator:=ay,isCoroutine:=ay}
@[reducible]abbrev aO:fv:=λ_ _ _ _ _ _=>False
@[reducible]abbrev Q0:aY:=ald
def bd:h3 aO b Q0:=λ_ _ _ _ _ _ _ a=>a.elim
structure bY(a:ap)(g c:al)(b:cE)(d:ac)(e:b'):Prop where(au:∃(h:aj) (i:acL) (j k l:aj) (m:acL) (f n:aj) (o:Array^aju),e=iN g c (jD b) (f3 b) (da b) .none j k l m f n/\τ a d=aa #[h,i,.func e,o]/\ls a f c=af)(bK:gR a^À d=af)
abbrev bl(c:aV)(d:List cE)(a:aA)(e:aR)(f:ag):Prop:=∃b,g6 c d b/\b (aqj b a) e f
def bl.mk(a:ajG XZ)(c:XZ {a0:=λ_ d=>Yj .ar d,b6:=Yj} X h):bl b Zh Yj X h:=#[XZ,a,c]
def bY.ok(n:aj5)(o:aif^Ν)(p:anG a b c e)(s:∀(h:aj)(j:cp)(l:Ψ)(k:ax)(b:ag)(a:Á)(c:aA)(e:aY),ays j k h a b c e l):aud:=by calc aue h n o p λj l k b a c e n o=>?_;let#[p,u,v]:=s h j l k b a c e n o;calc#[p,u.cv,v]
def bY.c1(j:aj5)(k:∀(a b c:aj)(e:acL)(g h:aj)(i:â),anw i->wk (auf a b c e g h) #[i,[]]=pure^Xh.zip i):gx d M Xh []:=by let#[i,i,a,b,c,e,g,Ä h i,i,i]:=j.au;calc .all^k a b c e g h
def so(a:adT=aa #[W8,X1,.func^auf XM YW Y8 X7 YX Zx,Zi])(b:ls d YX Xn=af)(c:gR d^ñ=af):bY d L Xn Xm f^auf XM YW Y8 X7 YX Zx:=#[#[W8,X1,XM,YW,Y8,X7,YX,Zx,Zi,r,a,b],c]
def hC(a:aW g W2):alH:=sX (Nat.add_le_add_left (by{decide}:1<=64) _) a.units
def ae(a:Nat)(c:b.aX[a]?=aa L:=by rfl)(d:apW L:=by first|(calc nx r)|(calc ib^nx r)|calc ib^ib r)(e:χ:=by decide)(f:axt:=by decide):bj b ade^vD a:=Tc c d e f
def a8{a b d:Prop}[Decidable a](e:a->b)(f:¬a->d):if a then b else d:=by by_cases c:a;{rwa[zG c,e c]};{rwa[zF c,f c]}
abbrev aL(c d:ag):Prop:=∀a b,c a=aa b->d a=aa b
def aL.refl(a:ag):aL a a:=Ķ a
def aL.free(b:ŧ)(a:V f=ah):aek:=by rcases c:h f with _|d;{rfl};{rw[b f d c]at a;ext a}
def Vd[Ŵ]{a:ž}{b:XJ}(d:bS a b=ah):¬b∈ė a:=by intro c;let#[e,f,g]:=bE.mp c;let c:(aj1 a a b)=af:=kv.mpr #[e,f,zJ g];rw[qv,d]at c;calc alp c
def yQ(a:Xb=Λ)(b:O[g]?=adG):k7 O Xb=adG:=by rwa[a,b0 b]
mutual inductive gg(a:ap)(b:ag):ab->ec->Prop|ar:gg a b .ar .none|ah(d:Bool):gg a b (.ah d)^.bool d|int(g:Int):gg a b (Ì g)^Ì g|str(h:al):gg a b (û h)^û h|bv(d:Array UInt8):gg a b (.bv d)^.bytes d.toList|lst{e:ac}{f:Á}{c:ag3}:aw a b e f->kj a b f c->gg a b (À e)^.list c|tup{e:ac}{f:Á}{c:ag3}:bw a b e f->kj a b f c->gg a b (À e)^.tuple c inductive kj(a:ap)(b:ag):Á->ag3->Prop|nil:kj a b [] []|cons{i:ab}{j:Á}{k:ec}{c:ag3}:gg a b i k->kj a b j c->kj a b (i::j) (k::c)end
def FI{b:ap}{c:ag}:∀a:å,kj b c (Ż a)^a.map ec.int|[]=>.nil|a::b=>.cons (Ì a)^FI b
def FU{c:ap}{d:ag}:∀(b:å)(a:Á),kj c d a^b.map ec.int->a=Ż b|[],a,b=>by{ext b;rfl}|d::c,a,b=>by ext Ā b a b;{ext a;rw[FU c _ b]<;>rfl}
variable{aat:IL}{aau:al->Option ac}
def Uf(k:υ)(l:Ξ)(e:aw d h f O):ayt a b c "list":=by rcases e with e|⟨b,a,c,g,m,_,n,_,j⟩;{let#[_,a,c,j,g]:=(show agJ W3 f^.lst O from e.ok k);calc#[a,_,c,j,g,r,r]};{calc#[a.toList,b,c,j,l _ _ g,m,by simp[n]]}
def Ug(m:υ)(n:Ξ)(e:bw d h f O):ayt b a c "tuple":=by rcases e with e|⟨a,b,c,g,j,k,_,l⟩;{let#[_,b,l,a,g,j,c,k]:=(show agJ W3 f^.tup O from e.ok m);calc#[b,a,c,l,g,j,k]};{calc#[b.toList,a,c,l,n _ _ g,j,by simp[k]]}
mutual def gg.b4(e:υ)(f:Ξ):∀(k:ec)(a:ab)(b:aj),gg d h a k->bP a b->∃g,me aat aau W3 b k g|.none,_,_,a,b=>by{ext a;ext b;calc#[_,me.none]}|.bool l,_,_,a,b=>by{ext a;ext b;calc#[_,me.bool l]}|Ì m,_,_,a,b=>by{ext a;ext Ú j b;calc#[_,me.int m j]}|û m,_,_,a,b=>by{ext a;ext Ú j b;calc#[_,me.str m j]}|.bytes l,_,_,a,b=>by{ext a;ext Ú j b;calc#[_,me.bytes _ j]}|.list c,_,_,a,b=>by{cases a with|lst j l=>ext b;let#[m,w,x,n,o,p,s]:=Uf e f j;let#[g,t]:=gg.cw e f c _ m l n;calc#[_,me.list o p s t]}|.tuple c,_,_,a,b=>by{cases a with|tup j l=>ext b;let#[m,w,x,n,o,p,s]:=Ug e f j;let#[g,t]:=gg.cw e f c _ m l n;calc#[_,me.tuple o p s t]}|.float _,_,_,a,_=>by{ext a}|.dict _,_,_,a,_=>by{ext a}|.bytearray _,_,_,a,_=>by{ext a}|.set _,_,_,a,_=>by{ext a}|.frozenset _,_,_,a,_=>by{ext a}|.obj _ _,_,_,a,_=>by{ext a}def gg.cw(e:υ)(f:Ξ):∀(c:ag3)(u:Á)(v:â),kj d h u c->bM u v->∃g,AL aat aau W3 v c g|[],_,_,a,b=>by{ext a;ext b;calc#[_,AL.nil]}|k::c,_,_,a,b=>by{ext Ā a a j;{ext Ā b b l;{let#[g,g]:=gg.b4 e f k _ _ a b;let#[a,a]:=gg.cw e f c _ _ j l;calc#[_,AL.cons g a]}}}end
mutual abbrev iF:ec->Bool|.none=>af|.bool _=>af|ψ=>af|aeo=>af|.bytes _=>af|.list a=>jJ a|.tuple a=>jJ a|_=>ay abbrev jJ:ag3->Bool|[]=>af|a::b=>iF a&&jJ b end
def Gf{b:Type}{a:b->ec}(c:∀d,iF^a d=af):∀e:ì b,jJ^e.map a=af|[]=>r|b::d=>by show(iF^a b&&jJ^d.map a)=af;rw[c b,Gf c d]<;>rfl
def nb:∀(b:hN)(a:b.denote),iF^b.enc a=af|.unit,_=>r|.bool,_=>r|ψ _,_=>r|.nat _ _,_=>r|.u8,_=>r|.bytes _ _,_=>r|.text _ _ _ _,_=>r|.list _ _ b,a=>Gf (λd=>nb b d) a|.pair b c,a=>by{show(iF^b.enc a.1&&(iF^c.enc a.2&&af))=af;rw[nb b a.1,nb c a.2]<;>rfl}|.triple b c e,a=>by{show(iF^b.enc a.1&&(iF^c.enc a.2.1&&(iF^e.enc a.2.2&&af)))=af;rw[nb b a.1,nb c a.2.1,nb e a.2.2]<;>rfl}|.option b,ah=>r|.option b,aa d=>nb b d
def Gg:∀(b:List hN)(a:hN.denoteAll b),jJ^hN.encAll b a=af|[],_=>r|c::b,a=>by show(iF^c.enc a.1&&jJ^hN.encAll b a.2)=af;rw[nb c a.1,Gg b a.2]<;>rfl
def zp:∀{b:ag3}{a:ec},a∈b->a.weight<=ec.weightAll b|[],a,b=>zH b^by{simp}|c::d,a,b=>by show a.weight<=c.weight+1+ec.weightAll d;rcases bK.mp b with a|b;{rw[a];lia};{let a:=zp b;lia}
abbrev hb:aj->ab|.none=>.ar|.bool a=>.ah a|Ì b _=>Ì b|û b _=>û b|.bytes a _=>.bv a|À a=>À a|_=>.ar
abbrev jb(a:Ó):aj->Prop|.none=>True|.bool _=>True|ψ _=>True|aeo _=>True|.bytes _ _=>True|À b=>b∈a|_=>False
variable{S:List ac}
def jb.mono(d:∀b∈W',b∈S):∀{a:aj},jb W' a->jb S a:=λ{a} c=>by cases a with|ref b=>{calc d b c}|none=>{trivial}|bool b=>{trivial}|int a a=>{trivial}|str d a=>{trivial}|bytes b a=>{trivial}|_=>calc he c
def T1(b:jb W' W8):bP (hb W8) W8:=by cases W8 with|ref a=>{rfl}|none=>{rfl}|bool c=>{rfl}|int a a=>{calc#[a,r]}|str d a=>{calc#[a,r]}|bytes c a=>{calc#[a,r]}|_=>calc he b
def qw{c:Ó}:∀{a:â},(∀b∈a,jb c b)->bM (a.map hb) a|[],_=>.nil|b::c,a=>.cons (T1^a b^cj ..)^qw (γ b c a)
inductive QX(b:aG)(d:Ó)(c:ac):Prop|mk(a:â)(_:adb a)(_:(∀e∈a,jb d e))(_:(b.get? c=aa (Μ "list" a)\/b.get? c=aa (Μ "tuple" a)))
abbrev kh(a:aG)(b:Ó)(c:ac):Prop:=QX a b c
def kh.mono{b:aG}{c d:Ó}{a:ac}(e:∀a∈c,a∈d)(f:kh b c a):kh b d a:=by let#[a,b,c,d]:=f;calc#[a,b,λa b=>(c a b).mono e,d]
variable{ZT:nD}{Y3:List ec}
def zq(a:nG ZT t Xd Y3):Xd.length=Y3.length:=by induction Xd generalizing Y3 with|nil=>{ext a;rfl}|cons _ _ b=>rcases a with _|⟨_,a⟩;{calc zL (·+1)^b a}
def GI(c:W.Well ZT t W8^.list Y3):ayu "list":=by cases c with|list a b=>calc#[Ŝ a,b]
def GJ(c:W.Well ZT t W8^.tuple Y3):ayu "tuple":=by cases c with|tuple a b=>calc#[Ŝ a,b]
variable{WL:ec}
def GH(c:nG ZT t Xd (WL::Y3)):∃(a:aj) (b:â),Xd=a::b/\W.Well ZT t a WL/\nG ZT t b Y3:=by ext Ā c a b;{calc#[Ŝ a,b]}
def F5(a:g<=1048576):g<=a9:=ds a^by decide
mutual def Q':∀(i:ec)(s:aj),W.Well ZT W3 s i->iF i=af->aqK i->∃b:Ó,jb b s/\∀f∈b,kh W3 b f|.none,_,d,_,_=>by{ext an0 d f a}|.bool c,_,d,_,_=>by{ext an0 d f a}|Ì e,_,d,_,_=>by{ext an0 d f a}|û e,_,d,_,_=>by{ext an0 d f a}|.bytes c,_,d,_,_=>by{ext an0 d f a}|.list g,_,d,e,m=>by{let#[Ä f j,t,n]:=GI d;ext ayv o g m b u v n e i w p c f h l a;{rwa[l,#[j,F5^by{rwa[zq n,ds (IS g) o]},λk q=>(u k q).mono p,Ð t]]};{calc(v c a).mono p}}|.tuple g,_,d,e,m=>by{let#[Ä f j,t,n]:=GJ d;ext ayv o g m b u v n e i w p c f h l a;{rwa[l,#[j,F5^by{rwa[zq n,ds (IS g) o]},λk q=>(u k q).mono p,ÿ t]]};{calc(v c a).mono p}}|.float _,_,_,e,_=>ji^adn e|.dict _,_,_,e,_=>ji^adn e|.bytearray _,_,_,e,_=>ji^adn e|.set _,_,_,e,_=>ji^adn e|.frozenset _,_,_,e,_=>ji^adn e|.obj _ _,_,_,e,_=>ji^adn e def u4:∀(g:ag3)(j:â),nG ZT W3 j g->jJ g=af->(∀i∈g,aqK i)->∃b:Ó,(∀k∈j,jb b k)/\∀f∈b,kh W3 b f|[],_,d,_,_=>by{ext d;calc#[[],alr k a,λf a=>alp a]}|i::g,_,d,e,m=>by{let#[Ä s j,n,o]:=GH d;let f:iF i=af/\jJ g=af:=vJ.mp e;let#[b,p,t]:=Q' i s n f.1^m i^cj ..;let#[d,i,n]:=u4 g j o f.2 (γ l e m);let e:∀c∈b,c∈b++d:=λc h=>cL.mpr^Ð h;let f:∀c∈d,c∈b++d:=λc h=>cL.mpr^ÿ h;calc#[b++d,Â k q,Â c h];{rcases bK.mp q with l|a;{rwa[l,p.mono e]};{calc(i k a).mono f}};{ext aj6 h a;{calc(t c a).mono e};{calc(n c a).mono f}}}end
abbrev vf(a:bb):Option cx:=match a.data with|.seq b _=>if(a.cls==mc "list")=af then aa^.aL a^.lst^b.toList.map hb else aa^.aL a^.tup^b.toList.map hb|_=>ah
abbrev eL(b:ap)(c:aG)(d:Ó):ag:=λa=>if a∈d then(if(τ b a).isNone=af then(c.get? a).bind vf else ah)else ah
abbrev Fg(a:ag):Prop:=∀b,a b=ah\/∃c d,a b=aej c d
def FR(a:â):vf (Μ "list" a)=aa^.aL (Μ "list" a)^.lst^a.map hb:=by show(if(mc "list"==mc "list")=af then aa^cx.aL (Μ "list" a)^.lst^aqL a else aa^cx.aL (Μ "list" a)^.tup^aqL a)=_;rw[zG^ύ]
def FS(a:â):vf (Μ "tuple" a)=aa^.aL (Μ "tuple" a)^.tup^a.map hb:=by show(if(mc "tuple"==mc "list")=af then aa^cx.aL (Μ "tuple" a)^.lst^aqL a else aa^cx.aL (Μ "tuple" a)^.tup^aqL a)=_;rw[zF^by decide]
def u5(a:f∈W')(b:adT=ah)(c:aeT=ŉ):af1 f=vf W5:=by unfold eL;rw[zG a,b,zG^show(ah:Option bb).isNone=af from r,c]<;>rfl
def SW(a:af1 f=aa o):f∈W'/\adT=ah:=by unfold eL at a;by_cases c:f∈W';{rw[zG c]at a;rcases b:adT with _|e;{calc#[c,r]};{rw[b,an1]at a;ext a}};{rw[zF c]at a;ext a}
def u6(g:∀c∈W',alM c)(b:af1 f=aa o):adT=ah/\∃a:â,adb a/\(∀o∈a,jb W' o)/\((aeT=aa (Μ "list" a)/\o=.aL (Μ "list" a)^.lst^a.map hb)\/(aeT=aa (Μ "tuple" a)/\o=.aL (Μ "tuple" a)^.tup^a.map hb)):=by let#[c,e]:=SW b;let#[a,h,i,j]:=g f c;calc#[e,a,h,i,?_];ext ň j a;{rw[u5 c e a,FR]at b;calc .inl #[a,ŝ b]};{rw[u5 c e a,FS]at b;calc è #[a,ŝ b]}
def Ra(b:∀a∈W',alM a):Fg^af1:=λa=>by rcases c:af1 a with _|a;{calc ħ};{obtain⟨_,a,_,_,⟨_,a⟩|⟨_,a⟩⟩:=u6 b c;{calc è #[_,_,by rw[a]]};{calc è #[_,_,by rw[a]]}}
def vu(b:(aa {cls:=W8,data:=aqM}:Option bb)=aa {cls:=XM,data:=.seq XS.toArray}):W8=XM/\Xd=XS:=by let a:=bW b;let b:W8=XM:=zL Obj.cls a;let c:Data.seq Xd.toArray=Data.seq XS.toArray:=zL Obj.data a;injection c with k;calc#[b,?_];let a:=zL oV k;exists a
def Rb(h:Ξ)(a:∀f∈W',alM f)(c:f∈W')(b:aeT=aa (aqr "list")):(∀e∈Xd,jb W' e)/\aw d af1 f^Xd.map hb:=by let#[e,i,g,j]:=a f c;let k:e=Xd:=by{ext ň j a;{rw[b]at a;calc(vu a).2.symm};{calc aqN b a (qZ (vu a).1)}};subst k;calc#[g,?_];rcases a:adT with _|j;{calc aip #[_,by rw[u5 c a b,FR]]};{let c:=h f j a;rw[b]at c;obtain rfl:=bW c;calc è #[_,e.toArray,_,a,r,r,r,by{rwa[dw,i]},by exists qw g]}
def Rc(h:Ξ)(a:∀f∈W',alM f)(c:f∈W')(b:aeT=aa (aqr "tuple")):(∀e∈Xd,jb W' e)/\bw d af1 f^Xd.map hb:=by let#[e,i,g,j]:=a f c;let k:e=Xd:=by{ext ň j a;{calc aqN b a (qZ (vu a).1)};{rw[b]at a;calc(vu a).2.symm}};subst k;calc#[g,?_];rcases a:adT with _|j;{calc aip #[_,by rw[u5 c a b,FS]]};{let c:=h f j a;rw[b]at c;obtain rfl:=bW c;calc è #[_,e.toArray,_,a,r,r,by{rwa[dw,i]},by exists qw g]}
mutual def Rs{l:nD}(e:Ξ)(f:∀j∈W',alM j):∀(h:ec)(k:aj),W.Well l W3 k h->iF h=af->jb W' k->gg d af1 (hb k) h|.none,_,a,_,_=>by{ext a;calc .ar}|.bool b,_,a,_,_=>by{ext a;calc .ah b}|Ì i,_,a,_,_=>by{ext a;calc Ì i}|û i,_,a,_,_=>by{ext a;calc û i}|.bytes b,_,a,_,_=>by{ext a;let i:=gg.bv (a:=d) (b:=af1) b.toArray;calc i}|.list c,_,a,b,i=>by{let#[Ä j g,m,n]:=GI a;let#[o,p]:=Rb e f i m;calc .lst p^va e f c _ n b o}|.tuple c,_,a,b,i=>by{let#[Ä j g,m,n]:=GJ a;let#[o,p]:=Rc e f i m;calc .tup p^va e f c _ n b o}|.float _,_,_,b,_=>ji^adn b|.dict _,_,_,b,_=>ji^adn b|.bytearray _,_,_,b,_=>ji^adn b|.set _,_,_,b,_=>ji^adn b|.frozenset _,_,_,b,_=>ji^adn b|.obj _ _,_,_,b,_=>ji^adn b def va{l:nD}(e:Ξ)(f:∀j∈W',alM j):∀(c:ag3)(g:â),nG l W3 g c->jJ c=af->(∀q∈g,jb W' q)->kj d af1 (g.map hb) c|[],_,a,_,_=>by{ext a;calc .nil}|h::c,_,a,b,i=>by{let#[Ä k g,j,l]:=GH a;let a:iF h=af/\jJ c=af:=vJ.mp b;calc .cons (Rs e f h k j a.1^i _^cj ..)^va e f c g l a.2 (γ q a i)}end
def SD(b:ec.layableAll Y3=af):∀a∈Y3,aqK a:=λa c=>(W.layableW_iff.mp^iI.mp b a c).2.2
def FJ:∀(a:List hN)(b:hN.denoteAll a),(hN.encAll a b).length=a.length|[],_=>r|c::a,b=>by show(hN.encAll a b.2).length+1=Ŏ a;rw[FJ a b.2]
abbrev ve(c b:Ĩ)(a:dF):Bool:=decide (aqf a)&& ! a.isCoroutine&& ! a.isGenerator&&decide c.Nodup&&decide (c.take b.length=b)&&decide (∀c∈b,ats a c)&&decide (∀b∈a.names,b.2≠.free)
def dJ.ad(a:ve Xh Ya W9=af):aif W9:=by unfold ve at a;simp only[db,decide_eq_true_eq,nh]at a;let#[#[#[#[#[#[b,c],d],e],f],g],h]:=a;calc#[b,c,d,e,f,g,h]
def qk{e:Type}{b:ì e}(d:b.length=g+1):∃c a,b=c::a/\a.length=g:=by ext Ā b c a;{ext d};{calc#[c,a,r,Ak d]}
def vh{e:Type}{d:ì e}(a:d.length=2):∃b c,d=[b,c]:=by let#[Ä b d,a]:=qk a;let#[Ä c d,a]:=qk a;cases h9 a;calc#[b,c,r]
def sp{f:Type}{e:ì f}(a:e.length=3):∃b c d,e=[b,c,d]:=by let#[Ä b e,a]:=qk a;let#[c,d,rfl]:=vh a;calc#[b,c,d,r]
def F2{h:Type}{g:ì h}(a:g.length=5):∃b c d e f,g=[b,c,d,e,f]:=by let#[Ä b g,a]:=qk a;let#[Ä c g,a]:=qk a;let#[d,Ä e f]:=sp a;calc#[b,c,d,e,f,r]
abbrev Fu(c:Ĩ)(d b:dF)(e:List (al×Nat)):Bool:=aiq (aqf b) (∀a∈b.names,alF b a=aa a.2)&&decide (∀f∈e,c[f.2]?=aa f.1)&&decide (∀a∈b.names,a.2=.free->alF d a=ϖ\/alF d a=adK)&&decide (∀a∈b.names,a.2=.local\/a.2=.cell->a.1∈ė e\/a.1∉c)
variable{abq:dF}
def dJ.aK(_:aif W9)(a:Fu Xh W9 abq Zk=af):p5 Xh W9 abq Zk:=by unfold Fu at a;simp only[db,decide_eq_true_eq]at a;calc#[a.1.1.1.1,a.1.1.1.2,a.1.1.2,a.1.2,a.2]
def bo(a:Nat)(d:b.aX.Nodup)(e:b.aX[a]?=aa L)(c:aqz)(f:adM)(g:axz:=by rfl):fw b (.Assign [agN] Q Z)^vy Xg^oM a:=k9 d e (Ð c) f g^ÿ c
def cD(a:Nat)(d:b.aX.Nodup)(e:b.aX[a]?=aa L)(c:aqz):lX b ade^oM a:=sv d e (Ð c)^ÿ c
@[reducible]abbrev cW:=afN
@[reducible]abbrev ez:=agO
@[reducible]abbrev hy:=Ω
def VZ(a:cN)(b:a Yk X h):a Yk X h:=b
def VW(a:cN)(b:dI)(c:XW W4 X h^a b):XW W4 X h^a b:=c
variable{abr:aR->ag->Prop}
def VX(a:aR)(b:XW W4 a h abr):XW W4 a h abr:=b
def VY(a:aR)(b:XZ Yk a h):XZ Yk a h:=b
def V0{a:Prop}(b:¬a->False):a:=Classical.byContradiction b
inductive lY{a b:Type}(c:σ a b):Prop|mk(d:a)(e:b)(_:c d e)
inductive kn{a b c:Type}(d:a->σ b c):Prop|mk(e:a)(f:b)(g:c)(_:d e f g)
inductive h4{a b c d:Type}(e:a->b->σ c d):Prop|mk(f:a)(g:b)(h:c)(i:d)(_:e f g h i)
inductive lZ{a b c d e:Type}(f:a->b->c->σ d e):Prop|mk(g:a)(h:b)(i:c)(j:d)(k:e)(_:f g h i j k)
inductive Ru{a b c d e f:Type}(g:a->b->c->d->σ e f):Prop|mk(h:a)(i:b)(j:c)(k:d)(l:e)(m:f)(_:g h i j k l m)
inductive qd{a b c d e f g:Type}(h:a->b->c->d->e->σ f g):Prop|mk(i:a)(j:b)(k:c)(l:d)(m:e)(n:f)(o:g)(_:h i j k l m n o)
inductive gj(a b c:Prop):Prop|mk(_:a)(_:b)(_:c)
inductive oK(a b c d:Prop):Prop|mk(_:a)(_:b)(_:c)(_:d)
inductive g8(a b c d e:Prop):Prop|mk(_:a)(_:b)(_:c)(_:d)(_:e)
inductive iB(a b c d e f:Prop):Prop|mk(_:a)(_:b)(_:c)(_:d)(_:e)(_:f)
inductive p'(a b c d e f g:Prop):Prop|mk(_:a)(_:b)(_:c)(_:d)(_:e)(_:f)(_:g)
inductive u2(a b c d e f g h:Prop):Prop|mk(_:a)(_:b)(_:c)(_:d)(_:e)(_:f)(_:g)(_:h)
inductive p9(a b c d e f g h i j:Prop):Prop|mk(_:a)(_:b)(_:c)(_:d)(_:e)(_:f)(_:g)(_:h)(_:i)(_:j)
inductive Fl(a b c d e f g h i j k:Prop):Prop|mk(_:a)(_:b)(_:c)(_:d)(_:e)(_:f)(_:g)(_:h)(_:i)(_:j)(_:k)
inductive Q8(a b c d e f g h i j k l:Prop):Prop|mk(_:a)(_:b)(_:c)(_:d)(_:e)(_:f)(_:g)(_:h)(_:i)(_:j)(_:k)(_:l)
abbrev sD:acL->aj|ah=>.none|aa a=>À a
@[reducible]abbrev fx(a:ac)(b:acL)(c:ac)(d:aj):bb:={cls:=À a,dict:=b,data:=.fields (List.toArray [À c,d,.none,.none,.bool ay,.none])}
inductive Q5(c:aG)(d:ac)(e:aj):Prop|mk(a b:_)(_:ď c d a)(_:a.data=.fields b)(_:b[3]?=aa e)
abbrev u1(a:aG)(b:ac)(c:aj):Prop:=Q5 a b c
structure h2(c:aG)(d:Nat)(b f:ac)(g:acL)(h:ac)(e:acL):Prop where(obj:c.get? b=aa^fx f g h^sD e)(ci:d<=b)(bT:∀a,e=aa a->d<=a/\a≠b/\∃i,u1 c a i)
structure oG(g:Ó)(c:ac)(d:acL)(e f:aG):Prop where(keep:∀a b,ď e a b->a≠c->d≠aa a->a∉g->ď f a b)(slot:∀a b,ď e a b->a≠c->d≠aa a->∃h,f.get? a=apT b h)
variable{A:ac}
def FK(e:aqO)(d:aqP)(i:aqQ)(h:aqH=aa^fx w X1 A W8)(k:g<=s)(n:∀b c,h2 b g s w X1 A^aa c->oG aqR s ah j.heap b->aqS c->Yq () (ad0 b)):ah2 (do{let u<-PySem.frameOf XF;let v<-entryPlaceOf f YL;let a<-H5 XM u .none (fQ f) .none v;pg ß 1 a}):=by let m:s∉aqR:=λo=>by{let#[_,c,b,p]:=d.mem o;ext Æ h b;calc p _ r};calc ar^wpAny_frameOf_fun e d i (Â b d);calc ar^wpAny_entryPlaceOf (Â e i);unfold H5 newFields;calc ar^hk ?_^i.sizeOk5 _ _ _ _ _;generalize y:([XM,bD f,eu,fQ f,eu]++(if e.isEmpty then jm 6 eu else e)).toArray=l;let o:l[3]?=aa^fQ f:=by{rw[<-y];simp};let e:b.get? s=aa^fx w X1 A W8:=(d.2.1 s m).trans h;let h:=cr {cls:=Þ "traceback",dict:=ah,data:=.fields l} e;let m:b.objs.size≠s:=qJ^co e;calc nU h r (by show 1<6;decide)^n _ b.objs.size #[(nB _ h r).trans r,k,Â a n] #[λa c h i _ p=>?_,λa c h i _=>?_]^o1 d.1.symm;{ext n;calc#[jO^sX k^co e,m,_,_,_,(ajY m).trans^dd b r,r,o]};{let e:ď b a c:=(d.2.1 a p).trans h;rwa[ajY i,cr _ e]};{let#[b,e]:=d.2.2 a c h;calc#[b,?_];rwa[ajY i,cr _ e]}
def Ga(B:aqO)(C:aqP)(o:aqQ)(e:aug)(p:ayw h i):ah2 (mo ß XF):=by unfold mo;simp only[o];calc ar^jX e.obj r (x:=sD X7) r ?_;rcases X7 with _|d;{rwa[zF^show¬(sD ah !=eu)=af by{decide},FK B C o e.obj e.ci λh i q l m=>p h i q l^ÿ m]};{let#[N,E,G,O,H,u,v,D]:=e.bT d r;rwa[zG^show(sD^aa d !=eu)=af by{simp[sD]},ar^jX (a:=d) u v D ?_];by_cases F:(G==fQ f)=af;{rwa[zG F,aT^p j.heap d e #[λ_ _ b _ _ _=>b,λ_ c b _ _=>#[c.slots,b]]^ħ]};rwa[zF F,ar^nU (a:=d) u v (ni.mp D).1 ?_];let n:∀a,a≠d->(j.heap.update d^o' (aii 3 eu)).get? a=an2 a:=λa I=>ajY I;let J:∀a c,ĥ a c->(∀L,c.data≠.fields L)->a≠d:=λa c b x k=>by{ext ā k u b;calc x H v};calc FK B (C.of_keeps λa c b x=>#[c,(n a^J a c b x).trans b,r]) o ((n s^ci E).trans e.obj) e.ci λh i q l m=>p h i q #[ò a c b y z M,ê a c b y z]^.inr^by{rw[Heap.size_after_update]at m;calc m};{calc ð l a c ((n a λk=>z^by rw[k]).trans b) y (by simp) M};{calc l.slot a c ((n a λk=>z^by rw[k]).trans b) y^by simp}}
def FN(c:h2 j.heap g f s X1 w^aa A)(m:∀d,h2 d g f s X1 w^aa A->(∀a,a≠A->d.get? a=an2 a)->u1 d A (aqT b)->Yq () (ad0 d)):ah2 (ws ñ X7):=by let#[n,e,d,d,d,h,d,k]:=c.bT A r;unfold ws;calc ar^jX c.obj r (x:=.ref A) r ?_;rw[zG^show(bD A !=eu)=af by simp];let i:=(ni.mp k).1;let k:u1 (j.heap.update A^o' (aii 3^aqT b)) A^aqT b:=#[_,_,nB _ h^AF^qT d _,qT d _,Array.getElem?_setIfInBounds_self_of_lt i];let l:∀a,a≠A->(j.heap.update A^o' (aii 3^aqT b)).get? a=an2 a:=λa b=>ajY b;calc nU h d i^m _ #[(l f^ci e).trans c.obj,c.ci,Â a b] l k;ext b;calc#[n,e,_,k]
def F1(c:aqO)(d:aqP)(e:aqQ)(h:aug)(i:∀a b,h2 a g s w X1 A^aa b->oG aqR s X7 j.heap a->(X7=aa b\/aqS b)->u1 a b .none->Yq () (ad0 a)):adL (mo ß XF) (λ_ k=>adL (ws ß ah) Yq Xk k) Xk j:=Ga c d e h λb h c m a=>FN (j:=(ad0 b)) c λb c n o=>i b h c #[λb i c k e p=>by{let l:b≠h:=ayx d a e c;calc(n b l).trans^ð m b i c k e p},λb i c k e=>by let l:b≠h:=ayx d a e c;let#[h,d]:=m.slot b i c k e;calc#[h,(n b l).trans d]] a o
def SF(c:aqO)(d:aqP)(e:aqQ)(h:aug)(i:ayw a b):ah2 (wo XF^ß):=by unfold wo;calc ar^F1 c d e h λa b c d e _=>i a b c d e
abbrev a2(h:aQ)(i:aN):fv:=λj k c l m a=>∃(d e n f:ac) (g:acL) (b:ag),m=À d/\h2 a.heap c.heap.objs.size d e (aa f) n g/\a.os=c.os/\ny a.gens/\e' (fa j) [] k b c.heap a.heap/\cG h i b a.heap/\b d=ah/\(∀a,g=aa a->b a=ah)/\ĕ l e (aa f) b
def oG.aq(d:oG W' f X1 t W3)(m:ahY)(n:aek)(o:∀e,X1=aa e->h e=ah)(p:∀e∈W',h e=ah):υ:=λe j k=>by let l:∀b c a,h b=aa a->air b c->W3.get? b=aa c:=λb c a a g=>ð d b c g (ba a n) (λd=>by rw[o b d]at a;ext a) λd=>by{rw[p b d]at a;ext a};calc(m e j k).aZ (Ô b c a g) (λ_ d=>d) (Ķ d);ext am2 a;{calc l _ c j k g};{calc l _ c _ a g}
variable{YZ:al}{Y':ag}
def Vg(b:av an3 U X h j)(n:h2 j.heap Yx.heap.objs.size f s (aa A) w X1)(v:aek)(x:∀a,X1=aa a->h a=ah)(z:XA ß (aa A) h):(an3).aD ñ j:=by show aH agY (W2.deeper^ayy) (wo ayy^ñ) _ _ j;calc SF (g:=Yx.heap.objs.size) (f:=Yx.heap.objs.size) b.ok.frames b.stack r n (ê c u y o k);let p:∀a e,Yx.heap.get? a=aa e->a≠f/\X1≠aa a/\a≠Yx.heap.objs.size:=λa e g=>by{let l:=co g;calc#[Í c,Í c,ek l];{rw[c]at l;calc φ (eN l n.ci)};{calc φ (eN l (n.bT a c).1)}};calc#[f,s,w,A,aa u,h,r,y,apV b (ò a e g u y l) a e g u B l,o.aq b.aq v x b.cV,v,λa c=>by{ext c;ext ĸ k;{calc x _ k};{calc b.aq.fresh k}},z];{let#[k,n,v]:=p a e g;calc ð o a e (ajA b a e g u y l) k n (Í c);rcases bK.mp^b.de a c with c|c;{calc v c};{calc y c}};{let#[k,n,v]:=p a e g;let#[x,c]:=b.base.slot a e g u B l;let#[x,u]:=o.slot a _ c k n;calc#[x,u]};{let#[k,n,v]:=p a e g;let#[p,c]:=ak' b a e g l;let#[x,u]:=o.slot a _ c k n;calc#[_,u]}
def gm{XA:aY}:AH agY (an3).ao (an3).ai (an3).aD:=PassesOwn.leaving (Q₁:=λa b=>ε Yc Y' Yx XA a b)
structure sj(a:â):Prop where(d':a.contains^Þ "Exception"=af)(ey:a.contains^Þ "BaseException"=af)(ex:a.contains^Þ "AttributeError"=ay)(cn:a.contains^Þ "NameError"=ay)
variable{Z0:Array ta}{Z1:Drawn}{ZU:Nat}{Z2:OsState}{WM WN:al}{WO:ac}{WP:List aj}{WQ:List al}{WR:List aj}{WS:Option Bool}{We:Option ac}{WT WU WV WW:Option aj}
def Rh(c:sj XS)(a:aqU)(d:Yq () alN):adL (IZ "Exception.__new__" aqV) Yq Xk alN:=by let b:=AB;let e:alO^Þ "Exception"=af:=by{rw[nl,c.d',oW]};let c:=b.noStar;simp only[IZ,b.newKind,b.newSplit,b.newRow];(repeat(first|(calc pl a ?_)|((calc wx a ?_;rw[e]))|(calc wpAny_staticBase_exc a ?_)|(calc Jh a ?_)|(simp only[bne_self_eq_false,fy,if_false])|wp_step));calc d
def SR(b:sj XS)(c:aqU)(d:Y7 (.ok^.ret^an4) auh)(a:aqW):jo Ϻ W2 (acu "Exception.__new__" aqV) Y7 alN:=by let a:=AB;let e:=a.ends;let e:alO^Þ "Exception"=af:=by{rw[nl,b.d',oW]at⊢};let f:alO^Þ "AttributeError"=ay:=by{rw[nl,b.ex]at⊢;rfl};let g:alO^Þ "NameError"=ay:=by{rw[nl,b.cn]at⊢;rfl};apply codeAny_builtinAt a.entry;unfold Builtin.«BaseException.__new__»;calc Jo ?_;show PySem.wpAt _ _ _ (stack>>=_) _ _ _;calc Jo^PySem.wpAt_stack λb b=>Jp ?_;wp_walk;calc Jp ?_;rw[a.owner]at⊢;(repeat(first|(with_reducible calc wpAny_madeHere_exc a.canon c ?_)|(ext alP c)|((with_reducible calc wx c ?_;first|(rw[e]at⊢)|(rw[f]at⊢)|rw[g]at⊢))|wp_step));show Y7 _ _;rw[ie]at⊢;calc d
variable{abs:PySem.Fin->ax->Prop}
def Va(b:sj XS)(a:aqU)(j:ayz)(m:aeT=ŉ)(n:W5.cls=Þ "function")(e:ť (fB ñ (an4::Xd)) (λg h=>g=.none/\abs (.done^.ret^an4) h) Xk auh)(c:aqW):ť (Builtin.«type.__call__» aqV) abs Xk alN:=by let d:=AB;(repeat(first|(ext alP a)|(with_reducible calc Jh a ?_)|wp_step));calc codeAny_call_builtin_code (Az _ d.quiet)^Rh b a ?_;calc SR b a ?_ c;show aH _ _ _ _ _ _;generalize k:ayA aui=l at e⊢;let b:∀c d,W3.get? c=aa d->ď l c d:=λc d c=>by{rwa[<-k,cr _^cr _ c]};let c:l.get? (W3.objs.size+1)=aa^aui:=by{rw[<-k];heap_get};let d:alO^ß=af:=by{simp};let o:=b _ _ a;unfold A0;(repeat(first|(ext alP c)|((with_reducible calc wx o ?_;rw[d]))|wp_step));show alQ (ts ß _);calc(j.keeps b).at ?_;calc f7^ź;unfold bindSpecial;calc ar^tz (T:="function") #[_,b _ _ m,n] ?_;rwa[zG^by{decide},aT^ar^ag0 e (Å g h a) a];let#[rfl,a]:=a;wp_walk;calc a
def Rf(b:sj XS)(a:aqU)(c:ayz)(d:aeT=ŉ)(e:W5.cls=Þ "function")(g:aH Ϻ (alo aqV) (fB ñ (an4::Xd)) (λh j=>h=.none/\XP an4 j) Xk auh)(k:aqW):ť (fB ß Xd) XP Xk alN:=by let h:=tc_lookup;let h:=tc_bind^ß;let h:(alN:ax).TypeIs ß "type":=ϋ a;calc pj^I1 ?_;show alQ (callAny ß _);(repeat(any_goals(first|(assumption)|(ext alP a)|wp_step)));calc ag4;calc codeAny_call_builtin_at (Az _^by ext Û) entry_typeCall^wpAny_check_type_call_sub a^Va b a c d e ?_ k;calc g
@[reducible]abbrev yZ:â:=[Þ "Exception",Þ "BaseException",Þ "object"]
@[reducible]abbrev jc(a:Ó):â:=acv a++yZ
def qm(b:String):∀a:Ó,(jc a).contains^.type b=yZ.contains^.type b|[]=>r|c::a=>by show(bD c::jc a).contains _=_;rw[nl,qm b a];rfl
def SN(a:Ó):sj^jc a:=#[by{rw[qm];ext Û},by{rw[qm];ext Û},by{rw[qm];ext Û},by rw[qm];ext Û]
def Gq(a:aj):∀b:Ó,refuseLoop a "__setattr__"^jc b=pure ()|[]=>It.passes a|c::b=>by show refuseLoop a "__setattr__" (bD c::jc b)=_;rwa[refuseLoop_ref,Gq a b]
structure jC(b:ap)(a:ac)(c:Ó):Prop where(at_:∃d e f g h i j k l m n o p q,τ b a=aa^mm d e a f g (jc c) af h i j k l m n o p q "Exception.__new__")(dX:dh b (À a) "__setattr__"=aeZ "object.__setattr__")(ga:dh b (À a) "__getattribute__"=aeZ "BaseException.__getattribute__")(eM:dh b (À a) "__getattr__"=adP)
variable{WA:ac}{ZA:List ac}{WB:aj}
def jC.cls(b:jC d s ZA):∃a,wf d s=aa a/\a.mro=ß::jc ZA/\a.hasDict=af:=by let#[a,c,e,f,g,h,i,j,k,k,k,k,k,k,k]:=b.at_;calc#[{name:=a,bases:=f,mro:=ß::jc ZA,ns:=e,qualname:=c,hasDict:=af,slotNames:=g,subclasses:=h,abstract:=i,collection:=j,hasDel:=ay},?_,r,r];unfold wf;rw[k]
def jC.es(a:jC d s ZA)(b:d.In t)(c:yZ.contains^.type YG=af):pb YK t (isSubtype ß^.type YG) af:=by let#[e,e,f,_]:=a.cls;calc W.looks_mroIn b ?_;unfold W.mroIn;rw[e,Option.bind_some,f];show aa^(bD s::jc ZA).contains^.type YG=_;rw[nl,qm,c,oW]
def RU(a:t.get? x=aa^fx s ah WA WB):AJ t x (fx s ah WA WB) s ah:=#[a,r,r,trivial]
def T'(e:ajM)(k:jC d s ZA)(b:j.heap.get? x=aa^fx s ah WA WB)(m:ϸ X6=adP)(n:∀c,c.get? x=aa^fx s (aa j.heap.objs.size) WA WB->c.Ns1 j.heap.objs.size (λg=>if g=X6 then aa W8 else ah)->(∀f a,f≠x->ĥ f a->ď c f a)->axG c):axH:=by let h:=RU b;calc IV e h k.dX ?_;let g:=It;let#[o,l,p,q]:=k.cls;let t:pb Ϻ j.heap (A0 Ϲ^Þ "object") af:=h.type.andThen^k.es e^by{ext Û};calc AX g.slot.plain g.entry^@IM Ϻ _ _ aln "object.__setattr__" "object" "__setattr__" Ϲ [ais j.toks,W8] [] _ g.kind g.split t (g.args Ϲ (ais j.toks) W8) ?_;let g:pb Ϻ j.heap (mroOf^ß) o.mro:=(AP e l).andThen .now;rwa[W.osa_eq,refuse_eq,ar^ar^an5 h.type^ar^an5 g ?_];rwa[p,refuseLoop_ref,Gq,aT^ar^an5 h.type^ar^an5 (th e m)^adi];show alQ (Builtin.ObjectAttr.storeInOwnDict Ϲ ß _ X6 W8 _);let g:=cr ail b;let h:x≠j.heap.objs.size:=ek^co b;calc axI b e l;rwa[q,ar^wpAny_alloc^ar^wpAny_update g^ŏ];let e:(ayB a).get? j.heap.objs.size=aa ail:=(l' _ _ h).trans^İ;let k:(ayB a).Ns j.heap.objs.size^ajQ:=#[_,#[],_,e,r,alr e b,aep];show Ģ (Builtin.ObjectAttr.storeInDict j.heap.objs.size (ais j.toks) X6 W8) _;unfold Builtin.ObjectAttr.storeInDict Builtin.ObjectAttr.newKeyGuard;calc ar^aT^ar^wpAny_nsSet1 (Iu k) (Å c b e);let#[k,k,k,k,l,m]:=b.count^IX X6 W8 VS;calc ar^Jg k (by rwa[l,I4^ds m^by rwa[ce,sQ,b2,cd r]]) ?_;calc aT^n c ?_ b (Ô f a b a);{calc(e.2 x h).trans^nB _ g r};{calc(e.2 f^ek^co a).trans^(ajY b).trans^cr _ a}
def RA{b:Bool}{h:Ą}{k:ű}(c:ajM)(e:jC d s ZA)(n:j.heap.get? x=aa^fx s (aa YR) WA WB)(o:j.heap.Ns1 YR h)(p:ϸ X6=adP)(q:h X6=aa W8)(t:AO W8=af)(u:k W8 aln):ť (tm Ϲ X6 b) k Xk j:=by let#[l,v,w]:=F6 o;let#[f,y,z,a,A]:=j;let g:AJ f x (fx s (aa YR) WA WB) s^aa l:=#[n,r,r,v];let#[M,B,N,C]:=e.cls;let D:W.findObj d s (aa l) X6=aa^.value W8:=IQ (by unfold tf;rwa[B,C]) p r^by{rw[w,q]};let m:=g.type (M:=Ϻ);let E:=th (M:=Ϻ) c e.ga;let G:=th (M:=Ϻ) c e.eM;let H:=W.looks_find (M:=Ϻ) c g D;let I:pb Ϻ f (A0 Ϲ^Þ "BaseException") af:=g.type.andThen^e.es c^by{ext Û};unfold tm getAttrBy;calc ar^wpAny_mkText^f7^ar^m.at^ar^E.at ?_;show alQ (I3 Ϲ (ais a) ß (acu "BaseException.__getattribute__") af b);unfold I3;calc ar^G.at^ar^pi^f7 ?_;let J:IY Ϲ (ais a) (acu "BaseException.__getattribute__") b=boundAndCalled (acu "BaseException.__getattribute__") Ϲ^ais a:=by{unfold IY;ext b<;>rfl};rw[J];unfold boundAndCalled;let L:=Ih.ga.bind^Ϲ;rwa[L,ar^aT^pj^AX Ih.ga.plain F.entry_bexc_ga^@IM Ϻ _ _ #[f,y,z,a+1,A] "BaseException.__getattribute__" "BaseException" "__getattribute__" Ϲ [ais a] [] _ (by ext Û) (by ext Û) I (F.args_bexc_ga _ _) ?_];unfold Builtin.«object.__getattribute__»;calc ar^aT^ar^aT^ar^m.at^ar^H.at^ŏ;show Ģ (handedOut W8) _;rwa[W.handedOut_of t,aT u]
abbrev a6(b:aV)(i:aY):Prop:=∀(h:Ĉ)(j:aR)(a:ag)(c:ax)(d e k f:ac)(g:acL),av b h j a c->h2 c.heap b.be.heap.objs.size d e (aa f) k g->a d=ah->(∀h,g=aa h->a h=ah)->ĕ i e (aa f) a->b.aD (À d) c
def a1:a6 (aqX Xh L W9 f W8 W2 Yc j h XA) XA:=λ_ _ _ _ _ _ _ _ _ a b c e g=>Vg a b c e g
def a6.an(f:a6 b XA):h3 (a2 b.prog b.w) b XA:=λg h a a a i d c=>by let#[j,k,l,m,Ä n o,a,e,p,q,s,t,u,v]:=c;let w:=d.cZ (W':=[]) e q s p (alr e c);calc f g h o i j k l m n w (ayC a d e c) t u v
abbrev jE(a b:ac)(c:acL)(d:ac):cx:=.ext λe=>e.get? d=aa^fx a c b .none
def FL(a:t.get? w=aa^fx f X1 s .none):agJ t w^jE f s X1 w:=#[a,#[_,a],λa a a b=>b _ a]
def av.ea(a:í)(c:h w=aa^jE f s X1 w):j.heap.get? w=aa^fx f X1 s .none:=(a.aq w _ c).1
variable{YD:aG->Prop}
def av.drop(d:Ă X aqY j)(q:aek):í:=by let p:∀a,a≠f->(aqY) a=h a:=λa g=>ao g;let m:∀a i,(aqY) a=aa i->(∀k,i≠.ext k)->h a=aa i:=λa i c e=>by{by_cases g:a=f;{subst g;rw[as]at c;calc zH (ŝ c)^e YD};{rw[p a g]at c;calc c}};let o:∀a,(aqY) a=ah->h a=ah:=λa c=>by{by_cases g:a=f;{subst g;calc q};{rw[p a g]at c;calc c}};calc#[d.ok,d.os,d.a6,#[d.base.keep,d.base.slot,λa l c e n=>o a^ah1 d a l c e n,d.base.there,λa s c=>m a _ (d.base.b9 a s c)^by{intro k e;ext e},λa l i c=>m a _ (d.base.bS a l i c)^by{intro k e;ext e},Å a n c],d.bd,d.cell,o _ d.free,λt l c=>o l^d.br t l c,Â t u,Å a i c,d.len];{let#[v,e]:=d.base.b1 a n c;calc#[v,an6 m a e k n]};{let#[v,w,x]:=d.bj t u;calc#[v,o _ w,x]};{let g:a≠f:=ba c q;calc(d.aq a i^by rwa[p a g,c]).aZ (ak7 e) (λl e=>an6 m l e k n) λl s e=>an6 m l e k n}
def av.newExc{C:ac}{rest:â}(a:í):Ă X (am h ō^jE C j.heap.objs.size ah ō) {j with heap:=(ayD).push^ayE}:=by calc a.laid (t':=j.toks) (λa a a=>cr _^cr _ a) (lj _)^FL ?_;let a:=dd ayD (o:=ayE) r;(rw[ie]at a;assumption)
inductive T9(e:ap)(f:al)(h:dI)(i:aR)(j:ab)(k:ab)(c:ag):Prop|mk(a b g l:_)(_:k=À a)(_:c a=aa^jE b g ah a)(_:jC e b l)(_:e1 e b f)(_:∀d,c d=ah->h.a0 i^am (am c d^.bN [(f,j)]) a^jE b g (aa d) a)
abbrev Sy(b:ap)(c:a4)(d:al)(e:dI)(a:aR)(f:ab)(g:ag):Prop:=c a g^T9 b d e a f
abbrev T8(b:ap)(c d:a4)(e:al):cN:=λf a g=>d a g^Sy b c e f a
def Tj(d:adR Xg)(e:bj b ZK V1)(f:atM (aa^alq Xn Ww)):axK^T8 b.as Xg V1 Xn:=by intro c g a h i i j;calc I5 (anp e c g a h i j q v ae d (λc g #[au,y,u,ai,k,F,G,av,ak,l,h,an,aq]=>?_)) f;ext aeq ak c k ai;let c:aqZ y g:=Ś u;calc T' u.a2 h (u.ea l) an λd s t p=>#[a,am (agR y g^.bN [(Xn,v)]) k^jE F G (aa g.heap.objs.size) k,?_,aq _ c];let a:an7 k g:=ba l c;let o:∀a i,y a=aa i->(∀m,i≠.ext m)->am (agR y g^.bN [(Xn,v)]) k (jE F G (aa g.heap.objs.size) k) a=aa i:=λa i d e=>by{rwa[ao^dk d l^e _,Ï d c,d]};calc u.bV (g:=g.toks+2) #[ayF a e j f p c l,λa w d=>o a _ d^by{intro m c;ext c},λa e i d=>o a _ d^by{intro m c;ext c},λa x d=>#[#[],by rw[an6 o a d m c];simp]] (Å a i d);{rwa[ao^Ę c l f,ao^ek^co j,f]};{by_cases n:a=k;{subst n;calc#[_,s]};{calc#[e,p a e n j]}};{by_cases n:a=k;{ext am1 n d;calc FL s};{rw[ao n]at d;by_cases P:a=g.heap.objs.size;{ext am1 P d;calc#[_,t,Í e];by_cases C:e=Xn;{subst C;show gi (jL e [(e,v)]) (if e=e then aa q else ah);rwa[zG r,jM,beq_self_eq_true,ae]};{show gi (jL e [(Xn,v)]) (if e=Xn then aa q else ah);rwa[zF C,jM,beq_false_of_ne C,lw]}};{rw[ao P]at d;calc(u.aq a i d).aZ (λh d a c=>p h d ?_ c) (λh c=>an6 o h c m d) λh w c=>o h _ c^by{intro m d;ext d};ext ĸ a;{rwa[a,n]};{calc dk a l^by ext ı c}}}}
variable{N:ac}
structure uQ(a:ap)(N:ac)(Yo:al)(Xl:ac):Prop where(ga:IW a acw "__getattribute__"=aeZ "type.__getattribute__")(fh:IU a N^Þ "type"=af)(at_:IP a acw (Þ "type") Yo=aa^.val^acO)(bK:gR a^acO=af)
def S5(e:aib)(f:aic)(h:ϱ)(i:aeW=aa^acw)(c:uQ b.as N Yo Xl)(j:aid)(m:aie)(n:adS)(o:afU)(p:χ:=by decide)(q:ae2:=by rfl)(s:agS:=by rfl)(t:b1 ayG b.ai=(do{let k<-b1 agN b.ai;anx;let(Xl,u)<-anz k;nM Z Xl u (fp Z^anA)^anB}):=by rfl):bj b ayG^zm XC YV XA X0:=by intro v d w x a a y;calc AR (pl:=Zw) (qj a h i ?_ p) t;calc W.method_cls a.a2 c.ga^W.cls_value a.a2 c.fh c.at_ r ?_;calc we (first:=[]) (h₀:=b.base) a.ok.mod.ct c.bK (aqb (o Z v {d with toks:=adj d} w x _ (a.a3 _) y) a C l F G) q s;calc vt (XS:=a) (O:=C) e f j m n l F G
variable{acb:String}{abt:fo aj}{acc:Flow->ax->Prop}
def TZ(f:XS.contains^Þ "BaseException"=af)(g:afV)(h:adL abt (λc a=>∃b d e,c=À b/\a.heap.get? s=aa^ayH acb/\adg a b=aa^fx s d e .none/\Xk (À b) a) Xk j):adL (A2 XF (aa abt) ah) acc Xk j:=by let i:alO^Þ "BaseException"=af:=by{rw[nl,f,oW]};unfold A2;calc ar^ag0 h (Å c a c) f;let#[b,Ä d e,b,d,e]:=c;let#[c,c,c,c,c]:=a;(repeat(first|(ext alP d)|(ext alP b)|((with_reducible calc wx b ?_;rw[i]))|wp_step));calc wpAny_raiseNew_none g e
inductive vw(e:ap)(g:Int)(h:Á)(c:ag)(i:aA)(k:aY):Prop|mk(a b f j:_)(_:h=æ a)(_:c a=aa^jE b f ah a)(_:jC e b j)(_:e1 e b "number")(_:∀d,c d=ah->i .ar^am (am c d^an8 g) a^jE b f (aa d) a)
structure yJ(a:ap)(b:ac)(d:Ó)(c:ac):Prop extends jC a b d where(init:dh a (À b) "__init__"=aa^È c)(bx:nI a^À c=af)(bK:gR a^À b=af)(num:e1 a b "number")
abbrev US(c:aY)(d:ac)(e:Int):cN:=λ_ _ b=>∀a,b a=ah->ĕ c d (aa a)^am b a^an8 e
def Ti(E:a6 b XA)(c:α)(i:yJ b.as s ZA Xl)(F:ayI (a2 b.prog b.w) g Xl M ["self"]^vw b.as Xb)(G:alu)(H:ϱ)(I:aeW=aa^ß)(J:gx b.as M ["self"] [])(N:χ:=by decide):fw b (.Raise (aa^aqe Y9) ah Z)^US XA s Xb:=by intro O e P k a f Q;let#[a,j,m,o,p,q,t,v,w,x,y,z,A,B,C]:=i.at_;let D:=SN ZA;let d:=ŋ f c;rw[arm_exec_Raise];show Ģ (do{lv Z;A2 b.ai (aa (do{let h<-b1 (aqe Y9) b.ai;lv Z;pure h})) ah}) e;calc ar^ty^TZ (s:=s) (WM:=a) (WN:=j) (WO:=m) (WP:=o) (XS:=jc ZA) (YL:=af) (WQ:=p) (WR:=q) (Zv:=t) (WS:=v) (We:=w) (ZJ:=x) (WT:=y) (WU:=z) (WV:=A) (WW:=B) (acb:="Exception.__new__") D.ey d ?_;let R:Ĺ (fB ß []) (λh l=>∃d c S,h=À d/\l.heap.get? s=aa^mm a j s m o (jc ZA) af p q t v w x y z A B "Exception.__new__"/\adg l d=aa^fx s c S .none/\b.aD (À d) l) b.aD e:=by{let o:=f.newExc (C:=s) (rest:=[]);let p:k (alL e)=ah:=f.aq.fresh^lj _;let#[a,j,j,j,j]:=e;let j:∃e,b.as.lookup Xl=aa e/\e.cls=Þ "function":=by{let d:wj b.as^acO=aa^Þ "function":=beq_iff_eq.mp i.bx;let#[e,m,q]:=acR d;calc#[e,m,q]};let#[e,e,m]:=j;calc Rf D (f.a2 _ _ C) (th f.a2 i.init) (f.a2 _ _ e) m ?_^bF _;let e:bM [ab.ref (aer a)] [bD (aer a)]:=anC;calc pj^ml (F.cy _ b.stack _ _ #[[bD (aer a)],[]] [bD (aer a)] [ab.ref (aer a)] (λh q=>h=.ar/\∃c,k c=ah/\c≠aer a/\q=am (am k c^.bN [("number",af2)]) (aer a)^jE s a.objs.size (aa c) (aer a)) ald (G.c9 s [] []) (o.dj.c9 s [] []) (J _ _ o.a2 r) e ?_) (Å t v e);{calc#[_,s,a.objs.size,ZA,r,as,i.tojC,i.num,λc j=>#[r,c,ae8]];{by_cases d:c=aer a;{rwa[d,p]};{rw[ao d]at j;calc j}};{intro d;ext aio d j};{funext m;by_cases n:m=aer a;{rw[n,as,as]};{rw[ao n,ao n];by_cases u:m=c;{rw[u,as,as]};{rw[ao u,ao u,ao n]}}}};{rcases t with d|d;{let#[ć,ć,Ϝ,e]:=e;calc e.elim};{cases d with|ret t=>{let#[h,q,Ä d q,c,Ä j w]:=o.after e;obtain rfl:t=eu:=q;let o:=d.ea (f:=s) (s:=a.objs.size) (X1:=aa c) (w:=(aer a)) as;calc#[r,_,aa c,a.objs.size,r,d.a2 _ _ C,o,?_];let q:(am k c^.bN [("number",af2)]) (aer a)=ah:=by{rwa[ao^ci w,p]};calc E O P _ v _ s a.objs.size c ah (av.drop d q) #[o,ds f.ca^lj _,alR m a] q (alR m a)^Q c j}|next=>{calc he e}|brk=>{calc he e}|cont=>calc he e}}};calc ar^nT^qj f H I ?_ N;calc AM f.a2 i.bK^ag0 R (λh l e=>ar^ty^aT e) e
def av.eO(g:av b [] X h j)(v:b.bH=[])(p:h2 j.heap b.be.heap.objs.size f s X1 w X7)(x:aek)(y:∀c,X7=aa c->h c=ah)(l:oG agL f X7 j.heap t):av b [] X h aq0:=by let u:∀c e a,ĥ c e->e.data=.fields a->agK c/\∀q m,ak9 q m->m≠c:=λc e a n o=>by{calc#[Í a,Ô q m d a];{let#[i,#[z,i,i,i,k,_],_]:=g.bd;rw[<-a,n]at i;ext i;ext Æ o k};{let#[A,z,i,k]:=g.cell q m d;ext ā a n i;ext Æ o k}};let m:∀c:ac,∀i∈b.bH++([]:Ĉ),i.1≠c:=λc i a=>by{rw[v]at a;calc alp a};calc g.cZ (Yx:=aq0) (W':=f::X7.toList) r #[ò c e i k q d,ò c e i k q d,λ_ _ _ k _=>k,Ô c e i d,auj a c] (l.aq g.aq x y g.cV) g.a6 (Â c g);{calc ð l c e i (aq1 a d) (λa=>d^cu _^by rw[a];simp) q};{calc l.slot c e i (aq1 a d)^λa=>d^cu _^by rw[a];simp};{let#[k,a]:=l.slot c e i (aq1 a d)^λa=>d^cu _^by{rw[a];simp};calc#[_,a]};{ext afY g;{let#[a,d]:=u _ _ _ p.obj r;calc#[.inr p.ci,a,d,m _]};{let g:X7=aa c:=by{ext X7<;>simp_all};let#[e,_,_,i,i,n,o,_]:=p.bT c g;let#[a,d]:=u _ _ _ n o;calc#[ÿ e,a,d,m _]}}
def av.e7(a:í)(f:t.Ns b.ai.locals m)(i:kC b.ai.locals j.heap t):Ă (X.map ajQ) h at6:=by let p:∀d e,b.be.heap.get? d=aa e->agK d:=λd e c=>am6 c a;calc#[a.ok,apV a (λd e c k q l=>(i.2 d^p d e c).trans^ajA a d e c k q l) d e c k q l,#[m,f,λw s u _ n _=>?_],Å s o c,a.free,a.br,Â v x,Å d y c,by rwa[aI,a.len]];{let#[z,f]:=a.base.slot d e c k q l;calc#[z,(i.2 d^p d e c).trans f]};{let#[q,f]:=ak' a d e c l;calc#[q,(i.2 d^p d e c).trans f]};{rw[b9]at n;rcases e:X[w]?with _|l;{ext Æ e n};{ext Æ e n}};{let#[u,f]:=a.cell s o c;calc#[u,f.sameBut i^a.df s o c]};{let#[c,k,l,n,p]:=a.bj v x;calc#[(i.2 v.1 l).trans c,k,l,n,p]};{calc apU a d y c (λo d d e=>(i.2 o ?_).trans e) f;rintro rfl;ext am2 d;{rw[a.free]at c;ext c};{rw[a.free]at d;ext d}}
abbrev Q6(b:ap)(f:ac)(g:aA):aY:=λh i c=>∃a d e j,h=À a/\i=aa d/\jC b a j/\e1 b a "number"/\pd b (À a)^À f=ζ/\c d=aa^an8 e/\∀a,c a=ah->ĕ g a^adX c a [Ì e]
variable{Zn:al}{abu:cN}{abv WX abw abx aby abz:b7}
def U2(B:b.bH=[])(e:b.stack=aq2)(g:b.ai.frame=aa b.ai.locals)(C:b.aX.Nodup)(o:b.aX[W1]?=aa Zn)(f:auk=adJ)(D:ϱ)(E:aeW=aa^acw)(c:∀a,a6 (b.bq a)^Q6 b.as N Yk.b6->g6 (b.bq a) aal abu)(i:av b [] X h j)(k:abu Yk X h)(F:χ:=by decide)(G:(Zn==("__debug__":al))=ay:=by decide)(H:mg aq3 "number" b.ai^b1 aq3 b.ai=b1 aq3 b.ai:=by rfl):Ĺ (exec (.Try aal ayJ [] [] Z) b.ai) (iA b [] Yk) b.aD j:=by calc wpAny_Try_except^eW (c (λc d=>Ĺ (mo c b.ai) (λ_ a=>Ĺ (ws c ah) (λ_ l=>Ĺ (handleBy c b.ai ayJ) (iA b [] Yk) b.aD l) b.aD a) b.aD d) ?_ [] j X h Yk (i.bq _) k) (Å I d a) λc d a=>a;{rintro c l m d c p u q i i v w J ⟨k,k,n,k,k,s,M,O,P,Q,R⟩;ext k;ext s;let i:av b [] l m d:=i.bD.c' (alr s a);let k:b.ao.frames=aa aq2:=by{rw[i.ok.frames,e]};let t:d.heap.FunFrames b.base aq2:=by{rwa[<-e,i.stack]};calc F1 (g:=b.be.heap.objs.size) k t g v ?_;rintro g t k x y ⟨S,T,y,z,A⟩;rw[<-e]at x;let e:av b [] l m (ϳ d g):=i.eO B v w J x;calc wpAny_handleBy_cons (codeAny_handlers_test ?_)^by{ext ı a};calc Ax e.ok.kind D (H3 (by rwa[e.ok.bB,anb e]) E ?_) F;let i:pb adf g (typeOf^À c)^À p:=(VR k.obj).andThen .now;calc pc (s:=(ϳ d g)) (W.exm_one e.a2 i P) ?_;calc codeAny_handlers_suite_as ?_;calc wpAny_setFlight_none k.obj r r y z (ni.mp A).1 ?_;rw[Heap.update_setField_same g t S T 3 .none y z A];let x:agK c:=λa=>by{let#[v,#[y,i,i,i,z,_],_]:=e.bd;let i:g.get? b.ai.locals=aa y:=i;rw[<-a,k.obj]at i;ext i;ext z};let y:c∉b.bt:=λa=>by{let#[_,z,i,A]:=e.bz.mem a;let i:ď g c z:=i;rw[k.obj]at i;ext i;calc A _ r};let z:av b [(c,fx p (aa q) u^À t)] l m (ϳ d g):=e.c' λs a=>by{let a:s=(c,fx p (aa q) u^À t):=by{exists a};subst a;calc#[k.obj,w,x,y,alR i d]};calc vx z C o (Ð f) (W4:=(À c)) r (Â d g)^ÿ f;calc ww^I'^I9^o5^Fo H ?_;let#[v,k,p]:=id g.bd;let t:W1<l.length:=by{rwa[e.len,ä o]};let#[e,l,u]:=p W1 Zn (À c) o (nn t)^Ð f;obtain rfl:e=À c:=l;let e:v Zn=È c:=by{rcases u with⟨_,a⟩|⟨a|a,_⟩;{calc a};{let a:auk=ϖ:=a;ext Æ f a};{let a:auk=adK:=a;ext Æ f a}};calc wv (Bd g.ok.kind f k e ?_) G;let#[l,_]:=g.bj _^eU _^b4.mpr r;let#[c,o,k]:=g.aq q _ Q;let e:=k "number";rcases k:c "number"with _|i;{rw[k]at e;calc zH e^by ext ı a};{rw[k]at e;obtain⟨c,rfl⟩:∃c,i=hj n c:=e;calc RA g.a2 M l o O k r^o6 #[by{show 1<=a9;ext ah8},?_];let k:=g.a3 (adj d);let g:aqZ m d:=Ś k;let e:=aqF k d (o:=.lst [Ì n]) (h':=d.heap.push (aly "list" [hj n c].toArray)) (t':=(adj d)) (Ϙ k k a) (a5 _) #[by{show 1<=a9;ext ah8},[hj n c],0,acS #[c,r],İ];let#[c,c,_]:=id e.bd;calc wpAny_nameGoes_keeps f c (by rw[e.ok.kind];rfl) (Ô c c c f);let k:=e.e7 (g:=adj d+1) c f;calc#[ϻ d,_,_,k.c'^alr s a,r,R _ g]}};{cases I with|next=>{calc q7^iA.bD a}|ret i=>{calc iA.bD a}|brk=>{calc iA.bD a}|cont=>calc iA.bD a}
variable{acd:aR}
def av.moved(k:Ă acd Y' Yx)(l:í)(n:∀a∈W',h a=ah/\Yx.heap.objs.size<=a)(o:∀a d,ĥ a d->a∉W'->a∉agL->air a d)(p:∀a d,ĥ a d->a∉W'->∃q,t.get? a=apT d q):Ă X h aq0:=by let s:∀f i m,h f=aa m->ĥ f i->air f i:=λf i m e g=>o f i g (λc=>by rw[(n f c).1]at e;ext e) λc=>by{rw[l.cV f c]at e;ext e};calc l.cZ (Yx:=aq0) (W':=W') r #[λa d g _ u e=>o a d g e u,λa d g _ _ e=>p a d g e,λ_ _ _ o _=>o,Ô a d g e,auj c a] (Å a i o) l.a6 (Â a u);{let#[q,c]:=p a d g e;calc#[_,c]};{calc apU l a i o (Ô f l e g) c;ext am2 e;{calc s _ l i o g};{calc s _ l _ e g}};{let i:=(n a u).2;let l:∀f d,Yx.heap.get? f=aa d->f≠a:=λf d g c=>zH (adI g i)^by{rwa[c,fn _]};calc#[.inr^ds k.ca i,λc=>zH (eN k.lt i)^by{rwa[c,fn _]},Å m f e,λa c=>l a.1 a.2 (k.bj a c).1];let#[a,d,g,_]:=k.cell m f e;calc l f d g}
variable{abA:cR}
def SV(a:XF.frame=abA.frame):mo W8 XF=mo W8 abA:=by unfold mo PySem.frameOf;rw[a]
def a6.aK{a:aV}{g:aY}{n:Ĉ}{q:aR}{h:ag}{d:ax}{j:dF}{e:cR}{b:Ó}{k:Option (aj->fo Unit)}{l:ű}{p:aj}{t:ac}(L:a6 a g)(s:a.stack=a.ai::a.bu)(B:a.ai.frame=aa t)(o:av a n q h d)(m:e.locals=d.heap.objs.size)(y:e.frame=a.ai.frame)(z:∀c∈b,(c∈a.au\/a.be.heap.objs.size<=c)/\c≠a.ai.locals/\axA a c n):a6 ((a.aK d h j e b).bq^nP (a0 a.prog a.w) a.ao e λf w=>tl (a0 a.prog a.w) a.ao a.aD k l p d.heap.objs.size (Ϛ f) w) g:=by intro g g l g h u v w p j k D E M;let k:h2 g.heap d.heap.objs.size h u (aa w) v p:=k;let x:av a n q l g:=o.cZ (W':=b) j.os j.base j.aq j.a6 z;show apZ a (mo (À h) e) _ _ g;rw[SV y];let C:a.ao.frames=aa (a.ai::a.bu):=by{rw[x.ok.frames,s]};let J:g.heap.FunFrames a.base (a.ai::a.bu):=by{rwa[<-s,x.stack]};ext aya N l d b e j m F i g;let#[t,O,P,y,G,Q]:=i;let e:∀c i m,adg g c=aa i->i.data=.fields m->an7 c d:=λc i m f m b=>by{ext ā b y f;ext Æ G m};let R:d.heap.objs.size∉fa (a.ai::a.bu):=λb=>by{rw[<-s]at b;let#[_,i,z,_]:=o.stack.mem b;calc φ (co z)};let H:an7 h d:=e h _ _ k.obj r;let I:∀c,p=aa c->an7 c d:=λc b=>by{let#[ů z,A,f,m,_]:=k.bT c b;calc e c z A f m};calc Ga (g:=d.heap.objs.size) C J B k (ê S e B C J);let T:aqq S d=aa t:=C.keep _ t y (ci H) (λb=>I _ b r) R;let R:an7 e d:=by{ext ň J b;{calc I e b};{intro I;rw[I]at b;calc φ (adI y b)}};calc#[F,#[t,O,P,T,G,Q],Ô F t y y];let G:h2 F d.heap.objs.size h u (aa w) v^aa e:=by{calc#[(t.2 h H).trans B.obj,B.ci,Â c b];ext b;let#[H,y,I,z,A,f,m,O]:=B.bT e r;calc#[H,y,I,z,A,(t.2 e R).trans f,m,O]};unfold PySem.passOn;calc ar^jX G.obj r (x:=(À e)) r ?_;rwa[zF^show¬(bD e==eu)=af by{simp},ar^FN (j:=(ϳ g F)) G λm f z _=>wB ?_];let A:l e=ah:=by{ext ň J b;{calc E e b};{calc j.aq.fresh b}};let y:=(f.bT e r).1;let B:av a n q l (ϳ g m):=by{calc av.moved (W':=h::e::d.heap.objs.size::p.toList) o x (Â c a) (ê c i g d x) (Ô c i g d);{ext afY a;{calc#[D,k.ci]};{ext afY a;{calc#[A,y]};{ext afY a;{calc#[N,a5 _]};{let a:p=aa c:=by{ext p<;>simp_all};calc#[E c a,(k.bT c a).1]}}}};{simp only[bK,not_or]at d;let#[a,j,k,m]:=d;rwa[z c j,t.2 c k,ð C c i g a (λb=>m^by rw[b];simp)^by rwa[<-s,x]]};{simp only[bK,not_or]at d;let#[a,j,k,m]:=d;let#[d,b]:=C.slot c i g a (ado b m);calc#[d,by rwa[z c j,t.2 c k,b]]}};calc L n q l _ h u v w (aa e) B (ayC f o c b) D (λc b=>by ext b;calc A) M
def oI.ek(i:a6 b XA)(j:b.stack=aq2)(k:b.ai.frame=aa f)(l:∀(a:ax)(c:ag)(g:ac)(d:ż)(e:Ó)(h:ű),a6 ((ae6 a c (jV W9 d g b.ai) e).bq h) XA->bj ((ae6 a c (jV W9 d g b.ai) e).bq h) Q Xg):anO:=λ_ _ _ _ a c d e _ g h=>l a c _ d e _^a6.aK i j k g r r h
def bY.fd(n:aj5)(o:aif^Ν)(p:anG a b c e)(s:∀(h:aj)(j:cp)(l:Ψ)(k:ax)(b:ag)(a:Á)(c:aA)(e:aY),an9 j k h->XC a b c e->let u:aV:=(aqX Xh Xn Ν f h j l k b e);bl u af3 c (jf Xh a) b):ϊ ε (g+1) f M Ya XC:=by calc aue h n o p λj l k b a c e n o=>s h j l k b a c e n o
def bY.aI(o:aj5)(c:Ĩ)(p:dJ c Xh^Ν->∀(j:aj)(k:cp)(s:Ψ)(l:ax)(a:ag)(b:Á)(e:aA)(h:aY),an9 k l j->XC b a e h->let u:aV:=(f2 aO q i d m t c Xn Ν f j k s l a h).cv;bl u af3 e (jf c b) a)(n:ve c Xh^Ν=af:=by ext Û)(v:∀b a e h,XC b a e h->anw b:=by intro _ _ _ _ w;ext an' w):ad1 (g+1) f M Xh XC:=o.ok (dJ.ad n) v^p^dJ.ad n
def bY.aJ(o:aj5)(c:Ĩ)(p:dJ c Xh^Ν->∀(j:aj)(k:cp)(s:Ψ)(l:ax)(a:ag)(b:Á)(e:aA)(h:aY),an9 k l j->XC b a e h->let u:aV:=(aqX c Xn Ν f j k s l a h);bl u af3 e (jf c b) a)(n:ve c Xh^Ν=af:=by ext Û)(v:∀b a e h,XC b a e h->anw b:=by intro _ _ _ _ w;ext an' w):ϊ ε (g+1) f M Xh XC:=o.fd (dJ.ad n) v^p^dJ.ad n
inductive OD(e:cN)(a:dI)(f:aR)(g:ag):Prop|mk(b:Ω)(_:(∀c d,b c d->a.a0 c d))(_:e {a with a0:=b} f g)
abbrev OC(a:cN):cN:=λb c d=>OD a b c d
def ot(a:fw b Xm XZ):fw b Xm^OC XZ:=by intro c d e f g h ⟨k,l,n⟩;calc bv (a c d e f {g with a0:=k} h n) (Å c a a);cases c with|next=>{let#[c,d,e,f]:=a;calc#[c,d,e,l c d f]}|cont=>{calc a}|brk=>{calc a}|ret c=>calc a
abbrev j2(d:aQ)(e:aN)(g:ap)(f:ac)(h:Ĕ):Prop:=(f==fD)=ay/\∃(a:bb) (b:aj3) (i:Nat) (c:aqG),τ g f=aa a/\a.ExactDict/\a.data=.dict b i/\d2 h c/\PySem.KeysOf (fb d e) b/\Pairs (fb d e) b.toList c/\aeh c
variable{Xf:aR}
def av.d6(d:ſ j)(e:j2 b.prog b.w b.as Xq Xy):(Xq==fD)=ay/\∃a,d2 Xy a/\j.heap.DictOf anY Xq a:=by let#[f,c,g,i,a,k,l,m,n,o,p,q]:=e;calc#[f,a,n,c,g,i,d.a2 Xq c k,l,m,o,p,q]
abbrev wZ(b:Ĕ):eA:=#[λa _=>ś a b,λa c d e=>e=c/\∃c e,b[a]?=õ c e/\d=dA c,λa _=>β b a]
def O2(e:ac)(F:d.lookup Xq=ŉ)(Q:W5.ExactDict)(G:aqJ)(u:d2 Xy ZZ)(R:PySem.KeysOf ag2 Xx)(H:Pairs ag2 Xx.toList ZZ)(S:(ZZ.map (·.1)).Nodup):ayq (wZ Xy) e c k where mem:=by{simp};obj:=alg c k b f g a e o I v J;keep:=anl c k l b m o a e;item:=by{ext ϵ p w x y L c M h N z O j s b t;let#[A,B,T,C,D,E]:=Ϸ s e;obtain⟨⟨m,J⟩,P⟩:∃n,Xy[c]?=aa n:=#[Xy[c]' t,bi t];let#[n,U,n]:=FZ u P;let n:Xy.length=ZZ.length:=bC u;rw[n]at b;let V:h.heap.DictAt (fb p.prog p.w) Xq ZZ X8:=#[W5,Xx,j.a2 Xq W5 F,Q,G,R,H,S];ext ayr b V U l p M N z h j f S g a A B C D E o I v m J P s e c n};done:=by{ext ϵ p w x y L c M h N z O j s b t;let#[A,B,T,C,D,E]:=Ϸ s e;let n:Xy.length=ZZ.length:=bC u;ext Ť e H;rw[iG]at e;calc vk (ŋ j L) b (j.a2 Xq W5 F) G (anZ e n) t (afO l e j h f S g a A B C D E)};self:=λa c h a O b k=>Be b k
inductive LA(c:aQ)(d:aN)(e:ap)(f:(aen))(g:ab)(h:ag):Prop|mk(a b:_)(_:g=À a)(_:j2 c d e a b)(_:f (wZ b) h)
abbrev Lz(a:aQ)(b:aN)(c:ap)(d:a4):hA:=λe f g=>d e f^LA a b c g
inductive OB(e:aQ)(f:aN)(g:ap)(h:aA)(i:ab)(j:ab)(k:ag):Prop|mk(a b c d:_)(_:i=À a)(_:j2 e f g a b)(_:j=dA c)(_:bS b c=aa d)(_:h d k)
abbrev Mf(a:aQ)(b:aN)(c:ap)(d:a4)(e:aR)(f:aA)(g:ab)(h:ag):Prop:=d e h^OB a b c f g
abbrev OA(b:aQ)(c:aN)(d:ap)(e f:a4):a4:=λa g h=>e a g^Mf b c d f a h
def Nq(a:bj b Q Y2):anm^Lz b.prog b.w b.as Y2:=by ext ann a;ext aqE j a a c d k l;let#[m,XV,n,e,o,e,f,g,h,p,i,q]:=k;calc vg m (a.a2 c XV e) f g^alK j a (O2 _ e f g h p i q) #[_,İ,r,?_] l;let c:Ē d o:=bC h;ext Ť a i;rw[iG]at a;rw[show n.size=d.length by calc anZ a c]<;>rfl
def Cy(d:adR Y2)(e:anX)(f:yL Zr:=by calcλ_ _=>r):bj b (aqD Z)^OA b.prog b.w b.as Y2 ZS:=by intro a g c h i i j;calc Gx Ii.lookup f^anJ d a g c h i j f v n e;rintro a a ⟨a,g,a,h,e,c,c,d,i,j,m,o,p⟩;subst i m;obtain rfl:f=bD e:=n;let#[e,f,i,e]:=a.d6 j;let#[j,j,m]:=gi.db (W4:=d) (ZJ:=nS f c)^by{rwa[<-o,i.val c]};calc#[e.typeIs,Jc (m8 h) e.mapOf j #[d,g,a.a3 _,m,p]]
def Nb:atW^λf g e h=>∃c d a,g=À c/\j2 b.prog b.w b.as c d/\f=dA a/\h (.ah (! ain d a)) e:=by intro i i i e f g f g h f h i j;let#[c,Ä d a,k,rfl,l]:=j;obtain rfl:g=bD c:=i;let#[c,g,g,i]:=f.d6 k;calc wpAny_notIn_of (m8 h) c i.mapOf ?_;rwa[<-(g.val a).cK,#[.ah (! ain d a),e,f.a3 _,r,l]]
def Li(b:afN)(f:b 0 Xf h)(g:∀a c d Xf h,Xy[a]?=õ c d->b a Xf h->XW (dA c) Xf h^alk b a)(i:∀Xf h,b Xy.length Xf h->Yk.a0 Xf h):ajK Xf (wZ Xy) h:=by calc#[λa e Xf h=>e=Xy.length-a/\a<=Xy.length/\b a Xf h,#[Xy.length,ah7,f],?_];rintro a e Xf h ⟨rfl,j,e⟩;by_cases k:a<Xy.length;{calc è #[k,alm b a f (Xy.length-(a+1)) k b l];let#[rfl,c,Ä d b]:=l;calc g a c d Xf f b e};{let b:a=Xy.length:=bX j^c8 k;calc ajL b #[a5 _,i Xf h e]}
def QQ(a:IsTup j.heap f Xt)(c:axS)(d:ln W8 Yf)(e:ln XM YM)(g:aig=0)(h:alx=Xt.size)(b:XP ñ j):ah9 (lu ñ^ß):=by ext axT c a d e;let c:aql:=by{rw[g,h];simp};show Ģ (if aql then _ else _) j;rwa[zG c,ar (m:=HX _) ?_];unfold HX;calc ar^tz a.typeIs^ŏ;rwa[zG^by{decide},ar^wpAny_rule ?_];first|(calc ajV b)|(calc ar^aT^ajV b)|calc ar^ajV b
def Of:sl b^λi e f c g=>∃d a,i=À d/\ajF c d a/\(gk a e f=a->ĕ g d c)/\∀h,c h=ah->ĕ g h^am c h^.tup^gk a e f:=by rintro q s t c i u v w e f x g h i j l m ⟨d,a,o,n,y,z⟩;subst o;by_cases k:ae3 a 0 e=0/\ajX a f=a.length;{ext axU i B o p h n p a;calc QQ o j l m (by rwa[p,k.1]) (by rwa[p,k.2]) #[À d,c,h,r,y ?_];unfold gk;rw[k.1,k.2];simp};{calc Gv q s t c _ u v w e f x g h i j l m #[d,a,r,n,k,z]}
def J5(a b c:aj):argsOk "min" #[[a],[(dm "key",b),(dm "default",c)]]:=by unfold argsOk;kernel_rfl
abbrev rm(a:aj7)(d c:Nat):Prop:=∀b,b<d->a c<=a b/\(b<c->a c<a b)
variable{Yz Yd:ac}
abbrev tO(b:aV)(Xf:aR)(h:ag)(O:Á)(XM:aj)(YD:aG->Prop)(f:aj7):Prop:=∀(U:Ĉ)(c:Nat)(d:ab)(e:aj)(a:ax),O[c]?=aa d->bP d e->ſ a->YD a.heap->aH adf b.ao.in1 (fB XM [e]) (λe d=>(∃g,e=.int (f c) g)/\ſ d/\YD d.heap) aeU a
def oh(d:ſ j)(e:ah6 f)(i:∀a c,a≠f->ĥ a c->air a c):ſ at6:=let#[k,l,_,n,u,v]:=e;d.bm i k l n u v
abbrev Bw(XM:aj):Prop:=(∃a,XM=À a)\/∃a,XM=.builtin a
variable{ace:aj->ax->Prop}
def Cb(c:adL (fB XM [W8]) XP aeU j)(d:∀a b,XP a b->Xk a b):adL (tryCatch (iO [W8]^fB XM [W8]) aaT) Xk ace j:=q9^f7^eW c d λ_ _ a=>a.elim
def MJ(d:aj7)(R:b.ao.handled=ah)(g:Bw XM)(s:h X3=aem)(B:ah6 Yz)(C:ah6 Yd)(H:Yd≠Yz)(S:∀D m,YD D->(∀e l,e≠Yz->e≠Yd->ď D e l->ď m e l)->YD m)(ae:tO b Xf h O XM YD d)(A:∀c o i f,O[c]?=aa o->bP o i->rm d O.length c->ſ f->Y7 (.ok^.ret i) f):∀(E a c:Nat)(n:ax)(o:ab)(p:aj)(q:hi)(v:Nat),O.length-(a+1)=E->a+1<=O.length->ſ n->YD n.heap->n.heap.get? Yd=aa^aoa (ag5 p (d c) q) v->n.heap.IsListIter Yz X3 (a+1)->O[c]?=aa o->bP o p->c<=a->(∀k,k<=a->d c<=d k/\(k<c->d c<d k))->jo adf b.ao (acu "min.loop" #[[.ref Yz,XM,.ref Yd],[aq4]]) Y7 n:=by let T:ayK:=by{decide};let V:X3≠Yz:=aul f B s;let j:X3≠Yd:=aul f C s;rcases g with⟨g,rfl⟩|⟨g,rfl⟩;all_goals(intro E;induction E with|zero=>{intro a c n o p q v ag ak w X x I J L Y F;let Z:a+1=O.length:=by{lia};ext aum t G M w s N R V P;ext aun x;calc ar^q9^N.done _ _ _ #[by{rwa[P,<-Z,I]},M.isList] (Å m y u);let Q:ſ (afP n m y):=oh w B (ali e l j g u);let am:=u Yd _ (by exists H) x;let z:=jS m Yd^kE λ_=>(#[]:ajv);show aj8 (updateSeq Yd (λ_=>#[])>>=_) _;calc ź;calc wG am r^ar^pk^ŏ;calc A c o p _ J L (λk A=>F k^ö^ĺ A Z)^oh (g:=y) Q C (ajP e l j g z)}|succ E Z=>intro a c n o p q v ag ak w X x I J L Y F;let E:a+1<O.length:=by{lia};ext aum t G M w s N R V P;ext aun x;calc ar^q9^N.item (a+1) _ _ _ (by rwa[P,E]) #[I,M.isList] (ò i m y s R u);let N:t[a+1]?=aa i:=by{exists s};obtain⟨s,t⟩:∃s,O[a+1]?=aa s:=#[_,bi E];let#[I,I,M]:=G.get t;ext Æ N I;let#[G,N,P,I]:=id R.1;let Q:ſ (afP n m y):=oh w B (ali e l j g u);let R:YD m:=S _ _ X λe l j _ g=>u e l (by exists j) g;let w:=u Yd _ (by exists H) x;let u:av b (U++oS [Yd,Yz] m) Xf h (afP n m y):=ayL Q e j f C B w i N I;calc ar^Cb (ae _ (a+1) s i _ t M u R) (Å f m u);let#[#[f,rfl],n,x]:=u;let u:m.heap.get? Yd=aa^aoa (ag5 p (d c) q) v:=aq5 n (Yd,_) w;let w:m.heap.get? Yz=aa G:=aq5 n (Yz,_) N;let y:=n.cW;show aj8 (tryCatch (iO [i,.int (d (a+1)) f] (richCompare .Lt (.int (d (a+1)) f)^.int (d c) q>>=_)) _>>=_) _;calc ar^q9^f7^ar^CmpOf.ints_lt (prog:=b.prog) (w:=b.w) (A:=b.ao.in1) (P:=λc i=>∃n,i=.int (d c) n) d (λc i D=>D) (a+1) c _ _ _ _ _ #[f,r] #[q,r] ?_;calc ar^f7^mu ?_;calc ar^pk^ŏ;by_cases W:d (a+1)<d c;{let z:=jS m.heap Yd^kE λ_=>(ag5 i (d (a+1)) f);obtain⟨n,B⟩:∃n,ayM m i (d (a+1)) f (d (a+1)) n:=#[_,HF u λ_=>(ag5 i (d (a+1)) f)];simp only[W,decide_true,if_true];calc ź;calc wG u r^ar^pk ?_;rwa[T,aT #[tp o8 _,Z (a+1) (a+1) _ s i f n (by lia) E (oh (g:=m.toks) y C (ajP e l j g z)) (S _ _ x λe l _ j g=>(z.2 e j).trans g) B #[G,(z.2 Yz H.symm).trans w,P,I] t M (a5 _) (Â k A)]];by_cases g:k=a+1;{subst g;calc#[GO _,λ_=>by lia]};{let d:=F k^ö^eT A g;let e:=d.1;calc#[by{lia},λ_=>by lia]}};{simp only[W,decide_false,fy,if_false];calc ar^pk ?_;rwa[T,aT #[tp o8 _,Z (a+1) c _ o p q v (by lia) E y x u #[G,w,P,I] J L (cX Y 1) (Â k A)]];by_cases g:k=a+1;{subst g;calc#[nk.mp W,λ_=>by lia]};{calc F k^ö^eT A g}})
def Cj(l:aj7)(D:b.ao.handled=ah)(t:Bw XM)(m:h X3=aem)(e:ſ j)(y:YD j.heap)(o:∀k i,YD k->(∀a c,a<j.heap.objs.size->ď k a c->ď i a c)->YD i)(E:tO b Xf h O XM YD l):Ĺ (agU "min" [.ref X3] [(dm "key",XM),aq4]) (λf G=>ſ G/\((O=[]/\f=V2)\/∃p q,O[p]?=aa q/\bP q f/\rm l O.length p)) Xk j:=by let H:ayK:=by{decide};let#[d,d,d,_]:=e.list^ę m;calc kmk_tree F.kind_min F.plain_min F.entry_min (J5 _ _ _) ?_;show aj8 (ayN>>=_) j;calc ar^tt (show ayN=pure [aa XM,aa V2] from r) ?_;calc adi;calc ar^wz d.isList ?_;calc ar^wpAny_newList ?_^bF _;rw[H];let g:(aq6).objs.size=ō:=size_push' ..;generalize P:(aq6).objs.size=Yd at g;let v:Yd≠j.heap.objs.size:=by{lia};let s:ſ {j with heap:=aq7}:=e.kept (t':=j.toks) λa c d=>cr _^cr _ d;let u:(aq7).get? j.heap.objs.size=aa ayO:=cr _^İ;let w:(aq7).get? Yd=aa^aq8:=by{rwa[<-P,İ]};let n:ah6 j.heap.objs.size:=ap1 e;let x:ah6 Yd:=e.cm (Đ^au g)^e.aq.fresh^Đ^au g;let I:YD^aq7:=o _ _ y λa c _ d=>cr _^cr _ d;let y:∀k i,YD k->(∀a c,a≠j.heap.objs.size->a≠Yd->ď k a c->ď i a c)->YD i:=λk i e z=>o k i e λa c g d=>z a c (by lia) (by lia) d;calc aT #[tp o8 _,?_];show jo _ _ (acu "min.loop" #[[adN,XM,.ref Yd],[aq4]]) _ _;generalize(aq6).push aq8=z at s u w I;let o:X3≠j.heap.objs.size:=aul e n m;generalize j.heap.objs.size=Yz at*;ext aum A J L s m M D o N;rcases t with⟨o,rfl⟩|⟨o,rfl⟩;all_goals(ext aun w;by_cases C:O=[];{calc ar^q9^M.done _ _ _ #[by{rwa[N,C,#[_,u,r,r]]},L.isList] (Å i t o);show aj8 (rule _>>=_) _;calc ar^wpAny_rule^ŏ;calc#[oh (g:=t) s n (ali a c g d o),.inl #[C,r]]};let B:0<O.length:=qD.mpr C;calc ar^q9^M.item 0 _ _ _ (by rwa[N,B]) #[#[_,u,r,r],L.isList] (ò f i t u Q o);let N:A[0]?=aa f:=by{exists u};obtain⟨u,A⟩:∃u,O[0]?=aa u:=#[_,bi B];let#[L,L,M]:=J.get A;ext Æ N L;let#[J,L,R,N]:=id Q.1;let Q:ſ (alE i t):=oh (j:=(ad0 z)) s n (ali a c g d o);let S:YD i:=y _ _ I λa c g _ d=>o a c (by exists g) d;let s:=o Yd _ (by exists v) w;let o:av b (U++oS [Yd,Yz] i) Xf h (alE i t):=ayL Q a g e x n s f L N;calc ar^Cb (E _ 0 u f _ A M o S) (Å e i t);let#[#[e,rfl],o,w]:=t;let t:i.heap.get? Yd=aa^aq8:=aq5 o (Yd,_) s;let I:i.heap.get? Yz=aa J:=aq5 o (Yz,_) L;let L:=o.cW;let o:=jS i.heap Yd^kE λ_=>(ag5 f (l 0) e);obtain⟨s,Q⟩:∃s,ayM i f (l 0) e (l 0) s:=#[_,HF t λ_=>(ag5 f (l 0) e)];show aj8 (updateSeq Yd (λ_=>(ag5 f (l 0) e))>>=_) _;calc ź;calc wG t r ?_;rwa[H,aT #[tp o8 _,MJ l D (by first|(calc .inl Ŧ)|calc .inr Ŧ) m n x v y E (λp q f G z l m n=>?_) _ 0 0 _ u f e s r B (oh (g:=i.toks) L x (ajP a c g d o)) (y _ _ w λa c _ g d=>(o.2 a g).trans d) Q #[J,(o.2 _ v.symm).trans I,R,N] A M (a5 _) (Â a c)]];{calc#[n,.inr #[p,q,z,l,m]]};{let d:a=0:=bX c^bF _;subst d;calc#[GO _,λk=>zH k^fn _]})
abbrev g0:dF:={kind:=.function,names:=[(dm "number",.local),(dm "steps",.free)],isGenerator:=ay,isCoroutine:=ay,more:=[]}
abbrev ol(a:b7):Au:={posonlyargs:=[],args:=[{arg:="number",annotation:=ah,pos:=a}],vararg:=ah,kwonlyargs:=[],kw_defaults:=[],kwarg:=ah,defaults:=[]}
abbrev mL(a b c:b7):bn:=.Subscript (.Name "steps" a) (.Name "number" b) c
universe v1147
open Classical in noncomputable abbrev gu(b:ag)(c:ac):ag:=λa=>if a=c\/b a=aa^.own c then ah else b a
def pH(a:h s=ah):gu h f s=ah:=by unfold gu;split;{rfl};{calc a}
def xa(a:gu h f s=aa o):h s=aa o/\s≠f/\h s≠aa^.own f:=by unfold gu at a;ext Ĳ a;{rename_i b;calc#[a,λa=>b^Ð a,λa=>b^ÿ a]}
def KR{c:ag}{a b:ac}(d:b=a\/c b=aa^.own a):gu c a b=ah:=by unfold gu;rw[zG d]
def tY{e:ag}{b c:ac}{d:cx}(f:e c=aa d)(g:c≠b)(h:d≠.own b):gu e b c=aa d:=by unfold gu;rw[zF,f];rintro(a|a);{calc g a};{rw[f]at a;calc h^bW a}
variable{I:ac}
def cG.drop(a:ahY)(c:h I=aa^.b0 Xt):cG q i aj9 t:=λb d e=>by let#[f,g,j]:=xa e;calc(a b d f).aZ (ak7 a) (λd a=>tY a (ae9 b c a)^Í b) λd d a=>tY a (ae9 b c a)^λb=>by{ext b};ext ϝ b;calc g b
def cG.fo(g:ahY)(l:cG q i aj9 W3)(a:h I=aa^.b0 Xt)(j:∀b d,(b=I\/h b=aa^.own I)->air b d->W3.get? b=aa d):υ:=λb d e=>by by_cases c:b=I\/h b=aa^.own I;{ext ĸ c;{calc(g b d e).aZ (λf m k a=>j f m ?_ a) (λ_ a=>a) (Ķ a);ext Ι c k};{ext Æ c e;let#[k,m]:=g b _ c;calc#[k,j b k (ÿ c) m]}};{let g:aj9 b=aa d:=tY e (λa=>c^Ð a) λa=>c^.inr^by{rw[e,a]};calc(l b d g).aZ (ak7 a) (λf a=>(xa a).1) λf b a=>(xa a).1}
abbrev rt(q:aQ)(i:aN)(d:ap)(m:Ą)(t:aG)(b:al)(c:ac)(e:aj)(f:ac)(j:cp)(g:Ψ)(a:ax)(h:ag):aV where prog:=q;w:=i;as:=d;aO:=m;base:=t;ao:=j.deeper^auo b a c e f;aX:=["number","steps"];be:=a;cj:=h;ai:=auo b a c e f;bu:=g;stack:=auo b a c e f::g;au:=[];bi:=af;bx:=aj';bH:=[];aD:=aeU
def My(G:aW 1 W2)(g:atN)(z:h I=aa^.b0 Xt)(b:ank=aa^tg "<lambda>" L (ol Z) (mL XG Yl Y9) g0 aq9 W8 s XM)(e:j.heap.CodeRec ß L)(J:j.heap.IsCell w^aa^.ref A)(N:h w=ah)(H:h A=aa^.az Xy)(O:bS Xy^bz Xb=aa^aka):jo agY W2 (.call ñ #[[af2 YU],[]]) (λk B=>∃y,k=.ok^.ret^aka y/\uP Yc q i h j (λC D=>D=h) (aka y) B/\ayP a c B) j:=by calc W.kla_callFunE G.depth b r r r r e ?_;calc tt (show wk _ _=pure [(dm "number",hj Xb YU)] from r) ?_;calc wpAny_newFunctionEnv (show∀u∈g0.names,u.2≠.cell by decide) (by intro u b;rw[ċ b];rfl)^λb M e=>#[(g.mod.nolimit.keeps (am5 a c l g)).fresh _ e,?_];show jo _ _ (.expr (mL XG Yl Y9)^wg L g0 j.heap.objs.size f ß aq9) _ _;let E:alD a c b:=λa c l=>e.extBut a c (ek^co l)^cr _ l;let Q:=cG.drop g.aq z;let R:av aob [] [aa^af2,aa^.ref A] aj9 {j with heap:=b,toks:=j.toks+1}:=by{let x:∀a:ac,a∉(aob).au:=λa b=>aqh a b;let F:∀u n,(aob).ai.cells.lookup u=aa n->u="steps"/\n=w:=λu n o=>by{let o:jL u aq9=aa n:=o;rw[jM]at o;split at o;{rename_i b;calc#[ajO b,ŝ o]};{ext o}};calc#[#[g.mod,r,r,r,a5 _,λe b n p v=>(F e n p).1.trans (F b n v).1.symm,Â e k,λe n o _=>(by ext o),λ_=>G.aS,HM g.frames,.inr aeX,λa b=>zH b^x a,λa c l=>#[(g.bk a c l).1,pH (g.bk a c l).2],g.bP,λa _ _=>x a,λa b=>zH b^x a,g.bz,λa x=>pH^g.bX a x],r,g.a6,e'.kept E,#[_,M,ò M e C p v S],Å e n o,pH^Ś g,Å e n o,λZ S=>anF (show Z∈([]:Ĉ) from S),Q.kept E,r];{let k:g0.names.lookup e=ϖ\/g0.names.lookup e=adK:=k;calc#[w,?_];show jL e aq9=aa w;let l:e=dm "steps":=by{unfold g0 at k;rw[jM,jM]at k;split at k;{rcases k with k|k<;>ext k};{split at k;{rename_i b;calc ajO b};{rcases k with k|k<;>ext k}}};rw[l];rfl};{match M,p,v with|0,p,v=>{ext p;ext v;calc#[af2 YU,#[YU,r],ait]}|1,p,v=>{ext p;ext v;calc#[.ref A,r,.inr #[ϛ,w,r,let#[c,k,P]:=J;#[c,E _ _ k,P]]]}|M+2,p,v=>ext p};{let#[_,rfl]:=F e n o;calc#[_,let#[c,k,P]:=J;#[c,E _ _ k,P]]};{let#[_,rfl]:=F e n o;calc pH N}};let n:(aob).ao.units+1<eV:=hC^G.deeper _;let o:=iD (b:=aob) (Z:=Y9) (XV:=.Name "steps" XG) (Zr:=.Name "number" Yl) n (ae 1)^ae 0;let n:aj9 A=aa^.az Xy:=tY H (ae9 b z H)^λb=>by{ext b};let p:=o [] _ _ _ (λC D=>C=aka/\D=aj9) R #[A,aka,r,by{let:=dW.k (b:=bz Xb) n;ext akb O},r,r];calc W.kla_codeExpr^eW p (Å C B o) λ_ _ b=>b.elim;let#[u,D,Ř n p]:=o;ext Ú y p;let v:ayP a c B:=λa c x o l=>by{calc ajA n a c l ?_ o^λb=>aqh a b;ext ň x b;{calc pH b};{calc KR b}};calc#[y,r,#[aka,h,n.os,n.a6,?_,?_,#[y,r],r],v];{let y:=n.base;calc#[λa c k p o u=>v a c (Ð p) o k,λa c k p o u=>y.slot a c k (pH p) o u,λa c k p u=>p,λa c k u=>y.there a c k u,auj b a]};{calc cG.fo g.aq n.aq z λa c x l=>v a c (ÿ x) (Í b) l;let:=g.bX a b;ext ň x e;{ext af4 e z};{ext ϗ e}}
inductive JB(c:Ą)(d:aG):Prop|mk(a b:_)(_:c "__builtins__"=È a)(_:a≠pf)(_:a≠c5)(_:ď d a b)(_:b.cls=Þ "module")(_:b.dict=aa pf)(_:b.data=.plain)
abbrev kK(a:Ą)(b:aG):Prop:=JB a b
abbrev ft(a:b7)(b:al):cx:=.b0 (List.toArray [.int a.line 0,.int a.col 0,û b 0])
variable{YS V6:ac}{WC WD:b7}
universe v1161
set_option tactic.hygienic true in def Mx(e:ſ j)(p:h I=aa^ft Z alS)(X:b.ai.code=.ref YS)(Y:md b.base YS I)(aP:kK b.aO b.base)(ab:ayQ)(ae:∀w k f aS q s x B y,aL h w->Ă Xf w y->adg y k=aa^aup (ol XG) aS f q->adg y f=aa s->s.data=.fields x->x[1]?=aa^.str alS B->w k=ah->w f=aa^.own I->k∉agL->f∉agL->XP (À k) y):Ĺ (b1 (.Lambda (ol XG) (mL WC ZL WD) g0 Z) b.ai) XP Xk j:=by let#[ai,P,F,aU]:=e.aq I _ p;calc W.kla_eval r ?_;let Q:j.heap.Ns c5 b.aO:=anb e;let#[c,ak,aV,aW,aX,an,aY,a1,a2]:=aP;let a3:c≠I:=λa=>by{let:=(e.bk c ak an).2;ext af4 a p};let a4:c5≠I:=λa=>by{let#[g,bl,bm,d,a6,_]:=Q;ext ā a P d;ext a6};let aq:j.heap.BuiltinsAt b.aO I:=#[c,ak,aV,aW,aX,a3,e.bE _ _ an,aY,a1,a2];let R:∀{w:ag}{y:ax},Ă Xf w y->∀l,aqS l->l∉agL:=λG l m a=>by{rcases bK.mp^e.de l a with t|t;{rw[t]at m;calc φ (eN e.lt m)};{calc e.ej m t}};rcases H:nN Z ai.toList with _|aw;{calc W.kla_makeFunction (mg:=b.aO) ab e.ok.bB Q X (Y.keeps e.bE) P F H a4 aq λf q n z J L a7 az aA=>?_;let#[a8,s,x,B,S,M,T,N]:=id az;ext S;let V:h f=ah:=e.aq.fresh L;let bo:f≠I:=Ę a p V;let A:aL h^aoc f:=am4 c g a V;let bd:e' b.bt [] h (aoc f) j.heap n:=by{calc#[ayF c g d u J a p,λc bf a=>A c _ a,λc g aB a=>A c _ a,λc ai a=>#[#[],by rw[A c _ a];simp]];{rwa[ao^λa=>by{rw[a]at d;calc φ (adI d L)},u]};{by_cases a:c=I;{calc#[_,by rwa[a,aA]]};{calc#[g,J c g a d]}}};let bg:ajB (aoc f) n:=λc g d=>by{by_cases a:c=f;{ext aio a d;calc#[s,by rwa[a,M]]};{rw[ao a]at d;by_cases t:c=I;{ext ā t p d;rwa[t,#[_,aA,?_,ê C aw o i aC]];{rwa[GM,TriplesOk_snoc _ _ _ _ F]};{let aD:Z.line=C.line:=by{let o:aa^hj (Z.line:Int) 0=aa^.int (C.line:Int) 0:=o;ext ϝ o;ext ae' o};let aF:Z.col=C.col:=by{let i:aa^hj (Z.col:Int) 0=aa^.int (C.col:Int) 0:=i;ext ϝ i;ext ae' i};let bh:∀D:â,nN C D=nN Z D:=λD=>by{fun_induction nN Z D with|case1=>{rename_i E;simp only[nN,<-aD,<-aF,E,if_true]}|case2=>{rename_i E bj;simp only[nN,<-aD,<-aF,E];calc bj}|case3 D E=>unfold nN;split<;>first|(rfl)|(exfalso;calc E _ _ _ _ _ _ r)};rw[bh,GM,codeAmong_snoc _ F H]at aC;ext aC;calc#[f,ĭ,az,r]}};{calc(e.aq c g d).aZ (λl aB m k=>J l aB (Í aJ) k) (λl k=>A l _ k) λl bf k=>A l _ k;ext ĸ m;{calc t^ah' m aJ};{ext ā aJ p m}}}};let aK:Ă Xf (aoc f) (alE n z):=e.bV bd bg;let G:Ă Xf (aoc f) (ayR n f q z):=aK.kept (t':=z) (Ϙ c g d);let O:j.heap.objs.size<=n.objs.size:=jO^sX L a7;calc ae _ n.objs.size f _ q s x B _ A G İ (cr _ M) T N (Ś aK) as (R e _ O)^R e _ L};{calc W.kla_makeFunctionHit (mg:=b.aO) ab e.ok.bB Q X (Y.keeps e.bE) P F H aq (ê q n z aM O);let#[Ä f aO,i,#[a8,s,x,B,S,M,T,N],v]:=aU Z aw r r H;ext S;let bk:aO=alS:=by{let v:aa^te alS 0=aa^û aO 0:=v;ext ϝ v;ext ϝ v;calc v.symm};rw[bk]at N;let G:ſ (ayR n f q z):=e.kept (t':=z) λc g d=>cr _^aM c g d;calc ae h n.objs.size f _ q s x B _ (aL.refl h) G İ (cr _^aM _ _ M) T N (e.aq.fresh O) i (R e _ O) λa=>by let:=e.cV f a;ext ϗ i}
variable{abB abC abD aa1 WE:b7}{V7:Nat}
abbrev oi(a:Ĕ)(b:å)(c:Nat):Int:=match bS a^bz^Ϟ b c with|aa (Ì a)=>a|_=>0
inductive OF(V7:Nat)(I:ac)(WE:b7)(i:al)(j:aR)(f:aA)(k:ab)(b:ag):Prop|mk(l g:ac)(d:Ĕ)(a:å)(_:k=adk)(_:b l=aa^ų a)(_:j[V7]?=aa^È g)(_:b g=adV d)(_:b I=aa^ft WE i)(_:(∀c∈a,∃m,bS d^bz c=aa^Ì m))(_:∀e,aL b e->(a=[]->f .ar e)/\∀h c,é a h c->rm (oi d a) a.length h->f (Ì c) e)
abbrev OE(Yy:a4)(V7:Nat)(I:ac)(WE:b7)(b:al):a4:=λa c d=>Yy a c^OF V7 I WE b a d
def Nm(F:α)(G:aW 2 b.ao)(f:e8 b "min")(g:b.aO "min"=ah)(h:aq' "min")(i:ajH)(H:b.aX[V7]?=aa "steps")(q:b.ai.kindOf "steps"=ϖ)(t:b.ai.cells.lookup ("steps":al)=aa V6)(j:b.ai.code=.ref YS)(m:md b.base YS I)(o:kK b.aO b.base)(p:ayQ)(a:ap2:=by rfl):ayS [#[aa "key",.Lambda (ol abB) (mL WC ZL WD) g0 WE,abC],#[aa "default",.Constant .none 0 abD,aa1]]^OE Yy V7 I WE alS:=by intro s v c w d e d;calc nT^kq e f g h ?_;calc ayT a;rwa[a,o5^ĉ i s v c w e d λa e #[v,av,P,e,u,k,l,n,W,ae,ag,ai,y,ak,am]=>o6 ?_];ext aeq W a u e;calc v6^Mx P y j m o p λi f j g h w J L x m z A B M N O R S T=>?_;calc v6 ?_;calc wpAny_Constant_none^HH ?_;show Ģ (agU "min" (æ u) [(dm "key",À f),(dm "default",.none)]) _;let U:tO b c i (Ż n) (À f) (λd=>d.get? f=aa^aup (ol abB) g j h/\ď d j w)^oi l n:=by{rintro c s v a a g e o ⟨C,D⟩;ext afa g h p;ext Ú c e;let#[c,E]:=ak h^cq p;let V:oi l n s=c:=by{unfold oi;rw[dN,p];show(match bS l^bz h with|aa (Ì c)=>c|_=>0)=c;rw[E]};let#[X,_,X]:=o.bd;let#[Y,an,ao]:=X V7 "steps" (À k) H ag^.inr^Ð q;obtain rfl:Y=bD k:=an;let H:a.heap.IsCell V6^È k:=by{rcases ao with⟨a,_⟩|⟨_,X,a,X⟩;{ext Æ q a};{ext Æ t a;calc X}};calc pj^ml (My G.in1 o.dj.in1 (m I _ y) C #[j,w,J,L,r,D,M,N] H (o.br _ _ t) (m k _ ai) E) ?_;rintro q w ⟨E,Q,G,t⟩;subst Q;let#[H,q,q,_,rfl]:=o.after G;calc#[#[E,by rw[V]],q,t _ _ (Ð O) S C,t _ _ (.inr^ÿ R) T D]};let o:aim f x:=co A;let t:aim j x:=co B;calc eW (Cj (oi l n) (ŋ z F) (.inl #[f,r]) (m u _ ae) z #[A,B] (λd d #[aq,as] c=>#[c _ _ o aq,c _ _ t as]) U) (λH w #[q,au]=>?_) (Ķ a);let#[d,f]:=am i m;rcases au with⟨a,rfl⟩|⟨s,v,g,e,c⟩;{calc#[.ar,i,q,r,d^vT.mp a]};{ext afa g h p;rw[aI]at c;calc#[Ì h,i,q,e,f s h p c]}
abbrev t1(a:aV):aV:={a with ao:=a.ao.in1,aD:=aeU}
def rl.et(a:ſ j):av (t1 b) U Xf h j:=#[#[a.ok.mod,a.ok.kind,a.ok.bB,a.ok.blt,a.ok.above,a.ok.inj,a.ok.has,a.ok.cA,a.ok.aS,a.ok.frames,a.ok.dc,a.ok.c6,a.ok.bk,a.ok.bP,a.ok.cL,a.ok.cG,a.ok.bz,a.ok.bX],apY a]
def rl.eh(c:b.bW)(a:av (t1 b) U Xf h j):ſ j:=#[c,apY a]
variable{acf:b7}
inductive OH(f:aA)(a:ab)(b:ag):Prop|mk(l:ac)(c:Á)(g:Ã)(_:a=adk)(_:b l=à c)(_:be (λa j=>∃h i,a=ø h/\b h=à i/\ϲ i j) c g)(_:∀d,b d=ah->(c=[]->ĕ f d^Ž b d)/\∀e a,é c e a->rm (λe=>ara g e) c.length e->f a^Ž b d)
abbrev OG(Yy:a4):a4:=λXf h a=>Yy Xf h^OH a
def Nn(x:α)(d:e8 b "min")(e:b.aO "min"=ah)(f:aq' "min")(g:e8 b "len")(i:b.aO "len"=ah)(l:ajH)(a:ap2:=by rfl):ayS [#[aa "key",.Name "len" abC,abD],#[aa "default",.List [] aa1,acf]]^OG Yy:=by intro U j Xf h c c m;calc nT^kq c d e f ?_;calc ayT a;rwa[a,o5^bv (l U j Xf h _ c m) λl a #[m,k,v,e,u,F,n,G,P,W,ae]=>o6 ?_];ext aeq G l u e;calc v6^kq v g i dG ?_;let c:=dB (b:=b) (Z:=aa1) an U a Xf k (λf g=>∃a,k a=ah/\f=À a/\g=Ž k a) v #[bF _,λa o=>#[a,o,r,r]];calc v6^ag0 c (λd c #[aA,g,y,ag,a,o,ai,ak]=>HH ?_) c;subst ai ak;obtain rfl:d=bD a:=ag;show Ģ (agU "min" (æ u) [(dm "key",acu "len"),(dm "default",À a)]) _;let s:=(am4 d l c o:aL k^Ž k a);let z:tO b Xf (Ž k a) F (acu "len") ag6^λd=>ara n d:=by{rintro A d m l t p e w _;let#[q,B,Ä i D,E,H]:=cK W p;obtain rfl:l=bD i:=e;let c:=dY (b:=t1 b) A t Xf (Ž k a) [ø i] [bD i] (λf g=>f=Ê q/\g=Ž k a) (rl.et w) anC #[i,D,r,.inl^Ć s i E,by{rw[H]},r];calc eW c (λi i #[f,g,aq,as,au,av]=>?_) (Ķ c);subst au av;ext Ú g as;calc#[#[g,?_],rl.eh w.ok aq,trivial];let i:Ϟ n d=q:=by{rw[dN,B];rfl};show hj (q:Nat) g=hj (ara n d) g;rw[i]};calc eW (Cj (λd=>ara n d) (ŋ y x) (.inr #["len",r]) (s u _ P) y trivial (λ_ _ _ _=>trivial) z) (λf t #[C,az]=>?_) (Ķ c);let#[f,g]:=ae a o;rcases az with⟨c,rfl⟩|⟨d,m,p,e,i⟩;{calc#[À a,_,C,r,f c]};{calc#[m,_,C,e,g d m p i]}
abbrev aB(a:Nat):cE:=Vs.main.body.getD a^auc
inductive JA(b:ap)(e:Ą)(a:al)(f:cE)(g:Ĩ):Prop|mk(c d:_)(_:bY b a a f c d)(_:gx b d g [])(_:e a=È c)
abbrev b3(a:ap)(b:Ą)(c:al)(d:cE)(e:Ĩ):Prop:=JA a b c d e
abbrev aS(f:aQ)(g:aN)(a:ap)(c:Ą)(h:aG)(i:fv)(j:Nat)(k:al)(d:Ĩ)(l:dK):Prop:=∃b e,bI f g a c h i j b e d l/\gx a e d []/\c k=È b/\gR a^À b=af
def b3.aw(e:b3 d m L Xm Xh)(f:∀a b,bY d L L Xm a b->ϊ XU g a b Xh XC):aod XU g L Xh XC:=by let#[a,b,c,h,j]:=e;calc#[a,b,f a b c,h,j,c.bK]
def bg(a:aS b.prog b.w b.as b.aO b.base XU g L Xh XC)(c:aic)(d:adS)(e:afU)(f:ϱ:=by rfl)(h:χ:=by decide)(i:ae2:=by rfl)(j:agS:=by rfl):als^zm XC [] XA X0:=by let#[k,k,k,l,m,n]:=a;calc S6 k c f m n l .nil d e h i j
@[reducible]abbrev bO(a:Ã):Á:=a.map λa=>ù a
inductive j9(b:Nat->Bool)(c:Á)(d:ag)(e:aA)(f:aY):Prop|mk(a:Nat)(_:c=[Ì a])(_:e (.ah^b a) d)
def LX(a:Ö "is_blank" 44 ["byte"]):ayU:=a.aw λa a a=>by let b:dJ ["byte"] ["byte"]^da^aB 44:=auq;calc a.ok b (ê b c e f a)^λg g g g c b e f b a=>?_;{nofun;let#[b,rfl,_]:=a;left;rfl};{nofun;let#[b,rfl,c]:=a;left;calc aur a (aC^bt^vp (ha c2 (ae 0) a7^bH _)^oR^ha c2 (ae 0) a7^bH _);calc ϟ;calc a8 (Í a)^λa=>ag4;{let:b=32:=by{ext aiu a};subst this;calc c};{let:b≠32:=aiv e a;let a:jp b=decide (ù b=Ŀ 10):=by{unfold jp;rw[e4];simp[this];lia};ext Ι a c}}
def w'(a:Yj (.ah (aiq (Xb<=Λ) (Λ<=X5))) h):if aes (Xb<=Λ)then kr (λb d=>aiw (b<=d)) (ab.int g) (ab.int X5) h Yj else Yj (.ah ay) h:=by by_cases c:Xb<=Λ;{rw[zG^by rwa[decide_eq_true_eq,c]];rw[zJ c,sH]at a;calc#[Ç,a]};{rw[zF^by rwa[decide_eq_true_eq,c]];rw[zK c,vL]at a;calc a}
def KP(a:Nat):e6 a=(aiq ((48:Int)<=Ñ a) (Ñ a<=57)):=by unfold e6;ext aus
def Lp(a:Nat):kG a=(aiq ((65:Int)<=Ñ a) (Ñ a<=90)):=by unfold kG;ext aus
def Og(a:Nat):wJ a=(aiq ((97:Int)<=Ñ a) (Ñ a<=122)):=by unfold wJ;ext aus
def LY(a:Ö "is_digit" 45 ["byte"]):aut:=a.aw λa a a=>by ext ayV a a;rw[KP]at a;calc#[Ç,_,r,w' a]
def L0(a:Ö "is_great_letter" 46 ["byte"]):auu:=a.aw λa a a=>by ext ayV a a;rw[Lp]at a;calc#[Ç,_,r,w' a]
def L2(a:Ö "is_letter" 47 ["byte"])(e:auu):auv:=a.aw λa a a=>by calc ó a ["byte"] a a a a f g;let#[c,b,a]:=g;calc Ş b (aC^bt^vp (Ü e f^ŵ 0)^oR^vn jG jG a7 (ae 0) a7);calc#[c,r,Ý];unfold iQ at a;calc Õ b;{rw[b,oW]at a;calc a};{let b:kG c=ay:=by{cases e:kG c<;>simp_all};rw[b,ku,Og]at a;calc#[Ç,_,r,w' a]}
def MB(c:agO)(g:c 0^aef^Ő)(i:∀a d b,L.cps[a]?=aa d->c a b->XW (at8 d) (gN Xf D) b^qf X4 Xg D Xf f^c (a+1))(j:∀b,c L.cps.size b->Zl b):anP Xf Zl (yI L) h f:=by calc#[λa e b=>e=L.cps.size-a/\a<=L.cps.size/\c a b,#[L.cps.size,ah7,g],?_];rintro a e b ⟨rfl,g,e⟩;by_cases k:a<L.cps.size;{calc è #[k,c (a+1),λc l=>#[L.cps.size-(a+1),jK k,r,k,l],Å l c l];let#[rfl,Ä d c]:=l;calc i a d _ c e};{let c:a=L.cps.size:=bX g^c8 k;calc ajL c #[a5 _,j b e]}
variable{abE:ag->Prop}
def e0(b:Zl h):zo Xf h^λc a=>if c=af then Zl a else abE a:=by show(if af=af then Zl h else abE h);rwa[zG r,b]
structure c9(a:Ą):Prop where(tuple:a "tuple"=ah)(list:a "list"=ah)(set:a "set"=ah)(len:a "len"=ah)(fe:a "ord"=ah)(range:a "range"=ah)(bF:a "enumerate"=ah)(sorted:a "sorted"=ah)(all:a "all"=ah)(any:a "any"=ah)
abbrev kQ(a:al):Á:=a.cps.toList.map λa=>ù a
inductive uc(e:Á)(d:ag)(f:aA)(g:aY):Prop|mk(a:al)(_:e=[û a])(_:a.cps.size<=1000)(_:∀b c,b c=aa^.tup^kQ a->Ϡ d b c f)
def Oh(a:Ö "spelled" 48 ["word"])(e:c9 m):arb:=a.aw λa a a=>by calc ó a ["word","letter"] c a g a a f;let#[b,a,h,j]:=f;calc Ş a (aC^bt^na yT r e.tuple Ar^ak (arc (("letter",1)) c (Tf^ae 0) 1^.ad λ_ _ _ _ _=>c4 Rg r e.fe boot_ord^ŵ 1) an);calc#[b,r,λc k=>MB (λe f=>f=am g c^.lst^(kQ b).take e) r (ê e l f g a) (Â f a)];{subst a;calc ag4;calc e0 ?_;calc#[_,r,r,_,as,?_,?_];{let g:(kQ b).length<=1000:=by{unfold kQ;rwa[aI,iG,h]};calc sX (ds (by rwa[dD,afX]) g)^by ext ah8};{rw[gn];let a:(kQ b)[e]?=aa^ù l:=by{unfold kQ;rw[b9,l4,g];rfl};rw[dE,a];rfl}};{subst a;let a:(kQ b).take b.cps.size=kQ b:=vY^by{unfold kQ;rwa[aI,iG,a5 _]};rwa[a,#[c,kQ b,r,.inl #[aw.ad as,Â b a]]];let e:b≠c:=alT c a;rw[ao e]at a;calc j _ b as (Å b b b) a;rwa[Ï b a,Ï b k,b]}
def dQ{c d e:Type}{a:Except c d}{f:d->Except c e}{g:e}:(a>>=f)=.ok g↔∃b,a=.ok b/\f b=.ok g:=by rcases a with a|b;{calc#[Ĝ a,λ#[b,a,_]=>(by ext a)]};{calc#[λa=>#[b,r,a],λ#[l,a,k]=>(by ext a;calc k)]}
def hu{d a:Type}{b c:a}:(pure b:Except d a)=.ok c↔b=c:=#[λa=>zX a,λa=>by rw[a];rfl]
def e7(a:afb)(b:a≠[]):aoe a:=by ext Ā a a a;{calc zH r b};{simp}
variable{YA:List ed}
def dt(a:bT g YA=af):YA≠[]:=by intro b;ext Æ b a
variable{Y4:cV}
def yy(a:lz Y4 YA=af):YA≠[]:=by intro b;ext Æ b a
variable{WF:List ed}
def yd(a:mx g B YA=.ok WF):bT B YA=af/\WF=YA.drop 1:=by unfold mx at a;ext ayW a
def Ef(a:Bi g Y4 YA=.ok WF):lz Y4 YA=af/\WF=YA.drop 1:=by unfold Bi at a;ext ayW a
variable{acg:nX}
def Ew(a:ly g YA=aa acg):YA≠[]:=by intro b;rw[b]at a;unfold ly at a;let c:(wI.find? λb=>b.2.1==g&&bT b.1 [])=ah:=by{rw[z8];intro b _;simp[bT]};ext Æ c a
structure Po(e f:Nat):Prop where(expr:∀d a c b,ee e f d a=ş c b->ag7 b a)(binary:∀g d a c b,e5 e f g d a=ş c b->ag7 b a)(more:∀g d c a i b,gT e f g d c a=ş i b->ag8 b a/\c.parts<=i.parts)(signed:∀d a c b,gD e f d a=ş c b->ag7 b a)(atom:∀d a c b,hO e f d a=ş c b->ag7 b a)(elements:∀d h a c b,nY e f d h a=ş c b->ag7 b a)(some:∀d h a c b,pp e f d h a=ş c b->ag7 b a)
universe v1210
set_option tactic.hygienic true in def k4(v:Nat):∀q,Po v q|0=>#[λ_ _ _ _ a=>(by unfold ee at a;ext a),λ_ _ _ _ _ a=>(by unfold e5 at a;ext a),λ_ _ _ _ _ _ a=>(by unfold gT at a;ext a),λ_ _ _ _ a=>(by unfold gD at a;ext a),λ_ _ _ _ a=>(by unfold hO at a;ext a),λ_ _ _ _ _ a=>(by unfold nY at a;ext a),λ_ _ _ _ _ a=>(by unfold pp at a;ext a)]|q+1=>by let b:=k4 v q;calc#[ê k g h l a,ò B k g h l a,λB k h g w l a=>?_,ê k g h l a,ê k g h l a,ò k m g h l a,ò k m g h l a];{unfold ee at a;split at a;{rename_i c;ext Ĳ a;{ext afc m i e a;ext aet x n a;ext afc C D s a;ext aet P E a;ext afc Q R F a;ext af5 a;let#[o,p]:=Ef n;let#[G,H]:=Ef E;let d:=aof b e;let t:=aof b s;let I:=aof b F;let f:=e7 g^yy c;let j:=e7 _^yy o;let y:=e7 _^yy G;rw[<-p]at j;rw[<-H]at y;calc anv^Ĭ (ai (aF (ai (aF (ai (aF (ē I 1 y) 1) t) 1) j) 1) d) f}};{calc b.binary _ _ _ _ _ a}};{unfold e5 at a;split at a;{calc b.signed _ _ _ _ a};{ext afc m i e a;let d:=b.binary _ _ _ _ _ e;let u:=(b.more _ _ _ _ _ _ a).1;calc ē u 1 d}};{unfold gT at a;split at a;{ext a;calc#[a5 _,a5 _]};{rename_i J c;ext afc m i e a;let d:=b.binary _ _ _ _ _ e;let f:=e7 g^Ew c;let z:h.parts<=(wH J [h,m]).parts:=by{simp only[mv,my];calc ai ġ^ϡ};ext akc a;{ext af5 a;calc#[η^ē d 1 f,z]};{let#[u,L]:=b.more _ _ _ _ _ _ a;calc#[η^Ĭ (ē u 1 d) f,ds z L]}}};{unfold gD at a;split at a;{rename_i c;ext Ĳ a;{ext afc m i e a;ext af5 a;let d:=b.signed _ _ _ _ e;let M:g≠[]:=by{rcases ard c with c|c;{calc dt c};{calc dt c}};let f:=e7 g M;calc acT d f}};{calc b.atom _ _ _ _ a}};{ext Ā g C A;{unfold hO at a;ext a};{unfold hO at a;split at a;{split at a;{rename_i c;let f:=e7 A^dt c;ext Ĳ a;{rename_i S T N;split at a;{ext a;rw[N]at f;simp only[ce]at f⊢;calc cX (Đ f) 1};{ext a}}};{ext a;simp}};{split at a;{split at a;{rename_i c;let f:=e7 A^dt c;ext Ĳ a;{ext Ĳ a;{ext afc O i e a;let d:=b.elements _ _ _ _ _ e;ext akc a;{ext af5 a;simp only[ce];calc cX (acT d f) 1};{ext a}}}};{ext a;simp}};{split at a;{ext a;simp};{split at a;{ext Ĳ a;{ext afc w i e a;ext aet x n a;ext af5 a;let#[o,p]:=yd n;let d:=aof b e;let j:=e7 _^dt o;rw[<-p]at j;simp only[ce];calc cX (acT j d) 1}};{split at a;{ext Ĳ a;{ext afc O i e a;ext af5 a;let d:=b.elements _ _ _ _ _ e;simp only[ce];calc cX d 1}};{ext a}}}}}}};{unfold nY at a;split at a;{rename_i c;ext a;calc e7 g^dt c};{calc b.some _ _ _ _ _ a}};{unfold pp at a;ext afc w i e a;let d:=aof b e;ext akc a;{rename_i c;ext af5 a;let f:=e7 i^dt c;calc acT f d};{ext aet x n a;ext afc U D s a;ext af5 a;let#[o,p]:=yd n;let j:=e7 _^dt o;rw[<-p]at j;let t:=b.some _ _ _ _ _ s;dsimp only;calc η^Ĭ (ē t 1 j) d}}
inductive ex(a:Ħ):bc->bc->Prop|one{b c:bc}:(b,c)∈a->ex a b c|step{b c d:bc}:ex a b c->(c,d)∈a->ex a b d
def uE{b:bc}:∀{a:ŀ},b∈Vaattc.eachOnce a↔b∈a|[]=>fM|d::a=>by unfold Vaattc.eachOnce;simp only[bK,dc,uE (a:=a)];constructor;{rintro(a|⟨a,_⟩);{calc Ð a};{calc ÿ a}};{rintro(a|a);{calc Ð a};{by_cases c:b=d;{calc Ð c};{calc è #[a,by simp[c]]}}}
variable{R:List b5}{YE:List bc}{WG:List bc}{W0:bc}
def lR:W0∈kI R YE WG↔(∃b,b∈WG/\(b,W0)∈R)/\W0∉YE:=by unfold kI;rw[uE,bE];constructor;{rintro⟨⟨e,a⟩,d,rfl⟩;let#[c,a]:=ϕ d;rw[db]at a;let#[a,d]:=a;calc#[#[e,by{exists a},c],by exists d]};{rintro⟨⟨b,c,a⟩,d⟩;calc#[(b,W0),dc.mpr #[a,?_],r];rwa[db,#[by{exists c},by exists d]]}
abbrev oC(a:Ħ)(b:ŀ):Nat:=(a.filter λa=> ! b.contains a.2).length
variable{Xc:bc}
def Er(c:(Xc,W0)∈R)(d:W0∉YE)(e:W0∈WG):oC R (YE++WG)<oC R YE:=by unfold oC;let b:(R.filter λa=> !(YE++WG).contains a.2)=(R.filter (auw a)).filter λa=> ! WG.contains a.2:=by{rw[List.filter_filter];congr 1;funext a;rw[List.contains_append,Bool.not_or,GN]};rw[b];let b:(Xc,W0)∈R.filter (auw a):=dc.mpr #[c,by exists d];generalize R.filter (auw a)=k at b⊢;induction k with|nil=>{ext b}|cons c c c=>ext adZ b a;{subst a;rwa[eM,aix e,Nat.lt_succ_of_le^ag1]};{let:=c b;rw[eM];split;{simp only[ce];calc af6};{simp only[ce];calc cX this 1}}
def Em{e:Ħ}:∀(j:Nat)(a c:ŀ),oC e a<=j->(∀f∈c,f∈a)->(∀d∈a,d∉c->∀b,(d,b)∈e->b∈a)->(∀f∈a,f∈Vaattc.grow e j a c)/\∀d∈Vaattc.grow e j a c,∀b,(d,b)∈e->b∈Vaattc.grow e j a c|0,a,c,l,s,n=>by{unfold Vaattc.grow;calc#[λf h=>h,Ô d g b i];by_cases k:b∈a;{calc k};{let:(d,b)∈e.filter λo=> ! a.contains o.2:=dc.mpr #[i,by exists k];unfold oC at l;let o:=List.length_eq_zero_iff.mp^Nat.le_zero.mp l;ext ϗ o}}|j+1,a,c,l,s,n=>by unfold Vaattc.grow;dsimp only;rcases p:kI e a c with _|⟨t,A⟩;{rwa[zG^by{rfl},#[λf h=>h,Ô d g b i]];by_cases k:b∈a;{calc k};{by_cases m:d∈c;{let:b∈kI e a c:=lR.mpr #[#[d,m,i],k];ext ϗ p};{calc n d g m b i}}};{rw[an1];rw[<-p];let q:t∈kI e a c:=by{rwa[p,cj]};let#[#[B,_,v],w]:=lR.mp q;let x:=Er v w q;let#[y,z]:=Em (e:=e) j (a++kI e a c) (kI e a c) (ö^ai x l) (λf h=>eU _ h) λd g m b i=>by{ext ag9 g;{by_cases u:d∈c;{by_cases k:b∈a;{calc hI _ k};{calc eU _^lR.mpr #[#[d,u,i],k]}};{calc hI _^n d g u b i}};{calc zH g m}};calc#[λf h=>y f^hI _ h,z]}
def En{h:Ħ}{c:bc->Prop}(j:∀b d,c b->(b,d)∈h->c d):∀(i:Nat)(e f:ŀ),(∀a∈e,c a)->(∀a∈f,c a)->∀a∈Vaattc.grow h i e f,c a|0,e,f,g,k,a,b=>g a b|i+1,e,f,g,k,a,b=>by unfold Vaattc.grow at b;ext akc b;{calc g a b};{let l:∀d∈kI h e f,c d:=λd c=>by{let#[#[e,f,h],_]:=lR.mp c;calc j e d (k e f) h};calc En j i _ _ (λd c=>(cL.mp c).elim (g d)^l d) l a b}
def uF:Xc∈ri R W0↔ag':=by unfold ri;dsimp only;constructor;{calc En (c:=λd=>ex R W0 d) (λg h b a=>.step b a) _ _ _ (Â d f) (Â d f) Xc;{ext ayX e c a f};{ext ayX e c a f}};{intro b;let#[g,h]:=Em (e:=R) R.length (kI R [] [W0]) (kI R [] [W0]) ag1 (λd b=>b) λe c d=>zH c d;induction b with|one a=>{calc g _^lR.mpr #[#[W0,by{simp},a],by simp]}|step _ a b=>calc h _ b _ a}
def r3:tL R W0 Xc=af↔ag':=by unfold tL;rw[gB,uF]
def PI:fR R=af↔∃a,ex R a a:=by unfold fR;rw[kv];constructor;{rintro⟨d,_,b⟩;calc#[d.1,r3.mp b]};{ext acU a b;let:∃c,(a,c)∈R:=by{let g:∀e f,ex R e f->∃c,(e,c)∈R:=λe f b=>by{induction b with|one d=>{calc#[_,d]}|step _ _ d=>calc d};calc g a a b};let#[c,d]:=this;calc#[(a,c),d,r3.mpr b]}
variable{YT:List b5}
def ex.congr(b:∀a,a∈R->a∈YT)(c:ag'):ex YT W0 Xc:=by ext ayY c a b
inductive dv(a:Ħ):Nat->bc->bc->Prop|one{b c:bc}:(b,c)∈a->dv a 1 b c|step{d:Nat}{b c e:bc}:dv a d b c->(c,e)∈a->dv a (d+1) b e
def dv.pos(a:dv R g W0 Xc):1<=g:=by rcases a with _|⟨_,_⟩;{calc a5 _};{calc ϡ}
def dv.way(a:dv R g W0 Xc):ag':=by induction a with|one a=>{calc .one a}|step _ a b=>calc .step b a
def ex.cU(b:ag'):∃a,dv R a W0 Xc:=by induction b with|one b=>{calc#[1,.one b]}|step _ b c=>let#[a,d]:=c;calc#[a+1,.step d b]
def dv.last(b:dv R (g+1) W0 Xc)(c:1<=g):∃a,dv R g W0 a/\(a,Xc)∈R:=by rcases b with a|⟨b,a⟩;{lia};{calc#[_,b,a]}
variable{Za:bc}
def dv.cons(b:(W0,Xc)∈R)(a:dv R g Xc Za):dv R (g+1) W0 Za:=by induction a with|one a=>{calc .step (.one b) a}|step _ a c=>calc .step (c b) a
def dv.first:∀{a:Nat}{b c:bc},1<=a->dv R (a+1) b c->∃d,(b,d)∈R/\dv R a d c:=by intro a;induction a with|zero=>{intro b c e;lia}|succ a f=>intro b c _ e;let#[g,b,c]:=e.last^ϡ;by_cases k:1<=a;{let#[d,e,h]:=f k b;calc#[d,e,.step h c]};{obtain rfl:a=0:=by{lia};rcases b with a|⟨b,_⟩;{calc#[g,a,.one c]};{calc zH b.pos^by lia}}
def DY{h:Ħ}{m i:bc}:∀(u:Nat)(e g:ŀ)(c:Nat),1<=c->oC h e<u->(∀a,a∈e↔∃b,b<c/\dv h b m a)->(∀a,a∈g↔dv h c m a/\a∉e)->i∉e->(match Vaattc.awayFrom h i u e g c with|aa d=>dv h d m i/\∀b,b<d->¬dv h b m i|ah=>∀b,¬dv h b m i)|0,_,_,_,_,v,_,_,_=>aeu v|u+1,e,g,c,w,v,n,o,x=>by unfold Vaattc.awayFrom;by_cases p:g.isEmpty=af;{rw[zG p];let p:g=[]:=G6.mp p;let s:∀a,dv h c m a->a∈e:=λa q=>by{by_cases y:a∈e;{calc y};{let:=(o a).mpr #[q,y];ext ϗ p}};let z:∀d a,dv h (c+d) m a->a∈e:=by{intro d;induction d with|zero=>{calc s}|succ d A=>intro a q;let#[k,t,l]:=dv.last (g:=c+d) q^ai w^ġ;let#[b,f,j]:=(n k).mp^A k t;by_cases d:b+1<c;{calc(n a).mpr #[b+1,d,.step j l]};{let d:b+1=c:=bX f^c8 d;calc s a (d▸.step j l)}};intro b f;by_cases d:b<c;{calc x^(n i).mpr #[b,d,f]};{let d:b=c+(b-c):=by{omega};rw[d]at f;calc x^z _ i f}};{rw[zF p];by_cases s:g.contains i=af;{rw[zG s];let#[t,l]:=(o i).mp^by{exists s};calc#[t,λb f j=>l^(n i).mpr #[b,f,j]]};{rw[zF s];let s:i∉g:=by{exists s};obtain⟨k,i⟩:∃k,k∈g:=by{ext Ā g k z;{calc zH r p};{calc#[k,cj]}};let#[z,A]:=(o k).mp i;let B:∃p,(p,k)∈h:=by{rcases z with d|⟨_,d⟩;{calc#[_,d]};{calc#[_,d]}};let#[p,k]:=B;let p:=Er (WG:=g) k A i;let i:∀a,a∈e++g↔∃b,b<c+1/\dv h b m a:=λa=>by{rw[cL];constructor;{rintro(h|h);{let#[b,f,j]:=(n a).mp h;calc#[b,cX f 1,j]};{calc#[c,a5 _,((o a).mp h).1]}};{ext ĳ b f j;by_cases q:a∈e;{calc Ð q};{by_cases d:b=c;{subst d;calc .inr^(o a).mpr #[j,q]};{calc .inl^(n a).mpr #[b,θ f d,j]}}}};calc DY u (e++g) _ (c+1) (cX w 1) (ö^ē p 1 v) i (Í a)^λh=>(cL.mp h).elim x s;rw[lR];constructor;{rintro⟨⟨c,g,d⟩,l⟩;calc#[.step ((o c).mp g).1 d,l]};{ext acU t l;calc#[?_,l];let#[c,h,d]:=t.last w;by_cases g:c∈e;{let#[b,f,j]:=(n c).mp g;calc zH ((i a).mpr #[b+1,aF f 1,.step j d]) l};{calc#[c,(o c).mpr #[h,g],d]}}}}
def Eb(a c:bc):(match cY R a c with|aa d=>dv R d a c/\∀b,b<d->¬dv R b a c|ah=>∀b,¬dv R b a c):=by unfold cY;calc DY (R.length+2) [] (kI R [] [a]) 1 (a5 _) ?_ (λd=>#[Ĝ c,λ#[b,k,b]=>zH b.pos^jh k]) (Í d)^by{simp};{let:oC R []<=R.length:=ag1;calc cX af6 1};{rw[lR];constructor;{rintro⟨⟨e,f,d⟩,c⟩;obtain rfl:e=a:=by{exists f};calc#[.one d,c]};{ext acU c e;calc#[?_,e];rcases c with d|⟨b,_⟩;{calc#[a,by{simp},d]};{calc zH b.pos^jh^cd r}}}
def it:cY R W0 Xc=aa g↔dv R g W0 Xc/\∀a,a<g->¬dv R a W0 Xc:=by let b:=Eb (R:=R) W0 Xc;rcases d:cY R W0 Xc with _|c;{rw[d]at b;calc#[Ĝ a,λ#[a,_]=>zH a^b g]};{rw[d]at b;constructor;{ext ı a;calc b};{ext acU d e;let f:¬c<g:=λa=>e c a b.1;let e:¬g<c:=λa=>b.2 g a d;let:c=g:=bX (c8 e)^c8 f;rw[this]}}
def oA:cY R W0 Xc=ah↔¬ag':=by let b:=Eb (R:=R) W0 Xc;rcases c:cY R W0 Xc with _|a;{rw[c]at b;calc#[λ_ d=>(by let#[e,a]:=d.cU;calc b e a),aep]};{rw[c]at b;calc#[Ĝ a,λa=>zH b.1.way a]}
abbrev d1(b:Ã)(c:Nat):Ã:=b.map λa=>if ι a c then a|||Ϟ b c else a
abbrev eg(a:Ã):Ã:=(ae5 a).foldl d1 a
abbrev dR(b:Ã)(c d:Nat):Prop:=∃a,é b c a/\ι a d=af
inductive jA(a:aiy):aiy|one{b c:Nat}:a b c->jA a b c|step{b d c:Nat}:jA a b d->a d c->jA a b c
variable{Z3:Nat->Nat->Prop}
def jA.trans(b:jA Z3 g B)(a:jA Z3 B W1):jA Z3 g W1:=by induction a with|one a=>{calc .step b a}|step _ a b=>calc .step b a
abbrev eK(b:aiy):Nat->aiy|0,c,d=>b c d|a+1,c,d=>eK b a c d\/(eK b a c a/\eK b a a d)
def eK.dv{b:aiy}:∀{a c d:Nat},eK b a c d->jA b c d|0,_,_,b=>.one b|a+1,_,_,Ð b=>eK.dv (a:=a) b|a+1,_,_,.inr ⟨b,c⟩=>(eK.dv (a:=a) b).trans^eK.dv (a:=a) c
def eK.base{b:aiy}{c d:Nat}(e:b c d):∀a,eK b a c d|0=>e|a+1=>.inl^eK.base e a
def eK.join{f:aiy}:∀{d g b h:Nat},b<d->eK f d g b->eK f d b h->eK f d g h|0,_,_,_,e,_,_=>aeu e|d+1,g,b,h,e,c,a=>by by_cases k:b=d;{subst k;let i:eK f b g b:=by{rcases c with c|⟨c,_⟩;{calc c};{calc c}};let g:eK f b b h:=by{rcases a with a|⟨_,a⟩;{calc a};{calc a}};calc è #[i,g]};{let e:b<d:=θ e k;rcases c with c|⟨d,g⟩;{rcases a with a|⟨f,b⟩;{calc .inl^eK.join e c a};{calc è #[eK.join e c f,b]}};{rcases a with a|⟨f,b⟩;{calc è #[d,eK.join e g a]};{calc è #[d,b]}}}
def eK.all(c:∀B W1,Z3 B W1->W1<g):jA Z3 B W1↔eK Z3 g B W1:=by constructor;{intro a;induction a with|one a=>{calc eK.base a g}|step a e f=>let h:∀d b,jA Z3 d b->b<g:=λd b a=>by{rcases a with a|⟨_,a⟩;{calc c _ _ a};{calc c _ _ a}};calc eK.join (h _ _ a) f^eK.base e g};{calc eK.dv}
def yt(a:Ã)(b:Nat):(d1 a b).length=a.length:=by unfold d1;rw[aI]
def Qd(a:Ã)(e:g<a.length)(b d:Nat):dR (d1 a g) b d↔dR a b d\/(dR a b g/\dR a g d):=by unfold dR d1;rw[b9];let d:a[g]?=aa a[g]:=bi e;let e:a.getD g 0=a[g]:=by{rw[dN,d];rfl};rw[e];rcases e:a[b]?with _|a;{simp};{simp only[nw,v3,d,exists_eq_left'];by_cases c:a.testBit g=af;{rw[zG c,v1,hG];simp[c]};{rw[zF c];simp[c]}}
def Qe(a:Nat)(b:D[g]?=aa B):(d1 D a)[g]?=aa (if B.testBit a then B|||D.getD a 0 else B):=by unfold d1;rw[b9,b];rfl
def r1:∀(a:Ã)(b:Ã),(a.foldl d1 b).length=b.length|[],_=>r|c::a,b=>by rw[sO,r1 a,yt]
def uw(b:Ã):∀a,a<=b.length->∀c d,dR (af7 a b) c d↔eK (dR b) a c d|0,_,c,d=>fM|a+1,e,c,d=>by rw[hg,sN];show dR (aiz a b) c d↔_;rwa[Qd _^by{rwa[r1,e]},uw b a^Đ e,uw b a^Đ e,uw b a^Đ e,fM]
def D7(a:Ã)(d:∀c b,dR a c b->ś b a)(c b:Nat):dR (eg a) c b↔jA (dR a) c b:=by unfold eg;rw[uw a a.length^a5 _,eK.all d]
def lO(a:Ã):(eg a).length=a.length:=r1 _ _
@[reducible]abbrev aP(a:Ã):Á:=a.map λa=>ù a
def hr(a b:Ã):aP (a++b)=aP a++aP b:=cA
def xt(a b:Nat):o4 (Ñ a) (Ñ b)=((a|||b:Nat):Int):=by rw[Jz (gA _)^gA _];rfl
def Lu(a b:Nat):decide (ab.int^s7 (Ñ a/2^anH b) 1=Ŀ 1)=ι a b:=by rw[bitAnd_m1,hf,Nat.testBit_eq_decide_div_mod_eq];let c:(Ñ a/2^b)%2=((a/2^b%2:Nat):Int):=by{rw[Int.natCast_emod,Int.natCast_ediv,GP];rfl};rw[c,e4];simp only[decide_eq_true_eq,ab.int.injEq];omega
inductive rJ(c:Á)(d:ag)(e:aA)(f:aY):Prop|mk(b a:Nat)(_:c=[Ì b,Ì a])(_:a<=64)(_:e (.int ((b|||(1<<<a):Nat):Int)) d)
def Pj(a:Ö "with_arrow" 1 ["row","target"]):aog:=a.aw λa a a=>by calc ó a ["row","target"] a a c e a f;let#[g,a,b,h,j]:=f;calc Ş b (aC^bt^dT zf (ae 0)^dT Gc a7^ae 1);calc#[Ç,#[gA _,zt^aev h,by decide],Ç,?_];let b:adh*(2:Int)^anH a=((1<<<a:Nat):Int):=by{rw[Int.one_mul,hf,Aj,GP]<;>rfl};show e (.int^o4 (Ñ g) (adh*2^anH a)) c;rwa[b,xt,j]
inductive lK(c:Á)(d:ag)(e:aA)(f:aY):Prop|mk(a b:Nat)(_:c=[Ì a,Ì b])(_:e (.ah^ι a b) d)
def Lr(a:Ö "has_arrow" 2 ["row","target"]):aha:=a.aw λa a a=>by calc ó a ["row","target"] a a a b c c;let#[e,f,g,h]:=c;calc Ş g (aC^bt^ha c2 (dT Gb (dT S2 (ae 0)^ae 1) a7) a7^bH _);calc#[Ç,gA _,Ç,r,?_];show b (afR (ab.int^s7 (Ñ e/2^anH f) 1=Ŀ 1)) a;rwa[Lu,h]
inductive pN(f:Á)(a:ag)(g:aA)(h:aY):Prop|mk(e b:_)(_:f=æ e)(_:a e=ĝ b)(_:b.length<=64)(_:∀c d,c d=aa^.lst^aP^eg b->Ϡ a c d g)
def KC(e:Ö "closed" 3 ["graph"])(c:c9 m)(h:aha):alU:=e.aw λa a a=>by calc ó a ["graph","rows","middle","onward","row"] a b j b l k;let#[e,b,g,f,y,D]:=k;subst g;left;calc bl.mk (aq (Ò 1 a^na yS r c.list qN^Ø 0)^Α (dM el r (qp r c.range^ak (Ũ c^Ø 0) an) (sv (g:=2) a.ak r^ib r)^aq (aiA (g:=3) a^κ 1^ae 2)^aC^are (g:=1) (("row",4)) a 1 4^.ad λ_ _ _ _ _=>zh (fc^Ü h l^ü 4 2) (dT zf (ae 4)^ae 3)^ae 4) 1) ?_;symm;right;calc#[e,_,Ϣ f,Â l h];calc#[e,aP b,r,.inl^aw.ad^by{rwa[Ï f h,f]},alV,by{rwa[aI,hd^ē y 1^cd r]},?_];rwa[aI,hf,let o:cW:=(λa p f=>kn λc s u=>oK (p=[È e,È c,s,u,ah]) (f c=aa^.lst^aP^af7 a b) (aL j f) (j c=ah));vc o #[l,ah,ah,r,as,am4 v w c h,h] ?_ ?_];{intro a p f e k;symm;nofun;let#[c,Ä s u,j,l,z]:=k;left;right;rw[sJ];let A:a<(af7 a b).length:=by{rwa[r1,e]};let e:(aP^af7 a b)[a]?=aa^ab.int ((af7 a b)[a]:Nat):=by{rw[b9,bi A];rfl};calc#[c,Ļ j,yQ (g:=a) (by lia) e,?_];calc af8 c j h x;let B:c≠h:=ba j x;calc let o:ez:=(λe n=>n=am f h^.lst^aP^(aiz a b).take e);arf c (O:=aP^af7 a b) o r (λe n _ g=>?_) (ê e o n o g) (Â n g);{rwa[g,aw.ad^by rwa[ao B,j]]};{subst g;ext arh o n E;let B:∀o:Nat,(aiz a b)[e]?=aa o->am (am f h^.lst^aP^(aiz a b).take e) h^.lst (aP^(aiz a b).take e++[ù o])=am f h^.lst^aP^(aiz a b).take (e+1):=λo o=>by{rw[gn,dE,o,hr];rfl};let C:(aP^(aiz a b).take e).length<a9:=by{rwa[aI,dD,yt,r1,b2,alW (ai afX y)]};let o:(aiz a b)[e]?=aa (if ι n a then n|||(af7 a b).getD a 0 else n):=by{calc Qe a E};ext akd;calc#[n,a,r,Ý];calc a8 (λe=>#[Ç,_,as,C,?_]) λe=>#[_,as,C,?_];{let y:(af7 a b).getD a 0=(af7 a b)[a]:=by{rw[dN,bi A];rfl};rw[zG e,y]at o;show am _ h^.lst (_++[ab.int^o4 (Ñ n) _])=_;rwa[xt,B _ o]};{rw[zF e]at o;calc B _ o}};{subst g;calc#[h,_,Ý,Å v w a,l.free x];{rw[as,hg,sN,vY^by rwa[yt,aI,a5 _]];rfl};{rwa[ao^ba (l v w a) x,l v w a]}}};{ext Č p f k;let#[c,Ä s u,j,l,z]:=k;left;calc(D f c j l z)}
def bI.dh(a:ad1 g f M Xh XC):ari XC:=#[a.len,λb c e h j k l n o p s u v w=>ml (a.cy b c e h j k l n o p s u v w) λb a a=>by rcases b with b|b;{calc a.elim};{ext b<;>calc a}]
abbrev bA(b:Ą)(c:al)(d:ab):Prop:=∃a,b c=aa a/\bP d a
def bG(a:bA b.aO L W4)(c:ϱ:=by rfl)(d:χ:=by decide):bj b ade^qt W4:=by let#[e,e,f]:=a;calc S8 c e f d
abbrev aJ(c:Ó)(d e:ag):Prop:=∀a b,d a=aa b->a∉c->e a=aa b
def aD.keep{S:Ó}(a:ŧ):ad2:=λb c d _=>a b c d
def aJ.trans(d:ake)(e:aJ S V Y')(f:∀a∈W',a∈S):aJ S h Y':=λa b g c=>e a b (d a b g λb=>c^f a b) c
abbrev dy(b:ap)(d:ac)(e:Int):aY:=λf g h=>∃a c i,f=À a/\g=aa c/\jC b a i/\e1 b a "number"/\pd b (À a)^À d=ζ/\h c=aa^an8 e
abbrev du(f:aQ)(g:aN)(a:ap)(c:Ą)(h:aG)(i:ac)(j:al)(k:Int):Prop:=∃b l d e,yJ a b l d/\bI f g a c h aO 2 d e ["self"]^vw a k/\gx a e ["self"] []/\c j=È b/\pd a (À b)^À i=ζ
abbrev OI(d:ap)(e:ac)(f:aY)(g:Int):cN:=λ_ _ h=>∀b c a,dy d e g b c a->aL h a->f b c a
def fG(e:du b.prog b.w b.as b.aO b.base f L Xb)(g:a6 b XA)(h:aW 3 b.ao)(i:α:=by rfl)(j:ϱ:=by rfl)(k:χ:=by decide):fw b (.Raise (aa^.Call ade [] [] Yl) ah XG)^OI b.as f XA Xb:=by let#[c,l,a,a,a,m,d,n,o]:=e;let e:=Ti (XG:=Z) (Z:=XG) (Y9:=Yl) g i a m.dh h j n d k;intro g h i j k m n;calc e g h i j k m (Â e g);calc ĕ n c (aa e) _ #[c,e,l,r,r,a.tojC,a.num,o,as] (Å d a a);rwa[Ï a g,a]
inductive C2(d:ap)(h:Á)(c:ag)(i:aA)(k:aY):Prop|mk(a b f j g:_)(_:h=[À a,Ì g])(_:c a=aa^jE b f ah a)(_:jC d b j)(_:e1 d b "number")(_:∀e,c e=ah->i .ar^am (am c e^an8 g) a^jE b f (aa e) a)
def LH(a:ő "__init__" "Refusal.__init__" 20 0):alX "number"^C2 d:=by calc a.aI ["self","number"] ?_;rintro a a a a a a a a a a ⟨a,b,c,e,g,g,h,j,k,l⟩;subst g;calc#[_,aC^Tj (ae 0) (ae 1) r,a,b,c,e,r,h,j,k,l]
variable{abF:b'}{ach:cR->fo Bool}
def iX{c e g h j k a n}(o:alY L Xm f M)(p:ad1 1 s abF ["self","number"]^C2 d)(u:gx d abF ["self","number"] [])(v:uQ d w "__init__" s)(x:m "Refusal"=aa^.ref w)(y:dJ ["self"] ["self"]^Ν)(z:af3=[.Expr (ayZ e g h c j k a) n])(A:(Ν).names.lookup ("self":al)=adJ)(B:(Ν).names.lookup ("Refusal":al)=aa .globalImplicit)(C:∀b:cR,b1 (ayZ e g h c j k a) b=(do{let l<-b1 (.Name "Refusal" e) b;lv g.atName;let(f,F)<-iO [l]^nO l "__init__"^ach b;nM a f F (fp a^cw [.Name "self" h,.UnaryOp .USub (.Constant af2 c j) k] b)^mh a^mn [] b})):alZ 2^vw d (-Xb):=by calc o.ok y (λa b c e g=>by ext an' g) ?_;intro g g g g b a c e a b c;nofun;let#[c,e,g,h,L,j,k,n,o]:=b;subst L;left;rwa[z,adp (aC^bm^S5 p a B x v u .nil bd (ahb (ae 0 r^Ð A) (vq vF a7)) (t:=C _))];symm;right;calc#[_,r,c,e,g,h,_,r,j,k,n,o]
abbrev bx(f:aQ)(g:aN)(a:ap)(h:Ą)(i:aG)(j:fv)(k:Nat)(b:ac)(l:al)(c:Ĩ)(m:dK):Prop:=g5 a b/\∃d e,bI f g a h i j k d e c m/\gx a e c []/\sh a b l d
def bU(d:ay0)(e:adR Xg)(f:aic)(h:adS)(i:afU)(j:ae2:=by rfl)(k:agS:=by rfl)(l:b1 aqc b.ai=(do{let c<-alt;anx;let(a,n)<-anz c;nM Z a n (fp Z^anA)^anB}):=by rfl):bj b aqc^vB s Yo XC [] XA Xg X0:=by let#[m,a,a,a,o,p]:=d;calc Ta (Zw:=Zw) e m p a f o .nil h i j k l
def cT(d:ay0)(e:adR Xg)(f:aic)(h:adS)(i:b1 aqd b.ai=(do{let c<-alt;anx;let(a,k)<-anz c;nM Z a k (fp Z^cw [] b.ai)^anB}):=by rfl):bj b aqd^vB s Yo XC [] XA Xg sC:=by let#[j,a,a,a,l,m]:=d;calc Tb (Zw:=Zw) e j m a f l .nil h i
inductive cS where|great(a:Ã)|small(a:Ã)|num(a:Nat)|mark(b:al)|fin
abbrev cS.kind:cS->al|.great _=>"great"|.small _=>"small"|.num _=>"number"|.mark _=>"mark"|.fin=>"end"
abbrev cS.aH:cS->al|.mark a=>a|_=>""
abbrev pC(d:ag):cS->ab->Prop|.great b,a=>∃c,a=À c/\d c=Ě b|.small b,a=>∃c,a=À c/\d c=Ě b|.num b,a=>a=Ê b|.mark b,a=>a=û b|.fin,a=>a=ô ""
inductive JD(a:ag)(e:ab)(b:cS):Prop|mk(c d:_)(_:e=À c)(_:a c=aa^.tup [.str b.kind,d])(_:pC a b d)
abbrev gr(a:ag)(b:ab)(c:cS):Prop:=JD a b c
variable{Wf:cS}
def pC.keep{S:Ó}(e:ad2)(f:afd a)(b:pC h Wf W4):pC V Wf W4:=by cases Wf with|great g=>{ext aoh a d c b e f}|small g=>{ext aoh a d c b e f}|num g=>{calc b}|mark a=>{calc b}|fin=>calc b
def gr.keep{S:Ó}{a b:ag}(c:aJ S a b)(d:ahc e a){f:cS}{g:ab}(i:gr a g f):gr b g f:=by let#[a,e,f,b,g]:=i;calc#[a,e,f,afe c a b d,ð g c d]
abbrev io(a:ac)(b:Nat):aee:=[("tokens",À a),("place",Ê b)]
structure fE(d:ac)(a:ag)(e b:ac)(c:Á)(f:acx)(g:Nat):Prop where(ae:∃h,a e=aa^.ae d h^io b g)(lst:a b=à c)(a3:be (gr a) c f)
structure ob(a:ap)(b:ac):Prop where(aa:g5 a b)(dp:e1 a b "tokens")(ce:e1 a b "place")
variable{Ym:List cS}
def fE.at_(c:fE f h s w O Ym g)(a:Ym[g]?=aa Wf):∃b,O[g]?=aa b/\gr h b Wf:=by let d:∀{O:Á}{Ym:acx}{g:Nat},be (gr h) O Ym->Ym[g]?=aa Wf->∃b,O[g]?=aa b/\gr h b Wf:=by{intro O Ym g c;induction c generalizing g with|nil=>{intro a;simp at a}|cons b _ e=>intro a;ext aiB;{let a:=bW a;subst a;calc#[_,r,b]};{calc e a}};calc d c.a3 a
inductive rE(s:ac)(f:Á)(a:ag)(g:aA)(i:aY):Prop|mk(b l h c d e:_)(_:f=æ b)(_:fE s a b l h c d)(_:é c d e)(_:g (.str e.kind) a)
def MS(b:ő "next_kind" "Cursor.next_kind" 54 1)(a:ob d s):alZ 1^rE s:=by calc ó b ["self"] b b b b b e;let#[c,h,j,b,b,b,g,b,k,l]:=e;subst g;let#[e,n,Ä o e,p,_]:=b.at_ k;let#[e,g]:=b.ae;calc ϣ (aC^bt^aux);calc#[auy c e g a h j b n,o,Œ p,ώ r,l]
inductive xK(s:ac)(f:Á)(a:ag)(g:aA)(i:aY):Prop|mk(b l h c d e:_)(_:f=æ b)(_:fE s a b l h c d)(_:é c d e)(_:g (.str e.aH) a)
def MT(a:ő "next_mark" "Cursor.next_mark" 54 2)(b:ob d s)(o:acy "MARK" "mark")(p:ay1):alZ 2^xK s:=by calc ó a ["self"] a a a a u j;let#[c,l,n,v,w,e,k,g,a,h]:=j;subst k;let#[j,x,Ä y z,A,B]:=g.at_ a;let#[j,k]:=g.ae;calc ϣ (aq (ad3 (cT p (ae 0) u bd) (bG o) (aC^bt^aux) b6)^aC^bt dL);calc#[c,j,î k,c,l,n,v,w,e,r,g,a,r,Ý];calc Õ a;{let a:=zI a;cases e with|mark o=>{nofun;obtain rfl:z=û o:=B;left;calc#[auy c j k b l n g x,y,Œ A,aff,h]}|great b=>{calc arj a "great"}|small b=>{calc arj a "small"}|num b=>{calc arj a "number"}|fin=>calc arj a "end"};{let b:e.aH="":=by{cases e with|mark o=>{calc zH (zJ r) a}|_=>rfl};ext Ι b h}
def Ky(a:ac)(c b:Nat):ca "place" (Ê b)^io a c=io a b:=by unfold io ca;ext akf;rw[zG r]
def fE.eV(d:fE s h f w O Ym g):fE s auz f w O Ym B/\akg^auz:=by let#[a,e]:=d.ae;let i:akg^auz:=ark b a a j c;let k:∀b j,h b=Ű j->b∉[f]:=λb j a c=>by{let c:b=f:=by{exists c};ext ā c e a};calc#[#[#[A,as],?_,bL.ay d.a3 λb b a=>ð a i k],i];rwa[ao^dk d.lst e^by{ext ı a},d.lst]
inductive ue(d:ap)(n s:ac)(o:Á)(e:ag)(p:aA)(q:aY):Prop|mk(b l i f g c h:_)(_:o=[À b,û h])(_:fE s e b l i f g)(_:é f g c)(_:(c.kind=h->∀a j,pC a c j->fE s a b l i f (g+1)->á b e a->p j a))(_:(c.kind≠h->af9 k m a n b e q))
def OL(a:ő "take" "Cursor.take" 54 3)(g:ob d s)(u:arl)(v:ay1):ϊ ε 4 f M ["self","kind"]^ue d w s:=by calc ý a ["self","kind","said"] x a y a a a a h b;let#[c,k,o,z,e,n,p,j,l,b,A,B]:=h;subst j;let#[h,C,Ä D E,F,G]:=l.at_ b;let#[h,j]:=l.ae;calc ϣ (aq (acz (aiC (cT v (ae 0) (aiD a) bd) (ae 1)) u a)^aq (aiE 2 x^aux)^Α (vr (ae 0) a7 y1) 2);calc#[c,h,î j,c,k,o,z,e,n,r,l,b,r,Ý];calc Õ a;{calcλu v x z H=>B (Í b) u v x z^aD.keep H;ext ajz b a};{let a:n.kind=p:=by{by_cases b:n.kind=p;{calc b};{calc zH (by simp[b]) a}};calc#[auy c h j g k o l C,D,Œ F,aff,?_];calc#[c,s,h,Ŝ j,g.aa,g.ce,r,Ç,h,_,j,aiF];let g:ca "place" (ab.int (Ñ e+1))^io k e=io k (e+1):=Ky k e (e+1);rw[g];nofun;let#[k,g]:=l.eV (A:=h) (B:=e+1);let l:ahd e h y c:=λe h a b=>by{ext akh b e c;ext ā b j a};left;calc(A a _ E (ð G g l) k g)}
inductive xS(d:ap)(m s:ac)(n:Á)(c:ag)(o:aA)(p:aY):Prop|mk(b l i e f g h:_)(_:n=[À b,û h])(_:fE s c b l i e f)(_:é e f g)(_:(g=.mark h->∀a,fE s a b l i e (f+1)->ahe b c a o))(_:(g≠.mark h->af9 j k a m b c p))
def ON(a:ő "take_mark" "Cursor.take_mark" 54 4)(b:ob d s)(h:acy "MARK" "mark")(j:arl)(k:Ϥ ε 4 s "take" ["self","kind"]^ue d w s):ϊ ε 5 f M ["self","mark"]^xS d w s:=by calc ý a ["self","mark"] a a a a a a b l a;let#[c,u,v,x,y,e,n,a,g,z,o,p]:=l;subst a;let#[l,A]:=g.ae;calc ϣ (aC^bQ (aiC (aew k b^ak (bG h) an) (ae 1)) (aC^fG j a1^aiD b) b6);calc#[c,l,î A,c,u,v,x,y,e,"mark",r,g,z,ò b g v x y u,ò b h j g k l];{cases e with|mark c=>{nofun;obtain rfl:v=û c:=x;left;ext af' e;{calc auA h j k l p (Í x) u a;ext x;simp at e};{let e:c=n:=by{by_cases a:c=n;{calc a};{calc zH (by simp[a]) e}};rw[e]at o;calc o r g y u}}|great a=>{calc zH b^show¬arm="mark" by ext Û}|small a=>{calc zH b^show¬arn="mark" by ext Û}|num a=>{calc zH b^show¬aro="mark" by ext Û}|fin=>calc zH b^show¬("end":al)="mark" by ext Û};{calc p (λc=>b ?_) h j g k l;rw[c];rfl}
structure cb where(occs:List afg)(own:Bool)(parts:Nat)(am:Nat)
abbrev fi(b:ac)(a:cb):aee:=[("occurrences",À b),("has_own_number",.ah a.own),("parts",.int (a.parts:Nat)),("levels",.int (a.am:Nat))]
inductive JO(a:ag)(e:ab)(b:afg):Prop|mk(c d:_)(_:e=À c)(_:a c=aa^.tup [.int (b.1:Nat),À d])(_:a d=aa^.tup^bO b.2)
abbrev iU(a:ag)(b:ab)(c:afg):Prop:=JO a b c
structure hQ(e:ac)(a:ag)(f b:ac)(c:cb):Prop where(ae:∃g,a f=aa^.ae e g^fi b c)(lst:∃d,a b=à d/\be (iU a) d c.occs)
structure mF(a:ap)(b:ac):Prop where(aa:g5 a b)(dn:e1 a b "occurrences")(dQ:e1 a b "has_own_number")(ce:e1 a b "parts")(dm:e1 a b "levels")
variable{abG:Nat×List Nat}
def iU.keep{S:Ó}(c:ad2)(d:afd a)(g:iU h W4 abG):iU V W4 abG:=by let#[b,a,i,e,f]:=g;calc#[b,a,i,afe c b e d,afe c a f d]
def fE.aZ(a:fE f h s w O Ym g)(b:ake)(d:s∉W')(e:w∉W')(i:∀c j,h c=Ű j->c∉W'):fE f V s w O Ym g:=by let#[c,j]:=a.ae;calc#[#[c,b s _ j d],b w _ a.lst e,bL.ay a.a3 λa a a=>ð a b i]
variable{Yt:cb}
def hQ.aZ(b:hQ f h s w Yt)(a:ake)(d:s∉W')(e:w∉W')(g:∀c i,h c=Ű i->c∉W'):hQ f V s w Yt:=by let#[c,i]:=b.ae;let#[j,k,l]:=b.lst;calc#[#[c,a s _ i d],j,a w _ k e,ad4 l b b b a g]
def KU(a:ac)(b:cb)(c:Nat):ca "parts" (Ê c)^fi a b=fi a {b with parts:=c}:=by unfold fi ca;ext akf;ext akf;rw[zG r]
def BV(a:ac)(b:cb)(c:Nat):ca "levels" (Ê c)^fi a b=fi a {b with am:=c}:=by unfold fi ca;ext akf;ext akf;ext akf;rw[zG r]
def KT(a:ac)(b:cb)(c:Bool):ca "has_own_number" (.ah c)^fi a b=fi a {b with own:=c}:=by unfold fi ca;ext akf;rw[zG r]
def BU(b:ac)(a:cb):(fi b a).lookup ("parts":al)=adq (a.parts:Nat):=r
def xd(b:ac)(a:cb):(fi b a).lookup ("levels":al)=adq (a.am:Nat):=r
def hQ.set{dx:ac}{st':cb}(a:hQ f h s w Yt)(j:st'.occs=Yt.occs):hQ f auB s w st'/\aJ [s] h^auB:=by let#[b,d]:=a.ae;let#[k,e,l]:=a.lst;let g:aJ [s] h^auB:=ark b a a i c;let m:∀b i,h b=Ű i->b∉[s]:=λb i a c=>by{let c:b=s:=by{exists c};ext ā c d a};calc#[#[#[dx,as],k,?_,?_],g];{rwa[ao^acA e d a,e]};{rwa[j,ad4 l b b a g m]}
inductive CS(d:ap)(k s:ac)(e:cb->Nat)(l:cb->Nat->cb)(g:Nat)(m:Á)(f:ag)(n:aA)(o:aY):Prop|mk(b h c:_)(_:m=æ b)(_:hQ s f b h c)(_:(e c+1<=g->∀a,hQ s a b h^l c (e c+1)->ahe b f a n))(_:(g<e c+1->af9 i j a k b f o))
@[reducible]abbrev Dj(d:ap)(a s:ac):dK:=CS d a s cb.parts (λa b=>{a with parts:=b}) 60
@[reducible]abbrev C9(d:ap)(a s:ac):dK:=CS d a s cb.am (λa b=>{a with am:=b}) 30
def JX(a:ő "add_part" "Expression.add_part" 61 1)(e:mF d s)(l:Ė "MOST_PARTS" 60)(n:arl):auC^Dj d w s:=by ext ay2 a h b a c j p u g k l n;calc#[h,s,g,Ŝ k,e.aa,e.ce,BU b a,Ç,g,_,k,aki];let k:ca "parts" (ab.int ((a.parts:Int)+1))^fi b a=fi b (aga a):=KU b a (Β a);rw[k];nofun;let#[l,k]:=j.set (dx:=g) (st':=(aga a)) r;left;calc#[h,s,g,_,ĭ,e.aa,e.ce,BU b _,Ç,Ý];calc Õ b;{let b:=zI b;calc auA e g j n u (by show 60<Β a;let:((Β a:Nat):Int)>60:=b;calc gO this) k c};{calc p (by show Β a<=60;let:¬((Β a:Nat):Int)>60:=adr c b;calc kt this) _ l k}
def Kc(a:ő "begin_level" "Expression.begin_level" 61 2)(e:mF d s)(l:Ė "MOST_LEVELS" 30)(n:arl):auC^C9 d w s:=by ext ay2 a h b a c j p u g k l n;calc#[h,s,g,Ŝ k,e.aa,e.dm,xd b a,Ç,g,_,k,aki];let k:ca "levels" (ab.int ((a.am:Int)+1))^fi b a=fi b (akj a):=BV b a (a.am+1);rw[k];nofun;let#[l,k]:=j.set (dx:=g) (st':=(akj a)) r;left;calc#[h,s,g,_,ĭ,e.aa,e.dm,xd b _,Ç,Ý];calc Õ b;{let b:=zI b;calc auA e g j n u (by show 30<a.am+1;let:((a.am+1:Nat):Int)>30:=b;calc gO this) k c};{calc p (by show a.am+1<=30;let:¬((a.am+1:Nat):Int)>30:=adr c b;calc kt this) _ l k}
inductive CW(s:ac)(g:Á)(e:ag)(h:aA)(i:aY):Prop|mk(a f b c:_)(_:g=[À a,Ê c])(_:c<=b.am)(_:hQ s e a f b)(_:∀d,hQ s d a f {b with am:=b.am-c}->ahe a e d h)
def KX(a:ő "end_levels" "Expression.end_levels" 61 3)(g:mF d s):alX "count"^CW s:=by calc ó a ["self","count"] a a a a a e;let#[k,c,a,b,j,h,h,l]:=e;subst j;let#[e,j]:=h.ae;calc ϣ (aC^vr (ae 0) (ae 1) RT);calc#[k,s,e,Ŝ j,g.aa,g.dm,xd c a,Ç,e,_,j,aki];let g:ca "levels" (ab.int ((a.am:Int)-Ñ b))^fi c a=fi c {a with am:=a.am-b}:=by{let j:((a.am:Int)-Ñ b)=((a.am-b:Nat):Int):=by{omega};rwa[j,BV c a _]};rw[g];nofun;let#[c,g]:=h.set (dx:=e) (st':={a with am:=a.am-b}) r;left;calc l _ c g
@[reducible]abbrev aU:=ed
abbrev g1(a:cV):al:=if a=[37]then "mod"else#[a.toArray]
abbrev cz(a:aU):cS:=if a.kind=0 then(if kG^a.text.headD 0 then .great a.text else .small a.text)else if a.kind=1 then .num^μ a else .mark^g1 a.text
structure eo(a:aU):Prop where(kind:a.kind=0\/a.kind=1\/a.kind=2\/a.kind=3)(name:a.kind=0->iQ^a.text.headD 0=af)(aH:a.kind=2->∃b,a.text=[b])(ev:a.kind=3->ii a.text=af)
abbrev bk:Ù->cS|[]=>.fin|a::_=>cz a
abbrev hT(a:acx)(b:Nat)(c:Ù):Prop:=a.drop b=aoi c
variable{Y:List aU}
def hT.first(b:hT Ym g Y):Ym[g]?=aa^bk Y:=by let a:(Ym.drop g)[0]?=aa^bk Y:=by{rw[b];ext Y<;>rfl};rw[z']at a;calc a
variable{XH:aU}
def hT.next(a:hT Ym g (XH::Y)):hT Ym (g+1) Y:=by unfold hT at*;rw[<-oY,a];rfl
def hT.d7(a:hT Ym g Y)(b:Y≠[]):hT Ym (g+1)^ahf:=by ext ahg c c;{calc zH r b};{calc a.next}
def x8(a:ii Y4=af):2<=Y4.length/\Y4≠[109,111,100]:=by unfold ii at a;simp only[hG,beq_iff_eq]at a;rcases a with a|a|a<;>subst a<;>decide
def MG(d:eo XH)(c:XH.kind=2\/XH.kind=3)(a:g1 XH.text=g1 [g]):XH.text=[g]:=by unfold g1 at a;by_cases l:XH.text=[37];{rw[zG l]at a;by_cases k:[g]=[37];{rw[l,k]};{rw[zF k]at a;let:(3:Nat)=1:=zL (λb:al=>b.cps.size) a;lia}};{rw[zF l]at a;by_cases k:[g]=[37];{rw[zG k]at a;let b:XH.text.toArray=(List.toArray [109,111,100]):=zL al.cps a;let b:XH.text=[109,111,100]:=zL oV b;ext ĸ c;{let#[e,e]:=d.aH c;ext Æ e b};{calc zH b (x8^d.ev c).2}};{rw[zF k]at a;let b:XH.text.toArray=[g].toArray:=zL al.cps a;calc zL oV b}}
def BJ(a:cz XH=.mark L):XH.kind≠0/\XH.kind≠1/\g1 XH.text=L:=by ext arp a;{ext alv a};{ext Ĳ a;{rename_i b c;calc#[b,c,cS.mark.inj a]}}
def ip(c:∀a∈Y,eo a):bT g Y=af↔bk Y=.mark^g1 [g]:=by ext ahg a b;{calc#[Ĝ b,Ĝ b]};{let c:=c a cj;show a.isSign g=af↔cz a=_;unfold Vaatta.Tok.isSign;rw[db,beq_iff_eq,beq_iff_eq];constructor;{ext acU e d;unfold cz;rw[ν,ν,d]};{intro b;let#[f,e,d]:=BJ b;let b:a.kind=2\/a.kind=3:=by{rcases c.kind with a|a|a|a<;>lia};let a:=MG c b d;ext ĸ b;{calc#[b,a]};{let:=(x8^c.ev b).1;rw[a]at this;simp at this}}}
def uo(e:∀a∈Y,eo a)(f:ii Y4=af):lz Y4 Y=af↔bk Y=.mark #[Y4.toArray]:=by ext ahg a b;{calc#[Ĝ d,Ĝ d]};{let e:=e a cj;show(a.kind==3&&a.text==Y4)=af↔cz a=_;rw[db,beq_iff_eq,beq_iff_eq];let g:Y4≠[37]:=auD b f;constructor;{ext acU h c;unfold cz;rw[ν,ν,c];unfold g1;rw[zF g]};{intro d;let#[g,h,c]:=BJ d;let d:=x8 f;unfold g1 at c;by_cases k:a.text=[37];{rw[zG k]at c;let b:((List.toArray [109,111,100]):Array Nat)=Y4.toArray:=zL al.cps c;calc zH (zL oV b).symm d.2};{rw[zF k]at c;let b:a.text.toArray=Y4.toArray:=zL al.cps c;let b:a.text=Y4:=zL oV b;rcases e.kind with a|a|a|a;{lia};{lia};{let#[c,c]:=e.aH a;rw[<-b,c]at d;simp at d};{calc#[a,b]}}}}
def mR(c:∀b∈Y,eo b):bk Y=.small Y4↔∃b d,Y=b::d/\akk b/\b.text=Y4:=by ext auE b d a;{let c:=c b cj;show cz b=_↔_;constructor;{intro a;calc#[b,d,r,?_];ext arp a;{rename_i b;ext Ĳ a;{rename_i e;let d:=c.name b;unfold iQ at d;rw[hG]at d;unfold iP;rwa[db,beq_iff_eq,#[#[b,d.resolve_right e],cS.small.inj a]]}};{ext alv a}};{rintro⟨c,c,c,a,d⟩;ext c;unfold iP at a;rw[db,beq_iff_eq]at a;let#[b,c]:=a;unfold cz;rw[zG b,zF,d];unfold wJ at c;unfold kG;simp only[db,decide_eq_true_eq]at c⊢;lia}}
def pJ(a:∀b∈Y,eo b):bk Y=.num g↔∃b c,Y=b::c/\b.kind=1/\μ b=g:=by ext auE b c a;{show cz b=_↔_;constructor;{intro a;calc#[b,c,r,?_];ext arp a;{ext alv a};{split at a;{rename_i b;calc#[b,cS.num.inj a]};{ext a}}};{rintro⟨a,a,a,b,c⟩;ext a;unfold cz;rw[ν,zG b,c]}}
structure en where(ck C bO c l x aW:ac) (a9:Á)(all:acx)
structure cF(a:en)(c:ag)(d:Nat)(e:Ù)(b:cb):Prop where(av:fE a.C c a.c a.l a.a9 a.all d)(au:hQ a.bO c a.x a.aW b)(rest:hT a.all d e)(aF:∀f∈e,eo f)(b3:a.l≠a.aW)(aM:b.occs.length<=b.parts/\b.parts<=60)
abbrev en.a8(a:en):Ó:=[a.c,a.x,a.aW]
variable{XB:en}{YB aav:Nat}{WH:List aU}{WY:cb}
def cF.dh(a:ahh):XB.c≠XB.x:=by ext Ο b b a;ext acV c c a;calc dk b c (Í a);injection a with _ _ a;calc zH (zL gP a)^by show¬(2:Nat)=4;decide
def cF.c3(a:ahh):XB.c≠XB.aW:=by ext Ο b b a;let#[c,c,_]:=a.au.lst;calc dk b c^by ext ı a
def cF.fn(a:ahh):XB.x≠XB.aW:=by ext acV b b a;let#[c,c,_]:=a.au.lst;calc dk b c^by ext ı a
def cF.eU(a:ahh):XB.l≠XB.x:=by ext acV b b a;calc dk a.av.lst b^by ext ı a
def cF.aT(c:ahh):∀a b,h a=Ű b->a∉XB.a8:=λa b a b=>by ext Ο d d c;ext acV e e c;let#[f,f,_]:=c.au.lst;unfold en.a8 at b;ext auF b;rcases b with b|b|b<;>rw[b]at a;{ext Æ d a};{ext Æ e a};{ext Æ f a}
def cF.moved(a:ahh)(b:ay3 aav)(c:aJ [XB.c] h V)(d:hT XB.all aav WH)(e:∀f∈WH,eo f):cF XB V aav WH Yt:=#[b,a.au.aZ c (by exists ci a.dh) (by exists ci a.c3)^ay4 a,d,e,a.b3,a.aM]
def cF.bw(a:ahh)(c:hQ XB.bO V XB.x XB.aW WY)(b:aJ [XB.x] h V)(d:WY.occs.length<=WY.parts/\WY.parts<=60):cF XB V YB Y WY:=#[a.av.aZ b (by exists a.dh) (by exists a.eU)^ay4 a,c,a.rest,a.aF,a.b3,d]
def cF.next(a:ahh)(b:Y≠[])(c:ay3 (YB+1))(d:aJ [XB.c] h V):cF XB V (YB+1) ahf Yt:=a.moved c d (a.rest.d7 b) λb c=>a.aF b^sR c
def fV(a:aJ [XB.c] h V):aJ XB.a8 h V:=λb c d e=>a b c d λa=>e^by ext arq a
def eJ(a:aJ [XB.x] h V):aJ XB.a8 h V:=λb c d e=>a b c d λa=>e^by ext arq a
def aJ.and{h:ag}(a:ake)(b:aJ W' V Y'):aJ W' h Y':=a.trans b λ_ a=>a
def op{a b:Type}{c:σ a b}{d:ì a}{e:ì b}{f:a}{g:b}(YB:be c d e)(h:c f g):be c (d++[f]) (e++[g]):=gy YB^Ů h .nil
def cF.push{n:Nat}(b:ahh)(l:h XB.aW=aem)(p:be (iU h) O Yt.occs)(m:arr)(g:h s=ah)(q:Yt.occs.length+1<=Yt.parts):cF XB auG YB Y {Yt with occs:=Yt.occs++[(n,D)]}/\aJ XB.a8 h^auG:=by let e:aJ [XB.aW] h^auG:=λd i a j=>by{rwa[ao^ado c j,Ï a g,a]};let k:∀d o,h d=Ű o->d∉[XB.aW]:=λd o a c=>by{let c:d=XB.aW:=by{exists c};ext ā c l a};ext acV o t b;let u:s≠XB.aW:=Ę a l g;calc#[#[b.av.aZ e (by exists b.c3) (by exists b.b3) k,#[#[o,e _ _ t^by exists b.fn],_,as,op (ad4 p g i a e k) #[s,f,r,?_,e f _ m^k f _ m]],b.rest,b.aF,b.b3,?_,b.aM.2],λd i a j=>e d i a λc=>j^by ext arq c];{rw[ao u,as]};{rwa[cO,q]}
abbrev ev(e:ap)(b:en)(f:ag)(g:aY):Prop:=∀c d a,dy e b.ck (-2) c d a->aJ b.a8 f a->g c d a
def ev.bA(a:ev d XB h XA)(b:aJ XB.a8 h V):ev d XB V XA:=λc e f g i=>a c e f g^b.and i
structure cy where(occs:List afg)(own:Bool)(parts:Nat)
abbrev cb.aP(a:cb)(b:cy):cb:={a with occs:=a.occs++b.occs,own:=a.own||b.own,parts:=ξ a b}
abbrev ew(f:ap)(a:en)(b:ag)(c:cb)(d:ad5)(h:ĩ)(g:aY):Prop:=match d with|õ d i=>(ξ c d<=60->∀e j,cF a e j i^c.aP d->aJ a.a8 b e->h e)/\(60<ξ c d->ev f a b g)|ah=>ev f a b g
structure j3(b:aQ)(c:aN)(a:ap)(d:Ą)(f:aG)(h e g:ac):Prop where(cu:bx b c a d f aO 1 e "next_kind" ["self"]^rE e)(bL:bx b c a d f aO 2 e "next_mark" ["self"]^xK e)(bU:bx b c a d f (a2 b c) 4 e "take" ["self","kind"]^ue a h e)(bl:bx b c a d f (a2 b c) 5 e "take_mark" ["self","mark"]^xS a h e)(cr:bx b c a d f (a2 b c) 4 g "add_part" ["self"]^Dj a h g)(ah:bx b c a d f (a2 b c) 4 g "begin_level" ["self"]^C9 a h g)(di:bx b c a d f aO 1 g "end_levels" ["self","count"]^CW g)(cF:mF a g)(dg:ob a e)(mark:bA d "MARK"^ô "mark")(small:bA d "SMALL"^ô "small")(dr:bA d "NUMBER"^ô "number")
abbrev jw(c:Nat)(a:Ù):ad5:=if bT 46 a then(match Ċ a 1 with|[]=>ah|b::d=>auH b (#[[(c,b.text)],ay,1],d))else aa (akl,a)
inductive De(d:ap)(g h i:ac)(j:Á)(c:ag)(k:aA)(l:aY):Prop|mk(a:en)(m:Nat)(b:aU)(e:Ù)(f:cb)(_:a.ck=g)(_:a.C=h)(_:a.bO=i)(_:j=aoj a)(_:cF a c m (b::e) f)(_:b.kind=1)(_:agb a c f (jw (μ b) e) k l)
universe v1373
set_option tactic.hygienic true in def NM{Y Z ag:ac}(aY:Ö "read_number" 68 ["cursor","expression"])(k:aok Y Z ag):ay5 Y Z ag:=aY.aw λcs ct aZ=>by calc ý aZ ["cursor","expression","number"] a4 cC a7 cD cG bf bg bh cH;let#[a,u,e,c,g,bj,bq,br,f,l,bt,j]:=bh;subst f bj bq br;let z:aW 5 _:=bg;left;calc al0 (aq (Ò 2 a4^bU k.bU (ae 0) (aiD z) ļ^ak (bG k.dr) an)^aq (bm^cT k.cr (ae 1) (aiD z)^ļ)^aC^aol (cT k.bL (ae 0) (aiD z) bd) (aq (al1 k z)^aC^akm (ă 1) (fm^acW 2 (bU k.bU (ae 0) (aiD z) ļ^ak (bG k.small) an))) b6);symm;right;ext Γ bu bv l;let as:cz e=.num^μ e:=(pJ l.aF).mpr #[e,c,r,bt,r];left;calc#[Ł a bu bv,u,cz e,"number",Ľ l,λ_ cI A B bw au=>?_,λn=>ars as n];let I:=afh l bw au;let av:=fV au;let bx:A=.int (μ e:Nat):=by{ext Ι as B};subst bx;nofun;ext acV bA bI I;let az:(∀o v,jw (μ e) c=õ o v->60<ξ g o)->ev d a a7 bf:=λn=>by{unfold ew at j;rcases f:jw (μ e) c with _|b;{ext Ι f j};{rw[f]at j;calc j.2^n b.1 b.2 f}};let bL:∀o v,jw (μ e) c=õ o v->o.parts=1:=λo v b=>by{unfold jw at b;split at b;{ext Ĳ b;{split at b;{ext b;rfl};{ext b}}};{ext b;rfl}};left;calc#[acX a bA bI,g,r,I.au,Ŷ w J bM E L M N];{ext art w g x I bM E l aA av;ext Γ aD aJ x;left;calc#[Ł a aD aJ,u+1,_,acY x];calc Õ b;{let b:œ c=".":=afi b;let F:aiG c ".":=by{cases f:bk c with|mark A=>{rw[f]at b;calc zL cS.mark b}|great h=>{ext aru f b}|small h=>{ext aru f b}|num h=>{ext aru f b}|fin=>ext aru f b};let O:∀e∈c,eo e:=λP Q=>l.aF P^cu _ Q;let C:ŷ 46 c:=(ip O).mpr F;calc#[Ł a aD aJ,u+1,bk c,".",ahi x bO bP aK n F];let p:cF a bO (u+1+1) (Ċ c 1) _:=afj x C bP aK;let aL:=ad6 aA aK;ext Γ bS bV p;ext acV bX bY p;let#[cJ,bZ,_]:=p.au.lst;left;calc#[a.x,a.bO,bX,Ŝ bY,k.cF.aa,k.cF.dn,r,Ŕ bZ,Ł a bS bV,u+1+1,bk^Ċ c 1,"small",Ľ p,ò s R A B b0 G,ò n L M R N G];{nofun;obtain⟨h,aM⟩:∃h,bk^Ċ c 1=.small h:=by{cases f:bk^Ċ c 1 with|small h=>{calc#[h,r]}|mark h=>{rw[f]at s;calc zH s^ay6}|great h=>{rw[f]at s;calc zH s^ay7}|num h=>{rw[f]at s;calc zH s^auI}|fin=>rw[f]at s;calc zH s^ay8};let#[aO,H,D,S,b8]:=(mR p.aF).mp aM;rw[aM]at B;let#[ca,rfl,n]:=B;let T:=p.next (by rw[D];simp) b0 G;let cc:=ad6 aL G;let#[U,V,aP]:=T.au.lst;left;calc#[by{ext al2},Â aU aV];let cf:a.aW≠aU:=ba V aV;calc ay9 U aP T R aU (μ e:Nat) ca a cf V;let cl:ay' g:=Hs l.aM.1;nofun;let#[aX,cm]:=T.push (n:=(μ e)) V aP n aV cl;let W:jw (μ e) c=aa (#[[(μ e,h)],ay,1],H):=by{unfold jw;rw[zG C,D];dsimp only;rw[zG S,b8]};unfold ew at j;rw[W]at j;left;calc j.1 w _ (u+1+1+1) ?_^cc.and cm;let X:aza g ((μ e,h)) ((μ e,h)):=by{unfold cb.aP;rw[ku]};rw[X];let cn:(Ċ c 1).drop 1=H:=by{rw[D];rfl};ext Ι cn aX};{calc az (Å o v y) L M R N^ad6 aL G;unfold jw at y;rw[zG C]at y;ext Ĳ y;{rename_i aO H D;split at y;{rename_i S;calc zH (by rw[(mR p.aF).mpr #[aO,H,D,S,r]];rfl) n};{ext y}}}};{let C:¬ŷ 46 c:=λA=>b^by{let O:∀e∈c,eo e:=λP Q=>l.aF P^cu _ Q;let F:=(ip O).mp A;show aes (akn c ".");rwa[F,zJ r]};let W:jw (μ e) c=aa (akl,c):=by{unfold jw;rw[zF C]};unfold ew at j;rw[W]at j;calc j.1 w J (u+1) ?_ aA;let X:g.aP akl=aga g:=by{unfold cb.aP;rw[ku,fd]};rwa[X,x]}};{calc az (λo v b=>by rwa[bL o v b,w]) L M J N^ϥ av E}
abbrev cZ(a:gS):cy:=#[a.occs,a.usesOwn,a.parts]
abbrev d6:Except Bg (gS×Ù)->ad5|ş a b=>aa (cZ a,b)|ο=>ah
inductive xO(f:ap)(g h i:ac)(j k:Nat)(l:Nat->Nat->Nat->Ù->ad5)(m:Á)(d:ag)(n:aA)(o:aY):Prop|mk(a:en)(p:Nat)(c:Ù)(b:cb)(q e:Nat)(_:a.ck=g)(_:a.C=h)(_:a.bO=i)(_:m=aoj a)(_:cF a d p c b)(_:b.am+j=30)(_:afk c+k<=e)(_:ew f a d b (l q e b.am c) (n .ar) o)
@[reducible]abbrev mT(a:ap)(b c d:ac)(e:Nat):dK:=xO a b c d e 9 λa b c d=>d6^ee a b c d
variable{aa2:Option (cy×List aU)}
def ew.bC(a:ew d XB h Yt aa2 Zl XA)(c:∀b e,aa2=õ b e->60<Yt.parts+b.parts):ev d XB h XA:=by unfold ew at a;rcases aa2 with _|b;{calc a};{calc a.2^c b.1 b.2 r}
def ew.none{a:ap}{b:en}{c:ag}{f:cb}{d:ad5}{g:ĩ}{e:aY}(h:ew a b c f d g e)(i:d=ah):ev a b c e:=h.bC λa a a=>by ext Æ i a
def ew.some{i:ap}{b:en}{e a:ag}{c:cb}{f:ad5}{g:ĩ}{j:aY}{d:cy}{h:Ù}{p:Nat}(k:ew i b e c f g j)(l:f=õ d h)(m:ξ c d<=60)(n:cF b a p h^c.aP d)(o:aJ b.a8 e a):g a:=by subst l;calc k.1 m a p n o
def ho(c:L≠"")(a:ads=L):bk Y=.mark L:=by cases b:bk Y with|mark d=>{rw[b]at a;calc zL cS.mark a}|great d=>{rw[b]at a;calc zH a.symm c}|small d=>{rw[b]at a;calc zH a.symm c}|num d=>{rw[b]at a;calc zH a.symm c}|fin=>rw[b]at a;calc zH a.symm c
abbrev pF(b c a:Nat)(d:Ù):ad5:=if 30<=a then ah else match ee b c (a+1) d with|ş b a=>azb a b|ο=>ah
inductive CP(d:ap)(h i j:ac)(k:Nat)(l:Á)(e:ag)(m:aA)(n:aY):Prop|mk(a:en)(o:Nat)(f:aU)(c:Ù)(b:cb)(p g:Nat)(_:a.ck=h)(_:a.C=i)(_:a.bO=j)(_:l=aoj a)(_:cF a e o (f::c) b)(_:b.am+k=30)(_:cz f=.mark "("/\afk c+9<=g/\agb a e b (pF p g b.am c) m n)
def NH(j:6<=B)(b:Ö "read_bracket" 71 ["cursor","expression"])(k:ako)(S:auJ):akp (B+1) "read_bracket"^CP d f s w g:=b.aw λa a a=>by calc ý a ["cursor","expression"] a D a a a T x l M;let#[a,n,N,h,b,o,p,u,v,y,z,c,E,O,U,e]:=l;subst z u v y;ext Ο P Q c;calc arv R x j F V 1 (W1:=5);left;ext aiB;{calc akq (afl k F^akr k R sz);calc#[Ł a P Q,n,cz N,"(",ahi c G H u I O];calc azc l a G n h b c H u J L j y z A C v e (by unfold pF;rw[zG^by calc au E])};{calc aur M (afl k F^akr k R^aq (arw S x)^afl k F^aC^auK k V);calc#[Ł a P Q,n,cz N,"(",ahi c G H u I O];let l:cF a G (n+1) h b:=afh c H u;let x:=fV u;ext aiH J L l;calc#[acX a J L,b,r,l.au,Ŷ j A k v y z C];{let u:=l.bw k v c.aM;let k:=ϥ x v;ext auL c b E;calc#[a,n+1,h,akj b,o,p,auM u b,U,?_];let n:pF o p b.am h=(match aks o p b h with|ş l D=>azb D l|ο=>ah):=by{unfold pF;rw[zF c]};rw[n]at e;show ew d a A (akj b) (d6^aks o p b h) _ T;rcases n:aks o p b h with c|c;{rw[n]at e;calc ev.bA e k};{ext Ϗ l A c;rw[n]at e;calc aiI o h u h l (e.bC (Å n n c)) k;{let v:=k.and l;ext Γ k l h;left;calc#[Ł a k l,u,_,")",Ľ h,Ŷ p x D k y z C];{let l:ŷ 41 A:=(ip h.aF).mpr p;let n:=afj h l D k;let A:=ad6 v k;nofun;ext auN n a b a a F;calc e.some (p:=u+1) (zG l) o ?_^ϥ A a;calc F};{calc e.none (zF λl=>p^(ip (g:=41) h.aF).mp l) y z x C^ad6 v k}};{ext akc c;{ext c;calc o};{ext c}}}};{let:¬b.am+1<=30:=by{let:30<b.am+1:=j;calc jh^cX (ö^Ĭ (Ρ (ai j^aF ġ 1) E) j) 1};lia}}
inductive C1(d:ap)(g h i:ac)(j:Nat)(k:Á)(e:ag)(l:aA)(m:aY):Prop|mk(a:en)(n:Nat)(b:Ù)(c:cb)(o f:Nat)(_:a.ck=g)(_:a.C=h)(_:a.bO=i)(_:k=aoj a)(_:cF a e n b c)(_:c.am+j=30)(_:afk b+9<=f)(_:aiG b "if")(_:agb a e c (d6^ee o f c.am b) l m)
inductive ud(d:ap)(h i j:ac)(k c:Nat)(l:Á)(f:ag)(m:aA)(n:aY):Prop|mk(a:en)(o:Nat)(e:Ù)(b:cb)(p g:Nat)(_:a.ck=h)(_:a.C=i)(_:a.bO=j)(_:l=[.ref a.c,.ref a.x,Ê c])(_:cF a f o e b)(_:b.am+k=30)(_:afk e+(8-c)<=g)(_:agb a f b (d6^e5 p g (c+1) b.am e) m n)
def NU(b:2<=B)(a:Ö "read_whole" 63 ["cursor","expression"])(o:ako)(p:arx "read_if"^C1 d f s w g)(v:č B "read_step" ["cursor","expression","step"]^ary 0):akp (B+1) "read_whole"^mT d f s w g:=a.aw λa a a=>by calc aom a ["cursor","expression"] a x a y z h A a l b c j n F e u G k;ext Ο A C e;calc ϣ (aC^aol (cT o.bL (ae 0) (h.mono^by lia) bd) (aC^bm^ģ p h^ë 0^ŵ 1)^aC^bm^ģ v h^ë 0^ë 1^ad7 an);calc#[Ł a A C,l,_,acY e];calc Õ o;{let p:aiG b "if":=ahj^afi o;calc#[a,l,b,c,j,n,acZ,e,u,G,p,k]};{nofun;obtain⟨h,rfl⟩:∃h,n=h+1:=#[n-1,by lia];let n:¬lz pr b=af:=λv=>o^by{let p:=(uo e.aF^by decide).mp v;show aes (akn b "if");rwa[p,zJ r]};let o:ee j (h+1) c.am b=e5 j h 1 c.am b:=by{rw[ee,zF n]};let k:agb a x c (d6^ee j (h+1) c.am b) y z:=k;rw[o]at k;left;calc#[a,l,b,c,j,h,acZ,e,ac0 u,k]}
@[reducible]abbrev Dp(d:ap)(a b c:ac)(e:Nat):dK:=xO d a b c e 2 λa b c e=>d6^gD a b c e
@[reducible]abbrev rD(d:ap)(a b c:ac)(e:Nat):dK:=xO d a b c e 1 λa b c e=>d6^hO a b c e
abbrev om(b:Nat):ad5->ad5|õ a c=>aa ({a with parts:=a.parts+b},c)|ah=>ah
def LV(i:∀a∈Y,eo a):(bT 45 Y||bT 33 Y)=af↔ads="-"\/ads="!":=by rw[hG,ip i,ip i];constructor;{rintro(a|a);{rwa[a,ħ]};{rwa[a,ϛ]}};{rintro(a|a);{calc .inl^ahj a};{calc .inr^ahj a}}
def Oc{e f a:Nat}{b:Ù}(i:auO b):d6^gD e (f+1) a b=if 30<=a then ah else om 1^d6^gD e f (a+1)^Ċ b 1:=by rw[gD,zG i];by_cases c:30<=a;{rw[zG^show lx<=a from c,zG c];rfl};{rw[zF^show¬lx<=a from c,zF c];rcases j:gD e f (a+1)^Ċ b 1 with g|g;{rfl};{let#[d,h]:=g;show aa (cZ^wH _ [d],h)=aa (#[d.occs,d.usesOwn,Β d],h);unfold cZ;simp only[nV,nZ,nW,n0,mv,my,fd,ku,qI];rw[nr]}}
def Ob(a:¬(bT 45 Y||bT 33 Y)=af):gD g (B+1) W1 Y=hO g B W1 Y:=by rw[gD,zF a]
def Ck(b c:Nat)(a:ad5):om b^om c a=om (c+b) a:=by ext adF a a;{rfl};{show aa _=aa _;rw[jn]}
def cF.same(a:cF XB h g Y Yt)(b:ŧ):cF XB V g Y Yt:=#[a.av.aZ (acB b) (by simp) (by simp)^arz,a.au.aZ (acB b) (by simp) (by simp)^arz,a.rest,a.aF,a.b3,a.aM]
def a'(b:aek):aL h^afJ:=λa a a=>by rwa[Ï a b,a]
def B9:(gl (.str L) [.str Xn,ais]=af)↔L=Xn\/L=X6:=by show(([ab.str Xn,ab.str X6]).any λa=>g9 a^.str L)=af↔_;rw[jj,jj,z2,ku,hG];show((Xn==L)=af\/(X6==L)=af)↔_;rwa[beq_iff_eq,beq_iff_eq,#[λa=>a.imp oX oX,λa=>a.imp oX oX]]
abbrev mN(a:cb)(b:Nat):cb:={a with am:=a.am+b,parts:=a.parts+b}
def NP(l:4<=B)(c:Ö "read_signed" 66 ["cursor","expression"])(a:ako)(v:arx "read_atom"^λn C Q J=>∃b,b<=g/\rD d f s w b n C Q J):akp (B+1) "read_signed"^Dp d f s w g:=c.aw λb b b=>by calc aom b ["cursor","expression","signs"] p C n Q J e u b x D c j E k A F G o;let h:aW 4 _:=e.mono^by{lia};let y:aW 2 _:=e.mono^η l;let z:aW 1 _:=e.mono^aX (W1:=3) l;left;calc adp (aiJ 2 p^aq (h7 gm (bR zc (agc a y) (fm^arA)^by ext aeY)^aq (bm^aiK a h (bG a.mark))^akr a h^al3 a h^aC^qq (g:=2) p.ak r (nx r) a7 qe)^aq (bm^ģ v e^ü 0 1)^aC^bm^bU a.di (ae 1) z bd^Ø 2);symm;right;calc let z:cW:=(λp y l=>azd a v e h y b (p=e.length) l c C j E D);#[z,#[_,0,x,D,E,r,r,A,λx x x _=>x,G,?_,ai ġ^aZ F],?_];{show _=om 0 _;cases d6^gD j E c.am D<;>rfl};ext ϐ p y l u;let#[a,v,Ř e h,l,A,ag,y,F]:=u;ext aex h p;ext Ο p u l;left;calc#[Ł b p u,v,bk e,Ľ l,by{ext al2},λp u=>auP p];let p:=ac1 [ô "-",ô "!"] u;let F:=É l p;let L:aJ b.a8 C _:=ahk A p;let X:arB e [ô "-",ô "!"]=af↔auO e:=B9.trans (LV l.aF).symm;ext Γ p A F;left;calc Õ x;{let x:arB e [ô "-",ô "!"]=af:=x;let M:=X.mp x;let u:e≠[]:=by{rcases ard M with k|k;{calc dt k};{calc dt k}};let H:aey e="mark":=by{rcases B9.mp x with k|k;{rw[ahj k];rfl};{rw[ahj k];rfl}};rw[Oc M]at y;calc let z:hy:=(λl G=>azd a v n h l b (n.length<e.length) G c C j E D);aze z l G am ao n au;calc#[Ł b p A,v,bk e,"mark",Ľ F,λ_ G N l l O=>?_,λp=>zH H p];let p:=F.next u l O;let Y:=ad6 L O;ext aiH R S p;calc#[acX b R S,mN c a,r,p.au,Ŷ z P T A U V W];{let z:c.am+a+1<=30:=z;rw[zF^jh z]at y;let H:=p.bw T A p.aM;let Z:=ϥ Y A;ext aiH l I H;calc#[acX b l I,_,r,H.au,Ŷ l ab aM I U V W];{let l:c.parts+a+1<=60:=l;let aO:=H.bw aM I #[nu p.aM.1,l];let aM:aoe e:=e7 e u;calc#[Ç,a+1,v+1,Ċ e 1,h,r,aM,aO,ϥ Z I,by{lia},?_,by lia];rw[y,Ck,nr 1 a];rfl};{let l:60<c.parts+a+1:=l;calc o.bC (Å l aM u) U V ab W^ϥ Z I;let u:d6^gD j E c.am D=õ l aM:=u;rw[y,Ck]at u;rcases I:d6^gD j h (c.am+a+1)^Ċ e 1 with _|N;{ext Æ I u};{rw[I]at u;let u:=bW u;let:l.parts=N.1.parts+(1+a):=by{rw[<-(ll u).1]};lia}}};{let z:30<c.am+a+1:=z;rw[zG^ö z]at y;calc o.none y U V P W^ϥ Y A}};{let M:¬auO e:=λk=>x^X.mpr k;rw[Ob M]at y;let o:agb b C c (d6^gD j E c.am D) Q J:=o;rw[y]at o;calc#[g-a,acP,b,v,e,mN c a,j,h,acZ,F,by{show c.am+a+(g-a)=30;lia},ö ag,?_];show ew d b _ (mN c a) (d6^hO j h (c.am+a) e) _ J;rcases I:d6^hO j h (c.am+a) e with _|N;{rw[I]at o;calc ev.bA o L};{ext Ϗ l n N;rw[I]at o;calc aiI e G h p O (o.2^by let:60<c.parts+a+l.parts:=e;show 60<c.parts+(l.parts+a);lia) L;let e:c.parts+a+l.parts<=60:=e;ext aiH R S p;calc#[acX b R S,_,a,r,by{show a<=c.am+a;calc ϡ},p.au,Å P T A];let H:=p.bw T A p.aM;calc o.1 (by show c.parts+(l.parts+a)<=60;lia) P h ?_^(L.and O).and^eJ A;let b:({(mN c a).aP l with am:=((mN c a).aP l).am-a}:cb)=c.aP {l with parts:=l.parts+a}:=by{unfold mN cb.aP;simp only[cb.mk.injEq,true_and];lia};rwa[<-b,H]}}
abbrev fY:Nat->Ĩ|0=>["|"]|1=>["&"]|2=>["=","<"]|3=>["+","-"]|4=>["*","/","mod"]|_=>[]
structure rp(c:ap)(g:Ą)(d:ac)(a:Ó):Prop where(at_:bA g "STEPS"^À d)(all:∀b,bw c b d^π a)(len:a.length=5)(one:∀e f,é a e f->∀b,bw c b f^(fY e).map ab.str)
def gI(a:g1 [g]=L)(b:L≠"")(c:∀d∈Y,eo d):bT g Y=af↔ads=L:=by rw[ip c,a];constructor;{intro a;rw[a];rfl};{calc ho b}
def xm{a:al}:∀{b:Ĩ},gl (û a)^b.map ab.str=af↔a∈b|[]=>by{simp[gl]}|e::b=>by let d:=xm (a:=a) (b:=b);unfold gl at d⊢;rw[dg,jj,hG,d,bK];show(e==a)=af\/_↔_;rwa[beq_iff_eq,#[λc=>c.imp oX id,λc=>c.imp oX id]]
def M9(p:g<5)(a:∀b∈Y,eo b):(ly (g+1) Y).isSome=af↔ads∈fY g:=by let e:=ahl (g:=124) (L:="|") a;let f:=ahl (g:=38) (L:="&") a;let h:=ahl (g:=61) (L:="=") a;let i:=ahl (g:=60) (L:="<") a;let j:=ahl (g:=43) (L:="+") a;let k:=ahl (g:=45) (L:="-") a;let l:=ahl (g:=42) (L:="*") a;let m:=ahl (g:=47) (L:="/") a;let n:=ahl (g:=37) (L:="mod") a;unfold ly;rw[nv,oZ];constructor;{ext ĳ c d b;rw[db,beq_iff_eq]at b;let#[a,b]:=b;unfold wI at d;ext auF d;rcases d with rfl|rfl|rfl|rfl|rfl|rfl|rfl|rfl|rfl;{obtain rfl:g=0:=by{let a:(1:Nat)=g+1:=a;lia};rw[e.mp b];simp[fY]};{obtain rfl:g=1:=by{let a:(2:Nat)=g+1:=a;lia};rw[f.mp b];simp[fY]};{ext azf a h b};{ext azf a i b};{ext azg a j b};{ext azg a k b};{ext auQ a l b};{ext auQ a m b};{ext auQ a n b}};{intro a;let b:∀c∈wI,c.2.1=g+1->bT c.1 Y=af->∃o∈wI,(o.2.1==g+1&&bT o.1 Y)=af:=λc d o q=>#[c,d,by rwa[db,beq_iff_eq,#[o,q]]];match g,p with|0,_=>{let a:ads="|":=by{simpa[fY]using a};calc ahm b (124,1,.or) e a}|1,_=>{let a:ads="&":=by{simpa[fY]using a};calc ahm b (38,2,.and) f a}|2,_=>{let a:ads="="\/ads="<":=by{simpa[fY]using a};ext ĸ a;{calc ahm b (61,3,.eq) h a};{calc ahm b (60,3,.lt) i a}}|3,_=>{let a:ads="+"\/ads="-":=by{simpa[fY]using a};ext ĸ a;{calc ahm b (43,4,.add) j a};{calc ahm b (45,4,.sub) k a}}|4,_=>let a:ads="*"\/ads="/"\/ads="mod":=by{simpa[fY]using a};rcases a with a|a|a;{calc ahm b (42,5,.mul) l a};{calc ahm b (47,5,.div) m a};{calc ahm b (37,5,.mod) n a}}
variable{Xu:Nat}{ZB:gS}
def MK(a:ly W1 Y=ah):auR=.ok (ZB,Y):=by rw[gT,a]
variable{Wg:nX}
def Cm(c:ly W1 Y=aa Wg):auR=(match arC with|ş a b=>if W1=3 then .ok (.app Wg [ZB,a],b)else gT g B W1 Xu (.app Wg [ZB,a]) b|Ϛ d=>Ϛ d):=by rw[gT,c];cases arC<;>rfl
def w7(c:nX)(a b:gS):cZ^.app c [a,b]=#[a.occs++b.occs,a.usesOwn||b.usesOwn,1+a.parts+b.parts]:=by unfold cZ;simp only[nV,nZ,nW,n0,mv,my,fd,ku,qI,jn]
variable{abH:gS}
def ML(d:ly W1 Y=aa Wg)(a:auR=.ok (abH,WH)):∃b c,arC=ş b c/\1+ZB.parts+b.parts<=abH.parts:=by rw[Cm d]at a;rcases d:arC with _|e;{ext Æ d a};{let#[b,c]:=e;ext aiL d a;calc#[b,c,r,?_];let c:(wH Wg [ZB,b]).parts=1+ZB.parts+b.parts:=zL cy.parts^w7 Wg ZB b;split at a;{ext a;rwa[c,a5 _]};{let:=((k4 g B).more _ _ _ _ _ _ a).2;ext akb c}}
def Nc:∀a,("":al)∉fY a|0=>by{ext Û}|1=>by{ext Û}|2=>by{ext Û}|3=>by{ext Û}|4=>by{ext Û}|_+5=>by unfold fY;simp
def Kd:e5 g (B+1) 6 W1 Y=gD g B W1 Y:=by rw[e5,zG^by decide]
def Ke(a:Xu<5):e5 g (B+1) (Xu+1) W1 Y=(match auS with|ş b c=>gT g B (Xu+1) W1 b c|Ϛ d=>Ϛ d):=by rw[e5,zF^k' a];show hH auS _=_;cases auS<;>rfl
def NQ(a:Ö "read_step" 65 ["cursor","expression","step"])(n:c9 m)(b:rp d m A W')(o:arx "read_signed"^Dp d f s w g):azh (B+1)^ary 5:=a.aw λa a a=>by calc aom a ["cursor","expression","step"] a e a p u v x h y j c k l E F G a a;calc ϣ (aq (azi n b (aq (bm^ģ o v^ë 0^ŵ 1)^aC Gi) b6) sz);ext azj b e n;calc a8 (Í b) λb=>zH (by show aes (Ŀ 5=ab.int auT);rwa[n,zJ r]) b;nofun;obtain⟨b,rfl⟩:∃b,l=b+1:=#[l-1,by lia];let a:agb h e c (d6^e5 k (b+1) 6 c.am j) p u:=a;rw[Kd]at a;left;calc#[h,y,j,c,k,b,acZ,F,ac0 G,a]
def rB(l:4<=W1)(F:B<5)(a:Ö "read_step" 65 ["cursor","expression","step"])(p:c9 m)(z:rp d m A W')(b:ako)(v:Ė "COMPARISON" 2)(h:č W1 "read_step" ["cursor","expression","step"]^ary (B+1)):azh (W1+1)^ary B:=a.aw λa a a=>by calc aom a ["cursor","expression","step"] a D n y M c G e C x a j o I J T u u;let k:aW 4 _:=c.mono^by{lia};let E:aW 2 _:=c.mono^η l;left;calc bl.mk (aq (azi p z sz b6)^aq (bm^ģ h c^ë 0^acW 1 (agd 2 a7))^aC^h7 gm (bR zc (agc b E) (br dr (bG z.at_)^ae 2)^by ext aeY)^aq (bm^aiK b k (bG b.mark))^al3 b k^aq (bm^ģ h c^ë 0^acW 1 (agd 2 a7))^aC^ad3 (ae 2) (bG v) (aC Gi) b6) ?_;symm;right;ext azj z D b;calc a8 (λl=>zH (ab.int.inj^zI l)^by show¬(B:Int)=auT;rw[b];lia) (Í l);nofun;ext aex o E;let u:agb e D a (d6^e5 j (o+1) (B+1) a.am x) y M:=u;left;calc#[B,1,r,r,e,C,x,a,j,o,acZ,J,ac0 T,?_];let C:=Ke (g:=j) (B:=o) (W1:=a.am) (Y:=x) F;show ew d e D a (d6^e5 j o (B+2) a.am x) _ M;rcases k:e5 j o (B+2) a.am x with l|h;{rw[k]at C;ext Ι C u};{ext Ϗ c b h;rw[k]at C;let C:e5 j (o+1) (B+1) a.am x=gT j o (B+1) a.am c b:=C;let p:=(k4 j o).binary _ _ _ _ _ k;left;calc#[ê v k N p O,λv=>u.bC (Å L P l)];{calc let J:cW:=(λE I H=>azk c y b k I e (E=b.length) H a D j o x);#[J,#[_,c,N,b,o,r,r,p,ac0 O,C],?_];ext ϐ E I H G;let#[c,y,Ř b k,p,U,H,H]:=G;ext aex k E;ext Ο N O p;obtain⟨E,G⟩:∃E,W'[B]?=aa E:=#[W'[B]'(by rwa[z.len,F]),bi _];let I:(aon)[B]?=È E:=by{rw[b9,G];rfl};let Q:(auU).all h5=af:=by{rw[z1,iI];intro h _;rfl};left;calc#[Ł e N O,y,bk b,Ľ p,A,_,Ç,z.all _,b0 I,E,_,r,.inr^z.one B E G _,r,Q,Ý];let V:arB b^auU=af↔(ly (B+1) b).isSome=af:=xm.trans (M9 F p.aF).symm;calc Õ l;{let l:arB b^auU=af:=l;nofun;let#[I,Q]:=f4.mp^V.mp l;let E:b≠[]:=Ew Q;let R:aey b="mark":=by{let z:=xm.mp l;let F:œ b≠"":=λh=>by{rw[h]at z;calc Nc B z};rw[ho F r];rfl};let X:aoe b:=e7 b E;left;calc let J:hy:=(λF z=>azk c y n k F e (ag7 n b) z a D j o x);#[J,λF z #[ag,am,n,ao,as,av,aw,az,aA,aD]=>#[_,av,ag,am,n,ao,as,r,aw,az,aA,aD],?_];calc#[Ł e N O,y,bk b,"mark",Ľ p,λ_ x h x F x=>?_,λG=>zH R G];let N:=p.next E F x;let W:=ad6 U x;nofun;ext acV J O N;let R:(∀h n,e5 j k (B+2) a.am^Ċ b 1=ş h n->60<a.parts+(1+c.parts+h.parts))->ev d e D M:=λG=>u.bC λL P D=>by{rcases E:gT j (k+1) (B+1) a.am c b with _|x;{ext ā H E D};{nofun;let#[x,S]:=x;let#[h,n,F,Y]:=ML Q E;rw[H,E]at D;let D:aa (cZ x,S)=õ L P:=D;let:L.parts=x.parts:=by{rw[<-(ll^bW D).1];rfl};let:=G h n F;left;lia}};left;calc#[acX e J O,_,r,N.au,Ŷ J z G O Y Z aK];{let J:ξ a c+1<=60:=J;let aL:=N.bw G O #[nu N.aM.1,J];let N:=ϥ W O;calc#[B,1,r,r,e,y+1,Ċ b 1,_,j,k,acZ,aL,ac0 T,?_];let G:=Cm (g:=j) (B:=k) (Xu:=a.am) (ZB:=c) Q;show ew d e z _ (d6^e5 j k (B+2) a.am^Ċ b 1) _ M;rcases e:e5 j k (B+2) a.am^Ċ b 1 with D|h;{calc ev.bA (R λh n F=>by ext Æ e F) N};{nofun;let#[h,n]:=h;rw[e]at G;let aL:=(k4 j k).binary _ _ _ _ _ e;calc aiI v D Q M D (R (Å T T F)) N;{let v:ξ a c+1+h.parts<=60:=v;let T:(({(a.aP^cZ c)with parts:=(a.aP^cZ c).parts+1}:cb).aP^cZ h)=a.aP^cZ^.app I [c,h]:=by{rw[w7];unfold cb.aP cZ;simp only[cb.mk.injEq,fN,vM,true_and,and_true];rw[jn,jn,Hi,nr 1 c.parts,jn,Hi]};rw[T]at M;let T:=N.and D;ext af' N;{let D:B=2:=by{let:=ab.int.inj^zI N;calc bX (aZ^cf this)^au^cf this};let G:gT j (k+1) (B+1) a.am c b=.ok (.app I [c,h],n):=by{rwa[G,zG^bX (aF (aZ D) 1)^aF (au D) 1]};rw[G]at H;rw[H]at u;calc u.some (p:=Q) r ?_ M T;let aM:(cZ^wH I [c,h]).parts=1+c.parts+h.parts:=zL cy.parts^w7 I c h;rw[aM];lia};{let D:¬B+1=3:=λh=>N^by{let:B=2:=bX (ö^aZ h)^ö^au h;rwa[this,zJ r]};let G:gT j (k+1) (B+1) a.am c b=gT j k (B+1) a.am (.app I [c,h]) n:=by{rwa[G,zF D]};calc#[_,Q,n,k,r,acT aL X,M,ac0 T,H.trans G]}};{ext Æ e F;let v:60<ξ a c+1+h.parts:=v;lia}}};{let J:60<ξ a c+1:=J;calc R (λh n _=>by lia) Y Z z aK^ϥ W O}};{let e:ly (B+1) b=ah:=by{rcases h:ly (B+1) b with _|I;{rfl};{calc zH (V.mpr^by rw[h];rfl) l}};rw[H,MK e]at u;calc u.some (p:=y) r p.aM.2 p U}};{rw[C]at l;rcases E:gT j o (B+1) a.am c b with _|x;{ext Æ E l};{nofun;let#[x,S]:=x;rw[E]at l;let l:aa (cZ x,S)=õ L P:=l;let b:L.parts=x.parts:=by{rw[<-(ll^bW l).1];rfl};let:=((k4 j o).more _ _ _ _ _ _ E).2;let v:60<ξ a c:=v;left;calc ai v^anu^ϙ^au b}}}
abbrev cy.add(a b:cy):cy:=#[a.occs++b.occs,a.own||b.own,ξ a b]
abbrev kT(c d e:Nat):Τ->cy->Ù->ad5|[],b,a=>õ b a|f::g,b,a=>if lz f a then(match ee c d (e+1)^Ċ a 1 with|ş a f=>kT c d e g (b.add^cZ a) f|ο=>ah)else ah
def xl{a g h:Nat}:∀{f:Τ}{b:cy}{d:Ù}{c:cy}{e:Ù},kT a g h f b d=õ c e->b.parts<=c.parts|[],b,d,c,e,a=>by{ext a;calc a5 _}|g::f,b,d,c,e,a=>by rw[kT]at a;split at a;{split at a;{let:=xl a;calc ds ġ this};{ext a}};{ext a}
def J3(d:nX)(a b c:gS):cZ^.app d [a,b,c]=(((cy.mk [] ay 1).add^cZ a).add^cZ b).add^cZ c:=by unfold cZ cy.add;simp only[nV,nZ,nW,n0,mv,my,fd,qF,ku,qx,qI,jn,fN,vM]
def LC(b:lz pr Y=af)(h:¬30<=W1):d6^ee g (B+1) W1 Y=kT g B W1 [pr,tC,tB] akl Y:=by rw[ee,zG b,arD h,kT,zG b];rcases i:arE^ahf with a|a;{rfl};{let#[j,d]:=a;ext ahn;rw[kT];unfold Bi;by_cases c:lz tC d=af;{ext aho c;rcases l:arE^Ċ d 1 with a|a;{rfl};{let#[m,e]:=a;dsimp only;rw[kT];by_cases k:lz tB e=af;{ext aho k;rcases n:arE^Ċ e 1 with a|a;{rfl};{let#[o,f]:=a;show aa (cZ _,f)=aa (_,f);rw[J3]}};{ext Š k;rfl}}};{ext Š c;rfl}}
@[reducible]abbrev t0:Τ:=[pr,tC,tB]
def LB(a:([ab.str "if",ab.str "then",ab.str "else"]:Á)[g]?=adG):∃b:Ã,W4=.str #[b.toArray]/\t0.drop g=b::t0.drop (g+1)/\ii b=af:=by match g,a with|0,a=>{calc#[pr,ŝ a,r,by decide]}|1,a=>{calc#[tC,ŝ a,r,by decide]}|2,a=>{calc#[tB,ŝ a,r,by decide]}|g+3,a=>ext a
def CA(a:cb)(b c:cy):(a.aP b).aP c=a.aP^b.add c:=by unfold cb.aP cy.add;simp only[fN,vM,jn]
def NJ(j:6<=B)(b:Ö "read_if" 64 ["cursor","expression"])(e:ako)(H:auJ):akp (B+1) "read_if"^C1 d f s w g:=b.aw λa a a=>by calc ý a ["cursor","expression","word"] J a I a a R h D u;let#[a,L,k,b,v,l,o,p,x,y,c,C,N,z,n]:=D;subst y o p x;calc arv o h j M O 1 (W1:=5);ext aex l j;let F:lz pr k=af:=(uo c.aF^by decide).mpr z;ext acV G p c;left;ext aiB;{calc akq (akr e o sz);calc#[acX a G p,b,r,c.au,Í j,ò j x y E z A];{let:b.am+1<=30:=j;lia};{calc n.none ?_ x y E z^eJ A;rw[ee,zG F,zG^show lx<=b.am by show 30<=_;calc au C];rfl}};{calc aur u (akr e o^al3 e o^aq (age (sx^fm^ak dL^arA) 2 J^arF e M 2^aC^arw H h)^aC^auK e O);ext auL e b C;rw[LC F e]at n;nofun;obtain⟨F,M⟩:∃F,F=kT v l b.am t0 akl k:=Ŧ;rw[<-M]at n;left;calc#[acX a G p,b,r,c.au,Ŷ j h o e x y z];{let h:=c.bw o e c.aM;let S:=eJ e;ext aiH e o h;calc#[acX a e o,_,r,h.au,Ŷ j E e A x y z];{ext art j b o h e A c e S;calc#[by{show 3<=a9;ext ah8},λh u=>#[h,r,#[_,bw.ad as],?_]];let c:=ac1 [ô "if",ô "then",ô "else"] u;let O:aJ a.a8 I _:=ahk e c;let e:=É o c;let P:h∉a.a8:=e.aT h _ as;let Q:({(akj b:cb)with parts:=Β b}:cb)=(al4 b) akl:=by{unfold cb.aP;simp only[fd,ku]};calc let T:cW:=(λJ G C=>h4 λH o c u=>g8 (G=[aoo a,H]) (cF a C u c^(al4 b) o) (aJ a.a8 _ C) (aJ a.a8 I C) (afk c+8<=l/\F=kT v l b.am (t0.drop J) o c));vd (O:=[ô "if",ô "then",ô "else"]) T #[_,akl,k,L,r,Q▸e,λe e e _=>e,O,ö N,M] (λJ G C _ #[H,o,c,u,_,_,I,_]=>bw.ad^I h _ as P) ?_ ?_;{ext Ϧ J N G C p D;let#[H,o,Ä c u,k,I,J,V,h]:=D;let#[Q,rfl,L,T]:=LB p;ext Ο p O k;rw[L,kT]at h;left;right;calc#[Ł a p O,u,bk c,#[Q.toArray],Ľ k,Ŷ O L U p x y z];{let P:lz Q c=af:=(uo k.aF T).mpr O;let Q:c≠[]:=λe=>by{ext Æ e P};let W:aoe c:=e7 c Q;rw[zG P]at h;let P:=k.next Q U p;let Q:=ad6 J p;let W:=ad6 I p;ext azl a u c v l P b L R R e h n Q;{ext Ϗ N X e;rw[R]at h;let U:=(k4 v l).expr _ _ _ _ R;calc aiI l v Y R U (n.bC (Å v Z e)) Q;{rw[CA]at R;calc#[_,_,X,Y,r,R,W.and U,Q.and U,by{lia},h]};{rw[h]at e;let:=xl e;let this:ξ o N<=v.parts:=this;let l:60<ξ b o+N.parts:=l;lia}}};{rw[zF λe=>O^(uo k.aF T).mp e]at h;calc n.none h x y L z^ad6 J p}};{ext Č G C D;let#[H,o,Ä c u,k,I,J,V,h]:=D;let h:F=õ o c:=h;ext auN k a b L p P;calc n.some (p:=u) h k.aM.2 P^ϥ J p}};{let j:60<Β b:=j;calc n.bC (Å v c e) x y E z^ϥ S A;rw[M]at e;let:=xl e;let this:1<=v.parts:=this;lia}};{let:30<b.am+1:=j;lia}}
abbrev gs(a:List gS):cy:=#[nZ a,n0 a,my a]
def BO(a:gS)(b:List gS):gs (a::b)=(cZ a).add^gs b:=by unfold gs cZ cy.add;simp only[nZ,n0,my]
def Bs(a b c:cy):(a.add b).add c=a.add^b.add c:=by unfold cy.add;simp only[fN,vM,jn]
def JV(a:cy):a.add^gs []=a:=by unfold cy.add gs;simp only[nZ,n0,my,fd,ku,qI]
def Cp(a:cy):(gs []).add a=a:=by unfold cy.add gs;simp only[nZ,n0,my,qF,qx,kA]
abbrev mU(a b c d:Nat)(e:cy)(f:Nat)(g:Ù):al5:=match pp a b c d g with|ş a b=>aa (e.add^gs a,f+a.length,b)|ο=>ah
abbrev kV(e f g b:Nat)(c:cy)(d:Nat)(a:Ù):al5:=if bT b a then aa (c,d,Ċ a 1)else if bT 44 a then mU e f g b c d^Ċ a 1 else ah
abbrev hW(a b c d:Nat)(e:Ù):al5:=match nY a b c d e with|ş a b=>aa (gs a,a.length,b)|ο=>ah
def DH{a b c f g:Nat}{i:cy}{h:Ù}:mU a (b+1) c f i g h=(match ee a b c h with|ş j d=>kV a b c f (i.add^cZ j) (g+1) d|ο=>ah):=by unfold mU;rw[pp];rcases m:ee a b c h with e|e;{rfl};{let#[j,d]:=e;ext ahn;unfold kV;by_cases k:bT f d=af;{ext aho k;rw[BO,<-Bs,JV];rfl};{ext Š k;unfold mx;by_cases l:ŷ 44 d;{ext aho l;unfold mU;rcases n:pp a b c f^Ċ d 1 with e|e;{rfl};{let#[o,p]:=e;dsimp only;rw[BO,<-Bs,ce,jn g 1,nr 1]}};{ext Š l}}}
def KW{c d e a:Nat}{b:Ù}(g:¬bT a b=af):hW c (d+1) e a b=mU c d e a (gs []) 0 b:=by unfold hW mU;rw[nY,zF g];rcases h:pp c d e a b with f|f;{rfl};{let#[i,j]:=f;dsimp only;rw[kA,Cp]}
def KV(a:bT Xu Y=af):hW g (B+1) W1 Xu Y=kV g B W1 Xu (gs []) 0 Y:=by unfold hW kV;rw[nY,zG a,zG a];rfl
variable{X2:Nat}{aaw:cy}{aax:cy}
def OK(a:mU g B W1 Xu aaw X2 Y=aa (aax,X8,WH)):aaw.parts<=aax.parts:=by unfold mU at a;ext auV a
def CE(a:kV g B W1 Xu aaw X2 Y=aa (aax,X8,WH)):aaw.parts<=aax.parts:=by unfold kV at a;split at a;{ext a;calc a5 _};{split at a;{calc OK a};{ext a}}
abbrev kM(f:ap)(a:en)(b:ag)(c:cb)(d:al5)(h:aA)(g:aY):Prop:=match d with|aa (d,i,j)=>(ξ c d<=60->∀e k,cF a e k j^c.aP d->aJ a.a8 b e->h (Ê i) e)/\(60<ξ c d->ev f a b g)|ah=>ev f a b g
variable{aa3:Option (cy×Nat×List aU)}
def kM.bC(a:kM d XB h Yt aa3 Yj XA)(c:∀b e f,aa3=aa (b,e,f)->60<Yt.parts+b.parts):ev d XB h XA:=by unfold kM at a;rcases aa3 with _|b;{calc a};{calc a.2^c b.1 b.2.1 b.2.2 r}
def kM.none{a:ap}{b:en}{c:ag}{f:cb}{d:al5}{g:aA}{e:aY}(h:kM a b c f d g e)(i:d=ah):ev a b c e:=h.bC λa a a a=>by ext Æ i a
def kM.some{j:ap}{b:en}{e a:ag}{c:cb}{f:al5}{g:aA}{k:aY}{d:cy}{h:Nat}{i:Ù}{p:Nat}(l:kM j b e c f g k)(m:f=aa (d,h,i))(n:ξ c d<=60)(o:cF b a p i^c.aP d)(q:aJ b.a8 e a):g (Ê h) a:=by subst m;calc l.1 n a p o q
inductive xz(d:ap)(k l m:ac)(n:Nat)(o:Á)(f:ag)(p:aA)(q:aY):Prop|mk(a:en)(s:Nat)(g:aU)(e:Ù)(b:cb)(t h i:Nat)(j c:al)(_:a.ck=k)(_:a.C=l)(_:a.bO=m)(_:o=[.ref a.c,.ref a.x,û j,û c])(_:cF a f s (g::e) b)(_:b.am+n=30)(_:cz g=.mark j)(_:g1 [i]=c)(_:c≠"")(_:c≠",")(_:afk e+11<=h)(_:kM d a f b (if 30<=b.am then ah else hW t h (b.am+1) i e) p q)
def NF(h:6<=B)(c:Ö "read_arguments" 72 ["cursor","expression","opening","closing"])(b:ako)(L:auJ):č (B+1) "read_arguments" ["cursor","expression","opening","closing"]^xz d f s w g:=c.aw λa a a=>by calc ý a ["cursor","expression","opening","closing","count"] E a P v a aA j y O;let#[a,I,k,n,e,x,u,z,H,A,l,o,p,D,c,R,S,am,aD,av,aK,C]:=y;subst D l o p;calc arv T j h D U 2 (W1:=4);let ao:aW 1 _:=j.mono^anv h;ext aex u h;ext Ο Z ag c;left;ext aiB;{calc akq (arF b D 2^akr b T sz);calc#[Ł a Z ag,I,cz k,H,ahi c F G o M S];calc azc l a F I n e c G o J N Q V W X Y p C (zG^au R)};{calc let O:aV:=_;bl.mk (b:=O) (arF b D 2^akr b T^aiJ 4 E^aq (ot^bQ (aiC (agc b U) (ae 3)) (aq (arw L j)^aC^Ò 4 E a7) b6)^aq (h7 gm (bR c2 (agc b U) dL^bH _)^afl b D^aq (arw L j)^aC^aop (g:=4) E)^arF b D 3^Α (auK b ao) 4) ?_;symm;right;ext auL b e R;rw[zF b]at C;nofun;obtain⟨L,D⟩:∃L,L=hW x (u+1) (e.am+1) z n:=Ŧ;rw[<-D]at C;left;calc#[Ł a Z ag,I,cz k,H,ahi c F G o M S];let l:cF a F (I+1) n e:=afh c G o;let b:=fV o;ext aiH J N l;calc#[acX a J N,e,r,l.au,Ŷ Q X j p V W Y];{let J:=l.bw j p c.aM;let Z:=ϥ b p;ext Γ aO aP J;let R:∀{b:Ù},(∀k∈b,eo k)->(bT z b=af↔œ b=A):=λi=>gI am aD i;let aL:∀{b:Ù},(∀k∈b,eo k)->(ŷ 44 b↔œ b=","):=λi=>aiM i;let aY:(akj e:cb)=al4 e^gs []:=by{unfold cb.aP gs;simp only[nZ,n0,my,fd,ku,qI]};left;calc let N:hy:=(λG F=>lZ λ(k:cy) (h o:Nat) (b:Ù) (j:Nat)=>g8 (G=[aoo a,aa^û H,aa^û A,aa^Ê h]) (cF a F o b^(al4 e) k) (aJ a.a8 P F) (afk b+10<=j) (L=kV x j (e.am+1) z k h b));akt N;{ext Č G U y;let#[k,h,o,Ä b j,l,O,c,p]:=y;left;calc let N:cW:=(λE G F=>azm k h o b j G a H A (E=b.length) F e P L x z);#[N,#[_,k,h,o,b,j,r,r,l,O,c,p],?_];clear p c O l;clear k h o b j U;ext ϐ E G U y;let#[k,h,o,Ř b j,l,O,c,p]:=y;ext aex j h;ext Ο ao as l;left;calc#[Ł a ao as,o,bk b,acY l];unfold kV at p;calc Õ c;{let c:œ b=",":=afi c;let S:aiG b ",":=ahj c;let E:=(aL l.aF).mpr c;let T:¬bT z b=af:=λy=>av^((R l.aF).mp y).symm.trans c;rw[zF T,zG E,DH]at p;let am:b≠[]:=dt E;let a3:aoe b:=e7 b am;calc let N:hy:=(λG F=>azm k h o v j G a H A (ag7 v b) F e P L x z);#[N,λF U #[k,h,a4,v,ba,bf,bh,bj,bq,br,bu]=>#[_,bh,k,h,a4,v,ba,bf,r,bj,bq,br,bu],?_];calc#[Ł a ao as,o,bk b,",",ahi l ag av L M S];let M:=l.next am av L;let U:=ad6 O L;ext azl a o b x j M e ag aA N c p C U;{ext Ϗ F v c;rw[N]at p;let aM:=(k4 x j).expr _ _ _ _ N;calc aiI H aw am G P (C.bC (Ô az bv bw c)) U;{rw[CA]at G;calc#[Ç,k.add^cZ F,h+1,am,v,j,r,acT aM a3,G,U.and P,by{lia},p]};{rw[p]at c;let:=CE c;let this:ξ k F<=az.parts:=this;let H:60<ξ e k+F.parts:=H;lia}}};{let c:¬œ b=",":=aku y c;let T:¬ŷ 44 b:=λy=>c^(aL l.aF).mp y;calc#[Ł a ao as,o,bk b,A,Ľ l,Ŷ S ag av L V W Y];{let E:bT z b=af:=(R l.aF).mpr^by{rw[S];rfl};rw[zG E]at p;let M:=afj l E av L;let U:=ad6 O L;nofun;ext auN M a e aw P G;calc(C.some (p:=o+1) p M.aM.2 G^ϥ U P)};{let E:¬bT z b=af:=λy=>S^ho aD^(R l.aF).mp y;rw[zF E,zF T]at p;calc C.none p V W ag Y^ad6 O L}}};{calc#[Ł a aO aP,I+1,bk n,acY J];calc Õ c;{let c:¬œ n=A:=arG y c (auW n A);let T:¬bT z n=af:=λy=>c^(R J.aF).mp y;nofun;ext aex u h;rw[KW T,DH]at D;left;calc#[a,I+1,n,_,x,u,auM J e,bV (W1:=2) aK,?_];show ew d a X _ (d6^aks x u e n) _ aA;rcases N:aks x u e n with c|c;{rw[N]at D;calc ev.bA (C.none D) Z};{ext Ϗ F v c;rw[N]at D;let aM:=(k4 x u).expr _ _ _ _ N;calc aiI H aw am G P (C.bC (Ô az bv bw c)) Z;{let G:cF a aw am v^al4 e^cZ F:=G;rw[<-Cp^cZ F]at G;calc#[(gs []).add^cZ F,1,am,v,u,r,G,Z.and P,by{lia},D]};{rw[D]at c;let:=CE c;let this:0+F.parts<=az.parts:=this;let H:60<ξ e F:=H;calc ai H^anu^ai ϡ this}}};{let c:œ n=A:=by{calc arH c (auW n A)};let E:bT z n=af:=(R J.aF).mpr c;rw[KV E]at D;calc#[gs [],0,I+1,n,u,r,aY▸J,Z,ö aK,D]}}};{let:30<e.am+1:=Q;lia}}
@[reducible]abbrev j7(a:Ã):ajZ:=a.map λa=>jT (a:Nat)
def BX:∀(a b:Ã),gQ (j7 a)^j7 b=decide (a=b)|[],[]=>by{show gQ [] []=_;simp only[gQ,decide_true]}|[],c::b=>by{show gQ [] (_::_)=_;simp[gQ]}|d::a,[]=>by{show gQ (_::_) []=_;simp[gQ]}|d::a,c::b=>by show gQ (jT (d:Nat)::j7 a) (jT (c:Nat)::j7 b)=_;rw[gQ,BX a b,ma,e4,db,beq_iff_eq,decide_eq_true_iff,decide_eq_true_iff,GT,zY]
def Ce:∀a:Ã,lq^j7 a=af|[]=>by{show lq []=af;simp only[lq]}|b::a=>by show lq (jT (b:Nat)::j7 a)=af;simp only[lq,wa,Ce a,vK]
def BM:∀a:Ã,lr^j7 a=0|[]=>by{show lr []=0;simp only[lr]}|b::a=>by show lr (jT (b:Nat)::j7 a)=0;simp only[lr,qV,BM a,Hn]
def CI(a:Ã):mb^.tuple^j7 a=af:=by unfold mb;rw[wa,Ce,qV,BM];rfl
def BP{b:ap}{c:ag}:∀a:Ã,m5 b c (bO a)^j7 a|[]=>.nil|b::a=>.cons ψ^BP a
def BR(a:arr):eS d h ñ^.tuple^j7 D:=.tup (bw.ad a)^BP D
variable{Xz:List Nat}
def xe(a:arr)(b:h s=aa^.tup^bO Xz)(c:Yj (afR (D=Xz)) h):Gj d ñ ß h Yj:=#[_,_,BR a,BR b,CI D,CI Xz,by rwa[ma,BX,c]]
abbrev mJ:Ĕ:=[aiN "len" 1,aiN "at" 2,aiN "cat" 2,aiN "look" 3,aiN "drop" 2,aiN "has" 2,aiN "max" 2,aiN "min" 2]
abbrev og(a:Ã):adU:=(Bh a).map (·.2)
def Kx(a:mJ[g]?=aa (Zm,W4)):∃(b:al) (d:nX) (c:Nat),Zm=ÿ b/\b.cps.size<=1000/\bS mJ Zm=aa^Ê c/\tA[g]?=aa (b.cps.toList,d,c):=by match g,a with|0,a=>{calc#["len",.len,1,aiO a]}|1,a=>{calc#["at",.at_,2,aiO a]}|2,a=>{calc#["cat",.cat,2,aiO a]}|3,a=>{calc#["look",.look,3,aiO a]}|4,a=>{calc#["drop",.drop,2,aiO a]}|5,a=>{calc#["has",.has,2,aiO a]}|6,a=>{calc#["max",.max,2,aiO a]}|7,a=>{calc#["min",.min,2,aiO a]}|g+8,a=>ext a
def KD(a:tA[g]?=aa (Xz,Wg,B)):((tA.drop g).find? λB=>B.1==D).map (·.2.2)=if Xz=D then aa B else((tA.drop (g+1)).find? λB=>B.1==D).map (·.2.2):=by let#[b,d]:=ľ a;rw[sL b,d,jk];by_cases c:Xz=D;{rw[zG c,c];simp};{rw[zF c];let:(Xz==D)=ay:=by{exists c};simp only[this]}
inductive CR(d:ap)(i:ac)(j:Á)(b:ag)(k:aA)(l:aY):Prop|mk(e c:_)(_:j=æ e)(_:b e=Ě c)(_:(∀f a,og c=aa f->aL b a->k (Ê f) a))(_:(og c=ah->aoq g h a i b l))
def KF(a:Ö "count_for" 70 ["name"])(c:bA m "CALLS"^ß)(u:j2 q i d s mJ)(h:aor)(j:arb):č 4 "count_for" ["name"]^CR d f:=a.aw λa a a=>by calc ý a ["name","word"] k a o a a a b g a;let#[a,e,l,v,w,x]:=g;subst l;let l:aW 3 _:=b;calc ϣ (aq (age (Nq^bG c) 1 k^auX b (bg j (aiD b) bd^ŵ 1) 0 (aC^bt^Cy (bG c)^ae 1))^aC^fG h a1 l);calc#[s,mJ,r,u,?_];calc let b:cW:=(λh k l=>∃n,gj (k=[È a,n]) (aL o l) (og e=((tA.drop h).find? λc=>c.1==e).map (·.2.2)));Li b #[_,r,Ķ b,by unfold og Bh;rw[v2];rfl] ?_ ?_;{intro h e n k l j g;symm;nofun;let#[e,rfl,h,e]:=g;let#[o,Ä p c,p,y,z]:=Kx j;left;right;calc#[o,r,p,ê p j A j B];rw[KD z]at e;calc(xe (D:=o.cps.toList) A (Ÿ j a h v) aiP);calc Õ b;{rw[zG^zI b]at e;calc#[s,mJ,ÿ o,î u,y,w c p e λa c b=>j a c^h a c b]};{rw[zF (adr o b)]at e;calc#[_,r,λa c b=>j a c^h a c b,e]}};{ext akv k l g n h e;left;intro g k p l j;calc x e g k p l λa c b=>j a c^h a c b}
abbrev on(d e b:Nat)(c:Ã)(a:Ù):ad5:=if bT 40 a then(match og c with|ah=>ah|aa f=>(match(if 30<=b then ah else hW d e (b+1) 41^Ċ a 1)with|aa (b,d,e)=>if d=f then aa (arI b,e)else ah|ah=>ah))else aa (#[[(0,c)],ay,1],a)
inductive Da(d:ap)(h i j:ac)(k:Nat)(l:Á)(f:ag)(m:aA)(n:aY):Prop|mk(a:en)(o:Nat)(c:aU)(e:Ù)(b:cb)(p g:Nat)(_:a.ck=h)(_:a.C=i)(_:a.bO=j)(_:l=aoj a)(_:cF a f o (c::e) b)(_:b.am+k=30)(_:akk c)(_:afk e<=g)(_:agb a f b (on p g b.am c.text e) m n)
def NK{A R S:ac}{au B:Nat}(T:6<=B)(bf:Ö "read_name" 69 ["cursor","expression"])(x:aok A R S)(bh:ϑ A "Unreadable" (-2))(bj:azn B^xz d A R S au)(bq:č 4 "count_for" ["name"]^CR d A):akp (B+1) "read_name"^Da d A R S au:=bf.aw λcM cS br=>by calc ý br ["cursor","expression","name"] bt av cZ c0 c1 bu L bv c2;let#[e,C,f,g,a,p,s,bw,bx,bA,U,u,bI,bL,c3,v]:=bv;subst U bw bx bA;let V:aW 4 _:=L.mono^η T;let bM:aW 3 _:=L.mono^aX (W1:=3) T;let h:aW 2 _:=L.mono^aX (W1:=4) T;calc aos (aq (Ò 2 bt^aiK x V (bG x.small))^al3 x V^aC^bQ (bR jd (agc x h) dL^bH _) (aC^akm (ă 1) (fm^ad7^Ø 2))^aC^acz (aiC (ģ bj L^ë 0^ë 1^arA) (ģ bq V^Ø 2)) bh bM);ext Γ bP bS u;let az:cz f=.small f.text:=(mR u.aF).mpr #[f,g,r,bL,r];left;calc#[Ł e bP bS,C,cz f,"small",Ľ u,λ_ bV c aA bX aJ=>?_,λM=>ars az M];let D:cF e bV (C+1) g a:=afh u bX aJ;let aK:=fV aJ;rw[az]at aA;nofun;let#[l,rfl,M]:=aA;ext acV bY bZ D;let b0:∀y E,on p s a.am f.text g=õ y E->1<=y.parts:=λy E b=>by{unfold on at b;split at b;{ext Ĳ b;{split at b;{ext auV b};{ext b}}};{ext b;calc a5 _}};left;calc#[acX e bY bZ,a,r,D.au,Ŷ w F b8 G H ca I];{ext art w a k D b8 G u N aK;let W:F l=aot f:=eJ G l _ M^D.aT l _ M;ext Γ cc cf k;let aL:ŷ 40 g↔œ g="(":=aiM D.aF;left;calc#[Ł e cc cf,C+1,_,acY k];calc Õ b;{let b:¬œ g="(":=arG c b (akn g "(");let j:on p s a.am f.text g=aa (#[[(0,f.text)],ay,1],g):=aiQ c b aL;nofun;ext acV cg ck k;let#[X,O,aM]:=k.au.lst;left;calc#[e.x,e.bO,cg,Ŝ ck,x.cF.aa,x.cF.dn,r,Ŕ O,by{ext al2},Â aO aP];let cl:e.aW≠aO:=ba O aP;calc ay9 X aM k F aO (0:Nat) l e cl O;let cs:ay' a:=Hs u.aM.1;nofun;let#[ct,cx]:=k.push (n:=0) O aM W aP cs;left;calc v.some (p:=C+1) j w ?_^N.and cx;let Y:aza a ((0,f.text)) ((0,f.text)):=by{unfold cb.aP;rw[ku]};rwa[Y,ct]};{let b:œ g="(":=by{calc arH b (akn g "(")};calc aou aU aL b Z g "(";nofun;obtain⟨n,h,rfl⟩:∃n h,g=n::h:=by{ext Ā g n h;{calc zH r^dt aU};{calc#[n,h,r]}};let Z:cz n=.mark "(":=Z;left;let j:on p s a.am f.text (n::h)=(match og f.text with|ah=>ah|aa B=>(match(aov a p s 41 h)with|aa (b,z,av)=>if z=B then aa (arI b,av)else ah|ah=>ah)):=zG aU;calc#[e,C+1,n,h,aga a,p,s,41,"(",")",acZ,k,bI,Z,auY,by{let:agf n h:=r;lia},?_];show kM d e F (aga a) (aov a p s 41 h) _ bu;generalize c4:(aov a p s 41 h)=U at j⊢;ext adF U cy;{calc ev.bA (v.none ?_) N;rw[j];split<;>rfl};{nofun;let#[o,z,c7]:=cy;calc aiI J cB cC cD aV (v.bC (Å y E c)) N;{ext aez cG cB l f aV W k;let aY:=N.and aV;calc#[l,f.text,r,cG,Ô P aZ ag Q,ò ag H as aZ I Q];{calc ϟ;ext aiL ag j;let cH:=É cD Q;let a4:=ahk aY Q;calc Õ c;{let c:¬z=P:=arG cI c (ù z=ù P);rw[zF c]at j;intro H as cJ I cK;calc v.none j H as cJ I^ahk a4 cK};{let c:z=P:=by{let c:¬aow (ù z=ù P):=c;rw[nh,decide_eq_false_iff_not,nj]at c;calc zY.mp^ab.int.inj c};rw[zG c]at j;let J:Β a+o.parts<=60:=J;calc v.some (p:=cC) j (by show arJ a o<=60;lia) ?_ a4;ext azo Y a o cH}};{rw[ag]at j;calc v.none j H as aZ I^ahk aY Q}};{let J:60<Β a+o.parts:=J;rw[j]at c;ext Ĳ c;{ext akc c;{ext c;show 60<arJ a o;lia};{ext c}}}}}};{calc v.bC (Å y E b) H ca F I^ϥ aK G;let:=b0 y E b;let w:60<Β a:=w;lia}
def J7(a:XH.kind=1):auZ=jw (eX XH.text) Y:=by rw[hO,zG a];unfold jw;by_cases c:bT 46 Y=af;{ext acQ c;rcases ahf with _|⟨a,b⟩;{rfl};{dsimp only;by_cases k:akk a;{ext acQ k;calc arK (cZ _,b)};{ext Š k;rfl}}};{ext Š c;calc arK (cZ _,Y)}
def BD(b:nX)(a:List gS):cZ^.app b a=#[(gs a).occs,(gs a).own,1+(gs a).parts]:=by unfold cZ gs;simp only[nV,nW,mv]
def J8(a:¬XH.kind=1)(b:arL):auZ=on g B W1 XH.text Y:=by rw[hO,zF a,zG b];unfold on og;by_cases c:bT 40 Y=af;{ext acQ c;rcases Bh XH.text with _|a;{rfl};{let#[b,b]:=a;dsimp only[Am];ext au0 k;{rw[arD k,zF k];unfold hW;rcases nY g B (W1+1) 41^ahf with a|a;{rfl};{let#[d,e]:=a;ext ahn;by_cases l:ϲ d b;{ext acQ l;show aa (cZ _,e)=_;rw[BD]};{ext Š l;rfl}}}}};{ext Š c;calc arK (cZ _,Y)}
abbrev ry(b c a:Nat)(d:Ù):ad5:=match(if 30<=a then ah else hW b c (a+1) 93 d)with|aa (a,_,b)=>aa (arI a,b)|ah=>ah
def tU(a:¬XH.kind=1)(b:¬arL):auZ=if al6 35 then aa (#[[],af,1],Y)else if al6 40 then pF g B W1 Y else if al6 91 then ry g B W1 Y else ah:=by rw[hO,zF a,zF b];by_cases k:al6 35=af;{ext acQ k;calc arK (cZ _,Y)};{ext Š k;by_cases l:al6 40=af;{ext acQ l;unfold pF;ext au0 c;{rw[arD c,zF c];rcases arE Y with a|a;{rfl};{let#[b,b]:=a;ext ahn;unfold mx;by_cases n:ŷ 41 b;{ext acQ n;rfl};{ext Š n;rfl}}}};{ext Š l;by_cases u:al6 91=af;{ext acQ u;unfold ry;ext au0 c;{rw[arD c,zF c];unfold hW;rcases nY g B (W1+1) 93 Y with a|a;{rfl};{let#[d,b]:=a;show aa (cZ _,b)=aa _;rw[BD]}}};{ext Š u;rfl}}}
def Cc(a:arM="number"):∃b,bk Y=.num b:=by cases c:bk Y with|num b=>{calc#[b,r]}|mark b=>{rw[c]at a;calc zH a^show¬arN="number" by ext Û}|great b=>{rw[c]at a;calc zH a^show¬arm="number" by ext Û}|small b=>{rw[c]at a;calc zH a^show¬arn="number" by ext Û}|fin=>rw[c]at a;calc zH a^show¬("end":al)="number" by ext Û
def Cd(a:arM="small"):∃b,bk Y=.small b:=by cases c:bk Y with|small b=>{calc#[b,r]}|mark b=>{rw[c]at a;calc zH a^ay6}|great b=>{rw[c]at a;calc zH a^ay7}|num b=>{rw[c]at a;calc zH a^auI}|fin=>rw[c]at a;calc zH a^ay8
def NG{C D E:ac}{l H aK aL:Nat}{aM:ac}{aO:b'}(I:6<=H)(bf:aK<=H)(bh:aL<=H)(bj:aox "read_atom" 67 aM aO)(n:aok C D E)(bo:ay5 C D E)(bq:č H "read_name" ["cursor","expression"]^Da d C D E l)(br:č aK "read_bracket" ["cursor","expression"]^CP d C D E l)(bt:azn aL^xz d C D E l):ϊ ε (H+1) aM aO ["cursor","expression"]^rD d C D E l:=by calc aom bj ["cursor","expression"] cf bu cn bv aP y bw b p a c A s ag g ai ct h;let bM:aW 6 _:=y.mono I;calc arv aV y I bO aY 1 (W1:=5);let k:aW 2 _:=y.mono^aX (W1:=4) I;left;calc bl.mk (aC^ad3 (al7 n 0 aY) (bG n.dr) (aC^bm^ģ bo bM^ü 0 1)^aC^ad3 (al7 n 0 aY) (bG n.small) (aC^bm^ģ bq y^ü 0 1)^aC^aol (agc n k) (aC^bm^bg br (y.mono bf) ļ^ü 0 1)^aC^aol (agc n k) (al3 n aV^aC^bm^bg bt (y.mono bh) ļ^ë 0^ë 1^arA)^afl n bO^al3 n aV^aC^ac2 1 jH r) ?_;symm;right;ext Γ J L g;ext aex s aZ;let h:agb b bu c (d6^hO A (s+1) c.am a) bv aP:=h;left;calc#[Ł b J L,p,_,acY g];calc Õ am;{nofun;let#[bP,ao]:=Cc^afi am;let#[Ä e a,M,_]:=(pJ g.aF).mp ao;rw[J7 M]at h;left;calc#[b,p,e,a,c,acZ,g,M,h]};{let bS:¬aey a="number":=aku f am;calc#[Ł b J L,p,_,acY g];let N:∀{e:aU}{l:Ù},a=e::l->¬e.kind=1:=λ{e l} as f=>bS^by{rw[(pJ g.aF).mpr #[e,l,as,f,r]];rfl};calc Õ au;{nofun;let#[bP,ao]:=Cd^afi au;let#[Ä e a,M,_]:=(mR g.aF).mp ao;rw[J8 (N r) M]at h;left;calc#[b,p,e,a,c,A,s,acZ,g,ai,M,by{let:agf e a:=r;lia},h]};{let bV:¬aey a="small":=aku f au;let V:∀{e:aU}{l:Ù},a=e::l->¬akk e:=λ{e l} as f=>bV^by{rw[(mR g.aF).mpr #[e,l,as,f,r]];rfl};let av:ŷ 40 a↔œ a="(":=aiM g.aF;let a3:ŷ 91 a↔œ a="[":=aiM g.aF;let W:ŷ 35 a↔œ a="#":=aiM g.aF;calc#[Ł b J L,p,_,acY g];calc Õ u;{let u:œ a="(":=afi u;calc aou v av u B a "(";ext au1 e a o k v;let O:¬aiR e 35:=λf=>zH ((W.mp f).symm.trans u)^show¬("#":al)="(" by{ext Û};rw[tU (N r)^V r,zF O,arO e 40 v]at h;left;calc#[b,p,e,a,c,A,s,acZ,g,ai,B,by{let:agf e a:=r;lia},h]};{let u:¬œ a="(":=aku f u;calc#[Ł b J L,p,_,acY g];calc Õ w;{let w:œ a="[":=afi w;calc aou v a3 w B a "[";ext au1 e a o k v;let O:¬aiR e 35:=λf=>zH ((W.mp f).symm.trans w)^show¬("#":al)="[" by{ext Û};let aw:¬aiR e 40:=λf=>u^av.mp f;rw[tU (N r)^V r,zF O,zF aw,arO e 91 v]at h;ext acV az aA g;let bX:∀P X,ry A s c.am a=õ P X->1<=P.parts:=λP X f=>by{unfold ry at f;ext auV f};left;calc#[acX b az aA,c,r,g.au,Ŷ j F aD x Q R S];{let j:Β c<=60:=j;let G:=g.bw aD x #[nu g.aM.1,j];let T:=eJ x;calc#[b,p,e,a,aga c,A,s,93,"[","]",acZ,G,ai,B,auY,by{let:agf e a:=r;lia},?_];show kM d b F (aga c) (aov c A s 93 a) _ aP;unfold ry at h;generalize cx:(aov c A s 93 a)=ag at h⊢;ext adF ag bZ;{calc ev.bA h T};{nofun;let#[z,aZ,cy]:=bZ;calc aiI U b0 b3 b6 Y (h.2^by let U:60<Β c+z.parts:=U;show 60<arJ c z;lia) T;let U:Β c+z.parts<=60:=U;calc h.1 (by show arJ c z<=60;lia) b0 b3 ?_^T.and Y;ext azo aF c z b6}};{calc h.bC (Å P X f) Q R F S^eJ x;let:=bX P X f;let j:60<Β c:=j;lia}};{let w:¬œ a="[":=aku f w;calc#[Ł b J L,p,bk a,"#",Ľ g,Ŷ B a4 b8 Z Q R S];{let v:ŷ 35 a:=W.mpr^by{rw[B];rfl};let aJ:=afj g v b8 Z;let a7:=fV Z;ext au1 e a o k v;rw[tU (N r)^V r,arO e 35 v]at h;ext acV az aA aJ;left;calc#[acX b az aA,c,r,aJ.au,Ŷ j F aD x Q R S];{ext art j c G aJ aD x g T a7;ext aiH ba ca G;calc#[b.x,b.bO,ba,_,r,ca,n.cF.aa,n.cF.dQ,aki];rw[KT];nofun;let#[cc,Y]:=G.au.set (dx:=ba) (st':={c with parts:=Β c,own:=af}) r;left;calc h.1 j _ (p+1) ?_^ϥ T Y;let aF:c.aP #[[],af,1]={c with parts:=Β c,own:=af}:=by{unfold cb.aP;simp only[fd,oW]};rwa[aF,G.bw cc Y G.aM]};{let j:60<Β c:=j;calc h.2 j Q R F S^ϥ a7 x}};{calc h.none ?_ Q R a4 S^fV Z;ext alj a e;{rw[hO];rfl};{let O:¬aiR e 35:=λf=>B^ahj^W.mp f;let aw:¬aiR e 40:=λf=>u^av.mp f;let cd:¬aiR e 91:=λf=>w^a3.mp f;rw[tU (N r)^V r,zF O,zF aw,zF cd]}}}}}}
def bI.more(a:ari XC)(b:g<=B):ϊ XU B f M Xh XC:=#[a.len,λc e h j k l n o p s u v w x=>a.cy c e h j k l n o p (s.mono b) u v w x]
def bI.any{j:Type}{n:j->dK}{o:j->Prop}(p:∀a,o a->ari^n a):ari^λb c e h=>∃a,o a/\n a b c e h:=#[λb c e h #[a,k,l]=>(p a k).len b c e h l,λj n o c s u b e h v w x y #[a,k,l]=>(p a k).cy j n o c s u b e h v w x y l]
def aS.more{a:fv}{b c:Nat}{e:al}{f:Ĩ}{g:dK}(h:aod a b e f g)(j:b<=c):aod a c e f g:=by let#[a,b,c,e]:=h;calc#[a,b,c.more j,e]
structure By(d:ap)(m:Ą):Prop where(gy:Ö "read_expression" 62 ["cursor"])(whole:Ö "read_whole" 63 ["cursor","expression"])(eN:Ö "read_if" 64 ["cursor","expression"])(step:Ö "read_step" 65 ["cursor","expression","step"])(signed:Ö "read_signed" 66 ["cursor","expression"])(atom:Ö "read_atom" 67 ["cursor","expression"])(dr:Ö "read_number" 68 ["cursor","expression"])(name:Ö "read_name" 69 ["cursor","expression"])(count:Ö "count_for" 70 ["name"])(brk:Ö "read_bracket" 71 ["cursor","expression"])(args:Ö "read_arguments" 72 ["cursor","expression","opening","closing"])
variable{E:ac}
def NV(b:By d m)(c:ako)(h:c9 m)(j:rp d m A W')(k:Ė "COMPARISON" 2)(y:bA m "CALLS"^.ref E)(z:j2 q i d E mJ)(n:aor)(B:arb)(a:Nat):au2 (11*a+17) a:=by let#[o,p,u,C,D]:=b.atom;let F:∀a,au2 (11*a+17) a/\ϊ ε (11*a+9) o p ["cursor","expression"]^rD d f s w a:=λa=>by{induction a using Hq with|ind a v=>let l:∀e,a=e+1->au2 (11*a+6) e:=λe g=>by{subst g;calc(v e^jP _).1};let g:6<=11*a+6:=ϡ;let x:=NF g b.args c l;let G:=NH g b.brk c l;let H:=NJ g b.eN c l;let l:=KF b.count y z n B;let y:=NM b.dr c;let z:=NK (B:=11*a+7) (cX g 1) b.name c n x l;let l:=NG (H:=11*a+8) (cX g 2) (lj _) (lj _) u c y z G x;let n:akp (11*a+9) "read_atom"^λx y z B=>∃e,e<=a/\rD d f s w e x y z B:=by{calc#[o,p,bI.any (o:=λe=>e<=a) (n:=λe=>rD d f s w e) (Â e o),C,D,u.bK];rcases Nat.lt_or_eq_of_le o with o|rfl;{calc(v e o).2.more^by lia};{calc l}};let e:=NP (B:=11*a+9) (cX (bV (W1:=2) g) 5) b.signed c n;let n:=NQ b.step h j e;let e:=aoy (B:=4) (W1:=11*a+11) g 7 b h j c k n;let n:=aoy (B:=3) (W1:=11*a+12) g 8 b h j c k e;let e:=aoy (B:=2) (W1:=11*a+13) g 9 b h j c k n;let n:=aoy (B:=1) (W1:=11*a+14) g 10 b h j c k e;let e:=aoy (B:=0) (W1:=11*a+15) g 11 b h j c k n;calc#[NU (B:=11*a+16) (cX (bV (W1:=4) g) 14) b.whole c (H.more^cQ _ 9) e,l]};calc(F a).1
abbrev eG(g:aQ)(h:aN)(a:ap)(b:Ą)(i:aG)(j:fv)(k:Nat)(l:al)(c:ac)(d:Ĩ)(m:dK):Prop:=∃e f,si a c e/\bI g h a b i j k e f d m/\gx a f d []/\b l=È c
def j8(a:azp)(c:alu)(d:adS)(e:afU)(f:ϱ:=by rfl)(h:χ:=by decide)(i:ae2:=by rfl)(j:agS:=by rfl):als^vA s XC [] XA X0:=by let#[k,k,k,l,m,n]:=a;calc S9 k l c f n m .nil d e h i j
def Cz(a:azp)(c:alu)(d:adS)(e:ϱ:=by rfl)(f:χ:=by decide):bj b (aqe Z)^vA s XC [] XA sC:=by let#[h,h,h,i,j,k]:=a;calc S' h i c e k j .nil d f
abbrev kY:cb:=#[[],ay,0,0]
inductive C4(s:ac)(d:Á)(a:ag)(e:aA)(f:aY):Prop|mk(b c:_)(_:d=æ b)(_:a b=aa^ř c [])(_:∀l,a l=ah->e .ar^am (am a l^Ő) b^ř c^fi l kY)
def LK(b:ő "__init__" "Expression.__init__" 61 0)(a:mF d s):alZ 1^C4 s:=by calc ó b ["self"] b b b b b g;let#[b,c,h,e,j]:=g;calc Ş h (aeA (dB an)^aq (ac2 0 jH r)^aq (ac2 0 a7 r)^aC^ac2 0 a7 r);calc#[by{show 0<=a9;calc bF _},Â h g];calc#[b,s,c,_,r,by{rwa[Ï e g,e]},a.aa,a.dn,akw];calc#[b,s,c,ĭ,a.aa,a.dQ,akx];calc#[b,s,c,ĭ,a.aa,a.ce,aiF];calc#[b,s,c,ĭ,a.aa,a.dm,by{show 3<1000;decide},?_];rwa[gn,gn,gn,j h g]
abbrev Me(d:ap)(k s l:ac)(b:ag)(m:aA)(n:aY)(e o:ac)(p:Á)(g:acx):Except u (gS×Ù)->Prop|ş c h=>∀a f i j,hQ l a f i (au3 c)->fE s a e o p g j->hT g j h->(∀g∈h,eo g)->c.occs.length<=60->á e b a->b f=ah->b i=ah->ĕ m f a|ο=>af9 c f a k e b n
inductive CX(d:ap)(h s i:ac)(j:Á)(e:ag)(k:aA)(m:aY):Prop|mk(a l:ac)(f:Á)(b:acx)(g:Nat)(c:Ù)(n:Nat)(_:j=æ a)(_:fE s e a l f b g)(_:hT b g c)(_:(∀o∈c,eo o))(_:Me d h s i e k m a l f b^rb n c)
def NI(a:Ö "read_expression" 62 ["cursor"])(b:aeB "Expression" w ["self"]^C4 w)(c:č 347 "read_whole" ["cursor","expression"]^mT d f s w 30):azq:=a.aw λa a a=>by calc ý a ["cursor","expression"] e a k H a I a h g;let#[l,o,p,u,z,j,A,v,E,J,L,g]:=h;calc Ş v (aq (aiE 1 e^Cz b (aiD a) bd)^Α (bm^ģ c a^ë 0^ŵ 1) 1);intro c a x F b;calc#[c,a,r,as,λe h=>ag4];let G:e≠c:=alT b h;let y:k e=ah:=by{rw[ao G]at h;by_cases b:e=a;{rwa[b,F]};{rw[ao b]at h;calc h}};let B:aL k^am (am (afT k a c^ł a []) e^Ő) c^ł a^fi e kY:=λC D b=>by{rwa[Ï b x,Ï b y,Ï b x,Ï b F,b]};generalize P:am (am (am (am k a (.own c)) c (ł a [])) e Ő) c (ł a (fi e kY))=n at B;let h:hQ w n c e kY:=by{rwa[<-P,#[#[a,as],[],by{rw[ao G,as]},.nil]]};let a:fE s n l o p u z:=E.aZ (acB B) (by simp) (by simp)^arz;let G:cF #[f,s,w,l,o,c,e,p,u] n z j kY:=#[a,h,J,L,ba E.lst y,a5 _,bF _];let E:∀{h},aJ (en.a8 #[f,s,w,l,o,c,e,p,u]) n h->á l k h:=λk C D b F=>k C D (B C D b) λa=>by{unfold en.a8 at a;simp only[bK,nq,or_false]at a F;rcases a with a|a|a;{calc F a};{ext ā a x b};{ext ā a y b}};calc#[#[f,s,w,l,o,c,e,p,u],z,j,kY,A,ra j,acZ,G,r,by{unfold ra;calc cQ _ 15},?_];show ew d _ n kY (d6^ee A (ra j) 0 j) _ I;unfold rb at g;rcases v:ee A (ra j) 0 j with b|b;{rw[v]at g;calcλl o h p k=>g l o h p^E k};{ext Ϗ a H b;rw[v]at g;ext aoz g;left;calc#[ê b h u j k,Í b];{let b:0+a.parts<=60:=b;rw[zF^show¬Jr<a.parts by show¬60<a.parts;calc k'^ai ϡ b]at g;calc(g h c e u ?_ j.av j.rest j.aF ?_ (E k) x y);{let c:kY.aP^cZ a=au3 a:=by{unfold cb.aP kY cZ;simp only[qF,qx,kA]};rwa[<-c,j.au]};{let:=j.aM;let c:(kY.aP^cZ a).occs=a.occs:=qF _;rw[c]at this;calc ai this.1 this.2}};{let b:60<0+a.parts:=b;rw[zG^show Jr<a.parts by show 60<a.parts;lia]at g;calcλl o h p k=>g l o h p^E k}}
abbrev cB:Ã->Nat|[]=>0|a::b=>if iQ a then 1+(b.takeWhile jY).length else if e6 a then 1+au4 b else 1
variable{aa4:Nat->Bool}
def DI(a:aoA):((D.drop g).takeWhile aa4).length=if aa4 (D[g])then 1+((D.drop (g+1)).takeWhile aa4).length else 0:=by rw[sL a,List.takeWhile_cons];split;{rw[ce,nr]};{rfl}
def jy(a:aoA):(bO D)[g]?=aa^ab.int (D[g]:Nat):=by rw[b9,bi a];rfl
inductive Do(e:Á)(c:ag)(f:aA)(g:aY):Prop|mk(d b a:_)(_:e=[À d,Ê a])(_:c d=Ě b)(_:ś a b)(_:f (.int ((a+acC b a:Nat):Int)) c)
def KY(f:Ö "end_of_run" 49 ["text","place"])(N:c9 m)(O:auv)(C:aut):azr:=f.aw λX Y S=>by calc ó S ["text","place","end"] D am z as E p;let#[f,a,c,h,T,F,U]:=p;calc š h G 1 E;left;calc bl.mk (aq (Ò 2 D^agd 1 a7)^aq (ot^bQ (al8 O E 1) (aC^h7 el (g7.cf^nc (arP 2 N)^nd^g7.cf^Tl (al8 O E 2)^Tn^al8 C G 2)^aC^aop (g:=2) D)^aC^bQ (al8 C G 1) (aC^h7 el (g7.cf^nc (arP 2 N)^nd^al8 C G 2)^aC^aop (g:=2) D) b6)^aiS 2) ?_;symm;right;calc#[Ç,λl j=>l=[Ń f c,adq ((c+acC a c:Nat):Int)]/\j=z,?_,?_];{ext Č l j p;let#[rfl,rfl]:=p;left;calc(U)};let s:bw d z f^bO a:=bw.ad T;let H:a.drop c=a[c]::a.drop (c+1):=sL F;ext arQ A a;calc aoB f s F a c;calc Õ B;{let x:acC a c=1+((a.drop (c+1)).takeWhile jY).length:=by{rw[H,cB,zG B]};calc let I:cW:=(λy l j=>∃b:Nat,l=[Ń f c,aa^Ê b]/\j=z/\y=a.length-b/\(c+acC a c=b+((a.drop b).takeWhile jY).length));#[I,#[_,c+1,r,r,r,by rw[x];lia],?_];ext ϐ y l j p;let#[b,ahp,rfl,g]:=p;left;calc#[f,_,r,ÿ s,Ç,Ý];calc Õ e;{let k:ś b a:=by{ext aoC e A};rw[DI k]at g;calc aoB f s k a b;let Q:jY a[b]=af->∃w:Ω,(∀n o,w n o->∃R,R<a.length-b/\∃b:Nat,n=[Ń f c,aa^Ê b]/\o=j/\R=a.length-b/\c+acC a c=b+((a.drop b).takeWhile jY).length)/\w [Ń f c,al9 b] j:=λV=>by{rw[zG V]at g;calc#[λn o=>n=[Ń f c,al9 b]/\o=j,λn o #[P,u]=>#[au5 a b,P,u,r,by lia],r,r]};calc Õ v;{nofun;let#[w,J,L]:=Q^by{unfold jY;rw[v];rfl};left;calc#[w,J,Ç,L]};{calc aoB f s k a b;calc Õ u;{nofun;let#[w,J,L]:=Q^by{unfold jY;rw[u,oW]};left;calc#[w,J,Ç,L]};{let W:¬jY a[b]=af:=λh=>by{unfold jY at h;rcases ard h with h|h;{calc v h};{calc u h}};rw[zF W]at g;rwa[g,aeX]}}};{ext azs k a b e h A g}};{calc aoB f s F a c;calc Õ M;{let x:acC a c=1+((a.drop (c+1)).takeWhile e6).length:=by{rw[H,cB,zF B,zG M]};calc let I:cW:=(λy l j=>∃b:Nat,l=[Ń f c,aa^Ê b]/\j=z/\y=a.length-b/\(c+acC a c=b+((a.drop b).takeWhile e6).length));#[I,#[_,c+1,r,r,r,by rw[x];lia],?_];ext ϐ y l j p;let#[b,ahp,rfl,g]:=p;left;calc#[f,_,r,ÿ s,Ç,Ý];calc Õ e;{let k:ś b a:=by{ext aoC e A};rw[DI k]at g;calc aoB f s k a b;calc Õ v;{rw[zG v]at g;calc#[λn o=>n=[Ń f c,al9 b]/\o=j,λn o #[P,u]=>#[au5 a b,P,u,r,by lia],Ç,r,r]};{rw[zF v]at g;rwa[g,aeX]}};{ext azs k a b e h A g}};{let x:acC a c=1:=by{rw[H,cB,zF B,zF M]};rwa[x,aeX]}}
abbrev rL(a:Ã):Option cS:=if 12<a.length then ah else aa^arR a
abbrev rM(a:Ã):Option cS:=if 18<a.length then ah else aa^cz #[1,a,0]
@[reducible]abbrev rP:Τ:=[pr,tC,tB]
@[reducible]abbrev pS:Á:=[ô "if",ô "then",ô "else"]
def Pk(a:pS[g]?=adG):∃(b:al),W4=û b/\b.cps.size<=1000/\rP.drop g=b.cps.toList::rP.drop (g+1)/\ii b.cps.toList=af:=by match g,a with|0,a=>{calc au6 "if" a}|1,a=>{calc au6 "then" a}|2,a=>{calc au6 "else" a}|g+3,a=>ext a
def LW(a:Ã):ii a=af↔a∈rP:=by unfold ii;simp[bK]
inductive mS(d:ap)(k:ac)(l:Ã->Prop)(e:Ã->Option cS)(m:Á)(c:ag)(n:aA)(o:aY):Prop|mk(f b:_)(_:m=æ f)(_:c f=Ě b)(_:b≠[])(_:ahq b)(_:l b)(_:(∀g,e b=aa g->∀a h,gr a h g->aL c a->n h a))(_:(e b=ah->aoq i j a k c o))
def aD.af(c:ŧ)(d:aL V Y'):aL h Y':=λa b e=>d a b^c a b e
def MN(e:Ö "name_token" 50 ["run"])(g:c9 m)(u:aor)(w:arb)(x:auu)(y:Ė "MOST_NAME_BYTES" 12)(z:bA m "WORDS"^ß)(n:∀h,bw d h s pS)(A:acy "MARK" "mark")(B:acy "GREAT" "great")(C:acy "SMALL" "small"):azt:=e.aw λa a a=>by calc ý a ["run","name","word"] j a h a a a a l b;let#[e,b,c,o,k,p,_,v,D]:=l;calc š c p 1 a;let E:aW 3 _:=a;left;calc aoD (aq (arS (Ũ g^Ø 0) y u E)^aq (Ò 1 j^na yT r g.tuple Ar^Ø 0)^aq (age (sx^bG z) 2 j^auX a (Ü w p^Ø 2) 1 (arT A 2))^aiT (fc^Ü x p^ahr 0) (arT B 1)^arT C 1);ext arQ j b;calc arU e o;calc Õ a;{let a:12<b.length:=by{ext aoC a j};intro p u A w g;calc D (zG a) p u A w g};{let a:¬12<b.length:=by{let a:¬((12:Int)<aoE b):=adr c a;rw[j]at a;calc k'^kt a};let j:rL b=aa^arR b:=zF a;calc#[e,_,r,.inr #[bw.ad o,s,r,#[_,n _],?_]];let w:(2:Nat)<=a9:=by{ext ah8};ext azu C b k D;calc let y:cW:=(λk p u=>∃x,gj (p=[È e,È e,x]) (aL h u) ((b∈rP↔b∈rP.drop k)));vd (O:=pS) y #[_,r,Ķ a,fM] (λk p u _ _=>n _) ?_ ?_;{ext Ϧ k h p u h l;let#[x,rfl,g,y]:=l;let#[k,rfl,n,E,z]:=Pk h;left;right;calc#[k,r,n,ê A h h n A];let A:=Ë g n;calc(xe (D:=k.cps.toList) h (A e _ o) aiP);calc Õ c;{let c:k.cps.toList=b:=zI c;calc#[w,λn h=>v _ j _ _ ?_^Ë A^a' h];let B:arR b=.mark k:=by{rw[<-c,z];unfold cz;rw[zG r,zF^show¬(3:Nat)=0 by{decide},zF^show¬(3:Nat)=1 by decide];unfold g1;let F:k.cps.toList≠[37]:=auD a z;rw[zF F]};rwa[B,#[n,ĭ,r]]};{let c:¬k.cps.toList=b:=adr a c;calc#[_,r,A,y.trans ?_];rwa[E,bK,#[λa=>a.resolve_left λa=>c a.symm,λa=>ÿ a]]}};{ext akv p u l x g y;let k:¬ii b=af:=λa=>by{let:=y.mp^(LW b).mp a;ext this};let B:arR b=if kG b[0]then .great b else .small b:=by{unfold cz;rw[zF k,zG r,<-D]};rw[B]at j;let a:=g e _ o;left;calc#[e,Œ a,ώ^jy C,b[0],r,Ý];calc Õ c;{rw[zG c]at j;calc#[w,λn h=>v _ j _ _ ?_^Ë g^a' h];calc#[n,ĭ,e,r,(a' h) e _ a]};{rw[zF c]at j;calc#[w,λn h=>v _ j _ _ ?_^Ë g^a' h];calc#[n,ĭ,e,r,(a' h) e _ a]}}}
abbrev mK(b:Ã):Prop:=∀a∈b,48<=a/\a<=57
def MW(a:aoA):eX^D.take (g+1)=10*eX^D.take g+(D[g]-48):=by unfold eX;rw[List.take_succ_eq_append_getElem a,sN];rfl
def MZ(e:Ö "number_token" 51 ["run"])(v:c9 m)(w:aor)(x:Ė "MOST_DIGITS" 18)(y:acy "NUMBER" "number"):azv:=e.aw λV W z=>by calc ý z ["run","value","byte"] k ab A ag ai am B g ao;let#[e,a,l,n,au,av,C,D,E]:=g;subst l;let F:aW 3 _:=B;left;calc akq (aq (arS (Ũ v^Ø 0) x w F)^aiJ 1 k^aq (dM gm r (sx^ae 0) (aky 2 k)^aC^Ò 1 k^dT S3 (dT hD (dT S0 (ae 1) a7)^ae 2) a7)^arT y 1);ext arQ u a;calc arU e n;calc Õ b;{let b:18<a.length:=by{ext aoC b u};intro G H I J L;calc E (zG b) G H I J L};{let b:¬18<a.length:=by{let b:¬((18:Int)<aoE a):=adr l b;rw[u]at b;calc k'^kt b};let M:rM a=aa^.num^eX a:=zF b;calc#[e,r,#[_,bw.ad n],?_];let N:(2:Nat)<=a9:=by{ext ah8};calc let O:cW:=(λc h j=>∃o,h=[È e,adq (eX^Ğ a c:Nat),o]/\j=A);vd (O:=bO a) O #[_,r,r] (λc h j _ #[_,_,P]=>by rwa[P,bw.ad n]) ?_ ?_;{ext Ϧ c Q h j p g;let#[o,ahp]:=g;let s:ś c a:=by{let:=ä p;ext al'};let R:Q=.int (a[c]:Nat):=by{rw[jy s]at p;calc ŝ p};subst R;left;right;calc#[Ç,.inr #[by{decide},by decide],Ç,Ç,adq (a[c]:Nat),?_,r];let aw:=C a[c]^sP s;rw[MW s];let S:((eX^Ğ a c:Int)*10+(a[c]:Nat)-48)=((10*eX^Ğ a c+(a[c]-48):Nat):Int):=by{lia};rw[<-S];rfl};{ext Č h j g;let#[o,ahp]:=g;left;rwa[aI,d0,#[N,λT U=>D _ M _ _ ?_^a' U]];calc#[T,ĭ,r]}}
abbrev mQ:Ĕ:=[ũ 59 ";",ũ 58 ":",ũ 123 "{",ũ 125 "}",ũ 40 "(",ũ 41 ")",ũ 91 "[",ũ 93 "]",ũ 44 ",",ũ 46 ".",ũ 61 "=",ũ 60 "<",ũ 62 ">",ũ 43 "+",ũ 45 "-",ũ 42 "*",ũ 47 "/",ũ 37 "mod",ũ 38 "&",ũ 124 "|",ũ 33 "!",ũ 63 "?",ũ 35 "#"]
def Od:mQ=mw.map (azw a):=by unfold mQ mw g1;rfl
def DM(a:Nat):∀b:Ã,bS (b.map (azw a))^.inl (Ñ a)=if b.contains a then aa^.str^g1 [a]else ah|[]=>r|c::b=>by let d:=DM a b;unfold bS at d⊢;rw[dg,jk,nl];by_cases k:a=c;{subst k;simp};{let e:(decide ((Ī c:bh)=Ī a))=ay:=zK λb=>k^by{ext ϝ b;calc au7 b};let b:(a==c)=ay:=by{exists k};rwa[e,b,qx,d]}
def CK(a:Nat):bS mQ^.inl (Ñ a)=if mw.contains a then aa^.str^g1 [a]else ah:=by rwa[Od,DM a _]
abbrev ow(a:Ã):Option cS:=if iQ^ad8 a then rL a else if e6^ad8 a then rM a else if mw.contains^ad8 a then aa^.mark^g1 [ad8 a]else ah
def OW(g:Ö "token_of" 52 ["run"])(u:aor)(v:auv)(w:aut)(x:azt)(y:azv)(l:bA m "SIGNS"^ß)(n:j2 q i d s mQ)(z:acy "MARK" "mark"):č 5 "token_of" ["run"]^arV a:=g.aw λb b b=>by calc ý b ["run"] b b b b b b e p b;let#[g,a,A,h,j,o,k,b,c]:=p;subst A;let p:aW 4 _:=e;calc ac3 A 3 e;calc Ţ B 2 e C 1;calc aoD (aiT (fc^Ü v B^ahr 0) (aC^bt^ģ x p^Ø 0)^aiT (fc^Ü w C^ahr 0) (aC^bt^ģ y p^Ø 0)^aq (acz (bR Nb (ac4 0) (bG l)^by ext aeY) u A)^aC^bt^fm^ahb (bG z) (Cy (bG l)^ac4 0));ext azu l a j e;unfold ow at b c;rw[e]at b c;let k:e6^ad8 a=af->mK a:=k;rw[e]at k;calc#[g,Œ h,ώ^jy l,a[0],r,Ý];calc Õ e;{rw[zG e]at b c;calc#[g,a,r,h,j,o,trivial,b,c]};{rw[zF e]at b c;calc#[g,Œ h,ώ^jy l,a[0],r,Ý];calc Õ e;{rw[zG e]at b c;calc#[g,a,r,h,j,o,k e,b,c]};{rw[zF e]at b c;calc#[g,Œ h,ώ^jy l,s,mQ,.inl (a[0]:Nat),r,n,r,Ý];rwa[CK,Õ e];{let e:¬au8 a:=λj=>by{rw[zG j]at e;ext e};rw[zF e]at c;intro k o p u v;calc c r k o p u v};{let e:au8 a:=by{by_cases j:au8 a;{calc j};{rw[zF j]at e;calc zH r e}};rw[zG e]at b;calc#[g,Œ h,ώ^jy l,s,mQ,.inl (a[0]:Nat),î n,by{rw[CK,zG e]},by{ext al2},λa c=>b _ r _ _ ?_^a' c];calc#[a,ĭ,r]}}}
abbrev hq(a b:Nat)(c:Ã):Option^Ù:=match pq a b c with|.ok a=>aa a|ο=>ah
abbrev k0(b:Nat)(a:Ã):Option aU:=if iQ^ad8 a then(if 12<a.length then ah else aa #[if ii a then 3 else 0,a,b])else if e6^ad8 a then(if 18<a.length then ah else aa #[1,a,b])else if mw.contains^ad8 a then aa #[2,[ad8 a],b]else ah
def DJ(b:Nat)(a:Ã):ow a=(k0 b a).map cz:=by unfold ow k0;by_cases c:iQ^ad8 a=af;{ext acQ c;unfold rL;split<;>rfl};{ext Š c;by_cases k:e6^ad8 a=af;{ext acQ k;unfold rM;split<;>rfl};{ext Š k;split<;>rfl}}
def OV(b:k0 g D=aa XH):eo XH:=by unfold k0 at b;split at b;{rename_i d;ext Ĳ b;{ext b;by_cases c:ii D=af;{rwa[zG c,#[.inr^.inr^ϛ,Ĝ a,Ĝ a,λ_=>c]]};{rwa[zF c,#[ħ,λ_=>d,Ĝ a,Ĝ a]]}}};{split at b;{ext Ĳ b;{ext b;calc#[aj0,Ĝ a,Ĝ a,Ĝ a]}};{split at b;{ext b;calc#[.inr^aj0,Ĝ a,λ_=>Ŧ,Ĝ a]};{ext b}}}
def pR(b:Nat->Bool):∀a:Ã,a.takeWhile b=a.take (a.takeWhile b).length|[]=>r|d::a=>by by_cases c:b d=af;{rw[Af c,ce,sT,<-pR b a]};{rw[Ae c];rfl}
def xb(b:Nat->Bool):∀a:Ã,a.dropWhile b=a.drop (a.takeWhile b).length|[]=>r|d::a=>by by_cases c:b d=af;{rw[Af c,ce,z4,List.dropWhile_cons_of_pos c,xb b a]};{rw[Ae c,List.dropWhile_cons_of_neg c];rfl}
def BE(a:jp g=af):¬iQ g=af/\¬e6 g=af:=by unfold jp at a;rcases ard a with a|a;{rw[ajO a];decide};{rw[ajO a];decide}
def OT(a:jp W1=af):hq (g+1) B (W1::D)=azx:=by let b:akz=1:=by{rw[cB,zF (BE a).1,zF (BE a).2]};rw[b];unfold hq;rw[pq,zG a];rfl
def OU(f:¬jp W1=af):hq (g+1) B (W1::D)=(match k0 B^(W1::D).take^akz with|aa a=>(azx).map (a::·)|ah=>ah):=by let d:∀(b:Except Bg^Ù)(a:aU),(match b.map^Vaatta.put1 a with|.ok e=>aa e|ο=>ah)=(match b with|.ok e=>aa e|ο=>ah).map (a::·):=λb a=>by{ext b<;>rfl};unfold hq;rw[pq,zF f];by_cases k:iQ W1=af;{let a:akz=(D.takeWhile jY).length+1:=by{rw[cB,zG k,nr]};rw[a,sT,<-pR,z4,<-xb,zG k];unfold k0;rw[Ab,zG k];dsimp only;by_cases c:12<(W1::D.takeWhile jY).length;{rw[zG^show Js<_ from c,zG c]};{rwa[zF^show¬Js<_ from c,zF c,d _ _]}};{rw[zF k];by_cases l:e6 W1=af;{let a:akz=(D.takeWhile e6).length+1:=by{rw[cB,zF k,zG l,nr]};rw[a,sT,<-pR,z4,<-xb,zG l];unfold k0;rw[Ab,zF k,zG l];dsimp only;by_cases c:18<(W1::D.takeWhile e6).length;{rw[zG^show Jq<_ from c,zG c]};{rwa[zF^show¬Jq<_ from c,zF c,d _ _]}};{let a:akz=1:=by{rw[cB,zF k,zF l]};rw[a,zF l];unfold k0;rw[sT,Ab,zF k,zF l];by_cases n:mw.contains W1=af;{rwa[zG n,zG n,d _ _]};{ext Š n}}}
def CG:1<=cB (g::D):=by rw[cB];split;{calc ġ};{split<;>lia}
def N8:∀a:Ã,cB a<=a.length|[]=>a5 _|b::a=>by rw[cB,ce];let b:(a.takeWhile jY).length<=a.length:=by{rwa[pR,dD,afX]};let b:au4 a<=a.length:=by{rwa[pR,dD,afX]};split;{lia};{split<;>lia}
def Ch{b:Nat->Bool}{a:Nat}:∀{d:Ã},a∈d.takeWhile b->b a=af|[],a=>by{ext a}|e::d,a=>by by_cases c:b e=af;{rw[Af c]at a;ext afY a;{calc c};{calc Ch a}};{rw[Ae c]at a;ext a}
def N9(d:e6^(D.take^cB D).headD 0=af):mK^D.take^cB D:=by rcases D with _|⟨a,b⟩;{calc aoF d};{let f:∀{e:Nat},e6 e=af->48<=e/\e<=57:=λ{e} c=>by{unfold e6 at c;exists c};let h:((a::b).take^cB (a::b)).headD 0=a:=by{obtain⟨g,i⟩:∃g,cB (a::b)=g+1:=#[cB (a::b)-1,by let:=CG (g:=a) (D:=b);calc ng this];rw[i];rfl};rw[h]at d;let h:¬iQ a=af:=λg=>by{let:=f d;unfold iQ wJ kG at g;simp at g;lia};let g:cB (a::b)=au4 b+1:=by{rw[cB,zF h,zG d,nr]};rw[g,sT,<-pR];intro e c;ext afY c;{calc f d};{calc f^Ch c}}
inductive Dx(d:ap)(j:ac)(k:Á)(b:ag)(m:aA)(n:aY):Prop|mk(f c:_)(_:k=æ f)(_:b f=Ě c)(_:ahq c)(_:(∀e,Bj c=.ok e->∀a l g,a l=à g->be (gr a) g (aoi e)->(∀o∈e,eo o)->ahq e->aL b a->b l=ah->m adk a))(_:(∀p,Bj c=Ϛ p->aoq h i a j b n))
def KJ(b:g<=B)(a:B<=D.length):gk (bO D) (aa Λ)^aa (B:Int)=bO^(D.drop g).take (B-g):=by unfold gk;rw[se,se,aI,s0 a,s0^ds b a,<-Ac,<-Ad]
def aD.dD(a:ŧ)(b:be (gr h) O Ym):be (gr V) O Ym:=ï b λb b b=>b.keep (S:=[]) (aD.keep a)^ϧ
def Ca(a:akg V)(c:h f=aem)(b:be (gr h) Yi Ym):be (gr V) Yi Ym:=ï b λb b b=>ð b a λd a b a=>by let a:d=f:=by{exists a};ext ā a c b
universe v1530
set_option tactic.hygienic true in def OX(v:Ö "tokens_of" 53 ["text"])(cK:c9 m)(cM:azr)(cS:ayU)(cT:č 5 "token_of" ["run"]^arV a)(cU:acy "END" "end"):č 6 "tokens_of" ["text"]^Dx d f:=v.aw λd9 ea cZ=>by calc ý cZ ["text","tokens","place","end"] av ei F em c0 aY aZ D en;let#[v,a,E,cs,az,a3,a4]:=D;subst E;let c1:aW 5 _:=aZ;calc Ţ c2 3 aZ c3 1;calc bl.mk (agg 1 av^aiJ 2 av^aq (h7 gm (arP 2 cK)^aq (Ò 3 av^Ü cM c2^ü 0 2)^aq (ot^bQ (zj^al8 cS c3 2) (aiU 1 (ģ cT c1^ak (qn Of (ae 0) (l2^ae 2)^l2^ae 3) an)) b6)^aC^Ò 2 av^ae 3)^Α (akm (ae 1) (fm^ak (bG cU)^ak dL an)) 1) ?_;symm;right;ext arQ ct a;calc ahs c O;nofun;obtain⟨z,bf⟩:∃z,z=hq (Ŏ a) 0 a:=Ŧ;let a3:∀I,z=aa I->∀n c cx,n c=à cx->be (gr n) cx (aoi I)->(∀p∈I,eo p)->ahq I->Ϡ F n c c0:=λI A=>by{calc a3 I ?_;rw[bf]at A;unfold hq at A;unfold Bj;split at A;{rename_i E;ext A;calc E};{ext A}};let a4:z=ah->∀aK aM n,dy d f (-2) aK aM n->aL F n->aY aK aM n:=λA=>by{rw[bf]at A;unfold hq at A;ext Ĳ A;{rename_i h E;calc a4 h E}};let ep:v≠c:=ba cs O;left;calc let Q:cW:=(λcy cC n=>lZ λ(b l:Nat) (j:ϰ) (e:Á) (g:Ù)=>azy cC v c b j (cy=a.length-b) a l n e g p F z);#[Q,#[_,0,Ŏ a,ah,[],[],r,r,bF _,aF acP 1,as,.nil,(adt h),bF _,a' O,?_],?_];{rw[bf,z5];cases hq (Ŏ a) 0 a<;>rfl};ext ϐ cy cC n D;let#[b,l,j,Ř e g,J,eq,R,S,bh,T,U,B]:=D;let V:=U v _ cs;left;calc arU v V;calc Õ h;{let J:ś b a:=by{ext aoC h ct};nofun;ext aex l bj;let W:a.drop b=a[b]::a.drop (b+1):=sL J;let cD:=N8^a.drop b;rw[jl]at cD;let bk:1<=acC a b:=by{rwa[W,CG]};left;calc let Q:hy:=(λX k=>lZ λ(C l:Nat) (j:ϰ) (e:Á) (g:Ù)=>azy X v c C j (b<C) a l k e g p F z);#[Q,λX k #[C,l,j,e,g,c7,er,c8,da,de,df,di,dj,dk,dq]=>#[a.length-C,by{lia},C,l,j,e,g,c7,r,c8,da,de,df,di,dj,dk,dq],?_];calc#[v,a,b,r,V,J,?_];calc let Q:hy:=(λX k=>lY λ(e:Á) (s:Ù)=>p' (X=[È v,Ń c b,adq ((b+acC a b:Nat):Int)]) (k c=à e) (be (gr k) e^s.map cz) ((∀p∈s,eo p)) (s.length<=b+1) (aL F k) (z=(au9 l b a).map (s++·)));akt Q;{ext Č X k D;let#[Ä e s,dt,du,dv,es,dz,dA]:=D;left;calc#[b+acC a b,l,_,e,s,r,by{lia},by{lia},by{lia},dt,du,ac0 dv,dz,dA]};calc#[v,Œ V,b0^jy J,a[b],r,Ý];calc Õ L;{let bq:¬jp a[b]=af:=λw=>by{let L:(! jp a[b])=af:=L;ext Æ w L};rw[W,OU bq,<-W,oY]at B;calc#[Ŕ R,?_];let bu:=KJ (D:=a) (g:=b) (B:=b+acC a b) ġ^by{lia};rw[Ah]at bu;let M:(ama a b).length=acC a b:=by{rw[dD,jl];lia};let dC:ama a b≠[]:=λw=>by{ext ajz w M;calc fL bk^η^acD (Ĭ (ai (ai (aF (au M) 1) bk)^au M) bk) M};let dH:∀(o:ac)(k:ag),k o=aa^.tup^bO^ama a b->aL n k->arV a (æ o) k (λj u=>azz x y c u P e s p b F z l a j) aY:=λo k bv aP=>by{calc#[o,_,r,bv,dC,by{rwa[M,ai (ai cD^acP) az]},N9,ò cF G u j bx Y,ò G aK aM u dJ Y];{rw[DJ b]at G;nofun;ext ό p aV G;rw[aV]at B;let bI:=Ë aP Y;let cG:=bI c _ R;let bL:á c u^adX u c (e++[j]):=ark o H h bM w;let bP:Ē e g:=by{let:=bC S;ext al'};left;calc#[c,e,r,cG,by{rwa[bP,b2,ai (ai (ē T 1 J) az)^cd r]},e++[j],g++[p],as,ae8,?_,?_];{rwa[cA,Ca bL cG^op (aD.dD bI S) bx]};{intro cH Z;ext ag9 Z;{calc bh cH Z};{let:cH=p:=by{exists Z};rwa[this,OV aV]}};{rw[cO];show Ŏ g<=b+1;calc aF T 1};{intro o H h;let dK:=bI o H^U o H h;rwa[Ï h O,dK]};{rw[B];rcases au9 l b a with _|bS;{rfl};{show aa (g++p::bS)=aa (g++[p]++bS);rw[fN];rfl}}};{rw[DJ b]at G;let aV:k0 b^ama a b=ah:=by{rcases E:k0 b^ama a b with _|bS;{rfl};{ext Æ E G}};rw[aV]at B;calc a4 B aK aM u dJ^Ë U^Ë aP Y}};let cI:∀(o:ac)(k:ag){bU:aA},k o=aa^.tup^bO^ama a b->aL n k->(∀j u,(azz x y c u P e s p b F z l a j)->bU j u)->arV a (æ o) k bU aY:=λo k bU bv aP dM=>by{nofun;let#[dQ,dR,dS,dT,dW,dX,d1,d2,d6]:=dH o k bv aP;left;calc#[dQ,dR,dS,dT,dW,dX,d1,λcF G u j bx Y=>dM j u^d2 cF G u j bx Y,d6]};calc#[_,r,_,r,v,bO a,r,bw.ad V,Í d7,Â N bV];{calc cI v n (by rwa[<-bu,d7,V]) (Ķ h) ?_;ext azA j u D x y bY bZ b8 ca cb cc cf cg ck cl cm c};{calc cI N _ (by rw[as,bu]) (a' bV) ?_;ext azA j u D x y bY bZ b8 ca cb cc cf cg ck cl cm c}};{let bq:jp a[b]=af:=by{rcases w:jp a[b]with _|_;{calc zH (by show(! jp a[b])=af;rw[w];rfl) L};{rfl}};rw[W,OT bq,<-W,oY]at B;calc#[e,g,r,R,S,bh,cX T 1,U,B]}};{let d8:β a b:=by{let w:¬(Ñ b<aoE a):=adr E h;rw[ct]at w;calc kt w};nofun;obtain rfl:b=a.length:=bX J d8;ext aex l bj;let B:z=aa g:=by{rw[B,GV];show aa (g++[])=aa g;rw[fd]};let bP:Ē e g:=by{let:=bC S;ext al'};left;calc#[Ŕ R,by{ext al2},Â N bV];let cn:=ac1 [ô "end",ô ""] bV;let cJ:=cn c _ R;calc#[c,e,_,aoG cJ bP (ai T az)];let bL:aoH c n N [ô "end",ô ""] [ô "end",ô ""] e:=ark o H h bM w;calc a3 g B _ c _ as (Ca bL cJ^op (aD.dD cn S) #[N,ĭ,r]) bh (ai T az) (Å o H h) O;rwa[Ï h O,cn o H^U o H h]}
structure dq(d:ac)(e:ag)(f g:ac)(h:Á)(a:acx)(b:Nat)(c:Ù):Prop where(av:fE d e f g h a b)(rest:hT a b c)(aF:∀i∈c,eo i)
variable{V8:List ab}
def dq.next(a:arW)(b:Y≠[])(c:fE s V YS X3 V8 Ym (YB+1)):au' (YB+1)^ahf:=#[c,a.rest.d7 b,λb c=>a.aF b^sR c]
def dq.aZ{a:Ó}(b:arW)(d:aJ a h V)(e:YS∉a)(f:X3∉a)(g:∀c i,h c=Ű i->c∉a):au' YB Y:=#[b.av.aZ d e f g,b.rest,b.aF]
def dq.same(a:arW)(b:ŧ):au' YB Y:=a.aZ (acB b) (by simp) (by simp)^ϧ
def dq.aT(d:arW):∀a b,h a=Ű b->a∉[YS]:=λa b c b=>by ext Ο e e d;let b:a=YS:=by{exists b};ext ā b e c
def xj(a:∀b∈Y,eo b):bk Y=.great D↔∃b c,Y=b::c/\b.great=af/\b.text=D:=by ext auE b c a;{show cz b=_↔_;unfold cz po;constructor;{intro a;split at a;{rename_i e;split at a;{rename_i d;calc#[b,c,r,by{rw[e,d];rfl},cS.great.inj a]};{ext a}};{ext alv a}};{rintro⟨a,a,a,d,b⟩;ext a;let#[a,c]:=(db _ _).mp d;rw[zG^ajO a,zG c,b]}}
def Mv(a:arM="great"):∃b,bk Y=.great b:=by cases c:bk Y with|great b=>{calc#[b,r]}|mark b=>{rw[c]at a;calc zH a^show¬arN="great" by ext Û}|small b=>{rw[c]at a;calc zH a^show¬arn="great" by ext Û}|num b=>{rw[c]at a;calc zH a^show¬aro="great" by ext Û}|fin=>rw[c]at a;calc zH a^show¬("end":al)="great" by ext Û
def x7(b:eo XH):∀a∈[XH],eo a:=λa c=>by let d:a=XH:=by{exists c};rwa[d,b]
structure w1(g:al)(c:aU->Bool):Prop where(iff:∀{b:Ù},(∀a∈b,eo a)->(aey b=g↔∃a h,b=a::h/\c a=af))(said:∀{a:aU}{d:ag}{e:ab},eo a->c a=af->pC d (cz a) e->∃f,e=À f/\d f=aot a)
def lJ:w1 "small" iP where iff:=λd=>#[λa=>by{let#[b,f]:=Cd a;let#[a,e,b,c,_]:=(mR d).mp f;calc#[a,e,b,c]},λ#[a,e,b,c]=>by rw[(mR d).mpr #[a,e,b,c,r]];rfl];said:=λ{a e e} d c e=>by let b:cz a=.small a.text:=(mR (Y:=[a])^x7 d).mpr #[a,[],r,c,r];ext Ι b e
def mO:w1 "great" po where iff:=λd=>#[λa=>by{let#[b,f]:=Mv a;let#[a,e,b,c,_]:=(xj d).mp f;calc#[a,e,b,c]},λ#[a,e,b,c]=>by rw[(xj d).mpr #[a,e,b,c,r]];rfl];said:=λ{a e e} d c e=>by let b:cz a=.great a.text:=(xj (Y:=[a])^x7 d).mpr #[a,[],r,c,r];ext Ι b e
abbrev iT(b:ag)(c:ab)(d:Ã):Prop:=∃a,c=À a/\b a=Ě d
abbrev kO(a:ag)(c:ac)(d:Τ):Prop:=∃b,a c=à b/\aht a b d
def iT.keep{S:Ó}(c:ad2)(d:afd a)(e:iT h W4 D):iT V W4 D:=by ext aoh a f b e c d
def kO.keep{S:Ó}{b c:ag}(d:aJ S b c)(g:ahc e b){a:ac}{f:Τ}(i:a∉S)(j:kO b a f):kO c a f:=by let#[b,c,e]:=j;calc#[b,d a _ c i,ad4 e a a a d g]
variable{Wh:aU->Bool}
def MF(a:Wh XH=af):(ef Wh (XH::Y)).1.map fq=XH.text::(ef Wh Y).1.map fq/\(ef Wh (XH::Y)).2=(ef Wh Y).2:=by rwa[ef,zG a,aeX]
def ME(c:¬∃a b,Y=a::b/\Wh a=af):(ef Wh Y)=([],Y):=by ext ahg a b;{rw[ef]};{rw[ef,zF λd=>c #[a,b,r,d]]}
structure oa(q:aQ)(i:aN)(d:ap)(m:Ą)(t:aG)(b a:ac):Prop where(cu:Ϥ aO 1 a "next_kind" ["self"]^rE a)(bL:Ϥ aO 2 a "next_mark" ["self"]^xK a)(bU:Ϥ ε 4 a "take" ["self","kind"]^ue d b a)(bl:Ϥ ε 5 a "take_mark" ["self","mark"]^xS d b a)
inductive xL(g:ac)(k:Á)(e:ag)(m:aA)(p:aY):Prop|mk(b l:ac)(h:Á)(i:acx)(n:Nat)(a:Ù)(j:al)(c:aU->Bool)(_:k=[À b,û j])(_:w1 j c)(_:dq g e b l h i n a)(_:ahq a)(_:∀d f o,kO d f^aoI c a->dq g d b l h i o (ef c a).2->á b e d->e f=ah->(ef c a).2.length<=a.length->ĕ m f d)
def NL(a:Ö "read_names" 79 ["cursor","kind"])(b:akA f s):azB:=a.aw λc c c=>by calc ý c ["cursor","kind","names"] g c I c c c e n c;let#[c,v,x,y,C,k,z,p,A,E,h,D,S]:=n;subst A;let j:aW 4 _:=e;calc ac3 l 1 e;calc ϣ (aq (aiE 2 g^dB an)^Α (h7 gm (bR c2 (al7 b 0 l) (ae 1)^bH _)^aiU 2 (bU b.bU (ae 0) j ļ^ŵ 1)) 2);calc ahs a o;ext Γ b b h;let L:a≠c:=Ę e b o;let T:a≠v:=λe=>by{rw[e,h.av.lst]at o;ext o};left;calc let F:cW:=(λw B u=>h4 λ(l:Nat) (j:Ù) (b:Á) (g:List Ã)=>p9 (B=[È c,aa^û z,È a]) (w=j.length) (dq s u c v x y l j) (u a=à b) (aht u b g) (á c I u) (adW g j<=3000) (ag8 j k) (aoI p k=g++aoI p j) ((ef p k).2=(ef p j).2));#[F,#[_,C,k,[],[],r,r,h.same^a' o,as,.nil,aD.keep^a' o,by{exists D},a5 _,r,r],?_];ext ϐ w B u n;let#[l,j,Ř b g,h,G,H,M,R,N,D,B]:=n;ext Ο J O h;left;calc#[c,J,î O,c,v,x,y,l,bk j,acY h];calc Õ e;{let e:aey j=z:=afi e;nofun;let#[Ä C n,P]:=(E.iff h.aF).mp e;let#[w,Q]:=MF (Y:=n) P;rw[w]at D;rw[Q]at B;left;calc let F:hy:=(λQ w=>kn λ(l:Nat) (b:Á) (g:List Ã)=>iB (Q=[È c,aa^û z,È a]) (dq s w c v x y l n) (w a=à b) (aht w b g) (á c I w) (adW g n<=3000/\aoI p k=g++aoI p n));#[F,λQ w #[W,ag,au,av,az,aA,aK,aL,aM,aO]=>#[n.length,jP _,W,n,ag,au,av,r,az,aA,aK,aL,aM,sW N,aO,B],?_];calc#[Ŕ G,c,J,î O,c,v,x,y,l,cz C,z,Ľ h,λ_ w k O Q F=>?_,λI=>zH e I];nofun;let#[J,rfl,I]:=E.said (h.aF C cj) P O;let U:dq s w c v x y (l+1) n:=afh h Q;let O:w a=à b:=ϒ F a G L;let c:Ē b g:=bC H;left;calc#[a,b,_,aoG O c (ai akB R)];calc arX P a w (b++æ J) c Q v y k R x x O;let O:aht w b g:=ï H λw V A=>ð A F h.aT;calc#[l+1,b++æ J,g++[C.text],r,U.aZ P (by exists ci L) (by exists ci T) R,as,bL.ay (op O #[J,r,I]) λw V A=>ð A P R,Ô c Q v y,?_,?_];{let:=(M.and F) c Q v y;rwa[Ï v o,this]};{rw[cO];let:agf C n:=r;let:[C.text].length=1:=r;lia};{rw[D,fN];rfl}};{let e:¬aey j=z:=aku k e;let x:=ME (Wh:=p) λk=>e^(E.iff h.aF).mpr k;rw[x]at D B;calc(S u a l #[b,G,?_] ?_ M o ?_);{rw[D];show aht u b (g++[]);rwa[fd,H]};{rwa[B,h]};{rwa[B,N]}}
structure cH(a:ap)(b:ac)(c:Ĩ):Prop where(aa:g5 a b)(no:∀d∈c,e1 a b d)
inductive kX(c:ac)(d:Ĩ)(g:Á)(e:ag)(h:aA)(i:aY):Prop|mk(a f b:_)(_:g=À a::b)(_:Ē b d)(_:e a=aa^.ae c f [])(_:h .ar^am e a^.ae c f^d.zip b)
def LR(b:ő "__init__" "ReadSymbol.__init__" 74 0)(a:cH d s ["name","handed_down","handed_up"]):agh 1 ["self","name","handed_down","handed_up"]^kX s ["name","handed_down","handed_up"]:=by calc arY b ["self","name","handed_down","handed_up"] b c n e g j k;let#[h,Ä h h]:=sp g;calc Ş e (aiV 1^arZ 2 3);ext ar0 b c j a;calc#[b,s,c,ĭ,Į a,aiF];rwa[gn,gn,k]
def LP(b:ő "__init__" "ReadProduction.__init__" 75 0)(a:cH d s ["name","left","is_numbered","children","rules"]):agh 1 ["self","name","left","is_numbered","children","rules"]^kX s ["name","left","is_numbered","children","rules"]:=by calc arY b ["self","name","left","is_numbered","children","rules"] b c n e g j k;let#[h,h,h,Ä h h]:=F2 g;calc Ş e (aiV 1^aiV 2^aiV 3^arZ 4 5);ext ar0 b c j a;calc#[b,s,c,ĭ,Į a,aiF];calc#[b,s,c,ĭ,aiW a,?_];calc#[b,s,c,ĭ,Į a,aki];rwa[gn,gn,gn,gn,k]
def LQ(b:ő "__init__" "ReadRule.__init__" 76 0)(a:cH d s ["target","expression"]):agh 1 ["self","target","expression"]^kX s ["target","expression"]:=by calc azC b ["self","target","expression"] a
def LS(b:ő "__init__" "ReadText.__init__" 77 0)(a:cH d s ["symbols","productions"]):agh 1 ["self","symbols","productions"]^kX s ["symbols","productions"]:=by calc azC b ["self","symbols","productions"] a
inductive CT(s:ac)(d:Á)(b:ag)(e:aA)(f:aY):Prop|mk(a c l:_)(_:d=[À a,adk])(_:b a=aa^ř c [])(_:e .ar^am b a^ř c^io l 0)
def LJ(b:ő "__init__" "Cursor.__init__" 54 0)(a:ob d s):alX "tokens"^CT s:=by calc ó b ["self","tokens"] b b b b b e;let#[b,c,g,g,h,j]:=e;calc Ş g (aiV 1^aC^ac2 0 a7 r);calc#[b,s,c,_,r,h,a.aa,a.dp,akw];calc#[b,s,c,ĭ,a.aa,a.ce,akx];rwa[gn,j]
inductive JS(h:ac)(b:þ)(a:ag)(i:ab)(c:dV):Prop|mk(d j g e f:_)(_:i=À d)(_:a d=aa^.ae h j [("name",À g),("handed_down",À e),("handed_up",À f)])(_:a g=ar1 c)(_:kO a e^c.downs.map fq)(_:kO a f^c.ups.map fq)(_:b d)(_:b e)(_:b f)
abbrev gY(a:ac)(b:þ)(c:ag)(d:ab)(e:dV):Prop:=JS a b c d e
def gY.keep{g:ac}{b:þ}{S:Ó}{d h:ag}(c:aJ S d h)(e:ahc a d)(f:∀a∈S,¬b a){i:ab}{j:dV}(m:gY g b d i j):gY g b h i j:=by let#[d,b,a,g,h,n,o,i,p,q,j,k,l]:=m;calc#[d,b,a,g,h,n,c d _ o λb=>f d b j,afe c a i e,ð p c e λb=>f g b k,ð q c e λb=>f h b l,j,k,l]
variable{Xr:ac->Prop}{Y5:ac->Prop}{V9:dV}
def gY.imp(b:ahu a)(e:gY f Xr h W4 V9):gY f Y5 h W4 V9:=by let#[a,g,i,c,d,j,k,l,m,n,o,p,q]:=e;calc#[a,g,i,c,d,j,k,l,m,n,b a o,b c p,b d q]
def aJ.none{b:Ó}{c d:ag}(f:aJ b c d)(g:∀h∈b,d h≠ah){a:ac}(e:d a=ah):c a=ah:=by ext afm d c a c;{by_cases k:a∈b;{calc zH e^g a k};{rw[f a c d k]at e;ext e}}
def dq.some{p:Nat}(c:dq f h s w O Ym p Y):∀a∈[s],h a≠ah:=λa b=>by let b:a=s:=by{exists b};ext Ο a a c;rw[b,a];simp
abbrev Mn(d:ap)(g h i:ac)(b:ag)(j:aA)(k:aY)(c l:ac)(m:Á)(n:acx)(o:Nat):Except u (dV×Ù)->Prop|ş p e=>∀a f q,gY i (ń i b) a f p->dq h a c l m n q e->á c b a->β e o->j f a|ο=>af9 e f a g c b k
inductive Ds(d:ap)(i e j:ac)(k:Á)(f:ag)(m:aA)(n:aY):Prop|mk(b l:ac)(g:Á)(h:acx)(o:Nat)(c:aU)(a:Ù)(p:Nat)(_:k=æ b)(_:dq e f b l g h o (c::a))(_:c.great=af)(_:a.length<=2999)(_:Mn d i e j f m n b l g h a.length^pv p c a)
def NR(a:Ö "read_symbol" 80 ["cursor"])(h:akA f s)(z:acy "GREAT" "great")(u:acy "SMALL" "small")(x:azB)(A:aeB "ReadSymbol" w ["self","name","handed_down","handed_up"]^kX w ["name","handed_down","handed_up"]):č 6 "read_symbol" ["cursor"]^Ds d f s w:=a.aw λa a a=>by calc ý a ["cursor","name","handed_down","handed_up"] o a T a a a p a b;let#[c,k,l,n,v,g,j,b,B,b,y,D,e]:=a;subst B;let a:aW 5 _:=p;calc Ţ B 4 p C 2;calc akq (aq (Ò 1 o^aiK h B (bG z))^aq (Ò 2 o^ģ x a^acW 0 (bG u))^afl h a^aq (Ò 3 o^ģ x a^acW 0 (bG u))^afl h a^aC^bt^j8 A C bd^ë 1^ë 2^Ø 3);ext Γ a o b;let h:=b.aF g cj;let p:(cz g).kind="great":=(mO.iff^x7 h).mpr #[g,[],r,y];left;calc#[c,a,î o,c,k,l,n,v,cz g,"great",Ľ b,λ_ x a u z F=>?_,λo=>zH p o];nofun;let#[a,rfl,o]:=mO.said h y u;let u:dq s x c k l n (v+1) j:=afh b z;unfold pv mx at e;ext aoz e;left;calc#[c,k,l,n,v+1,j,"small",iP,r,lJ,u,aev D,λp v E O h b G H=>?_];let I:=F.and b;ext aez J p a g b o u;ext Γ b o h;let L:bT 62 (ef iP j).2=af↔(bk (ef iP j).2)=.mark ">":=ip h.aF;left;calc#[c,b,î o,c,k,l,n,E,_,">",Ľ h,Ŷ y x C o z A B];{let b:=L.mpr y;ext ar2 p h b C M I o N;rw[zG b]at e;ext Υ e;ext amb C v c b u G;let R:kO x v^(ef iP j).1.map fq:=aoJ O o h C;ext aez O x a g o J h;calc#[c,k,l,n,E+1,_,"small",iP,r,lJ,p,ī (ö^ai (ai N H) D),λS D J U h E P V=>?_];let Q:=M.and E;let W:=aoJ R E p C;ext aez R S a g E O p;ext Γ O S h;ext amb X D c b p P;let E:bT 59 (ef iP^(ef iP j).2.drop 1).2=af↔(bk (ef iP^(ef iP j).2.drop 1).2)=.mark ";":=ip h.aF;left;calc#[c,O,î S,c,k,l,n,J,_,";",Ľ h,Ŷ l c n j z A B];{let k:=E.mpr l;ext ar2 O h k n S Q j Y;rw[zG k]at e;ext Υ e;let Z:=aoJ W j h C;let W:=aoJ U j h X;ext aez U c a g j R h;calc(aoK g h n C);let k:aL c^am (afT c h g^ł h []) g^ł h^sU (["name","handed_down","handed_up"]:Ĩ) [ø a,ø v,ø D]:=amc R R b n C;let C:=acB k;let X:aoL R c T:=λb=>agi S O b;calc e _ _ (J+1) #[g,h,a,v,D,r,as,k a _ U,ð Z C ϧ^by{simp},ð W C ϧ^by{simp},X n,agi F u G,agi M p P] (É O k) (ahk S k) ?_;calc η^ai (Ĭ (ai Y V) N) H};{rw[aiQ b l E]at e;calc e z A c B^Q.and j}};{rw[aiQ b y L]at e;calc e z A x B^I.and o}
abbrev ov:Ù->Option ((afg)×Ù)|[]=>ah|a::b=>if a.small then aa ((0,a.text),b)else if a.kind=1 then(if bT 46 b then(match Ċ b 1 with|[]=>ah|b::c=>auH b ((μ a,b.text),c))else ah)else ah
abbrev kZ(a:Nat)(b:Ù):Option (Option afg×Ù):=match pw a b with|.ok a=>aa a|ο=>ah
def OQ(a:bT 63 Y=af):kZ g Y=aa (ah,ahf):=by ext ahg b c;{ext a};{unfold kZ pw;dsimp only;rw[arO b 63 a];rfl}
def OR(d:¬bT 63 Y=af):kZ g Y=(match ov Y with|õ b a=>if bT 61 a then aa (aa b,Ċ a 1)else ah|ah=>ah):=by ext ahg b a;{rfl};{unfold kZ pw ov mx wM;dsimp only;rw[zF^show¬aiR b 63 from d];ext ahn;ext azD c b a;{ext Š c;by_cases l:b.kind=1;{rw[zG^show(b.kind==1)=af from ap7 l,zG l];by_cases n:ŷ 46 a;{ext aho n;rcases Ċ a 1 with _|⟨a,d⟩;{rfl};{dsimp only;ext azD u a d;{ext Š u}}};{ext Š n}};{rw[zF^show¬(b.kind==1)=af fromλa=>l^ajO a,zF l]}}}
abbrev Mo(d:ap)(g h:ac)(c:ag)(i:aA)(j:aY)(b k:ac)(l:Á)(m:acx)(n:Nat):Option ((afg)×Ù)->Prop|õ o e=>∀a f p,iU a f o->dq h a b k l m p e->á b c a->β e n->i f a|ah=>af9 e f a g b c j
inductive Dw(d:ap)(h c:ac)(i:Á)(e:ag)(j:aA)(k:aY):Prop|mk(a l:ac)(f:Á)(g:acx)(m:Nat)(b:Ù)(_:i=æ a)(_:dq c e a l f g m b)(_:Mo d h c e j k a l f g b.length^ov b)
def NS{I x:ac}(E:Ö "read_target" 83 ["cursor"])(F:akA I x)(Z:acy "NUMBER" "number")(aY:acy "SMALL" "small"):č 6 "read_target" ["cursor"]^Dw d I x:=E.aw λbL bM aZ=>by calc ý aZ ["cursor","place"] ag am ao bV bX a3 J L bY;let#[e,k,l,n,o,p,a4,f,y]:=L;subst a4;let ba:aW 5 _:=J;calc Ţ av 4 J bf 1;calc akq (aiJ 1 ag^aq (ot^ad3 (al7 F 0 bf) (bG Z) (aq (Ò 1 ag^aiK F av (bG Z))^aC^al1 F ba) b6)^aC^bt^fm^acW 1 (aiK F av (bG aY)));ext Γ aw az f;obtain⟨z,h⟩:∃z,z=ov p:=Ŧ;rw[<-h]at y;let aA:z=ah->af9 s aK M I e ao a3:=λg=>by{ext Ι g y};left;calc let bg:hy:=(λaL A=>kn λ(B C:Nat) (u:Ù)=>oK (aL=[È e,aa^Ê B]) (dq x A e k l n C u) (á e ao A) (ag8 u p/\z=(match u with|[]=>ah|E::am=>auH E ((B,E.text),am))));akt bg;{ext Č aL A L;let#[B,Ä C u,a,aM,bh,G]:=L;ext Ο N O a;left;calc#[e,N,î O,e,k,l,n,C,bk u,"small",Ľ a,ò P v j H Q w,ò P s R v S w];{nofun;let#[Ä b c,D]:=(lJ.iff a.aF).mp P;let#[T,rfl,U]:=lJ.said (a.aF b cj) D H;let bj:dq x v e k l n (C+1) c:=afh a Q;let G:z=aa ((B,b.text),c):=by{rwa[G,zG D]};rw[G]at y;left;calc#[by{ext al2},Â bq br];let V:=ac1 [Ê B,À T] br;calc y _ _ (C+1) #[bq,T,r,as,V T _ U] (É bj V) ((aM.and w).and^aD.keep V)^by let:agf b c:=r;calc Đ^ai afW bh};{calc aA ?_ s R v S^aM.and w;rw[G];ext Ā u b c;{rfl};{calc zF λg=>P^(lJ.iff a.aF).mpr #[b,c,r,g]}}};{calc#[e,aw,î az,e,k,l,n,o,bk p,acY f];calc Õ g;{nofun;let#[bZ,aO]:=Cc^afi g;let#[Ä b c,D,_]:=(pJ f.aF).mp aO;let bu:¬akk b:=λj=>by{let:=(lJ.iff f.aF).mpr #[b,c,r,j];rw[aO]at this;calc zH this^auI};unfold ov at h;ext Υ h;rw[zF bu,zG D]at h;let aP:cz b=.num^μ b:=(pJ f.aF).mpr #[b,c,r,D,r];left;calc#[e,aw,î az,e,k,l,n,o,cz b,"number",Ľ f,λ_ A j H Q w=>?_,λU=>ars aP U];let a:dq x A e k l n (o+1) c:=afh f Q;let bv:j=.int (μ b:Nat):=by{ext Ι aP H};subst bv;ext Γ N O a;calc ar3 aV 46 c "." a;calc#[e,N,î O,e,k,l,n,o+1,_,".",Ľ a,Ŷ W v bw X s R S];{ext ar4 Y aV W h bx;calc#[μ b,o+1+1,Ċ c 1,r,afj a Y bw,w.and X,by{let:agf b c:=r;calc η^ē bx 1^afW},h]};{rw[aiQ g W aV]at h;calc aA h s R v S^w.and X}};{let bI:¬aey p="number":=aku j g;calc#[0,o,p,r,f,λ_ _ g _=>g,a5 _,?_];rw[h];ext Ā p b c;{rfl};{unfold ov;dsimp only;by_cases a:akk b;{ext acQ a};{rw[zF a,zF λj=>bI^by rw[(pJ f.aF).mpr #[b,c,r,j,r]];rfl];rw[zF a]}}}}
def OO(a:kZ g Y=ah):∃b,pw g Y=Ϛ b:=by unfold kZ at a;ext Ĳ a;{rename_i b c;calc#[b,c]}
variable{abI:Option (Nat×List Nat)×List aU}
def OP(a:kZ g Y=aa abI):pw g Y=.ok abI:=by unfold kZ at a;split at a;{rename_i b b;ext a;calc b};{ext a}
inductive JF(e:ac)(c:þ)(f:ag)(g:ab)(a:gS):Prop|mk(b d:_)(_:g=À b)(_:hQ e f b d (au3 a))(_:c b)(_:c d)(_:a.occs.length<=60)
abbrev rk(a:ac)(b:þ)(c:ag)(d:ab)(e:gS):Prop:=JF a b c d e
abbrev rq(b:ag)(a:ab):Option afg->Prop|ah=>a=.ar|aa c=>iU b a c
inductive JR(g:ac)(h:ac)(c:þ)(a:ag)(i:ab)(d:eY):Prop|mk(b j e f:_)(_:i=À b)(_:a b=aa^.ae g j [("target",e),("expression",f)])(_:rq a e d.target)(_:rk h c a f d.expr)(_:c b)
abbrev hU(a b:ac)(c:þ)(d:ag)(e:ab)(f:eY):Prop:=JR a b c d e f
variable{X9:ac}
def rk.keep(g:ad2)(i:afd a)(b:∀a∈S,¬Xr a)(j:rk X9 Xr h W4 ZB):rk X9 Xr V W4 ZB:=by let#[c,d,a,k,e,f,l]:=j;calc#[c,d,a,k.aZ g (λa=>b c a e) (λa=>b d a f) i,e,f,l]
def rq.keep(d:ad2)(e:afd b){a:Option afg}(c:rq h W4 a):rq V W4 a:=by ext adF a a;{calc c};{calc iU.keep d e c}
def hU.keep(b:ad2)(c:afd a)(d:∀a∈S,¬Xr a){e:eY}(g:hU s X9 Xr h W4 e):hU s X9 Xr V W4 e:=by let#[a,f,i,j,k,l,m,n,e]:=g;calc#[a,f,i,j,k,b a _ l λf=>d a f e,ð m b c,ð n b c d,e]
variable{aay:eY}
def hU.imp(b:ahu a)(e:hU s X9 Xr h W4 aay):hU s X9 Y5 h W4 aay:=by let#[a,f,g,i,j,k,l,#[c,d,m,n,o,p,q],t]:=e;calc#[a,f,g,i,j,k,l,#[c,d,m,n,b c o,b d p,q],b a t]
abbrev Ml(d:ap)(g h i j:ac)(b:ag)(k:aA)(l:aY)(c m:ac)(n:Á)(o:acx)(p:Nat):Except u (eY×Ù)->Prop|ş q e=>∀a f s,hU j i (ń i b) a f q->dq h a c m n o s e->á c b a->e.length<p->k f a|ο=>af9 e f a g c b l
inductive Dn(d:ap)(h c i j:ac)(k:Á)(e:ag)(m:aA)(n:aY):Prop|mk(a l:ac)(f:Á)(g:acx)(o:Nat)(b:Ù)(p:Nat)(_:k=æ a)(_:dq c e a l f g o b)(_:Ml d h c i j e m n a l f g b.length^pu p b)
def NO(o:Ö "read_rule" 82 ["cursor"])(a:akA f s)(B:č 6 "read_target" ["cursor"]^Dw d f s)(C:azq)(D:aeB "ReadRule" A ["self","target","expression"]^kX A ["target","expression"]):č 349 "read_rule" ["cursor"]^Dn d f s w A:=o.aw λb b b=>by calc ý b ["cursor","target","expression"] k b j G b E h p b;let#[c,u,v,x,N,g,z,b,l,e]:=p;calc š b F 6 h;calc Ţ n 5 h y 2;calc adp (aq (Ò 1 k gz)^aq (ot^aol (agc a y) (aC^al1 a n)^aq (Ò 1 k^ģ B F^Ø 0)^aC^al1 a n)^aq (Ò 2 k^ģ C h^Ø 0)^afl a n^aC^bt^j8 D y bd^ü 1 2);symm;right;ext Γ Y Z l;unfold pu at e;let ag:kZ z g=ah->∀y k a,dy d f (-2) y k a->á c j a->E y k a:=λa=>by{nofun;let#[a,b]:=OO a;rw[b]at e;left;calc e};left;calc let C:hy:=(λB D=>h4 λ(H:ab) (h:Option afg) (E:Nat) (n:Ù)=>iB (B=[È c,aa H,ah]) (dq s D c u v x E n) (á c j D) (ag8 n g) (kZ z g=õ h n)^rq D H h);akt C;{ext Č B D p;let#[H,h,Ä E n,h,L,Q,B,O]:=p;rw[OP B]at e;ext aoz e;left;calc#[c,u,v,x,E,n,z,r,h.av,h.rest,h.aF,?_];rcases b:rb z n with a|a;{rw[b]at e;calcλy k B I F=>e y k B I^L.and F};{ext aoM R G a b e;intro B J M S P T U V W C X aw;let p:dq s B c u v x S G:=#[T,U,V];let au:=L.and C;let aA:=ð O C h.aT;ext Γ V az p;let av:ŷ 59 G↔aiG G ";":=ip p.aF;let O:j J=ah:=agi L h X;let U:j M=ah:=agi L h aw;let X:rk w (ń o j) B (À J) R:=#[J,M,r,P,O,U,W];let W:∀O∈[c],¬(ń o j) O:=λO U=>l.some O U;unfold mx at e;left;calc#[c,V,î az,c,u,v,x,S,_,";",Ľ p,Ŷ o P M L y V I];{let j:=av.mpr o;rw[zG j]at e;ext Υ e;ext ar2 aw p j M az au L M;let aF:=ð aA L p.aT;let aK:=ð X L p.aT W;calc(aoK p k W aA);let X:aL P^am (afT P k p^.ae A k []) p^.ae A k^sU (["target","expression"]:Ĩ) [H,ø J]:=amc aM aM a W aA;let aA:=acB X;let aM:ag8 G n:=by{unfold rb at b;rcases G:ee z (ra n) 0 n with a|a;{ext Æ G b};{ext Ϗ n n a;rw[G]at b;ext aoz b;left;ext Ĳ b;{ext b;calc jO^(k4 z _).expr _ _ _ _ G}}};calc e _ _ (S+1) #[p,k,H,À J,r,as,ð aF aA^arz,ð aK aA ϧ^anK O U,agi az aw W] (É aw X) (ahk az X)^ai (ai M aM) Q};{rw[aiQ a o av]at e;calc e y V P I^au.and L}}};{let e:ŷ 63 g↔œ g="?":=aiM l.aF;calc#[c,Y,î Z,c,u,v,x,N,bk g,acY l];calc Õ a;{let a:œ g="?":=afi a;calc aou j e a o g "?";calc#[c,Y,î Z,c,u,v,x,N,bk g,"?",ahi l D k F n o];let M:=e7 _^dt j;calc#[.ar,ah,N+1,Ċ g 1,r,afj l j k,F,Đ M,OQ j,r]};{let k:¬ŷ 63 g:=λp=>a^zJ^zL ab.str^e.mp p;let e:=OR (g:=z) k;calc#[c,u,v,x,N,g,r,l,?_];rcases b:ov g with _|p;{rw[b]at e;calc ag e};{ext aoM R g p b e;intro D k E l h F Q;ext Γ n p h;calc ar3 b 61 g "=" h;calc#[c,n,î p,c,u,v,x,E,_,"=",Ľ h,Ŷ o B T C y V I];{ext ar4 j b o e M;calc#[k,aa R,E+1,Ċ g 1,r,afj h j T,F.and C,Đ^ai M Q,e,iU.keep C h.aT l]};{rw[aiQ a o b]at e;calc ag e y V B I^F.and C}}}}
abbrev i0(a b:Nat)(c:Ù):Option (List eY×Ù):=match n4 a b c with|.ok a=>aa a|ο=>ah
def N6(a:bT 125 Y=af):i0 g (B+1) Y=aa ([],ahf):=by unfold i0;rw[n4,zG a]
def N7(d:¬bT 125 Y=af):i0 g (B+1) Y=(match pu g Y with|ş b a=>(i0 g B a).map λc=>(b::c.1,c.2)|ο=>ah):=by unfold i0;rw[n4,zF d];rcases pu g Y with c|c;{rfl};{let#[b,a]:=c;ext ahn;cases n4 g B a<;>rfl}
abbrev lE(c d:ac)(e:þ)(a:ag)(f:ac)(g:List eY):Prop:=∃b,a f=à b/\be (hU c d e a) b g
inductive JQ(i:ac)(j:ac)(k:ac)(c:þ)(a:ag)(l:ab)(b:bs):Prop|mk(d m g h e f:_)(_:l=À d)(_:a d=aa^.ae i m [("name",À g),("left",À h),("is_numbered",.ah b.own),("children",À e),("rules",À f)])(_:a g=ar1 b)(_:a h=aa^.tup^bO b.left.name)(_:kO a e^b.kids.map fq)(_:lE j k c a f b.rules)(_:c d)(_:c e)(_:c f)
abbrev f'(a b c:ac)(d:þ)(e:ag)(f:ab)(g:bs):Prop:=JQ a b c d e f g
variable{Yn:ac}
def lE.keep(c:ad2)(e:afd a)(g:∀a∈S,¬Xr a){b:ac}(i:b∉S){d:List eY}(j:lE Yn X9 Xr h b d):lE Yn X9 Xr V b d:=by let#[a,d,f]:=j;calc#[a,c b _ d i,ï f λW4 a a=>ð a c e g]
def f'.keep(b:ad2)(d:afd a)(e:∀a∈S,¬Xr a){c:bs}(q:f' f Yn X9 Xr h W4 c):f' f Yn X9 Xr V W4 c:=by let#[g,c,a,i,j,k,s,t,l,m,u,v,n,o,p]:=q;calc#[g,c,a,i,j,k,s,b g _ t λc=>e g c n,afe b a l d,afe b i m d,ð u b d λc=>e j c o,ð v b d e λc=>e k c p,n,o,p]
def f'.imp(b:ahu a){c:bs}(e:f' f Yn X9 Xr h W4 c):f' f Yn X9 Y5 h W4 c:=by let#[a,g,i,j,c,d,k,l,m,n,o,#[p,q,s],t,u,v]:=e;calc#[a,g,i,j,c,d,k,l,m,n,o,#[p,q,ï s λW4 e e=>e.imp b],b a t,b c u,b d v]
abbrev oq(b:Nat):Ù->Option (bs×Ù)|[]=>ah|a::c=>if a.small then(match tG b a c with|.ok a=>aa a|ο=>ah)else ah
def Nu(f:arL):oq g (XH::Y)=(match Y with|[]=>ah|b::a=>if b.great then(let d:=if bT 35 a then Ċ a 1 else a;if bT 58 d then(let c:=ef po^Ċ d 1;if bT 123 c.2 then(i0 g ((c.2.drop 1).length+1)^c.2.drop 1).map^λe=>({name:=XH.text,pos:=XH.pos,left:=Bk b,own:=bT 35 a,kids:=c.1,rules:=e.1},e.2)else ah)else ah)else ah):=by unfold oq;dsimp only;rw[zG f];unfold tG wM;ext ahg b a;{rfl};{ext ahn;by_cases k:b.great=af;{ext aho k;unfold mx;by_cases l:bT 58 (ava a)=af;{ext aho l;by_cases n:bT 123 (ef po^(ava a).drop 1).2=af;{ext aho n;unfold i0;cases n4 g _ _<;>rfl};{ext Š n}};{ext Š l}};{ext Š k}}
abbrev Mk(d:ap)(g h i j k:ac)(b:ag)(l:aA)(m:aY)(c n:ac)(o:Á)(p:acx)(q:Nat):Option (bs×Ù)->Prop|õ s e=>∀a f t,f' k j i (ń i b) a f s->dq h a c n o p t e->á c b a->e.length<q->l f a|ah=>af9 e f a g c b m
inductive Dk(d:ap)(h c i j k:ac)(m:Á)(e:ag)(n:aA)(o:aY):Prop|mk(b l:ac)(f:Á)(g:acx)(p:Nat)(a:Ù)(q:Nat)(_:m=æ b)(_:dq c e b l f g p a)(_:ahq a)(_:Mk d h c i j k e n o b l f g a.length^oq q a)
def NN{b0 J X Y a4:ac}(o:Ö "read_production" 81 ["cursor"])(R:akA b0 J)(dv:acy "GREAT" "great")(eK:acy "SMALL" "small")(eL:č 5 "read_names" ["cursor","kind"]^xL J)(eO:č 349 "read_rule" ["cursor"]^Dn d b0 J X Y)(eP:aeB "ReadProduction" a4 ["self","name","left","is_numbered","children","rules"]^kX a4 ["name","left","is_numbered","children","rules"]):č 350 "read_production" ["cursor"]^Dk d b0 J X Y a4:=o.aw λgw gx eQ=>by calc ý eQ ["cursor","name","left","is_numbered","children","rules"] a7 gG b8 z gH eR ca bf gJ;let#[c,s,v,w,S,cC,L,cD,Z,eS,bh]:=bf;calc š cD bj 5 ca;calc Ţ dz 4 ca M 2;calc bl.mk (aq (Ò 1 a7^aiK R dz (bG eK))^aq (Ò 2 a7^aiK R dz (bG dv))^aq (Ò 3 a7^ha c2 (agc R M) dL^bH _)^aq (ot^bQ (fc^ae 3) (aC^al1 R bj) b6)^afl R bj^aq (Ò 4 a7^ģ eL bj^acW 0 (bG dv))^afl R bj^agg 5 a7^aq (h7 gm (bR jd (agc R M) dL^bH _)^aiU 5 (ģ eO ca^Ø 0))^afl R bj^aC^bt^j8 eP M bd^ë 1^ë 2^ë 3^ü 4 5) ?_;symm;right;ext Γ eT eZ Z;obtain⟨cb,j⟩:∃cb,cb=oq L cC:=Ŧ;rw[<-j]at bh;let bq:cb=ah->af9 A G T b0 c b8 eR:=λa=>by{ext Ι a bh};left;calc#[c,eT,î eZ,c,s,v,w,S,bk cC,"small",Ľ Z,ò cF cG b e0 e1 cc,ò cF A ag cG N cc];{nofun;let#[Ä D av,dA]:=(lJ.iff Z.aF).mp cF;let#[g,rfl,aM]:=lJ.said (Z.aF D cj) dA e0;let U:dq J cG c s v w (S+1) av:=afh Z e1;rw[Nu dA]at j;ext Ο e2 e3 U;let e8:agf D av:=r;left;calc#[c,e2,î e3,c,s,v,w,S+1,bk av,"great",Ľ U,ò cH cf gK e9 fa cg,ò cH A ag cf N cg];{nofun;let#[Ä O l,dC]:=(mO.iff U.aF).mp cH;let#[h,rfl,cI]:=mO.said (U.aF O cj) dC e9;let H:dq J cf c s v w (S+1+1) l:=afh U fa;let fb:agf O l:=r;let dH:=cc.and cg;ext aez cJ cf g D cg aM U;ext Υ j;rw[zG dC]at j;ext Ο dJ dK H;let dM:ŷ 35 l↔œ l="#":=aiM H.aF;left;calc#[c,dJ,î dK,c,s,v,w,S+1+1,_,Ľ H,r,?_];let fh:(decide (akn l "#"))=bT 35 l:=by{rwa[e4,decide_eq_true_iff,dM,#[λa=>ab.str.inj a,λa=>zL ab.str a]]};rw[fh];generalize ck:(ava l)=M at j;calc let br:hy:=(λbu aP=>∃cl,iB (bu=[Δ c g h,aa^.ah^bT 35 l,ah,ah]) (dq J aP c s v w cl M) (á c b8 aP) (ag8 M l) (aP g=aot D) (aP h=aot O));akt br;{ext Č bu aP bf;let#[cl,rfl,az,dQ,fi,dR,dS]:=bf;ext Ο fj fk az;calc ar3 dT 58 M ":" az;calc#[c,fj,î fk,c,s,v,w,cl,_,":",Ľ az,Ŷ bv cm fl bw A ag N];{ext ar4 cK dT bv j fm;let bx:=afj az cK fl;let dW:=dQ.and bw;ext aez dX cm g D bw dR az;ext aez dY cm h O bw dS az;calc#[c,s,v,w,cl+1,_,"great",po,r,mO,bx,ī (bV (W1:=3)^ai (aiX (akC (ai fm fi)^au fb) 1 e8) eS),λd1 aA d2 cM I cS d6 d7=>?_];let d8:=dW.and cS;ext aez d9 d1 g D cS dX bx;ext aez ea d1 h O cS dY bx;ext amb cU aA c a bx d6;ext Γ fs ft I;left;generalize gL:ef po (Ċ M 1)=fu at j cM I d7;ext Ϗ fv B fu;dsimp only at j cM I d7;calc ar3 eb 123 B "{" I;calc#[c,fs,î ft,c,s,v,w,d2,_,"{",Ľ I,Ŷ cX aK fw aV A ag N];{ext ar4 cZ eb cX j gM;let cn:=afj I cZ fw;let c0:=d8.and aV;ext aez fx aK g D aV d9 I;ext aez fE aK h O aV ea I;let eg:=aoJ cM aV I cU;ext amd e aY bI;let bM:=É cn bI;let c1:=ahk c0 bI;let eh:=aoN eg bI^by{simp};ext amb c3 e c a cn aY;nofun;let#[gN,fF,_]:=id eg;let fG:aA≠e:=ba fF aY;let fH:s≠e:=ba cn.av.lst aY;let c4:=bM.some c^by{simp};let ei:(Ž aK e) e≠ah:=by{rw[as];simp};let c7:avb aK e:=as;let c8:=bI g _ fx;let c9:=bI h _ fE;left;generalize gO:am aK e Ő=C at bM c1 eh c4 ei c7 c8 c9;calc let br:cW:=(λu bu T=>lZ λ(aZ V:Nat) (k:Ù) (x:Á) (p:List eY)=>azE bu c g h l aA e (u=k.length) J T s v w aZ k V B p x Y X o C (i0 L (akD B+1)^Ċ B 1=(i0 L V k).map λb=>(p++b.1,b.2)));#[br,#[_,d2+1,akD B+1,Ċ B 1,[],[],r,r,bM,jP _,a5 _,by{show 0+_<=3000;lia},c7,.nil,λ_ _ a _=>a,by cases i0 L (akD B+1)^Ċ B 1<;>rfl],?_];ext ϐ u bu em bf;let#[aZ,V,k,Ř x p,y,fI,fJ,fK,cs,da,a3,P]:=bf;let de:∀g bP,C g=Ű bP->g∉[c,e]:=λf bP a b=>by{ext aoO b;{ext Γ gV fL bM;left;ext ā b fL a};{ext akh b f e;ext ā b c7 a}};let fS:∀g∈[c,e],em g≠ah:=λf b=>by{ext aoO b;{rwa[b,y.some c^by simp]};{ext akh b f e;rw[b,cs];simp}};let en:á c b8 em:=λf W a Q=>a3 f W (c1 f W a Q) λb=>by{ext aoO b;{calc Q^by rw[b];simp};{ext akh b f e;let:=c0 f W a Q;ext af4 b aY}};ext aex V fT;ext Ο eo ep y;let eq:ŷ 125 k↔œ k="}":=aiM y.aF;left;calc#[c,eo,î ep,c,s,v,w,aZ,bk k,acY y];calc Õ a;{let fU:¬ŷ 125 k:=λb=>by{let a:aow (akn k "}"):=a;rw[eq.mp b,zJ r]at a;ext a};rw[N7 fU]at P;calc let br:hy:=(λer n=>lZ λ(bS ct:Nat) (z:Ù) (x:Á) (p:List eY)=>azE er c g h l aA e (ag7 z k) J n s v w bS z ct B p x Y X o C (i0 L (akD B+1)^Ċ B 1=(i0 L ct z).map λb=>(p++b.1,b.2)));#[br,λer n #[bS,ct,z,x,p,fV,fW,fX,fY,fZ,f0,f1,f2,f3,f9]=>#[z.length,fW,bS,ct,z,x,p,fV,r,fX,fY,fZ,f0,f1,f2,f3,f9],?_];calc#[Ŕ cs,c,s,v,w,aZ,k,L,r,y,?_];rcases es:pu L k with a|a;{rw[es]at P;dsimp only at P⊢;intro A G n N E;rw[P]at j;calc bq j A G n N^en.and E};{ext aoM bX z a es P;intro n cy bS ga cz E df;let ev:n e=à x:=ϒ E e cs c3;let gb:Ē x p:=bC da;calc#[e,x,cy,aoG ev gb (ai akB fK)];calc arX ew e n (x++[cy]) f W F Q b ex bP ey ev;ext avc di f c o C u c4;ext avc gc f e o C u ei;let dj:be (hU Y X (ń o C) n) x p:=ï da λez eA F=>ð F E y.aT di;let gd:hU Y X (ń o C) n cy bX:=ga.imp λcB F=>a3.none fS F;calc#[bS,V,z,x++[cy],p++[bX],r,df,avd cz ew c3 fH ex,ö^ē df 1 fI,Đ^ai df fJ,?_,as,bL.ay (op dj gd) λez eA F=>ð F ew ex gc,Ô f W F Q,?_];{ext ave bX};{let ge:f≠e:=ado b Q;let gf:f∉[c]:=λb=>Q^by{ext akh b f c;rw[b];simp};rwa[ao ge,E f W (a3 f W F Q) gf]};{rw[P];rcases i0 L V z with _|b;{rfl};{show aa (p++bX::b.1,b.2)=aa (p++[bX]++b.1,b.2);rw[fN];rfl}}}};{let a:œ k="}":=by{calc arH a (akn k "}")};calc aou dk eq a gg k "}";rw[N6 dk]at P;rw[P]at j;let j:cb=aa ({name:=D.text,pos:=D.pos,left:=Bk O,own:=bT 35 l,kids:=fv,rules:=p++[]},Ċ k 1):=j;rw[fd]at j;rw[j]at bh;calc#[c,eo,î ep,c,s,v,w,aZ,bk k,"}",ahi y n gh E aM gg];ext ar2 cz y dk gh eF en E gW;let gi:aA∉[c,e]:=λb=>by{ext aoO b;{calc cU b};{calc fG^by exists b}};let gj:=(ð eh a3 de gi).keep E y.aT^by{exists cU};let eH:=afe a3 g c8 de;let eI:=afe a3 h c9 de;let gk:=E g _ eH^y.aT g _ eH;let gl:=E h _ eI^y.aT h _ eI;ext avc di f c o C u c4;let gn:lE Y X (ń o C) n e p:=lE.keep E y.aT di (by exists c3) #[x,cs,da];calc(aoK bY G dr go);let bZ:aL n^ar5 n G bY a4^.ae a4 G^sU (["name","left","is_numbered","children","rules"]:Ĩ) [ø g,ø h,ab.ah^bT 35 l,ø aA,ø e]:=amc f W a dr go;let eJ:=acB bZ;let gr:aoL cB C b8:=λa=>agi c1 bM a;nofun;let#[gs,gt,dj]:=ð gn eJ ϧ (adt u)^by{simp};left;calc bh _ _ (aZ+1) #[bY,G,g,h,aA,e,r,as,bZ g _ gk,bZ h _ gl,ð gj eJ ϧ^by{simp},#[gs,gt,ï dj λez eA F=>F.imp λcB cD=>gr cD],agi eF cz dr,agi dW bx d6,agi c0 cn aY] (É cz bZ) (ahk eF bZ) ?_;lia}};{rw[aiQ a cX eb]at j;calc bq j A ag aK N^d8.and aV}};{rw[aiQ a bv dT]at j;calc bq j A ag cm N^dQ.and bw}};{calc aiP;calc Õ a;{let bv:aiG l "#":=ahj^dM.mp a;calc#[c,dJ,î dK,c,s,v,w,S+1+1,_,"#",ahi H aP gu du aM bv];rw[zG a]at ck;subst ck;let gv:=e7 _^dt a;calc#[S+1+1+1,r,afj H a gu,dH.and du,Đ gv,du g _ cJ^H.aT g _ cJ,du h _ cI^H.aT h _ cI]};{rw[zF a]at ck;subst ck;calc#[S+1+1,r,H,dH,a5 _,cJ,cI]}}};{calc bq ?_ A ag cf N^cc.and cg;rw[j];ext Ā av O l;{rfl};{calc zF λa=>cH^(mO.iff U.aF).mpr #[O,l,r,a]}}};{calc bq ?_ A ag cG N cc;rw[j];ext Ā cC D av;{rfl};{calc zF λa=>cF^(lJ.iff Z.aF).mpr #[D,av,r,a]}}
abbrev hX(a b:Nat)(c:Ù):Option aE:=match mA a b c with|.ok a=>aa a|ο=>ah
def L5:hX g (B+1) []=aa {}:=r
def L7(d:XH.great=af):hX g (B+1) (XH::Y)=(match pv g XH Y with|ş b a=>(hX g B a).map λc=>{c with syms:=b::c.syms}|ο=>ah):=by unfold hX;rw[mA,zG d];rcases pv g XH Y with c|c;{rfl};{let#[b,a]:=c;ext ahn;cases mA g B a<;>rfl}
def L6(e:¬XH.great=af):hX g (B+1) (XH::Y)=(match oq g (XH::Y)with|õ b a=>(hX g B a).map λd=>{d with prods:=b::d.prods}|ah=>ah):=by unfold hX oq;rw[mA,zF e];dsimp only;by_cases c:arL;{ext acQ c;rcases tG g XH Y with d|d;{rfl};{let#[b,a]:=d;ext ahn;cases mA g B a<;>rfl}};{ext Š c}
def Mu(a:arM="end"):Y=[]:=by ext ahg b c;{rfl};{let a:(cz b).kind="end":=a;ext arp a;{split at a;{calc zH a^show¬arm="end" by ext Û};{calc zH a^show¬arn="end" by ext Û}};{split at a;{calc zH a^show¬aro="end" by ext Û};{calc zH a^show¬arN="end" by ext Û}}}
inductive JT(i:ac)(j:ac)(k:ac)(l:ac)(m:ac)(a:þ)(b:ag)(n:ab)(f:aE):Prop|mk(c o d e g h:_)(_:n=À c)(_:b c=aa^.ae i o (akE d e))(_:b d=à g)(_:be (gY j a b) g f.syms)(_:b e=à h)(_:be (f' k l m a b) h f.prods)(_:a c)(_:a d)(_:a e)
abbrev BA(a b c d e:ac)(f:þ)(g:ag)(h:ab)(i:aE):Prop:=JT a b c d e f g h i
inductive Dv(d:ap)(j k l m n o:ac)(p:Á)(b:ag)(q:aA)(s:aY):Prop|mk(c e:_)(_:p=æ c)(_:b c=Ě e)(_:ahq e)(_:(∀f,tF e=.ok f->∀a g,BA k l m n o (ń c b) a g f->aL b a->azF f->q g a))(_:(∀t,tF e=Ϛ t->aoq h i a j b s))
def NT{aV C aX aY aZ a3 a4:ac}(l:Ö "read_text" 78 ["text"])(c9:akA aV C)(dK:acy "GREAT" "great")(dL:acy "END" "end")(dM:č 6 "tokens_of" ["text"]^Dx d aV)(dQ:aeB "Cursor" C ["self","tokens"]^CT C)(dR:č 6 "read_symbol" ["cursor"]^Ds d aV C a3)(dS:č 350 "read_production" ["cursor"]^Dk d aV C aX aY aZ)(dT:aeB "ReadText" a4 ["self","symbols","productions"]^kX a4 ["symbols","productions"]):č 351 "read_text" ["text"]^Dv d aV a4 a3 aZ aY aX:=l.aw λeL eO dW=>by calc ý dW ["text","cursor","symbols","productions"] ck eS I eT dX dY bS cl eZ;let#[l,M,s,d1,d2,a7,W]:=cl;calc š s da 6 bS;calc Ţ de 2 bS df 1;calc aoD (aq (Ò 1 ck^j8 dQ de bd^ak (ģ dM da^Ø 0) an)^agg 2 ck^agg 3 ck^aq (h7 gm (aiC (al7 c9 1 df) (bG dL))^aC^ad3 (al7 c9 1 df) (bG dK) (aiU 2 (ģ dR da^Ø 1))^aiU 3 (ģ dS bS^Ø 1))^aC^bt^j8 dT de bd^ü 2 3);unfold tF at a7 W;calc#[l,M,r,d1,d2,λP d6 bf D av d7 d8 d9 e0 X e1=>?_,λa ea Y u bf bq X=>W a (by rw[ea];rfl) Y u bf bq X];rw[d6]at a7 W;dsimp only[bind,hH]at a7 W;nofun;obtain⟨az,cm⟩:∃az,az=ame M (Ŏ P) P:=Ŧ;let a7:∀J,az=aa J->∀o L,BA a4 a3 aZ aY aX (ń l I) o L J->aL I o->azF J->dX L o:=λJ a=>by{calc a7 J ?_;rw[cm]at a;unfold hX at a;split at a;{rename_i s;ext a;calc s};{ext a}};let W:az=ah->aoq Y u o aV I dY:=λa=>by{rw[cm]at a;unfold hX at a;ext Ĳ a;{rename_i c s;calc W c s}};left;intro h u bU eb e2;calc#[h,u,D,r,as,r,?_];let Z:aL bf^ar5 bf u h C^.ae C u^io D 0:=amc di j a bU eb;let dj:(ar5 bf u h C^.ae C u^io D 0) h=aa^.ae C u^io D 0:=as;generalize am (am (am bf u (.own h)) h (.ae C u [])) h (.ae C u (io D 0))=cn at Z dj;let cs:dq C cn h D av (aoi P) 0 P:=#[#[#[u,dj],Z D _ d7,aD.dD Z d8],by{unfold hT;rw[z5]},d9];ext amd g aA br;let ct:avb cn g:=as;let bX:=É cs br;generalize am cn g Ő=dk at br ct bX;ext amd e R bY;let cy:avb dk e:=as;let cB:=É bX bY;let cC:=bY g _ ct;generalize am dk e Ő=y at bY cy cB cC;let dr:aL I y:=Ë X^Ë Z^Ë br bY;ext amb cD g h a cs aA;ext amb cF e h a bX R;let dt:e≠g:=Ę a ct R;let eg:D≠g:=ba cs.av.lst aA;let eh:D≠e:=ba bX.av.lst R;let cG:∀b∈[h,g,e],¬(ń l y) b:=λb f=>by{ext avf f;{rwa[f,cB.some h^by simp]};{rw[f];show¬y g=ah;rw[cC];simp};{rw[f];show¬y e=ah;rw[cy];simp}};calc let cH:cW:=(λf du o=>qd λ(Q E:Nat) (p:Ù) (z A:Á) (v:ahv) (w:List bs)=>azG du l h g e (f=p.length) C o D av P Q p E v w z a3 y A aZ aY aX (aJ [h,g,e] y o) (az=(ame M E p).map λJ=>{syms:=v++J.syms,prods:=w++J.prods}));#[cH,#[_,0,Ŏ P,P,[],[],[],[],r,r,cB,jP _,by{show 0+0+_<=3000;lia},cC,.nil,cy,.nil,λ_ _ a _=>a,by rw[cm];cases ame M (Ŏ P) P<;>rfl],?_];ext ϐ f du bu cl;let#[Q,E,p,z,A,Ř v w,F,dv,bZ,bv,b0,bw,b6,bh,x]:=cl;ext aex E bx;ext Ο dz dA F;let cI:∀di∈[h,g,e],bu di≠ah:=λb f=>by{ext avf f;{rwa[f,F.some h^by simp]};{rw[f,bv];simp};{rw[f,bw];simp}};let cJ:∀{n},aJ [h,g,e] bu n->aL I n:=λbx b j a=>by{let B:b∉[h,g,e]:=λf=>by{ext avf f;{rw[f]at a;rw[X h j a]at bU;ext bU};{rw[f]at a;rw[Z g j^X g j a]at aA;ext aA};{rw[f]at a;rw[br e j^Z e j^X e j a]at R;ext R}};calc bx b j (bh b j (dr b j a) B) B};let b8:∀{n dC:ag},á h n dC->aJ [h,g,e] n dC:=λbx b j a B=>bx b j a λf=>B^bK.mpr^.inl^ċ f;let e3:ahd b aK bu h:=F.aT;let ca:∀b∈[h],¬(ń l y) b:=λb f=>cG b^bK.mpr^.inl^ċ f;left;calc#[h,dz,î dA,h,D,av,_,Q,bk p,acY F];calc Õ a;{let ei:¬aey p="end":=arG k a (ab.str (aey p)=ab.str "end");nofun;ext azH G H p ei;let cK:agf G H:=r;left;calc let cH:hy:=(λdH o=>qd λ(Q E:Nat) (p:Ù) (z A:Á) (v:ahv) (w:List bs)=>azG dH l h g e (p.length<(G::H).length) C o D av P Q p E v w z a3 y A aZ aY aX (aJ [h,g,e] y o) (az=(ame M E p).map λJ=>{syms:=v++J.syms,prods:=w++J.prods}));#[cH,λdH o #[Q,E,p,z,A,v,w,em,en,eo,ep,eq,er,es,ev,ew,ex,ey]=>#[p.length,en,Q,E,p,z,A,v,w,em,r,eo,ep,eq,er,es,ev,ew,ex,ey],?_];calc#[h,dz,î dA,h,D,av,_,Q,bk (G::H),acY F];let ez:Ē z v:=bC b0;let eA:Ē A w:=bC b6;calc Õ cM;{nofun;let#[e7,e8,aM,cb]:=(mO.iff F.aF).mp^afi cM;left;ext aM;rw[L7 cb]at x;calc#[Ŕ bv,h,D,av,_,Q,G,H,M.length,r,F,cb,ö^ai (Ō cK^ϡ) bZ,?_];rcases s:pv M.length G H with c|c;{rw[s]at x;calcλY u n bq cS=>W x Y u n bq^cJ^b8 cS};{ext aoM N bI c s x;intro n L cU cX cZ O bM;let cc:n g=à z:=ϒ O g bv cD;let cf:n e=à A:=ϒ O e bw cF;calc#[g,z,L,aoG cc ez (ai (ai akB^akB) bZ)];calc arX S g n (z++[L]) b j c B k aP aK aM cc;let bO:∀b∈[g],¬(ń l y) b:=λb f=>cG b^bK.mpr^.inr^bK.mpr^.inl^ċ f;let c0:=ï b0 λT U c=>gY.keep O F.aT ca c;let c1:=ï b6 λT U c=>f'.keep O F.aT ca c;let c3:gY a3 (ń l y) n L N:=cX.imp λV c=>bh.none cI c;calc#[cU,E,bI,z++[L],A,v++[N],w,r,ē bM 1^au cK,avd cZ S cD eg aP,ö^Ĭ (ē bM 1^au cK) dv,?_,as,bL.ay (op c0 c3) λT U c=>gY.keep S aP bO c,ϒ S e cf dt,ï c1 λT U c=>f'.keep S aP bO c,Ô b j c B,?_];{ext ave N};{let c4:b≠g:=ado k B;rwa[ao c4,b8 O b j (bh b j c B) B]};{rw[x];rcases ame M E bI with _|k;{rfl};{show aa^wK (v++N::k.syms) (w++k.prods)=aa^wK (v++[N]++k.syms) (w++k.prods);rw[fN];rfl}}}};{let cb:¬G.great=af:=λk=>cM^zJ^zL ab.str^(mO.iff F.aF).mpr #[G,H,r,k];rw[L6 cb]at x;calc#[Ŕ bw,h,D,av,_,Q,G::H,M.length,r,F,ai ϡ bZ,?_];rcases s:oq M.length (G::H)with _|c;{rw[s]at x;calcλY u n bq cS=>W x Y u n bq^cJ^b8 cS};{ext aoM N bI c s x;intro n L cU cX cZ O bM;let cc:n g=à z:=ϒ O g bv cD;let cf:n e=à A:=ϒ O e bw cF;calc#[e,A,L,aoG cf eA (ai (ai ϡ^akB) bZ)];calc arX S e n (A++[L]) b j c B k aP aK aM cf;let bO:∀b∈[e],¬(ń l y) b:=λb f=>cG b^bK.mpr^.inr^bK.mpr^ÿ f;let c0:=ï b0 λT U c=>gY.keep O F.aT ca c;let c1:=ï b6 λT U c=>f'.keep O F.aT ca c;let c3:f' aZ aY aX (ń l y) n L N:=cX.imp λV c=>bh.none cI c;calc#[cU,E,bI,z,A++[L],v,w++[N],r,bM,avd cZ S cF eh aP,ö^ē bM 1 dv,?_,S g _ cc^by{exists ci dt},ï c0 λT U c=>gY.keep S aP bO c,as,bL.ay (op c1 c3) λT U c=>f'.keep S aP bO c,Ô b j c B,?_];{ext ave N};{let c4:b≠e:=ado k B;rwa[ao c4,b8 O b j (bh b j c B) B]};{rw[x];rcases ame M E bI with _|k;{rfl};{show aa^wK (v++k.syms) (w++N::k.prods)=aa^wK (v++k.syms) (w++[N]++k.prods);rw[fN];rfl}}}}};{let eF:aey p="end":=by{calc arH a (ab.str (aey p)=ab.str "end")};nofun;obtain rfl:=Mu eF;rw[L5]at x;let x:az=aa {syms:=v++[],prods:=w++[]}:=x;rw[fd,fd]at x;left;calc(aoK bj bP c7 eH);let cg:aL bu^ar5 bu bP bj a4^.ae a4 bP^azI g e:=amc b j a c7 eH;let dJ:=acB cg;let c8:aoL V y I:=λ{V} c=>by{ext afn s I V j dr c};let eI:I bj=ah:=c8^bh.none cI c7;let eJ:I g=ah:=by{ext afm s I g j;{rw[Z g j^X g j s]at aA;ext aA}};let eK:I e=ah:=by{ext afm s I e j;{rw[br e j^Z e j^X e j s]at R;ext R}};calc a7 _ x _ _ #[bj,bP,g,e,z,A,r,as,cg g _ bv,ï b0 λT U c=>(gY.keep dJ ϧ (adt f) c).imp λV s=>c8 s,cg e _ bw,ï b6 λT U c=>(f'.keep dJ ϧ (adt f) c).imp λV s=>c8 s,eI,eJ,eK] (cJ^aD.keep cg) ?_;show adW v w<=3000;lia}
def kS(b:afN)(i:b 0 Xf h)(l:∀a Xf h,agQ a->b a Xf h->aw d h f O)(m:∀a e c Xf h,O[a]?=aa e->b a Xf h->h c=ah->XW (À c) Xf (am h c^.tup [Ê a,e])^alk b a)(n:∀Xf h,b O.length Xf h->Yk.a0 Xf h):ajK Xf (uR d f) h:=by calc#[λa g Xf h=>g=O.length-a/\agQ a/\b a Xf h,#[O.length,ah7,i],?_];rintro a g Xf h ⟨rfl,j,g⟩;let i:=l a Xf h j g;by_cases k:a<O.length;{calc è #[#[O,O[a],i,by simp[k]],alm b a b (O.length-(a+1)) k e b];let#[Ä c e,l,rfl,o]:=b;calc m a e c Xf h (o O i) g l};{calc ar6 b a j k i (n Xf h g)}
inductive JN(b:ap)(c:ag)(g:ab)(h:Ã):Prop|mk(d a i e f:_)(_:g=À d)(_:c d=aa^.ae a i e)(_:g5 b a)(_:e1 b a "name")(_:e.lookup ("name":al)=aa^ø f)(_:c f=Ě h)
abbrev pB(a:ap)(b:ag)(c:ab)(d:Ã):Prop:=JN a b c d
def pB.same(a:ŧ)(e:pB d h W4 D):pB d V W4 D:=by let#[b,f,g,i,c,j,k,l,m,n,o]:=e;calc#[b,f,g,i,c,j,a b _ k,l,m,n,a c _ o]
inductive pP(d:ap)(g:ac)(h:Á)(c:ag)(i:aA)(j:aY):Prop|mk(a:_)(_:h=[.ah a])(_:(a=af->i .ar c))(_:(a=ay->∀e f b,dy d g (-3) e f b->aL c b->j e f b))
def NX(a:Ö "require" 94 ["holds"])(b:ϑ f "NoGrammar" (-3)):č 4 "require" ["holds"]^pP d f:=a.aw λa a a=>by calc ý a ["holds"] a a a a a a a c e;let#[e,g,h,j]:=c;calc Ş g (aC^acz (zj^fc^ae 0) b a);calc aiP;ext acM e;{calcλa b c e g=>j r a b c e g};{calc h r}
abbrev j6:adU->ab|ah=>.ar|aa a=>Ê a
inductive ub(d:ap)(i:Á)(a:ag)(j:aA)(l:aY):Prop|mk(b c e f g:_)(_:i=acE b c)(_:a b=Ě e)(_:a c=à f)(_:be (pB d a) f g)(_:∀h,aL a h->j (j6^aoP g k e) h)
variable{Yr:List (List Nat)}
def K3(d:∀b a,b<g->Yr[b]?=aa a->a≠D)(a:Ã)(c:Yr[g]?=aa a)(e:a=D):Yr.findIdx? (λa=>a==D)=aa g:=by rw[l5];let#[a,f]:=ľ c;calc#[a,by{rw[f,e];simp},Â b c];let:=d b Yr[b] c^bi^acT c a;exists this
def MX(f:Ö "number_named" 93 ["name","named"])(H:c9 m):ar7:=f.aw λaz aA I=>by calc ó I ["name","named","number","candidate"] C aM J aU L g;let#[D,f,l,v,w,x,M,E,F,G]:=g;calc Ş x (aq (avg (adu H^ŵ 1) (aky 2 C) 3 C^auX L (Ϩ 3) 0 (aiS 2))^aC^bt gz);let N:Ē v w:=bC F;calc#[f,v,r,ę E,?_];calc let O:cW:=(λn o h=>lY λy z=>gj (o=[È D,È f,y,z]) (aL J h) (∀e a,e<n->é w e a->a≠l));kS (O:=v) O #[_,_,r,Ķ c,ahw e a b] (λn o h _ #[ů j,_]=>Ć j f E) ?_ ?_;{intro n P Q o h R g S;nofun;let#[Ä y z,j,p]:=g;let s:=Ë j^ac1 [Ê n,P] S;let#[a,u,T]:=cK F R;let#[U,V,W,Ä X aX,Y,Z,ab,ag,am]:=É T s;left;calc#[Q,aiY,?_];calc#[U,V,W,X,_,r,Y,Z,ab,ag,xe (D:=a) am (s D _ M) aiP];calc Õ c;{let c:a=l:=zI c;let A:=K3 p a u c;let k:=G _ s;rw[A]at k;calc(k)};{let c:¬a=l:=adr ao c;calc#[Ŝ s,Ô e av b B];rcases Nat.lt_succ_iff_lt_or_eq.mp b with b|b;{calc p e av b B};{ext acK b u B;calc c}}};{ext Č o h g;let#[Ä y z,j,p]:=g;let k:=G h j;let A:w.findIdx? (λa=>a==l)=ah:=by{rw[G0];intro a u;nofun;ext acF e b x u;let:=p e a (ĺ b N)^by{rw[bi b,x]};left;exists this};rw[A]at k;left;calc k}
abbrev fZ(b:Ã)(a:Nat):afo:=aoQ a (λa=>avh b a b)
abbrev aK(a:Ã):afo:=fZ a a.length
abbrev cm(a:Ã)(b:Nat):Nat:=(Ğ a b).sum
def p1(a:Ã)(b:Nat):cm a (b+1)=cm a b+Ϟ a b:=by unfold cm;rw[dE,List.sum_append,dN];cases a[b]?<;>simp
def pZ(b:Ã)(a:Nat):fZ b (a+1)=fZ b a++avh b a c:=by unfold fZ;rw[hg,l6];simp
def m2(b:Ã):∀a,(fZ b a).length=cm b a|0=>by{simp[fZ,cm]}|a+1=>by rw[pZ,cO,m2 b a,p1];simp
def uH(a:Ã)(b:g<=B):cm a g<=cm a B:=by induction b with|refl=>{calc a5 _}|step _ a=>calc ds a^by rwa[p1,ġ]
def p0(a:Ã):cm a a.length=a.sum:=by unfold cm;rw[d0]
def g3(a:Ã):(aK a).length=a.sum:=by unfold aK;rw[m2,p0]
variable{Yu:Nat×Nat}
def uD:Yu∈fZ D g↔Yu.1<g/\Yu.2<D.getD Yu.1 0:=by unfold fZ;simp only[hJ,eC,bE];constructor;{rintro⟨a,a,b,b,rfl⟩;calc#[a,b]};{ext acU a b;calc#[Yu.1,a,Yu.2,b,r]}
def hs:aoR↔Yu.1<D.length/\Yu.2<D.getD Yu.1 0:=uD
abbrev aM(b:Ã)(a:aeC):Nat:=cm b a.1+a.2
def Ek{d:Ã}:∀{b:Nat}{a:aeC},a∈fZ d b->(fZ d b)[aM d a]?=aa a|0,a,c=>zH (uD.mp c).1^fO _|b+1,a,c=>by let#[f,e]:=uD.mp c;rw[pZ];by_cases c:a.1<b;{let:=Ek (uD.mpr #[c,e]:a∈fZ d b);rwa[lb (bp.mp this).1,this]};{let c:a.1=b:=bX (ö f)^c8 c;unfold aM;rw[c,lc^by{rwa[m2,ġ]},m2,Ah,b9,qB^by rwa[<-c,e]];rw[<-c];rfl}
def lQ(a:aoR):(aK D)[aM D Yu]?=aa Yu:=Ek a
def ht(a:aoR):aM D Yu<D.sum:=by rwa[<-g3,(bp.mp^lQ a).1]
variable{aa5:Nat×Nat}
def iv(b:aoR)(c:aa5∈aK D)(d:aM D Yu=aM D aa5):Yu=aa5:=by let a:=lQ b;rw[d,lQ c]at a;calc ŝ a
def Eu{d:Ã}:∀{e b:Nat}{c:aeC},(fZ d e)[b]?=aa c->b=aM d c|0,b,c,a=>by{simp[fZ]at a}|e+1,b,c,a=>by rw[pZ]at a;by_cases k:b<(fZ d e).length;{rw[lb k]at a;calc Eu a};{rw[lc^c8 k,b9]at a;ext ό b b a;let#[a,a]:=ľ b;rw[np]at a;unfold aM;rw[m2]at a k;dsimp only;omega}
def lT(a:(aK D)[g]?=aa Yu):g=aM D Yu/\aoR:=#[Eu a,cq a]
def yp(a:g<D.sum):∃b,b∈aK D/\aM D b=g:=by rw[<-g3]at a;let#[b,c]:=lT^bi a;calc#[_,c,b.symm]
def yf{i:Type}{e f:i->Bool}:∀{b:ì i},(∀a∈b,e a=af->f a=af)->ar8 b e=ar8 b f->∀a∈b,e a=f a|[],_,_,a,d=>by{ext d}|h::j,d,g,a,c=>by let k:∀b:ì i,(∀a∈b,e a=af->f a=af)->ar8 b e<=ar8 b f:=by{intro b;induction b with|nil=>{intro _;calc a5 _}|cons i b b=>intro d;ext azJ b a c d b i};let i:=k j (γ a c d);let j:=d h cj;rw[eM,eM]at g;let i:e h=f h:=by{rcases b:e h with _|_;{rcases e:f h with _|_;{rfl};{rw[b,e]at g;simp only[if_true,fy,if_false,ce]at g;lia}};{calc(j b).symm}};ext afY c;{calc i};{calc yf (γ a c d) ?_ a c;rw[i]at g;split at g;{exists g};{calc g}}
def D6{f:Type}(b:ì f)(c:Nat->f->Bool)(e:∀a,∀d∈b,c a d=af->c (a+1) d=af):∃a,a<=b.length/\∀d∈b,c a d=c (a+1) d:=by by_cases k:∃a,a<=b.length/\(b.filter^c a).length=(b.filter^c (a+1)).length;{let#[a,f,g]:=k;calc#[a,f,yf (e a) g]};{exfalso;let h:∀a,(b.filter^c a).length<=(b.filter^c (a+1)).length:=by{intro a;let f:=e a;generalize c a=l at f;generalize c (a+1)=n at f;clear k e;induction b with|nil=>{calc a5 _}|cons e b g=>ext azJ g d i f d e};let i:∀a,a<=Ŏ b->a<=(b.filter^c a).length:=by{intro a;induction a with|zero=>{intro _;calc bF _}|succ a g=>intro f;let e:=g^cX (ö f) 1;let d:=h a;let g:(b.filter^c a).length≠(b.filter^c (a+1)).length:=λh=>k #[a,ö f,h];calc ē e 1^eT d g};let e:=i (Ŏ b)^a5 _;let d:=ky (c (Ŏ b)) b;calc fL e^η^ai (Ĭ (ai (ē d 1 e) d) e) d}
variable{aci:Vaattb.Flaw}
def m0:Vaattb.iff YL aci=[]↔YL=ay:=by unfold Vaattb.iff;ext YL<;>simp
def r5{d:Type}(c:d->cV):∀(b:ì d),(∀a f,é b a f->rc c b a^c f=ay)↔(b.map c).Nodup:=by intro b;unfold rc;rw[GQ,qH];constructor;{intro g a d h c e e;rw[aI]at h c;let:=g d b[d]^bi c;rw[sK]at this;calc this b[a] (sS.mpr #[a,by{omega},r]) ?_;rw[lf,lf]at e;rwa[e,ύ]};{intro g a f b;rw[sK];intro f f e;let#[d,c,rfl]:=sS.mp f;let#[h,rfl]:=ľ b;calc g d a (by rwa[aI,Đ^Ĭ (ai c^acG) h]) (by rw[aI];omega) (ai c^acG) ?_;rwa[lf,lf,ρ e]}
abbrev eQ(a:dV):List cV:=a.downs.map fq++a.ups.map fq
abbrev kc(b:dV):List (cV×Bool):=b.downs.map (λa=>(a.name,af))++b.ups.map^λa=>(a.name,ay)
def ut(a:dV):(kc a).map gp=eQ a:=by unfold kc eQ;rw[cA,dZ,dZ];rfl
def Ei:∀(a:List (cV×Bool))(b:List cV),(a.map gp).Nodup->(∀c∈a,c.1∉b)->Vaattb.firsts b a=a|[],_,_,_=>r|c::e,b,a,d=>by unfold Vaattb.firsts;rw[zF^by exists d c cj];rw[dg,jN]at a;rw[Ei e (c.1::b) a.2 (Â c e)];rw[bK];rintro(b|b);{calc a.1^bE.mpr #[c,e,b]};{calc d c (cu _ e) b}
variable{Zj:dV}
def x'(b:(eQ Zj).Nodup):Zj.attrs=kc Zj:=Ei _ _ (by let a:=ut Zj;unfold kc at a;rwa[a,b]) λ_ _=>by simp
structure b8(a:ahv):Prop where(one:1<=a.length)(most:a.length<=12)(cc:(a.map ps).Nodup)(aM:∀b∈a,aiZ b<=4)(c0:∀b∈a,(eQ b).Nodup)
def b8.attrs{b:ahv}(c:b8 b){a:dV}(d:a∈b):a.attrs=kc a:=x'^c.c0 a d
structure ur(b:aE)(a:bs):Prop where(a7:∀f∈agj a,(jq b f.name).isSome=af)(kids:afp a)(rules:a.rules.length<=24)(cl:∀d c,ahx a d c->re b a c d=[]/\tE b a c=[])(d8:∀e∈tD b a,(tI a).contains (e.1,e.2.2)=af)
structure rQ(a:aE):Prop where(syms:ac5 a)(most:a.prods.length<=24)(cc:(aoS a).Nodup)(prods:∀b∈a.prods,ur a b)(dw:∀c∈a.syms,aoT (rd a) c=af)
def rT{c:Type}{d:ì c}{e:c->Nat->List Vaattb.Flaw}:(d.zipIdx.flatMap λa=>e a.1 a.2)=[]↔∀b a,é d b a->e a b=[]:=by rw[G2];constructor;{intro c b a d;calc c (a,b)^vU.mpr d};{rintro c ⟨a,b⟩ d;calc c b a^vU.mp d}
def uy{c:Type}{a:ì c}:(∀b d,é a b d->ak5 (g<=b))↔a.length<=g:=by constructor;{intro c;by_cases k:g<a.length;{let:=c g a[g]^bi k;simp at this};{calc c8 k}};{intro c b d a;let:=ä a;calc zK^jh^ϙ c}
variable{z:aE}
def P1:(∀b a,z.prods[b]?=aa a->wN z a b=[])↔z.prods.length<=24/\(z.prods.map mz).Nodup/\∀a∈z.prods,ur z a:=by let f:∀b a,wN z a b=[]↔rc mz z.prods b a.name=ay/\ak5 (24<=b)/\ur z a:=by{intro b a;unfold wN;simp only[qz,m0];rw[rT (e:=λc b=>re z a c b++tE z a c)];simp only[qz,G2,m0];constructor;{rintro⟨⟨⟨⟨⟨⟨d,e⟩,h⟩,i⟩,k⟩,l⟩,c⟩;let g:afp a:=sV^ad9 i;rw[zF^by unfold Vaattb.mostKids;calc k' g]at c;calc#[d,e,λi j=>by{exists h i j},g,sV^ad9 k,l,λk g=>by exists c k g]};{ext ĳ d e c;calc#[#[#[#[#[#[d,e],λi j=>by exists c.a7 i j],?_],?_],c.cl],Â k g];{calc zK^s2.mpr c.kids};{calc zK^s2.mpr c.rules};{rw[zF^by let:=c.kids;unfold Vaattb.mostKids;calc k' this]at g;exists c.d8 k g}}};constructor;{intro g;calc#[uy.mp λb a c=>((f b a).mp^g b a c).2.1,(r5 _ _).mp λb a c=>((f b a).mp^g b a c).1,Â a c];ext agk b i c;calc((f b _).mp^g b _^bi i).2.2};{rintro⟨d,e,h⟩ b a c;calc(f b a).mpr #[(r5 _ _).mpr e b a c,uy.mpr d b a c,h a^cq c]}
variable{Zc:List (cV×Nat)}
def EQ(j:z.syms≠[]):(∀b a,agl b=aa a->wO z Zc a b=[])↔ą/\∀a∈z.syms,aoU a:=by let f:∀b a,wO z Zc a b=[]↔rc ps z.syms b a.name=ay/\(eQ a).Nodup/\aiZ a<=4/\ak5 (12<=b)/\(! rc ps z.syms b a.name&&(hl Zc a.name).isNone)=ay:=by{intro b a;unfold wO;simp only[qz,m0];rw[rT (e:=λ(k:Vaattb.Named) b=>Vaattb.iff (rc fq (a.downs++a.ups) b k.name) {pos:=k.pos,code:=12})];simp only[m0];rw[r5,cA];constructor;{rintro⟨⟨⟨⟨e,c⟩,d⟩,g⟩,h⟩;calc#[e,c,?_,g,h];rw[x' c]at d;let i:(kc a).length=aiZ a:=by{rw[<-ut,aI]};rwa[<-i,sV^ad9 d]};{rintro⟨e,c,d,g,h⟩;calc#[#[#[#[e,c],?_],g],h];rw[x' c];let i:(kc a).length=aiZ a:=by{rw[<-ut,aI]};rwa[i,zK^s2.mpr d]}};constructor;{intro d;let g:∀a∈z.syms,∃b,agl b=aa a:=λa c=>by{ext agk b e c;calc#[b,bi e]};calc#[#[?_,uy.mp λb a c=>((f b a).mp^d b a c).2.2.2.1,(r5 _ _).mp λb a c=>((f b a).mp^d b a c).1,Â a c,Â a c],Â a c];{rcases i:z.syms with _|⟨h,l⟩;{calc zH i j};{simp}};{let#[b,e]:=g a c;calc((f b a).mp^d b a e).2.2.1};{let#[b,e]:=g a c;calc((f b a).mp^d b a e).2.1};{let#[b,e]:=g a c;let h:=(f b a).mp^d b a e;let e:=h.2.2.2.2;rw[h.1]at e;exists e}};{rintro⟨e,d⟩ b a c;let g:=cq c;let h:=(r5 _ _).mpr e.cc b a c;calc(f b a).mpr #[h,e.c0 a g,e.aM a g,uy.mpr e.most b a c,?_];rw[h];exists d a g}
def Eh:(Vaattb.rawFlaws z g).isEmpty=af↔rQ z:=by rw[G6];unfold Vaattb.rawFlaws;dsimp only;rw[qz,qz,m0,rT (e:=λb a=>wO z (rd z) b a),rT (e:=λb a=>wN z b a),P1];constructor;{rintro⟨⟨a,c⟩,d,e,f⟩;let b:z.syms≠[]:=by{exists a};let#[a,h]:=(EQ b).mp c;calc#[a,d,e,f,h]};{rintro a;let b:z.syms≠[]:=λc=>by{let:=a.syms.one;rw[c]at this;simp at this};calc#[#[by{exists b},(EQ b).mpr #[a.syms,a.dw]],a.most,a.cc,a.prods]}
def r0{c:Type}(a:c->Bool):∀b:ì c,b.find? a=(b.findIdx? a).bind λd=>b[d]?|[]=>r|c::b=>by rw[jk,List.findIdx?_cons];rcases a c with _|_;{dsimp only;rw[r0 a b];cases b.findIdx? a<;>rfl};{rfl}
def r2{a:Type}{b:a->Bool}{c:ì a}(e:c.findIdx? b=aa g):∃d,c[g]?=aa d/\b d=af:=by let#[a,b,_]:=l5.mp e;calc#[_,bi a,b]
abbrev cc(a:aE)(b:Nat):List cV:=((a.syms[b]?).map eQ).getD []
abbrev d7(a:aE)(b:Nat):Nat:=((a.syms[b]?).map λa=>a.downs.length).getD 0
abbrev bq(b:aE)(a:bs):Ã:=(agj a).map λa=>(ahy b a).getD 0
abbrev az(a:aE)(b:bs):Ã:=(bq a b).map λb=>acH a b
def er(b:aE)(a:bs):(bq b a).length=a.kids.length+1:=by unfold bq;rw[aI,ce]
def i7(b:aE)(a:bs):amf b a=a.kids.length+1:=by unfold az;rw[aI,er]
def yv(b:bs)(a:Nat):b.sym a=((agj b)[a]?).map fq:=by unfold Vaattb.Production.sym;ext adH a;{rfl};{rfl}
def yu(a:aE)(b:cV):jq a b=(dp a b).bind λc=>a.syms[c]?:=r0 _ _
variable{YJ:cV}
def p3(c:dp z YJ=aa g):g<z.syms.length/\∃a,aoV=aa a/\a.name=YJ:=by let#[a,b,d]:=r2 c;calc#[ä b,a,b,ρ d]
def uJ(a:avi):(dp z YJ).isSome=af:=by rw[yu]at a;rcases b:dp z YJ with _|c;{ext Æ b a};{rfl}
def Qh(b:(dp z YJ).isSome=af):avi:=by rw[yu];let#[c,a]:=f4.mp b;let#[_,b,b,_]:=p3 a;rw[a];show(agl c).isSome=af;rw[b];rfl
@[reducible]abbrev cs(b:aE)(a:bs):Prop:=∀c∈agj a,(jq b c.name).isSome=af
variable{p:bs}
def m3(b:į)(a:Nat):Vaattc.symAt z p a=(ϩ)[a]?:=by unfold Vaattc.symAt bq;rw[yv,b9];rcases c:(p.left::p.kids)[a]?with _|a;{rfl};{let:=uJ^b a^cq c;show dp z a.name=aa^avj a;let#[a,a]:=f4.mp this;rw[a];rfl}
def lU(b:į)(a:aoW=aa B):B<z.syms.length:=by rw[<-m3 b]at a;unfold Vaattc.symAt at a;rcases b:p.sym g with _|c;{ext Æ b a};{rw[b]at a;calc(p3 a).1}
def oz(b:į)(a:Nat):jZ z p a=((ϩ)[a]?).map^fg z:=by rw[<-m3 b];unfold jZ Vaattc.symAt fg;rcases b:p.sym a with _|a;{rfl};{show(jq z a).map n1=(dp z a).map _;rw[yu];rcases b:dp z a with _|a;{rfl};{let#[_,c,c,_]:=p3 b;show(agl a).map n1=aa^((agl a).map n1).getD [];rw[c];rfl}}
def DX(b:ą)(a:Nat):fg z a=((agl a).map kc).getD []:=by unfold fg;rcases c:agl a with _|a;{rfl};{show a.attrs=kc a;calc b.attrs^cq c}
def ya(b:ą)(a:Nat):(fg z a).map gp=cc z a:=by rw[DX b];unfold cc;rcases b:agl a with _|a;{rfl};{calc ut a}
def k3(b:ą)(a:Nat):(fg z a).length=ahz a:=by rw[<-ya b,aI]
def Pt(b:ą)(a:Nat):(cc z a).Nodup:=by unfold cc;rcases c:agl a with _|a;{calc li};{calc b.c0 a^cq c}
def k2(b:ą)(a:Nat):ahz a<=4:=by unfold cc;rcases c:agl a with _|a;{calc bF _};{calc b.aM a^cq c}
variable{aaz:cV×Bool}
def rU(b:ą)(a:(fg z g)[B]?=aa aaz):aaz.2=avk:=by rw[DX b]at a;unfold d7;rcases d:aoV with _|b;{ext ajz d a};{rw[d]at a;let a:(kc b)[B]?=aa aaz:=a;show aaz.2=decide (B<b.downs.length);unfold kc at a;by_cases c:B<b.downs.length;{rw[lb^by{rwa[aI,c]},b9]at a;let#[b,_,rfl]:=acR a;calc(zJ c).symm};{rw[lc^by{rwa[aI,c8 c]},b9]at a;let#[b,_,rfl]:=acR a;calc(zK c).symm}}
def uA(b:ą)(a:B<ar9):Vaattc.isDown z g B=avk:=by rw[<-k3 b]at a;unfold Vaattc.isDown;rwa[bi a,rU b^bi a]
def uB(b:ą)(a:B<ar9):Vaattc.isUp z g B= ! avk:=by rw[<-k3 b]at a;unfold Vaattc.isUp;rwa[bi a,zL (!·)^rU b^bi a]
def x9(c:ą)(a:Nat)(b:cV):j0 (fg z a) b=(cc z a).findIdx? λd=>d==b:=by unfold j0;rw[<-ya c,sM];rfl
def i6(a:aE)(b:bs)(c:Nat):(az a b).getD c 0=(((bq a b)[c]?).map λd=>acH a d).getD 0:=by unfold az;rw[dN,b9]
def r6(b:ą)(a:į):ik z p=aK^ţ:=by unfold ik aK fZ tM;rwa[i7,zL (λc=>G1 c _)^funext (Í c)];rw[i6,oz a];rcases(ϩ)[c]?with _|a;{rfl};{show(bB (fg z a).length).map _=(bB (ahz a)).map _;rw[k3 b]}
def pY(c:ą)(d:į)(a:akF):Ε a=((ϩ)[a.1]?).bind λb=>((cc z b).findIdx? λe=>e==a.2).map λf=>(a.1,f):=by unfold c6;rw[oz d];rcases(ϩ)[a.1]?with _|b;{rfl};{show Am _^j0 (fg z b) a.2=Am _ _;rw[x9 c]}
variable{Zd:Nat×cV}
def lS(b:ą)(c:į)(a:Ε Zd=aa W0):W0∈aK^ţ:=by rw[pY b c]at a;rcases b:(ϩ)[Zd.1]?with _|c;{ext Æ b a};{rw[b]at a;ext ό c c a;calc hs.mpr #[?_,?_];{rwa[i7,<-er z p,ä b]};{rw[i6];dsimp only;rwa[b,(l5.mp c).1]}}
variable{aaA:Nat×cV}
def Et(i:ą)(j:į)(a:Ε Zd=aa W0)(b:Ε aaA=aa W0):Zd=aaA:=by rw[pY i j]at a b;rcases d:(ϩ)[Zd.1]?with _|u;{ext Æ d a};{rw[d]at a;rcases c:(ϩ)[aaA.1]?with _|v;{ext Æ c b};{rw[c]at b;ext ό k l a;let#[m,n,f]:=acR b;let g:aaA.1=Zd.1:=zL (λe:aeC=>e.1) f;let o:m=k:=zL (λe:aeC=>e.2) f;ext ā g d c;let#[w,q,s]:=r2 l;let#[x,h,t]:=r2 n;ext ā o q h;calc hK g.symm^(ρ s).symm.trans^ρ t}}
abbrev fH(b:aE)(c:bs)(a:bc):Bool:=n3 a.1^decide (a.2<d7 b^(bq b c).getD a.1 0)
structure mV(b:aE)(a:bs):Prop where(occs:∀c∈a.rules,∀j∈c.expr.occs,(c6 b a j).isSome=af)(cP:∀(f:Nat)(c:eY)(e:akF),ahx a f c->agm c e->∃d,c6 b a e=aa d/\fH b a d=af/\∀(g:Nat)(h:eY)(i:akF),g<f->ahx a g h->agm h i->c6 b a i≠aa d)(all:∀d∈Ĥ b a,fH b a d=af->∃c∈a.rules,∃e,agm c e/\c6 b a e=aa d)
def DW(a:ą)(b:į):(n2 z p g YJ).isSome=(Ε (g,YJ)).isSome:=by unfold n2 c6;rw[r0];show(s3 avl _).isSome=_;rcases a:avl with _|b;{rfl};{let#[b,b,_]:=r2 a;show(_:Option _).isSome=af;dsimp only[s3];rw[b];rfl}
def Px(d:ą)(e:į)(a:Ε (g,YJ)=aa W0):∃b,n2 z p g YJ=aa b/\n3 g b.2=fH z p W0:=by unfold n2;unfold c6 at a;ext Υ a;rw[r0];show∃b,s3 avl _=aa b/\_;ext ό f c a;rw[c];let#[b,a,_]:=r2 c;calc#[b,a,?_];unfold fH;dsimp only;rw[oz e]at a;rcases c:aoW with _|e;{ext ajz c a};{rw[c]at a;let a:(fg z e)[f]?=aa b:=a;rw[rU d a,dN,c];rfl}
variable{Yv:eY}
def ER(m:ą)(l:į)(a:avm):re z p Yv g=[]↔∃c,Ε Zd=aa c/\fH z p c=af/\∀(b:Nat)(d:eY),b<g->p.rules[b]?=aa d->d.target≠aa Zd:=by let#[e,f]:=Zd;unfold re;ext adO a;let o:((p.rules.take g).any λh=>h.target==õ e f)=ay↔∀(b:Nat)(d:eY),b<g->p.rules[b]?=aa d->d.target≠õ e f:=by{rw[sK];constructor;{intro a b d n q i;let#[j,k]:=ľ q;calc a d (sS.mpr #[ac0 b,k]) ?_;rwa[i,ύ]};{intro a h d i;let#[b,n,rfl]:=sS.mp d;calc a b _ (ai n^acG) (bi^ai n^afX)^ρ i}};by_cases j:p.kids.length<e;{rwa[zG j,#[ar' a,?_]];rintro⟨c,a,_⟩;rw[pY m l]at a;ext Υ a;rw[l7^by rwa[er,j]]at a;ext a};{rw[zF j];ext azK b e l j;rw[b,sH];rcases h:Ε (e,f)with _|c;{let i:(n2 z p e f).isNone=af:=by{let:=DW m l (g:=e) (YJ:=f);rw[h]at this;exists this};rwa[zG i,#[ar' a,λ#[c,a,_]=>by ext a]]};{let#[b,b,d]:=Px m l h;rw[b];rw[ai0,Option.any_some];rcases b:fH z p c with _|_;{rwa[d,b,zG^by{rfl},#[ar' a,?_]];rintro⟨e,a,k,_⟩;ext a;ext Æ b k};{rw[d,b,ai0,m0,o];constructor;{intro a;calc#[c,r,b,a]};{rintro⟨e,a,k,a⟩;calc a}}}}
def yn(f:ą)(d:į):tE z p Yv=[]↔(∀a∈Yv.expr.occs,asa a)/\(p.own=af\/Yv.expr.usesOwn=ay):=by unfold tE;rwa[qz,m0,rT (e:=λ(a:akF) b=>azL a b),and_congr ?_ ?_];{let g:∀(a:akF)(b:Nat),(azL a b)=[]↔asa a:=by{rintro⟨e,h⟩ b;dsimp only;by_cases k:p.kids.length<e;{rwa[zG k,#[ar' c,Í c]];rw[pY f d]at c;ext Υ c;rw[l7^by rwa[er,k]]at c;ext c};{rw[zF k,m0];ext azK i e d k;rw[i,sH,<-DW f d];cases n2 z p e h<;>simp}};constructor;{intro c a d;ext agk b e d;calc(g _ b).mp^c b _^bi e};{intro c b a d;calc(g a b).mpr^c a^cq d}};{cases p.own<;>cases Yv.expr.usesOwn<;>simp}
def Ee(e:ą)(o:į):(∀b∈tD z p,avn (b.1,b.2.2)=af)↔∀a∈aK^ţ,fH z p a=af->∃l∈p.rules,∃m,agm l m/\Ε m=aa a:=by let w:∀b,b∈tD z p↔∃a,(ϩ)[b.1]?=aa a/\(fg z a)[b.2.1]?=aa (b.2.2,decide (b.2.1<d7 z a))/\n3 b.1^decide (b.2.1<d7 z a)=af:=by{ext ĳ f b h;unfold tD;simp only[hJ,eC];constructor;{ext ĳ d i k;rw[oz o,bi^by rwa[er,i]]at k;let u:¬wL<(fg z (avo d i)).length:=by{let:=k2 e (avo d i);rw[k3 e];unfold wL;calc k' this};dsimp only[nw,Hw]at k;rw[zF u]at k;let#[#[x,q],n,j]:=bE.mp k;let#[c,g]:=ϕ n;let c:=vU.mp c;let s:=rU e c;let t:d=f:=zL gp j;let v:q=b:=zL (λn=>n.2.1) j;let y:x.1=h:=zL (λn=>n.2.2) j;subst t v y;calc#[avo d i,bi _,?_,?_];{show(fg z _)[q]?=_;rwa[c,zL aa^hK r s]};{show n3 d _=af;rwa[<-s,g]}};{rintro⟨a,c,g,n⟩;let i:=ä c;rw[er]at i;calc#[f,i,?_];rw[oz o,c];dsimp only[nw,Hw];let u:¬wL<(fg z a).length:=by{let:=k2 e a;rw[k3 e];unfold wL;calc k' this};rwa[zF u,bE.mpr #[((h,decide (b<d7 z a)),b),dc.mpr #[vU.mpr g,n],r]]}};let x:∀m,avn m=af↔∃l∈p.rules,agm l m:=λm=>by{unfold tI;rw[gB,fz]};let y:∀{f b a:Nat}{h:cV}{d:Bool},(ϩ)[f]?=aa a->(fg z a)[b]?=õ h d->Ε (f,h)=õ f b:=λ{f b a h d} c g=>by{rw[pY e o];dsimp only;rw[c];dsimp only[s3];let n:(cc z a)[b]?=aa h:=by{rw[<-ya e,b9,g];rfl};let u:=Pt e a;let#[d,A]:=ľ n;let:(cc z a).findIdx? (λB=>B==h)=aa b:=by{rwa[l5,#[d,by{rwa[A,ύ]},Å q B j]];let j:(cc z a)[q]=h:=ρ j;calc qH.mp u q b (acT B d) d B^by rw[j,A]};rw[this];rfl};constructor;{rintro k ⟨f,b⟩ A q;let#[i,d]:=hs.mp A;dsimp only at i d;rw[i6]at d;rcases i:(ϩ)[f]?with _|a;{ext Æ i d};{rw[i]at d;let d:b<ahz a:=d;rw[<-k3 e]at d;let g:=bi d;let s:=rU e g;unfold fH at q;ext Υ q;rw[dN,i]at q;let A:(fg z a)[b]?=aa ((fg z a)[b].1,decide (b<d7 z a)):=by{rwa[g,zL aa^hK r s]};let#[l,d,j]:=(x _).mp^k (f,b,(fg z a)[b].1)^(w _).mpr #[a,i,A,q];calc#[l,d,_,j,y i A]}};{rintro k ⟨f,b,h⟩ h;let#[a,c,g,n]:=(w _).mp h;dsimp only at c g n;let u:=y c g;let#[l,d,m,t,v]:=k (f,b) (lS e o u)^by{unfold fH;dsimp only;rwa[dN,c,n]};let:=Et e o u v;rw[<-this]at t;calc(x _).mpr #[l,d,t]}
def Ed(d:ą)(e:į):((∀b a,p.rules[b]?=aa a->re z p a b=[]/\tE z p a=[])/\∀c∈tD z p,avn (c.1,c.2.2)=af)↔(∀a∈p.rules,p.own=af\/a.expr.usesOwn=ay)/\mV z p:=by constructor;{ext acU f g;let j:∀a∈p.rules,∃b,p.rules[b]?=aa a:=λc c=>by{ext agk b h c;calc#[b,bi h]};calc#[Â a c,Â a c,ê b a i c m,(Ee d e).mp g];{let#[b,h]:=j a c;calc((yn d e).mp (f b a h).2).2};{let#[b,h]:=j a c;calc((yn d e).mp (f b a h).2).1};{let#[j,h,k,l]:=(ER d e m).mp (f b a c).1;calc#[j,h,k,λm n o o q t s=>l m n o q^by rw[t,Et d e s h]]}};{ext acU f g;calc#[λb a c=>#[?_,(yn d e).mpr #[g.occs a^cq c,f a^cq c]],(Ee d e).mpr g.all];rcases f:a.target with _|i;{unfold re;rw[f]};{let#[j,h,k,l]:=g.cP b a i c f;calc(ER d e f).mpr #[j,h,k,λm n o q s=>l m n i o q s h]}}
inductive oy(a:aE):cV->Prop|mk{b:bs}:b∈a.prods->(∀c∈b.kids,oy a c.name)->oy a b.left.name
abbrev c3{a:Type}(b:a->a):Nat->a->a|0,a=>a|c+1,a=>b^c3 b c a
def Ep{c:Type}(a:c->c)(d:c):∀b,c3 a b^a d=a^c3 a b d|0=>r|b+1=>zL a^Ep a d b
def Eo{b:Type}{d:b->b}{a:b}(e:d a=a):∀c,c3 d c a=a|0=>r|c+1=>by rw[c3,Eo e c,e]
def yw{b:Type}[BEq b][LawfulBEq b](c:b->b):∀d a,Vaattb.times c d a=c3 c d a|0,_=>r|d+1,a=>by unfold Vaattb.times;dsimp only;by_cases k:c a=a;{rw[zG^by{rwa[k,ύ]},Eo k]};{rw[zF^λa=>k^ρ a,yw c d,Ep];rfl}
def EM:(hl Zc YJ).isSome=af↔∃a∈Zc,a.1=YJ:=by unfold hl;rw[nv,oZ];constructor;{ext ĳ a b c;calc#[a,b,ρ c]};{ext ĳ a b c;calc#[a,b,by rwa[c,ύ]]}
def ET:(wP Zc p).isSome=af↔∀a∈p.kids,aoU a:=by unfold wP;let f:∀(c:List Vaattb.Named)(b:adU),(c.foldl (λd a=>d.bind λd=>(hl Zc a.name).map λe=>d+e) b).isSome=af↔b.isSome=af/\∀a∈c,aoU a:=by{intro c;induction c with|nil=>{intro b;simp}|cons a c c=>intro b;rw[sO,c];ext adF b d;{simp};{rcases b:hl Zc a.name with _|e;{simp[b]};{simp[b]}}};rw[f];simp
def P7:(hl (tH z Zc) YJ).isSome=af↔(∃b∈z.syms,b.name=YJ)/\∃a∈z.prods,a.left.name=YJ/\∀c∈a.kids,aoU c:=by rw[EM];unfold tH;let j:∀f:cV,(((azM a f).min?).isSome=af)↔∃a∈z.prods,a.left.name=f/\∀c∈a.kids,aoU c:=by{intro f;rw[List.isSome_min?_iff];constructor;{intro g;let#[d,c]:=List.exists_mem_of_ne_nil _ g;let#[a,k,e]:=fz.mp c;let#[h,i]:=ϕ k;calc#[a,h,ρ i,ET.mp^by rw[e];rfl]};{rintro⟨a,h,i,k⟩ e;let#[d,c]:=f4.mp^ET.mpr k;let:d∈azM a f:=fz.mpr #[a,dc.mpr #[h,by rwa[i,ύ]],c];ext ϗ e}};constructor;{rintro⟨a,f,rfl⟩;let#[b,a,e]:=fz.mp f;ext ό d c e;calc#[#[b,a,r],(j b.name).mp^by rw[c];rfl]};{rintro⟨⟨b,a,rfl⟩,g⟩;let#[d,c]:=f4.mp^(j b.name).mpr g;calc#[(b.name,d),fz.mpr #[b,a,by rw[c];rfl],r]}
def Qm(p:∀g∈z.prods,cs z g):(∀d∈z.syms,aoT (rd z) d=af)↔∀d∈z.syms,oy z d.name:=by let j:rd z=c3 (tH z) z.syms.length []:=yw _ _ _;rw[j];refine_lift let f:Nat->cV->Prop:=λb a=>(hl (c3 (tH z) b []) a).isSome=af;?_;let m:∀a,¬f 0 a:=λa c=>by{let#[e,c,_]:=EM.mp c;ext c};let k:∀b a,f (b+1) a↔(∃d∈z.syms,d.name=a)/\∃g∈z.prods,g.left.name=a/\∀l∈g.kids,f b l.name:=λb a=>P7;let q:∀b a,f b a->oy z a:=by{intro b;induction b with|zero=>{calcλa c=>zH c^m a}|succ b h=>intro a c;let#[_,Ä g i,n]:=(k b a).mp c;calc .mk i λl e=>h _^n l e};let o:∀b a,f b a->f (b+1) a:=by{intro b;induction b with|zero=>{calcλa c=>zH c^m a}|succ b h=>intro a c;let#[s,g,i,j,n]:=(k b a).mp c;calc(k (b+1) a).mpr #[s,g,i,j,λl e=>h _^n l e]};let l:∀b a,f b a->∃d∈z.syms,d.name=a:=by{intro b a c;ext adH b;{calc zH c^m a};{calc((k b a).mp c).1}};calc#[λc d g=>q _ _^c d g,Í c];let#[a,m,n]:=D6 z.syms (λb d=>aoT (c3 (tH z) b []) d) λb d g=>o b d.name;let q:∀e,f (a+1) e->f a e:=λe c=>by{let#[d,g,rfl]:=l _ e c;let:=n d g;show(_:Bool)=af;rwa[this,c]};let l:∀b e,f a e->f (a+b) e:=by{intro b;induction b with|zero=>{calcλe c=>c}|succ b h=>calcλe c=>o _ _^h e c};let b:∀e,oy z e->f a e:=by{intro e c;induction c with|mk i _ h=>calc q _^(k a _).mpr #[?_,_,i,r,h];let:=p _ i _ cj;unfold jq at this;let#[d,e,f]:=oZ.mp this;calc#[d,e,ρ f]};intro d g;let:=l (z.syms.length-a) _^b _^c d g;let j:a+(z.syms.length-a)=z.syms.length:=sE m;ext akb j
inductive lM(a:Τ):Nat->Prop|mk{b:Nat}{l:Ã}:(b::l)∈a->(∀c∈l,lM a c)->lM a b
def Qf(f:ą)(a:aoV=aa Zj):dp z Zj.name=aa g:=by unfold dp;let#[b,c]:=ľ a;rwa[l5,#[b,by{rwa[c,ύ]},Å d e a]];let a:(z.syms[d]).name=Zj.name:=ρ a;calc qH.mp f.cc d g (by rwa[aI,acT e b]) (by rw[aI];omega) e ?_;rw[lf,lf,a,c]
def yo(b:ą)(c:avi):∃a,z.syms[(dp z YJ).getD 0]?=aa a/\a.name=YJ:=by let#[b,b]:=f4.mp^uJ c;let#[_,a,c,d]:=p3 b;rwa[b,#[a,c,d]]
def EA(j:ą)(m:∀a∈z.prods,cs z a)(k:aoV=aa Zj):avp g↔oy z Zj.name:=by constructor;{intro e;induction e generalizing Zj with|mk b _ n=>let#[a,c,f]:=bE.mp b;let f:(dp z a.left.name).getD 0::a.kids.map (λb=>avj b)=_:=f;let#[i,l]:=List.cons.inj f;let#[o,d,h]:=yo j^m a c a.left cj;ext ā i k d;rwa[h,.mk c (Â i p)];let#[o,d,h]:=yo j^m a c i^cu _ p;rwa[<-h,n _ (by rwa[<-l,ai1 i p]) d]};{intro e;let q:∀b,oy z b->∀g Zj,aoV=aa Zj->Zj.name=b->avp g:=by{intro b e;induction e with|@mk a c p n=>intro g Zj k f;let l:=Qf j k;rw[f]at l;calc .mk (l:=a.kids.map^λb=>avj b) (bE.mpr #[a,c,?_]) (Â b f);{unfold bq;rw[dg,l];rfl};{ext ϓ i b f;let#[o,d,h]:=yo j^m a c i^cu _ b;calc n i b _ o d h}};calc q _ e g Zj k r}
def Qn(e:ą)(c:∀b∈z.prods,cs z b):(∀f∈z.syms,aoT (rd z) f=af)↔∀a,a<z.syms.length->avp a:=by rw[Qm c];constructor;{intro d a b;calc(EA e c^bi b).mpr^d _^sP b};{intro d f f;ext agk a b f;calc(EA e c^bi b).mp^d a b}
structure cJ(a:Ã)(g:Ħ)(b:Ã):Prop where(len:b.length=a.sum)(bits:∀c d,dR b c d↔∃e f,(e,f)∈g/\aM a e=c/\aM a f=d)
abbrev c1(a:Ã)(d:Ħ):Prop:=∀b c,(b,c)∈d->b∈aK a/\c∈aK a
def cJ.c2(a:aeD)(b:Ζ)(c:aoX)(d:amg):dR Xz (aM D W0)^aM D Xc↔(W0,Xc)∈R:=by rw[a.bits];constructor;{rintro⟨e,f,a,g,h⟩;let#[i,j]:=b e f a;rwa[<-iv i c g,<-iv j d h,a]};{calcλa=>#[W0,Xc,a,r,r]}
def cJ.ec(b:aeD)(c:Ζ)(a:dR Xz g B):B<Xz.length:=by let#[d,e,a,_,f]:=(b.bits g B).mp a;rwa[b.len,<-f,ht (c d e a).2]
def cJ.eo(d:aeD)(f:Ζ):jA (dR Xz) g B↔∃b a,ex R b a/\aM D b=g/\aM D a=B:=by constructor;{intro c;induction c with|one c=>{let#[b,a,e,h,i]:=(d.bits _ _).mp c;calc#[b,a,.one e,h,i]}|step _ c j=>let#[b,a,e,h,i]:=j;let#[l,m,k,n,o]:=(d.bits _ _).mp c;let:a∈aK D:=by{rcases e with c|⟨_,c⟩;{calc(f _ _ c).2};{calc(f _ _ c).2}};let c:l=a:=iv (f _ _ k).1 this^by{rw[n,i]};calc#[b,m,.step e (c▸k),h,o]};{rintro⟨b,a,a,rfl,rfl⟩;induction a with|one c=>{calc .one^(d.bits _ _).mpr #[_,_,c,r,r]}|step _ c j=>calc .step j^(d.bits _ _).mpr #[_,_,c,r,r]}
def r8(b:Ζ)(a:ag'):aoX/\amg:=by induction a with|one a=>{calc b _ _ a}|step _ a c=>calc#[c.1,(b _ _ a).2]
def cJ.cB(a:aeD)(b:Ζ)(c:aoX)(d:amg):dR (eg Xz) (aM D W0)^aM D Xc↔ag':=by rw[D7 Xz^λe e=>a.ec b,a.eo b];constructor;{rintro⟨a,a,a,e,f⟩;let#[g,h]:=r8 b a;rwa[<-iv g c e,<-iv h d f,a]};{calcλa=>#[W0,Xc,a,r,r]}
def yb(d:D[g]?=aa B)(e a b:Nat):dR (D.set g (B|||(1<<<e))) a b↔dR D a b\/(a=g/\b=e):=by unfold dR;by_cases c:a=g;{ext azN c d;calc ai2 ?_;rw[Aj,Hu];simp;calc eq_comm};{rw[nm^ci c];simp[c]}
variable{abJ:List eY}
def yk:(W0,Xc)∈abJ.flatMap^j1 z p↔∃c∈abJ,∃a,agm c a/\Ε a=aa Xc/\∃d∈c.expr.occs,Ε d=aa W0:=by rw[hJ];constructor;{ext ĳ c f b;calc#[c,f,?_];unfold j1 at b;rcases e:c.target with _|a;{ext Æ e b};{rw[e]at b;rcases g:Ε a with _|e;{rw[show(aa a).bind^Ε=ah from g]at b;ext b};{rw[show(aa a).bind^Ε=aa e from g]at b;let#[e,h,e]:=bE.mp b;ext e;let#[d,b,e]:=fz.mp^uE.mp h;calc#[a,r,g,d,b,e]}}};{rintro⟨c,f,a,h,g,d,b,e⟩;calc#[c,f,?_];unfold j1;rwa[h,show(aa a).bind^Ε=aa Xc from g,bE.mpr #[W0,uE.mpr^fz.mpr #[d,b,e],r]]}
def uu(a:ą)(b:į):c1 ţ^ff z p:=λc c c=>by let#[d,_,d,_,d,e,_,e]:=yk.mp c;calc#[lS a b e,lS a b d]
def Ey(a:List Vaattb.Named):(a.map pt).map fq=a.map fq:=by rw[dZ];rfl
def us(a:dV):eQ^lA a=eQ a:=by unfold eQ lA;dsimp only;rw[Ey,Ey]
def Pz(a:dV):(lA a).attrs=a.attrs:=by unfold n1 lA;dsimp only;rw[dZ,dZ];rfl
def PN{b c:Type}(a:b->c)(d:c->Bool)(e:ì b):(e.map a).find? d=(e.find? (d∘a)).map a:=List.find?_map
def Qg(a:aE)(b:cV):dp (gE a) b=dp a b:=by unfold dp gE;dsimp only;rw[sM];rfl
def Pu(a:aE)(b:Nat):cc (gE a) b=cc a b:=by unfold cc gE;dsimp only;rw[b9,v2];let a:eQ∘lA=eQ:=funext us;rw[a]
def Ez(a:aE)(b:bs):bq (gE a)^kH b=bq a b:=by unfold bq kH;dsimp only;rw[dg,dg,dZ];simp only[Qg];rfl
def D8(a:aE)(b:bs):az (gE a)^kH b=az a b:=by unfold az;rw[Ez];simp only[Pu]
def EP(a:aE)(b:cV):jq (gE a) b=(jq a b).map lA:=by unfold jq gE;dsimp only;rw[PN];rfl
def Py(c:aE)(a:bs)(b:Nat):jZ (gE c) (kH a) b=jZ c a b:=by unfold jZ;let d:(kH a).sym b=a.sym b:=by{rw[yv,yv];unfold kH;dsimp only;rw[<-dg (f:=pt),b9,v2];rfl};rw[d];rcases a.sym b with _|a;{rfl};{show(jq (gE c) a).map n1=(jq c a).map n1;rw[EP,v2];let d:n1∘lA=n1:=funext Pz;rw[d]}
def PZ(a:aE)(b:bs):c6 (gE a)^kH b=c6 a b:=funext λa=>by unfold c6;rw[Py]
def Pv(b:aE)(a:bs):ff (gE b)^kH a=ff b a:=by unfold ff kH;dsimp only;rwa[z9,zL (λc=>G1 c _)^funext (Í c)];unfold j1;dsimp only;rw[show c6 (gE b) {name:=a.name,left:=pt a.left,own:=a.own,kids:=a.kids.map pt,rules:=a.rules.map λc=>{c with pos:=0}}=c6 b a from PZ b a]
structure mW(a:aE):Prop where(syms:ac5 a)(most:a.prods.length<=24)(cc:(aoS a).Nodup)(a7:∀b∈a.prods,cs a b)(kids:∀b∈a.prods,afp b)
def mW.strip{b:aE}(a:rQ b):mW^gE b:=by let c:(gE b).syms=b.syms.map lA:=r;let g:(gE b).prods=b.prods.map kH:=r;calc#[#[ae8,Â d e,Â d e],?_,?_,Â b f,Â b f];{rwa[c,aI,a.syms.one]};{rwa[c,aI,a.syms.most]};{rwa[c,dZ,a.syms.cc]};{rw[c]at e;ext ϓ d h e;rwa[us,a.syms.aM d h]};{rw[c]at e;ext ϓ d h e;rwa[us,a.syms.c0 d h]};{rwa[g,aI,a.most]};{rwa[g,dZ,a.cc]};{rw[g]at f;ext ϓ b c f;intro d e;let e:d∈(agj b).map pt:=e;ext ϓ d h e;rwa[EP,nv,(a.prods b c).a7 d h]};{rw[g]at f;ext ϓ b c f;show(b.kids.map pt).length<=3;rwa[aI,(a.prods b c).kids]}
def uI(b:∀a∈D,a<=g):D.sum<=D.length*g:=by induction D with|nil=>{calc bF _}|cons c d d=>let:=d (γ a d b);let:=b c cj;rw[List.sum_cons,ce,Ag];lia
def i8(b:ą)(a:p.kids.length<=3):(ţ).sum<=16:=by let:=uI (D:=ţ) (g:=4) λa a=>by{unfold az at a;ext ad' c a;calc k2 b c};rw[i7]at this;lia
@[reducible]abbrev dz:=Nat×aeC
structure kb(d:List dz)(a:List dz->List dz)(b:List dz):Prop where(start:∃c:dz->Bool,b=d.filter c)(parts:∀f,∃c:dz->Bool,a f=d.filter c)(c7:∀e,∀g∈c3 a e b,g∈c3 a (e+1) b)
variable{YP:List dz}{XI:List dz->List dz}{XR:List dz}
def kb.cQ(a:amh):∀b,∃c:dz->Bool,Ź b=YP.filter c|0=>a.start|b+1=>a.parts _
variable{T:dz}
def kb.cX(a:amh)(b:g<=B)(c:T∈c3 XI g XR):T∈c3 XI B XR:=by induction b with|refl=>{calc c}|step _ b=>calc a.c7 _ _ b
variable{WZ:dz->Bool}{aaa:dz->Bool}
def Ex(b:∀a∈YP,WZ a=aaa a):YP.filter WZ=YP.filter aaa:=GY b
def P0(b:∀a,a∈YP.filter WZ↔a∈YP.filter aaa):YP.filter WZ=YP.filter aaa:=by calc Ex (Â a c);let:=b a;rw[dc,dc]at this;cases b:WZ a<;>cases b:aaa a<;>simp_all
def kb.er(d:amh)(a:Nat):(XI^Ź a).length=(Ź a).length↔XI^Ź a=Ź a:=by constructor;{intro b;let#[h,f]:=d.cQ a;let#[e,c]:=d.cQ (a+1);let g:=d.c7 a;let c:XI^Ź a=YP.filter e:=c;rw[c,f]at b⊢;let d:c3 XI (a+1) XR=YP.filter e:=c;rw[f,d]at g;calc Ex (Â a c);calc(yf (e:=h) (f:=e) (Å d e f) b.symm a c).symm;calc(dc.mp^g d^dc.mpr #[e,f]).2};{intro b;rw[b]}
def kb.ep(d:amh){a:Nat}(c:XI^Ź a=Ź a):∀b,c3 XI (a+b) XR=Ź a|0=>r|b+1=>by show XI^c3 XI (a+b) XR=_;rw[d.ep c b,c]
def EH(g:amh):∀(e a:Nat),∃c,a<=c/\c<=a+e/\pz XI e^Ź a=Ź c/\tN XI e^Ź a=c-a/\(∀b,a<=b->b<c->avq d b)/\(c<a+e->XI^Ź c=Ź c)|0,a=>#[a,a5 _,a5 _,r,(v0 a).symm,λb h i=>by{lia},λf=>by lia]|e+1,a=>by unfold pz tN;dsimp only;by_cases f:(XI^Ź a).length=(Ź a).length;{rwa[zG f,zG f,#[a,a5 _,cX ġ 1,r,(v0 a).symm,λb h i=>by{lia},λ_=>(g.er a).mp f]]};{ext Š f;let#[c,h,i,j,m,o,p]:=EH g e (a+1);calc#[c,Đ h,ai i^aia,j,ķ b h i,λh=>p^by lia];{show 1+tN XI e^c3 XI (a+1) XR=c-a;rw[m];lia};{by_cases l:b=a;{subst l;by_cases k:avq d b;{calc k};{exfalso;apply f;rw[g.er];let#[f,a]:=g.cQ b;let#[e,c]:=g.cQ (b+1);let j:XI^Ź b=YP.filter e:=c;let e:=g.c7 b;rw[c,a]at k e;rwa[j,a,P0 λd=>#[Í a,e d]];by_cases n:d∈YP.filter f;{calc n};{calc zH #[d,a,n] k}}};{calc o b (h8 h l) i}}}
def Qa(d:amh)(e:YP.length<g):∃a,pz XI g XR=Ź a/\tN XI g XR=a/\(∀c,c<a->avq b c)/\XI^Ź a=Ź a/\a<g:=by let#[a,_,e,l,f,h,m]:=EH d g 0;let e:a<=g:=by{lia};let i:a<g:=by{by_cases n:a<g;{calc n};{exfalso;let#[j,e,o]:=D6 YP (λe b=>(Ź e).contains b) λe b _ k=>by{rw[gB]at k⊢;calc d.c7 e b k};let#[b,e,k]:=h j (bF _)^by{lia};let#[p,p]:=d.cQ (j+1);let d:b∈YP:=by{rw[p]at e;calc(ϕ e).1};let:=o b d;rw[gB.mpr e]at this;calc k^gB.mp this}};calc#[a,l,by{rw[Hr]at f;calc f},λc=>h c^bF _,m^ai i^ϡ,i]
def iu(a:ą):ami↔T.1<z.syms.length/\T.2.1<avr/\T.2.2<avr:=by unfold cP;simp only[hJ,eC,bE,k3 a];constructor;{rintro⟨a,a,b,b,c,c,rfl⟩;calc#[a,b,c]};{ext ĳ a b c;calc#[T.1,a,T.2.1,b,T.2.2,c,r]}
abbrev ep(b:aE)(a:bs)(d:Nat->bJ):Ħ:=ff b a++(tM a).flatMap λc=>mB b (d c) a c
variable{Xv:bJ}
def ke(b:į):(W0,Xc)∈mB z Xv p g↔∃a,aoW=aa a/\W0.1=g/\Xc.1=g/\(a,W0.2,Xc.2)∈Xv:=by unfold mB;rw[m3 b];rcases b:aoW with _|a;{simp};{simp only[bE,dc];constructor;{rintro⟨d,⟨c,b⟩,e⟩;let b:d.1=a:=ρ b;let#[d,f]:=ll e;subst d f;calc#[a,r,r,r,by rwa[<-b,c]]};{rintro⟨d,c,b,d,e⟩;ext c;calc#[(a,W0.2,Xc.2),#[e,ύ],by rwa[<-b,hK r^hK (b.trans d.symm) r]]}}
variable{Ze:Nat->bJ}
def kf(e:į):(W0,Xc)∈ahA Ze↔(W0,Xc)∈ff z p\/∃a,(ϩ)[W0.1]?=aa a/\Xc.1=W0.1/\(a,W0.2,Xc.2)∈Ze W0.1:=by unfold ep tM;rwa[cL,hJ,ai2 ?_];constructor;{rintro⟨b,_,f⟩;let#[a,b,g,c,d]:=(ke e).mp f;subst g;calc#[a,b,c,d]};{rintro⟨a,b,c,d⟩;calc#[W0.1,amj,(ke e).mpr #[a,b,r,c,d]];rwa[<-er z p,ä b]}
def mZ(c:ą)(d:į)(g:∀a,∀b∈Ze a,b∈cP z):c1 ţ^ahA Ze:=λe h a=>by rcases(kf d).mp a with a|⟨b,b,f,i⟩;{calc uu c d e h a};{let#[a,d,h]:=(iu c).mp^g _ _ i;let a:e.1<(ţ).length:=by{rwa[i7,<-er z p,ä b]};calc#[hs.mpr #[a,?_],hs.mpr #[by{rwa[f,a]},?_]];{rwa[i6,b,d]};{rwa[f,i6,b,h]}}
def r4{c:aE}(i:ac5 c){e:bs}(j:cs c e){h:Ħ}{a:Nat}{b:dz}:b∈Vaattc.loopsAt c h e a↔azO c e a b h:=by unfold Vaattc.loopsAt;rw[m3 j];rcases n:(bq c e)[a]?with _|o;{simp};{simp only[hJ,eC,bE,dc,k3 i];constructor;{rintro⟨p,k,f,⟨g,d⟩,rfl⟩;let d:f.1=a:=ρ d;calc#[r,k,?_];let:=uF.mp g;let l:f=(a,f.2):=hK d r;ext akb l};{ext ĳ g d m;ext g;calc#[b.2.1,d,(a,b.2.2),#[uF.mpr m,ύ],r]}}
def oE(c:amk a):ag'↔ex YT W0 Xc:=#[λb=>b.congr λa=>(c a).mp,λb=>b.congr λa=>(c a).mpr]
abbrev cM(b c:bJ)(d:adU)(a:Nat):bJ:=if d=aa a then[]else if a=0 then b else c
def uv(d:į)(a:b5):a∈wR z Xv p↔a∈ahA^cM [] Xv ah:=by let#[e,b]:=a;unfold wR Vaattc.atKids;rwa[cL,kf d,hJ,ai2 ?_];constructor;{ext ĳ a h b;let#[f,c,i,g,a]:=(ke d).mp b;subst i;let b:=(ϕ h).2;let b:e.1≠0:=by{intro h;ext ajz h b};calc#[f,c,g,?_];unfold cM;rwa[ai0,zF b,a]};{rintro⟨f,c,g,a⟩;unfold cM at a;rw[an1]at a;by_cases b:e.1=0;{rw[zG b]at a;ext a};{rw[zF b]at a;calc#[e.1,dc.mpr #[amj,by simp[b]],(ke d).mpr #[f,c,r,g,a]];rwa[<-er z p,ä c]}}
variable{XD:bJ}
def DV(f:į)(g:Nat)(m:g≠0)(a:b5):a∈ff z p++(Vaattc.atKids z Xv p g++mB z XD p 0)↔a∈ahA^cM XD Xv^aa g:=by let#[h,b]:=a;unfold Vaattc.atKids;rwa[cL,kf f,cL,hJ,ai2 ?_];constructor;{rintro(⟨a,j,k⟩|k);{let#[d,c,i,e,a]:=(ke f).mp k;subst i;let b:=(ϕ j).2;rw[db]at b;let n:h.1≠0:=by{exists b.1};let o:h.1≠g:=by{exists b.2};calc#[d,c,e,?_];unfold cM;rwa[zF^λj=>o (ŝ j),zF n,a]};{let#[d,c,i,e,a]:=(ke f).mp k;calc#[d,by{rwa[i,c]},by{rwa[i,e]},?_];unfold cM;rwa[i,zF^λj=>m^bW j,zG r,a]}};{rintro⟨d,c,e,a⟩;unfold cM at a;by_cases l:h.1=g;{rw[zG^zL aa l.symm]at a;ext a};{rw[zF^λj=>l (ŝ j)]at a;by_cases b:h.1=0;{rw[zG b]at a;calc .inr^(ke f).mpr #[d,by{rwa[<-b,c]},b,by{rw[e,b]},a]};{rw[zF b]at a;calc .inl #[h.1,dc.mpr #[amj,by simp[b,l]],(ke f).mpr #[d,c,r,e,a]];rwa[<-er z p,ä c]}}}
def PR(a:į)(b:b5):b∈wR z Xv p++mB z XD p 0↔b∈ahA^cM XD Xv ah:=by rw[cL,uv a];let#[g,d]:=b;rwa[kf a,kf a,ke a,or_assoc,ai2 ?_];unfold cM;simp only[reduceCtorEq,if_false];constructor;{rintro(⟨b,d,e,a⟩|⟨b,d,f,e,a⟩);{by_cases c:g.1=0;{rw[zG c]at a;ext a};{calc#[b,d,e,by rw[zF c]at a⊢;calc a]}};{calc#[b,by{rwa[f,d]},by{rwa[f,e]},by rwa[zG f,a]]}};{rintro⟨b,d,e,a⟩;by_cases c:g.1=0;{rw[zG c]at a;calc è #[b,by{rwa[<-c,d]},c,by{rw[e,c]},a]};{calc .inl #[b,d,e,by rw[zF c]at a⊢;calc a]}}
def yh(b:į)(a:b5):a∈Vaattc.joinedGraph z Xv p↔a∈ahA^cM Xv Xv ah:=by let:(cM Xv Xv ah)=λ_=>Xv:=funext λa=>by{unfold cM;simp};rw[this];rfl
abbrev kg(a:aE)(c:Nat)(b:dz):Bool:=match c with|1=>tK a b|2=>tJ a b|_=>af
abbrev i5(a:aE)(d:Nat)(e b:bJ)(c:bs):bJ:=match d with|1=>n5 a b c|2=>Vaattc.aboveBy a e b c|_=>Vaattc.joinedBy a b c
abbrev fI(a:aE)(c:Nat)(e d:bJ):bJ:=(cP a).filter λb=>kg a c b&&(d.contains b||(a.prods.flatMap^i5 a c e d).contains b)
abbrev iq(a:aE)(b:bJ)(c:Nat):bJ:=match c with|1=>rg a b^tK a|2=>rg a b^tJ a|_=>rg a b λb=>tK a b||tJ a b
def EB(a:aE)(b:bJ):Vaattc.belowRound a=fI a 1 b:=r
def EC(a:aE)(b:bJ):Vaattc.joinedRound a=fI a 3 b:=r
abbrev mY(b:Nat)(c a:bJ)(d:Nat):Nat->bJ:=match b with|1=>ai3 a|2=>cM a c^aa d|_=>cM a a ah
abbrev ys(b a:Nat):Prop:=match b with|1=>a=0|2=>a≠0|_=>True
universe v1795
set_option tactic.hygienic true in def m1(i:ą)(e:į):T∈i5 z g Xv XD p↔∃a,ys g a/\(ϩ)[a]?=aa T.1/\T.2.1<avr/\ex (ahA^mY g Xv XD a) (a,T.2.1) (a,T.2.2):=by unfold i5;split;{unfold n5;rwa[r4 i e,oE^uv e,#[λ#[b,d,c]=>#[0,r,b,d,c],λ#[a,h,b,d,c]=>by let h:a=0:=h;subst h;calc#[b,d,c]]]};{unfold Vaattc.aboveBy tM;rw[hJ];constructor;{ext ĳ a h j;let f:a≠0:=by{simpa using(ϕ h).2};let#[b,d,c]:=(r4 i e).mp j;calc#[a,f,b,d,(oE^DV e a f).mp c]};{rintro⟨a,f,b,d,c⟩;let f:a≠0:=f;calc#[a,dc.mpr #[amj,by exists f],(r4 i e).mpr #[b,d,(oE^DV e a f).mpr c]];rwa[<-er z p,ä b]}};{rename_i k l;let m:∀a,mY g Xv XD a=cM XD XD ah:=λa=>by{unfold mY;ext avs k l;{rfl}};let n:∀a,ys g a:=λa=>by{unfold ys;ext avs k l;{trivial}};unfold Vaattc.joinedBy tM;dsimp only;rw[hJ];constructor;{ext ĳ a h j;let#[b,d,c]:=(r4 i e).mp j;calc#[a,n a,b,d,by rwa[m,(oE^yh e).mp c]]};{rintro⟨a,_,b,d,c⟩;rw[m]at c;calc#[a,amj,(r4 i e).mpr #[b,d,(oE^yh e).mpr c]];rwa[<-er z p,ä b]}}
variable{aa6:bJ}
def PB(a:ą)(b:į)(h:∀c∈ϩ,∀d e,(c,d,e)∈XD↔(c,d,e)∈aa6)(f:dz):f∈i5 z g Xv XD p↔f∈i5 z g Xv aa6 p:=by rw[m1 a b,m1 a b];let e:∀a d,d∈ahA^mY g Xv XD a↔d∈ahA^mY g Xv aa6 a:=by{rintro a ⟨d,f⟩;rwa[kf b,kf b,ai2^avt c];calc and_congr_right λi=>and_congr fM ?_;let b:=h c (cq i) d.2 f.2;unfold mY;split;{ext avu;{split;{calc fM};{calc b}}};{ext avu;{split;{calc b};{calc fM}}};{ext avu;{split;{calc b};{calc b}}}};calc avt a;rw[oE^e a]
def pX:T∈fI z g Xv XD↔ami/\kg z g T=af/\(T∈XD\/∃a∈z.prods,T∈i5 z g Xv XD a):=by unfold fI;rw[dc,db,hG,gB,gB,hJ]
def PU(a:∀T∈Xv,ami/\mC z T=af):T∈iq z Xv g↔T∈Xv/\kg z g T=af:=by unfold iq kg;split;{ext azP c k a};{ext azP c k a};{unfold rg;rwa[dc,db,gB,#[λ#[_,c,k]=>#[k,r],λ#[c,_]=>#[(a T c).1,(a T c).2,c]]]}
abbrev cn(a:aE)(c:bJ)(b:Nat)(d:bJ)(e:Nat):bJ:=c3 (fI a b d) e^iq a c b
universe v1801
set_option tactic.hygienic true in def pW(d:Nat)(a:T∈ai4 d):ami/\kg z X2 T=af:=by ext adH d;{let a:T∈iq z XD X2:=a;unfold iq at a;unfold kg;split at a;{let#[b,c]:=ϕ a;calc#[b,(db _ _▸c).1]};{let#[b,c]:=ϕ a;calc#[b,(db _ _▸c).1]};{rename_i e f;let#[b,c]:=ϕ a;calc#[b,r]}};{let#[b,c,_]:=pX.mp (a:T∈aml _);calc#[b,c]}
def lP(z:aE)(XD:bJ)(X2:Nat)(Xv:bJ):kb (cP z) aml^iq z XD X2 where start:=by{unfold iq;split;{calc Ŧ};{calc Ŧ};{calc Ŧ}};parts:=λa=>Ŧ;c7:=λb a a=>by let#[c,d]:=pW (XD:=XD) (Xv:=Xv) b a;calc pX.mpr #[c,d,Ð a]
abbrev pU(z:aE)(X2:Nat)(Xv b:bJ)(a:Ã):Prop:=∀c∈z.prods,(∀d∈bq z c,d∉a)->∀a∈i5 z X2 Xv b c,kg z X2 a=af->a∈cP z->a∈b
def P6(i:pU z X2 Xv XD D)(c:dz):(c∈aml XD/\c∉XD)↔(∃a∈z.prods,(∃d∈bq z a,d∈D)/\c∈i5 z X2 Xv XD a)/\c∉XD/\kg z X2 c=af/\c∈cP z:=by rw[pX];constructor;{rintro⟨⟨f,g,b⟩,e⟩;rcases b with b|⟨a,h,b⟩;{calc zH b e};{calc#[#[a,h,?_,b],e,g,f];by_cases k:∃d∈bq z a,d∈D;{calc k};{calc zH (i a h (λd i j=>k #[d,i,j]) c b g f) e}}};{rintro⟨⟨a,h,_,b⟩,e,g,f⟩;calc#[#[f,g,.inr #[a,h,b]],e]}
def PD(b:ą)(c:∀a∈z.prods,cs z a):pU z X2 Xv XD^bB z.syms.length:=λa d e=>by let b:(bq z a)[0]?=aa^(dp z a.left.name).getD 0:=r;calc zH (eC.mpr^lU (c a d) b)^e _^cq b
variable{W7:List dz}
def PC(i:ą)(j:∀c∈z.prods,cs z c)(g:∀a∈XD,a∈cP z/\kg z X2 a=af)(l:∀a,a∈W7↔a∈aml XD/\a∉XD):pU z X2 Xv (aml XD)^W7.map λa=>a.1:=λc h m a n o p=>by let q:∀b∈bq z c,∀d e,(b,d,e)∈aml XD↔(b,d,e)∈XD:=λb s d e=>by{constructor;{intro f;by_cases k:(b,d,e)∈XD;{calc k};{calc zH (bE.mpr #[(b,d,e),(l _).mpr #[f,k],r])^m b s}};{intro f;calc pX.mpr #[(g _ f).1,(g _ f).2,Ð f]}};calc pX.mpr #[p,o,.inr #[c,h,(PB i (j c h) q a).mp n]]
abbrev gf(b:aE)(c:Nat)(a:dz):Bool:=match c with|1=>aoY a b&& ! aoZ a b|2=>aoZ a b&& ! aoY a b|_=>af
def yq(a:ą)(d:ami):gf z g T=kg z g T:=by let#[_,b,c]:=(iu a).mp d;unfold gf kg;split;{unfold tK;rw[uA a b,uB a c]};{unfold tJ;rw[uA a c,uB a b,GN]};{rfl}
def PV(a:ą)(d:ami):mC z T= !(decide (T.2.1<d7 z T.1)==decide (T.2.2<d7 z T.1)):=by let#[_,b,c]:=(iu a).mp d;unfold mC tK tJ;rw[uA a b,uB a c,uA a c,uB a b];cases decide (T.2.1<d7 z T.1)<;>cases decide (T.2.2<d7 z T.1)<;>rfl
abbrev df(d:Ħ)(a:bc)(c:Nat)(b:bc):Prop:=(c=0/\b=a)\/(b≠a/\cY d b a=aa c)
def df.cz(b:Η g Xc)(a:Η B Xc):g=B:=by rcases b with⟨b,c⟩|⟨b,c⟩;{rcases a with⟨a,_⟩|⟨a,_⟩;{rw[b,a]};{calc zH c a}};{rcases a with⟨_,a⟩|⟨_,a⟩;{calc zH a b};{rw[c]at a;calc bW a}}
def df.start:Η 0 W0:=ait
def df.zero(a:Η 0 Xc):Xc=W0:=by rcases a with⟨_,a⟩|⟨_,a⟩;{calc a};{calc zH (asb a)^jh^cd r}
def df.cU(a:Η (g+1) Xc):dv R (g+1) Xc W0:=by ext asc a a;{calc(it.mp a).1}
def df.d1(a:(Xc,Za)∈R)(b:Η g Za):dv R (g+1) Xc W0:=by ext aiB;{rw[b.zero]at a;calc .one a};{calc dv.cons a b.cU}
def D'(b:dv R g Xc W0):∃a,a<=g/\ahB=aa a:=by rcases c:ahB with _|a;{calc zH b.way^oA.mp c};{calc#[a,?_,r];let:=(it.mp c).2 g;by_cases k:g<a;{calc zH b^this k};{calc c8 k}}
def df.first{a:Nat}{c:bc}(f:cY R c W0=aa (a+1)):∃b,(c,b)∈R/\Η a b:=by let#[d,e]:=it.mp f;ext adH a;{rcases d with a|⟨c,_⟩;{calc#[W0,a,.start]};{calc zH c.pos^jh^cd r}};{let#[b,a,f]:=d.first^aea 1;calc#[b,a,.inr #[Í b,?_]];{rw[b]at a;calc e 1 (aea 2)^.one a};{calc it.mpr #[f,Å b d c];calc e (b+1) (aF d 1)^dv.cons a c}}
def rY:Η (g+1) Xc↔(∃d,(Xc,d)∈R/\Η g d)/\∀a,a<=g->¬Η a Xc:=by constructor;{intro h;calc#[?_,Å a e b];{ext asc h c;{calc df.first c}};{let:=h.cz b;calc fL ai5^η^ai (akC (ai (ē e 1^ai5) e)^ai5) e}};{rintro⟨⟨d,c,k⟩,i⟩;let j:Xc≠W0:=λb=>i 0 (bF _)^.inl #[r,b];let#[a,l,f]:=D'^df.d1 c k;let:¬a<=g:=λb=>i a b^.inr #[j,f];let:a=g+1:=bX l^zu this;rw[this]at f;calc è #[j,f]}
structure ox(R:Ħ)(e:Ã)(W0 f a:bc)(b:Nat):Prop where(dA:(f,a)∈R)(cC:Η b a)(ee:∀c d,(f,c)∈R->Η d c->b<=d/\(d=b->aM e a<=aM e c))
def ox.dE(b:asd Za g):ahB=akG:=by let#[d,e,c]:=D'^df.d1 b.dA b.cC;ext ao0 c a d;let#[d,f,h]:=df.first c;let:=(b.ee d a f h).1;let:a=g:=bX (ö e) this;rw[c,this]
def PY(d:∀a b,(Xc,a)∈R->¬Η b a):ahB=ah:=by rcases b:ahB with _|c;{rfl};{ext ao0 b a c;let#[c,e,f]:=df.first b;calc zH f^d c a e}
def PX(a:asd Za 0):Za=W0/\eE R YE W0 1 Xc=[W0]:=#[a.cC.zero,r]
def PW(e:Ζ)(b:asd Za (g+1)):Za≠W0/\cY R Za W0=akG/\ahC W0 (g+2) Xc=Za::ahC W0 (g+1) Za:=by let d:Za≠W0/\cY R Za W0=akG:=by{rcases b.cC with⟨c,_⟩|c;{ext c};{calc c}};calc#[d.1,d.2,?_];let i:(aK D).find? (azQ a)=aa Za:=by{rwa[vQ,#[?_,?_]];{rwa[db,#[gB.mpr b.dA,by rwa[d.2,ύ]]]};{let d:=(e Xc Za b.dA).2;let#[h,c]:=bp.mp^lQ d;calc#[aM D Za,h,c,Â c d];rcases e:(R.contains (Xc,(aK D)[c])&&cY R (aK D)[c] W0==akG)with _|_;{rfl};{exfalso;rw[db]at e;let f:=gB.mp e.1;let j:cY R (aK D)[c] W0=akG:=eq_of_beq e.2;let e:(aK D)[c]≠W0:=λk=>by{rw[k]at f;let:=b.dE;calc(it.mp this).2 1 (aea 2)^.one f};let:=(b.ee _ _ f^.inr #[e,j]).2 r;let b:=(lT^bi (by{calc acT d h}:c<(aK D).length)).1;calc fL d^Đ^acD (ai (Ĭ (ϙ^au b) d) this) b}}};show(match(aK D).find? (azQ a)with|ah=>[]|aa a=>a::ahC W0 (g+1) a)=_;rw[i]
def uK{b:Ħ}{f:Ã}(h:c1 f b){d:bc}:∀(c:Nat)(e:bc),cY b e d=aa (c+1)->(eE b (aK f) d (c+1) e).length=c+1|0,e,_=>r|c+1,e,j=>by let k:∃a∈aK f,(amm b e a d c)=af:=by{let#[g,i,l]:=df.first j;calc#[g,(h e g i).2,?_];rwa[db,#[gB.mpr i,?_]];ext asc l g;{rwa[g,ύ]}};show(match(aK f).find? λa=>amm b e a d c with|ah=>[]|aa a=>a::eE b (aK f) d (c+1) a).length=_;rcases i:(aK f).find? λa=>amm b e a d c with _|a;{let#[a,e,g]:=k;let:=z8.mp i a e;calc zH g this};{let e:=List.find?_some i;rw[db]at e;let g:cY b a d=aa (c+1):=eq_of_beq e.2;show(a::eE b (aK f) d (c+1) a).length=_;rw[ce,uK h c a g]}
def Ea(b:amk a)(c d:bc):cY R c d=cY YT c d:=by let f:∀{R YT:Ħ}(b:∀a,a∈R->a∈YT){e c d},dv R e c d->dv YT e c d:=by{intro R YT b e c d e;ext ayY e a b};rcases e:cY YT c d with _|c;{rw[oA]at e⊢;calcλc=>e^(oE b).mp c};{rw[it]at e⊢;calc#[f (λa=>(b a).mpr) e.1,λc d g=>e.2 c d^f (λa=>(b a).mp) g]}
def PJ(b:amk a)(a:b5):R.contains a=YT.contains a:=by rw[e4,gB,gB,b]
def EU{f c:Ħ}(i:∀g,g∈f↔g∈c)(h:ŀ)(d:bc):∀(b:Nat)(e:bc),eE f h d b e=eE c h d b e|0,_=>r|1,_=>r|b+2,e=>by unfold eE;let g:(λa=>amm f e a d b)=λa=>amm c e a d b:=funext λa=>by{rw[PJ i,Ea i]};rw[g];rcases h.find? λa=>amm c e a d b with _|a;{rfl};{calc zL (a::·)^EU i h d (b+1) a}
def EL(f:amk b)(c:ŀ)(a d:bc):fr R c a d=fr YT c a d:=by unfold fr;rw[Ea f];let b:(λe=>a::eE R c d e a)=λe=>a::eE YT c d e a:=funext λe=>by{rw[EU f]};rw[b]
def Ej{d g:Type}(e:d->ì g)(f:d)(a:ì d):a.flatMap e=(ae5 a).flatMap λb=>e^a.getD b f:=by let d:a=(ae5 a).map λb=>a.getD b f:=by{ext azR b c a;{rw[l7^c8 c,l7^by rwa[dU,c8 c]];rfl}};conv=>{lhs;rw[d]};rw[z9]
def uz{c f:Type}{d e:c->ì f}:∀{b:ì c},(∀a∈b,d a=e a)->b.flatMap d=b.flatMap e|[],_=>r|c::d,b=>by rw[kx,kx,b c cj,uz (γ a c b)]
def ye{c f:Type}(a:c->Bool)(b:c->ì f):∀e:ì c,(e.filter a).flatMap b=e.flatMap λd=>if a d then b d else[]|[]=>r|d::c=>by rw[eM];split;{rw[kx,kx,ye a b c,zG^by assumption]};{rw[kx,ye a b c,zF^by assumption];rfl}
abbrev lV(b:ŀ)(c:bc)(d:Nat)(a:Nat):Ã:=aoQ a (λa=>azS d a c b)
abbrev iw(b:ŀ)(c:Ã)(a:Nat):Ã:=aoQ a (λa=>lV b (ahD b a) (Ϟ c a) b.length)
variable{abK:bc->bc->Bool}
def ES(e:D.length=YE.length)(g:∀a b c d,YE[a]?=aa c->YE[b]?=aa d->(D.getD a 0).testBit b=abK c d):iw YE D D.length=n7^n9 YE abK:=by unfold iw n7 n9;rwa[e,List.flatMap_assoc,Ej _ (0,0) YE,uz (Â a d)];let d:=eC.mp d;rw[z9,ye,Ej _ (0,0) YE];unfold lV;calc uz (Â b e);let e:=eC.mp e;let f:∀c,c<YE.length->YE[c]?=aa^YE.getD c (0,0):=λc c=>by{rw[dN,bi c];rfl};rw[g a b _ _ (f a d)^f b e]
def k5:(D.getD g 0).testBit B=af↔dR D g B:=by unfold dR;rw[dN];rcases D[g]?with _|a;{simp};{simp}
def Ql(a:aeD)(d:Ζ):iw (aK D) Xz Xz.length=n7^n9 (aK D) λb c=>R.contains (b,c):=by calc ES (by rw[a.len,g3]) (ò e e b c b c);let#[e,f]:=lT b;let#[b,g]:=lT c;rw[e4,k5,gB,e,b,a.c2 d f g]
def Qj(a:aeD)(d:Ζ):iw (aK D) (eg Xz) (eg Xz).length=n7^n9 (aK D) λb c=>tL R b c:=by calc ES (by rw[lO,a.len,g3]) (ò e e b c b c);let#[e,f]:=lT b;let#[b,g]:=lT c;rw[e4,k5,e,b,a.cB d f g,r3]
def cJ.same(c:amk a)(b:aeD):cJ D YT Xz:=#[b.len,λa a=>by rwa[b.bits,exists_congr λa=>exists_congr λa=>and_congr (c _) fM]]
def c1.same(b:amk a)(c:Ζ):c1 D YT:=λa d e=>c a d^(b _).mpr e
def PH(d:aeD)(b:Ζ):(∃a,dR (eg Xz) a a)↔fR R=af:=by rw[PI];constructor;{ext acU a c;rw[D7 Xz^λa a=>d.ec b,d.eo b]at c;let#[e,a,a,f,g]:=c;let#[c,h]:=r8 b a;let:=iv c h^by{rw[f,g]};calc#[e,by rw[<-this]at a;calc a]};{ext acU e a;let#[c,_]:=r8 b a;calc#[_,(d.cB b c c).mpr a]}
abbrev i'(a b:dz):Prop:=a.1<b.1\/(a.1=b.1/\(a.2.1<b.2.1\/(a.2.1=b.2.1/\a.2.2<b.2.2)))
def PS(a:dz):¬i' a a:=by unfold i';lia
variable{aaB:dz}{abL:dz}
def PT(a:i' T aaB)(b:i' aaB abL):i' T abL:=by unfold i' at*;lia
def EN{e:Type}{c:e->e->Prop}(h:∀a,¬c a a)(i:∀{a d j},c a d->c d j->c a j):∀{f g:ì e},f.Pairwise c->g.Pairwise c->(∀b,b∈f↔b∈g)->f=g|[],[],_,_,_=>r|[],d::c,_,_,e=>anF ((e d).mpr cj)|a::f,[],_,_,e=>anF ((e a).mp cj)|a::f,d::c,g,l,e=>by let#[j,m]:=vW.mp g;let#[k,n]:=vW.mp l;let c:a=d:=by{rcases bK.mp^(e a).mp cj with c|f;{calc c};{rcases bK.mp^(e d).mpr cj with c|g;{calc c.symm};{calc zH (i (j d g)^k a f)^h a}}};subst c;congr 1;calc EN h i m n (Í b);constructor;{intro f;rcases bK.mp^(e b).mp^cu _ f with c|g;{subst c;calc zH (j b f)^h b};{calc g}};{intro f;rcases bK.mp^(e b).mpr^cu _ f with c|g;{subst c;calc zH (k b f)^h b};{calc g}}
def yr{c e:Type}{f:e->e->Prop}{j:c->c->Prop}{d:c->ì e}:∀{g:ì c},g.Pairwise j->(∀a∈g,(d a).Pairwise f)->(∀a b,j a b->∀h∈d a,∀i∈d b,f h i)->(g.flatMap d).Pairwise f|[],_,_,_=>.nil|a::f,c,d,e=>by let#[f,g]:=vW.mp c;rwa[kx,Hc,#[d a cj,yr g (γ b c d) e,Ô h g i d]];let#[b,c,d]:=hJ.mp d;calc e a b (f b c) h g i d
def uG(a:Nat):(bB a).Pairwise (·<·):=Hd
def Pr(a:aE):(cP a).Pairwise i':=by unfold cP;calc yr (uG _) (λe _=>yr (uG _) (λd _=>?_) λd f a g b h c=>?_) λe e a g b h c=>?_;{rwa[o0,(uG _).imp λa=>.inr #[r,.inr #[r,a]]]};{ext ad' e b;ext ad' g c;calc è #[r,Ð a]};{let#[d,_,b]:=hJ.mp b;let#[f,_,c]:=hJ.mp c;ext ad' e b;ext ad' g c;calc Ð a}
def PM(a:Nat):(ao1 a).Pairwise i':=by let#[b,b]:=(lP z Xv g XD).cQ a;unfold cn;rwa[b,(Pr z).filter _]
def D0(a:aE)(b:bJ):dn a b=pz (fI a 1 []) (n6 a)^iq a b 1:=r
def Pp(a:aE)(b:bJ):Bl a b=pz (fI a 2^dn a b) (n6 a)^iq a b 2:=r
def PQ(a:aE)(b:bJ):wS a b=pz (fI a 3 []) (n6 a)^iq a b 3:=r
def ED(a:aE)(b c:bJ):fI a 1 b=fI a 1 c:=by rw[<-EB a b,<-EB a c]
def P5(a:aE)(b c:bJ):fI a 3 b=fI a 3 c:=by rw[<-EC a b,<-EC a c]
abbrev es(a:aE)(c:bJ)(b:Nat)(d:bJ):Nat:=tN (fI a b d) (n6 a)^iq a c b
def rZ(a:aE)(c:bJ)(b:Nat)(d:bJ):pz (fI a b d) (n6 a)^iq a c b=cn a c b d^es a c b d/\(∀e,e<es a c b d->∃f,ase f a c b d e)/\(∀e,es a c b d<=e->cn a c b d e=cn a c b d^es a c b d)/\es a c b d<n6 a:=by let#[f,g,h,i,j,k]:=Qa (lP a c b d) (g:=n6 a)^jP _;let l:es a c b d=f:=h;rwa[l,#[g,i,Â e g,k]];let:=(lP a c b d).ep j (e-f);rw[sE g]at this;calc this
def P8(e:∀b,b<B->∃a,a∈ao1 (b+1)/\a∉ao1 b)(f:∀a,a∈ao1 (B+1)->a∈ao1 B):es z Xv g XD=B:=by let#[_,h,i,_]:=rZ z Xv g XD;rcases Hm (es z Xv g XD) B with b|b|b;{let#[a,c,d]:=e _ b;rw[i _^lj _]at c;calc zH c d};{calc b};{let#[a,c,d]:=h _ b;calc zH (f a c) d}
abbrev ct(a:aE):Ã:=(bB a.syms.length).map λb=>acH a b
def pV(a:aE):(ct a).length=a.syms.length:=by unfold ct;rw[aI,dU]
def rX(a:g<z.syms.length):(ct z).getD g 0=ar9:=by unfold ct;rw[dN,b9,qB a];rfl
def ux(a:ą):(ct z).sum<=48:=by let:=uI (D:=ct z) (g:=4) λb b=>by{unfold ct at b;ext ad' c b;calc k2 a c};rw[pV]at this;let:=a.most;lia
def ym(f:∀a∈z.prods,cs z a):(W0,Xc)∈n' z↔∃a∈z.prods,∃c d,(c,d)∈ff z a/\(bq z a)[c.1]?=aa W0.1/\c.2=W0.2/\(bq z a)[d.1]?=aa Xc.1/\d.2=Xc.2:=by unfold n';rw[hJ];constructor;{ext ĳ a e b;let#[#[c,d],h,b]:=fz.mp b;ext Υ b;rw[m3^f a e,m3^f a e]at b;rcases g:(bq z a)[c.1]?with _|i;{ext Æ g b};{rcases i:(bq z a)[d.1]?with _|j;{ext ā g i b};{ext ā g i b;calc#[a,e,c,d,h,g,r,i,r]}}};{rintro⟨a,e,c,d,h,b,g,i,j⟩;calc#[a,e,fz.mpr #[(c,d),h,?_]];dsimp only;rw[m3^f a e,m3^f a e,b,i,g,j];rfl}
def Qc(b:ą)(e:∀a∈z.prods,cs z a):c1 (ct z)^n' z:=λc c c=>by let#[a,f,d,g,h,i,j,k,l]:=(ym e).mp c;let#[m,n]:=uu b (e a f) d g h;let g:∀{b:bc}{c d:Nat},b∈aK^az z a->(bq z a)[b.1]?=aa c->b.2=d->(c,d)∈aK^ct z:=λ{b c d} o b p=>by{let h:=lU (e a f) b;calc hs.mpr #[by{rwa[pV,h]},?_];show d<(ct z).getD c 0;rw[rX h,<-p];let:=(hs.mp o).2;rw[i6,b]at this;calc this};calc#[g m i j,g n k l]
def EO(b:ą)(a:bc):kJ z a=(aK^ct z).filter λc=>(ri (n' z) a).contains c:=by unfold kJ aK fZ;dsimp only;rwa[List.filter_flatMap,pV,uz (Â a a)];rw[k3 b,rX^eC.mp a]
abbrev d8(b:aE)(c:bs)(a:bc):bc:=((bq b c).getD a.1 0,a.2)
def p2(d:į)(a:W0∈aK^ţ):d8 z p W0∈aK^ct z/\azT:=by let#[b,c]:=hs.mp a;rw[i7,<-er z p]at b;let a:azT:=by{unfold d8;dsimp only;rw[dN,bi b];rfl};calc#[?_,a];let b:=lU d a;calc hs.mpr #[by{rwa[pV,b]},?_];rw[rX b];rw[i6,a]at c;calc c
abbrev hY{a:Type}(b:a->Nat):ì a->Option a|[]=>ah|a::c=>match hY b c with|ah=>aa a|aa c=>if b c<b a then aa c else aa a
def oB{k:Type}{c:k->Nat}:∀{f:ì k}{e:k},hY c f=aa e↔∃d:Nat,é f d e/\(∀(a:Nat) b,é f a b->c e<=c b)/\∀(a:Nat) b,a<d->é f a b->c e<c b|[],e=>by{simp[hY]}|h::g,e=>by unfold hY;rcases f:hY c g with _|b;{let:g=[]:=by{ext azU g i f c b};subst this;constructor;{ext ı e;calc#[0,r,Å a b l,ahw a b j];ext adH a;{ext l;calc a5 _};{simp at l}};{rintro⟨d,e,_⟩;ext adH d;{calc e};{simp at e}}};{let#[d,p,n,q]:=(oB (f:=g) (e:=b)).mp f;dsimp only;let o:∀{i f:k},(avv d h g i a b c)->(avv d h g f a b c)->i=f:=by{rintro i f ⟨d,l,s,t⟩ ⟨m,k,u,v⟩;rcases Hm d m with e|e|e;{let:=v d i e l;let:=s m f k;lia};{subst e;rw[l]at k;calc bW k};{let:=t m f e k;let:=u d i l;lia}};split;{rename_i k;let i:avv d h g b a f c:=by{calc#[d+1,p,Å a f b,Ô a f j b];{ext adH a;{ext b;calc Đ k};{calc n a f b}};{ext adH a;{ext b;calc k};{calc q a f (ö j) b}}};calc#[λe=>by{ext e;calc i},λe=>zL aa^o i e]};{rename_i k;let i:∃d:Nat,(h::g)[d]?=aa h/\(∀(a:Nat) f,(h::g)[a]?=aa f->c h<=c f)/\∀(a:Nat) f,a<d->(h::g)[a]?=aa f->c h<c f:=by{calc#[0,r,Å a f b,ahw a f j];ext adH a;{ext b;calc a5 _};{let:=n a f b;calc ai (c8 k) this}};calc#[λe=>by{ext e;calc i},λe=>zL aa^o i e]}}
def PO{c:Type}{d:c->Nat}{b:ì c}(a:hY d b=ah):b=[]:=by ext azU b b a d c
abbrev pT(b:Ħ)(c:ŀ)(a:ŀ):List^ŀ:=a.filterMap (azV b c)
abbrev ir(b:Ħ)(c:ŀ):List^ŀ:=c.filterMap (azV b c)
def rW(c:Ζ)(b:cY R W0 W0=aa g):(W0::(ahC W0 g W0).dropLast).length=g:=by let:=asb b;obtain⟨a,rfl⟩:∃a,g=a+1:=#[g-1,ng this];rw[ce,List.length_dropLast,uK c a W0 b];lia
universe v1875
set_option tactic.hygienic true in def rV{a:Ħ}{c:Ã}(i:c1 c a):iR a^aK c=hY gP^ir a^aK c:=by unfold iR;rcases p:((aK c).filterMap λb=>cY a b b).min? with _|f;{let d:=List.min?_eq_none_iff.mp p;let:ir a^aK c=[]:=by{unfold ir;rw[List.filterMap_eq_nil_iff]at d⊢;intro b j;rw[d b j];rfl};rw[this];rfl};{dsimp only;let#[v,q]:=(List.min?_eq_some_iff).mp p;let#[w,x,y]:=fz.mp v;let z:((aK c).find? λb=>cY a b b==aa f).isSome=af:=oZ.mpr #[w,x,by rwa[y,ύ]];let#[b,j]:=f4.mp z;rwa[j,nw,oX ?_];let#[g,s,A,d,B]:=List.find?_eq_some_iff_append.mp j;let g:cY a b b=aa f:=ρ g;rw[oB];let t:ir a^aK c=pT a (aK c) s++(b::(eE a (aK c) b f b).dropLast)::pT a (aK c) A:=by{unfold ir pT;conv=>{lhs;arg 2;rw[d]};rw[GW,qA,g];rfl};let C:∀h,h∈ir a^aK c->f<=h.length:=λh D=>by{let#[k,l,d]:=fz.mp D;ext ό m e d;rwa[rW i e,q m^fz.mpr #[k,l,e]]};calc#[(pT a (aK c) s).length,ķ E u n,Ô E u F n];{rw[t,lc^a5 _,v0];rfl};{rwa[rW i g,C u^cq n]};{rw[rW i g];rw[t,lb F]at n;let#[k,l,G]:=fz.mp^cq n;ext ό m e G;rw[rW i e];let H:=q m^fz.mpr #[k,by{rwa[d,hI _ l]},e];let o:=B k l;rw[e]at o;let:m≠f:=λh=>by{ext ajz h o};calc h8 H this}}
inductive gJ:Ĵ->Prop|ez(a:å):gJ [[0],a]|eA(a:å):gJ [[1],a]|eD(a b c:å):gJ [[2],a,b,c]|eE(a b c:å):gJ [[3],a,b,c]|eF(d:Int)(a:å):gJ [[4,d],a]|eG(d:Int)(a:å):gJ [[5,d],a]|eH:gJ [[6]]|eI(d:Int):gJ [[7,d]]|eJ(e f g h i:Int)(a:å):gJ [[8,e,f,g,h,i],a]|eK(a b c:å):gJ [[9],a,b,c]|eB(a b:å):gJ [[10],a,b]|eC:gJ [[11]]
variable{XT:List (List Int)}
def Qo(a:gJ XT):PyVaattc.whole XT=XT:=by ext a<;>rfl
def fk{c:Type}{b:ì c->Prop}(d:b []):∀a,a.length=0->b a:=by intro a b;ext Ā a a a;{calc d};{ext b}
def fl{d:Type}{c:ì d->Prop}(e:∀b a,a.length=g->c (b::a)):∀a,a.length=g+1->c a:=by intro a c;ext Ā a b a;{ext c};{calc e b a^Ak c}
def Qb(b:asf):∀a:å,a.length=g->∀c:Ĵ,c.length=B->gJ ((Xb::a)::c):=by unfold dO at b;by_cases a:Xb=0;{calc amn a b λc=>fk^.ez c};ext afq a b;by_cases a:Xb=1;{calc amn a b λc=>fk^.eA c};ext afq a b;by_cases a:Xb=2;{calc amn a b λc=>fl λd=>fl λe=>fk^.eD c d e};ext afq a b;by_cases a:Xb=3;{calc amn a b λc=>fl λd=>fl λe=>fk^.eE c d e};ext afq a b;by_cases a:Xb=4;{ext akH a b;calc fl^λf=>fk^fl λc=>fk^.eF f c};ext afq a b;by_cases a:Xb=5;{ext akH a b;calc fl^λf=>fk^fl λc=>fk^.eG f c};ext afq a b;by_cases a:Xb=6;{ext akH a b;calc fk^fk .eH};ext afq a b;by_cases a:Xb=7;{ext akH a b;calc fl^λf=>fk^fk^.eI f};ext afq a b;by_cases a:Xb=8;{ext akH a b;calc fl^λf=>fl λh=>fl λi=>fl λj=>fl λa=>fk^fl λc=>fk^.eJ f h i j a c};ext afq a b;by_cases a:Xb=9;{calc amn a b λc=>fl λd=>fl λe=>fk^.eK c d e};ext afq a b;by_cases a:Xb=10;{calc amn a b λc=>fl λd=>fk^.eB c d};ext afq a b;by_cases a:Xb=11;{ext akH a b;calc fk^fk .eC};rw[zF a]at b;ext b
def EI(a:asf)(b:Xi.length=g)(c:XT.length=B):gJ ((Xb::Xi)::XT):=Qb a Xi b XT c
def yj:∀{b:List^Ĵ},(∀a∈b,gJ a)->b.map PyVaattc.whole=b|[],_=>r|a::b,c=>by rw[dg,Qo^c a cj,yj (γ a b c)]
abbrev jB(a:Ĵ):å:=a.flatMap λa=>(a.length:Int)::a
variable{Zf:List Int}{Zo:List Int}
def P9(a:An Xi=aa (Zf,Zo)):Xi=(Zf.length:Int)::Zf++Zo:=by unfold An at a;rcases Xi with _|⟨b,Xi⟩;{ext a};{ext akc a;{rename_i c;ext a;let d:((Xi.take b.toNat).length:Int)=b:=by{rwa[dD,s0 c.2,vO c.1]};rw[d,vP,vX]};{ext a}}
def EE:∀{d:Nat}{b:å}{c:Ĵ}{e:å},s4 d b=õ c e->ϲ c d/\b=jB c++e|0,b,c,e,a=>by{unfold s4 at a;ext a;calc aeX}|d+1,b,c,e,a=>by unfold s4 at a;rcases c:An b with _|b;{ext Æ c a};{let#[e,f]:=b;ext aiL c a;rcases e:s4 d f with _|b;{ext Æ e a};{let#[d,d]:=b;ext Æ e a;let#[a,b]:=EE e;calc#[by{rw[ce,a]},?_];rw[P9 c,b];unfold jB;rw[kx,fN]}}
def D2(a:v4 dO Xi=aa (XT,Zf)):∃b c d f e,dO b=õ c d/\ϲ f c/\ϲ e d/\XT=(b::f)::e/\Xi=b::f++(jB e++Zf):=by unfold v4 at a;rcases Xi with _|⟨b,i⟩;{ext a};{ext Υ a;rcases f:dO b with _|g;{ext Æ f a};{let#[c,d]:=g;ext aiL f a;ext Ĳ a;{rename_i h;rcases h:s4 d^i.drop c with _|g;{ext Æ h a};{let#[e,j]:=g;ext Æ h a;let#[a,g]:=EE h;calc#[b,c,d,Ğ i c,e,f,by{rw[dD];lia},a,r,?_];rw[vP,<-g,vX]}}}}
variable{aaC:List (List (List Int))}
def D3(a:kB dO g Xi=aa aaC)(e:Xi≠[]):∃c b d f,v4 dO Xi=õ c b/\kB dO f b=aa d/\aaC=c::d:=by rcases Xi with _|⟨f,h⟩;{calc zH r e};{ext aiB;{unfold kB at a;ext a};{unfold kB at a;rcases e:v4 dO (f::h)with _|f;{ext Æ e a};{let#[c,b]:=f;ext aiL e a;rcases e:kB dO g b with _|d;{ext Æ e a};{ext Æ e a;calc#[c,b,d,g,r,e,r]}}}}
def D4(a:kB dO g []=aa aaC):aaC=[]:=by ext g<;>(unfold kB at a;ext a;rfl)
def D5:∀{b:List^Ĵ}{e:Nat}{f:å},kB dO e f=aa b->∀c∈b,gJ c|[],_,_,_,_,a=>nomatch a|g::b,e,f,d,c,a=>by let#[b,b,b,b,e,f,b]:=D3 d λb=>by{rw[b]at d;cases D4 d};ext b;ext aoO a;{let#[d,d,d,d,d,d,g,h,b,_]:=D2 e;rwa[a,b,EI d g h]};{calc D5 f c a}
def Pw(a:Bf Xi=af):∃b g,kB dO g Xi=aa b/\(∀h∈b,Bo h=af)/\q' Xi=qL^qK lD Bq b/\(q' Xi).length<=10000000:=by unfold Bf at a;rcases c:kB dO Xi.length Xi with _|b;{ext Æ c a};{ext aiL c a;simp only[db]at a;let#[#[#[#[i,j],k],d],e]:=a;let f:=D5 c;calc#[b,Xi.length,c,ae8];{unfold VU at d;rw[yj f,db,iI]at d;calc d.1};{unfold q' PyVaattc.calls;ext adO c;rw[yj f]};{unfold PyFlat.short at e;calc zI e}}
def Qk(a:VT)(b:Ĵ)(c:List^Ĵ):qL^qK lD a (b::c)=(((lD a b).2.length:Int)::(lD a b).2)++qL^qK lD (lD a b).1 c:=by unfold qL;rw[qK,kx]
structure i2(d:aE)(a:bs)(g:Nat)(l:Ã):Prop where(occs:∀(b:Nat) c,b<g->ahx a b c->∀m∈c.expr.occs,(c6 d a m).isSome=af)(cP:∀(b:Nat) c f,b<g->ahx a b c->agm c f->∃e,c6 d a f=aa e/\fH d a e=af/\∀(h:Nat) i j,h<b->ahx a h i->agm i j->c6 d a j≠aa e)(cT:∀k,k∈l↔∃(b:Nat) (c:eY) (f:akF) (e:bc),b<g/\ahx a b c/\agm c f/\c6 d a f=aa e/\Ġ d a e=k)
variable{ZC:List Nat}
def i2.start:i2 z p 0 []:=#[ahw b c a,λb c c a=>aeu a,λc=>#[Ĝ a,λ#[b,ů a,_]=>aeu a]]
def i2.none(f:i2 z p W1 ZC){a:eY}(g:p.rules[W1]?=aa a)(k:∀b∈a.expr.occs,asa b)(j:a.target=ah):i2 z p (W1+1) ZC:=by ext azW a b h d e i l c g k f;{by_cases c:a=W1;{ext acK c g d;ext Æ j i};{calc f.cP a b e (θ h c) d i}};{rw[f.cT];constructor;{rintro⟨a,b,e,f,h,d⟩;calc#[a,b,e,f,cX h 1,d]};{rintro⟨a,b,e,f,h,d,i,k⟩;by_cases c:a=W1;{ext acK c g d;ext Æ j i};{calc#[a,b,e,f,θ h c,d,i,k]}}}
def i2.some(e:ą)(g:į)(k:i2 z p W1 ZC){l:eY}(m:p.rules[W1]?=aa l)(h:∀d∈l.expr.occs,asa d){n:akF}(o:agm l n){b:bc}(q:Ε n=aa b)(i:fH z p b=af)(u:aM ţ b∉ZC){a:Ã}(v:∀f,f∈a↔f∈ZC\/f=aM ţ b):i2 z p (W1+1) a:=by ext azW a d s e g t f c m h k;{by_cases c:a=W1;{ext acK c m e;ext Æ o t;calc#[b,q,i,λw x y h f i j=>u^(k.cT _).mpr #[w,x,y,b,h,f,i,j,r]]};{calc k.cP a d g (θ s c) e t}};{rw[v,k.cT];constructor;{rintro(⟨a,d,g,e,h,f⟩|k);{calc#[a,d,g,e,cX h 1,f]};{calc#[W1,l,n,b,a5 _,m,o,q,k.symm]}};{rintro⟨a,d,g,e,h,f,i,j,b⟩;by_cases c:a=W1;{ext acK c m f;ext Æ o i;ext Æ q j;calc .inr b.symm};{calc .inl #[a,d,g,e,θ h c,f,i,j,b]}}}
def mV.here(e:mV z p)(b:ą)(c:į)(f:i2 z p W1 ZC)(g:p.rules[W1]?=aa Yv)(h:avm):∃a,Ε Zd=aa a/\fH z p a=af/\aM ţ a∉ZC:=by let#[a,d,i,j]:=e.cP W1 Yv Zd g h;calc#[a,d,i,Í e];let#[g,h,i,a,k,l,m,a,n]:=(f.cT _).mp e;let:=iv (lS b c a) (lS b c d) n;rw[this]at a;calc j g h i k l m a
def i2.drawn(k:ą)(l:į)(g:i2 z p p.rules.length ZC):mV z p↔∀b∈aK^ţ,fH z p b=af->aM ţ b∈ZC:=by let m:∀{a:Nat}{c:eY},p.rules[a]?=.some c->a<p.rules.length:=λi=>ä i;constructor;{intro f b h j;let#[c,d,e,n,o]:=f.all b h j;ext agk a f d;calc(g.cT _).mpr #[a,_,e,b,f,bi f,n,o,r]};{intro i;calc#[Ô c d n o,λa c e d q=>g.cP a c e (m d) d q,Å b h j];{ext agk a f d;calc g.occs a _ f (bi f) n o};{let#[a,c,e,a,a,d,f,a,m]:=(g.cT _).mp^i b h j;let:=iv (lS k l a) h m;rw[this]at a;calc#[c,cq d,e,f,a]}}
abbrev i9(c:Nat)(d:Ã)(a:Ã):Ã:=a.foldl (λa b=>a.set b (Ϟ a b|||(1<<<c))) d
def yc(b:Nat):∀(c a:Ã),(i9 b a c).length=a.length|[],_=>r|d::c,a=>by show(i9 b (a.set d _) c).length=_;rw[yc b c,l8]
def Ec(f:Nat):∀(e a:Ã),(∀d∈e,ś d a)->∀b c,dR (i9 f a e) b c↔dR a b c\/(b∈e/\c=f)|[],a,_,b,c=>by{show dR a b c↔_;simp}|d::g,a,e,b,c=>by show dR (i9 f (a.set d _) g) b c↔_;let b:=e d cj;let c:a[d]?=aa^Ϟ a d:=by{rw[dN,bi b];rfl};rw[Ec f g _^λa b=>by{rwa[l8,e a^cu _ b]},yb c,bK];constructor;{rintro((e|⟨a,b⟩)|⟨a,b⟩);{calc Ð e};{calc è #[Ð a,b]};{calc è #[ÿ a,b]}};{rintro(e|⟨a|a,b⟩);{calc .inl^Ð e};{calc aip #[a,b]};{calc è #[a,b]}}
def PK(a:Nat)(b c:Ã)(d:Nat):i9 a b (c++[d])=(i9 a b c).set d ((i9 a b c).getD d 0|||(1<<<a)):=by unfold i9;rw[sN];rfl
def cJ.rule(h:ą)(k:į)(b:azX)(l:p.rules[g]?=aa Yv)(i:avm)(j:Ε Zd=aa W0)(e:∀a,a∈YE↔∃c∈Yv.expr.occs,Ε c=aa a):azY^i9 (aM ţ W0) D^YE.map^aM^ţ:=by let m:∀d∈YE.map^aM^ţ,d<D.length:=λd d=>by{ext ϓ a f d;let#[c,_,d]:=(e a).mp f;rwa[b.len,ht^lS h k d]};calc#[by{rw[yc,b.len]},Â d d];rw[Ec _ _ _ m,b.bits,dE,l];rw[azZ,l6];constructor;{rintro(⟨a,h,b,d⟩|⟨b,d⟩);{calc#[a,h,hI _ b,d]};{ext ϓ a f b;let#[c,k,l]:=(e a).mp f;calc#[a,W0,eU _^yk.mpr #[Yv,cj,Zd,i,j,c,k,l],r,d.symm]}};{rintro⟨a,h,b,d,k⟩;calc ao2 b #[a,h,b,d,k];{let#[f,m,f,f,h,c,l,n]:=yk.mp b;rw[ċ m]at f l;ext Æ i f;ext Æ j h;calc è #[bE.mpr #[a,(e a).mpr #[c,l,n],d],k.symm]}}
def cJ.cond(a:azX)(b:p.rules[g]?=aa Yv)(c:Yv.target=ah):azY D:=by let d:j1 z p Yv=[]:=by{unfold j1;rw[c];rfl};rw[dE,b,azZ,l6];show cJ _ (_++(j1 z p Yv++[])) _;rw[d];exists a
def EF(a:Ã):cJ a []^jm a.sum 0:=#[by{simp},λa a=>by constructor;{ext ĳ a a b;let:=ľ a;let#[_,c]:=this;rw[Aa]at c;rw[<-c]at b;simp at b};{rintro⟨b,b,a,_⟩;ext a}]
abbrev ix(b:Nat)(a:qX):qX:=if a.more>0 then{a with j:=a.j+1,more:=a.more-1}else{a with j:=(ao3 b a).1,more:=f5 b (ao3 b a).1-(ao3 b a).1,i:=(ao3 b a).1,perturb:=(ao3 b a).2}
abbrev QM(a:Nat)(b:Int):qX:={j:=aeE b a,more:=f5 a (aeE b a)-aeE b a,i:=aeE b a,perturb:=fA b,dummy:=ah}
abbrev bZ(a:Nat)(b:Int):Nat->qX|0=>QM a b|c+1=>ix a^bZ a b c
abbrev cC(a:Nat)(b:Int):Nat->aeC|0=>(aeE b a,fA b)|c+1=>nE a (ς a b c) (cC a b c).2
abbrev sb(a:Nat)(b:Int)(c:Nat)(d:qX):Prop:=d.j=ς a b c/\d.i=ς a b c/\d.perturb=(cC a b c).2/\d.more=ai6 a b c/\d.dummy=ah
def QK(b a:Nat):f5 b a-a<=9:=by ext asg
def yB{a:Nat}{b:Int}{e d:Nat}(f:sb a b e^bZ a b d):∀c,c<=ai6 a b e->(bZ a b (d+c)).j=ς a b e+c/\(bZ a b (d+c)).i=ς a b e/\(bZ a b (d+c)).perturb=(cC a b e).2/\(bZ a b (d+c)).more=ai6 a b e-c/\(bZ a b (d+c)).dummy=ah|0,_=>#[f.1,f.2.1,f.2.2.1,f.2.2.2.1,f.2.2.2.2]|c+1,g=>by let#[e,h,i,j,j]:=yB f c^Đ g;show(ix a^bZ a b (d+c)).j=_/\(ix a^bZ a b (d+c)).i=_/\(ix a^bZ a b (d+c)).perturb=_/\(ix a^bZ a b (d+c)).more=_/\(ix a^bZ a b (d+c)).dummy=_;unfold ix;rwa[zG^by{omega},#[by{show(bZ a b (d+c)).j+1=_;calc bX (aF (aZ e) 1)^aF (au e) 1},h,i,by{show(bZ a b (d+c)).more-1=_;omega},j]]
def QH(a:sb g Xb B^bZ g Xb W1):sb g Xb (B+1)^bZ g Xb (W1+(f5 g (cC g Xb B).1-(cC g Xb B).1)+1):=by let#[b,b,c,d,d]:=yB a _^a5 _;show sb g Xb (B+1)^ix g^bZ g Xb (W1+_);unfold ix;rwa[ν,b,c,#[acZ,d]]
abbrev ey(a:Nat)(b:Int):Nat->Nat|0=>0|c+1=>ey a b c+(ai6 a b c)+1
def uL(a:Nat)(b:Int):∀c,sb a b c^bZ a b^ey a b c|0=>#[acZ,r]|c+1=>QH^uL a b c
def E4(b:Nat)(c:Int):∀a,ey b c a<=10*a|0=>a5 _|a+1=>by let:=E4 b c a;let:=QK b (ς b c a);show ey b c a+_+1<=_;lia
def E3(c:Nat)(b:Int):∀a,(cC c b a).2=fA b/32^a|0=>by{simp[cC]}|a+1=>by show(cC c b a).2/32=_;rw[E3 c b a,Hj,Hp]
def Qq(a:Int):fA a<2^64:=by unfold fA;let b:=Int.emod_nonneg a (b:=(2^64:Int))^by{decide};let b:=Int.emod_lt_of_pos a (b:=(2^64:Int))^by{decide};lia
def QC(a:Nat)(b:Int)(c:12<=g):(cC a b (g+1)).1=((cC a b g).1*5+1)%(a+1):=by show((cC a b g).1*5+1+(cC a b g).2/32)%(a+1)=_;let:(cC a b g).2/32=0:=by{rwa[E3,Hj,<-Hp,Nat.div_eq_of_lt^eN (Qq b) ?_];calc ds (m:=32^13) (by decide)^Nat.pow_le_pow_right (by decide)^by lia};rw[this]
abbrev ja(b:Nat):Nat->Nat->Nat|0,a=>a|c+1,a=>(ja b c a*5+1)%(b+1)
def E2(a:Nat)(b:Int):∀c,(cC a b (12+c)).1=ja a c (cC a b 12).1|0=>r|c+1=>by rw[<-jn,QC a b^ġ,E2 a b c];rfl
def uN(a c:Nat)(d:Nat):∀b,ja a (d+b) c=ja a b^ja a d c|0=>r|b+1=>by rw[<-jn];show(ja a (d+b) c*5+1)%(a+1)=_;rw[uN a c d b];rfl
abbrev r9(a:Nat):Prop:=∀b,b<=a->∃c,c<=a/\ja a c 0=b
abbrev yD(b:Nat):Nat->Nat->Ã|0,a=>[a]|c+1,a=>a::yD b c ((a*5+1)%(b+1))
def E6(a:Nat):∀b c,ja a (b+1) c=ja a b ((c*5+1)%(a+1))|0,_=>r|b+1,c=>by show(ja a (b+1) c*5+1)%(a+1)=_;rw[E6 a b c];rfl
def E5(f:Nat):∀(c d a:Nat),a∈yD f c d->∃e,e<=c/\ja f e d=a|0,d,a,b=>#[0,a5 _,(ċ b).symm]|c+1,d,a,b=>by ext adZ b d;{calc#[0,bF _,d.symm]};{let#[e,g,d]:=E5 f c _ a b;calc#[e+1,aF g 1,by rwa[E6,d]]}
def yA(b:((amo).all λa=>(yD g g 0).contains a)=af):r9 g:=λa c=>by let:=iI.mp b a^eC.mpr^aF c 1;calc E5 g g 0 a^gB.mp this
def Qu:r9 7:=yA^by ext Û
def Qt:r9 31:=yA^by ext Û
def Qs:r9 127:=yA^by ext Û
structure h0(a:Nat):Prop where(d3:r9 a)(back:ja a (a+1) 0=0)
def QG:h0 7:=#[Qu,by ext Û]
def QF:h0 31:=#[Qt,by ext Û]
def QE:h0 127:=#[Qs,by ext Û]
def h0.eL(c:h0 g)(b:B<=g)(f:W1<=g):∃a,a<=g/\ja g a B=W1:=by let#[a,h,d]:=c.d3 B b;let#[b,i,e]:=c.d3 W1 f;by_cases k:a<=b;{calc#[b-a,ai acP i,?_];let:=uN g 0 a (b-a);rw[d,sE k,e]at this;calc this.symm};{calc#[g+1+b-a,by{omega},?_];let:=uN g 0 a (g+1+b-a);rw[d,sE^Đ^ē h 1^ġ,uN,c.back,e]at this;calc this.symm}
def QD(a:Nat)(b:Int):∀c,ς a b c<=a|0=>by{let:=ash (fA b) a;show aeE b a<=a;calc ö this}|c+1=>by show(_:Nat)%(a+1)<=a;let:=ash (ς a b c*5+1+(cC a b c).2/32) a;calc ö this
def h0.eg(c:h0 g)(a:Int)(d:B<=g):∃b,b<=12+g/\(cC g a b).1=B:=by let#[b,e,f]:=c.eL (QD g a 12) d;calc#[12+b,anu e,by rw[E2,f]]
def h0.cU(c:h0 g)(a:Int)(d:B<=g):∃b,b<=10*(12+g)/\aeF a b=B:=by let#[b,e,e]:=c.eg a d;calc#[ey g a b,by{let:=E4 g a b;lia},?_];rw[(uL g a b).1,e]
def sc(a:Nat)(b:Int):∀c,(bZ a b c).j+(bZ a b c).more<=a/\(bZ a b c).i<=a/\(bZ a b c).dummy=ah|0=>by{let:=ash (fA b) a;calc#[?_,by{show aeE b a<=a;calc ö this},r];show aeE b a+(f5 a (aeE b a)-aeE b a)<=a;ext asg}|c+1=>by let#[d,e,d]:=sc a b c;show(ix a^bZ a b c).j+(ix a^bZ a b c).more<=a/\(ix a^bZ a b c).i<=a/\(ix a^bZ a b c).dummy=ah;unfold ix;split;{calc#[?_,e,d];show(bZ a b c).j+1+((bZ a b c).more-1)<=a;lia};{let:(nE a (bZ a b c).i (bZ a b c).perturb).1<=a:=by{show(_:Nat)%(a+1)<=a;let:=ash ((bZ a b c).i*5+1+(bZ a b c).perturb/32) a;calc ö this};calc#[?_,this,d];show(nE a (bZ a b c).i (bZ a b c).perturb).1+(f5 a _-_)<=a;ext asg}
def yz{e:Array Nat}{f:Nat}:∀(h b a:Nat),a-b<=h->a<=e.size->b<=a->(∀(g i:Nat) c j,g<i->é e g c->é e i j->c<j)->(∀(d:Nat) c,d<b->é e d c->c<f)->(∀(d:Nat) c,a<=d->é e d c->f<=c)->tc e f h b a<=e.size/\(∀(d:Nat) c,d<tc e f h b a->é e d c->c<f)/\∀(d:Nat) c,tc e f h b a<=d->é e d c->f<=c|0,b,a,n,j,p,i,l,m=>by{unfold tc;let g:b=a:=by{lia};subst g;calc#[j,l,m]}|h+1,b,a,n,j,p,i,l,m=>by unfold tc;by_cases u:b<a;{rw[zG u];dsimp only;let o:(b+a)/2<e.size:=by{lia};let n:e[(b+a)/2]?=aa e[(b+a)/2]:=l3 o;let q:e.getD ((b+a)/2) f=e[(b+a)/2]:=by{simp[vH,o]};rw[q];by_cases k:e[(b+a)/2]<f;{rwa[zG k,yz h _ a (by lia) j (by lia) i (Ô d c f e) m];by_cases g:d=(b+a)/2;{ext acK g n e;calc k};{calc sY (i d _ c _ (θ f g) e n) k}};{rwa[zF k,yz h b _ (by lia) (Đ o) (by lia) i l (Ô d c f e)];by_cases g:d=(b+a)/2;{ext acK g n e;calc c8 k};{let:=i _ d _ c (by{calc h8 f g}:(b+a)/2<d) n e;calc Đ^ai (aF (c8 k) 1) this}}};{rw[zF u];let g:b=a:=bX p^c8 u;subst g;calc#[j,l,m]}
variable{ZV:Array Nat}
def EW(g:∀(d e:Nat) a f,d<e->ZV[d]?=aa a->ZV[e]?=aa f->a<f)(c:Nat):hh ZV c<=ZV.size/\(∀(b:Nat) a,b<hh ZV c->ZV[b]?=aa a->a<c)/\∀(b:Nat) a,hh ZV c<=b->ZV[b]?=aa a->c<=a:=yz ZV.size 0 ZV.size acP (a5 _) (bF _) g (ahw b a c) λb a c a=>by let:=(ni.mp a).1;lia
@[reducible]abbrev gK:=Nat×(Int×aj)
structure f0(b:iM)(c:amp)(a:agn):Prop where(c5:b.dummies=#[])(place:b.place=(ė a).toArray)(cD:c=(Ϫ a).toArray)(du:a.Pairwise λd e=>d.1<e.1)(cs:∀f∈a,f.1<=b.mask)
abbrev hZ(a:agn)(b:Nat):Prop:=∃c∈a,c.1=b
variable{XQ:iM}{XN:Array (Int×aj)}{Yg:List gK}
def f0.get(b:ai7)(a:Nat):XQ.place[a]?=(Yg[a]?).map (·.1):=by rw[b.place];simp
def f0.d9(b:ai7)(a:Nat):XN[a]?=(Yg[a]?).map (·.2):=by rw[b.cD];simp
def f0.dW(e:ai7):∀(a b:Nat) c d,a<b->XQ.place[a]?=aa c->XQ.place[b]?=aa d->c<d:=by intro a b c d h f g;rw[e.get]at f g;ext ό m i f;ext ό n j g;let#[k,rfl]:=ľ i;let#[l,rfl]:=ľ j;calc qH.mp e.du a b k l h
variable{V':gK}
def f0.at_(a:ai7)(d:Yg[g]?=aa V'):ao4=g:=by let#[b,e,f]:=EW a.dW V'.1;let b:XQ.place[g]?=aa V'.1:=by{rw[a.get,d];rfl};by_cases k:g<ao4;{let:=e g _ k b;lia};{by_cases c:ao4<g;{let e:=(ni.mp b).1;let d:XQ.place[ao4]?=aa (XQ.place[ao4]'(acT c e)):=l3 _;let:=f _ _ (a5 _) d;let:=a.dW _ _ _ _ c d b;lia};{calc bX (c8 k)^c8 c}}
def f0.live(a:ai7){b:Nat}{c:gK}(d:Yg[b]?=aa c):XQ.slot c.1=.live b:=by unfold SetTable.slot;dsimp only;rw[a.at_ d,a.get,d];simp
def f0.empty(c:ai7){a:Nat}(d:¬hZ Yg a):XQ.slot a=.empty:=by unfold SetTable.slot;dsimp only;let e:¬(XQ.place[hh XQ.place a]?==aa a)=af:=λb=>by{let b:=ρ b;rw[c.get]at b;let#[f,g,h]:=acR b;calc d #[f,cq g,h]};rw[zF e];let b:SetTable.has XQ.dummies a=ay:=by{rw[c.c5];unfold SetTable.has;simp};rw[b];rfl
abbrev EV(e:agn)(a:Nat)(b:Int)(d:Nat):Prop:=∃c,(bZ a b c).j=d/\∀d,d<c->hZ e (bZ a b d).j
abbrev p4(a:agn)(c:Nat):Prop:=∀b∈a,EV a c b.2.1 b.1
def yC:∀{c b:Ã},c.Nodup->(∀a∈c,a∈b)->ag8 c b|[],_,_,_=>bF _|a::e,b,d,c=>by let#[f,e]:=jN.mp d;let d:=c a cj;let:=yC (b:=b.erase a) e λb e=>by{let g:=c b^cu _ e;let c:b≠a:=λa=>f (a▸e);calc(Ha c).mpr g};rw[G7 d]at this;let:=G8 d;rw[ce];lia
def Qz(b:Yg.length<=g):∃a,a<=g/\¬hZ Yg a:=by by_cases c:∃a,a<=g/\¬hZ Yg a;{calc c};{exfalso;let:=yC (c:=amo) (b:=Yg.map (·.1)) qG λa d=>by{by_cases k:hZ Yg a;{let#[e,f,rfl]:=k;calc ai1 e f};{calc zH #[a,by{let:=eC.mp d;calc ö this},k] c}};rw[dU,aI]at this;calc az0 b}
variable{aaD:Nat->Prop}
def EX:∀{b:Nat},aaD b->∃c,c<=b/\aaD c/\∀a,a<c->¬aaD a:=by intro b;induction b using Hq with|_ b f=>intro g;by_cases k:∃a,a<b/\aaD a;{let#[a,d,e]:=k;let#[c,h,i,j]:=f a d e;calc#[c,acT h d,i,j]};{calc#[b,a5 _,g,λa d e=>k #[a,d,e]]}
def Qw(d:h0 g)(e:Yg.length<=g)(b:Int):∃a,a<=10*(12+g)/\¬hZ Yg (aeF b a)/\∀c,c<a->hZ Yg (aeF b c):=by let#[f,f,h]:=Qz e;let#[a,e,i]:=d.cU b f;let#[c,d,f,j]:=EX (aaD:=λa=>¬hZ Yg (aeF b a)) (b:=a)^by{rwa[i,h]};calc#[c,ai d e,f,λk a=>nj.mp^j k a]
def yE{c:iM}{o:amp}{h:agn}(j:f0 c o h){a:Int}{i:Nat}{m:aj7}(u:avw g m o)(v:¬hZ h (adv c a i).j)(w:∀f,f<i->hZ h (adv c a f).j):∀(l b:Nat),b<=i->i-b<l->(∃f g k,b<=f/\f<i/\é h g k/\k.1=(adv c a f).j/\k.2.1=a/\(∀e d,b<=e->e<f->d∈h->d.1=(adv c a e).j->d.2.1≠a)/\qY c m a l^adv c a b=aa^.candidate (adv c a f).j g^adv c a (f+1))\/((∀e d,b<=e->e<i->d∈h->d.1=(adv c a e).j->d.2.1≠a)/\qY c m a l^adv c a b=aa^.empty (adv c a i).j ah)|0,b,_,o=>by{lia}|l+1,b,p,o=>by by_cases k:b=i;{subst k;calc è #[λe d A B=>by{lia},?_];unfold qY;rw[j.empty v];dsimp only;rw[(sc c.mask a b).2.2]};{let q:b<i:=eT p k;let#[i,o,k]:=w b q;ext acF g p x o;let o:é h g i:=by{rw[bi p,x]};let y:∀d,d∈h->d.1=(adv c a b).j->d=i:=λd s C=>by{ext acF p D z s;let s:=j.at_ o;let t:=j.at_^ao5 h p d D z;rw[k]at s;rw[C]at t;let:g=p:=avx s t;subst this;rw[<-x,<-z]};let h:m g=i.2.1:=by{rw[u,j.d9,o];rfl};unfold qY;rw[<-k,j.live o];dsimp only;rw[h];by_cases n:i.2.1=a;{calc .inl #[b,g,i,a5 _,q,o,k,n,λe d A B=>by{lia},?_];rw[zG^by{rwa[n,ύ]},<-k];rfl};{rw[zF^λg=>n^ρ g];let h:c.advance^adv c a b=adv c a (b+1):=r;rw[h];rcases yE j u v w l (b+1) (q)^by{lia}with⟨f,p,d,h,i,a,c,j,k,l⟩|⟨h,i⟩;{calc .inl #[f,p,d,Đ h,i,a,c,j,ò e a f j c d,l];by_cases g:e=b;{subst g;rwa[y a c d,n]};{calc k e a (h8 f g) j c d}};{calc è #[ò e a f j c d,i];by_cases g:e=b;{subst g;rwa[y a c d,n]};{calc h e a (h8 f g) j c d}}}}
def E0{c:Type}(a:ì c)(b:Nat)(d:c)(e:b<=a.length):pa a.toArray b d=(Ğ a b++d::a.drop b).toArray:=by unfold pa;apply Array.ext';simp;calc vY^by rwa[jl,a5 _]
def f0.put{d:iM}{i:amp}{e:agn}(f:f0 d i e){c:Nat}(m:¬hZ e c)(n:c<=d.mask)(hx:Int×aj):∃a,f0 (d.put c).1 (pa i (d.put c).2 hx) a/\(∀b,b∈a↔b∈e\/b=(c,hx))/\a.length=Ŏ e/\∃g h,e=g++h/\a=g++(c,hx)::h:=by let#[j,l,o]:=EW f.dW c;let k:d.place.size=e.length:=by{rw[f.place];simp};let a:ai8 d c<=e.length:=ai j^aZ k;let j:SetTable.has d.dummies c=ay:=by{rw[f.c5];unfold SetTable.has;simp};calc#[e.take^ai8 d c++(c,hx)::e.drop^ai8 d c,#[ae8,?_,?_],Í b,?_,_,_,(vX _ _).symm,r];{unfold IH;dsimp only;rwa[j,f.c5]};{unfold IH;dsimp only;conv=>{lhs;arg 1;rw[f.place]};rw[E0 _ _ _^by exists a];simp};{show pa i (ai8 d c) hx=_;conv=>{lhs;arg 1;rw[f.cD]};rw[E0 _ _ _^by exists a];simp};{rw[Hc];let k:∀b∈e.take^ai8 d c,b.1<c:=λb a=>by{let#[j,i,rfl]:=sS.mp a;calc l j _ (ai i^acG)^by rw[f.get,bi^ai i^afX];rfl};let l:∀b∈e.drop^ai8 d c,c<b.1:=λb a=>by{let#[j,i,hx]:=d3.mp a;rw[List.getElem_drop]at hx;rw[jl]at i;let:=o (ai8 d c+j) b.1 ġ^by{rw[f.get,bi^by{lia},hx];rfl};let i:b.1≠c:=λj=>m #[b,sR a,j];calc h8 this i};calc#[f.du.sublist^Hg _ _,vW.mpr #[λb a=>l b a,f.du.sublist^List.drop_sublist _ _],Ô g j h i];ext adZ i b;{rwa[b,k g j]};{calc sY (k g j)^l h i}};{intro b a;show b.1<=d.mask;ext ag9 a;{calc f.cs b^Hb a};{ext adZ a g;{rwa[g,n]};{calc f.cs b^sR a}}};{constructor;{intro a;ext ag9 a;{calc .inl^Hb a};{ext adZ a g;{calc ÿ g};{calc .inl^sR a}}};{rintro(a|a);{rw[<-vX (ai8 d c) e]at a;ext ag9 a;{calc hI _ a};{calc eU _^cu _ a}};{rwa[a,eU _ cj]}}};{rw[cO,ce,dD,jl];lia}
universe v1967
set_option tactic.hygienic true in def p4.put{d e:agn}{f:Nat}(n:p4 d f){k:Nat}{hx:Int×aj}(l:∀a,a∈e↔a∈d\/a=(k,hx))(o:EV d f hx.1 k):p4 e f:=by let m:∀{b},hZ d b->hZ e b:=λ{b} p=>by{let#[a,c,q]:=p;calc#[a,(l a).mpr^Ð c,q]};intro a c;rcases(l a).mp c with c|rfl;{let#[g,h,i]:=n a c;calc#[g,h,λb j=>m^i b j]};{let#[g,h,i]:=o;calc#[g,h,λb j=>m^i b j]}
structure lW(c:Nat)(f:å)(g:Array^adU)(a:Ã):Prop where(size:g.size=c+1)(len:Ē a f)(own:∀h b:Nat,g.getD h ah=aa b↔é a b h)(cs:∀d∈a,d<=c)(el:∀(b d:Nat)(e:Int),é a b d->é f b e->∃i,(bZ c e i).j=d/\∀j,j<i->(bZ c e j).j∈a)
variable{ZM:Array (Option Nat)}
def lW.dH(b:lW g Xi ZM D)(a:B<=g):(ZM.getD B^aa 0).isNone=af↔B∉D:=by let c:ZM.getD B^aa 0=ZM.getD B ah:=by{let:B<ZM.size:=by{rwa[b.size,aF a 1]};simp[vH,this]};rw[c];constructor;{intro a d;ext acF c e f d;let:=(b.own B c).mpr^by{rw[bi e,f]};rw[this]at a;ext a};{intro a;rcases d:ZM.getD B ah with _|c;{rfl};{calc zH (cq^(b.own B c).mp d) a}}
def EZ{a:Nat}{f:å}{h:Array^adU}{d:Ã}(i:lW a f h d){b:Int}{e:Nat}(t:(bZ a b e).j∉d)(o:∀c,c<e->(bZ a b c).j∈d):∀(j c:Nat),ey a b c<=e->(∃g,g<c+j/\e<=ey a b g)->td a h j (ς a b c) (cC a b c).2=aa (bZ a b e).j|0,c,k,⟨g,v,l⟩=>by{exfalso;let m:∀d f,d<f->ey a b d<ey a b f:=by{intro d f f;induction f with|refl=>{show ey a b d<ey a b d+_+1;calc aF ġ 1}|step _ d=>calc sY d^by show ey a b _<ey a b _+_+1;calc aF ġ 1};let:=m g c^by{lia};calc fL this^Đ^ai (ai (ai (aF (ai k l) 1) this) k) l}|j+1,c,k,w=>by unfold td;let n:=uL a b c;let m:=λd f=>(yB n d f).1;let n:ς a b c<=f5 a (ς a b c):=by{ext asg};let p:∀d,d<=ai6 a b c->ς a b c+d<=a:=λd f=>by{let:=(sc a b (ey a b c+d)).1;rw[m d f]at this;lia};by_cases n:e<ey a b (c+1);{let n:e<ey a b c+(ai6 a b c)+1:=n;let f:e-ey a b c<=ai6 a b c:=by{lia};let u:(bZ a b e).j=ς a b c+(e-ey a b c):=by{rw[<-m _ f,sE k]};let k:az1 a b c d h=aa (e-ey a b c):=by{rwa[vQ,#[(i.dH^p _ f).mpr^by{rwa[<-u,t]},e-ey a b c,by{rw[dU];lia},by{rw[np]},Â q s]];rw[np];rcases s:(h.getD (ς a b c+q)^aa 0).isNone with _|_;{rfl};{exfalso;calc(i.dH^p q^by lia).mp s ?_;rwa[<-m q^by{lia},o _^by lia]}};rwa[k,zL aa u.symm]};{let n:ey a b (c+1)<=e:=by{lia};let k:az1 a b c d h=ah:=by{rw[z8];intro d f s;let f:=eC.mp f;calc(i.dH^p d^by lia).mp s ?_;rw[<-m d^by lia];let:ey a b (c+1)=ey a b c+(ai6 a b c)+1:=r;calc o _^by lia};rw[k];let#[g,v,l]:=w;calc EZ i t o j (c+1) n #[ac0 g,l]}
def Qx(i:h0 g)(f:D.length<=g)(a:Int):∃c,aeF a c∉D/\(∀d,d<c->aeF a d∈D)/\c<=ey g a (12+g):=by let j:∃b,b<=g/\b∉D:=by{by_cases k:∃b,b<=g/\b∉D;{calc k};{exfalso;let:=yC (c:=amo) (b:=D) qG λb h=>by{by_cases e:b∈D;{calc e};{calc zH #[b,by{let:=eC.mp h;calc ö this},e] k}};rw[dU]at this;calc az0 f}};let#[b,h,b]:=j;let#[d,f,j]:=i.eg a h;let#[c,h,i,e]:=EX (aaD:=λc=>aeF a c∉D) (b:=ey g a d)^by{rwa[(uL g a d).1,j,b]};let j:∀b d,b<=d->ey g a b<=ey g a d:=by{intro b d b;induction b with|refl=>{calc a5 _}|step _ b=>calc ds b^by show ey g a _<=ey g a _+_+1;calc cX ġ 1};calc#[c,i,λl a=>nj.mp^e l a,ds h^j _ _ f]
def lW.add(f:h0 g)(b:lW g Xi ZM D)(h:D.length<=g)(a:Int):∃d,td g ZM (kF g) (fA a%(g+1))^fA a=aa d/\lW g (Xi++[a]) (ZM.setIfInBounds d^aa D.length) (D++[d]):=by let#[e,i,m,j]:=Qx f h a;let f:=EZ b i m (kF g) 0 (bF _) #[12+g,by{unfold kF;lia},j];calc#[aeF a e,f,?_];let n:aeF a e<=g:=by{let:=(sc g a e).1;calc ai ġ this};calc#[by{rwa[Array.size_setIfInBounds,b.size]},by{rw[cO,cO,b.len];rfl},Â d h,Â l o,ê h l p j k];{let q:(ZM.setIfInBounds (aeF a e)^aa D.length).getD d ah=if d=aeF a e then aa D.length else ZM.getD d ah:=by{let s:=b.size;by_cases f:d=aeF a e;{subst f;rw[zG r];simp[vH,s];calc aF n 1};{rw[zF f];rw[zv,zv,Array.getElem?_setIfInBounds_ne^ci f]}};rw[q];split;{rename_i f;subst f;constructor;{ext ı a;rw[lc^a5 _,v0];rfl};{intro a;by_cases c:h<D.length;{rw[lb c]at a;calc zH (cq a) i};{rw[lc^c8 c]at a;let:=ä a;simp at this;let:h=D.length:=by{lia};rw[this]}}};{rename_i f;rw[b.own];constructor;{intro a;rwa[lb (ä a),a]};{intro a;by_cases c:h<D.length;{rw[lb c]at a;calc a};{rw[lc^c8 c]at a;let#[i,d]:=ľ a;simp at i d;calc zH d.symm f}}}};{ext aj6 o a;{calc b.cs l a};{rwa[ċ a,n]}};{by_cases c:h<D.length;{rw[lb c]at j;rw[lb^by rwa[<-b.len,c]]at k;let#[a,i,d]:=b.el h l p j k;calc#[a,i,λa f=>hI _^d a f]};{rw[lc^c8 c]at j;rw[lc^by rwa[<-b.len,c8 c]]at k;let#[i,d]:=ľ j;let#[h,b]:=ľ k;simp at i d h b;subst d b;calc#[e,r,λa f=>hI _^m a f]}}
def E1{a:Nat}(k:h0 a):∀(e:å)(f:å)(b:Array^adU)(c:Ã),lW a f b c->adW c e<=a+1->∃i g,(e.foldl (λ(n:Option (Array adU×Nat)) d=>do{let(b,l)<-n;let h<-td a b (kF a) (aeE d a)^fA d;pure (b.setIfInBounds h^aa l,l+1)})^aa (b,c.length))=aa (i,g.length)/\lW a (f++e) i g|[],f,b,c,i,_=>#[b,c,r,by rwa[fd,i]]|d::e,f,b,c,i,j=>by rw[ce]at j;let#[h,m,o]:=i.add k (ö^Ĭ ġ j) d;let#[p,g,q,i]:=E1 k e (f++[d]) _ _ o^by{rw[cO];simp;calc ai aia j};calc#[p,g,?_,by rw[fN]at i;calc i];rw[sO];rw[<-q];congr 1;show(do{let h<-td a b (kF a) (aeE d a)^fA d;pure (b.setIfInBounds h^aa c.length,Ŏ c)})=_;rw[m];show aa _=aa _;rw[cO];rfl
def QB(b:Nat):lW b [] (zw (b+1) ah) []:=by calc#[by{simp},r,Â d e,adw f a,λe f a a=>(by simp at a)];constructor;{intro a;rw[zv]at a;by_cases c:d<b+1;{simp[c]at a};{simp[c]at a}};{intro a;simp at a}
def QA(c:h0 g)(d:XN.size<=g+1)(s t:Nat)(u v:Bool):∃a b o,IG g s t u v^XN.map (·.1)=õ a b/\a={mask:=g,place:=a.place,dummies:=#[],finger:=s,led:=u,moves:=t,plain:=v}/\f0 a (b.filterMap (XN[·]?)) o/\p4 o g/\o.length=XN.size/\(Ϫ o).Perm XN.toList:=by let#[a,p,b,i]:=E1 c (XN.map (·.1)).toList [] _ [] (QB g)^by{exists d};rw[qF]at i;let D:SetTable.layClean g^XN.map (·.1)=aa a:=by{unfold SetTable.layClean;rw[<-Array.foldl_toList];rw[show(aa (zw (g+1) ah,0):Option (Array^adU×Nat))=aa (zw (g+1) ah,([]:Ã).length) from r];rw[b];rfl};let z:p.length=XN.size:=by{rw[i.len];simp};refine_lift let d:=(amo).filterMap λc=>(a.getD c ah).map (c,·);?_;let j:∀c b:Nat,(c,b)∈d↔é p b c:=by{intro c b;constructor;{intro e;let#[a,a,k]:=fz.mp e;let#[l,w,k]:=acR k;obtain⟨⟩:=k;calc(i.own c b).mp w};{intro e;calc fz.mpr #[c,amj,by rw[(i.own c b).mpr e];rfl];let:=i.cs c^cq e;calc af6}};let A:d.Pairwise λm n=>m.1<n.1:=by{calc Vh _ ?_ Hd;intro m n q a f B x;let#[_,_,rfl]:=acR f;let#[_,_,rfl]:=acR x;calc q};let y:∀c b:Nat,(c,b)∈d->b<XN.size:=λc b e=>by{rwa[<-z,(bp.mp^(j c b).mp e).1]};let E:(Ϫ d).Nodup:=by{calc o0.mpr^A.imp_of_mem λ{m n} C F q k=>?_;let h:=(j m.1 m.2).mp C;let C:=(j n.1 n.2).mp F;rw[k,C]at h;let:=bW h;calc fL q^η^ai (Ĭ (ai (ai (aF ai5 1) q)^ai5) q)^ai5};let C:(Ϫ d).Perm^bB XN.size:=by{calc(List.perm_ext_iff_of_nodup E qG).mpr (Í b);rw[eC];constructor;{intro e;let#[#[c,l],h,rfl]:=bE.mp e;calc y c l h};{intro e;rw[<-z]at e;calc bE.mpr #[(p[b],b),(j _ _).mpr^bi e,r]}};refine_lift let o:agn:=ao6 d a;?_;let q:∀b,b<XN.size->XN[b]?=aa^asi b:=λb z=>by{simp[vH,z]};let E:(Ϫ d).filterMap (λb=>XN[b]?)=d.map λa=>avy a:=by{rw[GX];let:∀e:afo,(∀a∈e,a∈d)->e.filterMap ((λb=>XN[b]?)∘λa=>a.2)=e.map λa=>avy a:=by{intro e;induction e with|nil=>{intro _;rfl}|cons a e e=>intro f;rw[qA];rw[show((λb=>XN[b]?)∘λa:aeC=>a.2) a=XN[a.2]?from r,q a.2^y a.1 a.2^f a cj,dg,<-e (γ B x f)]};calc this d λa f=>f};calc#[{mask:=g,place:=(ė d).toArray,dummies:=#[],finger:=s,led:=u,moves:=t,plain:=v},(Ϫ d).toArray,o,?_,r,#[r,ae8,?_],ae8];{unfold IG;rw[D];rfl};{show(ė d).toArray=((ao6 d a).map (·.1)).toArray;rw[dZ];rfl};{show Array.filterMap _ _=((ao6 d a).map (·.2)).toArray;rw[dZ,List.filterMap_toArray,E];rfl};{show(ao6 d a).Pairwise _;calc o0.mpr A};{intro a f;let#[#[c,b],h,rfl]:=bE.mp f;calc i.cs c^cq^(j c b).mp h};{intro a f;let#[#[c,b],h,rfl]:=bE.mp f;let z:=y c b h;let#[e,m,n]:=i.el b c (asi b).1 ((j c b).mp h)^by{rw[l4,Array.getElem?_map,q b z];rfl};calc#[e,m,Â e c];let#[l,w,k]:=d3.mp^n e c;calc#[(p[l],asi l),bE.mpr #[(p[l],l),(j _ _).mpr^bi w,r],k]};{show(d.map _).length=_;rw[aI];let:=C.length_eq;rw[aI,dU]at this;calc this};{let f:=C.map λb=>asi b;rw[dZ]at f;show((ao6 d a).map (·.2)).Perm _;rwa[dZ,f.trans^List.Perm.of_eq ?_];apply z6;intro e;rw[b9];by_cases c:e<XN.size;{rw[qB c,l4,q e c];rfl};{rw[l7^by{rwa[dU,c8 c]},l4,sF^c8 c];rfl}}
@[reducible]abbrev gL(Xa:aQ)(i:aN)(a:aG)(b:å)(c:ac):Prop:=IsTupleKey (tn Xa i) a b c
@[reducible]abbrev eR(Xa:aQ)(i:aN)(a:å):Int:=tupleKeyHash (tn Xa i) a
abbrev r'(Xa:aQ)(i:aN)(d:aG)(a:Int×aj)(b:å):Prop:=∃c,a.2=À c/\ai9 d b c/\a.1=ago b
variable{ZW:Bool->ax->Prop}
def E7(d:ahE Xi f)(k:ZW ay j):ť (wq 8^ñ) ZW Xk j:=by let l:=d.typeIs;let#[t,u,v,m,_,n,o]:=d;unfold wq;calc ar^tz l ?_;dsimp only;simp only[beq_self_eq_true,if_true];calc adi;ext avz;calc ar^tu m n ?_;dsimp only;calc ź;rwa[<-GL,A9 _ (λe g b=>g.1=ah/\b=j/\∀a∈e,carriedByValue a=af) _ ?_ ?_ _ _ #[r,r,o.byValue]];{rintro a e g b ⟨c,rfl,h⟩;let p:wq 7 a=pure ay:=by{let:=h a cj;ext a<;>first|(rfl)|((simp[carriedByValue]at this))|(unfold wq;rfl)};rwa[p,adi];ext akI;calc aT #[r,r,γ q s h]};{ext avA b c;calc aT k}
def QN(h:ahE Xi f)(k:∀b∈Xd,∃a c,b=À a/\ahE c a)(n:ZW ay j):ť (I6 ñ Xd) ZW Xk j:=by unfold I6;calc ź;calc A9 _ (λe g d=>g.1=ah/\d=j/\∀b∈e,∃a c,b=À a/\ahE c a) _ ?_ ?_ _ _ #[r,r,k];{rintro b e g d ⟨g,rfl,k⟩;let#[Ä a c,l]:=k b cj;let m:∀b∈e,∃a c,b=À a/\ai9 d.heap c a:=γ a b k;dsimp only;split;{calc aT #[r,r,m]};{calc ar^Jb h ?_;ext avz;calc ar^Jb l ?_;ext avz;calc ar^E7 h ?_;ext akI;calc ar^E7 l ?_;ext akI;calc aT #[r,r,m]}};{ext avA d g;calc aT n}
def Qr(a:ahE Xi f)(c:∀b,ZW b j):ť (hashByValue 8^ñ) ZW Xk j:=by let g:=a.typeIs;let#[d,h,o,k,_,l,m]:=a;unfold hashByValue;calc ar^Jm g F.slot_tuple_hash.lookup ?_;dsimp only;calc ar^tu k l ?_;calc ź;show Ģ (forIn h _ _) j;rwa[<-GL,A9 _ (λe b d=>b.1=ah/\d=j/\∀a∈e,a.scannable=af) _ ?_ ?_ _ _ #[r,r,?_]];{rintro a e b d ⟨e,rfl,n⟩;rwa[hashByValue_scannable 7^n a cj,adi];split;{calc aT^aT^c _};{calc aT #[r,r,γ b p n]}};{ext avA d e;calc aT^c _};{clear k l g c;generalize h.toList=u at m;induction m with|nil=>{intro a c;ext c}|@cons o a a a c _ d=>intro b a;ext afY a;{ext b<;>first|(rfl)|(calc zH c^by simp[tn,AI])};{calc d b a}}
abbrev oF(a b:Nat):Prop:=(a=7/\b<=4)\/(a=31/\b<=18)\/(a=127/\b<=76)
def oF.mk(a:oF g B):h0 g:=by rcases a with⟨rfl,_⟩|⟨rfl,_⟩|⟨rfl,_⟩;{calc QG};{calc QF};{calc QE}
structure sa(Xa:aQ)(i:aN)(g j:aG)(k:ac)(d:bb)(h:amp)(l:Nat)(b:iM)(a:agn)(c:Ĵ):Prop where(obj:ď j k d)(au:d.ExactSet)(a5:d.data=.set h l b)(tab:f0 b h a)(bg:p4 a b.mask)(bR:oF b.mask a.length)(c8:∀e∈a,∃f∈c,r' Xa i g e.2 f)(ds:∀f∈c,∃e∈a,r' Xa i g e.2 f)(ak:c.Nodup)(len:Ē a c)
def sd(a:ai7):XN.size=Yg.length/\XQ.place.size=Yg.length/\XQ.fill=Yg.length:=by calc#[by{rw[a.cD];simp},by{rw[a.place];simp},?_];unfold SetTable.fill;rw[a.place,a.c5];simp
def uO(a:ai7)(b:Yg.length<=XQ.mask):XQ.fits XN.size=af:=by let#[c,d,e]:=sd a;unfold SetTable.fits;rw[c,d,e];simp[b]
def oF.le(a:oF g B):B<g:=by ext az2 a
universe v1990
set_option tactic.hygienic true in def E8{z:ac}{H:bb}{x:amp}{aW:Nat}{a:iM}{A:agn}{Q:Ĵ}{B:aG}(c:sa Xa i B j.heap z H x aW a A Q)(ak:∀n H,ď B n H->ĥ n H){n:ac}{b:å}(am:ai9 B b n)(an:W2.units<eV){k:Nat}(C:¬hZ A (ahF a b k).j)(R:∀f,f<k->hZ A (ahF a b f).j)(S:k<ao7 a){I:SetFound->alc}(ao:b∈Q->I (.there ah) j)(aq:b∉Q->I (.free (ahF a b k).j ay) j):∀(y f:Nat),f<=k->k-f<y->(∀e d,e<f->d∈A->d.1=(ahF a b e).j->¬r' Xa i B d.2 b)->∀T:Option qX,T.getD^a.probeStart^ago b=ahF a b f->ť (wt z (À n) (ago b) af y T) I Xk j|0,f,_,aX,_,_,_=>by{lia}|y+1,f,as,aX,av,T,aY=>by let U:∀{q h},ai9 B q h->ahE q h:=λ{q h} o=>by{let#[aw,g,e,a1,s,a2,a3]:=o;calc#[aw,g,e,ak h aw a1,s,a2,a3]};let az:=U am;let aA:=avB c;let a4:a.gaveWay=ay:=by{unfold SetTable.gaveWay;rcases c.bR with⟨d,_⟩|⟨d,_⟩|⟨d,_⟩<;>rw[d]<;>rfl};unfold wt;ext avC c aA;rw[a4];ext akI;rw[aY];split;rotate_left;{rename_i aB l;exfalso;obtain⟨t,V,l⟩:∃t:aj7,(avw g t x)/\∀J,qY a t (ago b) (ao7 a)^ahF a b f=aa J->False:=#[_,aep,l];rcases yE c.tab V C R (ao7 a) f as^Ĭ acP S with⟨D,g,d,L,v,m,W,a6,aC,M⟩|⟨L,v⟩;{calc l _ M};{calc l _ v}};rename_i aB l;obtain⟨t,V,l⟩:∃t:aj7,(avw g t x)/\qY a t (ago b) (ao7 a)^ahF a b f=aa aB:=#[_,aep,l];rcases yE c.tab V C R (ao7 a) f as^Ĭ acP S with⟨D,g,d,L,v,m,W,a6,aC,M⟩|⟨L,v⟩;{ext Æ l M;let#[q,X,h,aD,aJ,bo]:=c.c8 d^cq m;let aK:x[g]?=aa (d.2.1,À h):=by{rw[c.tab.d9,m];show aa d.2=_;rw[<-aD]};let a7:∀o∈(x.filter^λJ=>J.1==ago b).toList.map (·.2),∃h q,o=À h/\ahE q h:=λo a8=>by{ext ϓ J aL a8;rw[Array.toList_filter,c.tab.cD]at aL;let#[ba,N,E]:=bE.mp (ϕ aL).1;let#[bd,_,aM,p,F,_]:=c.c8 ba N;calc#[aM,bd,by{rw[<-E,p]},U F]};let aO:ť (match x[g]?with|aa (_,o)=>do{let aP<-iO [o]^eqBool o^À n;let(bf,_,aS)<-setState z;if af&&aP then{return IF ah};match aS.sameMemory a.moves a.mask with|aa bg=>{do{let bh<-match(if bg then aS.slot (ahF a b D).j else .empty)with|.live w=>{match bf[w]?with|aa (_,bj)=>{do{pure (if<-isSame bj o then aa w else ah)}}|ah=>{pure ah}}|_=>{pure ah};match bh with|ah=>{rule "set.search.anew";wt z (À n) (ago b) af y ah}|aa w=>{if aP then{return IF^aa w}else{wt z (À n) (ago b) af y^aa^ahF a b (D+1)}}}}|_=>{A7 "set.changed-during-lookup:is-the-new-block-at-the-old-address"}}|_=>A7 "internal:set-entry") I Xk j:=by{ext adO aK;calc ar^f7^wpAny_eqBool_tuple an (U aJ) az ?_;ext avC c aA;by_cases ab:q=b;{subst ab;rw[zJ r];simp only[vK,if_true];calc aT^ao X};{rw[zK ab];simp only[sG,fy,if_false];let bk:a.sameMemory a.moves a.mask=ζ:=by{unfold SetTable.sameMemory;simp};ext adO bk;simp only[if_true];rw[<-W,c.tab.live m];dsimp only;ext adO aK;calc ar^wpAny_isSame_ref_self^adi;simp only[if_true];calc E8 c ak am an C R S ao aq y (D+1) (v) (by lia) (ê e E bl Y Z) _ r;by_cases u:e<f;{calc av e E u Y Z};{intro⟨aM,p,F,G⟩;by_cases s:e=D;{subst s;let ae:=c.tab.at_ m;ext acF w aU N Y;let ag:=c.tab.at_^ao5 A w E aU N;rw[W]at ae;rw[Z]at ag;let:g=w:=avx ae ag;subst this;rw[bi aU,N]at m;let m:=bW m;rw[m,aD]at p;ext ϝ p;subst p;calc ab^aJ.inj F};{calc aC e E (c8 u) (θ bl s) Y Z G}}}};dsimp only;split;{calc ar^QN az a7 ?_;ext akI;calc aO};{calc aO}};{ext Æ l v;dsimp only;calc aT^aq (Í X);let#[d,O,h,p,F,G]:=c.ds b X;let#[e,P,aV]:=c.bg d O;rw[G]at P aV;let bm:e<k:=by{by_cases u:k<=e;{by_cases s:k=e;{subst s;calc zH #[d,O,P.symm] C};{calc zH (aV k^eT u s) C}};{calc zu u}};by_cases u:e<f;{calc av e d u O P.symm #[h,p,F,G]};{calc L e d (c8 u) bm O P.symm G}}
abbrev h1(a:Ĵ)(b:å):Ĵ:=if b∈a then a else a++[b]
def E9(d:ak8)(c:W5.data=.set XN g XQ)(a:amp)(b:iM):(t.update f^qU a b).get? f=aa (avD a b):=by let:=nB (qU a b) d^by{rw[putSet_of a b c];rfl};rw[putSet_of a b c]at this;calc this
def Qp(a:sa Xa i t j.heap f W5 XN g XQ Yg XT)(M:∀s W5,t.get? s=ŉ->aqH=ŉ)(A:ai9 t Xi s)(d:W2.units<eV)(w:XT.length<76)(F:∀G b B e h m n,kC f j.heap b->sa Xa i t b f B e h m n^h1 XT Xi->ZW G (ad0 b)):ť (setAddHashed f ß^ai') ZW Xk j:=by let e:=avB a;let b:=a.bR.mk;let#[h,m,p,q]:=Qw b (jO a.bR.le)^ai';let#[H,N,O]:=sd a.tab;unfold setAddHashed setAddHashedIn;calc f7^ar^tx a.obj a.a5 e ?_;dsimp only;let b:byScan ß XN=ay:=r;rw[b];ext akI;unfold setSearch;calc ar^E8 a M A d p q (by unfold kF;lia) (Í d) (Í d) 100000 0 (bF _) (by let:XQ.mask<=127:=(by rcases a.bR with⟨b,_⟩|⟨b,_⟩|⟨b,_⟩<;>lia);lia) (ahw P b m) ah r;{dsimp only;let:=F ay j.heap W5 XN g XQ Yg (VQ f j.heap)^by{unfold h1;rwa[zG d,a]};calc aT this};{dsimp only;ext avC a e;let u:(bZ XQ.mask ai' h).j<=XQ.mask:=by{let:=(sc XQ.mask ai' h).1;calc ai ġ this};let#[n,e,m,o,_]:=a.tab.put p u (ai',ß);let y:=a.bg.put (hx:=(ai',ß)) m #[h,r,q];generalize aq:(bZ XQ.mask ai' h).j=l at e u;let Q:h1 XT Xi=XT++[Xi]:=by{unfold h1;rw[zF d]};let I:∀h:Bool,ť (do{storeSet f (avE l) (ao8 l h);if(! ay&&(ao8 l h:iM).tooFull)=af then{do{setRelay f^asj;pure af}}else{pure af}}) ZW Xk j:=by{intro h;let u:f0 (ao8 l h) (avE l) n:=#[e.c5,e.place,e.cD,e.du,e.cs];let v:(ao8 l h:iM).mask=XQ.mask:=r;generalize(ao8 l h:iM)=k at u v;generalize avE l=c at u;let#[x,e,R]:=sd u;let S:Yg.length<=76:=by{rwa[a.len,ī (ö w)]};calc ar^Jn a.obj a.a5 ?_^by{rwa[x,b2,ī (ğ o^aF S 1)]};let C:=E9 a.obj a.a5 c k;let T:=jS j.heap f^qU c k;let U:∀b∈n,∃h∈XT++[Xi],r' Xa i t b.2 h:=λb p=>by{rcases(m b).mp p with p|rfl;{let#[h,d,e]:=a.c8 b p;calc#[h,hI _ d,e]};{calc#[Xi,eU _ cj,s,r,A,r]}};let V:∀h∈XT++[Xi],∃b∈n,r' Xa i t b.2 h:=λh d=>by{ext ag9 d;{let#[b,p,e]:=a.ds h d;calc#[b,(m b).mpr^Ð p,e]};{rwa[ċ d,#[_,(m _).mpr^ϛ,s,r,A,r]]}};let W:(XT++[Xi]).Nodup:=by{rwa[lh,#[a.ak,by{simp},Ô e m q q]];rwa[ċ q,λq=>d (q▸m)]};let X:n.length=(XT++[Xi]).length:=by{rw[o,a.len,cO];rfl};let ae:p4 n k.mask:=by{rwa[v,y]};by_cases w:k.tooFull=af;{rw[w];simp only[Bool.not_false,vK,if_true];let ag:k.fits c.size=af:=uO u^by{rw[v,o];let:=a.bR.le;calc this};let m:∃y,SetTable.sizeAbove^asj=y+1/\oF y (Yg.length+1):=by{let D:k.fill*5>=k.mask*3:=zI w;rw[R,v,o]at D;rw[H];rcases a.bR with⟨b,z⟩|⟨b,z⟩|⟨b,z⟩;{let:Yg.length=4:=by{lia};rwa[this,#[31,by{ext Û},.inr^.inl #[r,cd r]]]};{let:Yg.length=18:=by{lia};rwa[this,#[127,by{ext Û},.inr^.inr #[r,cd r]]]};{rw[a.len]at D;lia}};let#[y,Y,E]:=m;let#[q,m,J,ak,Z,ab,am,L,an]:=QA E.mk (XN:=c) (by rw[x,o];let:=E.le;calc cX (Đ this) 1) k.finger (k.movedTo y) k.led k.plain;calc ź;unfold setRelay;calc ar^tx C r ag ?_;dsimp only;let ag:¬SetTable.sizeAbove^asj>a9:=by{rw[Y,b2];ext az2 E};rw[zF ag];let ag:k.relaid (ė c)^asj=õ q m:=by{unfold SetTable.relaid;rwa[Y,ak]};rw[ag];let#[ag,Y,Y]:=sd ab;let Y:(ahG m c).size=c.size:=by{rw[ag,L]};let ag:ť (storeSet f (ahG m c) q) (λ_ ak=>ť (pure af) ZW Xk ak) Xk {j with heap:=alA^qU c k}:=by{calc Jn C r ŏ^by{rwa[Y,x,b2,ī (ğ o^aF S 1)]};let ak:=E9 C r (ahG m c) q;let ao:=jS (alA^qU c k) f^qU (ahG m c) q;let S:∀e,e∈Ϫ J↔e∈Ϫ n:=λe=>by{rw[an.mem_iff,u.cD]};calc F af _ {(avD c k:bb)with data:=.set (ahG m c) (g+1+1) q} (ahG m c) (g+1+1) q J (T.trans ao) ?_;rwa[Q,#[ak,a.au,r,ab,by{rwa[Z,am]},by{rw[Z];show oF y J.length;rwa[L,x,o,E]},Â b p,Â h d,W,by rw[L,x,X]]];{let#[x,y,E]:=bE.mp^(S b.2).mp^ai1 b p;let#[h,d,e]:=U x y;rw[E]at e;calc#[h,d,e]};{let#[b,p,e]:=V h d;let#[x,y,E]:=bE.mp^(S b.2).mpr^ai1 b p;calc#[x,y,by rwa[E,e]]}};calc ź;show ť (if((ahG m c).size !=c.size)=af then(do{A7 "internal:set-table-lost-an-element";pure (ahG m c,q)})else pure (ahG m c,q)) _ Xk _;rwa[zF^by{rw[Y];simp},aT ag]};{let w:k.tooFull=ay:=by{exists w};rw[w];simp only[sG,fy,if_false];calc aT^F af _ (avD c k) c (g+1) k n T ?_;rwa[Q,#[C,a.au,r,u,ae,?_,U,V,W,X]];let D:¬k.fill*5>=k.mask*3:=ad9 w;rw[R,v,o]at D;rw[v,o];rcases a.bR with⟨b,z⟩|⟨b,z⟩|⟨b,z⟩;{calc .inl #[b,by lia]};{calc .inr^.inl #[b,by lia]};{calc .inr^.inr #[b,by lia]}}};split;{rename_i a;calc ar^Qr (show ahE Xi s from(by let#[B,a,P,H,N,O,b]:=A;calc#[B,a,P,M s B H,N,O,b])) (Í G);ext acM G;{calc I ay};{calc I (XQ.put l).1.plain}};{calc adi;calc I (XQ.put l).1.plain}}
abbrev g4(a:Ĵ):Ĵ:=a.foldl h1 []
def QO(a:Ĵ)(b:å):(h1 a b).length<=Ŏ a:=by unfold h1;split;{calc cQ _ 1};{rw[cO];simp}
def uM:∀(b a:Ĵ),(b.foldl h1 a).length<=adW a b|[],a=>a5 _|c::b,a=>by rw[sO,ce];let:=uM b^h1 a c;let:=QO a c;lia
def EY:∀(b a:Ĵ),a.Nodup->((b.foldl h1 a).length=adW a b↔(a++b).Nodup)|[],a,e=>by{simp[e]}|c::b,a,e=>by rw[sO,ce];by_cases k:c∈a;{let f:h1 a c=a:=by{unfold h1;rw[zG k]};rw[f];let:=uM b a;constructor;{intro d;lia};{intro d;rw[lh]at d;calc zH r^d.2.2 c k c cj}};{let f:h1 a c=a++[c]:=by{unfold h1;rw[zF k]};rw[f];let f:(a++[c]).Nodup:=by{rwa[lh,az3 e g g d k]};let:=EY b (a++[c]) f;rw[cO,fN]at this;simp at this;let c:Ŏ a+b.length=a.length+(Ŏ b):=by{lia};ext akb c}
def QI(a:Ĵ):(g4 a).length=a.length↔a.Nodup:=by let:=EY a [] li;simpa[g4]using this
abbrev m4(Xa:aQ)(i:aN)(a b:aG)(c:ac)(d:Ĵ):Prop:=∃e f g h j,sa Xa i a b c e f g h j d
def m4.at_{h':aG}(c:ao9 W3 f XT)(d:∀b,aeT=aa b->h'.get? f=aa b):ao9 h' f XT:=by let#[b,e,g,h,j,a]:=c;calc#[b,e,g,h,j,d b a.obj,az4 a]
def QJ(a:Nat->å)(b:Nat):g4^(ao' b) a=h1 (g4^(afr b) a)^a b:=by unfold g4;rw[hg,cA,sN];rfl
variable{abM Wi:List ac}{aab:Array ta->Array ta->Prop}{aaE:Nat->aj->Prop}{abN:Nat->ax->Prop}
def Qv(m:WalksS Xa i W2.in1 Yz abM Wi aab B aaE abN)(v:f∉abM)(A:t.get? f=ah)(q:∀a∈Wi,t.get? a=ah)(w:W2.in1.units<eV)(k:Nat->å)(C:∀c n,aaE c n->∃a,n=À a/\ai9 t (k c) a)(e:B<=76):∀(o c:Nat)(j:ax),B-c=o->c<=B->abN c j->(∀a b,air a b->ĥ a b)->ao9 j.heap f^g4^(afr c) k->(∀d,Moved (f::Wi) aab j d->ao9 d.heap f^g4^(bB B).map k->Y7 (.ok^.ret .none) d)->jo Ϻ W2 (acu "set.update.loop" #[[ñ,.ref Yz],[]]) Y7 j:=by let x:f∉Wi:=λh=>v^m.sub _ h;let y:∀{j d:ax},Moved Wi aab j d->Moved (f::Wi) aab j d:=λg=>#[λa l p e=>g.heap a l (λh=>p^cu _ h) e,g.gens,g.drawn,g.os,g.toks];let D:∀{j d:ax},Moved Wi aab j d->(∀a b,air a b->ĥ a b)->(∀a b,air a b->adg d a=aa b):=λs p a b e=>s.heap a b (λh=>by rw[q a h]at e;ext e)^p a b e;intro o;induction o with|zero=>{intro c j z E q p s u;obtain rfl:c=B:=by{lia};ext az5;calc ar^m.done j _ _ q (Â d g);show aH _ W2.in1 (ret eu) _ _ d;calc aT^u d (y g)^s.at_ λb e=>g.heap f b x e}|succ o F=>intro c j z E q p s u;let z:c<B:=by{lia};ext az5;calc ar^m.item c j _ _ z q (ê n d q E g);let#[a,rfl,o]:=C c n q;let n:=D g p;let#[b,p,p,p,p,p]:=s.at_ (h':=d.heap) λb e=>g.heap f b x e;let q:ai9 d.heap (k c) a:=by{let#[l,s,x,C,D,G,H]:=o;calc#[l,s,x,n a l C,D,G,H]};show aH _ W2.in1 (iO [bD a]^setAdd f^À a>>=_) _ _ d;calc ar^f7 ?_;unfold setAdd;calc f7 ?_;calc ar^wpAny_pyHash_tuple w q ?_;let a:(g4^(afr c) k).length<76:=by{let:=uM ((afr c) k) [];rw[aI,dU]at this;let e:([]:Ĵ).length=0:=r;unfold g4;lia};calc Qp (j:={d with toks:=d.toks+((k c).length+1)}) p n o w a λa p l a q s w o x=>?_;let C:ao9 p f^g4^(ao' c) k:=by{rwa[QJ,#[l,a,q,s,w,x]]};calc aT #[tp Ao _,F (c+1) _ (by lia) z (m.frame _ d _ _ E ġ (Ô a c b e)) (Å a b e) C (Å d k l)];{rwa[o.2 a^λh:a=f=>v^by{rwa[<-h,c]},e]};{show ď p a b;rwa[o.2 a^λh:a=f=>by{ext ā h A e},n a b e]};{calc u d (Moved.trans m.gtrans ((y g).then_heap ġ (Ô a b c e)) k) l;rwa[o.2 a^λh:a=f=>c^by{rwa[h,cj]},e]}
def Qy(a:Bool):sa Xa i k (Heap.push c (asl a)) c.objs.size (asl a) #[] 0 (.fresh 0 0 a) [] []:=#[İ,#[r,r,r],r,#[r,r,r,.nil,adw b a],adw b a,.inl #[r,bF _],adw b a,adw a a,li,r]
variable{aaF:Nat->List Int}
def QL(v:afV)(w:W2.units+8<eV)(x:j.heap.IsList f Xt)(y:∀(c:Nat) e,Xt[c]?=aa e->∃a,e=À a/\ahE (aaF c) a)(z:Xt.size<=76)(A:∀(d:aG)(l:Nat),az6 d->(alD a b d)->XP adN (alE d l)):ah9 (fB (Þ "set") [ñ]):=by let#[c,c,c]:=nA.mro;let c:=nA.made;let c:=nA.sub;calc pj^I1 ?_;show alQ (callAny (Þ "set") _);calc aT #[Az _^by{ext Û},q3 F.entry_type_call ?_];rw[Around.under_plain (weight_type_call_type "set" [ñ] []) r];let c:=nA.notType;let c:=nA.canCreate;let c:=F.typeCall_set_1^ñ;ext avF;calc ml (code_set_new_1 ñ (E:=Xk) (Q₁:=λc e=>∃g:Bool,c=adN/\e=ajU (asl g)) λg=>#[g,r,r]) (Å m e n);rcases m with e|h;{calc n};{cases h with|ret c=>{let#[g,ahp]:=n;let c:=Qy (Xa:=Xa) (i:=i) (k:=j.heap) (c:=j.heap) g;let h:=c.obj;let p:wd (ajU (asl g)) adN "set":=ϋ h;let o:=nA.init.lookup;let o:=nA.init.bind^adN;ext avF;calc ml (AX (R:=wants (λm o=>m=.none/\∃d l,o=alE d l/\az6 d/\alD a b d) Xk) nA.init.plain F.entry_set_init^check_set_init_1 p ?_) (Å B o o);{let#[#[q,q,q,q],q,s,C,t]:=x;simp only at s t;subst s;subst t;generalize u:j.heap.push {cls:=Þ "set",dict:=ah,data:=.set #[] 0 (.fresh 0 0 g)}=k at h p c;let g:k.objs.size=ō:=by{rw[<-u,ie]};let p:alD a b k:=λa b e=>by{rwa[<-u,cr _ e]};let h:=p _ _ q;let s:=F.sub_list_set;let s:=F.sub_list_frozenset;let s:(mc "list"==mc "dict")=ay:=by{decide};let s:k.IsList f Xt:=#[_,h,r,C,r];unfold Builtin.«set.__init__» noKeywords Vp;generalize G:nR=P;wp_walk;subst G;calc wz s ?_;calc ar^wpAny_runValue ?_;let h:@LT.lt Nat _ f j.heap.objs.size:=co q;let t:f≠k.objs.size:=ek^Đ^ē h 1^au g;let x:j.heap.objs.size≠k.objs.size:=ek^au g;let C:j.heap.objs.size≠f:=qJ h;let D:az7=ah:=by{rcases q:az7 with _|b;{rfl};{calc φ (co q)}};let E:j.heap.get? k.objs.size=ah:=by{rcases q:j.heap.get? k.objs.size with _|b;{rfl};{let h:@LT.lt Nat _ k.objs.size j.heap.objs.size:=co q;exfalso;calc fL (au g)^anv^Ĭ (aiX (ai (aF (ē h 1^au g) 1) h) 1 g) h}};calc Qv ((q1 (by simp[v]) _ f t Xt).toS) (t:=j.heap) (f:=j.heap.objs.size) (by simp only[bK,nq,or_false,not_or];calc#[x,C]) D (λa q=>by rwa[ċ q,E]) (by simp only[HN];calc anv w) aaF y z (Xt.size-0) 0 _ (bX (a5 _)^a5 _) (bF _) #[agV,(s.push _)] (λa b e=>cr _^p a b e) #[ć,_,cr _ c.obj,az4 c] (Å s c q);let#[d,t,v,w,x]:=s;let s:t=j.gens:=c.gens;let t:v=j.drawn:=c.drawn;let v:x=j.os:=c.os;subst s;subst t;subst v;calc ŏ;show Ģ (ret eu) _;calc aT #[r,d,w,r,q,λa b e=>c.heap a b ?_^cr _^p a b e];let h:@LT.lt Nat _ a j.heap.objs.size:=co e;simp only[bK,nq,or_false,not_or];calc#[ek h,ek^Đ^ē h 1^au g]};{rcases B with e|a;{calc o};{cases a with|ret m=>{let#[rfl,Ä d l,q,a]:=o;ext avF;calc A _ _ q a}|_=>calc o.elim}}}|_=>calc n.elim}
@[reducible]abbrev j'(a:å):Á:=Ż a
abbrev eH(b:ag)(c:ab)(d:å):Prop:=∃a,c=À a/\b a=aa^.tup^j' d
@[reducible]abbrev iY(a:å):ajZ:=a.map jT
def DQ:∀{b c:å},j' b=j' c->b=c|[],[],_=>r|[],_::_,a=>by{ext a}|_::_,[],a=>by{ext a}|d::b,e::c,a=>by let a:ϫ d::j' b=ϫ e::j' c:=a;injection a with k l;ext ϝ k;rw[k,DQ l]
def O8(a:Ã):bO a=j'^a.map λ(c:Nat)=>Ñ c:=by unfold bO j';rw[dZ];rfl
def eH.dR(a:arr):eH h ñ^D.map λ(f:Nat)=>(f:Int):=#[f,r,by rw[a,O8]]
def BY:∀a b:å,gQ (iY a)^iY b=decide (a=b)|[],[]=>by{show gQ [] []=_;simp[gQ]}|[],c::b=>by{show gQ [] (jT c::iY b)=_;simp[gQ]}|d::a,[]=>by{show gQ (jT d::iY a) []=_;simp[gQ]}|d::a,c::b=>by show gQ (jT d::iY a) (jT c::iY b)=_;rw[gQ,BY a b,ma,e4,db,beq_iff_eq,decide_eq_true_iff,decide_eq_true_iff,GT]
def Cf:∀a:å,lq^iY a=af|[]=>by{show lq []=af;simp only[lq]}|b::a=>by show lq (jT b::iY a)=af;simp only[lq,wa,Cf a,vK]
def tX:∀a:å,lr^iY a=0|[]=>by{show lr []=0;simp only[lr]}|b::a=>by show lr (jT b::iY a)=0;simp only[lr,qV,tX a,Hn]
def CJ(a:å):mb^.tuple^iY a=af:=by unfold mb;rw[wa,Cf,qV,tX];rfl
def BQ{b:ap}{c:ag}:∀a:å,m5 b c (j' a)^iY a|[]=>.nil|b::a=>.cons ψ^BQ a
def BS(a:eH h W4 Xi):eS d h W4^.tuple^iY Xi:=by let#[b,rfl,a]:=a;calc .tup (bw.ad a)^BQ Xi
def BW(a:ſ j)(g:agW)(c:eH h YH Zf)(d:eH h W4 Xi)(e:bP YH W8)(f:bP W4 XM):wb b.ao.in1 j W8 XM^decide (Zf=Xi):=by let#[g,i]:=eS.b4 a _ YH W8 (BS (d:=b.as) c) e;let#[c,e]:=eS.b4 a _ W4 XM (BS (d:=b.as) d) f;let:=SeqAt.eqAt_reads _ _ b.ao.in1 j W8 XM g c i e (IB^CJ Zf) (IB^CJ Xi)^by{rw[qV,tX,qV,tX,HN];lia};rw[ma,BY]at this;calc this
universe v2020
open Classical in noncomputable abbrev iW(b:â)(c:Ĵ)(d:å)(e:aj):Bool:=decide (∃a:Nat,é b a e/\é c a d)
def pI:iW Xd XT Xi W8=af↔∃a:Nat,Xd[a]?=aa W8/\XT[a]?=aa Xi:=by unfold iW;calc @decide_eq_true_iff _^Classical.propDecidable _
def rO(d:ahX)(j:apa XT)(e:Xd[g]?=aa W8):∃a b,W8=À a/\XT[g]?=aa b/\O[g]?=È a/\h a=aa^.tup^j' b:=by ext Ť f d;let#[i,_]:=ľ e;let c:O[g]?=aa O[g]:=adx i f;let#[f,f,i]:=d.get c;ext Æ e f;let#[b,d,a,e,f]:=cK j c;rw[e]at i c;obtain rfl:W8=bD a:=i;calc#[a,b,r,d,c,f]
def xc(i:ſ j)(k:agW)(l:ahX)(m:apa XT)(n:eH h W4 Xi)(o:ael)(a:aj)(c:a∈Xd):wb b.ao.in1 j a W8^iW Xd XT Xi a:=by rcases p:iW Xd XT Xi a with _|_;{ext acF e f g c;let d:Xd[e]?=aa a:=by{rw[bi f,g]};let#[Ä a f,c,_,g]:=rO l m d;let q:¬f=Xi:=λs=>by{rw[s]at c;let:=pI.mpr #[e,d,c];ext ϗ p};let:=BW i k (#[a,r,g]:eH h (À a) f) n r o;rw[zK q]at this;calc this};{let#[e,d,e]:=pI.mp p;let#[Ä a f,c,_,g]:=rO l m d;ext Æ e c;let:=BW i k (#[a,r,g]:eH h (À a) Xi) n r o;rw[zJ r]at this;calc this}
def BT(d:ahX)(e:apa XT)(a:å):Xd.any^iW Xd XT a=decide (a∈XT):=by ext az8;{rintro⟨a,_,b⟩;let#[a,_,c]:=pI.mp b;calc cq c};{intro b;ext acF a c f b;ext Ť g d;let d:O.length=XT.length:=bC e;let b:a<Xd.length:=Ρ (ĺ c d) g;calc#[Xd[a],sP b,pI.mpr #[a,bi b,by rw[bi c,f]]]}
inductive NC(f:ap)(g:Bool)(h:ab)(i:ab)(a:ag)(j:aA):Prop|mk(d e b c:_)(_:i=À d)(_:eH a h b)(_:aw f a d e)(_:be (eH a) e c)(_:j (.ah (if g then ! decide (b∈c)else decide (b∈c))) a)
abbrev CB(a:ap)(b:Bool):e9:=λc d e f=>NC a b c d e f
def M'(h:agW):d9 b (fC .In)^CB b.as ay:=by intro a a a i a a a a a c j a g;let#[d,d,Ä d e,k,l,f,m]:=g;ext a;let#[a,g,n,o]:=c.list l;calc IC (iW a e d) n.isList (λl n=>xc c h g f k j l^by exists n) (alB i c);rwa[az9 a e d,BT g f,m]
def Na(h:agW):atW^CB b.as af:=by intro a a a i a a a a a c j a g;let#[d,d,Ä d e,k,l,f,m]:=g;ext a;let#[a,g,n,o]:=c.list l;calc IE (iW a e d) n.isList (λl n=>xc c h g f k j l^by exists n) (alB i c);rwa[az9 a e d,BT g f,m]
inductive ND(h:ap)(i:ab)(j:Á)(a:ag)(k:aA):Prop|mk(b:ac)(c:Á)(d:ab)(e:å)(f:Ĵ)(g:Nat)(_:i=ø b)(_:j=[d])(_:aw h a b c)(_:eH a d e)(_:be (eH a) c f)(_:f.findIdx? (λl=>l==e)=aa g)(_:k (Ê g) a)
abbrev CC(a:ap):ae4:=λb c d e=>ND a b c d e
universe v2031
set_option tactic.hygienic true in def t3(z:agW):p7 b "list.index"^CC b.as:=by intro ab ae ag A ak am an ao aq j B C D;let#[E,F,as,k,Ř e c,G,H,f,I,J]:=D;ext B;ext Ā C L M;{ext ax1 N M a g O P Q n j G;ext Ť q g;let s:Ē F e:=bC f;let aC:=b2;let#[t,l,R]:=l5.mp I;let l:e[c]=k:=ρ l;let u:ś c a:=Ρ (ĺ t s) q;calc tj o9 (ϋ n) Ig (H' _ _) (ID E a.toArray Q O P N (iW a e k) c (by exists u) (by lia) ?_ ?_) #[n,λS T=>xc j z g f H L S^by{exists T},?_];{calc pI.mpr #[c,?_,by rw[bi t,l]];rw[bi u];simp};{intro d U V;let v:ś d a:=by{exists U};let m:a.toArray[d]=a[d]:=by{simp};rw[m];rcases W:iW a e k a[d]with _|_;{rfl};{exfalso;let#[aD,X,Y]:=pI.mp W;let#[aF,aJ,m,w,_,Z]:=rO g f X;let#[aK,aL,h,x,_,i]:=rO g f^bi v;rw[m]at h;ext ϝ h;subst h;rw[Z]at i;let i:=DQ^cx.tup.inj^bW i;ext Æ Y w;subst i;let y:=R d V;rw[bi^Ρ (ĺ v q) s]at x;rw[bW x]at y;simp at y}};{calc#[Ê c,A,aeV j,J]}}
@[reducible]abbrev fu(a:Ã):å:=a.map λ(c:Nat)=>Ñ c
def uq:∀{b c:Ã},fu b=fu c->b=c|[],[],_=>r|[],_::_,a=>by{ext a}|_::_,[],a=>by{ext a}|d::b,e::c,a=>by let a:Ñ d::fu b=Ñ e::fu c:=a;injection a with k l;rw[zY.mp k,uq l]
def Cn(a:be (iT h) O Yr):apa^Yr.map fu:=oP (λ_ _ #[l,c,k]=>by rwa[c,eH.dR k]) a
def K4(c:Τ)(b:Ã):(c.map fu).findIdx? (λa=>a==fu b)=aoP c a b:=by rw[sM];congr 1;funext a;rw[e4];show(fu a==fu b)=af↔_;rwa[beq_iff_eq,beq_iff_eq,#[uq,λa=>by rw[a]]]
def Ci:fu D∈Yr.map fu↔D∈Yr:=by rwa[bE,#[λ#[k,a,c]=>uq c▸a,λa=>#[D,a,r]]]
abbrev t8(a b:ab)(c:Nat):aee:=[("name",a),("attributes",b),("down_count",Ê c)]
inductive JI(f:ac)(d:þ)(a:ag)(g:ab)(b:dV):Prop|mk(c h e l:_)(_:g=À c)(_:a c=aa^.ae f h^t8 (À e) adk b.downs.length)(_:a e=ar1 b)(_:kO a l^eQ b)(_:d c/\d l)
abbrev gV(a:ac)(b:þ)(c:ag)(d:ab)(e:dV):Prop:=JI a b c d e
def gV.keep{e:ac}{b:þ}{S:Ó}{c f:ag}(d:aJ S c f)(g:ahc a c)(h:∀a∈S,¬b a){i:ab}{j:dV}(l:gV e b c i j):gV e b f i j:=by let#[b,c,a,e,k,m,f,n,i,j]:=l;calc#[b,c,a,e,k,d b _ m λc=>h b c i,afe d a f g,ð n d g λc=>h e c j,i,j]
def gV.imp(b:ahu a)(d:gV f Xr h W4 V9):gV f Y5 h W4 V9:=by let#[a,e,g,c,i,j,k,l,m,n]:=d;calc#[a,e,g,c,i,j,k,l,b a m,b c n]
inductive C7(s:ac)(j:Á)(a:ag)(k:aA)(m:aY):Prop|mk(b f g h i c e:_)(_:j=[À b,g,Ū h i])(_:a b=aa^ř f [])(_:a h=à c)(_:a i=à e)(_:adW c e<=a9)(_:∀d l,d b=aa^ř f^t8 g adk c.length->d l=aa^.lst (c++e)->a l=ah->ahe b a d k)
def LU(a:ő "__init__" "Symbol.__init__" 90 0)(c:cH d s ["name","attributes","down_count"])(l:c9 m):agh 1 ["self","name","handed_down","handed_up"]^C7 s:=by calc ó a ["self","name","handed_down","handed_up"] a a a a a a;let#[b,k,e,g,j,o,p,u,e,h,n,v,w]:=a;calc Ş u (aiV 1^aeA (dT l0 (ae 2)^ae 3)^aC^ac2 0 (Ũ l^ŵ 2) r);let l:g≠b:=acA h e a;let u:j≠b:=acA n e a;calc#[b,s,k,_,r,e,Į c,akw];calc#[g,j,o,p,r,r,by{rwa[ao l,h]},by{rwa[ao u,n]},v,Â n e];let j:n≠b:=alT a e;rw[ao j]at e;calc#[b,s,k,avG j,Į c,akx];let p:g≠n:=ba h e;calc#[g,o,r,.inl^aw.ad^by{rwa[ao l,ao p,ao l,h]},?_];calc#[b,s,k,ĭ,Į c,aiF];calc w _ n as (by rw[ao j,ao j,as]) e (Ô g c a h);let c:g≠b:=ado b h;rwa[ao c,ao c,Ï a e,ao c,a]
inductive Dd(s:ac)(f:Á)(a:ag)(g:aA)(m:aY):Prop|mk(b h i l j c d e:_)(_:f=acE b c)(_:a b=aa^ř h^t8 i adk j)(_:kO a l e)(_:a c=Ě d)(_:g (j6^aoP e k d) a)
def MY(a:ő "number_of" "Symbol.number_of" 90 1)(g:cH d s ["name","attributes","down_count"]):alX "attribute"^Dd s:=by calc ó a ["self","attribute"] a a a a c e;let#[n,o,a,p,a,z,a,b,j,u,#[v,k,l],w,h]:=e;calc Ş j (aiT (bR (M' c.units) (ae 1) (Ϩ 0) r) (aC^bt^avH c (Ϩ 0)^ŵ 1)^aC^bt gz);let x:=Cn l;calc#[n,s,o,Ď u g,p,v,fu a,b.map fu,r,eH.dR w,ę k,x,Ý];calc Õ c;{let c:aes (fu a∈b.map fu):=c;let l:=Ci.mp^zI c;let A:(aoP b e a).isSome=af:=by{rwa[List.findIdx?_isSome,kv,#[a,l,ύ]]};nofun;let#[B,y]:=f4.mp A;rw[y]at h;left;calc#[n,s,o,Ď u g,Ŕ k,p,v,À z,fu a,b.map fu,B,r,r,ę k,eH.dR w,x,by{rwa[K4,y]},h]};{let c:¬aes (fu a∈b.map fu):=c;let l:¬a∈b:=λg=>c^zJ^Ci.mpr g;let c:(aoP b e a)=ah:=by{rw[G0];intro e b;rcases j:e==a with _|_;{rfl};{calc zH (ρ j▸b) l}};ext Ι c h}
inductive CU(s:ac)(e:Á)(a:ag)(f:aA)(i:aY):Prop|mk(b g h l c:_)(d:Nat)(_:e=[À b,Ì d])(_:a b=aa^ř g^t8 h l c)(_:f (afR (d<c)) a)
def L1(a:ő "is_handed_down" "Symbol.is_handed_down" 90 2)(c:cH d s ["name","attributes","down_count"]):alX "attribute"^CU s:=by calc ó a ["self","attribute"] a a e g a h;let#[j,k,a,a,a,b,l,n,o]:=h;calc Ş l (aC^bt^ha m' (ae 1) (Ϩ 0)^bH _);calc#[j,s,k,Ď n c,Ç,?_];let c:decide (Ñ b<(a:Nat))=decide (b<a):=by{ext az'};show g (afR (Ñ b<(a:Nat))) e;rwa[c,o]
abbrev tS(e:ac)(c:Nat):cx:=.ext λf=>∃a b g d,ď f e a/\a.ExactSet/\a.data=.set b g d/\d.fits b.size=af/\b.size=c/\c<100
def L8(a:bM (j' Xi) Xd):PySem.ItemsAre (tn q i) Xi Xd:=by induction Xi generalizing Xd with|nil=>{ext a;calc .nil}|cons b Xi c=>ext Ā a a d;{ext Ú e a;calc .cons (intKind_is q i b e)^c d}
def OS(a:ſ j)(c:h f=aa^.tup^j' Xi):gL b.prog b.w j.heap Xi f:=by let#[d,e,#[g,i,k,l,m],_]:=a.tuple^bw.ad c;calc#[g,d.toArray,l,i,k,m,L8 e]
def NE{d:Type}(e:d)(a:ì d):(ae5 a).map (λb=>a.getD b e)=a:=by ext azR b c a;{rw[l7^by{rwa[dU,c8 c]},l7^c8 c];rfl}
def Kw(m:α)(n:agW):hv b (Þ "set")^λe d h=>∃g f a,e=æ g/\aw b.as d g f/\be (eH d) f a/\a.length<=76/\∀c,d c=ah->ĕ h c^am d c^tS c (g4 a).length:=by intro i i j d e e h e h j;let#[g,Ä f a,k,g,o,p]:=j;rw[bM.da h];let#[q,h,s,j]:=e.list k;ext Ť j h;let k:Ē f a:=bC g;let l:q.toArray.size=a.length:=by{rwa[dw,avx j k]};calc QL (aaF:=λf=>a.getD f []) (ŋ e m) (aX (W1:=56) n) s.isList (Å f j j) (by rwa[l,o])^Ô k n k o;{rw[List.getElem?_toArray]at j;let#[c,m,m,q,_,s]:=rO h g j;calc#[c,m,?_];show gL _ _ _ (a.getD f []) c;rwa[dN,q,OS e s]};{rw[l,NE]at k;let#[f,g,h,j,c,c]:=k;let#[k,l,l]:=sd c.tab;let l:(g4 a).length<100:=by{let:=uM a [];let m:([]:Ĵ).length=0:=r;unfold g4;lia};calc#[ϻ i,agR d i^tS _ _,e.laid (t':=n) o (a5 _) #[#[f,g,h,j,c.obj,c.au,c.a5,avB c,by{rw[k,c.len]},l],#[f,c.obj],?_],r,p _^Ś e];rintro a a ⟨a,c,d,e,f,g⟩ h;calc#[a,c,d,e,h a f,g]}
def Kt:afS "len"^λe c f=>∃a d,e=æ a/\c a=aa^tS a d/\f (Ê d) c:=by intro g g h c e e f e f h;let#[Ä a d,i,j]:=h;rw[bM.da f];let#[#[f,f,f,f,h,k,l,m,f,n],_,_]:=e.aq a _ i;calc call_len_set h k l m (hd^ī (Ĭ (aZ f) n)) #[Ê d,c,e.a3 _,#[adj g,?_],j];rw[f]
inductive xE(f:Á)(a:ag)(g:aA)(h:aY):Prop|mk(c d b:_)(_:f=æ c)(_:a c=à d)(_:aht a d b)(_:b.length<=76)(_:∀e,aL a e->g (.ah^decide b.Nodup) e)
def MV:(Yr.map fu).Nodup↔Yr.Nodup:=by constructor;{calcλa=>GR (λ{d e} b c=>b^by rw[c])^o0.mp a};{calcλa=>o0.mpr^GR (λ{d e} b c=>b^uq c) a}
def J4(a:Ö "are_different" 95 ["names"])(c:c9 m):avI:=a.aw λa a a=>by calc ó a ["names"] a a a a h j;let#[e,b,a,k,f,g,l,n]:=j;calc Ş k (aC^bt^ha c2 (c4 Kt r c.len dG^ak (na (Kw r h.units) r c.set boot_set^ŵ 0) an) (Ũ c^ŵ 0)^bH _);calc#[e,b,a.map fu,r,ę f,Cn g,by{rwa[aI,l]},Â c j];let h:=a' (o:=tS c (g4^a.map fu).length) j;calc#[c,ĭ,e,b,r,.inl^Ć h e f,r,?_];let c:Ē b a:=bC g;let e:decide (ab.int ((g4^a.map fu).length:Nat)=ab.int (aeG b))=decide a.Nodup:=by{rw[e4,decide_eq_true_iff,decide_eq_true_iff,<-MV,<-QI,aI,c];constructor;{intro a;ext ae' a};{intro a;rw[a]}};rwa[e,n _ h]
abbrev fT(c:ag)(d:ab)(a:aeC):Prop:=∃b,d=À b/\c b=aa^.tup [.int (a.1:Nat),.int (a.2:Nat)]
abbrev im(a:ag)(c:ac)(d:afo):Prop:=∃b,a c=à b/\be (fT a) b d
def fT.keep{S:Ó}(c:ad2)(d:afd a)(e:fT h W4 Yu):fT V W4 Yu:=by ext aoh a f b e c d
def im.keep{S:Ó}{b c:ag}(d:aJ S b c)(g:ahc e b){a:ac}{f:afo}(i:a∉S)(j:im b a f):im c a f:=by let#[b,c,e]:=j;calc#[b,d a _ c i,ad4 e a a a d g]
def fT.same(b:ŧ)(c:fT h W4 Yu):fT V W4 Yu:=by let#[a,d,e]:=c;calc#[a,d,b a _ e]
variable{Ye:List (Nat×Nat)}
def jv(a:ŧ)(b:be (fT h) O Ye):be (fT V) O Ye:=ï b λb b b=>É b a
def gH(c:h f=aa o)(d:∀a,o≠.tup a:=by intro _ e;ext e):∀b a,h b=Ű a->b∉[f]:=λb a b e=>by rw[ċ e,c]at b;calc d a^bW b
def gG:akg^afJ:=λa a a b=>by rwa[ao^ado c b,a]
abbrev t6(a b c d e:ab):aee:=[("name",a),("places",b),("starts",c),("occurrences",d),("own_graph",e)]
inductive C6(s:ac)(l:Á)(b:ag)(m:aA)(n:aY):Prop|mk(g h i j k a:_)(_:l=[À g,i,j,À k])(_:b g=aa^ř h [])(_:b k=ĝ a)(_:a.length+a.sum<=100)(_:∀c d e f,c g=aa^ř h^t6 i j (À d) (À e)^À f->c d=aa^.lst^aP^(ae5 a).map^cm a->im c e^aK a->c f=aa^.lst^aP^jm a.sum 0->b d=ah->b e=ah->b f=ah->d≠e->f≠d->f≠e->ahe g b c m)
def LO(a:ő "__init__" "Production.__init__" 91 0)(n:cH d s ["name","places","starts","occurrences","own_graph"])(c:c9 m):agh 1 ["self","name","places","counts"]^C6 s:=by calc ó a ["self","name","places","counts","place","count","attribute","occurrence"] a b H b b w;let#[b,u,av,az,j,k,aY,e,l,aA,bo]:=w;subst aY;left;calc bl.mk (aiV 1^aiV 2^aeA (dB an)^aeA (dB an)^aq (avg (adu c^Ø 3) (sv (g:=4) a.ak r^ib r) 5 a^aq (akm (ă 0) (Ũ c^Θ 0))^aC^bm^akJ sq (ă 0)^ak (afs (("attribute",6)) a (qp r c.range^ŵ 5) 6 e3^.ad λ_ _ _ _ _=>fm^ü 4 6) an)^aC^ac2 0 (afs (("occurrence",7)) a (dC^Ϩ 0) 7 e3^avJ) r) ?_;ext Φ aD;let p:j≠b:=acA l e a;ext ar0 b u e n;calc ahs g L;let D:g≠b:=alT a L;rw[ao D,ao D]at L;calc#[b,s,u,avG D,Į n,aiF];calc ahs h E;let I:h≠b:=alT a E;let S:h≠g:=λa=>by{rw[a,ao D,as]at E;ext E};rw[ao I,ao S,ao I,ao I]at E;calc#[b,s,u,avG I,aiW n,?_];generalize W:am (am (am (am (am (am H b (ř u _)) b (ř u _)) g Ő) b (ř u _)) h Ő) b (ř u _)=ag;let z:ag b=aAa u av az g h:=by{rwa[<-W,as]};let B:ag g=aa^Ő:=by{rw[<-W,ao D,ao^ci S,ao D,as]};let C:ag h=aa^Ő:=by{rw[<-W,ao I,as]};let x:á b H ag:=λc o a A=>by{let N:c≠b:=ado T A;rwa[<-W,ao N,Ï a E,ao N,Ï a L,ao N,ao N,a]};clear W;let e:ag j=ĝ k:=ϒ x j l p;calc#[j,aP k,r,ę e,?_];calc let U:cW:=(λe aK y=>kn λa1 a2 v=>iB (aK=[È b,aa av,aa az,È j,a1,a2,ah,ah]) (y b=aAa u av az g h) (y g=aa^.lst^aP^afr e^cm k) (y h=à v) (be (fT y) v^fZ k e)^á b H y);kS (O:=aP k) U #[ah,ah,[],r,z,B,C,.nil,x] (λe aK y _ #[ć,ć,O]=>aw.ad^O j _ l^by exists p) ?_ ?_;{intro e T x aK y aM w l;nofun;let#[a1,Ä a2 v,P,V,Q,R,O]:=w;ext afa aM X j;let#[B,_]:=ľ j;let a4:Ϟ k e=X:=by{rw[dN,j];rfl};let bf:=p1 k e;let a6:=uH k^show e+1<=k.length from B;rw[p0]at a6;let Y:v.length=cm k e:=by{rw[bC R,m2]};left;calc#[x,aiY,?_];let j:=ac1 [Ê e,ù X] l;let l:=j b _ P;let p:=j g _ V;let z:=j h _ Q;let C:=jv j R;let G:á b H^act y x [Ê e,ù X]:=aft c o a A j O;generalize amq y x e X=F at l p z C G;calc#[b,s,u,Ď l n,Ŕ p,?_];calc#[b,s,u,Ď l n,h,v,Ϣ z,?_];calc#[g,Ç,p,by{rwa[aI,aI,dU,afu (W1:=16777116) (ai B^ġ) aA 16777116 aD]},?_];let j:aP^afr e^cm k++[ab.int (aeG v)]=aP^ao' e^cm k:=by{rw[Y,hg,cA,hr];rfl};rw[j];let j:á g F^amr F g e k:=gG;let x:ahd c J F g:=gH p;let a8:(amr F g e k) b=_:=(aeH D) l;let bg:(amr F g e k) g=_:=as;let aS:(amr F g e k) h=_:=(Ņ S) z;let bh:be (fT^amr F g e k) v^fZ k e:=ad4 C aU aV a j x;let bj:á b H^amr F g e k:=λc o a A=>by{rwa[Ï a L,G c o a A]};generalize am F g (.lst (aP ((ao' e) (cm k))))=bq at a8 bg aS bh bj;calc#[b,s,u,Ď a8 n,Ŕ aS,?_];calc#[alV,hd^alW (ai (ai (ai (acD (Ō a4^ϡ) bf) a6)^ϡ) aA),Â p x];rwa[hf,aAb U B j z p l e bq x];{ext ϐ B j bk w;let#[z,C,Z,l]:=w;left;rwa[sJ,#[r,e0 ?_]];calc#[by{show 2<=a9;rw[aD];decide},Â G aW];let bd:G≠p:=Ę a C aW;calc#[z,by{rwa[ao^ci bd,C]},by{rw[bC Z,aI,dU];lia},z++æ G,as,ķ c o a];{rw[hg,cA];let br:aL j^act j G [Ê e,Ê B]:=a' aW;let bt:aoH p j G [Ê e,Ê B] [Ê e,Ê B] z:=gG;let bv:∀c J,(act j G [Ê e,Ê B]) c=Ű J->c∉[p]:=gH^(aeH bd) C;calc apb br Z aU aV a bt bv^acS #[G,r,by rwa[ao bd,as]]};{let e:c≠p:=ba a x;rwa[ao e,ao^ba (l c o a) aW,l c o a]}};{ext aja j w z C Z l;let e:ϲ z X:=by{rw[bC Z,aI,dU]};left;calc#[h,p,v,z,r,r,l h _ aS,C,aX (W1:=16777116)^aiX (ai (ai (ai (ai (kz (aZ Y)^ğ e^au a4)^au bf) a6)^ϡ) aA) 16777116 aD,?_];let e:á h j^adX j h (v++z):=gG;let G:ahd c J j h:=gH^l h _ aS;calc#[_,_,v++z,r,by{rwa[ao^ci I,l b _ a8]},by{rwa[ao^ci S,l g _ bg]},as,?_,Ô c o a A];{rwa[pZ,a4,apb l bh aU aV a e G^ad4 Z aU aV a e G]};{rwa[Ï a E,l c o^bj c o a A]}}};{ext Č aK y w;let#[a1,Ä a2 v,P,V,Q,R,O]:=w;rw[aI]at V R;let Y:v.length=k.sum:=by{rw[bC R,m2,p0]};left;calc#[b,s,u,Ď P n,h,ahH Q,Â p x];calc avK U B j p y h v x l Q;{calc avL B T j aM w C l bk (by{rwa[aI,qE,afu (W1:=16777116) (ai (ai bk^aZ Y)^ϡ) aA 16777116 aD]}) c o a x};{ext ac6 j w C l;rw[Y]at C;left;calc#[b,s,u,_,r,l b _ P,Į n,aki];let e:p≠b:=Ę a P x;let k:p≠g:=Ę a V x;let n:p≠h:=Ę a Q x;let w:H p=ah:=by{ext avM aY H p o O e x};let x:á b j^am j b^ř u^t6 av az (À g) (À h)^À p:=gG;let u:ahd c J j b:=gH^l b _ P;calc bo _ g h p as (Ņ D^l g _ V) #[v,Ņ I^l h _ Q,bL.ay (jv l R) λaU aV a=>ð a x u] ((Ņ e) C) L E w (ci S) k n (Ô c o a A);let N:c≠b:=ado T A;rwa[ao N,l c o^O c o a A]}}
structure fU(h:ac)(a:ag)(i j c d e f g:ac)(k l b m:Ã):Prop where(ae:a i=aa^.ae h j^t6 (À c) (À d) (À e) (À f)^À g)(cn:a c=Ě k)(bp:a d=ĝ l)(b8:a e=aa^.lst^aP^(ae5 b).map^cm b)(occ:im a f^aK b)(own:a g=ĝ m)
def fU.keep{j:ac}{S:Ó}{h k:ag}{d l a e f i g:ac}{m n o p:Ã}(b:fU j h d l a e f i g m n o p)(c:aJ S h k)(q:ahc a h)(t:d∉S)(u:e∉S)(v:f∉S)(w:i∉S)(x:g∉S):fU j k d l a e f i g m n o p:=#[c d _ b.ae t,c a _ b.cn^q a _ b.cn,c e _ b.bp u,c f _ b.b8 v,b.occ.keep c q w,c g _ b.own x]
variable{J:ac}{abO:List Nat}
def fU.same(a:fU f h s w A E I J N D Xz ZC abO)(b:ŧ):fU f V s w A E I J N D Xz ZC abO:=aoN a b (by simp) (by simp) (by simp) (by simp)^by simp
abbrev dj(c:ac)(d:þ)(a:ag)(e:ac)(f:ahv):Prop:=∃b,a e=à b/\be (gV c d a) b f
def dj.keep{e:ac}{c:þ}{S:Ó}{d f:ag}(g:aJ S d f)(i:ahc a d)(k:∀a∈S,¬c a){b:ac}(l:b∉S){h:ahv}(m:dj e c d b h):dj e c f b h:=by let#[a,c,d]:=m;calc#[a,g b _ c l,ï d λa a a=>ð a g i k]
variable{Z4:List dV}
def dj.same(a:ŧ)(b:dj f Xr h s Z4):dj f Xr V s Z4:=aoN b a (adt a)^by simp
def dj.get(d:dj f Xr h s Z4)(b:Z4[g]?=aa V9):∃a c,h s=à a/\a[g]?=aa c/\gV f Xr h c V9:=by let#[a,i,c]:=d;let e:a.length=Z4.length:=bC c;let j:=ä b;let d:a[g]?=aa a[g]:=adx j e;let#[e,e,j]:=cK c d;ext Æ b e;calc#[a,_,i,d,j]
structure od(q:aQ)(i:aN)(d:ap)(m:Ą)(t:aG)(E:ac):Prop where(dG:ams)(num:Ϥ aO 1 E "number_of" ["self","attribute"]^Dd E)(down:Ϥ aO 1 E "is_handed_down" ["self","attribute"]^CU E)
@[reducible]abbrev f9(d:ap)(a:ac):Prop:=cH d a ["name","places","starts","occurrences","own_graph"]
def gv(a:D[g]?=aa B):(aP D)[g]?=aa^ab.int (B:Nat):=by rw[b9,a];rfl
def uk(a:aoA):((bB D.length).map^cm D)[g]?=aa^cm D g:=by rw[b9,qB a];rfl
abbrev Mh(d:ap)(N:ac)(b:ag)(a:aA)(f:aY)(c:Ã):Option bc->Prop|aa e=>a (aeI c e) b|ah=>agp c e a (-3) b f
inductive Dg(d:ap)(N f E:ac)(j:Á)(c:ag)(k:aA)(l:aY):Prop|mk(e m n o p q s g:ac)(h:ab)(t:þ)(u v:Ã)(a:aE)(b:bs)(i:afg)(_:j=[Ū e g,h])(_:ac5 a)(_:cs a b)(_:aeJ c e m n o p q s u a b v)(_:afv t c g a)(_:iU c h i)(_:Mh d N c k l (az a b)^c6 a b i)
def M2(k:Ö "occurrence_number" 100 ["production","symbols","told"])(p:c9 m)(h:Χ)(v:akK)(e:apc):aAc:=k.aw λa a a=>by calc ý a ["production","symbols","told","place","attribute"] n a a a a a a w b;let#[k,o,b,s,B,b,b,C,b,b,b,b,c,g,x,l,y,u,j,z,A,b]:=w;calc š l w 1 a;calc aos (aq (Ò 3 n^ac4 2)^ahI e a (ha m' (ae 3) (Ũ p^Θ 0)^bH _)^aq (Ò 4 n^bU v.num (κ 1^agq 0^ae 3) w bd^ahr 2)^ahI e a (ha ze (ae 4) gz^bH _)^aC^bt^dT hD (agq 0^ae 3)^ae 4);ext Ϗ e v x;let#[Ä w D,x,F]:=A;rw[pY y u]at b;ext Υ b;let a:(ù e)=ù e:=r;left;calc#[w,Œ x,ώ r,?_];calc#[k,f,o,ú j h,s,_,r,.inl^aw.ad j.bp,Ç,?_];calc#[aeK a,Í a];{let a:=zI a;rw[aI]at a;let y:e<(bq c g).length:=gO a;let p:(bq c g)[e]?=aa (bq c g)[e]:=bi y;let n:=lU u p;rw[p]at b;dsimp only[s3]at b;nofun;let#[G,u,H,I,u]:=z.get^bi n;let z:cc c (bq c g)[e]=eQ (c.syms[(bq c g)[e]]' n):=by{unfold cc;rw[bi n];rfl};rw[z]at b;left;generalize W:c.syms[(bq c g)[e]]' n=P at u b;nofun;let#[n,z,Ä A J,A,L,L,_,_]:=u;left;calc#[k,asm o j h s,b0^gv p,C,G,amt H I];calc#[n,z,î A,?_];calc#[w,Œ x,aff,?_];calc#[n,z,_,J,_,D,v,_,r,A,L,F,?_];rcases l:(eQ P).findIdx? λn=>n==v with _|n;{rw[l]at b;calc#[r,_,r,Ĝ a,λ_ n p s u v=>b n p s u v]};{rw[l]at b;calc#[r,_,r,ady,Ĝ a];let l:e<amf c g:=by{rwa[i7,<-er c g,y]};calc#[k,f,o,ú j h,B,_,Ç,aw.ad j.b8,b0^gv^uk l,Ç,?_];calc b}};{let a:=ad9 a;rw[aI]at a;rw[l7^kt a]at b;calcλn p s u v=>b n p s u v}
inductive Du(f E:ac)(h:Á)(c:ag)(i:aA)(t:aY):Prop|mk(e j k l m n o g:ac)(p:þ)(q s:Ã)(a:aE)(b:bs)(d:aeC)(_:h=[Ū e g,.int (Ġ a b d:Nat)])(_:cs a b)(_:d∈Ĥ a b)(_:aeJ c e j k l m n o q a b s)(_:afv p c g a)(_:i (.ah^fH a b d) c)
def L4(g:Ö "is_to_be_defined" 101 ["production","symbols","number"])(h:Χ)(k:akK):aAd:=g.aw λa a a=>by calc ó a ["production","symbols","number","occurrence","place","is_down"] e a z a p v;let#[g,s,a,A,a,B,a,C,a,a,a,b,c,a,w,D,u,j,F,o]:=v;subst w;left;calc akq (asn 3 e 2^aq (Ò 4 e^ac4 3)^aq (Ò 5 e^bU k.down (κ 1^agq 0^ae 4) p bd^ahr 3)^aC^bt^ha c2 (ae 5) (ha l1 (ae 4) a7^bH _)^bH _);nofun;let#[e,G,v]:=j.occ;let w:=lQ u;obtain⟨p,k,⟨x,rfl,y⟩⟩:∃p,e[Ġ b c a]?=aa p/\fT z p a:=by{let p:e.length=_:=bC v;let z:=ä w;let k:e[Ġ b c a]?=aa (e[Ġ b c a]'(ĺ z p)):=adx z p;nofun;let#[p,p,z]:=cK v k;ext agr w p;calc#[_,k,z]};left;calc#[g,f,s,ú j h,B,e,amt G k];calc#[x,Œ y,ώ r,?_];nofun;let#[e,k]:=hs.mp u;rw[i7,<-er b c]at e;let k:(bq b c)[a.1]?=aa (bq b c)[a.1]:=bi e;let e:=lU D k;let#[u,p,v,w,p]:=F.get^bi e;let z:d7 b (bq b c)[a.1]=(b.syms[(bq b c)[a.1]]' e).downs.length:=by{unfold d7;rw[bi e];rfl};let B:fH b c a=n3 a.1^decide (a.2<(b.syms[(bq b c)[a.1]]' e).downs.length):=by{unfold fH;rw[dN,k];show n3 a.1^decide (a.2<d7 b (bq b c)[a.1])=_;rw[z]};rw[B]at o;left;generalize P:b.syms[(bq b c)[a.1]]' e=l at p o;nofun;let#[b,c,Ä e e,e,z,z,_,_]:=p;left;calc#[g,asm s j h A,b0^gv k,C,u,amt v w];calc#[b,c,î e,?_];calc#[x,Œ y,aff,?_];calc#[b,c,_,_,_,a.2,r,e,?_];calc#[Ç,r,?_];let b:decide (aiw (a.2<l.downs.length)=aiw ((a.1:Int)>0))=n3 a.1^avN a l:=by{unfold n3;by_cases n:a.1=0;{rw[zG n,n];cases avN a l<;>rfl};{rw[zF n];let:aes ((a.1:Int)>0):=zJ^hd^amu n;rw[this];cases avN a l<;>rfl}};rwa[b,o]
def rx(a:B<g):kp g (B:Int)=aa B:=by unfold kp;rw[zG^gA _,zG^hd a,hf]
def un(a:Ã)(b c:Nat):(aP a).set b^ù c=aP^a.set b c:=by unfold aP;rw[G']
inductive CV(d:ap)(N f E Yn X9:ac)(w:Á)(g:ag)(x:aA)(y:aY):Prop|mk(i h o j k l c m n:ac)(p q:þ)(s t:Ã)(a:aE)(b:bs)(_:w=[Ū i n,À m])(_:ac5 a)(_:cs a b)(_:aeJ g i h o j k l c s a b t)(_:cJ (az a b) [] t)(_:afv p g m a)(_:lE Yn X9 q g n b.rules)(_:(c≠j/\c≠k/\c≠l/\c≠m/\c≠n/\¬p c/\¬q c))(_:b.rules.length<=24)(_:(az a b).sum<=16)(_:(mV a b->∀e u,aeJ e i h o j k l c s a b u->amv a b u->ahe c g e x))(_:(¬mV a b->∀v h e,dy d N (-3) v h e->á c g e->y v h e))
def KQ(u:Ö "draw_rules" 99 ["production","rules","symbols"])(j:c9 m)(bt:Χ)(bk:aAe)(k:mF d X9)(o:aAc)(p:aAd)(s:apc)(x:aog):aAf:=u.aw λa a a=>by calc ý a ["production","rules","symbols","defined","rule","sources","target","source","number","told"] c a bu a a a e l a;let#[u,L,C,aA,aU,X,n,P,bO,bv,a,aV,y,a,b,D,Q,H,Y,z,cI,#[cB,g,cM],#[c3,c7,c8,cS,A,cT,G],J,cZ,da,bP]:=l;calc š D v 4 e;calc ac3 w 2 e;calc ac3 B 1 e;let bw:=hC e;left;calc bl.mk (aq (Ò 3 c ss)^aq (age (dC^ae 1) 4 c^aq (apd (g:=5) (Zk:=[("told",9)]) c (dC^a3^ă 4) (ahJ c) (e2 9 c.ak r r) e3^.ek a1 r r λ_ _ _ _ _ _ h=>bg o e (a6.an h)^ë 0^ü 2 9)^aC^bQ (bR ze (ă 4) gz^bH _) (aq (Ò 6 c^ģ o e^ë 0^ë 2^Θ 4)^ahI s v (zg (Ü p w^ë 0^ü 2 6)^oR^Ge^oQ bw (ae 6)^ae 3)^aq (qr bw (ae 3) (ae 6) jH r)^aC^age (dC^ae 5) 7 c^aC^sy (Ü x B^ak (agq 0^ae 7)^Ø 6)^sw (ă 0) (ae 7) sB^aep) b6)^aC^age (avO j 0) 8 c^aC^bm^ģ s v^ak (vp (Ge^Gd bw (ae 8)^ae 3)^oR^su^Ü p w^ë 0^ü 2 8) an) ?_;ext Φ c0;calc Â j bx;let de:j≠n:=ci^ba Y.own bx;let cC:=gH Y.own;calc#[bO,r,#[cB,aw.ad^by rwa[Ï g bx,g]],?_];let e:á n bu^am bu j^adl:=aD.keep^a' bx;calc let aY:cW:=(λw B M=>qd λcc cg ck bA x F c=>u2 (B=[Δ u bO P,È j,cc,cg,ck,bA,ah,ah]) (M j=adV x) (β x w) ((∀bG:Nat,(bS x^Ī bG).isSome=af↔bG∈F)) (i2 a b w F) (cJ (az a b) ((b.rules.take w).flatMap^j1 a b) c) (aeJ M u L C aA aU X n aV a b c)^á n bu M);ahK cB aY #[ah,ah,ah,ah,[],[],y,r,as,a5 _,λbG=>by{simp[Vc]},i2.start,z,Y.same^a' bx,e] (λw B M _ #[ć,ć,Ϝ,O]=>aw.ad^O bO _ g^by exists ci A) ?_ ?_;{ext Ϧ w a4 B M h l;let#[cc,cg,ck,bA,x,Ä F z,a7,cm,bf,bh,bj,I,O]:=l;let#[W,Z,g]:=cK cM h;let#[bI,cy,Ä cz c,cF,bL,#[Ä h c,e,o,o,V],o]:=ð g O cC^λC bU=>by{rwa[ċ bU,G]};let#[o,p]:=e.ae;let#[cb,g,cn]:=e.lst;let bY:afv bv M P a:=ð cI O cC (λC bU=>by rwa[ċ bU,cT])^by{exists ci cS};let df:w<24:=by{let:=ä Z;calc ϙ J};left;right;calc#[bI,Yn,cy,Ď cF bk,h,X9,o,Ŝ p,k.aa,k.dn,r,c,ahH g,Â bM bZ];calc let aY:ez:=(λp A=>∃y:ŀ,g8 (A bM=aa^.lst^aP^y.map^aM^az a b) (β y p) ((∀a4,a4∈y↔∃G∈W.expr.occs.take p,c6 a b G=aa a4)) ((∀G∈W.expr.occs.take p,(c6 a b G).isSome=af))^aL M A);amw c cb aY #[[],as,a5 _,λa4=>by{simp},λG s=>by{simp at s},a' bZ] (λp A _ #[ć,_,k]=>Ć k c g) ?_ ?_;{intro p v A cs l;nofun;let#[y,ct,av,b8,ca,k]:=l;let#[G,s,c]:=cK cn cs;let s:W.expr.occs[p]?=aa G:=s;let ag:=ä s;ext akd;calc#[u,L,C,aA,aU,X,n,P,_,bv,aV,z,a,b,G,r,Q,H,É I k,É bY k,iU.keep (acB k) ϧ c,?_];let cx:W.expr.occs.take (p+1)=W.expr.occs.take p++[G]:=by{rw[dE,s];rfl};rcases D:c6 a b G with _|e;{calcλR S J T U=>bP (Í ab) R S J T λh g c o=>U h g^k h g^O h g c o;let:=ab.occs W (cq Z) G^cq s;ext ϗ D};{calc#[_,ct,by{rwa[aI,aI,avP (ē av 1 ag) V c0]},y++[e],?_,by{rw[cO];simp;lia},Í a4,Â g cG,Å h g c];{rw[as,cA,hr];rfl};{rw[cx,cL,b8,b4];constructor;{rintro(⟨g,s,ag⟩|V);{calc#[g,hI _ s,ag]};{calc#[G,eU _ cj,by rwa[V,D]]}};{ext ags l g s ag;left;calc ao2 s #[g,s,ag];{rw[ċ s,D]at ag;calc è (ŝ ag)}}};{rw[cx]at cG;ext aj6 cG s;{calc ca g s};{rw[ċ s,D];rfl}};{rwa[Ï c bZ,k h g c]}}};{intro A l;nofun;let#[y,ct,av,b8,ca,k]:=l;let cG:cb.length=W.expr.occs.length:=bC cn;rw[cG,d0]at b8 ca;rw[cG]at av;let cb:á n bu A:=aft h g c o k O;left;calc#[bI,Yn,cy,ū k bI cF bk,r,Ý];rcases av:W.target with _|cG;{rw[av]at bL;let bL:cz=.ar:=bL;subst bL;calc avQ c;calc#[ć,x,F,z,r,k j _ a7,cX cm 1,bf,bh.none Z ca av,bj.cond Z av,É I k,cb]};{rw[av]at bL;let c1:iU A cz cG:=iU.keep (acB k) ϧ bL;let bL:cz≠.ar:=λc=>by{let#[_,_,W,_]:=c1;ext Æ c W};calc a8 ady λc=>zH (by rw[zK bL];rfl) c;calc#[bI,Yn,cy,ū k bI cF bk,u,L,C,aA,aU,X,n,P,_,bv,aV,z,a,b,cG,r,Q,H,É I k,É bY k,c1,?_];rcases D:c6 a b cG with _|e;{calcλR S J T U=>bP (Í ab) R S J T (aft h g c o U cb);nofun;let#[e,s,_]:=ab.here Q H bh Z av;ext agr D s};{let bL:=lS Q H D;let c1:=ht bL;calc#[u,L,C,aA,aU,X,n,P,bv,aV,z,a,b,e,r,H,bL,É I k,É bY k,Ý];let cy:fH a b e=ay\/Ġ a b e∈F->¬mV a b:=λc ab=>by{nofun;let#[bk,s,ag,cz]:=ab.here Q H bh Z av;ext agr D s;ext ĸ c;{ext Æ c ag};{calc cz c}};rcases ag:fH a b e with _|_;{calc avQ c;calc#[_,r,Ĝ c,λ_ R S J T U=>bP (cy^Ð ag) R S J T (aft h g c o U cb)]};{calc aeb c;calc#[j,_,r,dW.k (b:=(amx a b e))^k j _ a7,?_];calc#[aeK c,λc R S J T U=>bP (cy^.inr ?_) R S J T (aft h g c o U cb)];rotate_left;{calc(bf _).mp ?_;rcases s:(bS x^amx a b e).isSome with _|_;{ext Æ s c};{rfl}};let di:Ġ a b e∉F:=λv=>by{rw[(bf _).mpr v]at c;ext c};calc#[j,_,r,ki.k (d:=(amx a b e)) (k j _ a7)^amy (aF cm 1) df c0,?_];let cG:á j A^am A j^amz x a b e:=gG;let c0:=gH^k j _ a7;let s:∀{cy},bu cy≠ah->cy∉[j]:=λ{cy} V c=>V^by{rwa[ċ c,bx]};let cF:fU f (am A j^amz x a b e) u L C aA aU X n aV (bq a b) (az a b) z:=by{nofun;let#[cy,cz,_]:=Y.occ;left;calc(É I k).keep cG c0 (s^by rw[Y.ae];simp) (s^by rw[Y.bp];simp) (s^by rw[Y.b8];simp) (s^by rw[cz];simp)^s^by rw[Y.own];simp};let cG:á n bu^am A j^amz x a b e:=λh g c o=>by{rwa[Ï c bx,cb h g c o]};let bu:(am A j^amz x a b e) bM=aa^.lst^aP^y.map^aM^az a b:=by{rwa[ao^dk ct (k j _ a7)^by{ext ı c},ct]};let bx:(am A j^amz x a b e) j=aa^amz x a b e:=as;generalize am A j (.az (cU x (amx a b e) agM))=J at cF cG bu bx;let k:bM≠n:=λc=>by{rw[c]at bZ;rw[I.own]at bZ;ext bZ};calc ahL bM bu;calc let aY:cW:=(λp B s=>∃bA,gj (B=[Δ u bO P,Δ j bI bM,adq (Ġ a b e:Nat),bA,ah,ah]) (aeJ s u L C aA aU X n aV a b^i9 (Ġ a b e) z^(amA y a b) p)^á n J s);h6 (O:=aP^y.map^aM^az a b) aY #[_,r,cF,λ_ _ c _=>c] (avR p B s Y bM bu k) ?_ ?_;{ext Ϧ p v B s cs l;let#[bI,rfl,k,Y]:=l;ext afa cs A bu;let bM:ś A z:=by{nofun;let#[a4,bZ,rfl]:=bE.mp^cq bu;let#[G,_,V]:=(b8 a4).mp bZ;left;rwa[bj.len,ht^lS Q H V]};let G:A<(i9 (Ġ a b e) z^(amA y a b) p).length:=by{rwa[yc,bM]};let cx:(amA y a b) (p+1)=(amA y a b) p++[A]:=by{rw[dE,bu];rfl};let a4:=PK (Ġ a b e) z ((amA y a b) p) A;rw[<-cx]at a4;left;right;generalize i9 (Ġ a b e) z ((y.map (Ġ a b)).take p)=c2 at k G a4;let bu:c2[A]?=aa^Ϟ c2 A:=by{rw[dN,bi G];rfl};calc#[u,f,L,ú k bt,n,_,Ç,aw.ad k.own,b0^gv bu,_,_,r,amB c1 cZ,?_];calc#[u,f,L,ú k bt,n,_,_,A,r,r,k.own,rx^by{rwa[aI,G]},?_];rw[un,<-a4];let A:á n s^am s n^.lst^aP^i9 (Ġ a b e) z^(amA y a b) (p+1):=gG;let p:=gH k.own;nofun;let#[cy,cz,y]:=k.occ;let y:u≠n:=dk k.ae k.own^by{ext ı c};left;calc#[_,r,#[(Ņ y) k.ae,A C _ k.cn^p C _ k.cn,(aeH c3) k.bp,(aeH c7) k.b8,k.occ.keep A p^by{exists ci c8},as],Ô h g c o];rwa[ao^ado v o,Y h g c o]};{ext akv B s l bI k Y;rw[aI,d0]at k;left;calc#[ć,cU x (amx a b e)^agM,F++[Ġ a b e],_,r,ϒ Y j bx de,ds (vi _ _ _)^aF cm 1,Í bG,bh.some Q H Z ca av D ag di^λbG=>by{rw[cL,b4]},bj.rule Q H Z av D b8,k,λh g c o=>Y h g (cG h g c o) o];rw[ne,cL,b4,<-bf];by_cases W:bG=Ġ a b e;{subst W;simp};{rw[zF^λc=>W^by ext ae' c];simp[W]}}}}}}};{ext Č B M l;let#[cc,cg,ck,bA,x,Ä F z,a7,cm,bf,bh,bj,I,O]:=l;let k:cB.length=b.rules.length:=bC cM;rw[k]at bh bj;rw[d0]at bj;let ab:=bh.drawn Q H;let bY:afv bv M P a:=ð cI O cC (λC bU=>by rwa[ċ bU,cT])^by{exists ci cS};let#[cy,cz,cn]:=I.occ;let k:ape cy a b:=by{rw[bC cn,g3]};left;calc#[u,f,L,ú I bt,X,cy,Ϣ cz,alV,by{rwa[k,hd^ē cZ 1^cd r]},?_];rwa[hf,k,let aY:cW:=(λw B p=>∃x,gj (B=[Δ u bO P,È j,cc,cg,ck,bA,x,ah]) (p=M) (∀e∈Ĥ a b,Ġ a b e<w->fH a b e=af->Ġ a b e∈F));vc aY #[_,r,r,λe _ V=>aeu V] ?_ ?_];{intro w B p k l;symm;nofun;let#[x,ahp,y]:=l;left;right;rw[sJ];nofun;let#[e,bL,s]:=yp k;let A:(fH a b e=af->Ġ a b e∈F)->∀bk∈Ĥ a b,Ġ a b bk<w+1->fH a b bk=af->Ġ a b bk∈F:=λV bk D G k=>by{by_cases W:Ġ a b bk=w;{let:=iv D bL^by{rw[W,s]};rw[this]at k⊢;calc V k};{calc y bk D (θ G W) k}};left;calc#[j,_,r,akL w a7,Ý];calc Õ c;{calc#[_,r,λ_=>#[_,r,r,A ady],Ĝ v];rwa[s,(bf w).mp c]};{let c:w∉F:=λv=>c^(bf w).mpr v;calc#[u,L,C,aA,aU,X,n,P,bv,aV,z,a,b,e,by{rw[s];rfl},H,bL,I,bY,Ý];rcases ag:fH a b e with _|_;{calc#[_,r,λ_=>#[_,r,r,A λv=>(by ext Æ ag v)],Ĝ v]};{calc#[_,r,Ĝ v,λ_ R S J T U=>bP (λi=>c ?_) R S J T (aft h g c o U O)];let:=ab.mp i e bL ag;ext akb s}}};{ext Č B p l;let#[x,ahp,y]:=l;left;calc da (ab.mpr λe bw k=>y e bw (ht bw) k) p z I bj O}}
def r7:∀(b c:Nat)(a:cV)(d:afb),pq b c a=.ok d->β d b|0,_,_,d,a=>by{unfold pq at a;ext a;calc a5 _}|b+1,_,[],d,a=>by{unfold pq at a;ext a;calc bF _}|b+1,c,e::f,d,a=>by let g:∀{f:Except Bg^afb}{h:ed},(∀c,f=.ok c->β c b)->f.map^Vaatta.put1 h=.ok d->d.length<=b+1:=by{intro f h i e;rcases f with f|c;{ext e};{ext e;show(h::c).length<=b+1;let:=i c r;rwa[ce,af6]}};unfold pq at a;split at a;{calc nu^r7 b _ _ d a};{split at a;{ext Υ a;ext Ĳ a;{calc g (λc e=>r7 b _ _ c e) a}};{split at a;{ext Υ a;ext Ĳ a;{calc g (λc e=>r7 b _ _ c e) a}};{split at a;{calc g (λc e=>r7 b _ _ c e) a};{ext a}}}}
def uC(a:ed->Bool):∀b:afb,(ef a b).1.length+(ef a b).2.length=b.length|[]=>r|c::b=>by unfold ef;split;{let:=uC a b;show(Bk c::(ef a b).1).length+(ef a b).2.length=_;rwa[ce,ce,bX (ai aia^aF ai5 1)^ai (aF afW 1)^aia]};{simp}
def mX(a:mx g B YA=.ok WF):WF.length<=YA.length:=by let#[_,rfl]:=yd a;rwa[jl,acP]
def P3{e:Nat}{f:ed}{b:afb}{c:dV}{d:afb}(a:pv e f b=ş c d):aso c<=b.length/\ag8 d b:=by unfold pv at a;ext Υ a;ext akM g h a j i;let k:=uC iP b;let l:=uC iP g;let m:=mX h;let n:=mX i;dsimp only;lia
variable{acj:ed->Bool}{abP:ed×List ed}
def Ev(a:wM g acj YA=.ok abP):abP.2.length<=YA.length:=by unfold wM at a;split at a;{split at a;{ext a;rwa[ce,lj _]};{ext a}};{ext a}
variable{abQ:Option (Nat×cV)×List ed}
universe v2098
set_option tactic.hygienic true in def Qi(a:pw g YA=.ok abQ):abQ.2.length<=YA.length:=by unfold pw at a;ext Ĳ a;{rename_i f h;rw[ce];split at a;{ext a;calc lj _};{split at a;{ext aet c b a;ext af5 a;let:=mX b;dsimp only;calc cX this 1};{split at a;{ext aet c b a;ext akM i d a j e;let:=mX b;let:=Ev d;let:=mX e;dsimp only;lia};{ext a}}}}
variable{abR:gS×List ed}
def PL(a:rb g YA=.ok abR):abR.2.length<=YA.length:=by unfold rb at a;rcases b:ee g (ra YA) 0 YA with c|c;{ext Æ b a};{let#[d,d]:=c;rw[b]at a;ext aoz a;ext Ĳ a;{ext a;calc jO^(k4 g _).expr _ _ _ _ b}}
variable{abS:eY×List ed}
def P'(a:pu g YA=.ok abS):abS.2.length<=YA.length:=by unfold pu at a;ext aet b b a;ext akM c c a d d;let:=Qi b;let:=PL c;let:=mX d;dsimp only;lia
def EG{a:Nat}:∀{d:Nat}{b:afb}{c:List eY×afb},n4 a d b=.ok c->c.2.length<=b.length|0,b,c,a=>by{unfold n4 at a;ext a}|d+1,b,c,a=>by unfold n4 at a;split at a;{ext a;show akD b<=_;rwa[jl,acP]};{ext akM b b a c c;let:=P' b;let:=EG c;dsimp only;lia}
def P2{e:Nat}{f:ed}{c:afb}{d:bs×afb}(a:tG e f c=.ok d):d.2.length<=c.length:=by unfold tG at a;ext aet b g a;ext Υ a;ext aet h i a;ext akM l j a m k;let n:=Ev g;let o:=mX i;let p:=uC po h;let q:=mX j;let s:=EG k;let t:(if bT 35 b.2=af then b.2.drop 1 else b.2).length<=b.2.length:=by{split;{rwa[jl,acP]};{calc a5 _}};dsimp only;lia
def yg{i:Nat}:∀{e:Nat}{f:afb}{d:aE},mA i e f=.ok d->∀b∈d.syms,aso b<=f.length|0,f,d,a=>by{unfold mA at a;ext a}|e+1,[],d,a=>by{unfold mA at a;ext a;intro b c;ext c}|e+1,o::p,d,a=>by unfold mA at a;ext Υ a;intro b c;rw[ce];split at a;{ext akM j g a k h;let#[l,m]:=P3 g;ext adZ c n;{rwa[n,cX l 1]};{let:=yg h b c;calc cX (ϙ m) 1}};{split at a;{ext akM j g a k h;let:=P2 g;let:=yg h b c;lia};{ext a}}
def P4(a:tF Y4=.ok z):∀b∈z.syms,aso b<=Y4.length+1:=by unfold tF at a;ext aet c c a;let:=r7 _ _ _ _ c;intro b c;let:=yg a b c;lia
def gV.here(e:gV f Xr h W4 V9):gV f (λa=>h a≠ah) h W4 V9:=by let#[a,g,i,b,j,c,k,#[l,d,m],n,n]:=e;calc#[a,g,i,b,j,c,k,#[l,d,m],by{ext apf a c},by ext apf b d]
def dj.here{b:ac}{e:þ}{a:ag}{c:ac}{d:ahv}(f:dj b e a c d):dj b (λg=>a g≠ah) a c d:=by let#[a,b,c]:=f;calc#[a,b,ï c λa a a=>a.here]
def hU.here(g:hU f s Xr h W4 aay):hU f s (λa=>h a≠ah) h W4 aay:=by let#[a,i,j,k,l,c,m,#[d,e,n,b,o,o,o],p]:=g;calc#[a,i,j,k,l,c,m,#[d,e,n,b,?_,?_,o],by ext apf a c];{let#[a,a]:=b.ae;ext apf d a};{let#[c,a,_]:=b.lst;ext apf e a}
def mP(a:ap)(c:b.as=a)(d:adM)(e:mg Q L b.ai^ϴ=ϴ):bj b (ajS L Z)^GB a Xg L:=c▸a3 d e
def xn(a:ap)(c:b.as=a):sf b^Gk a:=c▸cl
def xo(a:ap)(c:b.as=a):sf b^Gl a:=c▸dr
def Cg(a:ap)(f:b.as=a):afS "len"^λg c h=>∃d e,g=æ d/\(aw a c d e\/bw a c d e)/\h (alC e) c:=f▸dY
inductive JH(j:ac)(a:þ)(k:ag)(l:ab)(c:aE)(b:bs):Prop|mk(d m n e f g h i:_)(_:l=À d)(_:fU j k d m n e f g h b.name (bq c b) (az c b) i)(_:amv c b i/\a d/\a e/\a f/\a g/\a h)
abbrev de(a:ac)(b:þ)(c:ag)(d:ab)(e:aE)(f:bs):Prop:=JH a b c d e f
def de.keep{e:ac}{c:þ}{S:Ó}{d f:ag}(m:aJ S d f)(n:ahc a d)(b:∀a∈S,¬c a){g:ab}{h:aE}{i:bs}(o:de e c d g h i):de e c f g h i:=by let#[c,p,a,d,e,f,g,q,s,t,u,h,i,j,k,l]:=o;calc#[c,p,a,d,e,f,g,q,s,ð t m n (λa=>b c a h) (λa=>b d a i) (λa=>b e a j) (λa=>b f a k)^λa=>b g a l,u,h,i,j,k,l]
variable{H:aE}{Xw:bs}
def de.imp(a:ahu b)(i:avS):de f Y5 h W4 H Xw:=by let#[b,j,k,c,d,e,g,l,m,n,o,p,q,s,t,u]:=i;calc#[b,j,k,c,d,e,g,l,m,n,o,a b p,a c q,a d s,a e t,a g u]
structure tQ(b:aE)(a:bs):Prop where(kids:afp a)(rules:a.rules.length<=24)(a7:cs b a)(own:∀c∈a.rules,apg a c)(drawn:mV b a)
def B1(d:agt):tQ H Xw↔ur H Xw:=by constructor;{intro a;let#[b,c]:=(Ed d a.a7).mpr #[a.own,a.drawn];calc#[a.a7,a.kids,a.rules,b,c]};{intro a;let#[b,c]:=(Ed d a.a7).mp #[a.cl,a.d8];calc#[a.kids,a.rules,a.a7,b,c]}
variable{YC:ac}
def DG(a:ams)(b:be (gV E Xr h) O Z4):be (pB d h) O^Z4.map ps:=oP (λ_ _ #[c,k,l,y,n,u,v,_,_]=>#[c,E,k,_,l,n,u,Į a,r,v]) b
def DF(a:aE)(b:Ã):(a.syms.map ps).findIdx? (λc=>c==b)=dp a b:=by unfold dp;rw[sM];rfl
inductive Dl(d:ap)(N f E YC Yn X9:ac)(l:Á)(b:ag)(m:aA)(n:aY):Prop|mk(g:ab)(h:ac)(o p:þ)(c:aE)(e:bs)(_:l=[g,À h])(_:ac5 c)(_:afv o b h c)(_:f' YC Yn X9 p b g e)(_:(tQ c e->∀a i,de f (ń q b) a i c e->aL b a->m i a))(_:(¬tQ c e->agp j k a (-3) b n))
def Nx(a4:Ö "production_of" 98 ["read","symbols"])(cb:c9 m)(dH:Ė "MOST_CHILDREN" 3)(dJ:Ė "MOST_RULES" 24)(l:aAg)(cf:akK)(c1:aAe)(c2:mF d X9)(bv:apc)(dK:ar7)(dL:aeB "Production" f ["self","name","places","counts"]^C6 f)(dQ:aAf):aAh:=a4.aw λfw fx dR=>by calc ý dR ["read","symbols","places","counts","production","rule","name","symbol"] R fH x fI fJ fS aJ n fT;let#[bw,Y,fV,fW,c,a,j,c3,dS,dW,dX,a7]:=n;calc š j bx 4 aJ;calc Ţ d1 2 aJ d2 1;calc bl.mk (asp bv bx cb 0 dH^asp bv bx cb 0 dJ^aq (asq (Zk:=[("name",6)]) R (dC^dT l0 (dB^Θ 0)^ă 0) (e2 6 R.ak r r) e3^.ad λ_ _ _ _ _=>Ü dK d2^ü 6 1)^ahI bv bx (ha zd gz (ae 2)^by ext aeY)^aq (are (g:=3) (("symbol",7)) R 2 7^.ad λ_ _ _ _ _=>c4 (Cg d r) r cb.len dG^ak (mP d r (br (xn d r) (ae 1)^ae 7) r) an)^aq (Ò 4 R^j8 dL d1 bd^aec 0^ü 2 3)^aq (age (dC^ă 0) 5 R^aC^bm^ģ bv bx^ak (vp (ă 0)^oR^su^a3^ă 5) an)^Α (bm^ģ dQ aJ^ë 4^aec 0^Ø 1) 4) ?_;ext afw cg;let#[ck,bI,cl]:=dS;let#[o,S,bM,y,Ä cm aK,T,d6,d7,#[z,c7,c8],#[bf,bh,cn],_,_,_]:=dW;let bO:z.length=a.kids.length:=by{rw[bC c8,aI]};let bj:bf.length=a.rules.length:=bC cn;left;calc#[o,YC,S,Ď T l,cm,z,Ϣ c7,Ç,aeK C,λC F G Z H ag=>a7 (Í I) F G Z H ag];rotate_left;{let C:=ad9 C;let:=I.kids;calc aAi C bO};let C:z.length<=3:=by{let:=zI C;calc ajb};calc#[o,YC,S,Ď T l,aK,bf,Ϣ bh,Ç,aeK J,λJ F G Z H ag=>a7 (Í I) F G Z H ag];rotate_left;{let J:=ad9 J;let:=I.rules;calc aAi J bj};let J:bf.length<=24:=by{let:=zI J;calc ajb};calc#[o,YC,S,Ď T l,asr cg ct d8];let cx:=Ϭ [ø y] d8;calc#[o,YC,S,ū cx o T l,ct,cm,_,z,r,r,as,cx cm _ c7,by{show 1+z.length<=a9;lia},Â aM d9];let av:=Ë cx^Ϭ ([ø y]++z) d9;let cy:(am (adX x ct [ø y]) aM^.lst ([ø y]++z)) aM=aa^.lst (ø y::z):=as;generalize am (am x ct (.lst [ø y])) aM (.lst ([ø y]++z))=da at av cy;calc af8 aM cy k bP;let de:aht da (ø y::z)^(agj a).map fq:=.cons #[y,r,av y _ d7]^ï c8 λbw e #[bk,u,j]=>#[bk,u,av bk _ j];calc let bu:ez:=(akN h aU k (.lst^(((agj a).map fq).take h).map λe=>j6^dp c e) da);ahM aM (O:=ø y::z) bu bP h aU U cy;{ext agu h v aU aA n L U;let#[e,Ä M bk,ea]:=cK de aA;let O:=ä aA;rw[ce]at O;ext akd;calc#[bk,Y,e,ck,_,r,U bk _ ea,Ÿ U Y av bI,bL.ay (DG cf.dG cl)^λbw df b=>b.same^Ë av U,Â D A];rwa[DF,#[_,A k _ L,by{rwa[aI,dD,avT (Ĭ acG O) C cg]},ķ p g b]];{rw[as,dE,M,cA];rfl};{rwa[Ï b bP,A p g^U p g b]}};ext ac6 aU n L U;let cz:=Ë av U;let eb:((agj a).map fq).length=(ø y::z).length:=(bC de).symm;rw[<-eb,d0,dZ]at L;left;calc#[k,_,Ϣ L,r,?_,?_];{rw[iI];intro s V;nofun;ext ad' e V;left;show h5^j6^ahy c e=af;cases ahy c e<;>rfl};let di:gl .ar^ass a e c=af↔¬cs c a:=by{unfold gl;rw[kv];constructor;{intro n k;nofun;let#[s,V,u]:=n;ext ϓ e M V;let u:g9 (j6^ahy c e) .ar=af:=u;let#[W,j]:=f4.mp^uJ^k e M;ext agr j u};{intro cB;by_cases b:∃e∈agj a,ahy c e=ah;{nofun;let#[e,M,u]:=b;left;calc#[_,ai1 e M,?_];show g9 (j6^ahy c e) .ar=af;rw[u];rfl};{calc zH (λe M=>Qh ?_) cB;rcases j:ahy c e with _|W;{calc zH #[e,M,j] b};{rfl}}}};calc#[aeK P,ajc P F G Z H ag a7 (Í I) cz];rotate_left;{let P:(! gl .ar^ass a e c)=ay:=P;rw[Bool.not_eq_false']at P;calc di.mp P I.a7};let bQ:cs c a:=nj.mp λv=>by{let P:(! gl .ar^ass a e c)=af:=P;rw[di.mpr v]at P;ext P};let eg:ass a e c=aP^bq c a:=by{unfold bq aP;rwa[dZ,vS (Â e M)];nofun;let#[W,j]:=f4.mp^uJ^bQ e M;left;show j6^ahy c e=ab.int (((ahy c e).getD 0:Nat):Int);rw[j];rfl};rw[eg]at L;let dk:=er c a;calc af8 k L bR dq;calc let bu:ez:=(λh D=>D bR=aa^.lst^aP^(az c a).take h/\aL aU D);ahM k (O:=aP^bq c a) bu dq h D A L;{ext agu h v D aA n bS A;ext aeL aA bU cC O;let cF:=lU bQ cC;let#[eh,bw,ei,em,en]:=dj.get (dj.same (Ë cz A) #[ck,bI,cl])^bi cF;let eo:cc c bU=eQ (c.syms[bU]' cF):=by{unfold cc;rw[bi cF];rfl};let#[ep,eq,Ä fX es,ev,fY,#[dr,ew,ex],_,_]:=en;let ey:dr.length=acH c bU:=by{rw[eo,bC ex]};let eA:(az c a)[h]?=aa (acH c bU):=by{unfold az;rw[b9,cC];rfl};ext akd;calc#[Y,eh,Ç,ę ei,b0 em,ep,E,eq,Ŝ ev,cf.dG.aa,cf.dG.no _^by{simp},r,es,dr,Ϣ ew,?_];calc#[_,bS,by{rwa[aI,dD,avT (ai (Ρ (Ĭ acG O) dk)^aF (au bO) 1) C cg]},ķ p g b];{rw[as,dE,eA,hr,ey];rfl};{rwa[Ï b dq,A p g b]}};ext ac6 D n bS A;let bX:=Ë cz A;let eB:(aP^bq c a).length=amf c a:=by{rw[aI,dk,i7]};rw[eB,d0]at bS;let dt:afp a:=Ō bO C;let eF:=i8 c3 dt;let fZ:=i7 c a;left;calc#[o,YC,S,ū bX o T l,ê s X V eH f0];let bY:aL D^afT D X s^.ae f X []:=λp g b=>by{rwa[Ï b V,Ï b eH,b]};calc#[s,X,_,_,bR,az c a,r,as,bY bR _ bS,by{lia},λcG cI cJ bZ eI eJ eK eL eO eP cM f1 eR eS eZ=>ag4];let du:aL D cG:=avU p g b eZ bY V;let w:=Ë bX du;let cS:∀{aV},(afT D X s^.ae f X []) aV=ah->x aV=ah:=λ{aV} b=>by{ext afm j x aV g;{rw[bY aV g^bX aV g j]at b;ext b}};let e1:fU f cG s X bM k cI cJ bZ a.name (bq c a) (az c a)^jm (az c a).sum 0:=#[eI,w bM _ d6,Ÿ du k A L,eJ,eK,eL];calc#[o,YC,S,ū w o T l,ajd aK w bh,?_];calc let bu:cW:=(λW b6 aY=>∃cT,gj (b6=[Δ o Y k,È bR,È s,cT,ah,ah]) (aY=cG) (∀(h:Nat) B,h<W->ahx a h B->apg a B));ahK bf bu #[_,r,r,ahw h B cU] (λW b6 aY _ #[_,_,u,_]=>by rwa[u,Ć w aK bh]) ?_ ?_;{ext Ϧ W v b6 aY aA n;let#[cT,ahp,cX]:=n;let#[B,dv,e7]:=cK cn aA;let#[dy,e8,Ä f2 f3,e9,f9,#[Ä dz ga,fa,gb,gc,gd],ge]:=e7;let#[fb,fc]:=fa.ae;let dA:(apg a B)->∀(h:Nat) b8,h<W+1->ahx a h b8->apg a b8:=λcU h b8 O cZ=>by{by_cases u:h=W;{ext acK u dv cZ;calc cU};{calc cX h b8 (θ O u) cZ}};left;right;calc#[o,YC,S,ū w o T l,Ý];calc Õ b;{calc#[_,r,λ_=>#[_,r,r,dA^Ð b],Ĝ v]};{calc#[dy,Yn,e8,ū w dy e9 c1,dz,X9,fb,_,_,r,w dz _ fc,c2.aa,c2.dQ,r,Ý];calc#[_,r,λv=>#[_,r,r,dA^.inr ?_],ajc v F G Z H ag a7 (Í I) w];{calc(nh _).mp v};{let v:(! B.expr.usesOwn)=ay:=v;rcases I.own B^cq dv with j|j;{calc b j};{ext Æ j v}}}};ext Č b6 aY n;let#[cT,ahp,cX]:=n;let fh:∀B∈a.rules,apg a B:=aAj B aJ h O cX bj;let fi:dj E (λa4=>x a4≠ah) aY Y c.syms:=dj.same w^dj.here #[ck,bI,cl];let fj:lE Yn X9 (λa4=>x a4≠ah) aY aK a.rules:=lE.keep (acB w) ϧ (adt df) (by simp) #[bf,bh,ï cn λbw B b=>b.here];let Q:x bZ=ah:=cS cM;left;calc#[o,YC,S,ū w o T l,s,X,bM,k,cI,cJ,bZ,Y,aK,_,_,a.name,_,c,a,r,c3,bQ,e1,EF _,fi,fj,#[?_,eR,eS,?_,?_,λb=>b Q,λb=>b Q],Ō bj J,eF,ò fk ca fl fm fs c0,λcB F G ca H c0=>a7 (λI=>cB I.drawn) F G ca H λp g b=>c0 p g (w p g b)^by exists ba b Q];{calcλb=>by rw[b,Ÿ bY k A L]at cM;ext cM};{calc ae9 b bI Q};{calc ae9 b bh Q};let ft:aL x ca:=avU p g b c0 w Q;ext aje fu x k j g av bP;ext aje fv x s j g bX V;calc(dX #[dt,Ō bj J,bQ,fh,fk] ca _ #[s,X,bM,k,cI,cJ,bZ,fl,r,fm,fs,fv,fu,cS eO,cS eP,Q] ft)
variable{YQ:ac}
inductive Dt(d:ap)(N E YQ:ac)(j:Á)(b:ag)(k:aA)(m:aY):Prop|mk(l:ac)(f:Á)(n:þ)(c:ahv)(_:j=[adk])(_:b l=à f)(_:be (gY YQ n b) f c)(_:(∀g∈c,aso g<=5000))(_:(b8 c->∀a e,dj E (ń o b) a e c->Ϡ b a e k))(_:(¬b8 c->agp h i a (-3) b m))
def Os(M:Ö "symbols_of" 97 ["read_symbols"])(cm:c9 m)(cT:Ė "MOST_SYMBOLS" 12)(cU:Ė "MOST_ATTRIBUTES" 4)(F:cH d YQ ["name","handed_down","handed_up"])(bo:ams)(bq:apc)(cn:avI)(cX:aeB "Symbol" E ["self","name","handed_down","handed_up"]^C7 E):č 5 "symbols_of" ["read_symbols"]^Dt d N E YQ:=M.aw λbY dB cZ=>by calc ý cZ ["read_symbols","symbol","symbols"] O dL P dQ dR dS V j dT;let#[s,Y,dW,l,o,Z,bZ,c0,c1,ag]:=j;subst o;calc Ţ c2 2 V cs 1;calc bl.mk (ahI bq V (vn jG jG a7 (Ũ cm^Ø 0)^bG cT)^ahI bq V (Ü cn cs^ak (afs (("symbol",1)) O (dC^ae 0) 1 e3^.ad λ_ _ _ _ _=>akO 1) an)^aq (are (g:=2) (("symbol",1)) O 0 1^.ad λ_ _ _ _ _=>j8 cX c2 bd^ak (akO 1)^ahb (akO 1) (akO 1))^Α (age (dC^ae 2) 1 O^asp bq V cm 1 cU^aC^bm^ģ bq V^ak (Ü cn cs^Θ 1) an) 2) ?_;ext Φ b0;let Q:Ē Y l:=bC bZ;let ct:¬(1<=l.length/\l.length<=12)->¬b8 l:=λa bY=>a #[bY.one,bY.most];calc#[s,Y,Ϣ Z,Ç,Ý];calc Õ a;rotate_left;{calc#[_,r,Ĝ v,λ_ w x y z A=>ag (ct λv=>a ?_) w x y z A];show aes ((1:Int)<=aeG Y);calc zJ^zt^acD v.1 Q};let c3:1<=l.length:=by{let:=zI a;calc Ρ ajb Q};calc#[Ç,aeK a,λa w x y z A=>ag (ct (Í v)) w x y z A];rotate_left;{let:=ad9 a;calc fL (oU this)^ī (ö^ai (Ρ (akC (ğ Q v.2)^oU this) Q) v.2)};let br:l.length<=12:=by{let:=zI a;calc Ō Q^ajb};calc af8 s Z bu cx;calc let av:ez:=(amC g G e bu (aht G e^(Ğ l g).map ps) P);ast s Y av cx (λg G _ #[_,_,_,H]=>Ć H s Z);{intro g v G az j;nofun;let#[e,bv,aA,H]:=j;let#[b,u,aK]:=cK bZ az;let#[B,aM,p,Ä bw bx,I,aP,_]:=aK;let J:=ä u;calc aeM #[B,YQ,aM,ū H B I F,e,bv,by{rwa[bC aA,aI,dD,avV (agv J) br b0]},e++æ p,as,ķ L h a];{calc ajf aU bu G (e++æ p) aV bv;rwa[dE,u,cA,gy (ad4 aA bI b6 a aU aV)^acS #[p,r,aU p _ (H p _ aP)^Ÿ aV p H aP]]};{rwa[Ï a cx,H L h a]}};ext aja G j e bv aA H;rw[Q,d0]at aA;left;calc#[bu,e,_,r,bv,aA,by{rwa[aI,aev br]},Â c7 c8];let W:=Ë H c8;calc#[aeK a,ajc a w x y z A ag (λaY=>ad9 a aY.cc) W];let da:(l.map ps).Nodup:=zI a;calc#[ajd s W Z,Â f bM];calc let av:ez:=(amC g k e f (be (gV E (λM=>P M=ah/\M≠f) k) e^Ğ l g) c7);ast s Y av bM (λg k _ #[_,_,_,X]=>aw.ad^Ÿ X s W Z);{intro g v k az j;nofun;let#[e,R,S,X]:=j;let#[b,u,aK]:=cK bZ az;let#[B,aM,p,Ä bw bx,I,aP,#[ca,bO,a4],#[cb,de,cy],_]:=aK;let J:=ä u;let n:=Ë W X;let df:=c0 b^cq u;let cz:ca.length=b.downs.length:=by{rw[bC a4,aI]};let di:cb.length=b.ups.length:=by{rw[bC cy,aI]};ext akd;calc#[B,YQ,aM,ū n B I F,B,YQ,aM,ū n B I F,B,YQ,aM,ū n B I F,ê T bP bf dj dX];let bQ:aL k^afT k bP T^.ae E bP []:=λL h a=>by{rwa[Ï a bf,Ï a dj,a]};calc#[T,bP,_,bw,bx,ca,cb,r,as,Ÿ bQ bw n bO,Ÿ bQ bx n de,afu (W1:=16772216) (kz (aZ cz)^aZ di) df 16772216 b0,λC bh dk dq cB dr=>ag4];let c:aL k C:=avU L h a dr bQ bf;let cC:aoL bj k P:=λ{bj} a=>by{ext afn o P bj h n a};ext aje cc k bh o h bQ cB;let dt:T≠f:=Ę a R bf;let du:bh≠f:=Ę a R cc;let cF:=c f _ R;calc#[e,cF,by{rwa[bC S,dD,avV (agv J) br b0]},e++æ T,as,ķ L h a];{calc ajf aU f C (e++æ T) aV cF;let cG:∀D∈[f],¬(λM=>P M=ah/\M≠f) D:=λD bk a=>a.2^ċ bk;rwa[dE,u,gy (ï S λbI b6 a=>(aoN a c^adt bk).keep aU aV cG)^acS (gV.keep aU aV cG ?_)];calc#[T,bP,p,bh,r,?_,Ÿ c p n aP,#[ca++cb,dq,?_],#[cC bf,dt],#[cC cc,du]];{rwa[<-cz,dk]};{calc bL.ay (gy a4 cy) λbI b6 #[D,ab,o]=>#[D,ab,Ÿ c D n o]}};{rwa[Ï a bM,c L h^X L h a]}};ext aja k j e R S X;rw[Q,d0]at S;let n:=Ë W X;let dv:Ē e l:=bC S;left;calc ahL f R;calc let av:cW:=(λbR bS C=>∃cf,gj (bS=[È s,cf,È f]) (aL k C) (∀(g:Nat) b,g<bR->é l g b->aiZ b<=4/\(eQ b).Nodup));ahK e av #[_,r,Ķ a,ahw g b U] (λbR bS C _ #[_,_,c,_]=>Ć c f R) ?_ ?_;{ext Ϧ bR v bS C az j;let#[cf,rfl,c,cg]:=j;let#[b,u,aK]:=cK S az;let#[bU,cI,Ä d1 bX,I,aP,#[ck,bO,a4],_,_]:=aK;let dy:ck.length=aiZ b:=bC a4;left;right;calc#[bU,E,cI,ū c bU I bo,bX,ck,r,.inl^Ć c bX bO,Ç,aeK a,λa w x y z A=>ag (Í aY) w x y z^Ë n^Ë c A];rotate_left;{let:=ad9 a;let:=aY.aM b^cq u;lia};let cJ:aiZ b<=4:=by{let:=zI a;calc Ō dy^ajb};calc#[bU,E,cI,ū c bU I bo,bX,ck,_,r,c bX _ bO,ï a4^λbI b6 #[D,ab,o]=>#[D,ab,c D _ o],aev cJ,Â d2 cM];calc#[aeK a,λa w x y z A=>ag (λaY=>ad9 a^aY.c0 b^cq u) w x y z^Ë n^Ë c^Ë cM A];calc#[_,r,Ë c cM,Ô g dz J cl];by_cases ab:g=bR;{ext acK ab u cl;calc#[cJ,zI a]};{calc cg g dz (θ J ab) cl}};ext akv bS C j cf c cg;let cS:∀b∈l,aiZ b<=4/\(eQ b).Nodup:=aAj b U g J cg dv;ext aje dA P f o h W bM;left;calc(c1 #[c3,br,da,ah5 b U cS,λb U=>(cS b U).2] C f #[e,c f _ R,ï S λbI b a=>(aoN a c^adt bk).imp λd6 a=>a.1] (Ë n c) dA)
@[reducible]abbrev jz(a:adY):Á:=a.map ab.ah
def DO(a:Wy[g]?=aa YL):(jz Wy)[g]?=aa^.ah YL:=by rw[b9,a];rfl
def O9(a:adY)(b:Nat)(c:Bool):(jz a).set b^.ah c=jz^a.set b c:=by unfold jz;rw[G']
abbrev kP(a:adY):Nat:=(a.filter λa=> ! a).length
def BI:∀{b:adY}{a:Nat},b[a]?=aa ay->kP^b.set a af<kP b|[],a,b=>by{simp at b}|c::d,0,b=>by{ext b;show(d.filter λc=> ! c).length<_+1;calc jP _}|c::d,a+1,b=>by let:=BI (b:=d) (a:=a) b;unfold kP at this⊢;rw[List.set_cons_succ,eM,eM];split;{rwa[ce,ce,af6]};{calc this}
inductive JP(d:ac)(a:ag)(e:ab)(l:Ã):Prop|mk(b f g c h i j:_)(_:e=À b)(_:a b=aa^.ae d f^t6 g (À c) h i j)(_:a c=aa^.lst^aP l)
abbrev rn(a:ac)(b:ag)(c:ab)(d:Ã):Prop:=JP a b c d
def rn.same(a:ŧ)(d:rn f h W4 D):rn f V W4 D:=by let#[b,e,g,c,i,j,k,l,m,n]:=d;calc#[b,e,g,c,i,j,k,l,a b _ m,a c _ n]
inductive Dy(f:ac)(k:Á)(b:ag)(m:aA)(o:aY):Prop|mk(a:Nat)(i:ac)(j:Á)(c:Τ)(_:k=[Ì a,À i])(_:b i=à j)(_:be (rn f b) j c)(_:a<=1000)(_:(∀l∈c,l≠[]/\l.length<=1000/\∀n∈l,n<a))(_:∀d e g,d e=aa^.lst^jz g->ϲ g a->(∀h,h<a->(g[h]?=ζ↔lM c h))->Ϡ b d e m)
def Ot(bY:Ö "symbols_with_tree" 102 ["count","productions"])(a4:c9 m)(W:Χ):aAk:=bY.aw λc0 c1 bZ=>by calc ó bZ ["count","productions","has_tree","is_growing","production","left","symbol","child"] s c8 X de di l;let#[E,I,a6,z,Q,bd,bf,bg,b8,ca]:=l;subst Q;left;calc bl.mk (aq (aiA (g:=2) s^afs (("symbol",6)) s (qp r a4.range^ŵ 0) 6 e3^.ad λ_ _ _ _ _=>jH)^aq (Ò 3 s jH)^aq (h7 el (fc^ae 3)^aq (Ò 3 s jH)^aC^amD 1 4 s^aq (Ò 5 s^agq 4 a7)^aC^bQ (g7.cf^nc (zj^fc^κ 2^ae 5)^nd^fc^c4 (Fy r) r a4.all boot_all^ak (afs (("child",7)) s (dC^qn vv (Ϩ 4) (l2 a7) zi) 7 e3^.ad λ_ _ _ _ _=>br (xn d r) (ae 2)^ae 7) an) (aq (sy jH^asu 2 (ae 5))^aC^Ò 3 s jH) b6)^aiS 2) ?_;ext Φ cb;calc#[alV,hd^ē bg 1^cd r,Â n Y];rwa[hf,let x:ez:=(λj Z=>Z n=aa^.lst^jz^jm j ay/\aL X Z);y7 x #[as,a' Y] ?_ ?_];{intro j Z y l;ext Ϗ aJ aK l;calc aeM #[_,aJ,by{rwa[aI,qE,aX (W1:=16776216)^aiX (ai y bg) 16776216 cb]},ķ R S c];{rw[as,vG];unfold jz;rw[cA];rfl};{rwa[Ï c Y,aK R S c]}};ext ac6 Z l aJ aK;left;calc let x:cW:=(λbh bj ag=>h4 λ(h:Bool) (o:adY) (A B:ϰ)=>iB (bj=[aa^Ì E,È I,È n,aa^.ah h,A,B,ah,ah]) (bh=kP o+(if h then 1 else 0)) (ag n=aa^.lst^jz o) (ϲ o E) (aL X ag) ((∀k:Nat,o[k]?=ζ->lM z k)/\(h=ay->∀b g,(b::g)∈z->asv e g o b)));#[x,#[_,af,jm E ay,ah,ah,r,r,aJ,by{simp},aK,Â k aM,Ĝ c],?_];{nofun;let#[_,u]:=ľ aM;rw[Aa]at u;left;ext u};ext ϐ bh bj ag l;let#[h,o,Ř A B,bk,bm,aU,bq,cc]:=l;left;calc#[h,r,?_];calc Õ c;{subst c;calc let x:hy:=(λF p=>h4 λ(h:Bool) (a:adY) (A B:ϰ)=>p' (F=[aa^Ì E,È I,È n,aa^.ah h,A,B,ah,ah]) (kP a+(if h then 1 else 0)<kP o+1) (p n=aa^.lst^jz a) (ϲ a E) (aL X p) (∀k:Nat,a[k]?=ζ->lM z k) ((h=ay->∀b g,(b::g)∈z->asv e g a b)));aze x F p h a A B;calc#[ajd I aU bd,?_];calc let x:cW:=(λk F p=>h4 λ(h:Bool) (a:adY) (A B:ϰ)=>iB (F=[aa^Ì E,È I,È n,aa^.ah h,A,B,ah,ah]) (p n=aa^.lst^jz a) (ϲ a E) (aL X p) ((∀k:Nat,a[k]?=ζ->lM z k)) ((h=af->kP a<kP o)/\(h=ay->a=o/\∀(j:Nat) b g,j<k->z[j]?=aa (b::g)->asv e g a b)));ahK a6 x #[ay,o,Ŝ bk,bm,aU,bq,Ĝ c,λ_=>#[r,λj b g y=>aeu y]] (λk F p _ #[Ϝ,_,G,_]=>Ć G I bd) ?_ ?_;{ext Ϧ k H F p cx l;let#[h,a,Ä cy cz,J,v,G,L,T,M]:=l;let#[aV,aW,cB]:=cK bf cx;let#[cC,cF,aY]:=b8 aV^cq aW;ext azH b g aV cC;let cG:=cq aW;let#[bu,bv,bw,bx,dk,Ä dq dr,bA,bG]:=É cB G;left;right;calc#[bu,f,bv,Ď bA W,bx,Ļ bG,ώ r,?_];let bH:=aY b cj;let U:a[b]?=aa a[b]:=adx bH v;calc#[n,Ļ J,b0^DO U,Ý];let bI:∀av,aL p av->(a[b]?=ζ\/¬∀e∈g,a[e]?=ζ)->(h=ay->a=o/\∀(j:Nat) b g,j<k+1->z[j]?=aa (b::g)->asv e g a b):=λav N V c=>by{calc#[(M c).1,ò j cH cI y aZ C];by_cases u:j=k;{ext acK u aW aZ;ext ĸ V;{calc V};{calc zH C V}};{calc(M c).2 j cH cI (θ y u) aZ C}};calc Õ c;rotate_left;{let cJ:a[b]=af:=by{rcases Q:a[b]with _|_;{rw[Q]at c;calc zH r c};{rfl}};rw[cJ]at U;calc avQ H;calc#[h,a,Ŝ J,v,G,L,T,bI p (Ķ c)^Ð U]};let cM:a[b]=ay:=by{rcases Q:a[b]with _|_;{rfl};{ext Æ Q c}};rw[cM]at U;calc#[bu,f,bv,Ď bA W,_,r,bx,_,r,ę bG,Â O cS];let cT:gk (aP (b::g)) (aa 1) ah=aP g:=by{unfold gk;rw[show(aa adh)=aa ((1:Nat):Int) from r,se,Fa];simp;calc vY^by rwa[aI,a5 _]};rw[cT];ext aAl N g cS a1 p O av bL bM;calc let x:ez:=(akN j P bL (.lst^jz^(Ğ g j).map λe=>a.getD e ay) av);ahM O (O:=aP g) x bM j P D a1;{ext agu j H P bO l az D;ext afa bO e w;let aA:=aY e^cu _^cq w;let cU:a[e]?=aa^a.getD e ay:=by{rw[dN,adx aA v];rfl};let y:=ä w;rw[ce]at cF;calc aeM #[n,_,Ç,aw.ad^Ÿ D n N J,b0^DO cU,_,az,by{rw[aI,aI,dD];lia},ķ R S c];{rw[as,dE,w,cA];unfold jz;rw[cA];rfl};{rwa[Ï c bM,D R S c]}};ext ac6 P l az D;rw[aI,d0]at az;let bP:=Ë G^Ë N D;let bR:=Ÿ D n N J;left;calc#[bL,_,r,ę az,Ý];let bS:((g.map λe=>a.getD e ay).all id)=af↔∀e∈g,a[e]?=ζ:=by{rwa[z1,iI,#[Å b e w,Å b e w]];{let:=b e w;let aA:=aY e^cu _ w;rw[adx aA v];let u:a.getD e ay=a[e]:=by{rw[dN,adx aA v];rfl};let this:a.getD e ay=af:=this;rw[u]at this;rw[this]};{show a.getD e ay=af;rw[dN,b e w];rfl}};calc Õ H;{let C:=bS.mp H;calc#[n,_,_,b,r,r,bR,rx^by{rwa[aI,ĺ bH v]},?_];rwa[O9,#[af,a.set b af,_,ĭ,by{rwa[l8,v]},Å R S c,Â bU bX,ady,Ĝ c]];{rwa[Ï c Y,bP R S c]};{by_cases u:bU=b;{subst u;calc .mk cG λe w=>L e^C e w};{rw[nm^ci u]at bX;calc L bU bX}};{let:=BI U;ext acM h;{let:=(M r).1;subst this;assumption};{let:=T r;lia}}};{calc#[h,a,Ŝ bR,v,bP,L,T,bI P (Ë N D)^.inr λC=>H^bS.mpr C]}};{ext Č F p l;let#[h,a,Ä cy cz,J,v,G,L,T,M]:=l;left;calc#[h,a,_,Ý,J,v,G,L,ê c b g a2 C];{ext acM h;{rwa[(M r).1,jP _]};{let:=T r;show kP a+1<kP o+1;calc af6}};{nofun;ext acF j y u a2;let cX:Ē a6 z:=bC bf;left;calc(M c).2 j b g (ĺ y cX) (by rw[bi y,u]) C}}};{let c:h=ay:=by{exists c};calc(ca ag n o bk bm (λk aM=>#[bq k,Í bw]) aU Y);clear aM;induction bw with|mk a2 _ cZ=>calc cc c _ _ a2 cZ}
inductive JJ(i:ac)(j:ac)(k:ac)(a:þ)(b:ag)(c:ab)(d:aE):Prop|mk(e l f g h:_)(_:c=À e)(_:b e=aa^.ae i l (akE f g))(_:dj j a b f d.syms)(_:b g=à h)(_:be (λc m=>de k a b c d m) h d.prods)(_:a e/\a f/\a g)
abbrev pA(a b c:ac)(d:þ)(e:ag)(f:ab)(g:aE):Prop:=JJ a b c d e f g
def gV.plain{b:ac}{c:þ}{d:ag}{e:ab}{a:dV}(f:gV b c d e a):gV b c d e^lA a:=by let#[b,c,d,e,g,h,i,j,k,l]:=f;calc#[b,c,d,e,g,?_,i,by{rwa[us,j]},k,l];let:(lA a).downs.length=a.downs.length:=by{show(a.downs.map pt).length=_;rw[aI]};rwa[this,h]
def de.plain(a:avS):de f Xr h W4 (gE H)^kH Xw:=by let#[b,c,d,e,g,i,j,k,l,m,n,o]:=a;calc#[b,c,d,e,g,i,j,k,l,?_,?_,o];{rwa[Ez,D8,m]};{rwa[D8,Pv,n]}
def pA.strip{a b c:ac}{d:þ}{e:ag}{f:ab}{g:aE}(h:pA a b c d e f g):pA a b c d e f^gE g:=by let#[a,b,c,d,e,f,g,#[i,j,k],l,m,n]:=h;calc#[a,b,c,d,e,f,g,#[i,j,oP (λ_ _ a=>a.plain) k],l,oP (λ_ _ a=>a.plain) m,n]
variable{Z5:ac}
def LM(b:Ŭ "__init__" "Grammar.__init__" 92 0 s M)(a:cH d f ["symbols","productions"]):ad1 1 s M ["self","symbols","productions"]^kX f ["symbols","productions"]:=by calc arY b ["self","symbols","productions"] e g h j k l n;obtain⟨b,c,rfl⟩:∃b c,h=[b,c]:=by{match h,k with|[b,c],_=>calc#[b,c,r]};calc Ş j (arZ 1 2);calc#[e,f,g,_,r,l,Į a,akw];calc#[e,f,g,ĭ,Į a,akx];rwa[gn,n]
inductive C0(d:ap)(N J E f:ac)(l:Á)(b:ag)(m:aA)(n:aY):Prop|mk(c e:_)(_:l=æ c)(_:b c=Ě e)(_:ahq e)(_:(∀g,rh e=.ok g->mW g->∀a h,pA J E f (ń c b) a h g->aL b a->m h a))(_:(∀i,rh e=Ϛ i->asw j k a i b n))
def Lm(e:Ö "grammar_of" 96 ["text"])(c:c9 m)(n:Ė "MOST_PRODUCTIONS" 24)(D:cH d YQ ["symbols","productions"])(Q:aAg)(o:č 351 "read_text" ["text"]^Dv d N YQ Z5 YC Yn X9)(s:č 5 "symbols_of" ["read_symbols"]^Dt d N E Z5)(g:apc)(v:avI)(w:aAh)(x:aAk)(y:aeB "Grammar" J ["self","symbols","productions"]^kX J ["symbols","productions"]):aAm:=e.aw λa a a=>by calc ý a ["text","read","symbols","productions","production"] a U j b z B b A h;let#[e,C,u,F,k,L,p]:=A;calc š u G 7 b;calc ac3 H 5 b;calc ac3 h 4 b;calc Ţ I 2 b l 1;calc bl.mk (aq (Ò 1 a^ģ o b^Ø 0)^aq (aiA (g:=2) a^ģ s H^Θ 1)^asp g h c 1 n^ahI g h (Ü v l^ak (afs (("production",4)) a (dC^Ϩ 1) 4 e3^.ad λ_ _ _ _ _=>akO 4) an)^aq (avW (g:=3) (("production",4)) a 1 4 e3^.ek a1 r r λ_ _ _ _ _ _ V=>bg w G (a6.an V)^ü 4 2)^ahI g h (c4 (Fy r) r c.all boot_all^ak (Ü x l^ak (Ũ c^Ø 2)^Ø 3) an)^aC^bt^j8 y I bd^ü 2 3) ?_;ext Φ a8;unfold rh at L p;rw[zF^by unfold Jt;calc k' k]at L p;calc#[e,C,r,F,k,λb c a v g ag a=>?_,λa l o w h x y=>p (-2) (by rw[l]) o w h x y];rw[c]at L p;dsimp only at L p;let p:¬rQ b->agp o F h (-3) j B:=λa=>p (-3)^by{rw[zF^λO=>a^Eh.mp O]};let L:rQ b->∀h v,pA J E f (ń e j) h v^gE b->aL j h->z v h:=λa=>L _ (by rw[zG^Eh.mpr a])^mW.strip a;nofun;let#[G,T,l,s,Ä n S,Y,z,B,Z,aM,_,_,_]:=g;let aP:agw S b:=bC aM;left;calc#[G,YQ,T,Ď Y D,l,n,_,b.syms,r,z,B,Â U g,ò P l H bk n bf,ajc z o w h x y p (λB=>z B.syms) ag];{let:=P4 c U g;calc ī (ϙ^aF k 1)};let bh:=Ë ag n;calc#[G,YQ,T,ū n G Y D,s,S,r,.inl^Ć n s Z,Ç,aeK a,ajc a o w h x y p (Í B) bh];rotate_left;{let:=ad9 a;let:=B.most;lia};let av:b.prods.length<=24:=by{let:=zI a;calc Ō aP^ajb};calc#[G,YQ,T,ū n G Y D,ajd s n Z,Â az a7];calc let aU:ez:=(amC z C g az (aht C g^(ahN b z).map mz) l);ast s S aU a7 (λz C _ #[_,_,_,M]=>aw.ad^Ÿ M s n Z);{intro z O C aV A;nofun;let#[g,aA,R,M]:=A;let#[c,k,aY]:=cK aM aV;let#[l,W,I,X,Ä X X,X,br,_]:=aY;let a4:=ä k;let aK:C I=ar1 c:=Ÿ M I n br;calc aeM #[l,YC,W,agx (Ÿ M l n X) Q,g,aA,by{rwa[bC R,aI,dD,amy (agv a4) av a8]},g++æ I,as,ķ Q l a];{calc ajf W az C (g++æ I) X aA;rwa[dE,k,cA,gy (ad4 R v br a W X)^acS #[I,r,afe W I aK X]]};{rwa[Ï a a7,M Q l a]}};ext aja C A g aA R M;rw[aP,d0]at R;left;calc#[az,g,_,r,aA,R,by{rwa[aI,aev av]},Â a7 C];let I:=Ë M C;let az:=Ë bh I;calc#[aeK a,ajc a o w h x y p (λB=>ad9 a B.cc) az];let bu:(aoS b).Nodup:=zI a;let bh:dj E (ń e j) a7 H b.syms:=by{nofun;let#[R,C,M]:=bk;left;calc dj.same I #[R,C,ï M λv U a=>a.imp (Â aA a)];ext afn u j aA l ag a};let bk:be (f' YC Yn X9 (ń e j) a7) S b.prods:=ï aM λv c a=>f'.keep (acB^Ë n I) ϧ (adt C) a;let M:=Ÿ I s n Z;calc#[G,YQ,T,agx (Ÿ I G n Y) D,s,ahH M,Â n aM];calc let aU:ez:=(λz G=>∃g,oK (G n=à g) (be (λv c=>de f (λe=>j e=ah/\e≠n) G v b c) g^ahN b z) ((∀c∈ahN b z,tQ b c))^aL a7 G);amw s S aU #[akP,λc k=>(by simp at k),a' aM] (λz G _ #[ć,D]=>Ć D s M) ?_ ?_;{intro z O G aV A;nofun;let#[g,Y,S,T,D]:=A;let#[c,k,aY]:=cK bk aV;let a4:=ä k;let Z:=Ë az D;let a7:aph b z c:=by{rw[dE,k];rfl};ext akd;calc#[O,H,_,_,b,c,r,P,É bh D,f'.keep (acB D) ϧ (adt C) aY,ê bk z aV bv I,ajc M o w z x I p (λB=>M^(B1 P).mpr^B.prods c^cq k) Z];let aY:=I n _ Y;let bw:∀e,G e=ah->j e=ah/\e≠n:=λs a=>by{calc#[?_,ae9 aU Y a];ext afn u j s l Z a};calc#[g,aY,by{rwa[bC S,dD,amy (agv a4) av a8]},g++[aV],as,?_,Â a8 a4,Å Q l a];{calc ajf W n z (g++[aV]) X aY;let M:∀aV∈[n],¬(λe=>j e=ah/\e≠n) aV:=λaV C a=>a.2^ċ C;rwa[a7,gy (ï S λv br a=>(de.keep (acB I) ϧ (adt C) a).keep W X M)^acS ((bv.imp bw).keep W X M)]};{rw[a7]at a4;ext aj6 a4 M;{calc T a8 M};{rwa[ċ M,bk]}};{rwa[Ï a aM,I Q l^D Q l a]}};intro G A;nofun;let#[g,Y,S,T,D]:=A;rw[aP,d0]at S T;let Z:=Ë az D;let X:∀c∈b.prods,cs b c:=λc k=>(T c k).a7;let#[R,aP,aY]:=É bh D;let D:amE R b:=bC aY;let e:be (rn f G) g^b.prods.map^bq b:=oP (λv c #[aA,bx,Q,bI,bP,bQ,bR,bS,bM,bj,_]=>#[aA,bx,_,bI,ů bM,bj.ae,bj.bp]) S;left;calc#[H,R,Ϣ aP,R.length,n,g,b.prods.map^bq b,r,Y,e,by{let:=P.most;calc ī (ğ D this)},Â e e,λz a4 G aK W aA I A=>?_];{nofun;ext ϓ c k e;left;calc#[Í aU,?_,Â s a7];{let:=er b c;rw[aU]at this;simp at this};{rw[er];let:=(T c k).kids;calc ī af6};{nofun;ext agk A e a7;left;rwa[D,lU (X c k)^bi e]}};let aU:(G.all id)=af↔∀U∈b.syms,aoT (rd b) U=af:=by{rw[Qn P X,iI];constructor;{intro M A e;calc(aA A^ĺ e D).mp ?_;let U:ś A G:=agy e D W;rwa[bi U,zL aa^M _^sP U]};{ext Č M aV U;ext agk A e U;let:=(aA A^ai e^aZ W).mpr^M A^Ρ (ai e^aZ W) D;rw[bi e]at this;left;calc bW this}};let A:=Ë Z I;calc#[a4,G,r,ę aK,aeK a,ajc a o w h x y p (Í B) A];rotate_left;{rw[aU.mpr B.dw]at a;ext a};let h:rQ b:=#[P,av,bu,λc k=>(B1 P).mp^T c k,aU.mp a];calc(aoK b F V e);let y:aL z^am (afT z F b^.ae J F []) b^.ae J F^azI H n:=amc Q l a V e;let e:=Ë I y;let k:aoL s z j:=λ{s} a=>by{ext afn u j s l A a};ext aje o j H u l ag bf;ext aje p j n u l az aM;calc L h _ _ (pA.strip #[b,F,H,n,g,r,as,dj.same e #[R,aP,aY],e n _ Y,ï S λv c a=>(de.keep (acB e) ϧ (adt C) a).imp λ_ O=>O.1,k V,o,p])^Ë Z e
universe v2148
open AutoSeq1 in def K0(d f:ac)(b c:ajv)(i j:Nat)(k:acL)(l:Array^aju)(s:¬(! b.isEmpty&&s6 (b.size+c.size))=af)(m:b.size<=a9)(n:b.size+c.size<=a9+1):Meets (Builtin.«list.extend» #[acE d f,[]])^λ_ g a=>adg a d=aa {cls:=Þ "list",dict:=ah,data:=.seq b i,slots:=#[]}/\adg a f=aa {cls:=Þ "tuple",dict:=k,data:=.seq c j,slots:=l}/\g (.ok^.ret eu) {a with heap:=a.heap.update d^kE λo=>o++c,toks:=a.toks}:=.of_wp λt u v g a e=>by let#[w,x,y,z,A]:=a;let#[h,p,e]:=e;let B:=AutoSeq1.sub_tuple_tuple;let C:=AutoSeq1.sub_list_list;let D:=AutoSeq1.sub_tuple_list;let E:=AutoSeq1.sub_list_tuple;let q:(b++c).size<=a9+1:=by{rwa[Array.size_append,n]};wp_walk using(wG h r (hz:=m) (_hz':=q)),GK h,GK p;calc#[_,r,e]
inductive NB(e:ab)(f:Á)(a:ag)(g:aA):Prop|mk(l d b c:_)(_:e=adk)(_:f=æ d)(_:a l=à b)(_:a d=Ű c)(_:adW b c<=a9)(_:g .ar^am a l^.lst (b++c))
abbrev NA:ae4:=λa b c d=>NB a b c d
def rz:yK b "list.extend" NA:=by ext atZ a d c k l f m n o;let#[a,rfl,a]:=c.one;ext a;let#[p,a,q,s,g,e]:=d.cM f;let#[c,h,#[#[i,t,i,u],v,i,w,j],x]:=d.tuple^bw.ad m;ext Ť m h;simp only at i j;subst i j;ext axZ i a c g m n j;calc ax0 e (K0 k l a.toArray c.toArray q w t u j (by rwa[dw,Ō g p])^cX i 1) v d a c f s h o
def DL(b:ŀ)(c:bc)(d a:Nat):lV b c d (a+1)=lV b c d a++azS d a c b:=by unfold lV;rw[hg,l6];simp
def DK(a:ŀ)(c:Ã)(b:Nat):iw a c (b+1)=iw a c b++lV a (ahD a b) (Ϟ c b) a.length:=by unfold iw;rw[hg,l6];simp
def x5(b:ŀ)(c:bc)(d:Nat):∀a,(lV b c d a).length<=4*a|0=>a5 _|a+1=>by rw[DL,cO];let:=x5 b c d a;split;{let d:[c.1,c.2,(ahD b a).1,(ahD b a).2].length=4:=r;lia};{let d:([]:Ã).length=0:=r;lia}
def ul(a:ŀ)(c:Ã):∀b,(iw a c b).length<=b*(4*a.length)|0=>by{simp[iw]}|b+1=>by rw[DK,cO,Ag];let:=ul a c b;let:=x5 a (ahD a b) (Ϟ c b) a.length;lia
variable{ZD:List bc}
def xr(b:be (fT h) O ZD)(c:g<ZD.length):∃a,O[g]?=È a/\h a=aa^.tup [.int ((avX).1:Nat),.int ((avX).2:Nat)]:=by let d:O.length=ZD.length:=bC b;let e:O[g]?=aa (O[g]'(ĺ c d)):=adx c d;let#[c,d,a,f,i]:=cK b e;let:avX=c:=by{rw[dN,d];rfl};rwa[this,#[a,by{rw[e,f]},i]]
inductive xT(h:Á)(a:ag)(i:aA)(j:aY):Prop|mk(f g b c:_)(_:h=acE f g)(_:im a f b)(_:a g=ĝ c)(_:Ē c b)(_:b.length<=64)(_:∀d e,d e=aa^.lst^aP^iw b c c.length->Ϡ a d e i)
def OY(a:Ö "told_arrows" 4 ["occurrences","graph"])(c:c9 m)(f:aha):avY:=a.aw λa a a=>by calc ó a ["occurrences","graph","told","start","row","target","occurrence"] a b z b j e;let#[h,o,b,l,k,#[w,A,B],g,F,H,M]:=e;subst k;left;calc al0 (agg 2 a^Α (akQ (adu c^Ø 1) 3 a 4^aC^akQ (adu c^Ø 0) 5 a 6^aC^bQ (fc^Ü f j^ü 4 5) (aq aAn^aC^bm^akJ rz (ae 2)^Ø 6) b6) 2);ext Φ a;ext amd c x k;calc#[o,aP l,r,Ć k o g,?_];calc let n:cW:=(λa f j=>h4 λC D p s=>gj (f=[Δ h o c,C,D,p,s]) (j c=aa^.lst^aP^iw b l a)^aL z j);kS (O:=aP l) n #[ć,r,as,k] (λa f j _ #[Ϝ,u]=>Ć u o g) ?_ ?_;{intro a g g f j n e E;nofun;let#[C,D,Ä p s,y,u]:=e;ext aeL n k v G;let N:Ϟ l a=k:=by{rw[dN,v];rfl};calc amF n [Ê a,ù k] E g E c y v u;generalize amq j g a k=W at E v;let g:=ul b l a;let g:a*(4*b.length)<=64*(4*64):=s1 (ī (ö^ai (ai G^aZ F) H))^by{lia};calc#[h,w,r,Ć v h A,?_];let H:Ē w b:=bC B;calc kS (O:=w) (λg f n=>lY λp s=>gj (f=[È h,È o,Ń c a,aa^Ê k,p,s]) (n c=aa^.lst^aP (iw b l a++lV b (ahD b a) k g))^aL z n) #[_,_,r,by{simpa[lV]using E},v] (λg f n _ #[ć,o]=>Ć o h A) ?_ ?_;{intro g l I f n l e z;nofun;let#[Ä O P,E,o]:=e;let L:ś g b:=by{let:=ä l;calc ϙ^aZ H};let#[v,Q,J]:=xr B L;ext agr Q l;let L:=a' (o:=.tup [Ê g,ø v]) z;calc#[I,aiY,?_];let z:=L c _ E;let l:=Ë o L;generalize agz n I [Ê g,ø v]=ag at z l;let I:=x5 b (ahD b a) k g;calc#[k,g,r,Ý];rwa[DL,Õ g];{nofun;let#[k,I,L]:=xr B^show ś a b by{calc ai G^aZ F};left;calc#[Ŕ z,h,w,Ç,Ć l h A,b0 I,c,k,Ç,z,l k _ L,?_,?_];{rw[aI,cO];show _+2<=_;lia};let a:v≠c:=ba J x;calc#[.inl #[r,_,aw.ad as],c,v,Ç,as,Ņ a^l v _ J,?_,?_];{rw[cO,aI,cO];show _+2+2<=_;lia};rwa[gn,#[_,Ý,Å b h a]];{rwa[as,zG g,avZ k];rw[<-fN,hr (_++_),fN];rfl};{rwa[Ï a x,l b h a]}};{rwa[zF g,fd,#[Ŝ z,l]]}};{ext Č f n e;let#[Ä O P,E,o]:=e;left;calc#[_,_,_,Ý,o];rwa[DK,N,<-H,E]}};{ext Č f j e;let#[C,D,Ä p s,y,u]:=e;rw[aI]at y;left;calc(M j c y u x)}
inductive uf(h:Á)(b:ag)(i:aA)(k:aY):Prop|mk(f g c a:_)(_:h=acE f g)(_:im b f^aK c)(_:b g=aa^.lst^aP^a.map^aM c)(_:(∀j∈a,j∈aK c))(_:a.length<=1000)(_:∀d e,d e=ahO (a.length::f8 a)->Ϡ b d e i)
def OZ(u:Ö "told_occurrences" 5 ["occurrences","numbers"])(b:c9 m):asx:=u.aw λa a a=>by calc ó a ["occurrences","numbers","told","number"] a c h c c e;let#[n,c,o,f,j,#[w,x,y],g,v,k,z]:=e;calc Ş j (aq (aiE 2 a^dB^ak (Ũ b^ŵ 1) an)^Α (amD 1 3 a^aC^aAn) 2);let a:=b2;calc#[c,_,Ϣ g,asr a j p];rw[aI,aI];let a:=Ϭ [ab.int (aeG f)] p;calc#[ajd c a g,?_];calc let A:cW:=(λk l b=>∃s,gj (l=[Δ n c j,s]) (b j=ahO (f.length::f8^Ğ f k))^aL h b);h6 (O:=aP^f.map^aM o) A #[ĭ,a] (λk l b _ #[_,_,_,a]=>Ć a c g) ?_ ?_;{ext Ϧ k c l b c e;let#[s,rfl,g,a]:=e;rw[b9,b9]at c;left;right;rcases h:f[k]?with _|f;{ext Æ h c};{ext Æ h c;let c:=ä h;let k:=v f^cq h;let c:=lQ k;let A:=ä c;nofun;let#[k,B,v]:=xr y A;let y:(aK o).getD (aM o f) (0,0)=f:=by{rw[dN,c];rfl};rw[y]at v;let o:∀c:ŀ,(f8 c).length=2*c.length:=λc=>by{unfold f8;induction c with|nil=>{rfl}|cons u u u=>rw[kx,cO,u];simp only[ce,sQ];lia};left;calc#[Ŕ g,n,w,Ç,Ć a n x,b0 B,j,k,Ç,g,a k _ v,?_,Ý,Å n u k];{rw[aI,ce,o,dD];show _+2<=_;lia};{rwa[as,dE,h,avZ c];unfold f8;rw[api f,l6,<-vP,hr];rfl};{rwa[Ï k p,a n u k]}}};{ext akv l b e s g a;rw[aI,aI,d0]at g;left;calc(z b j g a p)}
def PA(d:D[g]?=aa B)(e a b:Nat):dR (D.set g (B|||e)) a b↔dR D a b\/(a=g/\ι e b=af):=by unfold dR;by_cases c:a=g;{ext azN c d};{rw[nm^ci c];simp[c]}
abbrev kd(b:aE)(c:bs)(d:Nat->bJ)(a:Nat):Ħ:=ff b c++aoQ a (λa=>mB b (d a) c a)
def PP(a:aE)(b:bs)(c:Nat->bJ):kd a b c 0=ff a b:=by unfold kd;simp
def El(b:aE)(c:bs)(d:Nat->bJ)(a:Nat):kd b c d (a+1)=kd b c d a++mB b (d a) c a:=by unfold kd;rw[hg,l6,<-fN];simp
structure ka(d:aE)(g:bJ)(c:Τ):Prop where(len:amE c d)(cl:∀(a:Nat)(b:Ã),é c a b->b.length=acH d a)(bits:∀(a:Nat)(b:Ã),é c a b->∀e f,dR b e f↔(a,e,f)∈g)
def ka.same(a:ka z Xv Yr)(c:∀b,b∈Xv↔b∈XD):ka z XD Yr:=#[a.len,a.cl,λb d e f g=>(a.bits b d e f g).trans^c _]
structure lN(a:aE)(b:bs)(g:Nat->bJ)(c l m:Nat)(h:Ã):Prop where(len:ape h a b)(bits:∀d e,dR h d e↔(∃i j,(i,j)∈kd a b g c/\Ġ a b i=d/\Ġ a b j=e)\/∃f k,f<m/\(l,f,k)∈g c/\d=ĵ a b c+f/\e=ĵ a b c+k)
variable{ZX:Nat}
def lN.start(a:cJ ţ (kd z p Ze g) Xz):asy 0 Xz:=#[a.len,λb b=>by rwa[a.bits,asz a (λ#[c,k,a,_]=>aeu a)]]
def lN.step(j:asy B Xz)(m:Xz[amG+B]?=aa W1)(k:∀a,Xu.testBit a=af↔(ZX,B,a)∈Ze g):asy (B+1)^Xz.set (amG+B) (W1|||(Xu<<<amG)):=by calc#[by{rw[l8,j.len]},Â o h];rw[PA m,j.bits];let n:(Xu<<<amG).testBit h=af↔∃a,(ZX,B,a)∈Ze g/\h=amG+a:=by{rw[Nat.testBit_shiftLeft,db,decide_eq_true_iff];constructor;{ext acU c b;calc#[h-amG,(k _).mp b,by lia]};{ext ĳ a c b;calc#[ai ġ^au b,?_];rwa[b,Ah,(k a).mpr c]}};rw[n];constructor;{rintro((i|⟨e,a,c,b,d,f⟩)|⟨c,a,b,d⟩);{calc Ð i};{calc è #[e,a,cX c 1,b,d,f]};{calc è #[B,a,a5 _,b,c,d]}};{rintro(i|⟨e,a,c,b,d,f⟩);{calc .inl^Ð i};{by_cases l:e=B;{subst l;calc è #[d,a,b,f]};{calc aip #[e,a,θ c l,b,d,f]}}}
def lN.done(m:ą)(i:į)(a:asy (cc z ZX).length Xz)(j:aoW=aa ZX)(n:∀b∈Ze g,b∈cP z):cJ ţ (kd z p Ze (g+1)) Xz:=by calc#[a.len,Â b b];rw[a.bits,El];constructor;{rintro(⟨b,c,a,k⟩|⟨l,o,e,f,h,d⟩);{calc#[b,c,hI _ a,k]};{calc#[(g,l),(g,o),eU _^(ke i).mpr #[ZX,j,r,r,f],h.symm,d.symm]}};{rintro⟨b,c,a,k,l⟩;calc ao2 a #[b,c,a,k,l];{let#[o,e,f,h,d]:=(ke i).mp a;ext Æ j e;calc è #[b.2,c.2,((iu m).mp^n _ d).2.1,d,?_,?_];{rw[<-k];unfold aM;rw[f]};{rw[<-l];unfold aM;rw[h]}}}
def cJ.fj(a:cJ ţ (kd z p Ze g) Xz)(b:Ze g=[]):cJ ţ (kd z p Ze (g+1)) Xz:=by rw[El,b];let:mB z [] p g=[]:=by{unfold mB;split<;>rfl};rwa[this,fd,a]
def ka.fi(b:ą)(d:ka z Xv Yr)(e:∀a∈Xv,a∈cP z)(f:Yr[g]?=aa D)(h:D[B]?=aa W1):W1<16:=by apply Nat.lt_pow_two_of_testBit W1 (n:=4);intro a c;rcases i:W1.testBit a with _|_;{rfl};{exfalso;let:=(d.bits g D f B a).mp #[W1,h,i];let d:a<ar9:=((iu b).mp^e _ this).2.2;let:=k2 b g;calc fL c^ī (bV (W1:=2)^ai (Ĭ (ai (ai d this) c) d) this)}
@[reducible]abbrev bf:=dz
abbrev cI(a:bf):aeg:=aAo a
def rN(a:cI T=cI aaB):T=aaB:=by unfold cI at a;injection a with l c;injection c with c k;injection k with k _;ext ϝ l;ext ϝ c;ext ϝ k;calc hK (aih l)^hK (aih c)^aih k
abbrev iZ(a:bf):Á:=[.int (a.1:Nat),.int (a.2.1:Nat),.int (a.2.2:Nat)]
abbrev eI(a:ac7):afI:=a.map λa=>(cI a.1,apj a)
def B3:∀(d:ac7)(b:bf),bS (eI d)^cI b=(d.find? (anQ a b)).map λa=>apj a|[],_=>r|a::d,b=>by show av0 a d^cI b=_;rw[jk];by_cases c:a.1=b;{rw[hF^by{rw[c]},zJ c];rfl};{rwa[hc^λa=>c^rN a,zK c,B3 d b]}
variable{XE:List (bf×Nat)}
def xh:(asA).isSome=af↔T∈ahP:=by rw[B3,nv,oZ,bE];constructor;{ext ĳ a b c;calc#[a,b,zI c]};{ext ĳ a b c;calc#[a,b,zJ c]}
def Ld(b:T∉ahP)(a:Nat):cU (eI XE) (cI T)^Ê a=eI (XE++[(T,a)]):=by rw[qs];{unfold eI;rw[cA];rfl};{rcases a:asA with _|c;{rfl};{calc zH (xh.mp^by rw[a];rfl) b}}
structure fS(e:ac)(a:ag)(f g c d:ac)(b:Ó)(h:ac7)(i:Τ):Prop where(ae:a f=aa^.ae e g [("found_in",À c),("rows",À d)])(a':a c=aa^.aB^eI h)(lst:a d=aa^ϔ b)(row:apk j k a b i)(ak:b.Nodup)
def fS.same(a:apl Yr)(b:ŧ):fS f V s w A E W' XE Yr:=#[b s _ a.ae,b A _ a.a',b E _ a.lst,bL.ay a.row λc d d=>b c _ d,a.ak]
abbrev jr(f:ac)(b:aE)(g:ag)(c:ab)(a:bJ):Prop:=(c=.ar/\a=[])\/∃d h i j k l e,c=À d/\fS f g d h i j k l e/\ka b a e/\∀c∈a,c∈cP b
def jr.same{b:ac}{c:aE}{d e:ag}(h:aL d e){f:ab}{g:bJ}(a:jr b c d f g):jr b c e f g:=by calc aAp a j k l (É k h)
@[reducible]abbrev kL(d:ap)(a:ac):Prop:=cH d a ["found_in","rows"]
inductive xN(E:ac)(g:Á)(a:ag)(h:aA)(j:aY):Prop|mk(d:Nat)(e f:ac)(i:þ)(b:aE)(c:bf)(_:g=[Ì d,Ū e f])(_:afv i a e b)(_:a f=afx c)(_:c.1<b.syms.length)(_:h (.ah^gf b d c) a)
def L3(a:Ö "is_of_kind" 12 ["kind","symbols","pair"])(f:akK)(p:Ė "BELOW" 1)(s:Ė "ABOVE" 2):av1:=a.aw λa a a=>by calc ó a ["kind","symbols","pair","symbol","from_down","to_down"] e a l n o u;let#[h,v,j,a,g,a,w,x,k,b,c]:=u;subst w;calc aos (aq (Ò 3 e^κ 1^ac4 2)^aq (Ò 4 e^asB f 3 o 2)^aq (Ò 5 e^asB f 3 o 2)^amH p (aC^bt^zg (ae 4)^oR^su^ae 5)^amH s (aC^bt^zg (ae 5)^oR^su^ae 4)^aC^bt jH);nofun;ext aAq s u w x b p g a C b e f;calc#[j,Œ k,ώ r,v,s,amt u w];calc#[b,e,î f,j,Œ k,aff,b,e,_,_,_,a.2.1,r,f,?_];calc#[b,e,î f,j,Œ k,b0 (g:=2) r,b,e,_,_,_,a.2.2,r,f,?_];rwa[<-p,ϟ];calc Õ e;{let e:h=1:=by{ext aiu e};subst e;let c:n (.ah (aoY a g&& ! aoZ a g)) l:=c;calc aAr b c (a.2.1<d7 g a.1)};{let e:h≠1:=aiv b e;ext af' f;{let f:h=2:=by{ext aiu f};subst f;let c:n (.ah (aoZ a g&& ! aoY a g)) l:=c;calc aAr b c (a.2.2<d7 g a.1)};{let f:h≠2:=aiv b f;let b:gf g h a=af:=by{unfold gf;ext avs e f;{rfl}};ext Ι b c}}
inductive ua(f A:ac)(q:Á)(c:ag)(s:aA)(B:aY):Prop|mk(i t u v w x y:ac)(z j:Ã)(k l d:ab)(a:aE)(b:bs)(m n:bJ)(e:adU)(_:q=[À i,k,l,d])(_:ac5 a)(_:cs a b)(_:afp b)(_:aeJ c i t u v w x y z a b j)(_:amv a b j)(_:jr A a c k m)(_:jr A a c l n)(_:((d=.ar/\e=ah)\/∃o:Nat,d=Ì o/\e=aa o))(_:av2 (az a b) (ep a b^cM m n e) c s)
def Mc(j:Ö "joined_graph" 13 ["production","at_left","at_children","left_out"])(aX:c9 m)(I:Χ)(bL:agA):asC:=j.aw λdX dY cZ=>by calc ó cZ ["production","at_left","at_children","left_out","graph","place","symbol","family","start","attribute","row"] w d7 aY av c0 n;let#[o,a1,bM,a2,bO,eg,c1,eh,bP,x,y,J,c,e,z,B,p,g,a4,bS,c3,C,c4,c7,c8,da,de]:=n;subst g;left;calc bl.mk (aq (Ò 4 w^na yS r aX.list qN^Θ 0)^aq (akQ (adu aX^Θ 0) 5 w 6^aq (Ò 7 w^zh (bR c2 (ae 5) a7^bH _) (ae 1)^ae 2)^aC^bQ (g7.cf^nc (bR ze (ae 7) gz^bH _)^nd^bR (S1 c0.units) (ae 5) (ae 3)^bH _) (asn 8 w 5^aC^akQ (adu aX^ak (agq 7^ae 6) an) 9 w 10^aC^sy (dT zf (κ 4^agd 8^ae 9)^dT Gc (ae 10)^ae 8)^asu 4 (agd 8^ae 9)) b6)^aiS 4) ?_;ext Φ ei;let df:=i8 a4 c3;let di:=i7 c e;let bU:=er c e;calc#[o,f,a1,ú C I,c1,_,r,.inl^aw.ad C.own,Â g aF];let a6:=a' (o:=.lst^aP bP) aF;calc#[afy o a1 a6 C I,a2,_,r,aw.ad^a6 a2 _ C.bp,?_];calc let aJ:cW:=(λa s D=>qd λbd bf R L u v M=>oK (s=[È o,aa x,aa y,aa J,È g,bd,bf,R,L,u,v]) (D g=ĝ M) (cJ (az c e) (kd c e (cM z B p) a) M)^aL aY D);kS (O:=aP^bq c e) aJ #[Ϝ,bP,r,as,by{rwa[PP,c4]},a6] (λa s D _ #[ć,Ϝ,S]=>aw.ad^S a2 _ C.bp) ?_ ?_;{intro a em bV s D bY n dj;nofun;let#[bd,bf,R,L,u,Ä v aK,bg,T,S]:=n;ext aeL bY h aM dk;calc amF bZ [Ê a,ù h] dj bV bh g bg E S;generalize amq D bV a h=W at bh E;nofun;obtain⟨N,U,b8,dq⟩:∃N U,((a=0/\N=x/\U=z)\/(a≠0/\N=y/\U=B))/\jr A c aY N U:=by{by_cases k:a=0;{calc#[x,z,.inl #[k,r,r],c7]};{calc#[y,B,.inr #[k,r,r],c8]}};let bj:p≠aa a->cM z B p a=U:=λbk=>by{unfold cM;rw[zF bk];rcases b8 with⟨k,_,l⟩|⟨k,_,l⟩;{rw[zG k,l]};{rw[zF k,l]}};let ca:p=aa a->cM z B p a=[]:=λbk=>by{unfold cM;rw[zG bk]};left;calc ϟ;let dr:∀(av:aA),av N W->(if aes (ù a=Ŀ 0)then vD 1 [aa^ø o,aa x,aa y,aa J,aa^ø g,aa^ù a,aa^ù h,R,L,u,v] W av else vD 2 [aa^ø o,aa x,aa y,aa J,aa^ø g,aa^ù a,aa^ù h,R,L,u,v] W av):=λen cb=>by{rcases b8 with⟨k,l,_⟩|⟨k,l,_⟩;{rwa[zG^by{rw[k];rfl},(l▸cb)]};{rwa[zF^λb=>k^by{ext aiu b},(l▸cb)]}};calc dr _ ?_;calc ϟ;let cg:cM z B p a=[]->aJ (a+1) [È o,aa x,aa y,aa J,È g,aa^ù a,aa^ù h,aa N,L,u,v] W:=λk=>#[Ϝ,aK,r,bh,T.fj k,E];rcases dq with⟨F,l⟩|⟨ck,dt,eo,du,O,ep,bm,rfl,cn,aU,cs⟩;{subst F;calc ϭ b;calc ϭ b;calc cg ?_;by_cases k:p=aa a;{calc ca k};{rw[bj k,l]}};let bu:=É cn E;calc aeb b;nofun;obtain⟨V,dv,ct⟩:∃V,eS d W J V/\mb V=af/\ma (.int (Ñ a)) V=decide (p=aa a):=by{rcases da with⟨F,l⟩|⟨dy,F,l⟩;{subst F l;calc#[_,.ar,r,by simp[ma]]};{subst F l;calc#[_,ψ,r,?_];rw[ma,e4,beq_iff_eq,decide_eq_true_iff];constructor;{intro b;rw[show dy=a by calc au7 b]};{intro b;rw[bW b]}}};left;calc#[_,V,ψ,dv,r,ct.1,Ý];rw[ct.2];by_cases ag:p=aa a;{rwa[zJ ag,ϭ b];calc cg^ca ag};rwa[zK ag,aeb b];let cx:a<amf c e:=acD (ai dk^aZ bU) di;calc#[afy o a1 E C I,bO,_,Ç,aw.ad^E bO _ C.b8,b0^gv^uk cx,?_];let P:=lU bS aM;let Q:=aU.len;ext apm eq bm h P Q;let aV:Ē O bm:=bC bu.row;let cy:O[h]?=aa (O[h]'(agy P Q aV)):=bi^agy P Q aV;nofun;let#[X,bv,cz]:=cK cn.row cy;let cB:=E _ _ cz;let dz:=aU.cl h X bv;let es:(az c e).getD a 0=acH c h:=by{rw[i6,aM];rfl};ext aAs dA c e a cC cx;left;calc#[ck,A,dt,ú bu bL,du,_,Ç,aw.ad bu.lst,b0^show(π O)[h]?=aa^.ref _ by{rw[b9,cy];rfl},_,aP X,r,ę cB,?_];let dB:O[h]'(agy P Q aV)≠g:=ba cz aF;calc let aJ:cW:=(λj s G=>kn λu v M=>g8 (s=[È o,aa x,aa y,aa J,Ń g a,aa^Ê h,È ck,adq (ĵ c e a:Nat),u,v]) (G g=ĝ M) (lN c e (cM z B p) a h j M) (aL aY G) (G (O[h]'(agy P Q aV))=ĝ X));kS (O:=aP X) aJ #[_,_,aK,r,bh,lN.start T,E,cB] (av3 j s G) ?_ ?_;{intro j ev cF s G cG n dH;nofun;let#[dJ,Ä dK H,bx,Y,bA,cH]:=n;ext aeL cG Z aW ew;let dL:=aU.fi a4 cs bv aW;calc amF bG [Ê j,ù Z] dH cF bI g bx cI bA;let cS:=bG _ _ cH;generalize amq G cF j Z=dQ at bI cI cS;let ex:=Y.len;let cT:H[ĵ c e a+j]?=aa (H[ĵ c e a+j]'(by lia)):=bi^by{lia};ext av4 cU c e a j;calc#[Ç,g,Ļ bI,yQ cU^gv cT,?_];calc#[Ç,#[gA _,zt^ī (ai (ai (acD akB dA) cC) df),?_],Ç,?_];{rwa[Int.natAbs_natCast,sY dL^by decide]};calc#[Ç,g,_,_,ĵ c e a+j,r,r,bI,?_,?_];{rwa[cU,rx^by rw[aI];lia]};let F:o4 ((H[ĵ c e a+j]'(by lia):Nat):Int) (Ñ Z*2^((ĵ c e a:Nat):Int).toNat)=((H[ĵ c e a+j]'(by lia)|||(Z<<<ĵ c e a):Nat):Int):=by{rw[hf,Nat.shiftLeft_eq,<-xt];congr 1};show kn λu v M=>g8 _ ((am dQ g^.lst^(aP H).set (ĵ c e a+j)^.int^o4 _ _) g=_) _ _ _;rwa[F,un,#[_,_,ĭ,Y.step cT (Í bM),Å dR dS b,(Ņ dB) cS]];{rw[bj ag,<-aU.bits h X bv j bM];constructor;{intro b;calc#[Z,aW,b]};{ext ags n ey cX dW;ext agr aW cX;calc dW}};{rwa[Ï b aF,cI dR dS b]}};{ext Č s G n;let#[dJ,Ä dK H,bx,Y,bA,cH]:=n;rw[aI,dz]at Y;left;calc#[Ϝ,H,r,bx,Y.done a4 bS aM^by{rwa[bj ag,cs]},bA]}};{ext Č s D n;let#[bd,bf,R,L,u,Ä v aK,bg,T,S]:=n;rw[aI,bU]at T;left;calc(de D g aK bg T S aF)}
def B0(c:Ã)(b:Nat):∀a,((fZ c a).filter λd=>d.1==b).map (·.2)=if b<a then bB^Ϟ c b else[]|0=>by{simp[fZ]}|a+1=>by rw[pZ,iJ,cA,B0 c b a];by_cases l:a=b;{subst l;rw[zF^fn _,zG^jP _,qF,z7.mpr,dZ];{calc List.map_id _};{intro g e;ext ad' f e;calc ύ}};{let:(avh c a f).filter (λd=>d.1==b)=[]:=by{rw[List.filter_eq_nil_iff];intro g e;ext ad' f e;simp[l]};rw[this,lg,fd];by_cases k:b<a;{rw[zG k,zG^by calc cX k 1]};{rw[zF k,zF^k'^eT (c8 k) l]}}
def K2(a:aoA):((aK D).filter λb=>b.1==g).map (·.2)=bB^D.getD g 0:=by unfold aK;rw[B0,zG a]
abbrev gX(b:ag)(c:ab)(d:bf):Prop:=∃a,c=À a/\b a=afx d
def gX.keep{S:Ó}(c:ad2)(d:afd a)(e:gX h W4 T):gX V W4 T:=by ext aoh a f b e c d
def gX.same(b:ŧ)(c:gX h W4 T):gX V W4 T:=by let#[a,d,e]:=c;calc#[a,d,b a _ e]
abbrev kW(d:Ã)(b e c a:Nat):đ:=((bB a).filter λa=>(d.getD (b+c) 0).testBit (b+a)).map λa=>(e,c,a)
abbrev iV(a:Ã)(b c d e:Nat):đ:=aoQ e (λe=>kW a b c e d)
def N2(d:Ã)(a e b c:Nat):kW d a e b (c+1)=kW d a e b c++if(d.getD (a+b) 0).testBit (a+c)then[(e,b,c)]else[]:=by unfold kW;rw[hg,iJ,cA,eM];split<;>rfl
def BB(a:Ã)(b c d e:Nat):iV a b c d (e+1)=iV a b c d e++kW a b c e d:=by unfold iV;rw[hg,l6];simp
def CF(b:Ã)(c d e a:Nat):(kW b c d e a).length<=a:=by unfold kW;rwa[aI,ds ag1^by rwa[dU,a5 _]]
def w6(c:Ã)(d e b:Nat):∀a,(iV c d e b a).length<=a*b|0=>by{simp[iV]}|a+1=>by rw[BB,cO,Ag];let:=w6 c d e b a;let:=CF c d e a b;lia
def MH:T∈iV D g B W1 W1↔T.1=B/\T.2.1<W1/\T.2.2<W1/\dR D (g+T.2.1) (g+T.2.2):=by unfold iV kW;simp only[hJ,bE,dc,eC,k5];constructor;{rintro⟨a,a,b,⟨b,c⟩,rfl⟩;calc#[r,a,b,c]};{rintro⟨a,b,c,d⟩;calc#[T.2.1,b,T.2.2,#[c,d],hK a.symm r]}
inductive Di(f:ac)(m:Á)(c:ag)(n:aA)(x:aY):Prop|mk(j o p q s t u k:ac)(v w g:Ã)(a:aE)(b:bs)(h d:Nat)(_:m=[À j,Ì h,À k])(_:ac5 a)(_:afp b)(_:aeJ c j o p q s t u v a b w)(_:(bq a b)[h]?=aa d)(_:c k=ĝ g)(_:ape g a b)(_:∀e i l,e i=à l->agB e l^iV g (ĵ a b h) d (acH a d) (acH a d)->Ϡ c e i n)
def Ng(a:Ö "pairs_at" 15 ["production","place","ways"])(h:Χ)(v:aha):aAt:=a.aw λa a a=>by calc ó a ["production","place","ways","symbol","start","numbers","pairs","one","other","occurrence"] e a A a x k;let#[C,n,a,y,z,s,a,H,a,a,w,a,b,c,l,g,p,B,j,o,U,D,Q]:=k;subst g;left;calc bl.mk (asn 3 e 1^asn 4 e 1^aq (avW (g:=5) (("occurrence",9)) e 0 9 (λ_ _ _ _ _=>sA^bR c2 (br (xo d r) (ae 9) a7) (ae 1)^bH _)^aAu 9)^agg 6 e^Α (amD 5 7 e^aC^amD 5 8 e^aC^bQ (fc^Ü v x^ahb (κ 2^agd 4^ae 7) (agd 4^ae 8)) (aiU 6 (fm^ë 3^ü 7 8)) b6) 6) ?_;ext Φ R;let O:=i8 p B;let e:=i7 a b;let x:=er a b;let B:=ä o;let v:c<amf a b:=acD (ai B^aZ x) e;let x:(az a b).getD c 0=acH a l:=by{rw[i6,o];rfl};let L:=k2 p l;ext aAs e a b c e v;nofun;let#[F,e,I]:=j.occ;left;calc#[C,asm n j h y,b0^gv o,?_];calc#[C,f,n,ú j h,z,_,Ç,aw.ad j.b8,b0^gv^uk v,?_];calc#[C,f,n,ú j h,s,ahH e,Â o J];calc let G:ez:=(λh p=>p o=aa^.lst^aP^(((Ĥ a b).take h).filter λn=>n.1==c).map (·.2)/\aL A p);ahM s (O:=F) G J h p j e;{ext agu h D p y k s j;let#[n,Ä e z,B]:=cK I y;let M:=ä e;rw[g3]at M;left;calc#[r,z,_,Ç,bw.ad^j z _ B,ώ r,r,Ý];let N:(Ĥ a b).take (h+1)=(Ĥ a b).take h++[n]:=by{rw[dE,e];rfl};calc Õ e;{let e:n.1=c:=by{ext aiu e};calc#[z,_,Ç,bw.ad^j z _ B,aff,_,s,?_,ķ P B E];{rwa[aI,aI,sX ag1 ?_];rwa[dD,av5 (agv M) O R]};{rw[as,N,iJ,cA,hr];let:[n].filter (λn=>n.1==c)=[n]:=by{rw[eM,zG^by rwa[e,ύ]];rfl};rw[this];rfl};{rwa[Ï E J,j P B E]}};{let e:n.1≠c:=λD=>e^by{rwa[D,zJ r]};calc#[?_,j];rw[N,iJ];let:[n].filter (λn=>n.1==c)=[]:=by{rw[eM,zF^by exists e];rfl};rwa[this,fd,s]}};ext ac6 p k s j;let J:F.length=apn a b:=bC I;rw[J,d0,K2 v,x]at s;left;generalize av:acH a l=u at s x L Q;calc ahs g v;let J:=Ë j^apo v;let I:(Ž p g) o=aa^.lst^aP^bB u:=(Ï s v).trans s;ext aje S A g e B j v;let V:o≠g:=ba s v;let v:(Ž p g) g=aa^Ő:=as;generalize am p g Ő=aA at J I v;calc ahL o I;calc let G:cW:=(λj p x=>kn λM F s=>g8 (p=[Ń C c,Ń H l,adq (ĵ a b c:Nat),È o,È g,M,F,ah]) (x g=à s) (agB x s^iV w (ĵ a b c) l u j) (aL A x) (x o=aa^.lst^aP^bB u));h6 (O:=aP^bB u) G #[_,_,[],r,v,by{simpa[iV]using Iy},J,I] (av3 j p x) ?_ ?_;{ext Ϧ j D p x y k;let#[M,Ä F s,N,I,O,P]:=k;ext aAv y T;left;right;calc ahL o P;calc h6 (O:=aP^bB u) (λh p v=>lY λF s=>g8 (p=[Ń C c,Ń H l,adq (ĵ a b c:Nat),È o,Ń g j,F,ah]) (v g=à s) (agB v s (iV w (ĵ a b c) l u j++kW w (ĵ a b c) l j h)) (aL A v) (v o=aa^.lst^aP^bB u)) #[_,s,r,N,by{simpa[kW]using I},O,P] (λh p v _ #[Ϝ,ag]=>ę ag) ?_ ?_;{intro h D p v y k;nofun;let#[Ä X A,C,D,G,J]:=k;ext aAv y Z;ext av4 y a b c j;ext av4 Y a b c h;let Z:w[ĵ a b c+j]?=aa^w.getD (ĵ a b c+j) 0:=by{rw[dN,bi^by lia];rfl};left;calc#[Ç,H,_,Ç,Ć G H U,yQ y^gv Z,?_];calc#[Ç,w.getD (ĵ a b c+j) 0,ĵ a b c+h,?_,?_];{show[ab.int _,ab.int (((ĵ a b c:Nat):Int)+((h:Nat):Int))]=_;rw[Y]};calc aiP;rw[N2,<-fN];let y:=w6 w (ĵ a b c) l u j;let y:=CF w (ĵ a b c) l j h;let a:j*u<=4*4:=s1 (amB T L) L;let a:A.length=_:=bC D;rw[cO]at a;calc Õ e;{rwa[zG e,#[Ŕ C,by{ext apq R},Â a c]];let b:=ac1 [Ê l,Ê j,Ê h] c;let w:a≠g:=Ę e C c;let c:=b g _ C;calc#[g,A,_,r,r,ac0 c,?_];let y:aoH g v a [Ê l,Ê j,Ê h] [Ê l,Ê j,Ê h] A:=gG;let h:=gH c;calc#[_,A++æ a,r,as,gy (ï D λc n e=>(É e b).keep y h)^acS #[a,r,(Ņ w) as],Å z B E,Ņ V^b o _ J];rwa[Ï E S,b z B^G z B E]};{rwa[zF e,fd,#[_,A,r,C,D,G,J]]}};{ext Č p v k;let#[Ä X A,C,D,G,J]:=k;rw[aI,dU]at D;left;calc#[_,_,A,r,C,?_,G,J];rwa[BB,D]}};{ext Č p x k;let#[M,Ä F s,N,I,O,P]:=k;rw[aI,dU]at I;left;calc(Q x g s N I O S)}
abbrev B7(a:aE)(b:bs)(e:Nat)(c f d:bJ):Ħ:=match e with|0=>ff a b|1=>ep a b^ai3 c|2=>ep a b^cM f c ah|_=>ep a b^cM d d ah
abbrev iS(A:ac)(b:aE)(c:ag)(d:Ĕ)(e:Nat)(f:bJ):Prop:=∃a,bS d^Ī e=aa a/\jr A b c a f
inductive xG(f A:ac)(p:Á)(c:ag)(q:aA)(z:aY):Prop|mk(i s t u v w x j:ac)(y k:Ã)(d:Nat)(e:Ĕ)(a:aE)(b:bs)(l m n:bJ)(_:p=[Ì d,Ū i j])(_:d<=3)(_:ac5 a)(_:cs a b)(_:afp b)(_:aeJ c i s t u v w x y a b k)(_:amv a b k)(_:c j=adV e)(_:(d=1\/d=2->iS A a c e 1 l))(_:(d=2->iS A a c e 2 m))(_:(d=3->iS A a c e 3 n))(_:av2 (az a b) (B7 a b d l m n) c q)
def Lo(a:Ö "graph_of_kind" 14 ["kind","production","families"])(O:c9 m)(H:Χ)(P:Ė "OWN" 0)(s:Ė "BELOW" 1)(I:Ė "ABOVE" 2)(J:Ė "JOINED" 3)(u:asC):av6:=a.aw λa c a=>by calc ó a ["kind","production","families"] a a a a h a;let#[j,k,v,w,x,y,l,c,z,n,b,e,B,C,L,Q,M,D,R,E,F,G,e,o,g,N,S,T,p]:=a;subst D;let a:=hC h;left;calc aoD (amH P (aC^bt^na yS r O.list qN^Θ 1)^amH s (aC^bt^Ü u h^ë 1^ak gz^akR a s^ak gz an)^amH I (aC^bt^Ü u h^ë 1^akR a I^akR a s^ak gz an)^aC^bt^Ü u h^ë 1^akR a J^akR a J^ak gz an);ext aAw h b a;ext af' a;{nofun;obtain rfl:b=0:=h a;left;calc#[j,f,k,ú e H,l,_,r,.inl^aw.ad e.own,λD s=>p _ D n as o (a' s) s]};ext af' s;{nofun;obtain rfl:b=1:=h s;let#[u,D,H]:=N^ħ;left;calc#[c,u,apr D 1 g,j,k,v,w,x,y,l,z,n,ů B,C,[],L,ah,r,E,F,G,e,o,ait,H,ait,p]};ext af' I;{nofun;obtain rfl:b=2:=h I;let#[u,D,H]:=N^ϛ;let#[h,J,N]:=S r;left;calc#[c,h,apr J 2 g,c,u,apr D 1 g,j,k,v,w,x,y,l,z,n,ů B,C,Q,L,ah,r,E,F,G,e,o,N,H,ait,p]};let u:b≠0:=aiv h a;let a:b≠1:=aiv h s;let s:b≠2:=aiv h I;nofun;obtain rfl:b=3:=bX R^h8 (h8 (amu u) a) s;let#[a,b,h]:=T r;left;calc#[c,a,apr b 3 g,c,a,apr b 3 g,j,k,v,w,x,y,l,z,n,ů B,C,M,M,ah,r,E,F,G,e,o,h,h,ait,p]
variable{XK:bJ}
def jr.all(a:jr f H h W4 XK):∀b∈XK,b∈cP H:=by rcases a with⟨_,c⟩|⟨_,_,_,_,_,_,_,_,_,_,a⟩;{rw[c];intro b b;ext b};{calc a}
def iS.same{a:ac}{b:aE}{c d:ag}(h:aL c d){e:Ĕ}{f:Nat}{g:bJ}(i:iS a b c e f g):iS a b d e f g:=by let#[a,b,c]:=i;calc#[a,b,É c h]
variable{Zp:bJ}{ack:Option Nat}
def kR(c:∀a∈XK,a∈cP H)(d:∀a∈Zp,a∈cP H):∀b,∀a∈cM XK Zp ack b,a∈cP H:=λb a b=>by unfold cM at b;ext Ĳ b;{split at b;{calc c a b};{calc d a b}}
variable{XL:List b5}
def xw(i:cJ adz XL D)(h:c1 adz XL)(d:(bq H Xw)[g]?=aa B)(a:bf):a∈iV (eg D) (cm adz g) B (cc H B).length (cc H B).length↔(bq H Xw)[g]?=aa a.1/\a.2.1<(cc H a.1).length/\ex XL (g,a.2.1) (g,a.2.2):=by rw[MH,d];let c:g<(adz).length:=by{let:=ä d;rw[er]at this;rwa[i7,this]};let e:∀b,b<(cc H B).length->(g,b)∈aK^adz:=λb f=>by{calc hs.mpr #[c,?_];show b<(adz).getD g 0;rwa[i6,d,f]};constructor;{rintro⟨b,c,f,j⟩;subst b;calc#[r,c,(i.cB h (e _ c)^e _ f).mp j]};{ext ĳ b c f;obtain rfl:=bW b;let b:=(hs.mp (r8 h f).2).2;let b:a.2.2<(adz).getD g 0:=b;rw[i6,d]at b;let b:a.2.2<(cc H a.1).length:=b;calc#[r,c,b,(i.cB h (e _ c)^e _ b).mpr f]}
def xv(d:agt)(b:Ã)(c a:Nat):(iV b c a (amI a) (amI a)).length<=16:=by let e:=w6 b c a (amI a) (amI a);let b:=k2 d a;let:amI a*amI a<=4*4:=s1 b b;lia
inductive CZ(f A:ac)(q:Á)(c:ag)(s:aA)(B:aY):Prop|mk(j t u v w x y k:ac)(z l:Ã)(d:Nat)(g:Ĕ)(a:aE)(b:bs)(m n:bJ)(_:q=[Ì d,Ū j k])(_:1<=d)(_:d<=3)(_:ac5 a)(_:cs a b)(_:afp b)(_:aeJ c j t u v w x y z a b l)(_:amv a b l)(_:c k=adV g)(_:iS A a c g d n)(_:(d=2->iS A a c g 1 m))(_:∀e h o i,e h=à o->agB e o i->(∀p,p∈i↔p∈i5 a d m n b)->i.length<=64->Ϡ c e h s)
def Nh(de:Ö "pairs_from" 16 ["kind","production","families"])(bI:c9 m)(bM:Χ)(cC:Ė "BELOW" 1)(cF:Ė "ABOVE" 2)(df:asC)(di:av6)(cG:alU)(bZ:aAt):aAx:=de.aw λd1 P v=>by calc ó v ["kind","production","families","pairs","place","graph","ways"] aX d8 aY ea Q k;let#[w,W,a1,F,a2,a4,a6,P,bf,bh,R,dj,b,e,cH,v,c,ei,dk,p,S,X,G,cI,b0,dq,dr,b8]:=k;calc ajg c cK Q dt 1;left;calc bl.mk (aq (ad3 (ae 0) (bG cF) (agg 3 aX^Α (amJ (Te r bI.range^ad7^ak (Ũ bI^Θ 1) an) 4 aX^aq (Ò 5 aX^Ü df dt^ë 1^akR cK cF^akR cK cC^Ø 4)^av7 3 (Ü bZ Q^ë 1^acW 4 (Ü cG Q^Ø 5))) 3) b6)^aq (Ò 6 aX^Ü cG Q^ak (Ü di Q^ë 0^ü 1 2) an)^amH cC (aC^bt^Ü bZ Q^ë 1^ad7^Ø 6)^agg 3 aX^Α (amJ (avO bI 1) 4 aX^av7 3 (Ü bZ Q^ë 1^ü 4 6)) 3) ?_;ext Φ em;let cS:=i8 p X;let s:=er b e;ext aAw cT R j;nofun;let#[ca,cb,bO]:=dq;let bP:=bO.all;left;ext af' j;{nofun;obtain rfl:R=2:=cT j;let#[du,dv,cZ]:=dr r;let dy:=cZ.all;left;ext amd c H bj;calc#[afy w W bj G bM,F,_,r,.inl^aw.ad^bj F _ G.bp,_,_,r,by{rw[aI,s];lia},?_];let dz:(((aP^bq b e).length:Int)-1).toNat=e.kids.length:=by{rw[aI,s];lia};rwa[dz,let cg:cW:=(λg Y C=>h4 λZ ck n u=>iB (Y=[aa^Î 2,Δ w P c,Z,ck,ah]) (C c=à n) (agB C n u) ((∀h,h∈u↔∃a,1<=a/\a<g+1/\aAy b e a h (ep b e^cM v cH^aa a))) (u.length<=16*g)^aL aY C);vc cg #[_,_,[],[],r,as,.nil,λh=>#[Ĝ l,λ#[a,o,I,_]=>by lia],a5 _,bj] ?_ ?_];{intro g Y C ag k;symm;nofun;let#[Z,ck,Ä n u,bS,J,av,cl,D]:=k;let dA:adh+((g:Nat):Int)=aj4 g:=by{lia};left;right;rw[dA];let x:(bq b e)[g+1]?=aa ((bq b e)[g+1]'(ē ag 1^au s)):=bi^ē ag 1^au s;generalize c0:(bq b e)[g+1]'(ē ag 1 (au s))=aA at x;calc#[P,ca,r,by{rwa[<-cb,dW.k (b:=bz 2)^D P _ b0]},P,du,r,by{rwa[<-dv,dW.k (b:=bz 1)^D P _ b0]},w,W,a1,F,a2,a4,a6,bf,bh,ů b,e,v,cH,aa (g+1),r,p,S,X,É G D,cI,É bO D,É cZ D,.inr #[g+1,r,r],λdC dH cn y cs L en=>?_];let dJ:=mZ p S^kR (ack:=aa (g+1)) bP dy;calc#[.inl #[r,_,Ć L c bS],dH,cn,r,y,by{rwa[cs.len,aev cS]},ê T dK dL U eo];let c1:=Ë D^Ë L U;calc#[w,W,a1,F,a2,a4,a6,dK,bf,bh,eg cn,b,e,g+1,aA,r,p,X,É G c1,x,dL,by{rw[lO,cs.len]},λaK aM z bk aU E bU=>?_];let br:=E c _^Ÿ U c L bS;let dQ:Ē n u:=bC J;let dR:z.length=_:=bC aU;let dS:=xv p (eg cn) (ĵ b e (g+1)) aA;calc#[c,aM,n,z,r,r,br,ac0 bk,?_];calc ajf bu c aK (n++z) bv br;calc#[_,_,n++z,ĭ,gy (ï J λct h j=>(j.same^Ë L^Ë U E).keep bu bv)^ad4 aU ct h j bu bv,Í h,by{rw[cO];lia},Å bw M j];{rw[cL,av,xw cs dJ x];constructor;{rintro(⟨a,o,I,N⟩|l);{calc#[a,o,cX I 1,N]};{calc#[g+1,aea 1,a5 _,l]}};{intro k;nofun;let#[a,o,I,N]:=k;left;by_cases B:a=g+1;{subst B;calc ÿ N};{calc .inl #[a,o,θ I B,N]}}};{rwa[Ï j H,E bw M^c1 bw M j]}};{ext Č Y C k;let#[Z,ck,Ä n u,bS,J,av,cl,D]:=k;left;calc(b8 C c n u bS J (Í h) (by lia) D H);rw[av,m1 p S];constructor;{intro k;nofun;let#[a,o,_,y]:=k;left;calc#[a,show a≠0 by{lia},y]};{ext ags k a o y;let o:a≠0:=o;let:=(bp.mp y.1).1;left;calc#[a,amu o,ϙ^aZ s,y]}}};{let c3:R≠2:=aiv cx j;calc#[w,W,a1,F,a2,a4,a6,P,bf,bh,R,dj,b,e,v,[],v,r,dk,p,S,X,G,cI,b0,Í l,λl=>zH l c3,Í l,λeq dT V o O bj es=>?_];{ext ĸ l;{subst l;calc#[ca,cb,bO]};{calc zH l c3}};{subst l;calc#[ca,cb,bO]};calc#[dT,V,r,o,by{rwa[O.len,aev cS]},ê C aV I D ev];let bx:=Ë bj D;ext af' cy;{nofun;obtain rfl:R=1:=cT cy;let O:cJ (az b e) (ep b e^ai3 v) V:=O;let cz:=mZ p S^kR (H:=b) (XK:=[]) (ack:=ah) (alR h l) bP;let x:(bq b e)[0]?=aa ((bq b e)[0]'(aps s)):=bi^aps s;left;generalize c0:(bq b e)[0]'(ai (aea 1) (au s))=aA at x;calc#[w,W,a1,F,a2,a4,a6,aV,bf,bh,eg V,b,e,0,aA,r,p,X,É G bx,x,I,by{rw[lO,O.len]},λaK aM z bk aU E bU=>?_];calc b8 aK aM z _ bk aU (Í h) (ds (xv p _ _ _)^by decide) (Ë bx E) ?_;{rw[xw O cz x,m1 p S];constructor;{rintro l;calc#[0,r,l]};{ext ags k a B l;let B:a=0:=B;subst B;left;calc l}};{ext afn c aY aM M bx bU}};{let ew:R≠1:=aiv cx cy;nofun;obtain rfl:R=3:=by{lia};let O:cJ (az b e) (ep b e^cM v v ah) V:=O;let cz:=mZ p S^kR (H:=b) (ack:=ah) bP bP;left;calc ahs c H;let L:=Ë bx^apo H;let c7:(Ž C c) aV=aa^.lst^aP^eg V:=(Ï I H).trans I;let dX:aV≠c:=ba I H;ext aje c8 aY c B M bx H;let da:(Ž C c) c=aa^Ő:=as;generalize am C c Ő=dC at L c7 da;calc#[afy w W L G bM,F,_,r,.inl^aw.ad^L F _ G.bp,alV,by{rwa[aI,hd^alW (ğ s^aF X 1)]},?_];rwa[hf,aI,s,let cg:cW:=(λg Y T=>kn λZ n u=>p' (Y=[aa^Î 3,Δ w P c,Z,ah,È aV]) (T c=à n) (agB T n u) ((∀h,h∈u↔∃a,a<g/\aAy b e a h (ep b e^cM v v ah))) (u.length<=16*g) (aL aY T) (T aV=aa^.lst^aP^eg V));vc cg #[_,[],[],r,da,.nil,λh=>#[Ĝ l,λ#[a,o,_]=>by lia],a5 _,L,c7] ?_ ?_];{intro g Y T ag k;symm;nofun;let#[Z,Ä n u,bY,J,av,cl,U,cB]:=k;left;right;rw[sJ];let x:(bq b e)[g]?=aa ((bq b e)[g]'(ĺ ag s)):=adx ag s;generalize c0:(bq b e)[g]'(ai ag (au s))=aA at x;calc#[Ŕ bY,w,W,a1,F,a2,a4,a6,aV,bf,bh,eg V,b,e,g,aA,r,p,X,É G U,x,cB,by{rw[lO,O.len]},λaK aM z bk aU E bU=>?_];let br:=E c _ bY;let dQ:Ē n u:=bC J;let dR:z.length=_:=bC aU;let dS:=xv p (eg V) (ĵ b e g) aA;calc#[c,aM,n,z,r,r,br,ac0 bk,?_];calc ajf bu c aK (n++z) bv br;calc#[_,n++z,ĭ,gy (ï J λct h j=>(É j E).keep bu bv)^ad4 aU ct h j bu bv,Í h,by{rw[cO];lia},Å bw M j,Ņ dX^E aV _ cB];{rw[cL,av,xw O cz x];constructor;{rintro(⟨a,o,N⟩|l);{calc#[a,cX o 1,N]};{calc#[g,a5 _,l]}};{ext ags k a o N;left;by_cases B:a=g;{subst B;calc ÿ N};{calc .inl #[a,θ o B,N]}}};{rwa[Ï j c8,E bw M^U bw M j]}};{ext Č Y T k;let#[Z,Ä n u,bY,J,av,cl,U,cB]:=k;left;calc(b8 T c n u bY J (Í h) (by lia) U c8);rw[av,m1 p S];constructor;{intro k;nofun;let#[a,_,y]:=k;left;calc#[a,trivial,y]};{intro k;nofun;let#[a,_,y]:=k;let:=(bp.mp y.1).1;left;calc#[a,ϙ^aZ s,y]}}}}
def N5(d:be (λa c=>h a=ĝ c) W' Yr)(e:W'.Nodup)(b:W'[g]?=aa f):be (λa c=>(aef^.lst^aP D) a=ĝ c) W'^Yr.set g D:=by induction d generalizing g with|nil=>{ext b}|@cons a c j c k l c=>let#[d,i]:=jN.mp e;ext aiB;{obtain rfl:a=f:=bW b;calc .cons as ?_;clear c i e b;induction l with|nil=>{calc .nil}|cons e _ c=>calc .cons ((ao (aq1 a d)).trans e)^c λe=>d^cu _ e};{calc .cons ((ao λa=>d^by rwa[a,cq^show j[g]?=aa f from b]).trans k)^c i b}
def JG(d:ka H XK Yr)(b:Yr[T.1]?=aa D)(i:D[T.2.1]?=aa g)(j:∀a,a∈Zp↔a∈XK\/a=T):ka H Zp^Yr.set T.1^D.set T.2.1 (g|||(1<<<T.2.2)):=by let f:=ä b;calc#[by{rw[l8,d.len]},Å e h a,ê e h a k k];{by_cases c:e=T.1;{subst c;rw[nn f]at a;ext a;rwa[l8,d.cl _ D b]};{rw[nm^ci c]at a;calc d.cl e h a}};{rw[j];by_cases c:e=T.1;{subst c;rw[nn f]at a;ext a;rwa[yb i,d.bits _ D b,ai2 ?_];constructor;{rintro⟨rfl,rfl⟩;rfl};{intro b;calc#[zL (λf:bf=>f.2.1) b,zL (λf:bf=>f.2.2) b]}};{rw[nm^ci c]at a;rw[d.bits e h a];constructor;{calc .inl};{rintro(b|b);{calc b};{calc zH (zL (λf:bf=>f.1) b) c}}}}
inductive xy(A:ac)(o:Á)(c:ag)(p:aA)(q:aY):Prop|mk(d i e j k:ac)(f:Ó)(b:ac7)(g:Τ)(a:bf)(m:Nat)(l:Ã)(n:Nat)(_:o=[Ū d k,Ì m])(_:fS A c d i e j f b g)(_:c k=afx a)(_:g[a.1]?=aa l)(_:l[a.2.1]?=aa n)(_:a.2.2<=64)(_:a∉ė b)(_:b.length<=1000)(_:∀h,fS A h d i e j f (b++[(a,m)])^g.set a.1^l.set a.2.1 (n|||(1<<<a.2.2))->aJ (e::f) c h->p .ar h)
def JW(a:ő "add_pair" "Family.add_pair" 11 1)(o:agA)(l:aog):agh 2 ["self","pair","turn"]^xy A:=by calc ó a ["self","pair","turn","rows"] n a y a k z;let#[p,w,M,u,h,j,a,B,e,a,s,C,a,b,g,v,x,D,E,F,F]:=z;subst a;let z:=hC k;left;calc adp (aq (qr z (ă 0) (ae 1) (ae 2) r)^aq (Ò 3 n^agq 0^ac4 1)^aC^sy (Ü l k^ak (κ 3^ac4 1)^ahr 1)^asu 3 (ac4 1));ext Φ k;let l:Ē j B:=bC b.row;let n:=ä v;let k:j[e.1]?=aa (j[e.1]'(ĺ n l)):=adx n l;generalize P:j[e.1]'(ai n (au l))=c at k;let l:y c=ĝ s:=by{nofun;let#[B,n,a]:=cK b.row k;ext agr v n;calc a};let y:p≠M:=dk b.ae b.a'^by{ext ı a};let G:p≠c:=dk b.ae l^by{ext ı a};let v:M≠c:=dk b.a' l^by{ext ı a};let z:u≠M:=dk b.lst b.a'^by{ext ı a};let H:u≠c:=dk b.lst l^by{intro a;let a:=cx.lst.inj a;ext Ā j n n;{simp at k};{ext Ā s n s;{ext a};{ext a}}};let s:h≠M:=dk g b.a'^by{ext ı a};let I:h≠c:=acA g l a;calc#[p,A,w,ú b o,M,_,r,ki.cq (YO:=cI e) b.a' g^by{unfold eI;rw[aI];lia},?_];rwa[Ld E,#[p,A,w,agx ((Ņ y) b.ae) o,h,asD s g,ώ r,u,_,Ç,aw.ad^(Ņ z) b.lst,b0^show(π j)[e.1]?=È c by{rw[b9,k];rfl},?_]];calc#[h,asD s g,aff,c,_,Ç,aw.ad^(aeH v) l,b0^gv x,?_];calc#[h,asD s g,b0 (g:=2) r,C,e.2.2,r,D,?_];calc#[h,asD s g,aff,c,_,_,e.2.1,r,r,(aeH v) l,rx^by{rwa[aI,ä x]},?_];rwa[un,F _ #[ae8,?_,b.ak] (Ô e g a g)];{rwa[ao G,ao y,b.ae]};{rw[ao v,as]};{rwa[ao H,ao z,b.lst]};{calc N5 (bL.ay b.row (Å h B a)) b.ak k;rwa[ao^dk a b.a'^by{ext ı n},a]};{let b:e≠M:=λn=>g^by{rwa[n,cj]};let h:e≠c:=λn=>g^by{rwa[n,cu _^cq k]};rwa[ao h,ao b,a]}
abbrev KE(a:cE):dF:=match f3 a with|[_,.Assign _ (.ListComp _ _ b _) _]=>b|_=>da a
def Np(a:ap)(c:b.as=a)(d:acN):iy b Q W6^FT a Xg:=c▸dC d
abbrev k1(a:aE)(b:Nat):Τ:=(afr b) λb=>jm (acH a b) 0
def wX(a:aE):ka a []^k1 a a.syms.length:=by let f:∀(b:Nat)(c:Ã),(k1 a a.syms.length)[b]?=aa c->c=jm (acH a b) 0:=λb c a=>by{unfold k1 at a;ext afa a d e;let#[_,d]:=ľ e;rw[np]at d;rw[d]};calc#[by{unfold k1;rw[aI,dU]},Å b c a,ê b c a g g];{rw[f b c a,qE]};{rw[f b c a];constructor;{ext ĳ b e b;let#[_,d]:=ľ e;rw[Aa]at d;rw[<-d]at b;simp at b};{ext ı a}}
inductive xI(A E:ac)(k:Á)(a:ag)(l:aA)(n:aY):Prop|mk(b f g:ac)(m:þ)(c:aE)(_:k=acE b g)(_:a b=aa^.ae A f [])(_:afv m a g c)(_:ac5 c)(_:∀e h i j,fS A e b f h i j []^k1 c c.syms.length->á b a e->(∀d,d=h\/d=i\/d∈j->a d=ah)->l .ar e)
def LL(a:ő "__init__" "Family.__init__" 11 0)(N:agA)(H:ams):alX "symbols"^xI A E:=by calc ó a ["self","symbols","symbol","attribute"] a b w b e n;let#[c,v,x,b,z,g,y,b,L,av]:=n;subst g;left;calc bl.mk (aq (ac2 0 vo r)^aC^ac2 0 (afs (("symbol",2)) a (dC^ae 1) 2 e3^.ad λ_ _ _ _ _=>gM (Zk:=[("attribute",3)]) r a.ak (Np d r^akO 2) (by calc(show p5 ["self","symbols","symbol","attribute"] (KE^ç 11 0) _ _ from#[r,auY,by ext Û])) (e2 3 a.ak r r) e3^avJ) r) ?_;ext afw X;let#[l,a,F]:=b;let az:amE l z:=bC F;let aA:=L.most;left;calcλM O=>?_;let S:M≠c:=Ę b y O;calc#[c,A,v,_,r,(aeH S) y,Į N,akw];let B:á c w^av8 w c v:=λo h b P=>by{rwa[ao^ado C P,Ï b O,b]};let j:x≠c:=acA a y b;let Q:(av8 w c v) c=aa^.ae A v [("found_in",.ref M)]:=as;let ak:(av8 w c v) M=aa^adm:=(Ņ S) as;generalize am (am w M adm) c (.ae A v (ca "found_in" (.ref M) []))=W at B Q ak;let D:=ϒ B x a j;calc af8 x D p I;calc let T:ez:=(λs k=>∃j:Ó,g8 (k p=aa^ϔ j) (apk a u k j^k1 z s) (j.Nodup) ((∀a∈j,W a=ah/\a≠p))^aL W k);amw x l T #[akP,li,adw a e,a' I] (λs k _ #[ć,_,l]=>Ć l x D) ?_ ?_;{intro s C k U n;nofun;let#[j,R,D,V,J,l]:=n;ext aAz F U G aD F x Z ag aM an z s;let aK:=k2 L s;let L:G≠c:=λb=>by{rw[b,y]at x;let x:=cx.ae.inj^bW x;cases x.2.2};let aS:F≠c:=acA ag y b;let y:=l G _^ϒ B G x L;let Y:=l F _^ϒ B F ag aS;ext akd;calc#[G,E,aD,Ď y H,F,ahH Y,Â G x];calc avK T L H G k F Z x y Y;{calc avL L C H Y n F y T (by{rwa[aI,qE,afu (W1:=16777212) (ai T^aZ an) aK 16777212 X]}) o h b x};{ext ac6 H n F y;rw[an]at F;let an:G≠p:=Ę b R x;let Y:=y p _ R;let Z:ϲ j s:=by{rw[bC D];unfold k1;rw[aI,dU]};left;calc#[_,Y,by{rwa[aI,avV (ai (aF (aZ Z) 1) aM) aA X]},j++[G],ae8,Â a e,Å o h b];{rw[as,cA];rfl};{let X:k1 z (s+1)=k1 z s++[jm (acH z s) 0]:=by{unfold k1;rw[hg,cA];rfl};rwa[X,gy ?_^acS ((Ņ an) F)];let Y:asE s z a u k p (λa u=>(adX H p (π j++[ø G])) a=ĝ u):=by{intro s z H;calc apt H g Z F ((ao^F _ cj).trans^y _ _ g) a ag};calc Y D λa e=>(J a e).2};{rwa[lh,#[V,by{simp},ê a e C U b]];rw[ċ U]at b;nofun;ext acF L T X e;let#[U,_,g]:=cK D^ao5 j L a T X;rw[b,x]at g;left;ext g};{ext ag9 e;{calc J a e};{rwa[ċ e,#[?_,an]];ext afn g W G h l x}};{rwa[Ï b I,y o h^l o h b]}}};{intro k n;nofun;let#[j,R,D,V,J,l]:=n;rw[az]at D;let n:p≠c:=Ę b Q I;let x:∀a∈j,a≠c:=λa e b=>by{let:=(J a e).1;ext af4 b Q};left;calc#[c,A,v,_,r,l c _ Q,Į N,akx];let y:∀e,W e=ah->e≠c->w e=ah:=λe b G=>by{ext avM g w e h B G b};calc av _ M p j #[as,Ņ S^l M _ ak,(Ņ n) R,?_,V] (Ô o h b P)^Â e j;{let Y:asE s z a u k c (λa u=>(am k c^.ae A v [("found_in",.ref M),("rows",À p)]) a=ĝ u):=by{intro s z H;calc apt H g Z F ((ao^F _ cj).trans g) a ag};calc Y D x};{let a:o≠c:=ado C P;rwa[ao a,l o h^B o h b P]};{rcases j with rfl|rfl|j;{calc O};{calc y _ I n};{calc y e (J e j).1^x e j}}}
inductive CN(J E:ac)(g:Á)(a:ag)(h:aA)(l:aY):Prop|mk(e i f j:ac)(k:þ)(b:aE)(_:g=æ e)(_:a e=aa^.ae J i (akE f j))(_:afv k a f b)(_:ac5 b)(_:∀c d,im c d^aK^ct b->Ϡ a c d h)
def Ka(bg:Ö "attributes_of" 114 ["grammar"])(F:c9 m)(V:adA)(W:ams):aAA:=bg.aw λbV bX bh=>by calc ó bh ["grammar","told","number","symbol","attribute"] o b6 bj ca cf g;let#[G,bk,H,ck,cl,h,f,bq,#[I,X,Y],Z,br]:=g;subst f;left;calc al0 (agg 1 o^Α (avg (adu F^Θ 0) (sv (g:=2) o.ak r^ib r) 3 o^av7 1 (arc av9 o (avO F 3) 4^.ad λ_ _ _ _ _=>fm^ü 2 4)) 1);ext Φ ag;let bu:amE I h:=bC Y;let cn:=Z.most;let av:=ux Z;let az:=pV h;ext amd f L M;calc#[G,J,bk,ū M G bq V,H,I,r,Ć M H X,?_];calc let N:cW:=(λa z k=>kn λO P j=>oK (z=[È G,È f,O,P,ah]) (k f=à j) (be (fT k) j^fZ (ct h) a)^aL bj k);kS (O:=I) N #[_,_,[],r,as,.nil,M] (λa z k _ #[Ϝ,u]=>Ć u H X) ?_ ?_;{intro a cs aA z k bv g bx;nofun;let#[O,Ä P j,Q,v,u]:=g;ext aAz Y bv A bG aM bH aP bI aU aV h a;let R:=rX aU;let aW:=p1 (ct h) a;let S:=uH (ct h)^show a+1<=(ct h).length by{calc ĺ aU az};rw[p0]at S;let bO:j.length=cm (ct h) a:=by{rw[bC v,m2]};calc amF T [Ê a,ø A] bx aA U f Q B u;let aY:=jv T v;generalize agz k aA [Ê a,ø A]=bP at U B aY;calc#[Ŕ U,A,E,bG,ū B A bH W,aM,aP,r,.inl^Ć B aM bI,alV,hd^alW (ai (ai (acD (ai (ğ aV^au R)^ϡ) aW) S) av),Â p a1];rwa[hf,aV,aAb N w c e p l a bP a1];{ext ϐ w c cB g;let#[e,C,x,s]:=g;left;rwa[sJ,#[r,e0 (apu ag n D)]];let bQ:n≠p:=Ę b C D;let a2:aL c^act c n [Ê a,Ê w]:=a' D;let a4:=a2 p _ C;calc#[e,a4,by{rw[bC x,aI,dU];lia},e++æ n,as,ķ l y b];{rw[hg,cA];let bR:aoH p c n [Ê a,Ê w] [Ê a,Ê w] e:=gG;let bS:=gH a4;calc apb a2 x a6 a7 b bR bS^acS #[n,r,(Ņ bQ) as]};{rwa[Ï b a1,ao^ba (s l y b) D,s l y b]}};{ext aja c g e C x s;let bU:e.length=acH h a:=by{rw[bC x,aI,dU]};let a8:=s f _ U;left;calc#[f,p,j,e,r,r,a8,C,av' (ai (acD (kz (aZ bO)^ğ bU^au R) aW) S) av ag,?_];calc ajf bd f c (j++e) bf a8;calc#[_,_,j++e,r,as,ķ l y b];{rwa[pZ,R,apb s aY a6 a7 b bd bf^ad4 x a6 a7 b bd bf]};{rwa[Ï b L,s l y^B l y b]}}};{ext Č z k g;let#[O,Ä P j,Q,v,u]:=g;rw[bu,<-az]at v;left;calc(br k f #[j,Q,v] u L)}
def rA(a:ap)(c:b.as=a)(d:α)(e:sk b Xe Wu)(f:(ani).length=B:=by rfl)(h:(ani).findIdx? (·.1)=ah:=by rfl):lX b (ale Z)^FO a B Wu:=c▸jI d e f h
def Ni(c:ap)(d:b.as=c)(e:PlainAttrs YG)(f:Slot YG L ZR)(g:typeOf^.builtin ZR=axY)(h:p7 b ZR aaq)(i:adM)(j:gh b alI X0)(k:mg Q L b.ai^ϴ=ϴ:=by rfl)(l:((fp XG^cw alI b.ai).all (λa=> ! a.1)&&(mh XG^mn [] b.ai).all (λa=>a.1.isSome)&&decide ((alI).length+atX+(atY)<30))=af:=by rfl)(m:(Z.endLine==XG.line)=af:=by rfl)(n:cw alI b.ai=(ay,alf)::ajT:=by rfl)(o:(fp XG^ajT).any (·.1)=ay:=by rfl):bj b (agT (ajS L Z) alI XG)^Gz c YG aaq Xg X0:=d▸eB e f g h i j k l m n o
def MM(a:ap)(c:b.as=a)(d:agW):p7 b "list.index"^CC a:=c▸t3 d
abbrev gc(a:bc):å:=[(a.1:Int),(a.2:Int)]
variable{Yh:bc}{Y0:bc}
def M0(a:gc Yh=gc Y0):Yh=Y0:=by unfold gc at a;injection a with k c;injection c with c _;calc hK (aih k)^aih c
def xs(a:fT h W4 Yh):eH h W4^gc Yh:=a
def t5(a:be (fT h) O ZD):apa^ZD.map gc:=oP (λ_ _ b=>xs b) a
def xk(a:Yh∈aK D):((aK D).map gc).findIdx? (λb=>b==gc Yh)=aa^aM D Yh:=by let#[c,b]:=bp.mp^lQ a;rwa[l5,#[by{rwa[aI,c]},by{rwa[lf,b,ύ]},Å d a b]];rw[lf]at b;let b:=M0^ρ b;let:=(lT^bi^show d<(aK D).length by calc acT a c).1;rw[b]at this;calc awa a
inductive Df(f:ac)(i:Á)(c:ag)(j:aA)(u:aY):Prop|mk(g k l m n o p h:ac)(q s:Ã)(a:aE)(b:bs)(_:i=acE g h)(_:ac5 a)(_:cs a b)(_:afp b)(_:aeJ c g k l m n o p q a b s)(_:im c h^aK^ct a)(_:∀d e,d e=aa (.lst^aP^apv a b t)->Ϡ c d e j)
def J'(a:Ö "attribute_numbers" 115 ["production","attributes"])(j:Χ):aAB:=a.aw λa a a=>by calc ó a ["production","attributes","told","place","attribute"] c a H a e k;let#[s,y,u,I,a,p,a,A,a,a,a,b,B,g,J,h,o,#[Q,L,R],S]:=k;subst B;left;calc bl.mk (aq (asq (Zk:=[("place",3),av9]) c (dC^ă 0) (apw 3 c 4) e3^.ad λ_ _ _ _ _=>fm^ak (br (xn d r) (akO 0)^ae 3)^Ø 4)^aC^bt^afs av9 c (dC^ae 2) 4 e3^.ad λ_ _ _ _ _=>Ni d r eD o9 s' (MM d r e.units) (ae 1)^Ø 4) ?_;ext Φ C;let M:=i8 g h;let c:=er a b;nofun;let#[z,c,D]:=o.occ;let T:ape z a b:=by{rw[bC D,g3]};left;calc#[s,f,y,ú o j,p,ahH c,Â l N];calc let E:ez:=(amC n e h l (be (fT e) h^((Ĥ a b).take n).map^d8 a b) H);ast p z E N (λn e _ #[_,_,_,g]=>Ć g p c);{intro n O e v k;nofun;let#[h,w,p,g]:=k;let#[c,Ä x P,U]:=cK D v;let F:=cq x;let G:=ä v;let#[_,V]:=p2 J F;left;calc#[P,_,r,bw.ad^g P _ U,r,_,_,r,Ç,r,e0 ?_];calc#[afy s y g o j,I,_,Ç,aw.ad^g I _ o.bp,b0^gv V,by{ext apx C},Â o y];let U:o≠l:=Ę j w y;let I:aL e^act e o (awb a b c):=a' y;let P:=I l _ w;calc#[h,P,by{rwa[bC p,aI,dD,av5 (Ρ (agv G) T) M C]},h++æ o,as,ķ u s j];{rw[dE,x,cA];let T:aoH l e o (awb a b c) (awb a b c) h:=gG;let V:=gH P;calc apb I p I c j T V^acS #[o,r,(Ņ U) as]};{rwa[Ï j N,ao^ba (g u s j) y,g u s j]}};ext aja e k h w p g;let o:z.length=apn a b:=bC D;rw[o,d0]at p;let D:ape h a b:=by{rw[bC p,aI,g3]};left;calc af8 l w y z;calc let E:ez:=(akN n o y (.lst^aP^((Ĥ a b).take n).map λc=>adB a b c) e);ahM l (O:=h) E z n o e w;{ext agu n O o v k l e;let#[I,n,w]:=cK p v;ext afa n c x;let F:=cq x;let G:=ä v;let n:=Ë g e;calc aeM #[.inl #[r,_,Ć n A L],A,Q,O,gc^d8 a b c,(aK^ct a).map gc,adB a b c,r,r,Ć n A L,xs^É w e,t5^jv n R,xk (p2 J F).1,?_];calc#[_,l,by{rwa[aI,aI,dD,av5 (Ρ (agv G) D) M C]},ķ u s j];{rw[as,dE,x,cA,hr];rfl};{rwa[Ï j z,e u s j]}};ext ac6 o k l e;let c:h.length=apn a b:=by{rwa[g3,D]};rw[c,d0]at l;left;calc S o y l (Ë g e) ?_;ext afn B H y s g z
abbrev tR(a:aE)(c e f:Nat):Prop:=∃b∈ahN a c,∃c d,(c,d)∈ff a b/\adB a b c=e/\adB a b d=f
structure ro(a:aE)(b:bs)(h:Nat)(i:aiy)(g:Ã):Prop where(len:g.length=(ct a).sum)(bits:∀c d,dR g c d↔tR a h c d\/∃e f,(e,f)∈ff a b/\i (Ġ a b e)^Ġ a b f/\adB a b e=c/\adB a b f=d)
variable{abT:Nat->Nat->Prop}
def ro.imp(c:ro H Xw g Z3 D)(f:∀a b,(a,b)∈ff H Xw->(Z3 (aM adz a)^aM adz b↔abT (aM adz a)^aM adz b)):ro H Xw g abT D:=#[c.len,λd d=>by rwa[c.bits,ai2^exists_congr λa=>avt b];constructor;{ext ĳ c d e;calc#[c,(f a b c).mp d,e]};{ext ĳ c d e;calc#[c,(f a b c).mpr d,e]}]
inductive Dh(J f:ac)(k:Á)(a:ag)(l:aA)(s:aY):Prop|mk(e m n g h:ac)(i:Á)(o:þ)(b:aE)(_:k=acE e h)(_:a e=aa^.ae J m (akE n g))(_:a g=à i)(_:awc o a b i)(_:mW b)(_:im a h^aK^ct b)(_:av2 (ct b) (n' b) a l)
def Oi(z:Ö "spread_at_once" 116 ["grammar","attributes"])(cG:c9 m)(cI:adA)(cJ:Χ)(dy:aAB)(dz:aha)(dA:aog):aAC:=z.aw λey eA dB=>by calc ó dB ["grammar","attributes","graph","production","numbers","start","row","target","number","attribute"] A eH V eJ bu h;let#[W,dH,eO,bv,D,cM,eP,a,o,dJ,cS,bx,s,#[bA,bG,cT],dK]:=h;subst o;left;calc bl.mk (aq (are (g:=2) (("attribute",9)) A 1 9^avJ)^aq (amJ (dC^ă 0) 3 A^aq (Ò 4 A^Ü dy bu^ü 3 1)^aC^akQ (adu cG^Θ 3) 5 A 6^aC^akQ (adu cG^Ø 4) 7 A 8^aC^bQ (fc^Ü dz bu^ü 6 7) (aC^sy (Ü dA bu^ak (κ 2^κ 4^ae 5)^Ø 8)^asu 2 (κ 4^ae 5)) b6)^aiS 2) ?_;ext Φ dL;let cU:=ux s.syms;let cZ:bA.length=(ct a).sum:=by{rw[bC cT,g3]};calc af8 D bG o X;calc avK H bH Y o V D bA X I bG;{calc avL bH j Y bI h a2 I dQ (by{rwa[aI,qE,av' (ai dQ^aZ cZ) cU dL]}) v bL E X};ext ac6 Y h a2 I;rw[cZ]at a2;left;calc#[W,J,dH,ū I W dJ cI,ajd bv I cS,?_];calc let H:cW:=(λZ p Q=>qd λbM bO ag av L M B=>g8 (p=[Δ W D o,bM,bO,ag,av,L,M,ah]) (Q o=ĝ B) (B.length=(ct a).sum) ((∀z v,dR B z v↔tR a Z z v))^aL V Q);ahK cM H #[Ϝ,_,r,a2,by{simp},Â z v,I] (λZ p Q _ #[ć,Ϝ,_,F]=>Ć F bv cS) ?_ ?_;{rw[(EF^ct a).bits];constructor;{intro h;nofun;let#[e,n,c,_]:=h;left;ext c};{intro h;nofun;let#[bx,c,_]:=h;simp at c}};{intro Z j p Q bI h;nofun;let#[bM,bO,ag,av,L,Ä M bP,a4,bR,bS,F]:=h;let#[b,C,aA,c0,dS,dT,dW,dX,Ä R a6,bU,bX,_]:=cK bx bI;let c1:=cq C;let bf:=s.a7 b c1;let c2:=s.kids b c1;let eQ:=i8 s.syms c2;let aJ:=uu s.syms bf;left;calc#[aA,c0,dS,dT,dW,dX,R,D,b.name,a6,a,b,r,s.syms,bf,c2,É bU F,#[bA,F D _ bG,jv F cT],ê eR y dY c3 c4];let bY:=Ë F c3;let d1:y≠o:=Ę E a4 c4;let bZ:V R=ĝ a6:=bU.own;let eS:R≠o:=ba bZ X;calc#[afy aA c0 bY bU cJ,R,aP a6,r,Ć bY R bZ,?_];calc let H:cW:=(λw p N=>lZ λag av L M B=>g8 (p=[Δ W D o,È aA,È y,ag,av,L,M,ah]) (N o=ĝ B) (ro a b Z (λl _=>l<w) B) (aL V N) (N y=aa^.lst^aP^apv a b e));kS (O:=aP a6) H #[ć,bP,r,c3 o _ a4,#[bR,Â z v],bY,dY] (λw p N _ #[ć,ć,aU,_]=>Ć aU R bZ) ?_ ?_;{rwa[bS,asz c (λ#[e,n,_,c,_]=>aeu c)]};{intro w j c7 p N c8 h d2;nofun;let#[d6,d7,d9,Ä ea b8,ca,aV,aU,da]:=h;ext aeL c8 S cb de;rw[bX.len]at de;let#[e,bh,bj]:=yp de;calc amF cc [Ê w,ù S] d2 c7 df o ca di aU;let cf:=cc y _ da;generalize amq N c7 w S=eZ at df di cf;let dj:=lQ bh;rw[bj]at dj;let dk:(apv a b e)[w]?=aa^adB a b e:=by{rw[b9,dj];rfl};let eg:=(p2 bf bh).1;let bk:=ht eg;calc#[y,_,r,ę cf,?_];calc let H:cW:=(λx p O=>kn λL M B=>g8 (p=[Δ W D o,È aA,Ń y w,aa^Ê S,L,M,ah]) (O o=ĝ B) (ro a b Z (λl j=>l<w\/(l=w/\j<x)) B) (aL V O) (O y=aa^.lst^aP^apv a b e));kS (O:=aP^apv a b e) H #[_,_,b8,r,df,aV.imp λl j _=>asz c (λc=>zH c.2^fO _),di,cf] (av3 x p O) ?_ ?_;{intro x j dq p O aW h ei;nofun;let#[em,Ä en T,cg,U,ck,cm]:=h;rw[b9,b9]at aW;left;rcases cn:(Ĥ a b)[x]?with _|n;{ext Æ cn aW};{ext Æ cn aW;nofun;let#[cs,cx]:=lT cn;let eo:=(p2 bf cx).1;let ep:=ht eo;calc amF cy [Ê x,ab.int (adB a b n:Nat)] ei dq bm o cg cz ck;let aY:=cy y _ cm;generalize agz O dq [Ê x,ab.int (aM (ct a) (d8 a b n):Nat)]=e1 at bm cz aY;let dr:ι S x=af↔(e,n)∈ff a b:=by{rwa[<-bX.c2 aJ bh cx,bj,<-cs,awd c S cb g k]};let dt:∀l j,(l,j)∈ff a b->Ġ a b l=w->Ġ a b j=x->l=e/\j=n:=λl j P cB cC=>#[iv (aJ l j P).1 bh^by{rw[cB,bj]},iv (aJ l j P).2 cx^by rw[cC,cs]];calc#[S,x,r,Ý];calc Õ E;{let a1:=U.len;let du:T[adB a b e]?=aa (T[adB a b e]'(ĺ bk a1)):=adx bk a1;calc#[y,Ļ aY,b0^gv dk,o,Ļ bm,b0^gv du,T[adB a b e]'(ĺ bk a1),adB a b n,r,amB ep cU,?_];calc#[y,Ļ aY,b0^gv dk,o,_,_,adB a b e,r,r,bm,rx^by{rwa[aI,ĺ bk a1]},?_];rwa[un,#[_,_,ĭ,#[by{rwa[l8,a1]},Â z v],Å v bL dv,(Ņ d1) aY]];{rw[yb du,U.bits];constructor;{rintro((c|⟨l,j,g,k,u⟩)|⟨g,k⟩);{calc Ð c};{calc è #[l,j,g,k.imp id λc=>#[c.1,cX c.2 1],u]};{calc è #[e,n,dr.mp E,.inr #[bj,aF (au cs) 1],g.symm,k.symm]}};{rintro(c|⟨l,j,g,k,u,cF⟩);{calc .inl^Ð c};{rcases k with k|⟨k,eq⟩;{calc aip #[l,j,g,Ð k,u,cF]};{by_cases G:Ġ a b j=x;{nofun;let#[rfl,rfl]:=dt l j g k G;left;calc è #[u.symm,cF.symm]};{calc aip #[l,j,g,.inr #[k,θ eq G],u,cF]}}}}};{rwa[Ï dv X,cz v bL dv]}};{calc#[_,_,T,r,bm,U.imp λl j P=>#[λc=>c.imp id λc=>#[c.1,cX c.2 1],Í c],cz,aY];rcases c with c|⟨g,k⟩;{calc Ð c};{by_cases G:Ġ a b j=x;{nofun;let#[rfl,rfl]:=dt l j P g G;left;calc zH (dr.mpr P) E};{calc è #[g,θ k G]}}}}};{ext Č p O h;let#[em,Ä en T,cg,U,ck,cm]:=h;rw[aI,aI,g3]at U;left;calc#[ć,T,r,cg,U.imp (Å l j P),ck,cm];let:=ht (aJ l j P).2;constructor;{rintro(c|⟨c,_⟩)<;>lia};{intro c;by_cases G:Ġ a b l=w;{calc è #[G,this]};{calc .inl^θ c G}}}};{ext Č p N h;let#[d6,d7,d9,Ä ea b8,ca,aV,aU,da]:=h;rw[aI,bX.len]at aV;left;calc#[Ϝ,b8,r,ca,aV.len,Â z v,aU];rw[aV.bits];unfold tR;rw[dE,C];constructor;{rintro(⟨bq,g,k⟩|⟨e,n,g,_,k⟩);{calc#[bq,hI _ g,k]};{calc#[b,eU _ cj,e,n,g,k]}};{intro h;nofun;let#[bq,g,e,n,k,u]:=h;left;calc ao2 g #[bq,g,e,n,k,u];{nofun;obtain rfl:bq=b:=by{exists g};left;calc è #[e,n,k,ht (aJ e n k).1,u]}}}};{ext Č p Q h;let#[bM,bO,ag,av,L,Ä M bP,a4,bR,bS,F]:=h;let er:agw cM a:=bC bx;left;calc(dK Q o bP a4 #[bR,Â z v] F X);rw[bS,er];unfold tR;rw[d0];constructor;{intro h;nofun;let#[b,C,e,n,g,k,u]:=h;let#[es,ev]:=uu s.syms (s.a7 b C) e n g;left;calc#[d8 a b e,d8 a b n,(ym s.a7).mpr #[b,C,e,n,g,(p2 (s.a7 b C) es).2,r,(p2 (s.a7 b C) ev).2,r],k,u]};{intro h;nofun;let#[l,j,c,k,u]:=h;let#[b,C,e,n,g,cB,cC,ew,ex]:=(ym s.a7).mp c;left;calc#[b,C,e,n,g,?_,?_];{rw[<-k];congr 1;unfold d8;rwa[dN,cB,hK r cC]};{rw[<-u];congr 1;unfold d8;rwa[dN,ew,hK r ex]}}}
def t2(c:agO)(j:c 0^am h s^Ő)(m:∀a b,agQ a->c a b->aw d b f O)(n:∀a g e b,O[a]?=aa g->c a b->b e=ah->XW (À e) (gN Xf D) (act b e [Ê a,g])^qf X4 Xg D Xf s^c (a+1))(o:at5 b c):anP Xf Zl (uR d f) h s:=by ext aAD a b c j l i j m k;{calc è (aAE a j k c g c);let#[Ä e g,m,rfl,p]:=c;calc n a g e b (p O j) i m};{calc ar6 c a l k j (o b i)}
def de.same{a:ac}{b:þ}{c:aE}{d e:ag}(h:aL d e){f:ab}{g:bs}(i:de a b d f c g):de a b e f c g:=by let#[a,b,c,d,e,f,g,j,k,l,m]:=i;calc#[a,b,c,d,e,f,g,j,k,É l h,m]
inductive Dq(J E f:ac)(m:Á)(a:ag)(n:aA)(s:aY):Prop|mk(g o h i j:ac)(k:Á)(l:þ)(b:aE)(c:bc)(_:m=acE g j)(_:a g=aa^.ae J o (akE h i))(_:afv l a h b)(_:a i=à k)(_:awc l a b k)(_:mW b)(_:fT a (À j) c)(_:c∈aK^ct b)(_:∀d e,im d e^kJ b c->Ϡ a d e n)
def Oj(a:Ö "spread_from" 117 ["grammar","attribute"])(p:c9 m)(z:aAA)(A:aAC)(B:alU)(C:aha):aAF:=a.aw λa a a=>by calc ó a ["grammar","attribute","attributes","row","number","other"] b a L a c o;let#[h,s,v,j,a,G,w,a,e,k,x,H,I,M,l,N,u,O]:=o;subst k;calc Ţ g 2 c n 1;calc bl.mk (aq (Ò 2 b^Ü z n^Ø 0)^aq (aiA (g:=3) b^br cl (Ü B g^ak (Ü A g^ü 0 2) an)^avH c (ae 2)^Ø 1)^aC^bt^gM (Zk:=[("number",4),("other",5)]) r b.ak (adu p^Ø 2) (ahJ b) (apw 4 b 5) (awe C n 3 4)^awf 5) ?_;ext Φ Q;let D:=ux l.syms;calc#[h,s,v,j,w,a,r,x,H,l.syms,ê b n p g b];calc#[h,s,v,j,n,G,w,a,r,g h _ x,g j _ I,ï M λb z h=>de.same g h,l,p,λc k c s A w j=>?_];let j:=A.len;calc#[k,c,r,s,ī (ğ j D),ê H z G s k];nofun;let#[k,C,B]:=p;let v:=Ë w s;let x:=Ë g v;let s:=v n _ C;let C:=jv v B;left;calc#[Ŕ s,n,k,_,gc e,(aK^ct a).map gc,aM (ct a) e,r,r,ę s,xs^É N x,t5 C,xk u,?_];let v:=ht u;let w:=lO c;let g:(eg c)[aM (ct a) e]?=aa ((eg c)[aM (ct a) e]'(agy v j w)):=bi^agy v j w;generalize ab:(eg c)[aM (ct a) e]'(ai (ai v (au j)) (au w))=y at g;calc#[z,Ļ G,b0^gv g,?_];let c:=Qc l.syms l.a7;let M:∀b,b∈aK^ct a->(y.testBit^aM (ct a) b=(ri (n' a) e).contains b):=λb z=>by{let:=A.cB c u z;rwa[e4,gB,uF,<-this,awd c y g F W]};calc#[n,k,r,ę s,Â j u];let G:k.length=(aK^ct a).length:=bC B;let N:=g3^ct a;calc asF n (O:=k) (amC k g c j (be (fT g) c^((aK^ct a).take k).filter λb=>(ri (n' a) e).contains b) H) #[akP,a' u] (λk g _ #[_,_,_,a]=>Ć a n s) ?_ ?_;{intro k s H g v o w;nofun;let#[c,A,n,a]:=o;let#[b,I,p]:=cK C v;let#[R,z]:=lT I;let S:=ä v;let B:=ac1 [Ê k,s] w;left;calc#[H,aiY,r,?_];let v:=B j _ A;let w:=Ë a B;let C:=jv B n;generalize agz g H [Ê k,s]=P at v w C;calc#[y,k,r,Ý];rw[dE,I];let B:=M b z;rw[<-R]at B;let z:β c k:=by{rwa[bC n,ds ag1^by rwa[dD,acG]]};calc Õ h;{calc#[c,v,av' (Ρ (ai (ē z 1 S)^aZ G) N) D Q,c++[s],as,ķ H k z];{calc ajf D j P (c++[s]) s v;rwa[iJ,api b,eM,<-B,zG h,gy (ad4 C b e h D s)^acS ((É p w).keep D s)]};{rwa[Ï z u,w H k z]}};{calc#[c,v,?_,w];rw[iJ,api b,eM,<-B,zF h];exists C}};{ext aja g o c A n a;rw[G,d0,<-EO l.syms]at n;left;calc O g j #[c,A,n] (Ë x a) ?_;ext afn a L j k x u}
structure hS(b:aG)(c:ac)(a:bb)(d:aj3)(e:Nat):Prop where(get:ď b c a)(au:a.ExactDict)(a5:a.data=.dict d e)
def hS.at(a:hS t f W5 Xx g)(b:∀W5,ak8->aeT=ŉ):hS W3 f W5 Xx g:=#[b W5 a.get,a.au,a.a5]
def O'(o:afV)(c d:ac)(p:d≠c):Walks Xa i W2 c [c,d] [c] Xx.size (λh b=>∃a,Xx[h]?=aa a/\b=a.key)^λh e=>e.IsKeyIter c d h Xx.size g/\hS e d W5 Xx g where sub:=λj f=>by{simp at f;simp[f]};frame:=λ_ _ _ a k=>#[a.1.at λW5 b=>agP k c W5 b,a.2.at λW5 b=>agP k d W5 b];item:=λh k q s m a c=>by{calc F8 a.1 a.2.get a.2.a5 r (l3 m) (Å l t n);calc c _ l k.toks #[Xx[h],l3 m,r] #[t,a.2.at λW5 b=>n.extBut d W5 p b] λj W5 f b=>n.extBut j W5 (afK e f) b};done:=λk q s a c=>vk o a.1 a.2.get a.2.a5 r (a5 _) λl d=>c l k.toks λj W5 f b=>d j W5 (afK e f) b;self:=λ_ _ _ _ a c=>Be a.1 c
def DA(d:aj2):AK Xa i "dict" f f Xx.size (λb c=>∃a,Xx[b]?=aa a/\c=a.key)^λe=>hS e f W5 Xx g where type:=λ_ a=>#[W5,a.get,a.au.1];there:=λ_ a=>#[co a.get,co a.get];keep:=λ_ _ a c=>a.at λW5 b=>c f ħ W5 b;notList:=by{decide};notTuple:=by{decide};hint:=λ_ _ _ _ a c=>W.kdl_hint_dict #[W5,a.get,a.au.1] c;iter:=λ_ _ e a=>#[_,_,(λ_ _ c=>vg d a.get a.au a.a5 c),O' e _ f^ek^co a.get,#[agV,a.at λW5 b=>cr _ b]]
abbrev tP(a:ag)(b:Ó)(c:afI):Prop:=be (λd e=>a d=aa^.tup^e.1.map dA) b c
def t7(o:ahY)(d:h f=anV):Xs.length<=a9/\aj2/\∃e a g,hS t f e a g/\aAG a c j k b:=by let#[p,s,l,m,e,a,g,u,v,w,n,_]:=(show agJ t f^.aB Xs from o f _ d);calc#[p,s,e,a,g,#[u,v,w],?_,Ô c j k d];{ext aub a l n m};{let#[a,e,g,g,j]:=cK m d;let b:=wm n c;rw[e]at b;calc#[_,a.2.1,b,r,g,j]}
def xp{j:ag}{k:aj3}:∀{f:afI}{i:â}{c:Nat},Ē i f->(∀a b,é i a b->∃d,k[c+a]?=aa d/\b=d.key)->(aAH a e b f d g k c j)->∃h,tP j h f/\i=acv h|[],[],_,_,_,_=>#[[],.nil,r]|[],_::_,_,f,_,_=>by{simp at f}|_::_,[],_,f,_,_=>by{simp at f}|(e,b)::k,l::m,c,f,i,j=>by let#[d,g,n,o,p,_]:=j 0 e b r;let#[d,d,q]:=i 0 l r;ext Æ n d;let#[h,l,n]:=xp (f:=k) (i:=m) (c:=c+1) (by exists f) (λa b d=>by let:=i (a+1) b d;ext asG c a)^λa e b d=>by{let:=j (a+1) e b d;ext asG c a};calc#[g::h,Ů p l,by rw[q,o,n];rfl]
def um:∀a:Ó,bM (π a)^acv a|[]=>.nil|b::a=>Κ^um a
def Kv(i:α):hv b (Þ "list")^λg c h=>∃f d,g=[ø f]/\c f=aa^.aB d/\∀e a,c e=ah->tP c a d->ĕ h e^am c e^ϔ a:=by ext aqp e e e c g h e f d j k;let#[g,h,f,l,f,m,f,n]:=t7 e.aq j;calc IR (DA h) (ŋ e i) m (ğ f g) λh j m o p q h=>?_;let#[a,i,s]:=xp (j:=c) (k:=l) (f:=d) (i:=m.toList) (c:=0) (by rw[iG,h.1,f]) (λc d f=>by rwa[kA,h.2 c d^by rwa[<-l4,f]])^λc h d f=>by{rwa[kA,n c h d f]};let c:(π a).length<=a9:=by{rwa[aI,bC i,g]};calc#[.ref _,_,e.laid (o:=(ϔ a)) (t':=j) p (a5 _) #[c,acv a,o,um a,?_],r,k _ a (Ś e) i];rwa[<-s,vI,q]
def Ku:afS "len"^λf e g=>∃a c,f=[ø a]/\e a=aa^.aB c/\g (alC c) e:=by ext aqp d d h e f g g a c i j;let#[k,l,m,f,f,f,n,h]:=t7 g.aq i;let h:asH d a:=#[m,f.get,f.au.1];rw[b2]at k;calc H1 kind_len plain_len entry_len (args_len1 _) ?_;unfold Builtin.«len»;calc ar (m:=oneArg "len" _)^ŏ;calc ar (m:=callSpecial? (À a)^dm "__len__")^apy "__len__" h Io^ih Io h F.entry_dict_len ?_^F.args_dict_len_1 _;show Ģ (dictSize a>>=_) d;unfold dictSize;calc ar^ar^jW f.get f.a5^ŏ;show Ģ (Vo a>>=_) d;calc ar^wpAny_pendingCount_other l ?_;calc wpAny_ret_mkInt ?_;show aH _ _ _ _ _ {d with toks:=adj d};calc ar^f7^ŏ;calc ar^pk ?_;rw[qI,n];show Ģ (if(aeG c:Int)<0 then _ else _) _;rw[zF^by lia];show Ģ (if(aeG c:Int)>=2^63 then _ else _) _;rwa[ν,ar^wpAny_mkInt^aT #[_,r,alC c,e,(g.a3 _).a3 _,Ŧ,j]]
variable{X' Z6:ac}
def O5(b:j.heap.IsValuesView Z6 Xq)(a:amK)(c:XP adN (ajU (agI "dict_valueiterator" [.ref Xq,at9,.int X8 0]))):ah9 (nR^.ref Z6):=by let#[d,d,e,e]:=id b;calc wA b.typeIs Ir^ih Ir b.typeIs F.entry_dict_values_iter (aAI d e)^F.args_dict_values_iter_1 _;ext aAJ a;simp only[show nz "dict_valueiterator"=ay from by{decide},fy,if_false];calc hk^aT #[_,r,"dict_valueiterator",_,#[_,İ,r],s9.lookup,by simpa[fQ]using c]
def O6(a:j.heap.IsValIter X' Xq W1 Xx.size X8)(b:amK)(e:Xx[W1]?=aa YI)(f:∀c,c.IsValIter X' Xq (W1+1) Xx.size X8->kC X' j.heap c->Zz (aa YI.val) (ad0 c)):asI:=by let#[c,d,g,c]:=id a;let#[h,k]:=ni.mp e;ext aAK a d c b;simp only[awg,if_false,hf,l3 h];calc ar^ar^wE a.typeIs^aT^ar^Bc a.typeIs ?_;calc aqI (pg afz 1^fQ asJ>>=_) d c;let a:(aAL).IsValIter X' Xq (W1+1) Xx.size X8:=ayj d c g;let b:wd {j with heap:=aAL} afz "dict_valueiterator":=a.typeIs;calc ar^f7^ar^Bc b^ar^Bc b ?_;show Ģ (pure Xx[W1].val) _;rwa[k,aT^aT #[_,r,aT^f _ a^jS ..]]
def O3(e:afV)(a:j.heap.IsValIter X' Xq Xx.size Xx.size X8)(b:amK)(f:aAM):asI:=by let#[c,c,d,d]:=id a;ext aAK a c d b;simp only[show¬((Xx.size:Int)<0) from by{calc aqk},if_false,hf,sF^a5 Xx.size];calc ar^ar^wE a.typeIs^ŏ;calc aqI (pg afz 0 .none>>=_) c d;ext aAN e f
def Pa(l:afV)(c Xq:ac)(m:Xq≠c):Walks Xa i W2 c [c,Xq] [c] Xx.size (λW1 Z6=>∃a,Xx[W1]?=aa a/\Z6=a.val)^λW1 d=>d.IsValIter c Xq W1 Xx.size X8/\hS d Xq W5 Xx X8 where sub:=λf e=>by{simp at e;simp[e]};frame:=λ_ _ _ a g=>#[a.1.at λW5 b=>agP g c W5 b,a.2.at λW5 b=>g Xq (by simp) W5 b];item:=λW1 j n Xk h a c=>O6 a.1 a.2 (l3 h) λg o k=>c _ g j.toks #[Xx[W1],l3 h,r] #[o,a.2.at λW5 b=>k.extBut Xq W5 m b] λf W5 e b=>k.extBut f W5 (afK d e) b;done:=λj n Xk a c=>O3 l a.1 a.2 λg h=>c g j.toks λf W5 e b=>h f W5 (afK d e) b;self:=λ_ _ _ _ a c=>wpAny_pyIter_valiter a.1 c
def Ok:AK Xa i "dict_values" Z6 Xq Xx.size (λW1 d=>∃a,Xx[W1]?=aa a/\d=a.val)^λb=>b.IsValuesView Z6 Xq/\hS b Xq W5 Xx X8 where type:=λ_ a=>a.1.typeIs;there:=λ_ a=>#[let#[_,c,_]:=a.1;co c,co a.2.get];keep:=λ_ _ a d=>#[let#[W5,c,k]:=a.1;#[W5,d Z6 ħ W5 c,k],a.2.at λW5 b=>d Xq ϛ W5 b];notList:=by{decide};notTuple:=by{decide};hint:=λ_ _ _ _ a d=>W.kdl_hint_values a.1.typeIs d;iter:=λ_ _ e a=>#[_,_,(λ_ _ d=>O5 a.1 a.2 d),Pa e _ Xq^ek^co a.2.get,#[agV,a.2.at λW5 b=>cr _ b]]
def O7(b:ac)(d:(b==fD)=ay):MeetsIn q i (Builtin.«dict.values» #[æ b,[]])^λ_ c a=>asH a b/\c (.ok^.ret^ϻ a) (asK a "dict_values" b):=aAO c a b d
def DN{j:ag}{i:aj3}:∀{f:afI}{g:â}{c:Nat},Ē g f->(∀a b,é g a b->∃d,i[c+a]?=aa d/\b=d.val)->(aAH a e b f d h i c j)->bM (Ϫ f) g|[],[],_,_,_,_=>.nil|[],_::_,_,f,_,_=>by{simp at f}|_::_,[],_,f,_,_=>by{simp at f}|(e,b)::k,j::l,c,f,g,i=>by let#[d,h,h,_,_,k]:=i 0 e b r;let#[d,d,l]:=g 0 j r;ext Æ h d;calc .cons (by rwa[l,k])^DN (c:=c+1) (by exists f) (λa b d=>by let:=g (a+1) b d;ext asG c a)^λa e b d=>by let:=i (a+1) e b d;ext asG c a
inductive Oz(d:aA)(e:ab)(a:ag):Prop|mk(b c:_)(_:e=À b)(_:a b=aa^.aB c)(_:∀l,a l=ah->d adk^am a l^.lst^Ϫ c)
abbrev Oy(Y2:a4):a4:=λa b c=>Y2 a b^Oz c
def Nl(p:α)(c:e8 b "list")(d:b.aO "list"=ah)(f:bj b Q Y2)(g:mg Q "values" b.ai^ϴ=ϴ:=by rfl)(h:(Yl.endLine==Y9.line)=af:=by rfl)(a:cw [awh] b.ai=[(ay,b1 awh b.ai)]:=by rfl):bj b (agT (.Name "list" XG) [awh] Z)^Oy Y2:=by intro i k j l e e m;calc qM^kq e c d qN^o2 ?_ a r;rwa[a,o5^A8 (T:="dict") (id:="dict.values") g r h AC Iq F.type_dict_values^ĉ f i k j l e m ?_];ext aqE a k l c m q f;let#[n,s,g,t,d,d,o,u]:=t7 l.aq q;ext aAP h a c g d q;show aH _ _ (nM Y9 (acu "dict.values") (æ c) [] []) _ b.aD a;calc method_meetsIn Iq F.entry_dict_values r^I2 #[r,h,F.args_dict_values_1 _,_,O7 c s,h,?_];calc o6 ?_;calc IR Ok (ŋ e p) #[agV,d.at λg Q=>cr _ Q] (ğ o n) λd s h v w x p=>?_;let y:=DN (j:=k) (i:=t) (f:=m) (g:=h.toList) (c:=0) (by rw[iG,p.1,o]) (λd e g=>by rwa[kA,p.2 d e^by rwa[<-l4,g]])^λd o e g=>by{rwa[kA,u d o e g]};let d:av b i j k (asK a "dict_values" c):=ajJ l a (Ϙ q a f);calc#[.ref _,_,d.laid (o:=.lst^Ϫ m) (t':=s) w (a5 _) #[by{rwa[aI,n]},h.toList,v,y,?_],r,f _^Ś d];rwa[vI,x]
def Le(a:ac7):(eI a).map (·.2)=aP^Ϫ a:=by unfold eI;simp[dZ,qy]
inductive C8(A:ac)(f:Á)(c:ag)(g:aA)(n:aY):Prop|mk(d h i j:ac)(k:Ó)(a:ac7)(l:Τ)(_:f=æ d)(_:fS A c d h i j k a l)(_:a.length<=1000)(_:∀e(b:Nat),(b=0\/b∈Ϫ a)->(∀m∈Ϫ a,m<=b)->aL c e->g (Ì b) e)
def Kf:aq' "max":=by ext Û
def MA(b:ő "last_round" "Family.last_round" 11 2)(c:c9 m)(e:m "max"=ah)(a:agA):alZ 1^C8 A:=by calc ó b ["self"] b b h b b k;let#[g,l,M,b,b,b,j,n,j,o,o]:=k;calc Ş n (aC^bt^c4 (Rk r) r e Kf^ak (dT l0 aeN^Nl r r c.list^Ϩ 0) an);let c:=b2;calc agC c c k e 0;calc#[g,A,l,agx (e g _ j.ae) a,M,_,r,e M _ j.a',Â g a];rw[Le];let j:g≠c:=λk=>by{rw[k]at a;rw[as]at a;ext a};calc#[c,g,Ç,(aeH j) as,as,by{rw[aI,aI];show 1+_<=_;lia},Â j k];let l:aL h^am (am (am h c^adC) g^.lst^aP^Ϫ b) j^.lst ([Ŀ 0]++aP^Ϫ b):=aD.af (Ë e^a' a)^a' k;calc#[j,(0::Ϫ b).map (ajh a),r,aw.ad^by{rwa[as,avZ b];rw[dZ];rfl},by{simp},Å b b c];nofun;ext ϓ a e b;left;calc o _ a (bK.mp e) (Â a b) l;let:=c (Ñ a)^bE.mpr #[a,cu _ b,r];calc ajb
def LG(a:ap)(c:b.as=a):d9 b (fC .In)^zk a ay:=c▸zc
def LF(a:Nat)(b:Ã):gl (Ê a)^aP b=decide (a∈b):=by unfold gl;ext az8;{ext ĳ b d b;ext ϓ c e d;let b:Ñ c=a:=by{simpa[g9]using b};rwa[show a=c by{calc au7 b},e]};{intro b;calc#[_,ai1 a b,by simp[g9]]}
def Lf(a:Ã):(aP a).all h5=af:=by rw[iI];intro a a;ext ad' b a;rfl
abbrev c0(a:đ):afI:=a.map λa=>(cI a,ab.ah af)
def pK:(bS (c0 W7)^cI T).isSome=af↔T∈W7:=by induction W7 with|nil=>{simp[c0,bS]}|cons a b d=>show(bS ((cI a,ab.ah af)::c0 b)^cI T).isSome=af↔_;by_cases c:a=T;{rw[hF^by rw[c]];simp[c]};{rwa[hc^λa=>c^rN a,d,bK,#[.inr,λb=>b.elim (λa=>zH a.symm c) id]]}
def M5(a:T∉W7):awi=c0 (W7++[T]):=by ext aAQ a
def M6(b:T∈W7):awi=c0 W7:=by unfold cU;rw[zG];{unfold c0;rwa[dZ,vS λa _=>?_];show(if cI a=cI T then _ else _)=_;by_cases c:cI a=cI T;{rw[zG c]};{rw[zF c]}};{rwa[kv,#[_,bE.mpr #[T,b,r],zJ r]]}
def BG{a:aE}(h:ac5 a){e:bs}(i:cs a e){j:Nat}{k l:bJ}(p:j=2->∀b∈k,b∈cP a)(f:∀b∈l,b∈cP a){b:bf}(q:b∈i5 a j k l e):b∈cP a:=by let#[n,_,o,s,t]:=(m1 h i).mp q;calc(iu h).mpr #[lU i o,s,?_];let u:c1 (az a e)^ep a e^mY j k l n:=mZ h i λm d c=>by{let v:∀d∈([]:bJ),d∈cP a:=anK d c;unfold mY at c;split at c;{calc kR v f m d c};{calc kR f (p r) m d c};{calc kR f f m d c}};let g:=(hs.mp (r8 u t).2).2;let g:b.2.2<(az a e).getD n 0:=g;rw[i6,o]at g;calc g
def Mr(a:tP h W'^c0 W7):be (gX h) aon W7:=by induction W7 generalizing W' with|nil=>{ext a;calc .nil}|cons _ _ b=>ext Ā a a c;{calc .cons #[_,r,a]^b c}
def iS.all{c:ac}{a:aE}{d:ag}{e:Ĕ}{f:Nat}{b:bJ}(g:iS c a d e f b):∀h∈b,h∈cP a:=let#[_,_,k]:=g;k.all
abbrev jt(a:aE)(c:Nat)(f d:bJ)(g:Ã)(h:Nat)(i:đ)(b:bf):Prop:=((∃e∈ahN a h,(∃h∈bq a e,h∈g)/\b∈i5 a c f d e)\/b∈i)/\b∉d/\gf a c b=af
structure js(J E f:ac)(a:ag)(b:aE)(h:ac)(d e:ac)(g:Á):Prop where(ae:∃i,a h=aa^.ae J i (akE d e))(syms:∃c,afv c a d b)(lst:a e=à g)(prods:∃c,awc c a b g)(bg:mW b)
def js.same{d e:ag}{g:aE}{b h c:ac}{i:Á}(j:aji d g b h c i)(a:aL d e):aji e g b h c i:=by let#[#[d,e],#[g,h],i,#[k,l],m]:=j;calc#[#[d,a b _ e],#[g,É h a],a c _ i,#[k,ï l λb b b=>de.same a b],m]
inductive Dc(J E f A:ac)(u:Á)(a:ag)(v:aA)(F:aY):Prop|mk(c:Nat)(k w x l m n y z B:ac)(C:Á)(h:Ĕ)(D:Ó)(o:ac7)(p:Τ)(q:Ã)(d:aE)(s e:bJ)(_:u=[Ì c,Ū k l,À m])(_:1<=c)(_:c<=3)(_:aji a d k w x C)(_:a l=adV h)(_:bS h^Ī c=È n)(_:fS A a n y z B D o p)(_:ka d e p)(_:(∀b,b∈ė o↔b∈e))(_:(∀b∈e,b∈cP d))(_:(c=2->iS A d a h 1 s))(_:a m=ĝ q)(_:∀g i t j,g i=à t->agB g t j->j.Nodup->(∀b,b∈j↔jt d c s e q d.prods.length [] b)->Ϡ a g i v)
def MR(dH:Ö "new_pairs" 17 ["kind","grammar","families","touched"])(cd:c9 m)(aY:adA)(cf:Χ)(cg:agA)(dJ:aAx)(dK:av1):aAR:=dH.aw λeQ N D=>by calc ó D ["kind","grammar","families","touched","found","production","pair","symbol"] R a1 bu e1 bv c;let#[w,S,dL,bw,N,X,Y,ck,bx,dQ,cl,dR,dS,a2,dT,F,j,Z,D,l,dX,dY,d1,cm,cn,bA,d2,cs,ct,cx,d6,d7]:=c;subst l;let bG:=hC bv;calc Ţ d8 3 bv d9 2;calc bl.mk (aq (Ò 4 R vo)^aq (amJ (dC^ă 1) 5 R^aC^bQ (fc^awj cd (afs (("symbol",7)) R (dC^Ϩ 5) 7 e3^.ad λ_ _ _ _ _=>ha (LG d r) (ae 7) (ae 3)^by ext aeY)) (aC^dM el r (dC^Ü dJ d8^ë 0^ü 5 2) (aky 6 R)^aC^bQ (g7.cf^nc (amL (oQ bG (ae 6)^a3 (iD bG (ae 2)^ae 0) r))^nd^fc^Ü dK d9^ë 0^aec 1^Ø 6) (aC^qr bG (ae 4) (ae 6) jH r) b6) b6)^aC^bt^na (Kv r) r cd.list qN^Ø 4) ?_;ext afw ea;let#[#[cy,cz],#[eb,eg],cB,#[e9,cC],a4]:=d1;let bH:=a4.syms;let fa:=a4.most;let eh:agw cl j:=bC cC;left;calc Â l bI;let a1:=a' (o:=adm) bI;calc#[S,J,cy,ū a1 S cz aY,ajd bw a1 cB,?_];calc let ag:cW:=(λx G T=>kn λbM av y=>iB (G=[aa^Ì w,Δ S N X,È l,bM,av,ah]) (T l=aa^aeO y) (y.Nodup) (y.length<=64*x) ((∀b,b∈y↔jt j w Z D F x [] b))^aL bu T);ahK cl ag #[_,_,[],r,as,.nil,by{simp},λb=>by{simp[jt]},a1] (λx G T _ #[ć,ć,I]=>Ć I bw cB) ?_ ?_;{ext Ϧ x bO G T bP c;let#[bM,Ä av y,bR,a6,ei,az,I]:=c;let#[o,bU,em]:=cK cC bP;let cF:=cq bU;let cG:=a4.a7 o cF;let cJ:=a4.kids o cF;let fb:=ä bU;let en:=er j o;let cM:aph j x o:=by{rw[dE,bU]at⊢;rfl};let#[bV,cS,eo,a7,ep,eq,Ä es ev,bh,ew,_]:=de.same I em;left;right;calc#[bV,f,cS,ú bh cf,a7,r,#[_,aw.ad bh.bp],Â cT cU];calc let ag:ez:=(akN p aA cT (.lst^((bq j o).take p).map λs=>aiw (s∈F)) T);arf a7 (O:=aP^bq j o) ag #[as,a' cU] (λp aA _ #[_,L]=>aw.ad^L a7 _ bh.bp) ?_ ?_;{ext agu p bO aA cZ c bj L;ext aeL cZ fh c1 c2;calc aeM #[X,aP F,r,.inl^aw.ad^Ÿ L X I d6,r,Lf _,?_];calc#[_,bj,by{rw[aI,dD]at⊢;calc avT (Ρ (Ĭ acG c2) en) cJ ea},ķ M z e];{rw[as,dE,c1,cA,LF]at⊢;rfl};{rw[Ï e cU]at⊢;calc L M z e}};ext ac6 aA c bj L;rw[aI,d0]at bj;let aK:=Ë I L;let c3:=L l _ bR;left;calc#[cT,(bq j o).map λs=>decide (s∈F),r,aw.ad^by{rw[bj,dZ]at⊢;rfl},Ý];calc Õ e;{let ex:∃s∈bq j o,s∈F:=by{nofun;let#[M,aM,B]:=kv.mp e;ext ϓ s ey aM;left;calc#[s,ey,zI B]};calc#[bV,cS,eo,a7,ep,eq,es,N,o.name,ev,w,dR,j,o,Z,D,r,dX,dY,bH,cG,cJ,É bh L,ew,aK N _ cm,#[À Y,cn,.inr #[Y,ck,bx,dQ,dS,a2,dT,r,É bA aK,d2,ct]],λB=>(cx B).same aK,λfi bX bk O c7 c8 bY fj da fk=>?_];let eA:Ē bk O:=bC c8;calc ahL bX c7;calc let ag:cW:=(λp G C=>lY λav k=>u2 (G=[aa^Ì w,Δ S N X,È l,È bV,av,ah]) (C l=aa^aeO k) (k.Nodup) (k.length<=64*x+p) ((∀b,b∈k↔jt j w Z D F x (Ğ O p) b)) (aL bu C) (C bX=à bk)^agB C bk O);ahK bk ag #[_,y,r,da l _ c3,ac0 a6,az,Ë aK da,c7,c8] (λp G C _ #[ć,ć,u,_]=>ę u) ?_ ?_;{ext Ϧ p bO G C eB c;let#[Ä eF k,P,U,aU,aV,v,V,W]:=c;let#[b,Ä bZ M,aM]:=cK W eB;let c2:=ä bZ;let eG:=(bY b).mp^cq bZ;let eH:=BG bH cG (λB=>(cx B).all) ct eG;let eJ:=((iu bH).mp eH).1;let df:aeP O p=Ğ O p++[b]:=by{rw[dE,bZ]at⊢;rfl};let di:(b∈D\/gf j w b≠af)->∀n,n∈k↔jt j w Z D F x (aeP O p) n:=λu n=>by{rw[aV,df]at⊢;unfold jt;rw[cL,b4]at⊢;constructor;{calc asL c a g (a.imp id .inl)};{ext ags c a g h;left;calc#[?_,g,h];rcases a with a|a|rfl;{calc Ð a};{calc ÿ a};{ext ĸ u;{calc zH u g};{calc zH h u}}}};left;right;calc#[N,À Y,r,by{let:=akL w^v N _ cm;(rw[cn]at this;assumption)},Y,A,ck,agx (v Y _ bA.ae) cg,bx,_,r,dW.cq (YO:=cI b) (v bx _ bA.a') aM,Ý];by_cases bm:b∈D;{rw[show awk a2 b=af from xh.mpr^(cs b).mpr bm]at⊢;calc ϭ e;calc ϭ e;calc#[_,k,r,P,U,cX aU 1,di^Ð bm,v,V,W]};{rw[show awk a2 b=ay from by rcases b0:awk a2 b with _|_;{rfl};{calc zH ((cs b).mp^xh.mp b0) bm}]at⊢;calc aeb e;calc#[S,J,cy,ū v S cz aY,w,dL,M,eb,j,b,r,É eg v,aM,eJ,Ý];calc Õ e;{calc#[l,_,r,ki.cq (YO:=cI b) P aM^by{unfold c0;rw[aI]at⊢;lia},?_];let dj:∀z,á l C^am C l z:=λz=>gG;let dq:ahd M dr C l:=λM dr dt eK=>by{ext ahQ eK P dt};let du:bX≠l:=acA V P e;let dv:∀b8:đ,(∀n,n∈b8↔n∈k\/n=b)->∀n,n∈b8↔jt j w Z D F x (aeP O p) n:=λb8 u n=>by{rw[u,aV,df]at⊢;unfold jt;rw[cL,b4]at⊢;constructor;{rintro(⟨a,g⟩|rfl);{calc#[a.imp id .inl,g]};{calc#[.inr^ϛ,bm,e]}};{ext ags c a g h;left;rcases a with a|a|rfl;{calc .inl #[Ð a,g,h]};{calc .inl #[ÿ a,g,h]};{calc ϛ}}};by_cases br:b∈k;{rw[M6 br]at⊢;calc#[_,k,r,as,U,cX aU 1,dv k^λn=>asz u (λB=>B▸br),Å ca z H,(Ņ du) V,ï W λdy dz H=>H.keep (dj _) dq];rw[Ï H bI]at⊢;calc v ca z H};{rw[M5 br]at⊢;calc#[_,k++[b],r,as,?_,by{rw[cO]at⊢;show _+1<=_;calc aF aU 1},dv _^λn=>by{rw[cL,b4]at⊢},Å ca z H,(Ņ du) V,ï W λdy dz H=>H.keep (dj _) dq];{rw[lh]at⊢;calc az3 U bO bP B br};{rw[Ï H bI]at⊢;calc v ca z H}}};{calc#[_,k,r,P,U,cX aU 1,di^ÿ e,v,V,W]}}};{ext Č G C c;let#[Ä eF k,P,U,aU,aV,v,V,W]:=c;rw[eA,d0]at aV;left;calc#[_,_,k,r,P,ac0 U,λb=>(aV b).trans ?_,v];unfold jt;rw[cM]at⊢;constructor;{calc asL c a g (.inl ?_);rcases a with⟨Q,a,h⟩|a;{calc#[Q,hI _ a,h]};{calc#[o,eU _ cj,ex,(bY b).mp a]}};{intro c;ext Ϗ a g c;left;calc#[?_,g];rcases a with⟨Q,a,h⟩|a;{calc ao2 a #[Q,a,h];{rw[ċ a]at h;calc .inr^(bY b).mpr h.2}};{ext a}}}};{calc#[_,_,y,r,c3,ac0 a6,λb=>(az b).trans ?_,aK];let eO:¬∃s∈bq j o,s∈F:=λ#[s,a,g]=>e^kv.mpr #[_,ai1 s a,zJ g];unfold jt;rw[cM]at⊢;constructor;{calc asL c a g (a.imp (λ#[Q,a,h]=>#[Q,hI _ a,h]) id)};{calc asL c a g (a.imp (λ#[Q,a,h]=>?_) id);ext ag9 a;{calc#[Q,a,h]};{rw[ċ a]at h;calc zH h.1 eO}}}};{ext Č G T c;let#[bM,Ä av y,bR,a6,ei,az,I]:=c;rw[eh]at az;left;calc#[l,c0 y,r,bR,Ô cb dA cc eP];let dB:=a' (o:=(ϔ dA)) cc;calc d7 _ cb (π dA) y as (bL.ay (Mr eP) λdy dz e=>É e dB) a6 az (Ë I dB) ?_;ext afn b0 bu cb z I cc}
def B':∀(c d:Nat)(a:â),ϲ a c->(∀(e:Nat) f,é a e f->∃g,f=hj (Ñ d+(e:Nat)) g)->bM (aP^List.range' d c) a|0,_,[],_,_=>.nil|0,_,_::_,b,_=>by{simp at b}|_+1,_,[],b,_=>by{simp at b}|c+1,d,f::a,b,h=>by rw[List.range'_succ];let#[g,i]:=h 0 f r;calc .cons #[g,by rw[i];simp]^B' c (d+1) a (by exists b) (Å e a b);let#[c,d]:=h (e+1) a b;calc#[c,by rw[d];congr 1;lia]
variable{aaG:ei}{aaH:b7}
inductive Ox(c:aA)(d:Á)(b:ag):Prop|mk(a:Nat)(_:d=[Ê a])(_:a<=1000)(_:∀l,b l=ah->c adk^am b l^.lst^aP^bB a)
abbrev Ow(aaG:ei):a4:=λa b c=>aaG a b^Ox c
def Nk(i:α)(e:e8 b "list")(h:b.aO "list"=ah)(j:e8 b "range")(l:b.aO "range"=ah)(m:gh b [W6] aaG)(n:cw [W6] b.ai=[(ay,alf)]:=by rfl)(d:cw [awl] b.ai=[(ay,b1 awl b.ai)]:=by rfl):bj b (agT (.Name "list" XG) [awl] Z)^Ow aaG:=by intro f o g p a a q;calc qM^kq a e h qN^o2 ?_ d r;rwa[d,o5^qM^kq a j l Aq^o2 (bv (m aaH f o g p _ a q) λa a #[h,u,k,v,c,d,y,e]=>?_) n r];subst d;ext Ā v j l;{ext l;ext Ú l j;calc call_range_1^o6 ?_;let j:HV 0 (Ñ c) 1=c:=by{rw[rangeSize_one];split<;>lia};calc call_list_range (ŋ k i) (Iv ..) (small_one (by lia) (by lia) (by lia)^by lia) j (by lia) λi m i n o p j=>?_;let h:=B' c 0 i.toList (by rw[iG,j.1]) λq s t=>by{let#[w,d]:=j.2 q s^by{rwa[<-l4,t]};calc#[w,by rw[d];congr 1;lia]};let d:av b f g u {a with heap:=a.heap.push (agI "range" [Î 0 a.toks,Ì c l,Î 1 (adj a)]),toks:=adj a+1}:=k.kept (t':=adj a+1) (Ϙ a a e);let a:=b2;calc#[.ref _,_,d.laid (o:=.lst^aP^bB c) (t':=m) o (a5 _) #[by{rwa[aI,dU,aX (W1:=16776216)^ē y 16776216^au a]},i.toList,n,by{rwa[List.range_eq_range',h]},?_],r,e _^Ś d];rwa[vI,p]}
structure gw(c:aE)(d:bJ)(e:Nat)(f:bJ)(i:Nat)(g:List (dz×Nat)):Prop where(ak:aeh g)(iff:∀b a,(b,a)∈g↔a<=i/\b∈cn c d e f a/\∀h,h<a->b∉cn c d e f h)
def yi{c:dz}:∀{Xu:Nat},c∈ai4 Xu->∃a,a<=Xu/\c∈ai4 a/\∀b,b<a->c∉ai4 b|0,d=>#[0,a5 _,d,λb e=>aeu e]|Xu+1,d=>by by_cases k:c∈ai4 Xu;{let#[a,c,f]:=yi k;calc#[a,cX c 1,f]};{calc#[Xu+1,a5 _,d,λb e a=>k ?_];calc awm (show b<=Xu by calc ö e) a}
def gw.mem(e:asM Xu XE)(a:dz):a∈ahP↔a∈ai4 Xu:=by rw[bE];constructor;{rintro⟨⟨f,b⟩,c,rfl⟩;let#[d,g,_]:=(e.iff f b).mp c;calc awm d g};{intro c;let#[b,d]:=yi c;calc#[(a,b),(e.iff a b).mpr d,r]}
def gw.start(c:W7.Nodup)(b:∀a,a∈W7↔a∈iq z XD X2):asM 0^W7.map λa=>(a,0):=by calc#[by{rw[dZ];simpa[qy]using c},Â a c];rw[bE];constructor;{ext ĳ d d e;obtain⟨⟩:=e;calc#[a5 _,(b a).mp d,λd d=>aeu d]};{rintro⟨d,e,_⟩;obtain rfl:c=0:=bX d^bF _;calc#[a,(b a).mpr e,r]}
def gw.next(c:asM Xu XE)(b:W7.Nodup)(e:∀a,a∈W7↔a∈ai4 (Xu+1)/\a∉ai4 Xu):asM (Xu+1) (XE++W7.map λa=>(a,Xu+1)):=by let f:(W7.map λa=>(a,Xu+1)).map (·.1)=W7:=by{rw[dZ];simp[qy]};calc#[?_,Â a g];{rwa[cA,f,lh,#[c.ak,b,ê d h b i b]];subst b;calc((e d).mp i).2^(c.mem d).mp h};{rw[cL,c.iff,bE];constructor;{rintro(⟨d,c⟩|⟨h,h,f⟩);{calc#[cX d 1,c]};{obtain⟨⟩:=f;let#[d,c]:=(e a).mp h;calc#[a5 _,d,λf h b=>c^awm (show f<=Xu by calc ö h) b]}};{ext ĳ d c f;by_cases b:g<=Xu;{calc .inl #[b,c,f]};{obtain rfl:g=Xu+1:=bX d^zu b;calc è #[a,(e a).mpr #[c,f Xu^a5 _],r]}}}
def oD{d:Type}[DecidableEq d]:∀{c a:ì d},c.Nodup->(∀b∈c,b∈a)->ag8 c a|[],_,_,_=>bF _|c::f,a,e,d=>by let#[g,h]:=jN.mp e;let e:=d c cj;let:=oD (c:=f) (a:=a.erase c) h λb f=>(Ha^λh:b=c=>g^by rwa[<-h,f]).mpr^d b^cu _ f;rw[G7 e]at this;let b:0<a.length:=G8 e;rw[ce];lia
def Pq(b:ą):(cP z).length<=192:=by let d:=b.most;let c:∀a,ahz a<=4:=k2 b;unfold cP;simp only[List.length_flatMap,aI,dU,k3 b];let e:∀b∈(bB z.syms.length).map^λa=>((bB (ahz a)).map λ_=>ahz a).sum,b<=16:=by{intro b b;ext ad' a b;let b:=uI (D:=(bB (ahz a)).map λ_=>ahz a) (g:=4) λf f=>by{let#[_,_,rfl]:=bE.mp f;calc c a};rw[aI,dU]at b;let:=c a;lia};let a:=uI e;rw[aI,dU]at a;let a:z.syms.length*16<=12*16:=Nat.mul_le_mul_right _ d;lia
abbrev Bz:cx->Prop|.lst _=>True|.ae _ _ a=>a.lookup ("families":al)=ah|_=>False
abbrev oc(b:ag)(c:ac):Prop:=∃a,b c=aa a/\Bz a
def dj.dY(a:dj f Xr h s Z4):dj f (oc h) h s Z4:=by let#[b,c,d]:=a;calc#[b,c,ï d (Å a a c)];let#[d,e,g,s,i,a,j,b,k,k]:=c;let#[c,c,k]:=id b;calc#[d,e,g,s,i,a,j,b,ϋ a,apz c]
def de.dY(b:avS):de f (oc h) h W4 H Xw:=by let#[c,d,e,g,i,j,k,l,m,a,n,o,o,o,o,o]:=b;let#[b,b,o]:=a.occ;calc#[c,d,e,g,i,j,k,l,m,a,n,#[_,a.ae,r],#[_,a.bp,trivial],#[_,a.b8,trivial],apz b,#[_,a.own,trivial]]
def js.keep{g h i:ac}{S:Ó}{a j:ag}{k:aE}{e l f:ac}{m:Á}(o:js g h i a k e l f m)(c:aJ S a j)(n:ahc d a)(b:∀d∈S,¬oc a d):js g h i j k e l f m:=by let#[#[a,d],#[g,g],h,#[i,i],j]:=o;let#[k,k,l]:=id g;calc#[#[a,c e _ d λa=>b _ a (ϋ d)],#[_,dj.keep c n b (λa=>b _ a (apz k)) g.dY],c f _ h λa=>b _ a (apz h),#[_,ï i λd d a=>de.keep c n b a.dY],j]
def fS.keep{S:Ó}(a:apl Yr)(c:ad2)(d:∀b∈S,¬oc h b)(e:A∉S):fS f V s w A E W' XE Yr:=#[c s _ a.ae λb=>d _ b #[_,a.ae,r],c A _ a.a' e,c E _ a.lst λb=>d _ b #[_,a.lst,trivial],bL.ay a.row λe g b=>c e _ b λc=>d _ c (apz b),a.ak]
def Lh(b:afN)(i:b 0 Xf h)(j:aAS a b)(l:∀a d e c Xf h,Xs[a]?=õ d e->h c=ae7 d->b a Xf h->XW (À c) Xf h^alk b a)(m:aAT b):ajK Xf (yH f W5 Xs) h:=by ext aAU a b i i g c j k;{calc è #[#[c,k],alm b a b (Xs.length-(a+1)) k j b];let#[rfl,d,e,Ä j n,o]:=b;calc l a d e j Xf _ n o g};{let b:a=Xs.length:=bX i^c8 k;calc ajL b #[#[c,a5 _],m Xf h g]}
def M4(b:(c0 W7)[g]?=aa (YO,W4)):∃a,W7[g]?=aa a/\YO=cI a:=by unfold c0 at b;rw[b9]at b;let#[a,c,d]:=acR b;calc#[a,c,(ll d).1.symm]
structure fs(f:ac)(g:ag)(d:aE)(h i j k:ac)(l:Ó)(b:ac7)(c:bJ):Prop where(au:∃e,fS f g h i j k l b e/\ka d c e)(mem:∀a,a∈ė b↔a∈c)(all:∀a∈c,a∈cP d)(ak:aeh b)
def fs.aM(a:fs f h H s w A E W' XE XK)(c:agt):XE.length<=192:=by let:=oD a.ak (a:=cP H) λb d=>a.all b^(a.mem b).mp d;let:=Pq c;rw[aI]at*;lia
def fs.same{b:ac}{c d:ag}{e:aE}{f g h i:ac}{j:Ó}{k:ac7}{l:bJ}(a:fs b c e f g h i j k l)(m:aL c d):fs b d e f g h i j k l:=apA (let#[n,u,v]:=a.au;#[n,É u m,v]) a
def fs.add{F':bJ}(d:fs f h H s w A E W' XE XK)(k:agt)(p:T∈cP H)(q:T∉XK)(l:∀c,c∈F'↔c∈XK\/c=T)(e:Nat):∃b a i,apl b/\b[T.1]?=aa a/\a[T.2.1]?=aa i/\T.2.2<=64/\T∉ahP/\XE.length<=1000/\∀m,fS f m s w A E W' (XE++[(T,e)])^b.set T.1^a.set T.2.1 (i|||(1<<<T.2.2))->fs f m H s w A E W' (XE++[(T,e)]) F':=by let#[b,t,e]:=d.au;let#[g,n,u]:=(iu k).mp p;let v:=k2 k T.1;let j:b[T.1]?=aa (b[T.1]'(by rwa[e.len,g])):=bi^by{rwa[e.len,g]};generalize b[T.1]'(by rwa[e.len,g])=a at j;let g:=e.cl _ a j;let o:a[T.2.1]?=aa (a[T.2.1]'(by rwa[g,n])):=bi^by{rwa[g,n]};generalize a[T.2.1]'(by rwa[g,n])=i at o;let n:T∉ahP:=λg=>q^(d.mem T).mp g;calc#[b,a,i,t,j,o,amB u v,n,by{let:=d.aM k;calc ϙ^cd r},λm a=>#[#[_,a,JG e j o l],Í c,Â c a,?_]];{rw[cA,cL,d.mem,l];simp};{rcases(l c).mp a with g|g;{calc d.all c g};{rwa[g,p]}};{rwa[cA,lh,#[d.ak,by{simp},λa b c a d=>n^by rw[dg,lg,b4]at a;let a:c=T:=a;rwa[<-a,<-d,b]]]}
def Cu(d:agt)(b:∀a∈W7,a∈cP H/\mC H a=af)(c:Nat)(a:bf):a∈(W7.filter λa=>gf H c a)↔a∈iq H W7 c:=by rwa[PU b,dc,and_congr_right λc=>by rw[yq d (b a c).1]]
def Co(c:agt)(k:∀b∈H.prods,cs H b)(l:g=2->∀a∈XK,a∈cP H)(m:∀a∈Zp,a∈cP H)(d:pU H g XK Zp D)(a:bf):jt H g XK Zp D H.prods.length [] a↔a∈fI H g XK Zp/\a∉Zp:=by rw[P6 d];unfold jt;rw[d0];constructor;{rintro⟨a|a,d,e⟩;{let#[b,h,f,i]:=a;let j:=BG c (k b h) l m i;calc#[#[b,h,f,i],d,by{rwa[<-yq c j,e]},j]};{ext a}};{rintro⟨a,d,e,f⟩;calc#[Ð a,d,by rwa[yq c f,e]]}
def fs.congr{A:ac}{F':bJ}(b:fs A h H f s w E W' XE XK)(c:∀a,a∈XK↔a∈F'):fs A h H f s w E W' XE F':=#[let#[k,l,n]:=b.au;#[k,l,É n c],λa=>(b.mem a).trans^c a,λa d=>b.all a^(c a).mpr d,b.ak]
def fS.aT(d:apl Yr):∀a b,h a=Ű b->a∉A::W':=λa b b c=>by ext aAV c d b a
def fS.has(d:apl Yr):∀a,h a=ah->a∉A::W':=λa b c=>by ext aAV c d b a
inductive xX(J E f A:ac)(v:Á)(g:ag)(w:aA)(C:aY):Prop|mk(a:Nat)(o x y j p:ac)(z:Á)(k:Ĕ)(c:đ)(b:aE)(e:bJ)(_:v=[Ì a,Ū o p,À j])(_:1<=a)(_:a<=3)(_:aji g b o x y z)(_:g p=aa^aeO c)(_:c.Nodup)(_:(∀d∈c,d∈cP b/\mC b d=af))(_:g j=adV k)(_:k.length<=10)(_:(a=2->iS A b g k 1 e))(_:∀l m B q s t u h,fs A l b m B q s t u^cn b c a e h->gw b c a e h u->(∀n,n<h->∃d,ase d b c a e n)->(∀d,d∈cn b c a e (h+1)->d∈cn b c a e h)->l j=aa^ahR k a m->á j g l->(∀i,i=m\/i=q\/i=s\/i∈t->g i=ah)->w .ar l)
def Pl(fa:Ö "work_out" 18 ["kind","grammar","assumed","families"])(cc:c9 m)(a2:adA)(g0:agA)(fb:aAW)(dX:aAX)(fh:av1)(d1:aAR):awn:=fa.aw λg1 l fi=>by calc ó fi ["kind","grammar","assumed","families","family","pair","turn","found"] S g5 C g7 cg v;let#[c,aA,bu,d2,l,B,d6,T,j,g,s,w,d7,d8,a4,aV,d9,cS,aK,hb,ea,fj]:=v;calc ajg w fk cg a6 2;left;calc bl.mk (aq (Ò 4 S^j8 fb a6 bd^Θ 1)^aq (qr fk (ae 3) (ae 0) (ae 4) r)^aq (Gh^amJ (Td^ae 2) 5 S^aC^bQ (fc^Ü fh a6^ë 0^aec 1^Ø 5) (aC^bm^aed dX 4 a6^ë 5^ad7 an) b6)^aiJ 6 S^aq (Ò 7 S^Ü d1 cg^ë 0^ë 1^acW 3 (Nk r r cc.list r cc.range^ak (Ũ cc^Θ 1) an))^aC^h7 el (bR l1 (Ũ cc^Ø 7) a7^bH _)^aq (amD 7 5 S^aC^bm^aed dX 4 a6^ü 5 6)^aq (aop (g:=6) S)^aC^Ò 7 S^Ü d1 cg^ë 0^ë 1^acW 3 (afs (("pair",5)) S (dC^ae 7) 5 e3^aAu 5)) ?_;ext afw fl;let#[fm,ft]:=id a4.ae;let#[fu,fv]:=id a4.syms;let bv:=a4.bg;let I:=bv.syms;ext aAY aA fm ft a2 p H cT ck C e n b bu fu g fv I bh D P L cX eb eg bA y U w;let fE:∀y,y=p\/y=D\/y=P\/y∈L->C y=ah:=λy U=>by{ext ĸ U;{rwa[U,cT]};{ext afm w C y n;{let:=eb y U;rw[ck y n w]at this;ext this}}};let cZ:fs A bh g p H D P L [] []:=#[#[_,cX,wX g],λa=>fM,adw a Y,li];let c1:=eg l _ aK;calc#[l,_,r,ki.k (d:=(Ī c)) c1^by{lia},?_];let c2:á l C^am bh l^ahR T c p:=λe n b z=>by{rwa[ajj z,eg e n b]};let eh:(am bh l^ahR T c p) l=aa^ahR T c p:=as;let fF:D≠l:=dk cX.a' c1^by{ext ı b};let bG:fs A (am bh l^ahR T c p) g p H D P L [] []:=by{calc apA (#[_,cX.keep (S:=[l]) (Ô e n b z) (Â e O)^by{exists fF},wX g]) cZ;{rwa[ajj z,b]};{ext asN v n F M O c1}};generalize am bh l (.az (cU T (Ī c) (À p)))=fG at c2 eh bG;let c3:B≠l:=acA aV aK b;let ei:fG B=aa^aeO j:=ϒ c2 B aV c3;calc#[B,aeO j,ei,trivial,Í em];calc#[B,em,r,.inr #[c0 j,as,?_]];let fH:∀e bI,C e=Ű bI->e∉[l,B]:=λe bI b h=>by{ext adQ h k;{ext ā k aK b};{ext ahQ k aV b}};let fI:∀e∈[l,B],¬oc C e:=by{ext Č e O v;let#[n,F,M]:=v;left;ext adQ O k;{ext ā k aK F;calc M};{ext ahQ k aV F;calc M}};let en:D≠B:=λb=>by{let:=bA D cj;ext af4 b aV};let c7:∀y∈D::L,y≠l/\y≠B:=λy U=>#[λb=>(by let:=bA y U;ext af4 b aK),λb=>(by let:=bA y U;ext af4 b aV)];calc Lh (λx Q G=>∃aY,g8 (Q=[aa^Ì c,Δ aA B l,È p,aY,ah,ah]) (G B=aa^.aL em^aeO j) (G l=aa^ahR T c p) (fs A G g p H D P L ((amM j x (λa=>gf g c a)).map λa=>(a,0))^amM j x (λa=>gf g c a))^aJ [l,B] C G) ?_ (λx Q G _ #[_,_,Y,_]=>Y) ?_ ?_;{calc#[ĭ,(aeH c3) eh,?_,Ô e n b z];{ext asO a1 V da bG B e n b z O en;{ext asN v n F M O ei}};{rwa[ao^ado o z,c2 e n b^λo=>z^by rw[ċ o];simp]}};{intro x Z de w Q G cl cm v;nofun;let#[aY,rfl,bM,cs,bO,bP]:=v;let#[a,N,rfl]:=M4 cl;let cm:G w=afx a:=cm;let eo:=cS a^cq N;let fJ:=((iu I).mp eo.1).1;ext asP bj j x a N;let ep:=ä N;let eq:=ð a4 bP fH fI;let#[fS,fT]:=id eq.ae;let#[fU,fV]:=id eq.syms;left;calc#[aA,J,fS,Ď fT a2,c,bu,w,fU,g,a,r,fV,cm,fJ,Ý];let df:a∉Ğ j x:=aAZ b bY R k bZ N d9 ep;calc Õ b;{let er:[a].filter (λa=>gf g c a)=[a]:=by{rw[eM,zG b];rfl};nofun;let#[a1,di,W,V,dj,dq,dr,dt,du,dv]:=bO.add I eo.1 (λh=>df (ϕ h).1) (F':=(aeP j x).filter λa=>gf g c a) (λes=>by rw[bj,iJ,cL,er,b4]) 0;left;calc#[adD p H V,D,P,w,L,_,a1,a,0,di,W,r,V,cm,dj,dq,dr,dt,du,Å fW fX dy];let ev:=dv fW fX;let k:((aeP j x).filter λa=>gf g c a).map (λa=>(a,0))=(amM j x (λa=>gf g c a)).map (λa=>(a,0))++[(a,0)]:=by{rw[bj,iJ,cA,er];rfl};rw[<-k]at ev;calc#[_,r,dy B _ bM^λh=>(c7 _ h).2 r,dy l _ cs^λh=>(c7 _ h).1 r,ev,λe n o z=>dy e n (bP e n o z) (Í h)];rw[bA e h]at o;ext o};{let k:(aeP j x).filter (λa=>gf g c a)=amM j x (λa=>gf g c a):=by{rw[bj,iJ];let:[a].filter (λa=>gf g c a)=[]:=by{rw[eM,zF b];rfl};rw[this,fd]};rwa[k,#[_,r,bM,cs,bO,bP]]}};{ext Č Q G v;let#[aY,rfl,bM,cs,bO,bP]:=v;let fY:(c0 j).length=j.length:=by{unfold c0;rw[aI]};rw[fY,d0]at bO;left;calc#[bM,?_];let ct:á l C^am G B^aeO j:=λe n b z=>by{by_cases k:e=B;{rw[k,aV]at b;rwa[k,as,b]};{rwa[ao k,bP e n b λh=>by ext adQ h o;{calc z^by rw[o];simp};{calc k^ċ o}]}};let dz:=(ao (o:=(aeO j))^ci c3).trans cs;let aM:fs A (am G B^aeO j) g p H D P L ((j.filter λa=>gf g c a).map λa=>(a,0))^cn g j c s 0:=by{let cx:=bO.congr (F':=cn g j c s 0)^Cu I cS c;ext asO a1 V da cx B e n b z O en;{ext asN v n F M O bM}};let ew:gw g j c s 0^(j.filter λa=>gf g c a).map λa=>(a,0):=gw.start (d9.filter _)^Cu I cS c;generalize((j.filter λa=>gf g c a).map λa=>((a,0):bf×Nat))=ex at aM ew;generalize am G B (.aB (c0 j))=hn at ct dz aM;let ey:ahd e bI C l:=λe bI b h=>by{ext ahQ h aK b};let dA:∀e∈[l],¬oc C e:=by{ext Č e O v;let#[n,F,M]:=v;left;ext ahQ O aK F;calc M};let eA:bS (cU T (Ī c)^À p)^Ī c=È p:=by{rw[ne,zG r]};let eB:∀{cy:ag},á l C cy->c=2->iS A g cy (cU T (Ī c)^À p) 1 s:=λ{cy} fZ k=>by{nofun;let#[de,F,M]:=ea k;left;calc akt de;{rwa[ne,zF^λb=>by{ext ϝ b;calc fL (au k)^η^ai (aiX (ai (akC (au^cf b)^au k)^au^cf b) 1 k)^au^cf b},F]};{calc aAp M bZ eF a6 (ð eF fZ dA^by{rwa[b4,dk eF.a' aK^by ext ı b]})}};let eH:c=2->∀a∈s,a∈cP g:=λk=>(ea k).all;let dB:=ð a4 ct ey dA;nofun;let#[gc,gd]:=id dB.ae;let#[ho,b8,ge,gg]:=id dB.syms;let eI:amE b8 g:=bC gg;let gh:=I.most;left;calc#[aA,J,gc,Ď gd a2,bu,_,Ϣ ge,b8.length,r,ī (ğ eI gh),Â gi gj];let bk:=a' (o:=.lst^aP^ae5 b8) gj;nofun;let#[gk,eJ,gl]:=aM.au;left;calc#[c,aA,bu,d2,l,gi,p,H,D,P,d6,_,L,_,gk,ae5 b8,g,s,cn g j c s 0,r,d7,d8,É dB bk,bk l _ dz,eA,É eJ bk,gl,aM.mem,aM.all,λk=>(eB ct k).same bk,as,λcy w X u gm gn cz aU go dH=>?_];let gr:pU g c s (cn g j c s 0)^ae5 b8:=by{rwa[eI,PD I bv.a7]};let gs:∀a,a∈u↔a∈cn g j c s 1/\a∉cn g j c s 0:=λa=>(aU a).trans^Co I bv.a7 eH aM.all gr a;let dJ:=Ë bk go;calc let ca:cW:=(λeK Q G=>Ru λaY h w X u ab=>Q8 (eK+ab.length=200) (Q=[aa^Ì c,Δ aA B l,È p,aY,al9 h,È w]) (G l=aa^ahR T c p) (fs A G g p H D P L ab^cn g j c s h) (gw g j c s h ab) (∀Z,Z<h->∃a,ase a g j c s Z) (G w=à X) (agB G X u) (u.Nodup) ((∀a,a∈u↔ase a g j c s h)) (w∉D::L)^á l C G);#[ca,#[200-ex.length,_,0,w,X,u,ex,by{let:=aM.aM I;lia},r,dJ l _ dz,É aM dJ,ew,λZ dK=>aeu dK,gm,gn,cz,gs,Í h,aft e n b z dJ ct],?_];{calc(É eJ bk).has w dH h};ext ϐ eK Q gt v;let#[hp,h,w,X,u,Ä ab hq,eL,dL,eO,eP,dQ,eQ,cz,aU,dH,eR]:=v;let cB:Ē X u:=bC eQ;left;calc#[w,_,Ϣ dQ,Ç,Ý];calc Õ b;{let gu:0<u.length:=by{let b:=zI b;calc Ρ (gO b) cB};calc#[_,λhs G Y=>Y,?_];calc ahL w dQ;calc let ca:cW:=(λx Q av=>∃aY,iB (Q=[aa^Ì c,Δ aA B l,È p,aY,al9 h,È w]) (av l=aa^ahR T c p) (fs A av g p H D P L (ab++(Ğ u x).map λa=>(a,h+1)) (cn g j c s h++Ğ u x)) (av w=à X) (agB av X u)^á l C av);ahK X ca #[_,r,eL,by{exists dL},dQ,eQ,eR] (λx Q av _ #[ć,Y,_]=>ę Y) ?_ ?_;{ext Ϧ x o Q av dR v;let#[gv,rfl,cC,cF,cG,cI,dS]:=v;let#[a,Ä N e,O]:=cK cI dR;let cl:=ä N;let eS:=(aU a).mp^cq N;ext asP bj u x a N;let df:a∉Ğ u x:=aAZ b bY R k bZ N cz cl;let#[a1,di,W,V,dj,dq,dr,dt,du,dv]:=cF.add I (pW (h+1) eS.1).1 (λo=>(cL.mp o).elim eS.2 df) (F':=cn g j c s h++aeP u x) (λes=>by rw[bj,<-fN,cL (s:=_++_),b4]) (h+1);left;right;calc#[adD p H V,D,P,e,L,_,a1,a,h+1,di,W,r,V,O,dj,dq,dr,dt,du,Å gx gy cJ];let cb:=dv gx gy;rw[show ab++(Ğ u x).map (λa=>(a,h+1))++[(a,h+1)]=ab++(aeP u x).map^λa=>(a,h+1)by rw[bj,cA,fN];rfl]at cb;calc#[_,r,cJ l _ cC^λo=>(c7 _ o).1 r,cb,cJ w _ cG dH,ï cI λde es o=>ð o cJ V.aT,λe n o z=>cJ e n (dS e n o z) (Í h)];rw[bA e h]at o;ext o};{ext Č Q av v;let#[gv,rfl,cC,cF,cG,cI,dS]:=v;rw[cB,d0]at cF;let gz:∀a,a∈cn g j c s h++u↔a∈cn g j c s (h+1):=λa=>by{rw[cL,aU];constructor;{rintro(o|o);{calc(lP g j c s).cX (lj h) o};{calc o.1}};{intro o;by_cases k:a∈cn g j c s h;{calc Ð k};{calc è #[o,k]}}};let cb:=cF.congr gz;let gF:=eO.next cz aU;left;calc#[Ç,?_];calc af8 w cG eT eZ;calc let ca:ez:=(akN bY bq eT (.lst^aP^(Ğ u bY).map λa=>a.1) av);ahM w (O:=X) ca eZ bY bq az cG;{ext agu bY o bq dR v cM az;let#[a,Ä N e,O]:=cK cI dR;let R:=ä N;let e1:=cb.aM I;rw[cO,aI]at e1;calc aeM #[e,_,Ç,bw.ad^az e _ O,ώ r,_,cM,by{rwa[aI,aI,dD,afu (W1:=16777024) (ai (agv R)^ϡ) e1 16777024 fl]},ķ gG n e7];{rw[as,dE,N,cA,hr];rfl};{rwa[Ï e7 eZ,az gG n e7]}};{ext ac6 bq v cM az;rw[cB,d0]at cM;let dT:á l C bq:=aft e n b z az dS;let bt:=É cb az;let#[gH,e8,gI]:=bt.au;left;calc#[c,aA,bu,d2,l,eT,p,H,D,P,d6,_,L,_,gH,u.map^λa=>a.1,g,s,cn g j c s (h+1),r,d7,d8,ð a4 dT ey dA,az l _ cC,eA,e8,gI,bt.mem,bt.all,λk=>eB dT k,cM,λht e9 gJ gK gL gN gV gW dW gY=>?_];let gZ:pU g c s (cn g j c s (h+1))^u.map λa=>a.1:=PC I bv.a7 (λa Y=>pW h Y) aU;calc#[200-(ab++u.map λa=>(a,h+1)).length,by{let:=dL.aM I;rw[cO,aI];lia},_,h+1,e9,gJ,gK,_,by{let:=bt.aM I;lia},r,Ÿ dW l az cC,É bt dW,gF,Â Z dK,gL,gN,gV,λa=>(gW a).trans^Co I bv.a7 eH bt.all gZ a,e8.has e9 gY,aft e n b z dW dT];by_cases k:Z<h;{calc eP Z k};{nofun;obtain rfl:Z=h:=bX (ö dK)^c8 k;obtain⟨a,W,k⟩:∃a W,u=a::W:=by{ext Ā u a W;{simp at gu};{calc#[a,W,r]}};left;calc#[a,(aU a).mp^by rwa[k,cj]]}}}};{let k:u=[]:=by{ext Ā u a W;{rfl};{calc zH (zJ^by rw[cB];show afQ<((Ŏ W:Nat):Int);calc hd^aea 1) b}};calc fj gt p H D P L ab h dL eO eP (Â a N) eL eR fE;by_cases o:a∈cn g j c s h;{calc o};{let:=(aU a).mpr #[N,o];ext ϗ k}}}
def CL(n:AK q i YG f s g aaE YD)(o:afV)(p:YD j.heap)(h:g<=a9)(t:∀(a:aG)(d:Nat)(e:â),(alD k l a)->e.length=g->(∀(b:Nat)(c:aj),é e b c->aaE b c)->aH agY W2.in1 (agU "list.sort" [anM a]) (λ_ m=>XP (anM a) m) Xk {j with heap:=a.push (Μ "list" e),toks:=d}):ajR (agU "sorted" [ñ]) j:=by calc H1 kind_sorted plain_sorted entry_sorted (args_sorted1 _) ?_;unfold Builtin.«sorted»;calc ar (m:=checkCount "sorted" 1 1 _)^ŏ;calc ar^W.kdu_collect (A:=W2.in1) n o p h (ê a d e n k);let l:e.toList.length=g:=by{rwa[iG,k.1]};calc ar^wpAny_newList ?_^by{rwa[l,h]};calc ar^f7^eW (t a d e.toList n l λb c a=>k.2 b c^by rwa[<-l4,a]) (λ_ m b=>?_) (Ķ a);calc aT #[_,r,b]
def O4:∀{a:â}{n:Nat},a.length=Xi.length->(∀(b:Nat) c,é a b c->∃e f,Xi[b]?=aa e/\c=Ì e f)->bM at0 a:=by induction Xi with|nil=>{intro a n d _;rcases a with _|⟨_,_⟩;{calc .nil};{simp at d}}|cons g g h=>intro a n d g;ext alj a c;{simp at d};{let#[e,f,a,e]:=g 0 c r;ext a;calc .cons #[f,e]^h (n:=n) (by exists d) λb a c=>g (b+1) a c}
def KG(m:α):afS "sorted"^λh d j=>∃(f:ac) (e:Ĕ) (c:å),h=[ø f]/\d f=adV e/\ė e=c.map bz/\c.length<64/\∀(a:å)(g:ac),a.Perm c->aqt a->d g=ah->ĕ j g^am d g^ų a:=by intro n p o d h i j j g h;let#[f,Ä e c,l,q,w,x]:=h;let#[h,rfl,h]:=nf g;ext h;let#[g,t,k,s,h]:=j.aq f _ l;let#[f,u]:=h.dictAt;let h:Ē e k:=bC s;let l:Ē e c:=by{let:=zL gP q;(rw[aI,aI]at this;assumption)};calc CL (W.kdl_dict (knd:=anY) (kvs:=k) (ep:=f) t) (ŋ j m) u (Ō h g) (ò f k i y m u);let z:bM (Ż c) i:=O4 (n:=0) (bX (Ρ (ğ m^au h) l)^acD (Ō l^aZ h) m) λl m v=>by{let#[A,t,t,B]:=u l m v;let u:=ä t;ext apm v e l u h;let#[u,h,C,_]:=cK s v;ext Æ t h;let h:(ė e)[l]?=aa A:=by{rwa[b9,v,zL aa C]};rw[q,b9]at h;ext ό e l h;let#[h,rfl]:=zl^show jF (bz e) m=af from B;calc#[e,h,l,r]};let e:=b2;let e:av b n o d (afP p f k):=j.kept (t':=k) y;let l:d f.objs.size=ah:=Ś e;let q:av b n o (anL d f^ų c) {p with heap:=f.push (Μ "list" i),toks:=k}:=e.laid (t':=k) (Ϙ u e e) (a5 _) #[by{rw[aI];lia},i,0,z,İ];let g:=SP (b:=t1 b) n _ o (anL d f^ų c) (anM f) [] (anM f) [] (λm h=>∃a,a.Perm c/\aqt a/\h=anL d f^ų a) (rl.et q) r .nil #[_,c,r,r,as,w,λa c d=>#[a,c,d,gn]];calc eW g (λ_ f #[m,h,F,_,a,c,d,e]=>?_) λ_ _ g=>g.elim;subst e;calc#[.ref _,_,rl.eh j.ok F,r,x a _ c d l]
def Cx{b c:Type}{f:σ b c}{e g:ì b}(h:g.Perm e):∀{a:ì c},be f e a->∃d,d.Perm a/\be f g d:=by induction h with|nil=>{intro a b;calc#[a,.refl _,b]}|cons g _ h=>{intro a b;ext Ā b f c;{let#[d,i,j]:=h c;calc#[_::d,.cons _ i,Ů f j]}}|swap g d e=>{intro a b;ext Ā b f c;{ext alj c d;{calc#[_,.swap _ _ _,Ů d^Ů f c]}}}|trans _ _ c d=>intro a b;let#[a,a,e]:=d b;let#[b,d,f]:=c e;calc#[b,d.trans a,f]
abbrev oj(a:bf):List (Int⊕Ã):=aAo a
universe v2330
set_option tactic.hygienic true in def Mp{a b:bf}(f:aA0 b^oj a=ay)(g:a≠b):i' a b:=by by_cases k:i' a b;{calc k};{exfalso;let h:aA0 b^oj a=af:=by{unfold oj;let c:∀d e:Nat,itemOrd.blt (.inl (Ñ d))^.inl (Ñ e)=decide (Ñ d<e):=λd e=>r;rw[lex_true];unfold i' at k;by_cases l:b.1<a.1;{calc .inl ?_;calc(c _ _).trans^zJ^hd l};{ext aA1 c;by_cases n:b.2.1<a.2.1;{calc .inl ?_;calc(c _ _).trans^zJ^hd n};{ext aA1 c;left;let:¬(a.1=b.1/\a.2.1=b.2.1/\a.2.2=b.2.2):=λ#[d,e,u]=>g^hK d^hK e u;calc(c _ _).trans^zJ^by omega}}};ext Æ h f}
def x6(a:ahY)(c:h f=aa^.tup^iZ T):(∃b,TupOf t aj' ñ b)/\v5 t aj'^ñ=aa^oj T:=by let#[_,j,k,l,b,e,m,g]:=a f _ c;obtain⟨a,c,d,rfl,⟨n,rfl⟩,⟨n,rfl⟩,⟨n,rfl⟩⟩:∃a c d,j=[a,c,d]/\bP (.int (T.1:Nat)) a/\bP (.int (T.2.1:Nat)) c/\bP (.int (T.2.2:Nat)) d:=by{ext Ā k c a;{ext alj a d;{ext alj a j;{ext a;calc#[_,Ŝ c,d,j]}}}};calc#[#[_,f,l,_,m,r,b,e,g,r,λ_=>#[_,_,r],λa=>by ext a],?_];unfold v5;rw[zG^by simp only[G.isTupObj,b,e];rfl];simp only[tupKey,b,g];rfl
def O0(b:ahY)(c:be (λd e=>h d=afx e) W' W7):∃a,TupsOf t aj' (W'.map bD) a:=by induction c with|nil=>{calc#[[],.nil]}|cons c _ d=>let#[#[e,f],_]:=x6 b c;let#[a,b]:=d;calc#[e::a,Ů f b]
def Mq(b:tP h W'^eI XE):be (λc a=>h c=afx a) W'^ahP:=by induction XE generalizing W' with|nil=>{ext b;calc .nil}|cons _ _ c=>ext Ā b b a;{calc Ů b^c a}
def DU:∀a:Ó,aA2 ((acv a).zip^acv a) a|[]=>.nil|_::a=>Κ^DU a
variable{abU:List Keyed}
def Nd(a:aA2 abU W'):abU.map (·.2)=W'.map bD:=by induction a with|nil=>{rfl}|cons a _ b=>rw[dg,dg,a,b]
def KH(j:α):afS "sorted"^λh d i=>∃(f:ac) (c:ac7),h=[ø f]/\d f=aa^.aB^eI c/\aeh c/\∀g a e,d g=ah->e.Perm^ė c->e.Pairwise i'->be (λx p=>d x=afx p) a e->ĕ i g^am d g^ϔ a:=by intro y q z d h g i m g h;let#[Ä f c,f,M,x]:=h;let#[N,rfl,h]:=nf g;ext h;let#[t,h,v,o,g,i,g,s]:=t7 m.aq f;calc CL (DA h) (ŋ m j) i (ğ g t) (ò f l h w k i);let#[a,B,rfl]:=xp (j:=d) (k:=o) (f:=eI c) (i:=h) (c:=0) (bX (ğ k^aZ g)^Ō g^au k) (λj h c=>by rwa[kA,i j h c])^λj c h i=>by{rwa[kA,s j c h i]};let A:=Mq B;let o:av b y z d (afP q f l):=m.kept (t':=l) w;let F:d f.objs.size=ah:=Ś o;let s:(π a).length<=a9:=by{rw[aI];rw[aI]at k;calc ai (ğ k^aZ g) t};let B:av b y z (anL d f^ϔ a) {q with heap:=asQ f a,toks:=l}:=o.laid (t':=l) (Ϙ g v m) (a5 _) #[s,acv a,0,um a,İ];let k:(asQ f a).get? f.objs.size=aa^aoa (acv a).toArray 0:=İ;let t:ajB d^asQ f a:=o.aq.kept (Ϙ g v m);let#[o,C]:=O0 t A;generalize asQ f a=u at B k t C;generalize f.objs.size=n at B k F;let f:∀h,h∈acv a->∃o,v5 u aj' h=aa o:=λh i=>by{ext ϓ g o i;ext acF j v m o;let#[p,_,w]:=cK A^ao5 a j g v m;calc#[_,(x6 t w).2]};calc ih HI (ϋ k) HD (G.list_sort_tups (s:=(afP q u l)) k C f (by rw[aI]at s⊢;calc s) λh f O _=>#[.none,r,?_])^HA _;let#[P,H]:=HJ (vs:=(acv a)) (out:=(l9 h).map (·.2)) k;let i:(l9 h).toList.Perm^(acv a).zip^acv a:=by{rwa[<-pairsOf_toList,Array.perm_iff_toList_perm.mp f]};let k:=DU a;let#[f,C,D]:=Cx i k;let#[e,I,E]:=Cx C A;let Q:((l9 h).map (·.2)).toList=acv f:=by{rwa[Array.toList_map,Nd D]};let R:(π f).length<=a9:=by{rw[aI,C.length_eq];(rw[aI]at s;assumption)};let S:e.Pairwise i':=by{rw[qH];intro j J v A s;let k:Ē f e:=bC E;let L:∀c(i:ś c e),KK (G.tupKindC u aj') (l9 h) c=oj e[c]:=λc i=>by{let#[p,w,T]:=cK E^show f[c]?=aa (f[c]'(ĺ i k)) from adx i k;let U:p=e[c]:=by{rw[bi i]at w;calc ŝ w};let p:(l9 h).toList.length=f.length:=bC D;let#[g,o,w]:=cK D^show(l9 h).toList[c]?=aa ((l9 h).toList[c]'(agy i k p)) from bi^agy i k p;let D:g=f[c]'(ĺ i k):=by{rw[adx i k]at o;calc ŝ o};unfold KK;let V:(l9 h)[c]?=aa (bD g,bD g):=by{rw[<-l4,bi^agy i k p,w]};rw[V];show((v5 u aj'^À g).getD _)=_;rw[D,(x6 t T).2,U];rfl};let c:=O j J (jO s)^by{rwa[pairsOf_size,aI,<-C.length_eq,k,A]};rw[L j v,L J A]at c;let i:e.Nodup:=I.nodup_iff.mpr M;calc Mp c λm=>by let:=(qC i (h₀:=v) (h₁:=A)).mp m;calc awa s};let c:av b y z (am (am d n^ϔ a) n^ϔ f) {q with heap:=sortedHeap u n (acv a)^(l9 h).map (·.2),toks:=l}:=B.bY (e:=n) (t':=l) (by rw[as];trivial) ħ (λg N o a=>by rwa[HK o^co a,a]) #[_,H] #[R,acv f,P,um f,by rwa[<-Q,vI,H]];rw[gn]at c;calc#[À n,_,c,r,x n f e F I S E]
def Ps:g&&&B≠0↔∃a,g.testBit a=af/\B.testBit a=af:=by constructor;{intro c;let#[a,b]:=Nat.exists_testBit_of_ne_zero c;rw[Ht,db]at b;calc#[a,b]};{rintro⟨a,b,c⟩ d;let:(g&&&B).testBit a=af:=by{rw[Ht,b,c];rfl};rw[d,Al]at this;ext this}
def D1(a b:Nat):(1<<<b).testBit a=af↔a=b:=by rw[Aj,Hu];simp[eq_comm]
structure i3(f:Ħ)(b:Ã)(g:bc)(h:Nat)(c:afo):Prop where(ak:aeh c)(iff:∀d a,(d,a)∈c↔a<=h/\∃e∈aK b,aM b e=d/\df f g a e)
structure rS(f:Ħ)(a:Ã)(g:bc)(b:afo):Prop where(ak:aeh b)(iff:∀c d,(c,d)∈b↔∃e∈aK a,aM a e=c/\df f g d e)
abbrev rR(d:Ħ)(a:Ã)(e:bc)(f c:Nat):Prop:=∀b,ι c b=af↔∃c∈aK a,aM a c=b/\df d e f c
variable{Z7:Nat}
def i3.start(c:aoX):i3 R D W0 0 [(aM D W0,0)]/\rR R D W0 0 (0|||(1<<<aM D W0)):=by calc#[#[by{simp},Â a d],Í a];{rw[b4];constructor;{ext ı a;calc#[a5 _,W0,c,r,.start]};{rintro⟨a,e,f,rfl,b⟩;obtain rfl:d=0:=bX a^bF _;rw[b.zero]}};{rw[Nat.zero_or,D1];constructor;{rintro rfl;calc#[W0,c,r,.start]};{rintro⟨e,f,rfl,b⟩;rw[b.zero]}}
abbrev i4(Xz:Ã)(Z7:Nat)(b:Ã)(a:Nat):Ã:=(bB a).filter λa=>aiq (Xz.getD a 0&&&Z7≠0) (a∉b)
def i3.key(d:asR)(b:Nat):b∈apB↔∃a,a<=Xu/\∃c∈aK D,aM D c=b/\Η a c:=by rw[bE];constructor;{rintro⟨⟨e,a⟩,c,rfl⟩;calc#[a,(d.iff e a).mp c]};{ext acU a c;calc#[(b,a),(d.iff b a).mpr c,r]}
def yl(e:aeD)(l:Ζ)(m:asR)(n:rR R D W0 Xu Z7)(f:Nat):f∈asS↔∃a∈aK D,aM D a=f/\Η (Xu+1) a:=by unfold i4;rw[dc,eC,db,decide_eq_true_iff,decide_eq_true_iff,Ps];constructor;{rintro⟨C,⟨s,t,u⟩,v⟩;let#[Ä b w,g]:=(n s).mp u;let x:dR Xz f^aM D b:=k5.mp t;let#[a,Ä o c,h]:=(e.bits _ _).mp x;let d:=l a o c;let y:=iv d.2 w h;subst y;calc#[a,d.1,r,rY.mpr #[#[o,c,g],λi j k=>v ?_]];calc(m.key _).mpr #[i,j,a,d.1,r,k]};{rintro⟨a,p,rfl,k⟩;let#[#[b,c,g],z]:=rY.mp k;let d:=l a b c;calc#[by{rwa[e.len,ht p]},#[aM D b,k5.mpr^(e.bits _ _).mpr #[a,b,c,r,r],(n _).mpr #[b,d.2,r,g]],Í A];let#[i,j,E,B,h,q]:=(m.key _).mp A;rw[iv B p h]at q;calc z i j q}
def i3.next(f:aeD)(g:Ζ)(b:asR)(h:rR R D W0 Xu Z7):i3 R D W0 (Xu+1) (Ye++(asS).map λa=>(a,Xu+1)):=by let d:((asS).map λa=>(a,Xu+1)).map (·.1)=asS:=by{rw[dZ];simp[qy]};calc#[?_,Â a i];{rwa[cA,d,lh,#[b.ak,qG.filter _,ê c c e j e]];subst e;ext aA3 j;calc this.2 c};{rw[cL,b.iff,bE];constructor;{rintro(⟨j,c⟩|⟨k,k,d⟩);{calc#[by{lia},c]};{ext d;calc#[a5 _,(yl f g b h _).mp k]}};{ext acU j c;by_cases e:i<=Xu;{calc .inl #[e,c]};{obtain rfl:i=Xu+1:=by{lia};calc è #[a,(yl f g b h _).mpr c,r]}}}
def i3.done(g:Ζ)(a:asR)(e:rR R D W0 Xu 0):rS R D W0 Ye:=by calc#[a.ak,Â b f];rwa[a.iff,#[λa=>a.2,λ#[a,d,k,c]=>#[?_,a,d,k,c]]];by_cases l:f<=Xu;{calc l};{exfalso;let h:∀b∈aK D,¬Η Xu b:=λb i j=>by{let:=(e^aM D b).mpr #[b,i,r,j];rw[Al]at this;ext this};let i:∀e a,a∈aK D->¬Η (Xu+e) a:=by{intro e;induction e with|zero=>{calcλa d c=>h a d c}|succ e h=>intro a d c;let#[#[b,j,m],_]:=rY.mp^show Η (Xu+e+1) a from c;calc h b (g a b j).2 m};calc i (f-Xu) a d^by rwa[show Xu+(f-Xu)=f by{lia},c]}
def Es(e:aeD)(b:Ζ)(f:rS R D W0 Ye)(h:amg)(i:(g,B)∈Ye)(j:awo g=af)(k:∀c d,(c,d)∈Ye->awo c=af->B<=d/\(d=B->g<=c)):∃a∈aK D,aM D a=g/\asd a B:=by let#[Ä a c,d]:=(f.iff g B).mp i;let i:(Xc,a)∈R:=(e.c2 b h c).mp^k5.mp j;calc#[a,c,r,i,d,Ô a c c i];let d:=(b Xc a c).2;calc k _ _ ((f.iff _ _).mpr #[a,d,r,i])^k5.mpr^(e.c2 b h d).mpr c
def Eg(e:aeD)(a:Ζ)(f:rS R D W0 Ye)(g:amg)(h:∀b c,(b,c)∈Ye->awo b=ay):ahB=ah:=by calc PY (Ô b c c i);let d:=(a Xc b c).2;let:=h _ _^(f.iff _ _).mpr #[b,d,r,i];rw[k5.mpr^(e.c2 a g d).mpr c]at this;ext this
abbrev pG(b:Ã)(a:Nat):adY:=(afr a) λa=>(Ϟ b a).testBit a
inductive CQ(e:Á)(b:ag)(f:aA)(g:aY):Prop|mk(c a:_)(_:e=æ c)(_:b c=ĝ a)(_:a.length<=64)(_:∀d,aL b d->f (.ah^(pG (eg a) a.length).any id) d)
def Ls(e:Ö "has_circle" 104 ["graph"])(f:c9 m)(h:alU)(j:aha):aA4:=e.aw λa a a=>by calc ó a ["graph","number","row"] a b b b g b;let#[e,c,l,n,k,v]:=b;calc š l l 1 g;left;calc adp (aC^bt^awj f (gM (Zk:=[("number",1),("row",2)]) r a.ak (adu f^ak (Ü h g^Ø 0) an) (ahJ a) (apw 1 a 2) e3^.ad λ_ _ _ _ _=>Ü j l^ü 2 1));ext Φ s;calc#[e,c,r,n,k,ê f g j w a];let l:=lO c;calc#[g,_,r,ę j,Â h n];calc let o:ez:=(λa e=>e h=aa^.lst^(pG (eg c) a).map ab.ah/\aL f e);asF g (O:=aP^eg c) o #[as,a' n] (λa e _ #[_,f]=>Ć f g j) ?_ ?_;{intro a g u e o b x;ext Ϗ g f b;ext aeL o j p y;let o:=ac1 [Ê a,ù j] x;left;calc#[u,aiY,r,e0 #[j,a,r,?_]];calc#[_,o h _ g,by{rw[aI]at⊢;unfold pG;rw[aI,dU]at⊢;calc afu (W1:=16777152) (ai y^aZ l) k 16777152 s},ķ k s u];{rw[as]at⊢;unfold pG;rw[hg,cA,cA]at⊢;let:(eg c).getD a 0=j:=by{rw[dN,p]at⊢;rfl};rw[dg,lg,this]at⊢;rfl};{rw[Ï u n]at⊢;calc o k s^f k s u}};{ext ac6 e b g f;rw[aI,l]at g;left;calc#[h,_,r,ę g,v _^Ë w f]}
abbrev eZ(a:afo):Ĕ:=a.map λa=>awp a
def Ol(a:afo):(eZ a).map (·.1)=(a.map λb=>(b.1:Int)).map bz:=by unfold eZ;rw[dZ,dZ];rfl
def DC:∀(d:afo)(b:Nat),bS (eZ d)^Ī b=(d.find? (anQ a b)).map λa=>apj a|[],_=>r|a::d,b=>by show bS (awp a::eZ d)^Ī b=_;rw[jk];by_cases c:a.1=b;{rw[hF^by{rw[c]},zJ c];rfl};{rwa[hc^λa=>c^by{ext ae' a},zK c,DC d b]}
def x0:(awq).isSome=af↔g∈apB:=by rwa[DC,nv,oZ,bE,#[λ#[c,k,l]=>#[c,k,zI l],λ#[c,k,l]=>#[c,k,zJ l]]]
def DB(c:(apB).Nodup)(b:(g,B)∈Ye):awq=adq (B:Nat):=by induction Ye with|nil=>{ext b}|cons a d e=>let#[f,h]:=jN.mp c;show bS (awp a::eZ d)^bz Λ=_;ext adQ b b;{rw[<-b,hF r]};{rwa[hc^λc=>f^by{ext ϝ c;show a.1∈_;rwa[show a.1=g by{calc aih c},bE.mpr #[(g,B),b,r]]},e h b]}
def Om(a:g∉apB):cU (eZ Ye) (bz Λ)^.int (B:Nat)=eZ (Ye++[(g,B)]):=by rw[qs];{unfold eZ;rw[cA];rfl};{rcases b:awq with _|c;{rfl};{calc zH (x0.mp^by rw[b];rfl) a}}
def J0(a b:Nat):s7 (Ñ a) (Ñ b)=((a&&&b:Nat):Int):=by rw[bitAnd_pp (gA _)^gA _];rfl
inductive Dr(i:Á)(b:ag)(j:aA)(k:aY):Prop|mk(g:ac)(h a:Ã)(c:Ħ)(d:bc)(_:i=[À g,aeI a d])(_:b g=ĝ h)(_:cJ a c h)(_:c1 a c)(_:d∈aK a)(_:a.sum<=60)(_:∀e f l,e f=aa^.az^eZ l->rS c a d l->Ϡ b e f j)
def Oo(v:Ö "steps_to" 105 ["graph","target"])(h:c9 m)(e:aog):aA5:=v.aw λa a a=>by calc ó a ["graph","target","steps","count","reached","before","number","row"] a b B b c n;let#[v,u,j,b,o,N,z,O,Q,f,H,aU]:=n;subst N;let g:=hC c;left;calc bl.mk (aq (aiA (g:=2) a^S7 (Tg (ae 1) a7 Th) r r (by simp)^by decide)^aiJ 3 a^aq (aiA (g:=4) a^Ü e c^ad7^Ø 1)^aq (h7 el (bR jd (ae 4) a7^bH _)^aq (aop (g:=3) a)^aq (apd (g:=5) (Zk:=[("number",6),("row",7)]) a (adu h^Ø 0) (ahJ a) (apw 6 a 7) (λ_ _ _ _ _=>sA^g7.cf^nc (bR jd (dT Gb (ae 7)^ae 4) a7^bH _)^nd^amL (oQ g (ae 6)^ae 2))^awf 6)^aq (k9 (g:=4) a.ak r (ib r) a7)^aC^amD 5 6 a^aq (qr g (ae 2) (ae 6) (ae 3) r)^aC^aiA (g:=4) a^Ü e c^ü 4 6)^aiS 2) ?_;ext Φ ag;let a:=ht f;let aV:=O.len;calcλk R=>#[as,[(bz (aM j o:Int),Î 0)],r,by{show 1<=15;decide},?_];rw[gn];let g:aL B^am B k^.az^awr j o:=a' R;let h:(am B k^.az^awr j o) k=aa^.az^eZ [(aM j o,0)]:=as;generalize am B k (.az (awr j o))=a1 at g h;nofun;let#[A,C]:=i3.start (R:=b) f;let av:∀{p c},i3 b j o p c->c.length<=60:=λ{p c} w=>by{let:=oD w.ak (a:=bB j.sum) λf x=>by{nofun;let#[_,_,i,S,rfl,_]:=(w.key f).mp x;left;calc eC.mpr^ht S};rw[aI,dU]at this;calc ϙ H};left;calc#[0,aM j o,r,amB a H,?_];calc let F:cW:=(λl y a=>lZ λs I p e c=>iB (y=[È v,aa^aeI j o,Ń k p,aa^Ê e,s,I,ah]) (a k=aa^.az^eZ c) (i3 b j o p c) (rR b j o p e) (l=2*(61-c.length)+(if e=0 then 0 else 1))^aL B a);#[F,#[_,_,_,0,Ŝ h,A,C,r,g],?_];ext ϐ l y T n;let#[s,I,p,Ä e c,J,Ä w U,V]:=n;let g:=V v _ z;left;ext af' b;{let h:e≠0:=auD l b;rwa[zF h,#[_,λh a W=>W,?_]];calc#[Ç,?_];calc#[v,_,r,ę g,Â z L];let aW:∀A,(i4 u e (ė c) A).length<=A:=λA=>by{unfold i4;calc ds ag1^by rwa[dU,a5 _]};calc let F:ez:=(λa C=>C z=aa^.lst^aP^i4 u e (ė c) a/\aL T C);asF v (O:=aP u) F #[as,a' L] (λa C _ #[_,D]=>Ć D v g) ?_ ?_;{intro a l h C G n M;ext Ϗ E D n;ext aeL G s g X;let Z:=ac1 [Ê a,ù s] M;let M:Ϟ u a=s:=by{rw[dN,g];rfl};let g:i4 u e (ė c) (a+1)=i4 u e (ė c) a++if(aiq (s&&&e≠0) (a∉ė c))=af then[a]else[]:=by{unfold i4;rw[hg,iJ,eM,M];rfl};left;calc#[h,aiY,r,?_];let Y:=Z z _ E;let M:=Ë D Z;generalize amq C h a s=az at Y M;calc#[Ç,r,Ý];let aA:(aiq (s&&&e≠0) (a∉ė c))=ay->(az z=aa^.lst^aP^i4 u e (ė c) (a+1)/\aL T az):=λh=>by{rw[g,h];simpa using#[Y,M]};let aJ:(! decide (ab.int^s7 (Ñ s) (Ñ e)=Ŀ 0))=decide (s&&&e≠0):=by{rw[J0];by_cases h:s&&&e=0;{rw[h];rfl};{rw[zK^λl=>h^by{ext ae' l},zJ h];rfl}};calc Õ b;{let Z:s&&&e≠0:=zI^ah' aJ b;calc#[k,_,r,akL a^M k _ J,Ý];by_cases P:a∈ė c;{rwa[show(bS (eZ c)^Ī a).isSome=af from x0.mpr P,ϭ b];calc aA^by rw[show ak5 (a∉ė c) from zK^λl=>l P,sG]};{rwa[show(bS (eZ c)^Ī a).isSome=ay from by{rcases aY:(bS (eZ c)^Ī a).isSome with _|_;{rfl};{calc zH (x0.mp aY) P}},aeb b];calc#[_,Y,by{rw[aI];let:=aW a;calc avP (Ρ (ai af6 X) aV) H ag},ķ Y ag b];{rw[as,g,zJ Z,zJ P,hr];rfl};{rwa[Ï b L,M Y ag b]}}};{let Z:¬s&&&e≠0:=λh=>b^aJ.trans^zJ h;calc ϭ b;calc aA^by rw[zK Z];rfl}};{ext ac6 C n E D;rw[aI]at E;let Z:=D k _ J;let aA:z≠k:=Ę b J L;let C:=yl O Q w U;let L:=w.next O Q U;let M:=av L;rw[cO,aI]at M;left;generalize aK:i4 u e (ė c) u.length=g at E C L M;let O:∀f∈g,f∉ė c:=λf x=>by{rw[<-aK]at x;ext aA3 x;calc this.2};let aJ:g.Nodup:=by{rwa[<-aK,qG.filter _]};calc ahL z E;calc let F:cW:=(λf y u=>lY λI s=>g8 (y=[È v,aa^aeI j o,È k,al9 p,aa^Ê s,È z,I,ah]) (u k=aa^.az^eZ (c++(Ğ g f).map λf=>(f,p+1))) (u z=ĝ g) ((∀a,ι s a=af↔a∈Ğ g f))^aL B u);h6 (O:=aP g) F #[_,0,r,by{exists Z},E,λa=>by{simp},Ë V D] (λf y u _ #[ć,W,_]=>ę W) ?_ ?_;{ext Ϧ f l y u G n;let#[Ä I s,v,D,o,B]:=n;ext aeL G A z x;ext asP E g f A z;let G:A∉Ğ g f:=λb=>by{nofun;ext aws a X h b F z;let:=(qC aJ (h₀:=by lia) (h₁:=x)).mp^h.trans F.symm;left;lia};let F:=cq z;obtain⟨_,i,S,rfl,_⟩:True/\_:=#[trivial,(C A).mp F];let z:=ht S;let A:(Ğ g f).length<=g.length:=by{rwa[dD,Đ^Ĭ acG x]};left;right;calc#[k,_,r,ki.k (d:=bz (aM j i:Int)) v^by{unfold eZ;rw[aI,cO,aI];lia},?_];rwa[Om^by{rw[cA,dZ,cL];rintro(b|b);{calc O _ F b};{calc G^by simpa[qy]using b}},#[s,aM j i,r,amB z H,?_]];calc#[_,Ý,(Ņ aA) D,Í a,Å Y ag b];{rw[as,E,cA,fN];rfl};{rw[v1,hG,o,D1,E,cL,b4]};{rwa[Ï b R,B Y ag b]}};{ext Č y u n;let#[Ä I s,v,D,o,B]:=n;rw[aI,d0]at v o;left;calc#[_,?_,_,_,p+1,s,_,r,v,L,λa=>(o a).trans^C a,r,B];rw[cO,aI];ext Ā g f f;{let:s=0:=by{calc Nat.eq_of_testBit_eq (Í a);rw[Al];rcases N:ι s a with _|_;{rfl};{calc zH ((o a).mp N)^by simp}};rw[zG this];simp};{let:=av w;rw[ce];rw[ce]at M;split<;>lia}}}};{let a:e=0:=by{by_cases l:e=0;{calc l};{calc awt e h l b}};subst a;calc(aU T k c J (w.done Q U) V R)}
def BF:aq' "min":=by ext Û
abbrev fW:b7:=match f3^aB 106 with|[_,.Return (aa (.Call _ _ [⟨_,.Lambda _ _ _ a,_⟩,_] _)) _]=>a|_=>#[0,0,0,0]
abbrev fX:al:=("nearest":al)++(".<locals>.":al)++("<lambda>":al)
def bY.fb(n:aj5)(o:aif^Ν)(p:anG a b c e)(s:∀(h:aj)(j:cp)(l:Ψ)(k:ax)(b:ag)(a:Á)(c:aA)(e:aY),M.code=h->ays j k h a b c e l):aud:=by calc aue h n o p λj l k b a c e n o=>?_;let#[p,u,v]:=s h j l k b a c e r n o;calc#[p,u.cv,v]
abbrev w2(d:ap)(m:Ą)(t:aG)(I:ac):Prop:=∀a b,aox "nearest" 106 a b->m "nearest"=È a->∃a,b.code=À a/\md t a I
def MO(b:Xi.Perm^D.map (ajh a)):∃c:Ã,Xi=c.map (ajh a)/\c.Perm D:=by calc#[Xi.map Int.toNat,?_,?_];{rwa[dZ,(List.map_id' Xi).symm.trans^vS (Â c c)];let#[a,_,rfl]:=bE.mp^b.mem_iff.mp c;rfl};{let:=b.map Int.toNat;rw[dZ]at this;simpa[qy]using this}
inductive Db(I:ac)(j:Á)(d:ag)(h:aA)(k:aY):Prop|mk(e:Nat)(i:ac)(l:afo)(_:j=[Ì e,À i])(_:d i=aa^.az^eZ l)(_:(l.map (·.1)).Nodup)(_:l.length<64)(_:d I=agD)(_:((∀a b,(a,b)∈l->ι e a=ay)->∀c,aL d c->h .ar c))(_:∀f b,(f,b)∈l->ι e f=af->(∀a g,(a,g)∈l->ι e a=af->b<=g/\(g=b->f<=a))->∀c,aL d c->h (Ê f) c)
def MP(aY:Ö "nearest" 106 ["row","steps"])(a1:c9 m)(a2:m "min"=ah)(a3:w2 d m t I)(a4:kK m t)(a6:aha):aA6:=by nofun;let#[Q,R,D,a7,S]:=aY;left;calc#[Q,R,?_,a7,S,D.bK];let z:dJ ["row","steps","onward","number"] ["row","steps"]^da^aB 106:=auq;nofun;let#[cb,bf,bh]:=a3 Q R D S;left;calc D.fb z (λbj E bk bm j=>by ext an' j) ?_;intro cc cd cf cg E bj bk bm T U k ck;nofun;let#[p,F,g,G,V,W,bo,bq,br,bu]:=k;subst G;rw[bf]at T;calc š T bv 1 U;left;calc bl.mk (aq (asq (Zk:=[("number",3)]) z (dC^c4 (KG r) r a1.sorted boot_sorted^Ø 1) (e2 3 z.ak r r) (awe a6 bv 0 3)^awf 3)^aC^bt^Nm (V7:=1) (I:=I) r U r a2 BF (ae 2) r r r r bh a4 r) ?_;ext Φ cl;calc#[F,eZ g,g.map^λH=>(H.1:Int),r,V,Ol g,by{rwa[aI,bo]},ê bw s bx X bA];let bG:bw.Perm^(ė g).map (ajh c):=by{rwa[dZ,bx]};nofun;let#[e,rfl,Y]:=MO bG;let bH:(e.map (ajh c)).map ab.int=aP e:=by{rw[dZ];rfl};left;rw[bH];ext aAl Z e bA J E s bI ag au;let cm:Ē e g:=by{let:=Y.length_eq;ext al'};calc let bL:ez:=(akN b x ag (.lst^aP^amM e b (λa=>ι p a)) bI);ahM s (O:=aP e) bL au b x u J;{ext agu b cn x av k n u;ext aeL av a y cs;let ct:(amM e b (λa=>ι p a)).length<=b:=ds ag1^by{rwa[dD,acG]};left;calc#[r,p,a,r,Ý];calc Õ l;{calc#[_,n,by{rw[aI];lia},ķ bM bO az];{rw[as,dE,y,iJ,hr,api a,eM,zG l];rfl};{rwa[Ï az au,u bM bO az]}};{calc#[?_,u];rw[dE,y,iJ,api a,eM,zF l];exists n}};{ext ac6 x k n u;rw[aI,d0]at n;let A:=Ë Z u;let bP:aqt e:=by{rw[o0]at X;calc X.imp λj=>ks j};left;generalize aA:e.filter (λa=>ι p a)=os at n;let bQ:os.Pairwise (·<=·):=by{rwa[<-aA,bP.filter _]};let B:∀a,a∈os↔ι p a=af/\∃h,(a,h)∈g:=λa=>by{rw[<-aA,dc,Y.mem_iff,bE];constructor;{intro k;nofun;let#[#[H,bR,rfl],j]:=k;left;calc#[j,H.2,bR]};{ext ags k j h v;left;calc#[#[(a,h),v,r],j]}};let bU:aP os=(os.map (ajh c)).map ab.int:=by{rw[dZ];rfl};rw[bU]at n;calc#[ag,F,eZ g,os.map^ajh c,r,n,r,A F _ V,A I _ bq,Â a y,λaJ aK=>#[Í h,Ô L a aM bV]];{nofun;ext ϓ c w y;let#[_,h,v]:=(B c).mp w;left;calc#[_,DB W v]};{let h:os=[]:=vT.mp h;calc br (Å b o j) aJ^Ë A aK;rcases G:ι p b with _|_;{rfl};{let:=(B b).mpr #[G,o,j];ext ϗ h}};{ext arh aM c w;let#[bX,h,v]:=(B c).mp^cq w;let aU:∀{f b o},os[f]?=aa b->(b,o)∈g->oi (eZ g) (os.map (ajh c)) f=Ñ o:=λ{f b o} C M=>by{unfold oi;rw[dN,b9,C];show(match bS (eZ g)^Ī b with|aa (Ì f)=>f|_=>0)=_;rw[DB W M]};let bY:=aU w v;left;calc bu c h v bX (Ô b o C M) aJ^Ë A aK;let bZ:=(B b).mpr #[M,o,C];nofun;ext acF f N aV bZ;let O:os[f]?=aa b:=by{rw[bi N,aV]};let b0:=aU O C;let:=bV f^by{rwa[aI,N]};rw[bY,b0]at this;left;calc#[ks this.1,Í P];let b6:¬f<L:=λl=>by{let:=this.2 l;calc fL (gO this)^η^Ρ (akC (ai (ai (aF (aZ P) 1)^gO this)^aZ P)^gO this) P};by_cases l:L=f;{ext acK l w O;calc a5 _};{nofun;let#[b8,ca]:=ľ w;let:=(qH.mp bQ) L f b8 N (eT (c8 b6) l);rw[ca,aV]at this;left;calc this}}}
abbrev g2(a:Ã)(b:Ħ)(c d:bc):Ã:=((fr b (aK a) c d).getD []).map^aM a
variable{Z8 aac:bc}{Zb:Nat}
abbrev ou(D:Ã)(XL:Ħ)(Yh:bc)(Zb:Nat)(aac:bc):Ã:=if Zb=0 then[]else(amN Yh Zb aac).map^aM D
def DR(c:akS)(b:ox XL D Yh Z8 Y0 Zb):(amN Yh (Zb+1) Z8).map^aM D=aM D Y0::ou D XL Yh Zb Y0:=by rcases Zb with _|Zb;{let#[d,a]:=PX (YE:=aK D) b;rw[a,d];rfl};{let#[_,_,a]:=PW c b;rw[a,dg];unfold ou;rw[zF^by lia]}
def Pc(b:akS)(a:ox XL D Yh Z8 Y0 Zb):g2 D XL Z8 Yh=aM D Z8::aM D Y0::ou D XL Yh Zb Y0:=by unfold g2 fr;rw[a.dE];show(Z8::amN Yh (Zb+1) Z8).map^aM D=_;rw[dg,DR b a]
def KS(e:akS)(f:rS XL D Yh Ye){Y0:bc}(c:Y0∈aK D)(d:df XL Yh g Y0):g<Ye.length:=by let h:∀a,a<=g->∃b∈aK D,df XL Yh (g-a) b:=by{intro a;induction a with|zero=>{calcλ_=>#[Y0,c,d]}|succ a i=>intro j;let#[b,d,c]:=i^Đ j;let#[#[aac,i,j],_]:=rY.mp^show df XL Yh (g-(a+1)+1) b by{rwa[show g-(a+1)+1=g-a by{lia},c]};calc#[aac,(e b aac i).2,j]};let:=oD (c:=amo) (a:=Ye.map (·.2)) qG λZb a=>by{let a:=eC.mp a;let#[b,d,c]:=h (g-Zb)^acP;rw[show g-(g-Zb)=Zb by lia]at c;calc bE.mpr #[(aM D b,Zb),(f.iff _ _).mpr #[b,d,r,c],r]};rw[dU,aI]at this;calc this
def Pb(a:cY XL Z8 Yh=ah):g2 D XL Z8 Yh=[]:=by unfold g2 fr;rw[a];rfl
inductive ug(I:ac)(j:Á)(b:ag)(k:aA)(l:aY):Prop|mk(h:ac)(i a:Ã)(c:Ħ)(d e:bc)(_:j=[À h,aeI a d,aeI a e])(_:b h=ĝ i)(_:cJ a c i)(_:c1 a c)(_:d∈aK a)(_:e∈aK a)(_:a.sum<=60)(_:b I=agD)(_:∀f g,f g=aa^.lst^aP^g2 a c d e->Ϡ b f g k)
def La(o:Ö "first_way" 107 ["graph","start","target"])(k:aA5)(f:aA6):asT:=o.aw λa a a=>by calc ó a ["graph","start","target","steps","second","found"] b a O a e E;let#[o,x,a,y,j,g,c,F,u,p,G,P,h,Q,R]:=E;calc š c l 2 e;left;calc bl.mk (aq (Ò 3 b^Ü k l^ü 0 2)^aq (Ò 4 b^Ü f e^ak (κ 0^ae 1)^Ø 3)^aiT (asU 4) (aC^bt^dB an)^aq (Ò 5 b^dB^ü 1 4)^Α (h7 el (aiC (κ 5^vq vF a7) (ae 2))^aiU 5 (bg f e bd^ak (κ 0^κ 5^vq vF a7)^Ø 3)) 5) ?_;ext Φ V;let e:=u.len;let S:∀{b},b∈aK a->x[aM a b]?=aa^x.getD (aM a b) 0:=λ{b} v=>by{let:=ht v;rw[dN,bi^ϙ^au e];rfl};calc#[o,x,a,y,g,r,F,u,p,P,h,λe k z H l s e=>?_];let T:z.length<64:=by{let:=oD l.ak (a:=bB a.sum) λU A=>by{nofun;ext ϓ f B A;let#[i,n,e,_]:=(l.iff f.1 f.2).mp B;left;rwa[<-e,eC.mpr^ht n]};rw[aI,dU]at this;calc alW (ϙ h)};let h:=S G;calc#[o,_,Ç,Ć s o F,b0^gv h,x.getD (aM a j) 0,k,z,r,H,l.ak,T,s I _ Q,Å J C n,λU e A L M C n=>?_];{let D:=Eg u p l G J;calc ϟ;calc aeb h;calc ahs c w;calc R _ c (by rw[as,Pb D];rfl) (ac8 s n^a' w) ?_;calc(Ë s n).free w};{nofun;let#[Ä f B,N]:=Es u p l G A L M;let X:=Pc p N;left;calc ϟ;calc ϭ h;calc apu V c w;let G:=ac8 s n^Ϭ [afA a j,afA a f] w;let V:(adX C c [afA a j,afA a f]) k=aa^.az^eZ z:=(ao^ba (n k _ H) w).trans^n k _ H;let H:(adX C c [afA a j,afA a f]) c=ahO ([aM a j]++[aM a f]):=as;let W:O c=ah:=(Ë s n).free w;let n:afA a f=afA a f:=r;generalize am C c (.lst [afA a j,afA a f])=ag at G V H;calc let Y:cW:=(λs C w=>lY λn b=>u2 (C=[È o,aa^aeI a j,aa^aeI a g,È k,aa^aeI a f,È c]) (w c=ahO (n++[aM a b])) (w k=aa^.az^eZ z) (b∈aK a) (df y g s b) (g2 a y j g=n++[aM a b]++ou a y g s b) (n.length+s<=1000)^aL O w);#[Y,#[e,[aM a j],f,r,H,V,B,N.cC,X,?_,G],?_];{let:=KS p l B N.cC;show 1+e<=1000;lia};ext ϐ s C O E;let#[Ä n b,j,G,v,B,H,V,C]:=E;let X:c≠k:=acA j G h;let E:k7 (aP (n++[aM a b])) (-1)=aa^afA a b:=by{rwa[hr,Rd _ _]};left;calc#[_,r,c,Ļ j,E,r,Ý];calc Õ h;{let N:b≠g:=λe=>by{rw[e]at h;calc alp h};nofun;obtain⟨f,rfl⟩:∃f,s=f+1:=by{ext adF s f;{calc zH B.zero N};{calc#[f,r]}};let N:cY y b g=aa (f+1):=by{ext asc B e;{calc e}};left;calc#[_,λy w w=>w,?_];calc#[Ŕ j,_,r,c,Ļ j,E,o,_,Ç,Ć C o F,b0^gv^S v,x.getD (aM a b) 0,k,z,r,G,l.ak,T,C I _ Q,Å J x o,λU y A L M x o=>?_];{let D:=Eg u p l v J;ext Æ N D};{nofun;let#[Ä z D,x]:=Es u p l v A L M;let l:=x.dE;rw[N]at l;let l:f=y:=by{let:=bW l;calc bX (ö^ai5)^ö^afW};subst l;left;calc#[c,Ç,o c _ j,by{rw[aI,cO];show Ŏ n<_;lia},?_];calc#[f,jP f,n++[aM a b],z,r,?_,aeH X^o k _ G,D,x.cC,?_,ķ k l u];{rw[as,hr (n++[aM a b])];rfl};{rw[H];unfold ou;rw[ν,DR p x];unfold ou;simp};{rw[cO];show Ŏ n+f<=1000;calc ai aia V};{rwa[Ï u W,o k l^C k l u]}}};{let e:b=g:=by{by_cases w:b=g;{calc w};{calc zH (by show aow (ab.int (aM a b:Int)=ab.int (aM a g:Int));rw[zK^λe=>w^iv v P^by ext ae' e];rfl) h}};let a:s=0:=by{rw[e]at B;calc B.cz .start};subst a;calc(R O c ?_ C W);rw[j,H];unfold ou;rw[zG r,fd]}}
def Oe(a:ap)(c:b.as=a):sl b^Gm a:=c▸vv
def KI(a:Á):gk a ah^aa (-1)=a.dropLast:=by let b:ajX a^aa (-1)=a.length-1:=by{show(if(-1:Int)<0 then((-1:Int)+(a.length:Int)).toNat else min (-1:Int).toNat a.length)=_;rw[zG^by decide];lia};unfold gk;rw[b,Fa,z5,List.dropLast_eq_take,Hr]
def MC(c:be (λd e=>h d=ĝ e) W' Yr):be (λf g=>∃a b,f=ø a/\h a=à b/\ϲ b g) aon^Yr.map gP:=S4 (λ_ _ a=>#[Ŝ a,by rw[aI]]) c
abbrev hV(a:Ã)(b:Ħ)(c:ŀ):Τ:=(pT b (aK a) c).map λb=>b.map^aM a
abbrev oe(a:Ã)(b:Ħ):Ã:=((iR b^aK a).getD []).map^aM a
def BH(e:akS)(c:ŀ)(a:bc):hV D XL (c++[a])=hV D XL c++(match cY XL a a with|ah=>[]|aa b=>[(g2 D XL a a).dropLast]):=by unfold hV pT;rw[GW,cA,qA,List.filterMap_nil];rcases c:cY XL a a with _|b;{rfl};{show _=_++[(g2 D XL a a).dropLast];congr 1;unfold g2 fr;rw[c];show[(a::(amN a b a).dropLast).map^aM D]=[((a::amN a b a).map^aM D).dropLast];rw[<-G9];let f:=asb c;let g:amN a b a≠[]:=by{obtain⟨d,rfl⟩:∃d,b=d+1:=#[b-1,ng f];intro b;let:=uK e d a c;ext ϗ b};rw[List.dropLast_cons_of_ne_nil g]}
def tV:akT=(ir XL^aK D).map λa=>a.map^aM D:=r
def KB(b:akS)(a:akT=[]):oe D XL=[]:=by rw[tV]at a;unfold oe;rw[rV b,vT.mp a];rfl
def KA(i:akS)(a:(akT)[g]?=aa Xz)(f:rm (λg=>((((akT).map gP).getD g 0:Nat):Int)) (akT).length g):oe D XL=Xz:=by rw[tV,b9]at a;ext ό b e a;let d:∀{a:Nat}{c:ŀ},(ir XL^aK D)[a]?=aa c->((akT).map gP).getD a 0=c.length:=λ{a c} b=>by{rw[dN,b9,tV,b9,b];show(c.map^aM D).length=_;rw[aI]};let h:(akT).length=(ir XL^aK D).length:=by{rw[tV,aI]};unfold oe;rw[rV i,oB.mpr #[g,e,Å a c b,Ô a c c b]];{rfl};{let c:=ä b;let:=(f a^ĺ c h).1;dsimp only at this;rw[d e,d b]at this;calc ajb};{let i:=ä b;let:=(f a^ĺ i h).2 c;dsimp only at this;rw[d e,d b]at this;calc gO this}
inductive CY(I:ac)(h:Á)(b:ag)(i:aA)(j:aY):Prop|mk(e:ac)(f a:Ã)(c:Ħ)(_:h=æ e)(_:b e=ĝ f)(_:cJ a c f)(_:c1 a c)(_:a.sum<=60)(_:b I=agD)(_:∀d g,d g=aa^.lst^aP^oe a c->aL b d->ĕ i g d)
def K9(h:Ö "first_circle" 108 ["graph"])(aJ:c9 m)(bH:m "min"=ah)(bI:alU)(bM:aha)(bO:asT):aA7:=h.aw λct cx bP=>by calc ó bP ["graph","ways","circles","number","row"] u cC cF cH l v;let#[h,F,b,g,O,aU,P,n,Q,bQ,G]:=v;subst O;calc Ţ bR 2 l bS 1;calc bl.mk (aq (Ò 1 u^Ü bI bR^Ø 0)^aq (asq (Zk:=[("number",3),("row",4)]) u (adu aJ^Ø 1) (apw 3 u 4) (awe bM bS 4 3)^.ad λ_ _ _ _ _=>qn (Oe d r) (Ü bO l^ë 0^ë 3^Ø 3) zi^l2^vq vF a7)^aC^bt^Nn r r bH BF r aJ.len^ae 2) ?_;ext Φ bU;let H:=P.len;calc#[h,F,r,aU,ī (ğ H Q),ê bV w aV aY cM];let R:=lO F;calc#[w,_,r,ę aV,Â j a1];calc let bX:ez:=(λx k=>∃e:Ó,g8 (k j=aa^ϔ e) (apk a o k e^hV b g^(aK b).take x) (β e x) ((∀a∈e,a≠j))^aL bV k);asF w (O:=aP^eg F) bX #[akP,bF _,adw a l,a' a1] (λx k _ #[ć,_,y]=>Ć y w aV) ?_ ?_;{intro x cS a2 k a3 v bY;nofun;let#[e,S,p,T,U,y]:=v;ext aeL a3 a z a4;let#[c,A,rfl]:=yp (D:=b) (g:=x)^Ρ (ai a4^aZ R) H;let a6:(aK b).take (aM b c+1)=(aK b).take^aM b c++[c]:=by{rw[dE,lQ A];rfl};let V:=ac1 [aeI b c,ù a] bY;left;calc#[a2,aiY,r,?_];let W:=V j _ S;let B:=Ë y V;let X:=ï p λa o C=>V a _ C;generalize agz k a2 [aeI b c,ù a]=bZ at W B X;calc#[a,aM b c,r,Ý];let bf:a.testBit^aM b c=af↔ex g c c:=by{rwa[<-P.cB n A A,awd b0 a z bh b6]};calc Õ C;{let bj:=Ë aY B;calc#[h,F,b,g,c,c,r,bj h _ aU,P,n,A,A,Q,bj I _ bQ,ê b8 O ca D cU];calc#[_,r,_,r,O,_,r,ę ca,Â J s];rw[KI];let Y:cY g c c≠ah:=λf=>oA.mp f^bf.mp C;nofun;let#[cW,L]:=Option.ne_none_iff_exists'.mp Y;let bk:=D j _ W;let Z:J≠j:=Ę f bk s;let cb:(aP^g2 b g c c).dropLast=aP (g2 b g c c).dropLast:=G9.symm;left;calc#[_,(aeH Z) bk,by{rwa[aI,avP (Ρ (ai (ē T 1 a4)^aZ R) H) Q bU]},e++[J],?_,?_,by{rw[cO];show Ŏ e<=_;calc aF T 1},Â a l,Å bm bq M];{rw[as,cA];rfl};{rw[a6,BH n,L];let cc:asE N ag a o bZ j (λa o=>(am (adX b8 J (aP^g2 b g c c).dropLast) j^.lst (π e++[ø J])) a=ĝ o):=by{intro N ag w;calc apt w av cf L (by rwa[ao^L _ cj,ao^λf=>by{rw[f]at av;rw[D _ _ av]at s;ext s},D _ _ av]) a E};calc gy (cc X U)^acS (by rw[ao Z,as,cb])};{ext aj6 l E;{calc U a E};{rwa[ċ E,Z]}};{rwa[Ï M a1,ao^λf=>by{rw[f]at M;rw[D _ _^B _ _ M]at s;ext s},D bm bq^B bm bq M]}};{calc#[e,W,?_,cX T 1,U,B];let Y:cY g c c=ah:=oA.mpr λf=>C^bf.mpr f;rw[a6,BH n,Y];exists X}};{intro k v;nofun;let#[e,S,p,_,_,y]:=v;let cg:=g3 b;rw[aI,R,H,<-cg,d0]at p;let br:=Ë aY y;let az:e.length=(hV b g^aK b).length:=bC p;let ck:be (λaA G=>∃h bu,aA=ø h/\k h=à bu/\ϲ bu G) (π e)^(hV b g^aK b).map gP:=by{calc MC p};left;calc#[j,π e,(hV b g^aK b).map gP,r,S,ck,λcl bv=>#[Í f,Ô cZ aA bx bA]];{let f:e=[]:=vT.mp f;let cm:hV b g^aK b=[]:=by{rw[f]at az;calc h9 az.symm};calc G _ cl (by rw[as,KB n cm];rfl)^Ë br^a' bv};{ext arh bx a z;let#[aA,cn,cs]:=cK p z;rw[aI,az]at bA;let bG:=apo bv;left;calc G _ a (by rwa[KA n cn bA,bG a _ cs])^Ë br bG}}
def L'(b:j.heap.IsItemsView Z6 Xq)(a:amK)(c:XP adN (ajU (agI "dict_itemiterator" [.none,.bool ay,.ref Xq,at9,.int X8 0,.none,.none]))):ah9 (nR^.ref Z6):=by let#[d,d,e,e]:=id b;calc wA b.typeIs Ik^ih Ik b.typeIs F.entry_dict_items_iter (aAI d e)^F.args_dict_items_iter_1 _;ext aAJ a;simp only[show nz "dict_itemiterator"=af from by{decide},if_true];calc hk (aT #[_,r,"dict_itemiterator",_,#[_,İ,r],s8.lookup,by simpa[fQ,HS]using c])^by simp only[sizeOk,HS,dw,cO,ce,sQ,b2];lia
def Ma(e:aA8)(d:amK)(l:Xx[W1]?=aa YI)(t:∀b,aA9 b j.heap.objs.size->b.get? j.heap.objs.size=aa asV->(∀a W5,a≠X'->an2 a=ŉ->b.get? a=ŉ)->Zz (aa^adN) (ad0 b)):asI:=by let#[c,f,g,h,k]:=j;let#[m,n]:=ni.mp l;let b:wd #[c,f,g,h,k] afz "dict_itemiterator":=ϋ e;ext aA' l b e;show awu _;ext awv l d;simp only[awg,if_false,hf,l3 m,n];calc ar^ar^wC b^aT^ar^Bb b ?_;show Ģ (pg afz 3^fQ asJ>>=_) #[c,f,g,h,k];calc apC e d l m;replace m:kC X' c d:=m;replace l:asW d W8 XM:=by{unfold nC;rw[show((W1+1:Nat):Int)=asJ by lia];simpa[fQ]using l};let q:wd #[d,f,g,h,k] afz "dict_itemiterator":=ϋ l;calc ar^f7^ar^Bb q^ar^Bb q ?_;show Ģ (HU afz 6 YI.key YI.val) #[d,f,g,h,k];unfold HU;calc ar^wpAny_newTuple ?_;let u:X'<c.objs.size:=co e;let s:d.objs.size=c.objs.size:=m.1;obtain⟨e,n⟩:∃e,e=d.push asV:=Ŧ;let p:asW e W8 XM:=by{rwa[n,cr _ l]};let v:e.get? c.objs.size=aa asV:=by{rwa[n,<-s,İ]};let w:∀a W5,a≠X'->c.get? a=ŉ->e.get? a=ŉ:=λa W5 b o=>by{rwa[n,cr _^m.extBut a W5 b o]};show Ģ (HT^afz>>=_) #[d.push asV,f,g,h,k];rw[s,<-n];clear n l m q s;calc ź;unfold HT;calc ar^jX p r (x:=.none) r^ŏ;simp only[if_true];calc ar^jX p r (x:=W8) r^ar^jX p r (x:=XM) r^apC p f d g;replace d:asW f YI.key XM:=d;calc apC d f d h;replace d:asW f YI.key YI.val:=d;calc apC d f d k;replace d:aA9 f c.objs.size:=d;calc apC d c f l;let d:∀a W5,a≠X'->e.get? a=ŉ->c.get? a=ŉ:=λa W5 b o=>v' l a W5 b^v' k a W5 b^v' h a W5 b^v' g a W5 b o;calc ar^pk^aT^aT #[_,r,aT^t c f (d _ _ (qJ u) v) λa W5 b o=>d a W5 b^w a W5 b o]
def L9(d:afV)(c:aA8)(e:Xx.size<=W1)(a:amK)(f:aAM):asI:=by let b:j.TypeIs afz "dict_itemiterator":=ϋ c;ext aA' g b c;show awu j;ext awv g a;simp only[awg,if_false,hf,sF e];calc ar^ar^wC b^ŏ;show Ģ (pg afz 2 .none>>=_) j;calc ar^nU c r (by simp) ?_;ext aAN d f
def Mb(b:ac)(d:(b==fD)=ay):MeetsIn q i (Builtin.«dict.items» #[æ b,[]])^λ_ c a=>asH a b/\c (.ok^.ret^ϻ a) (asK a "dict_items" b):=aAO c a b d
abbrev wY(e:ac)(f:bb)(b:afI):eA:=ayp c a e f b (λc a j k=>∃d g h i,b[c]?=õ g h/\j=À d/\a d=ah/\a i=ae7 g/\k=act a d [À i,h])
def xi(p:ahY)(d:h f=aua):Xs.length<=a9/\aj2/\∃a e,hS t f W5 a e/\aAG a c g j b:=by let#[k,s,u,l,m,n,a,e,n,v,w,o,_]:=p f _ d;ext Æ k n;calc#[s,u,a,e,#[k,v,w],?_,Ô c g j d];{ext aub a l o m};{let#[a,e,g,g,j]:=cK m d;let b:=wm o c;rw[e]at b;calc#[_,a.2.1,b,r,g,j]}
def O1(b:ac)(B:aqJ)(aB:Xx.size=Xs.length):ah4 (ale Z) (wY Xq W5 Xs) [b] b^λc m=>∃j k,nC m b Xq c Xx.size X8 j k where mem:=by{simp};obj:=λc m #[j,k,st] e f=>by{rwa[show e=b by{exists f},#[_,st,λl O=>nomatch O]]};keep:=λc m w #[j,k,st] p=>#[j,k,agP p b _ st];item:=by{rintro s rfl rfl rfl C c D a E x F h t ⟨j,k,u⟩ ⟨y,z⟩;let#[_,_,P,Q,n,G,H]:=xi h.aq y;let#[rfl,rfl]:=qa B n.a5;obtain⟨⟨p,l⟩,I⟩:∃R,Xs[c]?=aa R:=#[Xs[c],bi z];let#[J,v,S,T,U,V]:=H c p l I;let L:aim b a:=co u;calc Ma u n S (Ô w X Y ab);calc#[_,r,wpAny_letOwnedTupleGo_items (s:=(ϳ a w)) X (Å M ae N)];let ag:=(N.2 _^qJ L).trans Y;let ak:eh s.prog s.w (agR x a^.tup [À v,l]) M a.heap.objs.size^.tup [À v,l]:=#[by{show 2<=a9;decide},[J.key,J.val],Ů T^Ů V .nil,#[_,ag,r,_,r]];let an:av s D E (agR x a^.tup [À v,l]) (ϳ a M):=h.eu (g:=a.toks) (W':=[b]) (λe A f o=>(N.2 e^by exists f).trans^ab e A (by exists f) o) t (a5 _) ak;calc#[ϻ a,_,an,r,#[_,p,l,v,I,r,Ś h,U,r],#[_,_,ae],Â e f];rwa[show e=b by{exists f},ao^ek L,(t b^by simp).1]};done:=by{rintro s rfl rfl rfl C c D a E x F h t ⟨j,k,u⟩ ⟨y,z⟩;let#[aq,as,aC,au,aw,az]:=Ϸ t b;let#[_,_,P,Q,n,G,H]:=xi h.aq y;let#[rfl,rfl]:=qa B n.a5;calc L9 (ŋ h C) u (ğ G z) n (afO w aA h a e A f o aq as au aw az)};self:=λaD c a aF F #[_,_,o] m=>W.kcp_self o m
inductive Ly(e:(aen))(f:ab)(b:ag):Prop|mk(a c d:_)(_:f=À a)(_:b a=aa^.aL c^.aB d)(_:e (wY a c d) b)
abbrev Lx(a:a4):hA:=λb c d=>a b c^Ly d
def No(a:adM)(c:mg Q "items" b.ai^ϴ=ϴ:=by rfl)(d:(Z.endLine==XG.line)=af:=by rfl):iy b (ale Yl) (.Call (ajS "items" Z) [] [] XG)^Lx Xg:=by intro i e j f h h k;calc A8 (T:="dict") (id:="dict.items") c r d AC Ij F.type_dict_items^ĉ a i e j f h k ?_;rintro c a ⟨d,l,k,h,d,e,f,m,n,f⟩;ext aeq m c d h;let#[c,m,c,c,c,o,h]:=xi k.aq n;ext aAP h a d e c n;let p:av b i j l (asK a "dict_items" d):=ajJ k a (Ϙ n i f);show aH _ _ (nM XG (acu "dict.items") (æ d) [] []) _ b.aD a;calc method_meetsIn Ij F.entry_dict_items r^I2 #[r,h,F.args_dict_items_1 _,_,Mb d m,h,?_];calc L' agV (c.at λe Q=>cr _ Q)^alK a p (O1 _ c.a5 o) #[.none,.none,İ] f
def Lg(b:afN)(j:b 0 Xf h)(l:aAS a b)(m:∀a e g c d Xf h,Xs[a]?=õ e g->h c=ae7 e->h d=ah->b a Xf h->XW (À d) Xf (am h d^.tup [À c,g])^alk b a)(n:aAT b):ajK Xf (wY f W5 Xs) h:=by ext aAU a b j j i c l k;{calc è #[#[c,k],alm b a b (Xs.length-(a+1)) k l b];let#[d,e,g,Ä l o,Ä p q]:=b;calc m a e g l d Xf h o q p i};{let b:a=Xs.length:=bX j^c8 k;calc ajL b #[#[c,a5 _],n Xf h i]}
def BZ[Ŵ]{e f:Type}(g:XJ×e->f){b:XJ}{i:e}:∀{d:List (XJ×e)}{c:Nat},aeh d->d[c]?=õ b i->(d.map g).eraseIdx c=(d.filter (anR a b)).map g|[],c,_,d=>by{simp at d}|a::f,0,e,d=>by{ext d;let e:=(jN.mp e).1;let k:f.filter (anR a b)=f:=z7.mpr λj l=>zJ λh=>e^by{rwa[<-show j.1=b from h,ai1 j l]};rw[eM,ai0,k];rfl}|a::f,c+1,e,d=>by let#[j,k]:=jN.mp e;let e:f[c]?=õ b i:=d;let c:a.1≠b:=λh=>j^by{show a.1∈_;rwa[h,bE.mpr #[_,cq e,r]]};rw[eM,zG^by{exists c},dg,dg,List.eraseIdx_cons_succ,BZ g k e]
variable{Y6:HeapKind Xa i XJ}
def OM[Ŵ]{Y6:HeapKind Xa i XJ}{W2:cp}{Xk:ű}{j:ax}{b f:ac}{c:List (XJ×ac×aj)}{a:XJ}{g:ac×aj}{k:Option d4->alc}(l:Y6.room W2)(m:Y6.is j.heap a f)(o:j.heap.DictOfH Y6 b c)(d:jU c a=aa g)(p:adb c)(q:∀n:d4,n.val=g.2->aBa e b c h a k (aa n)):ť (HQ b^À f) k Xk j:=by let#[b,k,s,c,t,b,e,n,f]:=o;let u:k.size<=a9:=by{rwa[tq e,p]};unfold HQ;(try with_reducible calc f7 ?_);calc ar^Y6.pyHash l m^ar^wpAny_dictFind_heap (s:=(aww a)) l m c b e n f (Í p) (Å m o l);{rw[atKey_none_of_get p]at d;ext d};{let p:o=g:=by{rw[atKey_of_get f l]at d;calc bW d};subst p;calc ar^jW (s:=(aww a)) c b ?_;let d:k[m]?=aa^AY Y6 (a,o):=by{rw[wm e m,l];rfl};rwa[d,ar^wpAny_updateDictKeys (hz:=u) (s:=(aww a)) c b^aT^q _ r _ #[_,_,s+1,nB _ c^Obj.isFreed_of_dict^Ix b _,t.mapDictKeys _,Ix b _,?_,λh a=>Y6.keeps (n h (ϕ a).1) c b^jS ..,?_]^jS ..];{rw[<-BZ (AY Y6) f l,<-e];let#[a]:=k;simp};{calc List.Nodup.sublist (Vi _ GZ) f}}
def Nr[Ŵ](Y6:HeapKind Xa i XJ)(a e:ac):MeetsIn Xa i (HZ #[acE a e,[]])^λW2 g j=>Y6.room W2.in1/\∃b c f,Y6.is j.heap b e/\j.heap.DictOfH Y6 a c/\jU c b=aa f/\adb c/\aBa d a c h b g (.ok^.ret f.2):=.of_wp^by rintro W2 g j ⟨g,b,c,f,h,b,c,k,l⟩;let#[f,f,m,m,n,n,o,p,p]:=id b;unfold HZ;calc ź;unfold Vn;calc ar^wy b.typeIs ?_;show Ģ (pure (a,bD e,ah)) j;calc ŏ;let a:(keyPart^bD e).isSome=ay:=r;simp only[a,fy,if_false];calc ar^jW m n ?_;calc adi;let a:f.isEmpty=ay:=by{rcases e:f.isEmpty with _|_;{rfl};{let:f.size=0:=by{simpa[Array.isEmpty]using e};rw[tq o]at this;let:=h9 this;rw[this]at c;ext c}};rw[a];ext akI;calc ar^OM g h b c k (ê a b d c e);simp only[Option.isNone_some,fy,if_false];calc ar^pk^aT #[a.val,r,by rwa[b,l d c e]]
def JL.drop(b:anT)(a:aeg):hz h (oL Xs a)^Zy.filter (anR c a):=by induction b with|nil=>{calc .nil}|@cons a a _ _ a _ b=>unfold oL at*;rw[eM,eM,a.1];split;{calc Ů a b};{calc b}
def KL(m:alH)(d:ſ j)(e:h a=anV)(n:h f=aa^anU)(o:bS Xs YO=adG)(p:∀g c,Ă Xf (am h a^.aB^oL Xs YO) c->bP W4 g->XP g c):ans (agU "dict.pop" [ae0,ñ]):=by let#[c,q,k,i,l]:=FH d.aq e;let#[g,g,s]:=ap' (ZJ:=(jU k YO).map (·.2))^by{rwa[<-o,i.val YO]};ext ό o t g;calc call_meetsIn Ip l.typeIs F.entry_dict_pop (F.args_dict_pop_2 _ _) (Nr (q6^anY) a f) #[tr m,YO,k,o,qi d.aq n,l,t,by{rwa[<-bC i,c]},λg l m=>p _ _ ?_ s];let#[g,n,o,k,p,s,t,_,u]:=l;calc aqC d e m #[g,k] #[ds (Rq Xs YO) c,q,_,(JL.drop i YO).keeps (Å d d d),g,n,o,k,p,s,t,u];rwa[ao^dk d e^λc=>nomatch c,d]
inductive Ov(h:a4)(i:aR)(j:aA)(k:ab)(e:ag):Prop|mk(a:_)(_:k=À a)(_:Fe e a)(_:h i e λl b=>∃c d f g,b a=aa^.aB c/\l=À f/\b f=ae7 d/\bS c d=aa g/\j g^am b a^.aB^oL c d)
abbrev Ou(b c:a4):a4:=λa d e=>b a d^Ov c a e
def Nj(f:anW)(e:adM)(g:bj b W6 XY)(a:Q3 b Q "pop" Z W6 XG):bj b (agT (ajS "pop" Z) [W6] XG)^Ou Xg XY:=by intro c h d i j j k;calc A8 a.base a.aM a.line AC Ip F.type_dict_pop^ĉ e c h d i j k ?_;rintro h i ⟨e,j,e,k,l,m,n,o⟩;ext aeq m h l k;let#[h,k,_]:=RX e n;calc#[h,k,?_];rwa[a.dw,H0 r^H2^o5^ĉ g c i d j e o ?_];rintro a c ⟨c,c,c,d,e,e,e,g,h,i,j,k,l⟩;calc o6 ?_;subst i;cases(show a=bD e from d);calc KL f c h j k λa a a c=>#[g,_,a,c,l]
abbrev gb(a:ac7)(b:Nat):ac7:=a.filter λa=>decide (a.2<b)
def Lb(c:(eI XE)[g]?=aa (YO,W4)):∃a b,XE[g]?=õ a b/\YO=cI a/\W4=Ê b:=by unfold eI at c;rw[b9]at c;let#[#[a,b],e,d]:=acR c;calc#[a,b,e,(ll d).1.symm,(ll d).2.symm]
inductive CO(J E f A:ac)(j:Á)(b:ag)(k:aA)(z:aY):Prop|mk(c:Nat)(g l m h n o p:ac)(q:Á)(s:Ó)(a:ac7)(t:Τ)(d:aE)(_:j=[Ì c,Ū g h])(_:aji b d g l m q)(_:fS A b h n o p s a t)(_:aeh a)(_:(∀u∈ė a,u∈cP d))(_:∀e i v w x y,fs A e d i v w x y (gb a c)^apD a c->aL b e->ĕ k i e)
def K1(a:Ö "family_before" 110 ["turn","grammar","family"])(c:adA)(n:agA)(g:aAW)(l:aAX):aBb:=a.aw λa a a=>by calc ó a ["turn","grammar","family","before","pair","found"] a b z b e p;let#[k,M,u,b,G,L,h,b,b,b,j,C,w,o,b,D,aA,X,aD]:=p;subst o;left;calc adp (aq (Ò 3 a^j8 g e bd^Θ 1)^Α (Gh^akQ (No^ă 2) 4 a 5^aC^bQ (bR m' (ae 5) (ae 0)^bH _) (aC^bm^aed l 3 e^ü 4 5) b6) 3);ext afw a;let#[a,e]:=id b.ae;let#[l,v]:=id b.syms;let Z:=b.bg.syms;ext aAY M a e c s x e g z b c a u l w v Z u y I F v B N O e l o;let B:fs A u w s x y I F [] []:=#[#[_,v,wX w],λg=>fM,adw g v,li];let H:=É D N;let ag:y≠h:=λa=>by{let:=O y cj;rw[a,D.a']at this;ext this};let aK:∀e∈y::F,e≠h:=λe l a=>by{let:=O e l;rw[a,D.a']at this;ext this};calc#[h,.aB^eI j,H.a',trivial,Í R];let e:G≠h:=dk D.ae D.a'^by{ext ı a};calc#[G,A,L,agx ((Ņ e) H.ae) n,h,R,eI j,r,as,?_];let av:∀{l g e},j[l]?=õ g e->gb (aeP j l) k=gb (Ğ j l) k++if e<k then[(g,e)]else[]:=λ{l g e} v=>by{unfold gb;rw[dE,v,iJ,show(õ g e).toList=[(g,e)] from r,eM];by_cases n:e<k;{rw[zG^zJ n,zG n];rfl};{rw[aix n,zF n];rfl}};calc Lg (λl L u=>lY λP Q=>oK (L=[aa^Ì k,Δ M G s,P,Q]) (u h=aa^.aL R^.aB^eI j) (fs A u w s x y I F (gb (Ğ j l) k)^(gb (Ğ j l) k).map (·.1))^á h z u) ?_ (λl L u _ #[ů v,_]=>v) ?_ ?_;{calc#[_,ĭ,?_,Ô b c a v];{ext asO C G R B h b c a v S ag;{ext ags p c w T;rw[ċ S,H.a']at w;left;ext w;calc T}};{rwa[ajj v,N b c a]}};{intro l B B o U L u N V Y p;nofun;let#[Ä P Q,M,B,W]:=p;let#[g,Ř e H]:=Lb N;let V:u o=afx g:=V;let N:g∈ė j:=bE.mpr #[(g,e),cq H,r];let aM:=X g N;let aw:=ä H;calc awx N [À o,ù e] Y U;let X:=N h _ M;let Y:=É B N;let az:=N o _ V;let V:á h z^act u U [À o,ù e]:=aft b c a v N W;generalize agz u U [À o,ù e]=aZ at X Y az V;let N:g∉(gb (Ğ j l) k).map (·.1):=λa=>by{nofun;let#[#[z,z],w,rfl]:=bE.mp a;let w:=(ϕ w).1;ext aws U z n w aP H;let:=(qC (i:=U) (j:=l) aA (h₀:=by rwa[aI,Đ^Ĭ (ai z^acG) aw]) (h₁:=by rwa[aI,aw])).mp^by{rw[lf,lf,n,aP]};left;calc aBc z};calc#[Ç,Ý];calc Õ a;{let a:e<k:=by{let a:=zI a;calc gO a};let z:=av H;rw[zG a]at z;nofun;let#[C,U,aw,G,aA,aP,aU,aV,aW,aY]:=Y.add Z aM N (F':=(gb (aeP j l) k).map (·.1)) (λl=>by rw[z,cA,cL];simp) e;left;calc#[adD s x G,y,I,o,F,_,C,g,e,U,aw,r,G,az,aA,aP,aU,aV,aW,Å g N l];let o:=aY g N;rw[<-z]at o;calc#[_,_,r,l h _ X^λg=>aK _ g r,o,λb c g v=>l b c (V b c g v) (Í l)];rw[O b l]at g;ext g};{let a:¬e<k:=λg=>a^zJ^by{show Ñ e<k;calc hd g};let z:=av H;rw[zF a,fd]at z;rwa[z,#[Ŝ X,Y,V]]}};{ext Č L u p;let#[Ä P Q,M,B,W]:=p;let e:(eI j).length=j.length:=by{unfold eI;rw[aI]};rw[e,d0]at B;left;calc#[M,aD _ s x y I F ?_ (Å b c a)];{ext asO C G R B h b c a v S ag;{ext asN p c w T S M}};{by_cases n:b=h;{rw[n,D.a']at a;rwa[n,as,a]};{rwa[ao n,W b c a^by exists n]}}}
abbrev fj(a:aE)(d:bJ)(b:bf)(c:bs):Ã:=if(bq a c)[0]?=aa b.1 then g2 (az a c) (ep a c^ai3 d) (0,b.2.1) (0,b.2.2)else[]
inductive Dz(f A I:ac)(m:Á)(c:ag)(n:aA)(w:aY):Prop|mk(h i o p q s t u:ac)(v j:Ã)(k:ab)(a:aE)(b:bs)(l:bJ)(d:bf)(_:m=[Ū h i,k])(_:c h=afx d)(_:d∈cP a)(_:ac5 a)(_:cs a b)(_:afp b)(_:aeJ c i o p q s t u v a b j)(_:amv a b j)(_:jr A a c k l)(_:c I=agD)(_:∀e g,e g=aa^.lst^aP^fj a l d b->Ϡ c e g n)
def Pd(a:Ö "way_for" 112 ["pair","production","below"])(k:Χ)(p:asC)(v:asT):aBd:=a.aw λa a h=>by calc ó h ["pair","production","below","graph","start"] e a E a g F;let#[l,s,u,G,w,x,H,J,L,M,N,a,b,h,c,j,y,O,n,z,B,o,P,C,Q,D]:=F;calc š j F 1 g;calc aos (aiT (aiC (agq 1 a7) (ac4 0)) (aC^bt^dB an)^aq (Ò 3 e^Ü p F^ë 1^ak gz^ë 2^ak gz an)^aq (Ò 4 e^agq 1 a7)^aC^bt^Ü v g^ë 3^ahb (dT hD (ae 4)^ac4 0) (dT hD (ae 4)^ac4 0));nofun;obtain⟨g,e⟩:∃p,(bq a b)[0]?=aa p:=Ŧ;left;calc#[s,asm u o k w,ώ^gv e,l,Œ y,ώ r,r,Ý];let v:aow (ab.int (Ñ g)=ab.int (c.1:Int))↔(bq a b)[0]?≠aa c.1:=by{rw[e];by_cases e:g=c.1;{rw[e];simp};{rw[zK^λg=>e^by ext ae' g];exists e}};calc Õ g;{let g:=v.mp g;calc ahs j p;calc D _ j ?_ (a' p) p;unfold fj;rwa[zF g,as]};{let g:(bq a b)[0]?=aa c.1:=by{by_cases e:(bq a b)[0]?=aa c.1;{calc e};{calc zH (v.mpr e) g}};let F:jr A a E .ar []:=ait;let R:∀E∈h,E∈cP a:=by{rcases C with⟨_,e⟩|⟨_,_,_,_,_,_,_,_,_,_,v⟩;{rw[e];intro E e;ext e};{calc v}};calc#[s,u,G,w,x,H,J,L,M,.ar,N,.ar,a,b,[],h,ah,r,n,z,B,o,P,F,C,ait,λe j C p E e w=>?_];let w:=i7 a b;let F:c1 (az a b)^ep a b^ai3 h:=mZ n z^kR (H:=a) (XK:=[]) (ack:=ah) (alR c v) R;let z:=i8 n B;let v:=É o e;nofun;let#[_,o,B]:=(iu n).mp O;let n:(az a b).getD 0 0=(cc a c.1).length:=by{rw[i6,g];rfl};let G:((0,c.2.1):bc)∈Ĥ a b:=hs.mpr #[by{show 0<_;calc aps w},by show c.2.1<_;rwa[n,o]];let o:((0,c.2.2):bc)∈Ĥ a b:=hs.mpr #[by{show 0<_;calc aps w},by show c.2.2<_;rwa[n,B]];left;calc#[s,f,u,ú v k,x,_,Ç,aw.ad v.b8,ώ^gv^uk (g:=0)^aps w,?_];let k:=e l _ y;calc#[l,Œ k,aff,Ç,l,Œ k,b0 (g:=2) r,Ç,j,C,az a b,ep a b^ai3 h,(0,c.2.1),(0,c.2.2),r,p,E,F,G,o,aev z,e I _ Q,ê a b c h j];calc D a b ?_ (Ë e h)^e.free j;unfold fj;rwa[zG g,c]}
def B2(c:(ahP).Nodup)(b:(T,g)∈XE):asA=adq (g:Nat):=by induction XE with|nil=>{ext b}|cons a d e=>let#[f,h]:=jN.mp c;show av0 a d^cI T=_;ext adQ b b;{rw[<-b,hF r]};{rwa[hc^λc=>f^by{show a.1∈_;rwa[show a.1=T from rN c,bE.mpr #[(T,g),b,r]]},e h b]}
inductive Dm(J E f A I:ac)(q:Á)(d:ag)(s:aA)(C:aY):Prop|mk(j k t u l v w x:ac)(y:Á)(z:Ó)(a:ac7)(B:Τ)(b:aE)(c:bf)(e h:Nat)(i:bs)(_:q=[Ū j k,À l])(_:d j=afx c)(_:aji d b k t u y)(_:fS A d l v w x z a B)(_:aeh a)(_:(∀c∈ė a,c∈cP b))(_:(c,e)∈a)(_:d I=agD)(_:b.prods[h]?=aa i)(_:fj b (apD a e) c i≠[])(_:(∀m n,m<h->b.prods[m]?=aa n->fj b (apD a e) c n=[]))(_:∀g o p,g o=aa^.tup [Ê h,À p]->g p=aa^.lst^aP^fj b (apD a e) c i->aL d g->ĕ s o g)
def NW(bX:Ö "reason_of" 111 ["pair","grammar","family"])(bY:c9 m)(aU:adA)(aV:agA)(bZ:aBb)(b6:aBd):aBe:=bX.aw λdv dy l=>by calc ó l ["pair","grammar","family","before","ways","number","production","way"] o dH dJ dL v n;let#[aY,X,L,D,aZ,a1,a2,b8,Y,ca,a4,cb,a,g,R,p,cc,M,a6,a8,Z,bf,bh,bj,cd,ag,bk,bm,bq]:=n;calc ajg M cf v cg 3;left;calc bl.mk (aq (aiA (g:=3) o^Ü bZ cg^ak (iD cf (ă 2)^ae 0)^ü 1 2)^aq (avW (g:=4) (("production",6)) o 1 6 e3^.ad λ_ _ _ _ _=>Ü b6 v^ë 0^ü 6 3)^aq (Ò 5 o^eB eD o9 s' SO (afs (("way",7)) o (dC^ae 4) 7 e3^.ad λ_ _ _ _ _=>ha l1 (c4 (Cg d r) r bY.len dG^Ø 7) a7^bH _)^ak jH an)^aC^bt^fm^acW 5 (κ 4^ae 5)) ?_;ext afw av;let#[#[ck,cm],#[dR,dS],bu,#[dT,bv],S]:=id a8;let cn:=S.syms;let bw:=S.most;let cs:agw Y a:=bC bv;left;calc#[aZ,A,a1,ú Z aV,a2,Ê R,r,by{let:=dW.cq (YO:=cI g) Z.a' a6;(rw[B2 bf bj]at this;assumption)},R,X,L,D,aZ,a1,a2,b8,Y,ca,a4,cb,a,r,a8,Z,bf,bh,λct bx cy cz cB cC az N=>?_];let cD:g∈cP a:=bh g^bE.mpr #[(g,R),bj,r];generalize dX:apD a4 R=l at bk bm bq az;calc#[X,J,ck,ū N X cm aU,ajd D N bu,Â k bA];calc let aA:ez:=(λh s=>∃e:Ó,oK (s k=aa^ϔ e) (apk c w s e^(ahN a h).map^fj a l g) ((∀c∈e,c≠k))^aL ct s);amw D Y aA #[akP,adw c v,a' bA] (λh s _ #[ć,x]=>aw.ad^Ÿ x D N bu) ?_ ?_;{intro h bG s F n;nofun;let#[e,G,y,bI,x]:=n;let#[b,u,cF]:=cK bv F;let bL:=cq u;let aJ:=ä u;let O:=Ë N x;let#[cG,cJ,cM,cS,cT,cU,Ä cW cX,cZ,c0,_]:=de.same O cF;let aK:aph a h b:=by{rw[dE,u];rfl};let#[c1,c2,c3]:=(É az x).au;let z:β e h:=by{rwa[bC y,aI,dD,acG]};calc aeM #[aY,cG,cJ,cM,cS,cT,cU,cW,b.name,cX,À bx,a,b,l,g,r,O aY _ a6,cD,cn,S.a7 b bL,S.kids b bL,cZ,c0,.inr #[bx,cy,cz,cB,cC,_,c1,r,c2,c3,az.all],O I _ cd,ê B M c7 j bM];let c8:=j k _ G;let bO:M≠k:=Ę da G bM;calc#[_,c8,by{rwa[aI,amy (ē z 1 aJ) bw av]},e++[M],?_,?_,Â c v,Å T U H];{rw[as,cA];rfl};{rw[aK,cA];let df:asE V L c w s k (λc w=>(adX B k (π e++[ø M])) c=ĝ w):=by{intro V L b;calc apt b di dj bP ((ao^bP _ cj).trans^j _ _ di) c C};calc gy (df y bI)^acS ((Ņ bO) c7)};{ext aj6 v C;{calc bI c C};{rwa[ċ C,bO]}};{rwa[Ï H bA,j T U^x T U H]}};{intro s n;nofun;let#[e,G,y,_,x]:=n;rw[cs,d0]at y;let O:=Ë N x;let z:agw e a:=by{rw[bC y,aI]};left;calc af8 k G bQ bR;calc let aA:ez:=(akN h B bQ (.lst^(ahN a h).map λb=>aiw (0<amO a l g b)) s);ahM k (O:=(π e)) aA bR h B j G;{ext agu h bG B F n P j;ext afa F c dk;let#[w,Q,aM]:=cK y dk;ext aeL Q b u aJ;let aK:aph a h b:=by{rw[dE,u];rfl};calc aeM #[c,_,r,.inl^Ć j c aM,Ç,_,P,by{rwa[aI,dD,amy (agv aJ) bw av]},ķ T U H];{rw[as,aK,cA,dg,lg,aI];let:decide (afQ<(amO a l g b:Nat))=decide (0<amO a l g b):=by{ext az'};show aa^cx.lst (_++[aiw (afQ<(amO a l g b:Nat))])=_;rw[this]};{rwa[Ï H bR,j T U H]}};{ext ac6 B n P j;rw[aI,z,d0]at P;let dq:(a.prods.map λb=>aiw (0<amO a l g b))[p]?=aa^agM:=by{rw[b9,ag];show aa^aiw (0<amO a l g cc)=_;rw[zJ^qD.mpr bk]};left;calc#[Ŕ P,bQ,_,agM,p,agM,r,r,ę P,r,?_,dq,r,Ô C H dr bS,?_];{rw[iI];intro bG F;nofun;ext ad' b F;left;rfl};{ext arh bS b u;left;rw[bm C b dr u];rfl};{let W:=ä ag;ext apm bU e p W z;nofun;let#[w,Q,aM]:=cK y bU;rw[b9,ag]at Q;left;ext Q;calc#[k,_,Ç,Ć j k G,b0^show(π e)[p]?=aa^.ref (e[p]'(ĺ W z))by{rw[b9,bU];rfl},by{ext apx av},Â dt du];let bV:=ac1 [Ê p,ab.ref (e[p]'(ĺ W z))] du;calc bq _ dt _ as (bV _ _^j _ _ aM)^ac8 O j bV}}}
abbrev gF(i:ac)(a:aE)(b:đ)(j:þ)(k:ag)(l:ab)(c:Nat):Prop:=∃d m e f g h,l=À d/\fs i k a d m e f g h^py a b c/\gw a b c (dn a b) (es a b c^dn a b) h/\∀a,a=d\/a=e\/a=f\/a∈g->j a
structure fF(h i j:ac)(a:þ)(b:ag)(c:aE)(f:ac)(d e:ac)(g:Á):Prop where(ae:∃k,b f=aa^.ae h k (akE d e))(syms:dj i a b d c.syms)(lst:b e=à g)(prods:be (λl m=>de j a b l c m) g c.prods)(bg:mW c)(cH:a f)(cI:a d)(cJ:a e)
variable{Yb ZE Yw Yp Ys Zs Zt:ac}
def fF.held(a:apE):aji h H Yw Yp Ys Yi:=#[a.ae,#[Xr,a.syms],a.lst,#[Xr,a.prods],a.bg]
def fF.same(a:apE)(b:ŧ):agE Xr V H Yw Yp Ys Yi:=#[let#[c,k]:=a.ae;#[c,b Yw _ k],a.syms.same b,b Ys _ a.lst,asX a (λd d d=>de.same b d)]
def fF.keep(a:apE)(d:ad2)(e:afd b)(c:∀b∈S,¬Xr b):agE Xr V H Yw Yp Ys Yi:=#[let#[k,l]:=a.ae;#[k,d Yw _ l λb=>c _ b a.cH],dj.keep d e c (λb=>c _ b a.cI) a.syms,d Ys _ a.lst λb=>c _ b a.cJ,asX a (λg g b=>de.keep d e c b)]
def dj.imp{a:ac}(e:ahu b){c:ac}{d:ahv}(f:dj a Xr h c d):dj a Y5 h c d:=let#[k,l,n]:=f;#[k,l,ï n λa a a=>a.imp e]
def fF.imp(b:ahu c)(a:apE):agE Y5 h H Yw Yp Ys Yi:=#[a.ae,a.syms.imp b,a.lst,bL.ay a.prods λc c c=>c.imp b,a.bg,b _ a.cH,b _ a.cI,b _ a.cJ]
def fF.there(m:apE):agE (awy c) h H Yw Yp Ys Yi:=by let a:∀{b d},h b=aa d->Xr b->Xr b/\h b≠ah:=λ{b d} d e=>#[e,λe=>by ext Æ d e];let#[#[e,g],#[o,i,p],j,q,s,t,w,x]:=m;calc#[#[e,g],#[o,i,ï p λm o #[b,e,c,y,d,u,C,v,l,n]=>#[b,e,c,y,d,u,C,v,a u l,?_]],j,ï q λm m #[b,e,c,Ys,Yp,lo,F,G,d,k,P,l,n,W,ab,ae]=>#[b,e,c,Ys,Yp,lo,F,G,d,k,P,a k.ae l,a k.bp n,a k.b8 W,?_,a k.own ae],s,a g t,a i w,a j x];{let#[b,b,_]:=v;calc a b n};{let#[c,b,_]:=k.occ;calc a b ab}
structure di(l m n o p q:ac)(f:þ)(a:ag)(s t g u v h i:ac)(w:Á)(d:Ĕ)(e:aE)(c:đ):Prop where(ae:a s=aa^.ae p t [ajk g h,("families",À i)])(co:fF l m n f a e g u v w)(bo:a h=aa^aeO c)(cg:c.Nodup)(aM:c.length<=20)(ch:∀j∈c,j∈cP e/\mC e j=af)(a1:a i=adV d)(cO:aeh d)(key:∀b∈ė d,b=bz adh\/b=bz (2:Int)\/b=bz (3:Int))(bQ:∀(b:Nat) k,bS d^Ī b=aa k->gF o e c f a k b)(tab:a q=agD)
def gF.same{a:ab}{b:Nat}(c:akU h a b)(d:ŧ):akU V a b:=let#[k,l,n,u,v,y,C,F,G]:=c;#[k,l,n,u,v,y,C,É F d,G]
def gF.imp(b:ahu a)(c:akU h W4 g):gF A H W7 Y5 h W4 g:=let#[k,l,n,u,v,y,C,F,G,P]:=c;#[k,l,n,u,v,y,C,F,G,λa c=>b a^P a c]
def gF.there(i:akU h W4 g):gF A H W7 (awy b) h W4 g:=by let#[j,k,l,m,e,n,o,f,p,q]:=i;let#[w,c,x]:=id f.au;calc#[j,k,l,m,e,n,o,f,p,λb d=>#[q b d,Í a]];rcases d with rfl|rfl|rfl|d;{rw[c.ae]at a;ext a};{rw[c.a']at a;ext a};{rw[c.lst]at a;ext a};{ext acF s t u d;let#[y,_,v]:=cK c.row^ao5 e s b t u;ext Æ v a}
def gF.eQ(d:ake)(i:∀a∈W',¬Xr a)(b:akU h W4 g):akU V W4 g:=by let#[k,p,l,m,n,q,s,e,t,o]:=b;let#[u,b,v]:=e.au;let f:∀{a},(a=k\/a=l\/a=m\/a∈n)->a∉W':=λ{a} j c=>i a c^o a j;let w:∀{i:Ó}{Yp:Τ},be (λa j=>h a=ĝ j) i Yp->(∀a∈i,a∉W')->be (λa j=>V a=ĝ j) i Yp:=by{intro i Yp i;calc apt i j x i (d _ _ j^i _ cj) a c};calc#[k,p,l,m,n,q,s,apA (#[u,#[d _ _ b.ae^f^ħ,d _ _ b.a'^f^aj0,d _ _ b.lst^f^.inr^aj0,w b.row λa c=>f^.inr^.inr^ÿ c,b.ak],v]) e,t,o]
def di.ba(a:akV):aji h H Yw Yp Ys Yi:=a.co.held
def di.same(a:akV)(b:ŧ):ŭ Xr V Yb ZE Yw Yp Ys Zs Zt Yi Xy H W7:=#[b Yb _ a.ae,a.co.same b,b Zs _ a.bo,apF a,b Zt _ a.a1,a.cO,a.key,λc d e=>(a.bQ c d e).same b,b I _ a.tab]
def di.imp(a:akV)(b:ahu c):ŭ Y5 h Yb ZE Yw Yp Ys Zs Zt Yi Xy H W7:=#[a.ae,a.co.imp b,a.bo,apF a,a.a1,a.cO,a.key,λc d e=>(a.bQ c d e).imp b,a.tab]
def di.there(a:akV):ŭ (awy b) h Yb ZE Yw Yp Ys Zs Zt Yi Xy H W7:=#[a.ae,a.co.there,a.bo,apF a,a.a1,a.cO,a.key,λb c d=>(a.bQ b c d).there,a.tab]
def di.dN(c:akV)(b:h s=ah):ŭ (λa=>Xr a/\a≠s) (am h s o) Yb ZE Yw Yp Ys Zs Zt Yi Xy H W7:=(c.there.imp λa #[k,l]=>#[k,λa=>l^by rwa[a,b]]).same^a' b
def di.own(b:akV)(e:¬Xr s)(i:h s=aem):ŭ Xr (am h s o) Yb ZE Yw Yp Ys Zs Zt Yi Xy H W7:=by let j:aJ [s] h^am h s o:=λc d a g=>by{rwa[ajj g,a]};let k:∀c∈[s],¬Xr c:=λc l=>by{rwa[ċ l,e]};let e:∀{c d},h c=aa d->(∀l,d≠.lst l)->am h s o c=aa d:=λ{c d} a g=>by{rwa[ao^λd=>by{rw[d,i]at a;calc g _ (ŝ a)},a]};calc#[e b.ae^ajl a,b.co.keep j (λc l a c=>by ext ahQ c i a) k,e b.bo^ajl a,apF b,e b.a1^ajl a,b.cO,b.key,λc g d=>(b.bQ c g d).eQ j k,e b.tab^adt a]
def di.ed(a:akV):Xy.length<=3:=by let:=oD a.cO (a:=[bz adh,bz (2:Int),bz (3:Int)]) λb c=>by{rcases a.key b c with a|a|a<;>rw[a]<;>simp};ext al'
def Nt(a:aE)(b:Ã):lB a b=((aoS a).findIdx? λc=>c==b).bind λd=>a.prods[d]?:=by unfold lB;rw[r0,sM];rfl
@[reducible]abbrev gW(d:ap)(a:ac):Prop:=cH d a ["grammar","assumed","families"]
variable{abV:List bs}
def Nv(b:Χ)(a:be (λe a=>de f Xr h e H a) O abV):be (pB d h) O^abV.map mz:=oP (λ_ _ #[k,l,n,v,y,lo,C,F,u,c,_]=>#[k,f,l,_,n,u,c.ae,Į b,r,c.cn]) a
inductive i1(d:ap)(N w:ac)(h:Á)(a:ag)(i:aA)(j:aY):Prop|mk(e k:ac)(b l m:ab)(_:h=æ e)(_:a e=aa^ł k [("grammar",b),apG l m])(_:(b≠.ar->i .ar a))(_:(b=.ar->agp f g c (-4) a j))
def N0(b:ő "require_grammar" "Holder.require_grammar" 121 13)(a:Ϯ)(c:ϑ N "NothingHeld" (-4)):auC^i1 d N w:=by calc ý b ["self"] b b b b b b b e g;let#[g,h,j,j,j,j,k,l,n]:=e;calc Ş j (aC^acz (bR sr (Ϩ 0) gz^bH _) c b);calc#[g,w,h,Ď k a,r,Ý];calc Õ a;{calcλb c e g h=>n (zI a) b c e g h};{calc l (adr b a)}
inductive rH(d:ap)(N:ac)(g:Á)(c:ag)(h:aA)(i:aY):Prop|mk(j:ab)(b:Int)(_:g=[j,Ì b])(_:(hm b 0=af->∀a,aL c a->h .ar a))(_:(hm b 0=ay->agp e f a (-10) c i))
def Mt(a:Int):gl (Ì a) [Î 0,Î 1,Î 2,Î 3]=hm a 0:=by ext aBf
def Ms(a:Int):gl (Ì a) [Î 1,Î 2,Î 3]=hm a 1:=by ext aBf
structure mI(m:Ą):Prop where(own:Ė "OWN" 0)(below:Ė "BELOW" 1)(above:Ė "ABOVE" 2)(joined:Ė "JOINED" 3)
def N1(b:ő "require_kind" "Holder.require_kind" 121 14)(a:mI m)(c:ϑ N "NoSuchKind" (-10)):ϊ ε 4 f M ["self","kind"]^rH d N:=by calc ý b ["self","kind"] b b b b b b e g b;let#[b,h,b,j,k]:=g;calc Ş b (aC^acz (bR zd (ae 1) (fm^ak (bG a.own)^asY a)^by ext aeY) c e);calc#[by{show 4<=a9;decide},Â c e];let a:=a' (o:=amP) e;calc auP c;rw[zG r,Mt];rcases b:hm h 0 with _|_;{calcλc e g h l=>k b c e g h^Ë a l};{calc j b _ a}
abbrev j4(f:ac)(c:ag)(a:aE)(d:ab)(b:bs):Prop:=b∈a.prods/\de f ag6 c d a b
def j4.same{a b:ag}{c:aE}{d:ab}{e:bs}(g:j4 f a c d e)(h:aL a b):j4 f b c d e:=#[g.1,de.same h g.2]
inductive mH(J E f A w I:ac)(a:ag)(b:ac)(c:aE)(d:đ):Prop|mk(e:þ)(g h i j k l:ac)(m:Á)(n:Ĕ)(_:ŭ e a b g h i j k l m n c d)
def mH.same{a b:ag}{c:ac}{d:aE}{e:đ}(g:akW a c d e)(h:aL a b):akW b c d e:=let#[k,l,n,u,v,ad,y,C,F,G]:=g;#[k,l,n,u,v,ad,y,C,F,É G h]
abbrev Mi(d:ap)(f N:ac)(b:ag)(e:aA)(g:aY)(h:aE):Option bs->Prop|aa i=>∀a c,j4 f a h c i->aL b a->e c a|ah=>agp c e a (-11) b g
inductive rF(d:ap)(J E f A w I N:ac)(h:Á)(a:ag)(i:aA)(j:aY):Prop|mk(c e:ac)(g:Ã)(b:aE)(k:đ)(_:h=acE c e)(_:akW a c b k)(_:a e=Ě g)(_:Mi d f N a i j b^lB b g)
def Nw(R:Ŭ "production_named" "Holder.production_named" 121 18 s M)(j:Ϯ)(k:adA)(S:Χ)(T:ar7)(U:ϑ N "NoSuchProduction" (-11)):aeQ 4 ["self","name"]^awz:=by calc ý R ["self","name","number"] V aP W aU X aV z Y aX;let#[o,Z,B,b,aY,g,#[aZ,C,p,a4,u,a6,M,l,a7,v],ab,c]:=Y;calc š g ag 1 z;calc ϣ (aq (aiE 2 V^Ü T ag^acW 1 apH)^aq (acz (asU 2) U z)^aC^bt^br cl apH^ae 2);nofun;let#[#[D,F],_,G,#[ba,x],bf]:=v.ba;left;calc#[o,w,C,ú v j,p,J,D,Ď F k,Z,u,B,l,_,r,ab,G,Nv S x,Â am e];rw[Nt]at c;rcases g:(aoS b).findIdx? ^λao=>ao==B with _|a;{ext aBg g c y h e};{rw[g]at c;let n:a<b.prods.length:=by{let:=(l5.mp g).1;ext al'};let H:b.prods[a]?=aa b.prods[a]:=bi n;let c:∀h L,j4 f h b L b.prods[a]->aL W h->X L h:=by{rw[show((aa a).bind λa=>b.prods[a]?)=aa b.prods[a] from H]at c;calc c};let O:agw l b:=bC x;ext apm P l a n O;nofun;let#[bh,Q,aF]:=cK x P;ext agr H Q;calc ϟ;calc ϭ y;calc#[o,w,C,agx (e o _ v.ae) j,p,J,D,ū e p F k,u,_,Ç,Ć e u G,b0 P,c am _ #[sP n,de.same e^awA aF] e]}
abbrev Mm(d:ap)(N:ac)(b:ag)(c:aA)(f:aY):adU->Prop|aa e=>∀a,aL b a->c (Ê e) a|ah=>agp c e a (-5) b f
inductive rI(d:ap)(J E f A w I N:ac)(h:Á)(a:ag)(i:aA)(j:aY):Prop|mk(b c:ac)(e:Ã)(g:aE)(k:đ)(_:h=acE b c)(_:akW a b g k)(_:a c=Ě e)(_:Mm d N a i j^dp g e)
def Oq(n:Ŭ "symbol_named" "Holder.symbol_named" 121 19 s M)(e:Ϯ)(g:adA)(o:ams)(p:ar7)(u:ϑ N "NoSuchSymbol" (-5)):aeQ 4 ["self","name"]^awB:=by calc ý n ["self","name","number"] v ag ai am ao as h x au;let#[y,z,j,B,av,a,#[aw,C,D,F,az,aA,M,aF,aJ,k],G,b]:=x;calc š a H 1 h;calc ϣ (aq (aiE 2 v^Ü p H^acW 1 apH)^Α (acz (asU 2) u h) 2);nofun;let#[#[L,O],#[aK,P,Q,R],_,_,aL]:=k.ba;left;calc#[y,w,C,ú k e,D,J,L,Ď O g,z,F,j,P,_,r,G,Q,DG o R,Â S l];rw[DF];rcases a:dp B j with _|aM;{ext aBg a b c V l};{rw[a]at b;calc ϟ;calc ϭ c;calc(b S l)}
abbrev Md(d:ap)(N:ac)(b:ag)(c:aA)(f:aY):adU->Prop|aa e=>∀a,aL b a->c (Ê e) a|ah=>agp c e a (-6) b f
inductive t9(d:ap)(J E f A w I N:ac)(i:Á)(a:ag)(j:aA)(k:aY):Prop|mk(e g:ac)(b:Nat)(h:Ã)(c:aE)(l:đ)(_:i=[À e,Ê b,À g])(_:akW a e c l)(_:b<c.syms.length)(_:a g=Ě h)(_:Md d N a j k^j0 (fg c b) h)
def J9(z:Ŭ "attribute_named" "Holder.attribute_named" 121 20 s M)(k:Ϯ)(l:adA)(B:akK)(C:ϑ N "NoSuchAttribute" (-6)):aeQ 4 ["self","symbol","name"]^awC:=by calc ý z ["self","symbol","name","number"] D aF n aJ aK aM o F aO;let#[G,H,e,b,g,aP,c,#[aS,L,O,P,aU,aV,M,aX,aY,p],u,Q,a]:=F;calc š c R 1 o;calc ϣ (aq (aiE 3 D^bU B.num (br cl apH^ae 1) R bd^ŵ 2)^Α (acz (asU 3) C o) 3);nofun;let#[#[S,T],#[aZ,U],_,_,V]:=p.ba;let#[W,a4,X,Y,Z]:=U.get^bi u;let#[v,x,Ä a6 ab,y,a7,ag,_,_]:=Z;left;calc#[G,w,L,ú p k,O,J,S,Ď T l,P,W,Ç,ę X,b0 Y,v,x,î y,v,x,_,ab,_,H,b,_,r,y,ag,Q,?_];let ai:j0 (fg g e) b=(eQ g.syms[e]).findIdx? λh=>h==b:=by{rw[x9 V.syms];unfold cc;rw[bi u];rfl};rw[ai]at a;rcases c:(eQ g.syms[e]).findIdx? λh=>h==b with _|ba;{rw[c]at a;calc ϟ;calc aeb j;calcλam ao as au av=>a am ao as au av};{rw[c]at a;calc ϟ;calc ϭ j;calc(a n^aL.refl n)}
abbrev Mj(d:ap)(N:ac)(b:ag)(f:aA)(g:aY)(h:aE):Except Int bf->Prop|.ok c=>∀a e,a e=afx c->c∈cP h->aL b a->ĕ f e a|Ϛ f=>asw c e a f b g
inductive rG(d:ap)(J E f A w I N:ac)(l:Á)(a:ag)(m:aA)(n:aY):Prop|mk(c e g h:ac)(i j k:Ã)(b:aE)(o:đ)(_:l=[Ū c e,Ū g h])(_:akW a c b o)(_:a e=Ě i)(_:a g=Ě j)(_:a h=Ě k)(_:Mj d N a m n b^il b i j k)
def w8(b:agt)(a:j0 (fg H g) D=aa B):B<(cc H g).length:=by rw[x9 b]at a;calc(l5.mp a).1
def Nf(a:Ŭ "pair_named" "Holder.pair_named" 121 21 s M)(n:awD)(j:aBh):asZ 5^awE:=by calc ý a ["self","name","one","other","symbol"] o a a a a a g p a;let#[b,x,u,C,k,v,D,c,l,e,h,y,z,F,a]:=p;calc Ş e (aq (aiE 4 o^aew n g^ŵ 1)^aC^bt^fm^ë 4^ahb (aew j g^ë 4^ŵ 2) (aew j g^ë 4^ŵ 3));nofun;let#[g,n,g,g,g,g,M,g,g,j]:=id h;let o:=j.ba.bg.syms;left;calc#[b,n,_,r,j.ae,r,b,x,k,c,l,r,h,y,?_];unfold il at a;rcases e:dp c k with _|k;{ext Ι e a};{ext aiL e a;nofun;let#[p,_]:=p3 e;left;intro e e;calc#[b,n,_,r,e b _ j.ae,r,b,u,k,v,c,l,r,É h e,p,e u _ z,?_];rcases u:j0 (fg c k) v with _|g;{rw[u]at a;calcλv x y z B=>a v x y z^Ë e B};{rw[u]at a;intro g G;let g:=Ë e G;calc#[b,n,_,r,g b _ j.ae,r,b,C,k,D,c,l,r,É h g,p,g C _ F,?_];rcases b:j0 (fg c k) D with _|c;{rw[b]at a;calcλv x y z B=>a v x y z^Ë g B};{rw[b]at a;intro c c;calc#[by{show 3<=a9;decide},Â e h];calc a _ e as ((iu o).mpr #[p,w8 o u,w8 o b])^ac8 g c^a' h}}}
abbrev w0:cx->Prop|.tup _=>True|.aL _ _=>True|a=>Bz a
abbrev eF(c d:ag):Prop:=∀b a,c b=aa a->w0 a->d b=aa a
def aD.aC(a:ŧ):afB:=λb c d _=>a b c d
def eF.trans(d:afB)(e:eF V Y'):eF h Y':=λa b f c=>e a b (d a b f c) c
def aJ.aC(d:ake)(e:∀b∈W',∀a,h b=aa a->¬w0 a):afB:=λb a c f=>d b a c λd=>e b d a c f
def im.aC(a:afB)(b:im h f Ye):im V f Ye:=by let#[d,e,g]:=b;calc#[d,a f _ e trivial,ï g λb b #[c,k,l]=>#[c,k,ac9 a c l]]
def de.aC{b:ac}{c:þ}{d e:ag}(a:eF d e){f:ab}{g:aE}{h:bs}(i:de b c d f g h):de b c e f g h:=by let#[c,h,d,e,f,j,g,k,l,b,m,n]:=i;calc#[c,h,d,e,f,j,g,k,l,#[a c _ b.ae r,a d _ b.cn trivial,a e _ b.bp trivial,a f _ b.b8 trivial,b.occ.aC a,a g _ b.own trivial],m,n]
def j4.aC{a:ac}{b c:ag}(h:eF b c){d:aE}{e:ab}{f:bs}(g:j4 a b d e f):j4 a c d e f:=#[g.1,de.aC h g.2]
def xf(a:aE)(b:đ)(c:1<=g)(d:g<=3):py a b g=cn a b g (dn a b)^es a b g^dn a b:=by rw[<-(rZ a b g^dn a b).1];rcases g with _|_|_|_|g;{ext c};{show dn a b=_;conv=>{lhs;rw[D0]};rw[ED a []^dn a b]};{calc Pp a b};{show wS a b=_;rw[PQ,P5 a []^dn a b]};{calc zH d^Ho^gC 4 g}
def gF.dl(b:akU h W4 g):jr A H h W4^py H W7 g:=by let#[c,d,e,f,i,j,k,a,_]:=b;let#[b,l,N]:=a.au;calc è #[c,d,e,f,i,j,b,k,l,N,a.all]
def gF.keep{b:aE}{c:đ}{d:þ}{a e:ag}{f:ac}{j:Ĕ}(g:a f=adV j)(k:á f a e){h:ab}{i:Nat}(l:gF A b c d a h i):gF A b c d e h i:=by let#[c,d,e,f,h,i,j,a,m]:=l;let#[l,b,N]:=a.au;calc#[c,d,e,f,h,i,j,apA (#[l,ð b k (Â c c) ?_,N]) a,m];{ext ĳ a a d;ext ahQ c g a;calc d};{rwa[b4,dk b.a' g^by ext ı a]}
def fF.b2(a:agE Xr h H s w A O)(g:h I=aa^.az Xy)(c:aJ [I] h V):agE Xr V H s w A O:=by let b:afB:=aJ.aC c λe i c c d=>by{ext ahQ i g c;calc d};let#[g,i,j]:=a.syms;calc#[let#[k,l]:=a.ae;#[k,b s _ l r],#[g,b w _ i trivial,aBi j g k e d l b],b A _ a.lst trivial,asX a (λg d c=>de.aC b c)]
def Ny:ajG^ald:=λ_ _ _ _ _ _ a=>a.elim
inductive lL(J E f A w I:ac)(u:Nat->Prop)(v:Á)(c:ag)(x:aA)(y:aY):Prop|mk(d i j k l m e:ac)(n:Á)(o:Ĕ)(p:aE)(q:đ)(a:Nat)(g:þ)(_:v=[À d,Ê a])(_:u a)(_:a<=3)(_:ŭ g c d i j k l m e n o p q)(_:(∀s,c s=ah->g s))(_:∀h b,ŭ g h d i j k l m e n b p q->(1<=a->(bS b^Ī a).isSome=af)->(∀t,ain o t=af->ain b t=af)->(a=2->awF b)->ahe e c h x)
def di.ew{x:þ}{k p:ag}{H L M N O P m:ac}{Q:Á}{q:Ĕ}{b:aE}{d:đ}(e:ŭ x k H L M N O P m Q q b d)(X:∀a,k a=ah->x a){c:Nat}(R:1<=c)(S:c<=3)(y:bS q^Ī c=ah){s T z B:ac}{C:Ó}{D:ac7}{j:Nat}(Y:fs A p b s T z B C D^cn b d c (dn b d) j)(Z:gw b d c (dn b d) j D)(ae:∀h,h<j->∃t,t∈cn b d c (dn b d) (h+1)/\t∉cn b d c (dn b d) h)(ai:∀t,t∈cn b d c (dn b d) (j+1)->t∈cn b d c (dn b d) j)(ak:p m=aa^ahR q c s)(F:á m k p)(am:∀u,u=s\/u=z\/u=B\/u∈C->k u=ah):ŭ x p H L M N O P m Q (cU q (Ī c)^À s) b d:=by let U:es b d c^dn b d=j:=P8 ae ai;let aA:∀a∈[m],¬oc k a:=by{rintro a n ⟨o,V,an⟩;rw[ċ n,e.a1]at V;ext V;calc an};let aB:ahd a W k m:=λa W g j=>by{rw[ċ j,e.a1]at g;ext g};let G:∀{a o},k a=aa o->(∀ao,o≠.az ao)->p a=aa o:=λ{a o} g aq=>F a o g^by{rwa[b4,λi=>by rw[i,e.a1]at g;calc aq _ (ŝ g)]};let as:(Ī c:bh)∉ė q:=Vd y;calc#[G e.ae^ajl g,e.co.b2 e.a1 F,G e.bo^ajl g,apF e,ak,?_,Â h l,Å h av v,G e.tab^adt g];{rwa[qs _ y,cA,lh,#[e.cO,by{simp},λaC aw a n i=>as^by rw[dg,lg,b4]at n;rwa[<-show a=Ī c from n,<-i,aw]]]};{rw[qs _ y,cA,cL]at l;ext ĸ l;{calc e.key h l};{rw[dg,lg,b4]at l;rw[show h=Ī c from l];match c,R,S with|1,_,_=>{calc ħ}|2,_,_=>{calc aj0}|3,_,_=>calc .inr^ϛ}};{rw[ne]at v;by_cases i:(Ī h:bh)=Ī c;{rw[zG i]at v;let az:h=c:=by{ext ae' i};subst az;ext v;calc#[s,T,z,B,C,D,r,?_,by{rwa[U,Z]},λa n=>X a^am a n];rwa[xf b d R S,U,Y]};{rw[zF i]at v;calc(e.bQ h av v).keep e.a1 F}}
def NY(b:Ŭ "require_families" "Holder.require_families" 121 15 s M)(c:Ϯ)(a:mI m)(z:awn):ad1 6 s M ["self","kind"]^apI λe=>e≠2:=by calc ó b ["self","kind"] b b h b g B;let#[j,k,C,D,F,G,M,H,l,v,x,e,b,n,o,y,b,L,p]:=B;subst n;let B:=hC g;calc aos (aq (ad3 (ae 1) (bG a.above) Ny b6)^aC^aBj a (oQ B (ae 1)^as0) (aC^bm^Ü z g^ë 1^ak as0^ahb as0 as0) b6);calc ϟ;calc a8 (λa=>zH (show e=2 by ext aiu a) o) ady;calc ϟ;by_cases u:e=0;{subst u;calc a8 (λa=>aoF a) ady;calc ϭ a;calc p h l b (λa=>zH a^jh^cd r) (λ_ a=>a) (λa=>zH a^by omega)^aD.keep^aL.refl h};{calc a8 ady λa=>awt e g u a;calc#[j,w,k,ú b c,M,_,r,akL e b.a1,Ý];rcases n:bS l^Ī e with _|z;{calc aeb a;calc#[j,w,k,ú b c,j,w,k,ú b c,j,w,k,ú b c,?_];calc#[e,C,D,F,M,G,H,l,x,v,dn v x,aBk u y b,λg=>zH g o,λe c c c c c c c g j k v x c z=>?_];calc p e _ (b.ew L (amu u) y n g j k v x c z) aBl (Â e a) (λa=>zH a o) c;rw[ne];split;{rfl};{calc a}};{calc ϭ a;calc p h l b (λ_=>by rw[n];rfl) (λ_ a=>a) (λa=>zH a o)^aD.keep^aL.refl h}}
variable{Xo:ac}
def di.b2(c:aBm)(b:aJ [x] h V):afB:=aJ.aC b λb d b b e=>by rw[ċ d,c.a1]at b;ext b;calc e
def NZ{W:ac}{j:b'}(as:Ŭ "require_families" "Holder.require_families" 121 15 W j)(l:Ϯ)(F:mI m)(av:awn)(aw:apJ 6 (λg=>g≠2)):ad1 7 W j ["self","kind"]^apI ag6:=by calc ó as ["self","kind"] a4 bf G bj H L;let#[n,o,M,N,O,P,j,Q,R,x,y,g,S,s,_,X,T,Y,U]:=L;calc ajg s az H aA 5;left;calc aoD (aq (ot^ad3 (ae 1) (bG F.above) (aC^bm^aed aw 0 H^ak (bG F.below) an) b6)^aC^aBj F (oQ az (ae 1)^ă 0) (aC^bm^Ü av aA^ë 1^aec 0^aec 0^Θ 0) b6);calc let aF:hy:=(λZ p=>Z=[È n,aa^Ê g]/\∃e,ŭ S p n o M N O P j Q e x y/\(g=2->awF e)/\(∀k,ain R k=af->ain e k=af)/\á j G p);akt aF;{ext Č Z p L;let#[rfl,e,b,u,v,z]:=L;let aK:∀h,p h=ah->S h:=λh a=>Y h^by{ext aBn s G h B c j b a z};left;calc ϟ;by_cases C:g=0;{subst C;calc a8 (λa=>aoF a) ady;calc ϭ a;calc U p e b (λa=>zH a^jh^cd r) v u z};{calc a8 ady λa=>awt g c C a;calc#[n,w,o,ú b l,j,_,r,akL g b.a1,Ý];rcases s:bS e^Ī g with _|V;{calc aeb a;calc#[n,w,o,ú b l,n,w,o,ú b l,n,w,o,ú b l,?_];calc#[g,M,N,O,j,P,Q,e,y,x,dn x y,aBk C X b,Í c,λaM aP bq br bt bv bw bA aU aV aX aY a1 D a2=>?_];{nofun;let#[V,ag]:=f4.mp^u c;left;calc#[V,ag,(b.bQ 1 V ag).dl]};{let am:∀k,ain e k=af->(bS (cU e (Ī g)^À aP) k).isSome=af:=λk a=>by{rw[ne];split;{rfl};{calc a}};calc U aM _ (b.ew aK (amu C) X s aU aV aX aY a1 D a2) aBl (λk a=>am k^v k a) (λc=>am _^u c)^λh B a ao=>D h B (z h B a ao) ao}};{calc ϭ a;calc U p e b (λ_=>by rw[s];rfl) v u z}}};{ext af' a;{calc#[adD n o T,M,N,O,P,j,Q,R,x,y,1,S,r,by{decide},by{decide},T,Y,λp e b u v _ D=>?_];calc#[r,e,b,λ_=>u^by{decide},v,D]};{calc#[r,R,T,λc=>ars c a,λ_ a=>a,aD.keep^aL.refl G]}}
def B8(c:cs H Xw)(b:đ)(d:g<=3)(a:b5):a∈B7 H Xw g (dn H b) (Bl H b)^wS H b↔a∈dP H b g Xw:=by rcases g with _|_|_|_|g;{calc fM};{calc(uv c a).symm};{calc(PR c a).symm};{calc(yh c a).symm};{calc zH d^Ho^gC 4 g}
def ru(a:aE)(b:đ)(d:1<=g)(e:g<=3):∀c∈py a b g,c∈cP a:=λc c=>by rw[xf a b d e]at c;calc(pW _ c).1
def tZ(i:agt)(e:cs H Xw)(a:đ)(h:g<=3):c1 adz^dP H a g Xw:=by calc c1.same (B8 e a h) ?_;let j:∀c∈([]:bJ),c∈cP H:=anK c b;let d:∀f,(∀k,∀c∈f k,c∈cP H)->c1 adz^ep H Xw f:=λf b=>mZ i e b;match g,h with|0,_=>{calcλf h b=>d (λ_=>[]) (λ_ c b=>by ext b) f h^(kf e).mpr^Ð b}|1,_=>{calc d _^kR j^apK a (g:=1)}|2,_=>{calc d _^kR (apK a (g:=2))^apK a (g:=1)}|3,_=>calc d _^kR (apK a (g:=3))^apK a (g:=3)
inductive pO(J E f A w I:ac)(v:Á)(a:ag)(x:aA)(B:aY):Prop|mk(d l m n o p e:ac)(q:Á)(y:Ĕ)(b:aE)(g:đ)(h:Nat)(s:ab)(i:bs)(j:þ)(_:v=[À d,Ê h,s])(_:h<=3)(_:ŭ j a d l m n o p e q y b g)(_:(∀t,a t=ah->j t))(_:j4 f a b s i)(_:∀c z k u,ŭ j c d l m n o p e q z b g->c k=ĝ u->cJ (az b i) (dP b g h i) u->a k=ah->á e a c->ĕ x k c)
def Ln{D:ac}{g:b'}(P:Ŭ "graph_of" "Holder.graph_of" 121 16 D g)(F:Ϯ)(Q:apJ 7 ag6)(R:av6):ad1 8 D g ["self","kind","production"]^pO J E f A w I:=by calc ó P ["self","kind","production"] a4 ba S bh G T;let#[s,u,U,V,W,X,g,Y,Z,j,k,H,b,l,ab,h,v,n,ag,ai,am]:=T;calc š h ao 2 G;calc ϣ (aq (bm^aed Q 0 G^ŵ 1)^aC^bt^Ü R ao^ë 1^acW 2 (Ϩ 0));calc#[adD s u n,U,V,W,X,g,Y,Z,j,k,H,ab,r,trivial,v,n,ag,λbo x e y _ as z=>?_];let av:=ai.aC^n.b2 z;let B:=n.ba.bg;let aw:=B.syms;nofun;let#[L,az,aA,aD,aF,aJ,aK,Ä aL aM,aP,aU,_]:=av;let M:=B.a7 l L;left;calc#[s,w,u,ú e F,az,aA,aD,aF,aJ,aK,aL,g,l.name,aM,H,x,j,l,dn j k,Bl j k,wS j k,r,v,aw,M,B.kids l L,aP,aU,e.a1,Í a,Í a,Í a,λaV h aY aZ a1 N o=>?_];{let:awF x:=by{ext ĸ a;{let:=y^au a;(rw[a]at this;assumption)};{calc as a}};calc awG b c e 1};{let:=y^Đ^au a;rw[a]at this;calc awG b c e 2};{let:=y^η^au a;rw[a]at this;calc awG b c e 3};{calc am aV x h aY (É e N) aZ (a1.same^B8 M k v) ?_ (aft O p C a2 N z);ext aBn C S h p a g e o z}
abbrev Mg(d:ap)(N:ac)(b:ag)(a:aA)(f:aY)(c:Ã):Option bc->Prop|aa e=>a (aeI c e) b|ah=>agp c e a (-12) b f
inductive xM(d:ap)(f N:ac)(j:Á)(a:ag)(k:aA)(l:aY):Prop|mk(m e g:ab)(h i:Int)(b:aE)(c:bs)(_:j=[m,g,e])(_:eH a g [h,i])(_:j4 f a b e c)(_:Mg d N a k l (az b c)^ij (Ĥ b c) h i)
def Cq:[Xb,X5]∈(aK D).map gc↔∃a,ij (aK D) Xb X5=aa a/\a∈aK D/\gc a=[Xb,X5]:=by unfold ij;rw[bE];constructor;{ext ĳ a b c;unfold gc at c;injection c with l k;injection k with k _;subst l k;calc#[a,?_,b,r];rw[zG #[gA _,gA _,by rw[gB];exists b]];simp};{rintro⟨a,d,b,c⟩;calc#[a,b,c]}
def M1(C:Ŭ "occurrence_at" "Holder.occurrence_at" 121 22 s M)(j:Χ)(D:ϑ N "NoSuchOccurrence" (-12)):aeQ 4 ["self","told","production"]^xM d f N:=by calc ý C ["self","told","production"] I P Q R S T n E U;let#[V,W,X,g,h,a,b,c,o,#[Y,x,y,Z,ab,ag,z,ai,am,F,p,ao,_],k]:=E;subst c F;calc ϣ (aq (acz (bR (Na n.units) (ae 1) (Ϩ 2)^by ext aeY) D n)^aC^bt^avH n (Ϩ 2)^ŵ 1);nofun;let#[A,u,B]:=p.occ;left;calc#[x,f,y,ú p j,z,A,[g,h],(Ĥ a b).map gc,r,o,ę u,t5 B,Ý];rwa[zG r,Õ e];{let e:¬[g,h]∈(Ĥ a b).map gc:=by{exists e};let v:ij (Ĥ a b) g h=ah:=by{rcases c:ij (Ĥ a b) g h with _|l;{rfl};{exfalso;calc e^Cq.mpr #[l,c,?_];unfold ij at c;split at c;{rename_i w;ext c;calc#[by{exists w.2.2},?_];unfold gc;rw[vO w.1,vO w.2.1]};{ext c}}};ext Ι v k};{let e:[g,h]∈(Ĥ a b).map gc:=by{exists e};nofun;let#[l,v,G,H]:=Cq.mp e;rw[v]at k;rw[<-H]at o;left;calc#[x,f,y,ú p j,Ŕ u,z,A,_,gc l,(Ĥ a b).map gc,Ġ a b l,r,r,ę u,o,t5 B,xk G,k]}
def lI(b:akg V)(d:V f=aa o)(a:V s=ah):h s=ah:=by rcases e:h s with _|g;{rfl};{exfalso;by_cases c:s=f;{ext ā c d a};{rw[b s g e^by exists c]at a;ext a}}
def B6(a:aE)(c:đ)(b:Nat):n8 a c b= !(a.prods.any λd=>fR^dP a c b d):=by unfold n8 Bm;dsimp only;let g:∀(f:List bs)(e:Nat),(aBo f e a b c).isNone= !(f.any λd=>fR^dP a c b d):=by{intro f;induction f with|nil=>{intro e;rfl}|cons d f f=>intro e;rw[Hh,jk,jj];show(match fR^dP a c b d with|af=>õ d e|ay=>_).isNone=_;rcases h:fR^dP a c b d with _|_;{rwa[qx,f (e+1)]};{rfl}};calc g a.prods 0
def Kz(a:cJ D XL Xz)(b:akS):(pG (eg Xz) Xz.length).any id=fR XL:=by rw[e4,<-PH a b,kv];unfold pG;constructor;{ext ĳ a b c;ext ad' a b;calc#[a,k5.mp c]};{ext acU a b;let c:a<Xz.length:=by{let#[d,d,_]:=b;let:=ä d;(rw[lO]at this;assumption)};calc#[_,bE.mpr #[a,eC.mpr c,r],k5.mpr b]}
inductive xF(J E f A w I:ac)(q:Á)(a:ag)(s:aA)(v:aY):Prop|mk(b j k l m n c:ac)(o:Á)(t:Ĕ)(d:aE)(e:đ)(g:Nat)(h:þ)(_:q=[À b,Ê g])(_:g<=3)(_:ŭ h a b j k l m n c o t d e)(_:(∀p,a p=ah->h p))(_:∀i u,ŭ h i b j k l m n c o u d e->á c a i->s (.ah^n8 d e g) i)
def LZ(a:Ŭ "is_free" "Holder.is_free" 121 17 s M)(h:c9 m)(b:Ϯ)(e:adA)(k:as1)(p:aA4):ad1 9 s M ["self","kind"]^xF J E f A w I:=by calc ó a ["self","kind","production"] a c L c g n;let#[l,u,B,N,v,O,M,x,z,c,o,C,G,D,P,j,R,S]:=n;calc š D y 3 g;calc ϣ (aC^bt^su^awj h (arc (("production",2)) a (dC^apH) 2^.ad λ_ _ _ _ _=>Ü p y^ak (aed k 0 g^ë 1^ŵ 2) an));let T:=b2;nofun;let#[#[a,g],_,h,#[k,k],y]:=id j.ba;let Q:=y.syms;let U:agw x c:=bC k;let V:=y.most;left;calc#[l,w,u,ú j b,B,J,a,Ď g e,v,ahH h,Â g F];calc let k:ez:=(λa h=>∃p,gj (ŭ (λb=>G b/\b≠g) h l u B N v O M x p c o) (h g=aa^.lst^(ahN c a).map λe=>ab.ah^fR^dP c o C e)^aJ [M] L h);amw v x k #[z,j.dN F,as,aD.keep^a' F] (λa h _ #[_,W,_]=>aw.ad W.ba.lst) ?_ ?_;{intro a X h H n;nofun;let#[p,j,k,z]:=n;let#[G,Y]:=j.ba.prods;let#[e,G,Z]:=cK Y H;let H:=cq G;let Y:=y.a7 e H;let ag:=ä G;let am:aph c a e:=by{rw[dE,G];rfl};calc aeM #[adD l u j,B,N,v,O,M,x,p,c,o,C,X,e,_,r,P,j,λb a=>#[R b^lI z j.a1 a,ae9 u k a],#[H,awA Z],λl B D v G N l x x=>?_];let O:=tZ Q Y o P;let P:=l.len;let R:=i8 Q^y.kids e H;calc#[D,v,r,N,ī (ğ P R),Â v v];rw[Kz l O];let l:g≠M:=dk k j.a1^by{ext ı a};let D:=ϒ x g k l;let y:=v g _ D;let D:∀{b l},L b=aa l->b≠g:=λ{b l} a u=>by{ext ā u F a};calc#[_,y,by{rwa[aI,dD,amy (agv ag) V T]},B,?_,?_,Ô b l a u];{calc(É G v).own (λa=>a.2 r) y};{rw[as,am,cA];rfl};{rwa[ao^D a,v b l^x b l (z b l a u) u]}};{ext aja h n p j k z;rw[U,d0]at k;left;calc#[g,c.prods.map λe=>fR^dP c o C e,r,aw.ad^by{rw[k,dZ];rfl},Ý];let:=S h p (j.imp λ_ a=>a.1) z;rw[B6]at this;rwa[GS,this]}
abbrev pD(a:wQ):Á:=(a.first::a.rest).map ab.int
def BC(a:Ã):pD^hP a=aP (0::a):=by unfold pD hP;rw[dg,dZ];rfl
inductive kN(a b c d e f g:ac)(h:ag)(i:ac)(j:aE)(k:đ):Prop|mk(l m n o p q:ac)(s:Á)(t:Ĕ)(_:di a b c d e f (λu=>u≠g) h i l m n o p q s t j k)
abbrev c'(g h i j c d e:ac)(a:ag)(f:ac)(b:d5):Prop:=a d=agD/\(∃k,a e=à k)/\match b.held with|aa k=>kN g h i j c d e a f k b.assumes|ah=>b.assumes=[]/\∃b d e,a f=aa^.ae c b (aBp d e)
abbrev fh(n:ap)(e f g h i j o k:ac)(c:ag)(l:ac)(b:d5×wQ)(p:aA)(q:aY):Prop:=(b.2.first<0->∀d m a,dy n o b.2.first d m a->c' e f g h i j k a l b.1->eF c a->q d m a)/\(0<=b.2.first->∀a d,a d=aa^.lst^pD b.2->c' e f g h i j k a l b.1->eF c a->c d=ah->ĕ p d a)
variable{XO:ac}{Xp:d5}{ZF:rf}
def ju(b:h XO=aem):∀a,h a=ah->a≠XO:=λa a c=>by ext ā c b a
def kN.same(a:amQ h Yb H W7)(b:ŧ):amQ V Yb H W7:=let#[c,k,l,n,ad,u,v,y,C]:=a;#[c,k,l,n,ad,u,v,y,É C b]
def kN.one(a:amQ h Yb H W7):akW h Yb H W7:=by cases a with|mk b c ZF d e g i j a=>calc#[_,b,c,ZF,d,e,g,i,j,a]
def c'.same(c:amR)(a:ŧ):ŕ XO V Yb Xp:=by let#[d,#[e,g],b]:=c;calc#[a I _ d,#[e,a XO _ g],?_];rcases c:Xp.held with _|H;{rw[c]at b;let#[d,e,g,i,j]:=b;calc#[d,e,g,i,a Yb _ j]};{rw[c]at b;calc kN.same b a}
def c'.bZ(a:ac')(b:amR):amQ h Yb H Xp.assumes:=by let:=b.2.2;(rw[a]at this;assumption)
def c'.ad(b:ac')(c:h XO=aem)(a:amQ h Yb H Xp.assumes):amR:=by let#[d,d,d,d,d,d,d,d,d]:=id a;calc#[d.tab,#[O,c],?_];rwa[b,a]
def c'.bM(c:amR):∃a b d e,h Yb=aa^ł a [("grammar",b),apG d e]/\(b=.ar->Xp.held=ah)/\(b≠.ar->∃H,ac'):=by let:=c.2.2;rcases b:Xp.held with _|H;{rw[b]at this;let#[c,a,d,e,g]:=this;calc#[a,ů g,aep,λg=>zH r g]};{rw[b]at this;let#[a,b,b,b,d,e,b,b,b]:=this;calc#[a,_,_,_,b.ae,Ĝ c,λ_=>#[H,r]]}
def fh.no{c:Int}(e:as2)(g:amR)(i:acI ZF=(Xp,gU c))(j:c<0):∀a b V,dy d N c a b V->ŧ->XA a b V:=by rw[i]at e;calcλa b V i c=>e.1 j a b V i (É g c)^aD.aC c
def fh.e8(c:as2)(e:acI ZF=(Xp,gU Xb))(g:Xb<0):∀a b V,dy d N Xb a b V->ŕ XO V Yb Xp->afB->XA a b V:=by rw[e]at c;calcλa b V e i j=>c.1 g a b V e i j
def fh.dd{l:Ã}(b:as2)(c:acI ZF=(Xp,hP l)):∀V a,V a=ahO (0::l)->ŕ XO V Yb Xp->afB->h a=ah->Yj (À a) V:=by rw[c]at b;calcλV a c e g i=>b.2 (show afQ<=0 by decide) V a (by rw[c,BC]) e g i
def fh.cY(c:as2)(b:amR)(e:ac')(g:acI ZF=(Xp,hP D)):∀V a,V a=ahO (0::D)->amQ V Yb H Xp.assumes->afB->h a=ah->Yj (À a) V:=let#[_,k]:=b.2.1;λV a i j b l=>c.dd g V a i (c'.ad e (b XO _ k trivial) j) b l
def x1(c:ac')(a:Ã):acI^.arrows a=(Xp,aBq a b (λd e=>(ff H b).contains (d,e))):=by ext afC c
def uh(d:ac')(a:Int)(b:Ã):acI^.closure a b=(Xp,if ! hm a 0 then gU (-10)else aBq b c (λe f=>tL (dP H Xp.assumes a.toNat c) e f)):=by ext afC d
def ui(d:ac')(b:Int)(c:Ã):acI^.graph b c=(Xp,if ! hm b 1 then gU (-10)else match dp H c with|ah=>gU (-5)|aa e=>hP^((py H Xp.assumes b.toNat).filter λa=>a.1==e).flatMap λa=>[a.2.1,a.2.2]):=by ext afC d
def DE(a:ac'):acI .verdict=(Xp,hP^(bB 4).map λb=>if n8 H Xp.assumes b then 1 else 0):=by ext afC a
def x3(b:ac')(a:Int):acI^.circle a=(Xp,if ! hm a 0 then gU (-10)else px H Xp.assumes a.toNat):=by ext afC b
def pQ(g:ac')(a b c d e:Int)(f:Ã):acI^.way a b c d e f=(Xp,mD H Xp.assumes a b c d e f):=by ext afC g
def rK(d:ac')(a b c:Ã):acI^.why a b c=(Xp,match il H a b c with|Ϛ a=>gU a|.ok e=>mE H Xp.assumes e):=by ext afC d
def uj(d:ac')(a b:Ã):acI^.spread a b=(Xp,match il H a b b with|Ϛ a=>gU a|.ok c=>hP^f8^kJ H (c.1,c.2.1)):=by ext afC d
def DD(a:ac'):acI .rounds=(Xp,hP [awH 1,awH 2,awH 3]):=by ext afC a
def x2(d:ac')(a b c:Ã):acI^.assume a b c=(match il H a b c with|Ϛ a=>(Xp,gU a)|.ok e=>lC Xp H e):=by ext afC d
def x4(e:ac')(a b c:Ã):acI^.release a b c=(match il H a b c with|Ϛ a=>(Xp,gU a)|.ok d=>({Xp with assumes:=Xp.assumes.filter λf=> !(f==d)},{first:=if Xp.assumes.contains d then 1 else 0})):=by ext afC e
def DP(a:Ã):[Ŀ 0]++aP a=aP (0::a):=r
inductive xA(d:ap)(J E f A w I N:ac)(i:Á)(a:ag)(j:aA)(k:aY):Prop|mk(c b e:ac)(g:Ã)(h:d5)(_:i=acE b e)(_:a e=Ě g)(_:ŕ c a b h)(_:acJ c a b (bN h^.arrows g) j k)
def Kh(a:Ŭ "arrows" "Holder.arrows" 121 2 s M)(h:Χ)(k:afD)(n:awI)(p:avY):aeQ 12 ["self","name"]^awJ:=by calc ý a ["self","name","production"] u a a a a a a g b;let#[b,b,v,l,x,j,y,c,o]:=g;subst j;calc Ţ e 4 a z 2;calc adp (afE k e^apL 2 u n e 1^aC^bt^dT l0 aeN^Ü p z^aec 2^Θ 2);ext aBr L e k c b a o a p;ext amS n c p u u u u u u u z u;left;calc#[b,e,î k,b,v,l,a,ajm x n,y,?_];rcases j:lB a l with _|b;{calc o.no c (by rw[x1 p,j])^by decide};{ext ϐ e k g C;let#[B,l,D,e,e,e,O,Ä F e,n,G,_]:=g;let v:=u.a7 b B;let x:=u.syms;let y:=G.len;let z:=g3^az a b;let H:=i8 x^u.kids b B;let u:=mZ x v (Ze:=λ_=>[]) λ_ g c=>by{ext c};let u:c1 (az a b)^ff a b:=λB k c=>u B k^(kf v).mpr^Ð c;left;calc agC L L P g 0;calc#[afy l D g n h,afy l D g n h,O,F,Ĥ a b,e,r,(É n g).occ,g F _ n.own,anZ y z,ī (ğ z H),ê h l n h z];let z:=ul (Ĥ a b) e e.length;let:e.length*(4*apn a b)<=16*(4*16):=s1 (ğ y H)^by{lia};calc#[L,l,Ç,h L _ as,n,by{rw[aI];show 1+_<=_;lia},Â y l];let n:=aD.af (ac8 C g h)^Ϭ ([Ŀ 0]++aP^iw (Ĥ a b) e e.length) l;calc o.dd (l:=n7^n9 (ik a b) λB k=>(ff a b).contains (B,k)) (by rw[x1 p,j]) _ y ?_ (É c n) (aD.aC n)^(ac8 C g h).free l;rw[as,DP,Ql G u,r6 x v]}
def xq(a:hm Xb 0=af):∃b:Nat,Xb=b/\b<=3:=by ext aBs a;calc#[Xb.toNat,by{lia},by lia]
inductive xD(d:ap)(J E f A w I N:ac)(j:Á)(a:ag)(k:aA)(l:aY):Prop|mk(c b e:ac)(g:Int)(h:Ã)(i:d5)(_:j=[À b,Ì g,À e])(_:a e=Ě h)(_:ŕ c a b i)(_:acJ c a b (bN i^.closure g h) k l)
def Kk(a:Ŭ "closure" "Holder.closure" 121 6 s M)(B:Χ)(h:afD)(j:awK)(p:awI)(u:as1)(v:alU)(y:avY):aeQ 12 ["self","kind","name"]^awL:=by calc ý a ["self","kind","name","production"] z a a a a a a b c;let#[V,c,o,C,x,k,l,Q,e,n]:=b;calc š l D 8 a;calc Ţ b 4 a g 2;calc adp (afE h b^aq (bm^aew j b^Ø 1)^apL 3 z p b 2^aC^bt^dT l0 aeN^Ü y g^aec 3^ak (Ü v g^ak (aed u 0 D^ü 1 3) an) an);calc awM W b h e c a n a j X C u g g p (by rw[uh j,p];rfl) D C p;ext amS y p j v F G H L O Y P p;left;calc#[c,b,_,r,g c _ h,r,c,o,x,a,ajm k y,g o _ Q,?_];rcases l:lB a x with _|b;{calc akX h o x y z n e (by rw[uh j,u,l];rfl) g};{rintro h Q h o;let Z:=h;nofun;let#[R,S,ag,x,x,x,am,Ä x x,T,x,_]:=h;let U:=p.a7 b R;let x:=p.syms;let y:=g3^az a b;let z:=i8 x^p.kids b R;left;calc agC W R p h 0;let p:=((É P o).same h);calc#[afy S ag h T B,adD c v p,F,G,H,L,M,O,Y,a,k.assumes,D,_,b,_,r,C,p,ju^(ac8 g o h) V _ X,É Z h,λc Y B c P X S V V=>?_];let Z:=tZ x U k.assumes C;let W:=p.b2 V;let p:=S.len;calc#[B,c,r,X,ī (ğ p z),ê B ag ao B C];let X:=ϯ W B;let C:=lO c;calc#[am,ag,Ĥ a b,eg c,r,((É T h).occ).aC X,ao,bX (acD (ğ C^aZ p) y)^acD (ğ y^au p) C,ī (ğ y z),ê y T ag y am];let am:=ϯ X y;let X:=ul (Ĥ a b) (eg c) (eg c).length;let:(eg c).length*(4*apn a b)<=16*(4*16):=s1 (ai (ğ C^aZ p) z)^by{lia};calc#[R,T,Ç,am R _ as trivial,ag,by{rw[aI];show 1+_<=_;lia},Â z p];let C:=Ϭ ([Ŀ 0]++aP^iw (Ĥ a b) (eg c) (eg c).length) p;let c:=ac8 B y C;calc n.cY (D:=n7^n9 (ik a b) λn Q=>tL (ahS a k D b) n Q) e j (by rw[uh j,u,l];rfl) _ z ?_ #[v,F,G,H,L,M,O,Y,É P c] ((aD.aC^ac8 g o h).trans^ϯ W c) ?_;{rw[as,DP,Qj S Z,r6 x U]};{calc(ac8 g o h).free^lI V P.a1^(Ë B y).free p}}
def D9(c:Ζ)(a:ahB=akG):g<D.sum:=by let#[d,b,e]:=df.first a;let f:=(c Xc d b).2;let i:∀a,a<=g->∃b∈aK D,Η (g-a) b:=by{intro a;induction a with|zero=>{calcλ_=>#[d,f,e]}|succ a e=>intro f;let#[b,d,d]:=e^Đ f;let#[#[e,f,h],_]:=rY.mp^show Η (g-(a+1)+1) b by{rwa[show g-(a+1)+1=g-a by{lia},d]};calc#[e,(c b e f).2,h]};let c:∀a,∃b,a<=g->b∈aK D/\Η a b:=λa=>by{by_cases f:a<=g;{let#[b,j,h]:=i (g-a)^acP;rw[show g-(g-a)=a by lia]at h;calc#[b,λ_=>#[j,h]]};{calc#[W0,λd=>zH d f]}};let i:=oD (c:=(amo).map λa=>Classical.choose^c a) (a:=aK D) (by unfold GQ;rwa[o0,(uG (g+1)).imp_of_mem λ{k l} b d h f=>?_];let b:=eC.mp b;let d:=eC.mp d;let j:=(zy (c k)^ö b).2;let b:=(zy (c l)^ö d).2;rw[f]at j;let:=j.cz b;calc awa h) λe d=>by{ext ϓ a b d;let b:=eC.mp b;calc(zy (c a)^ö b).1};rw[aI,dU,g3]at i;calc i
universe v2539
set_option tactic.hygienic true in def yx{e:ŀ}:∀(c:Nat)(Xc:bc)(b:bc),b∈eE R e W0 c Xc->b∈e\/b=W0|0,_,b,a=>by{ext a}|1,_,b,a=>.inr^ċ a|c+2,Xc,b,a=>by unfold eE at a;ext Ĳ a;{rename_i f g;ext adQ a d;{rwa[d,.inl^List.mem_of_find?_eq_some g]};{calc yx (c+1) f b d}}
def EK(e:amg)(f:aoX):∀b∈aBt,b∈aK D:=by intro b a;unfold fr at a;rcases c:ahB with _|d;{ext Æ c a};{rw[c]at a;rcases bK.mp^show b∈Xc::ahC W0 d Xc from a with a|a;{rwa[a,e]};{rcases yx d Xc b a with a|a;{calc a};{rwa[a,f]}}}
def EJ(c:Ζ):(aBt).length<=D.sum+1:=by unfold fr;rcases b:ahB with _|d;{calc bF _};{ext ao0 b a d;let:=D9 c b;show(Xc::ahC W0 (a+1) Xc).length<=_;rwa[ce,uK c a Xc b,af6]}
def PF(h:Ζ):∀c∈awN,c∈aK D:=by intro c a;rw[rV h]at a;ext as3 d j;{ext Æ d a};{rw[d]at a;ext as4 k i d f b;ext ό g l b;rcases bK.mp^show c∈Xc::(ahC Xc g Xc).dropLast from a with b|b;{rwa[b,f]};{rcases yx g Xc c^List.dropLast_subset _ b with e|e;{calc e};{rwa[e,f]}}}
def PE(a:Ζ):(awN).length<=D.sum+1:=by rw[rV a];ext as3 e i;{calc bF _};{ext as4 j f e k g;ext ό d b g;ext ao0 b c d;let:=D9 a b;show(Xc::(ahC Xc (c+1) Xc).dropLast).length<=_;rwa[rW a b,cX this 1]}
def PG{R:Ħ}{D:Ã}(h:Ζ):awN≠[]↔fR R=af:=by rw[rV h];unfold fR;rw[kv];constructor;{intro f;ext as3 c i;{rw[c]at f;calc zH r f};{ext as4 j g c k a;let#[d,e,_]:=acR a;ext ao0 e b d;let#[b,l,_]:=df.first e;calc#[(Xc,b),l,r3.mpr ?_];by_cases b:ex R Xc Xc;{calc b};{let:=oA.mpr b;rw[this]at e;ext e}}};{rintro⟨a,l,f⟩ b;let m:=r3.mp f;let n:=(h a.1 a.2 l).1;rcases f:cY R a.1 a.1 with _|d;{calc oA.mp f m};{let h:(a.1::(ahC a.1 d a.1).dropLast)∈ir R^aK D:=fz.mpr #[a.1,n,by rw[f];rfl];ext as3 c i;{rw[PO c]at h;ext h};{rw[c]at b;let b:i=[]:=b;ext as4 j g c k a;let#[d,e,c]:=acR a;ext Æ b c}}}
inductive xV(d:ap)(J E f A w I N:ac)(p:Á)(a:ag)(q:aA)(s:aY):Prop|mk(c b e:ac)(g h i j k:Int)(l m:ab)(n:Ã)(o:d5)(_:p=[À b,Ì g,l,m,À e])(_:a e=Ě n)(_:eH a l [h,i])(_:eH a m [j,k])(_:ŕ c a b o)(_:acJ c a b (bN o^.way g h i j k n) q s)
def eH.same(a:ŧ)(b:eH h W4 Xi):eH V W4 Xi:=let#[c,k,l]:=b;#[c,k,a c _ l]
variable{aad:Int}{aaI:Int}{aaJ:Int}
def DT(b:hm Xb 0=af)(c:lB H D=aa Xw)(a:apM X5 aad=ah\/apM aaI aaJ=ah):aBu=gU (-12):=by unfold mD;rw[b,c];dsimp only;rw[an1];ext ĸ a;{rw[a]};{rw[a];cases apM X5 aad<;>rfl}
def Pe(a:hm Xb 0=af)(b:lB H D=aa Xw)(c:apM X5 aad=aa Yh)(d:apM aaI aaJ=aa Y0):aBu=hP (((awO).getD []).length::f8^(awO).getD []):=by unfold mD;rw[a,b];dsimp only;rw[ai0,c,d];dsimp only;cases awO<;>rfl
def rv:∀a:ŀ,(f8 a).length=2*a.length|[]=>r|a::b=>by show(a.1::a.2::f8 b).length=_;rw[ce,ce,rv b,ce];lia
def Cr(a:ij ZD Xb X5=aa Yh):Yh∈ZD:=by unfold ij at a;split at a;{rename_i b;ext a;exists b.2.2};{ext a}
def Kr(a:Ŭ "way" "Holder.way" 121 9 s M)(P:Χ)(n:afD)(o:awK)(u:awI)(j:ada 4 "occurrence_at" ["self","told","production"]^xM d f N)(v:as1)(x:asT)(z:asx):aeQ 12 ["self","kind","one","other","name"]^awP:=by calc ý a ["self","kind","one","other","name","production","start","target","found"] b a a a a a g a c;let#[aJ,c,p,B,Q,R,S,T,e,e,y,h,k,C,aL,aM,e,l]:=a;calc š k D 8 g;calc Ţ a 4 g F 1;calc al0 (afE n a^aq (bm^aew o a^Ø 1)^apL 5 b u a 4^aq (Ò 6 b^aew j a^ü 2 5)^aq (Ò 7 b^aew j a^ü 3 5)^aq (Ò 8 b^Ü x a^ak (aed v 0 D^ü 1 5)^ü 6 7)^aC^bt^dT l0 aeN^Ü z F^aec 5^Ø 8);calc awM aU n o e c a l a j aV B u b v b (by rw[pQ j];unfold mD;rw[b];rfl) x U g;ext amS b g j G V W X Y Z aY ag g;left;calc#[c,n,_,r,v c _ o,r,c,p,y,a,ajm h b,v p _ C,?_];rcases k:lB a y with _|b;{calc akX y z B C D l e (by rw[pQ j];unfold mD;rw[u,k];rfl) v};{rintro p p F am;let H:=F;nofun;let#[O,ao,aZ,L,L,L,a4,Ä L L,av,L,_]:=F;let aw:=g.a7 b O;let L:=g.syms;let F:=r6 L aw;let aA:=i8 L^g.kids b O;let g:=Ë v am;left;calc#[c,n,_,r,g c _ o,r,ů Q,R,a,b,r,É aL g,H,?_];rcases O:ij (Ĥ a b) Q R with _|v;{calc akX y z B C D l e (by rw[pQ j,DT u k^.inl^by rwa[F,O]]) g};{let Q:=Cr O;calc#[c,n,_,r,g c _ o,r,ů S,T,a,b,r,É aM g,H,?_];rcases n:ij (Ĥ a b) S T with _|p;{calc akX y z B C D l e (by rw[pQ j,DT u k^.inr^by rwa[F,n]]) g};{let z:=Cr n;let o:=(É ag am);calc#[adD c G o,V,W,X,Y,M,Z,aY,a,h.assumes,x,_,b,_,r,U,o,ju^g aJ _ aV,H,λc S H R y T c B B=>?_];let C:=tZ L aw h.assumes U;let D:=o.b2 B;let o:=c.len;calc#[H,R,az a b,ahS a h x b,v,p,r,T,c,C,Q,z,aev aA,y.tab,ê c H T o c];calc agC aU L R c 0;let R:=(ϯ D o).trans^aD.aC c;let U:=R ao _ av.ae r;let ag:=EJ (D:=az a b) (Xc:=v) (W0:=p) C;calc#[ao,f,aZ,Ď U P,a4,H,az a b,awQ a h x b v p,r,av.occ.aC R,c H _ T,EK Q z,ī (ai ag^aF aA 1),ê z C H z P];calc#[L,C,Ç,z L _ as,H,by{show 1+(aP _).length<=_;rw[aI,ce,rv];lia},Â H C];let L:=Ϭ ([Ŀ 0]++aP ((awQ a h x b v p).length::f8^awQ a h x b v p)) C;let a:=aD.af (ac8 o c z) L;calc l.cY e j (by rw[pQ j,Pe u k (by rwa[F,O])^by rwa[F,n]]) _ H ?_ #[G,V,W,X,Y,M,Z,S,É y a] (agF g^ϯ D a) ?_;{rw[as,F];rfl};{calc g.free^lI B y.a1^(ac8 o c z).free C}}}}
def K'(a:aE)(d:đ)(b:Nat)(k:a.prods[g]?=aa Xw)(l:fR^dP a d b Xw=af)(i:∀e f,e<g->a.prods[e]?=aa f->fR^dP a d b f=ay):Bm a d b=aa (Xw,g):=by let m:∀(h:List bs)(c g:Nat),h[g]?=aa Xw->(∀e f,e<g->é h e f->fR^dP a d b f=ay)->(aBo h c a b d)=aa (Xw,c+g):=by{intro h;induction h with|nil=>{intro c g h;simp at h}|cons j n n=>intro c g h i;rw[Hh,jk];ext aiB;{obtain⟨⟩:=h;show(match fR^dP a d b Xw with|af=>aa (Xw,c)|ay=>_)=_;rw[l];rfl};{show(match fR^dP a d b j with|af=>õ j c|ay=>_)=_;rw[i 0 j (aea 1) r];let:=n (c+1) g h λe f b d=>i (e+1) f (aF b 1) d;rwa[show c+(g+1)=c+1+g by{lia},this]}};let:=m a.prods 0 g k i;(rw[kA]at this;assumption)
def MU(a:aE)(c:đ)(d:Nat)(f:∀b e,b<a.prods.length->a.prods[b]?=aa e->fR^dP a c d e=ay):Bm a c d=ah:=by let e:n8 a c d=af:=by{rw[B6,nh];rw[sK];intro c d;ext acF b a g d;rw[f b c a^by rw[bi a,g]];decide};unfold n8 at e;calc Option.isNone_iff_eq_none.mp e
inductive xC(d:ap)(J E f A w I N:ac)(h:Á)(b:ag)(i:aA)(j:aY):Prop|mk(c a:ac)(e:Int)(g:d5)(_:h=[À a,Ì e])(_:ŕ c b a g)(_:acJ c b a (bN g^.circle e) i j)
def Kj{bP:ac}{l:b'}(cZ:Ŭ "circle" "Holder.circle" 121 8 bP l)(bS:c9 m)(bZ:Ϯ)(b0:adA)(b3:Χ)(c0:afD)(c1:awK)(c2:as1)(c3:aA7)(c7:asx):ϊ ε 12 bP l ["self","kind"]^awR:=by calc ý cZ ["self","kind","number","production","found"] aA eB eG eH eI eJ M x eK;let#[O,k,da,c,n,s,y]:=x;calc š n df 8 M;calc ac3 dj 5 M;calc Ţ b8 4 M dk 1;calc bl.mk (afE c0 b8^aq (bm^aew c1 b8^Ø 1)^aq (dM gm r (adu bS^awS) (jI r^awT 2 aA 3)^aq (Ò 4 aA^Ü c3 dj^ak (aed c2 0 df^ü 1 3) an)^aC^bQ (bR l1 (Ũ bS^Ø 4) a7^bH _) (aC^bt^dT l0 (dB^ad7^Ø 2)^Ü c7 dk^aec 3^Ø 4) b6)^aC^bt^aeN) ?_;calc awM ca aJ aM s k P y a z cb da cc Q o dz (by rw[x3 z,dz];rfl) e cf dA;let#[u,B,R,C,S,l,v,dC,dH]:=dA.bZ z;let T:=dH;let aU:=T.ba.bg;let#[#[dJ,dK],_,dL,_]:=id T.ba;let cg:bN c^.circle e=(c,px a c.assumes e):=by{rw[x3 z,cc];rfl};let aV:=aU.syms;left;calc#[k,w,u,ú T bZ,B,J,dJ,Ď dK b0,C,_,r,ę dL,?_];calc let dQ:cW:=(λj U V=>h4 λaY aZ a4 dR=>g8 (U=[Ń k e,aY,aZ,a4]) (ŭ (λh=>h≠O) V k u B R C S l v dR a c.assumes) (eF Q V) ((∀h,V h=ah->Q h=ah)) (∀p n,p<j->a.prods[p]?=aa n->fR^ahS a c e n=ay));kS (O:=v) dQ #[ů dC,r,T,aD.aC^aL.refl _,λ_ g=>g,ahw p n ba] (λj U V _ #[ć,_,dS,_]=>aw.ad dS.ba.lst) ?_ ?_;{intro j D W U X dW x dX;nofun;let#[aY,aZ,Ä a4 bf,F,Y,bh,G]:=x;let#[d1,bj]:=F.ba.prods;let#[b,bk,d2]:=cK bj dW;let bq:=cq bk;let ck:=aU.a7 b bq;let cl:=i8 aV^aU.kids b bq;calc awx Z [Ê j,D] dX W;let ag:=É F Z;let br:=ϯ Y Z;let cm:∀h,(act X W [Ê j,D]) h=ah->Q h=ah:=λh g=>bh h^Z.free g;let bv:j4 f (act X W [Ê j,D]) a D b:=#[bq,de.same Z^awA d2];generalize agz X W [Ê j,D]=eO at ag br cm bv;calc#[adD k u ag,B,R,C,S,l,v,bf,a,c.assumes,e,_,b,_,r,cf,ag,ju^br O _ (o O _ cb) trivial,bv,λeP cn d6 d7 ao d8 cs eQ ct=>?_];let av:=tZ aV ck c.assumes cf;let cx:=ag.b2 ct;let eR:=cs.len;calc#[d6,d7,az a b,ahS a c e b,r,d8,cs,av,aev cl,ao.tab,Ô d9 bA cy H];let cz:∀h,d9 h=ah->Q h=ah:=λh g=>cm h^lI ct ao.a1^H.free g;let cB:=br.trans^ϯ cx H;calc#[bA,_,Ϣ cy,Ç,Ý];let cC:=PG (D:=az a b) av;let ea:=PE (D:=az a b) av;let eg:(aP^oe (az a b)^ahS a c e b).length=(akY a c e b).length:=by{unfold oe;rw[aI,aI]};rwa[eg,Õ g];{let g:0<(akY a c e b).length:=by{let g:=zI g;calc gO g};let eh:=cC.mp^qD.mp g;let bG:=K' a c.assumes e bk eh G;nofun;let#[eS,cF,ei,eT,eZ,e0,em,e1,e2,en,cG,e3,_]:=bv.aC^ϯ cx H;subst en;left;calc apu ca cI eo;let L:=Ϭ [Ŀ 0,ù j] eo;calc#[afy cF ei L cG b3,em,bA,az a b,akY a c e b,r,(É cG L).occ,L bA _ cy,PF av,ī (ai ea^aF cl 1),ê e7 ep eq bL e8];calc#[cI,ep,Ç,bL cI _ as,eq,by{show 2+(aP _).length<=_;rw[aI,ce,rv];lia},Â cJ cM];let er:=Ϭ ([Ŀ 0,ù j]++aP ((akY a c e b).length::f8^akY a c e b)) cM;let cS:=ac8 L bL er;calc y.cY (D:=j::(akY a c e b).length::f8^akY a c e b) s z ?_ _ cJ ?_ #[u,B,R,C,S,l,v,cn,ao.same^Ë H cS] (agF o^ϯ cB cS)^o.free^cz cJ^(Ë L bL).free cM;{rw[cg];unfold px;ext adO bG;rw[r6 aV ck];rcases es:iR (ahS a c e b)^Ĥ a b with _|e9;{rw[es]at g;calc aoF g};{rfl}};{rw[as];rfl}};{calc#[ů cn,r,É ao H,cB,cz,Ô p n ba bM];by_cases P:p<j;{calc G p n P bM};{nofun;obtain rfl:p=j:=bX (ö ba)^c8 P;ext agr bk bM;rcases ev:fR^ahS a c e b with _|_;{rfl};{let:=qD.mpr^cC.mpr ev;calc zH (zJ^by show afQ<_;calc hd this) g}}}};{ext Č U X x;let#[aY,aZ,Ä a4 bf,F,Y,bh,G]:=x;let ew:agw v a:=by{nofun;let#[d1,bj]:=F.ba.prods;left;calc bC bj};rw[ew]at G;let bG:=MU a c.assumes e G;let ex:px a c.assumes e={first:=1}:=by{unfold px;rw[bG]};left;calc agC ca cU cX bO 1;rw[cg,ex]at y;calc y.2 (by show afQ<=1;decide) _ cU as (c'.ad z ((agF o^ϯ Y bO) O _ cb trivial) #[u,B,R,C,S,l,v,bf,É F bO]) (agF o^ϯ Y bO)^o.free^bh cU cX}
abbrev rw(a:aE)(b:đ)(c:Nat):Nat:=if n8 a b c then 1 else 0
inductive xU(d:ap)(J E f A w I N:ac)(g:Á)(b:ag)(h:aA)(i:aY):Prop|mk(c a:ac)(e:d5)(_:g=æ a)(_:ŕ c b a e)(_:acJ c b a (bN e .verdict) h i)
def Kq(b:Ŭ "verdict" "Holder.verdict" 121 7 s M)(a:mI m)(e:afD)(g:Ϥ aO 9 w "is_free" ["self","kind"]^xF J E f A w I):aeQ 12 ["self"]^awU:=by calc ý b ["self","kind"] b c o c c c c p h;let#[U,u,k,h,v,V]:=p;subst h;calc Ţ h 9 c j 4;calc adp (afE e j^aC^bt^dT l0 aeN^arc (("kind",1)) b (sx^fm^ak (bG a.own)^asY a) 1^.ad λ_ _ _ _ _=>zh (fc^aed g 0 h^Ø 1) a7 a7);ext ajn z a b v u b V l H aA;let#[B,L,O,P,Q,M,R,G,a]:=v.bZ H;let h:=a;left;calc agC z c a e 0;calc#[by{show 4<=a9;calc awV^au z},Â j g];let a:=a' (o:=amP) g;calc#[j,r,#[_,bw.ad as],Â g n];let y:=a c _ as;let F:=(É h e).same a;let C:=Ë e a;let D:(am (am o c^adC) j^amP) j=aa^amP:=as;generalize am (am o c adC) j amP=aY at n y F C D⊢;let X:c≠g:=Ę b n y;let Y:j≠g:=Ę b n D;calc let Z:ez:=(λe h=>∃x,iB (ŭ (λa=>a≠U/\a≠g) h u B L O P Q M R x l k.assumes) (h g=aa^.lst^aP^afr e^rw l k.assumes) (h c=aa^adC) (h j=aa^amP) (eF o h) ((∀a,h a=ah->o a=ah)));SE (d:=d) (f:=j) (O:=[Ŀ 0,Î 1,Î 2,Î 3]) Z #[G,F.dN n,as,by{rwa[ao X,y]},by{rwa[ao Y,D]},agF C^aD.aC^a' n,λa b=>C.free^(a' n).free b] (λe h _ #[ć,aM,_]=>bw.ad aM) ?_ ?_;{intro e aJ h G p;nofun;let#[x,y,D,S,aw,F,T]:=p;let az:e<4:=ä G;let aK:aJ=Ê e:=by{rcases e with _|_|_|_|e;iterate 4 {calc ŝ G};ext G};subst aK;calc aeM #[adD u B y,L,O,P,Q,M,R,x,l,k.assumes,e,_,r,ö az,y,λa c=>#[ju (ac9 F U aA) a c,ae9 b D c],Ô U aS aA aJ];let G:=y.b2 aJ;let aK:=ac9 G g D;let aU:∀{a u},o a=aa u->a≠g:=λ{a u} o aV=>by{rw[aV,C.free n]at o;ext o};let n:∃o,U g=à o/\aij o/\Z (e+1)^adX U g (o++[.int (rw l k.assumes e:Nat)]):=by{calc#[_,aK,by{rwa[aI,aI,dU,awV^ē az 16777212^au z]},aS,aA.own (λc=>c.2 r) aK,?_,by{rwa[ao X,ac9 G c S]},by{rwa[ao Y,ac9 G j aw]},λa u b j=>by{rwa[ao^aU b,G a u (F a u b j) j]},Â a b];{rw[as,hg,cA];unfold aP;rw[cA];rfl};{by_cases aL:a=g;{ext aio aL b};{rw[ao aL]at b;calc T a^lI aJ aA.a1 b}}};unfold rw at n;rcases b:n8 l k.assumes e with _|_;{rw[b]at n;calc(λ#[W,a,ag,av]=>#[_,r,#[W,a,ag,av]]:_->_) n};{rw[b]at n;calc(λ#[W,a,ag,av]=>#[_,r,#[W,a,ag,av]]:_->_) n}};{intro h p;nofun;let#[x,y,D,S,aw,F,T]:=p;left;calc#[c,g,Ç,S,D,by{rw[aI,aI,dU];show 1+4<=_;calc aX (W1:=16777211)^au z},Â a b];let e:=Ϭ ([Ŀ 0]++aP^(bB 4).map^rw l k.assumes) b;calc V.cY (D:=(bB 4).map^rw l k.assumes) v H (by rw[DE H];rfl) _ a as #[B,L,O,P,Q,M,R,x,(É y e).imp λ_ c=>c.1] (ϯ F e)^T a b}
def Mz(d:gw H W7 g (dn H W7) agG XE)(a:B=0\/B∈XE.map (·.2))(e:∀b∈XE.map (·.2),b<=B):B=agG:=by let f:=rZ H W7 g^dn H W7;let h:B<=agG:=by{ext ň a a;{calc ğ a^bF _};{let#[#[b,i],c,rfl]:=bE.mp a;calc((d.iff b i).mp c).1}};by_cases a:agG=0;{calc bX h^ğ a^bF _};{let#[b,a,h]:=f.2.1 (agG-1)^by{lia};rw[show agG-1+1=agG by lia]at a;let:(b,agG)∈XE:=(d.iff b _).mpr #[a5 _,a,λa b c=>h^(lP H W7 g^dn H W7).cX (show a<=agG-1 by lia) c];let:=e _^bE.mpr #[_,this,r];let:=show agG<=B from this;lia}
abbrev CD(a:aE)(b:đ)(c:Nat):Nat:=es a b (c+1)^dn a b
inductive xQ(d:ap)(J E f A w I N:ac)(g:Á)(b:ag)(h:aA)(i:aY):Prop|mk(c a:ac)(e:d5)(_:g=æ a)(_:ŕ c b a e)(_:acJ c b a (bN e .rounds) h i)
def Ko(a:Ŭ "rounds" "Holder.rounds" 121 12 s M)(T:Ϯ)(b:mI m)(e:afD)(g:apJ 7 ag6)(h:Ϥ aO 1 A "last_round" ["self"]^C8 A):aeQ 12 ["self"]^awW:=by calc ý a ["self","told","kind"] c a l a a a a n j;let#[S,k,y,j,o,U]:=n;calc ajg j j a p 7;calc Ţ u 4 a v 1;calc adp (afE e u^aq (Ò 1 c^aeN)^Α (age (sx^fm^asY b) 2 c^aq (bm^aed g 0 p^Ø 2)^aiU 1 (cT h (iD j (ă 0)^ae 2) v bd)) 1);ext ajn a b c o k b U z G X;let#[p,H,L,O,P,M,Q,V,c]:=o.bZ G;let e:=c;let aK:=e.ba.bg.syms;left;calc agC a c B h 0;let j:=e.dN (o:=adC) B;calc#[by{ext apq a},Â g e];let a:=a' (o:=akZ) e;calc#[g,r,#[_,bw.ad as],?_];let v:=a c _ as;let F:=É j a;let x:=Ë h a;let D:(am (am l c^adC) g^akZ) g=aa^akZ:=as;generalize am (am l c adC) g akZ=bg at v F x D⊢;let aL:g≠c:=acA D v h;calc let W:cW:=(λe C j=>lY λR u=>iB (C=[È k,È c,R]) (ŭ (λa=>a≠S/\a≠c) j k p H L O P M Q u z y.assumes) (j c=ahO (0::afr e^CD z y.assumes)) (j g=aa^akZ) (eF l j) ((∀a,j a=ah->l a=ah)));vd (d:=d) (f:=g) (O:=[Ŀ 1,Î 2,Î 3]) W #[_,V,r,F,v,D,aD.aC x,λa b=>x.free b] (λe C j _ #[ć,_,aM,_]=>bw.ad aM) ?_ ?_;{ext Ϧ e Y C j x n;let#[Ä R u,v,D,V,F,W]:=n;let Z:e<3:=ä x;let ag:Y=.int (aj4 e):=by{rcases e with _|_|_|e;iterate 3 {calc ŝ x};ext x};subst ag;left;right;calc#[adD k p v,H,L,O,P,M,Q,u,z,y.assumes,e+1,_,r,trivial,Z,v,λa h=>#[ju (ac9 F S X) a h,ae9 b D h],λx aS x ag _ _ X=>?_];let S:=v.b2 X;let Y:=ac9 S c D;let aU:=ac9 S g V;nofun;let#[aA,Z]:=f4.mp^ag^aea 1;let#[ag,av,aV,aY,Ä aZ a4,az,a8,ba]:=x.bQ (e+1) aA Z;let#[ba,aA,_]:=az.au;let bf:=az.aM aK;let az:=dW.k (b:=bz (aj4 e)) x.a1;rw[Z]at az;left;calc#[Ŕ Y,k,w,p,ú x T,M,_,r,az,adD ag av aA,aV,aY,aZ,a4,ba,r,aA,aev bf,ê e e k T e];rw[Mz a8 k T];let T:=e c _ Y;let Y:∀{a k},l a=aa k->a≠c:=λ{a k} l Z=>by{ext ā Z B l};calc#[c,Ç,T,by{rw[aI,ce,aI,dU];lia},_,aS,r,(É x e).own (λh=>h.2 r) T,?_,by{rwa[ao aL,e g _ aU]},λa k b g=>by{rwa[ao^Y b,e a _^S a k (F a k b g) g]},Â a b];{rw[as,hg,cA];ext awX};{by_cases aJ:a=c;{ext aio aJ b};{rw[ao aJ]at b;calc W a^lI X x.a1^e.free b}}};{ext Č C j n;let#[Ä R u,v,D,V,F,W]:=n;left;calc(U.cY (D:=(bB 3).map^CD z y.assumes) o G (by rw[DD G];rfl) _ c D #[p,H,L,O,P,M,Q,u,v.imp λ_ h=>h.1] F B)}
def Mw(b:hm Xb 1=af):∃a:Nat,Xb=a/\1<=a/\a<=3:=by ext aBs b;calc#[Xb.toNat,by{lia},by{lia},by lia]
abbrev oo(b:Nat)(a:đ):Ã:=(a.filter λa=>a.1==b).flatMap λa=>[a.2.1,a.2.2]
def Ct(a:Nat):∀b:đ,(oo a b).length<=2*b.length|[]=>a5 _|c::b=>by let:=Ct a b;unfold oo at*;rw[eM,ce];split;{rw[kx,cO];show 2+_<=_;lia};{lia}
def Cs(b:Nat)(c:đ)(a:bf):oo b (c++[a])=oo b c++if a.1==b then[a.2.1,a.2.2]else[]:=by unfold oo;rw[iJ,l6];congr 1;rw[eM];split<;>rfl
inductive xH(d:ap)(J E f A w I N:ac)(j:Á)(a:ag)(k:aA)(l:aY):Prop|mk(c b e:ac)(g:Int)(h:Ã)(i:d5)(_:j=[À b,Ì g,À e])(_:a e=Ě h)(_:ŕ c a b i)(_:acJ c a b (bN i^.graph g h) k l)
def Kl(a:Ŭ "graph" "Holder.graph" 121 5 s M)(j:c9 m)(O:Ϯ)(P:agA)(b:mI m)(k:ϑ N "NoSuchKind" (-10))(n:afD)(p:awD)(u:apJ 7 ag6):aeQ 12 ["self","kind","name"]^awY:=by calc ý a ["self","kind","name","number","told","pair"] c a H a a a a y e;let#[Z,e,D,v,o,z,l,Q,g,F]:=y;calc ajg l x a B 7;calc Ţ h 4 a C 3;calc bl.mk (afE n h^aq (acz (bR zd (ae 1) (fm^asY b)^by ext aeY) k C)^apL 3 c p h 2^aq (bm^aed u 0 B^Ø 1)^aq (Ò 4 c^aeN)^Α (age (dC^c4 (KH r) r j.sorted boot_sorted^ak (a3 (iD x (ă 0)^ae 1) r) an) 5 c^aC^ad3 (br dr (ae 5) a7) (ae 3) (aC^bm^akJ rz (ae 4)^ak (qn Gv (ae 5) (l2 a7) zi) an) b6) 4) ?_;ext ajn R b k g e c F n B ag;left;calc#[by{ext apq R},Â C h];let a:=a' (o:=akZ) h;calc auP C;rw[zG r,Ms];rcases G:hm v 1 with _|_;{calc akX p j u v x F g (by rw[ui B,G];rfl) a};{nofun;let#[h,rfl,S,T]:=Mw G;left;generalize am H C akZ=aY at a;let H:=É g a;let C:=H.bZ B;nofun;let#[H,U,V,W,X,M,Y,ai,L]:=id C;let av:=L.ba.bg;let az:=av.syms;left;calc#[e,b,_,r,a e _ k,r,e,D,o,n,ajm z C,a D _ Q,?_];rcases l:dp n o with _|o;{calc akX p j u v x F g (by rw[ui B,G,l];rfl) a};{intro b k;let b:=(É L k);let Q:=Ë a k;calc#[adD e H b,U,V,W,X,M,Y,ai,n,z.assumes,h,_,r,trivial,T,b,ju^Q Z _ ag,λL aA C a _ _ Z=>?_];let aF:=b.b2 Z;nofun;let#[b,k]:=f4.mp^a S;let#[av,j,aK,a,Ä a ag,a,p,p]:=C.bQ h b k;let#[b,x,_]:=a.au;let b:=a.aM az;let b:=akL h C.a1;rw[k]at b;left;calc agC R b R v 0;let p:=É C v;let u:=É x v;let ai:(am L b^adC) b=aa^adC:=as;let x:=akL h p.a1;rw[k]at x;calc#[e,w,H,ú p O,M,_,r,x,av,A,j,ú u P,aK,ag,r,u.a',a.ak,λp u j x O k av=>?_];let aK:j=py n z.assumes h:=by{calc EN PS PT k ?_ (Í k);{rwa[xf n z.assumes S T,PM _]};{rwa[O.mem_iff,a.mem k]}};let a:Ē j ag:=by{rw[O.length_eq,aI]};let aM:Ē u j:=bC av;let O:=a' (o:=(ϔ u)) x;let P:(am (am L b^adC) p^ϔ u) p=aa^ϔ u:=as;let S:=O b _ ai;let ag:=ï av λl k a=>O l _ a;let av:=Ë v O;let az:p≠b:=Ę c ai x;generalize am (am L b adC) p (.lst (π u))=aS at P S ag av;calc ahL p P;calc let ai:cW:=(λv O x=>∃T,gj (O=[Ń e h,Ń D o,È b,T]) (x b=ahO (0::oo o^Ğ j v))^á b aS x);h6 (O:=(π u)) ai #[_,r,S,λe u a _=>a] (avR v O x aU p P az) ?_ ?_;{ext Ϧ v p O x ai y;let#[T,rfl,p,D]:=y;ext afa ai P aV;let#[k,ai,az]:=cK ag aV;let ag:=ä ai;let ag:P≠b:=acA az S a;let S:=ϒ D P az ag;ext asP ag j v k ai;let ai:=Ct o^Ğ j v;rw[dD]at ai;left;right;calc#[P,Œ S,r,r,Ý];calc Õ a;{let a:k.1=o:=by{ext aiu a};calc#[Ŕ p,_,r,P,_,r,bw.ad S,by{show¬(ck 3 0^aa 1=0/\ck 3 3 ah=3);decide},Â v P];let j:=a' (o:=.tup^gk (iZ k) (aa 1) ah) P;let P:=j b _ p;calc#[b,v,Ç,P,as,?_,Ý,Ô e u c v];{rw[aI,ce];show _+2<=_;lia};{rw[as,ag,Cs,zG^by exists a];ext awX};{rwa[ajj v,j e u^D e u c v]}};{let a:k.1≠o:=λc=>a^by{rwa[c,zJ r]};calc#[Ý,D];rw[p,ag,Cs,aix a,fd]}};{ext akv O x y T p D;rw[aI,aM,d0,aK]at p;let a:aL L x:=λe u c=>D e u (av e u c)^by{simpa using(λj:e=b=>by ext ā j R c)};left;calc(F.cY (D:=oo o^py n z.assumes h) g B (by rw[ui B,G,l];rfl) _ b p #[H,U,V,W,X,M,Y,aA,É C a] (agF Q^ϯ aF a)^Q.free^lI Z C.a1 R)}}}
def B4:∀(b:ŀ)(a:bc),f8 (b++[a])=f8 b++[a.1,a.2]|[],a=>r|b::c,a=>by show b.1::b.2::f8 (c++[a])=b.1::b.2::f8 c++[a.1,a.2];rw[B4 c a];rfl
inductive xR(d:ap)(J E f A w I N:ac)(k:Á)(a:ag)(l:aA)(m:aY):Prop|mk(c b e g:ac)(h i:Ã)(j:d5)(_:k=[Ū b e,À g])(_:a e=Ě h)(_:a g=Ě i)(_:ŕ c a b j)(_:acJ c a b (bN j^.spread h i) l m)
def Kp(a:Ŭ "spread" "Holder.spread" 121 11 s M)(Q:Ϯ)(e:afD)(h:awD)(n:aBh)(o:aAF):aeQ 12 ["self","name","attribute"]^awZ:=by calc ý a ["self","name","attribute","symbol","told","other"] a b Y b b b c p b;let#[b,g,R,u,k,S,T,l,y,Z,j,v]:=p;subst l;calc Ţ b 4 c x 3;calc adp (afE e b^apL 3 a h b 1^aq (Ò 4 a^aeN)^Α (dM gm r (dC^Ü o x^aec 0^ak (fm^acW 3 (aew n b^ü 3 2)) an) (aky 5 a)^aC^bm^akJ rz (ae 4)^Ø 5) 4);ext ajn U a c j g h v b x e;ext amS e j x V ag ai av n az n W X;let o:=X.syms;left;calc#[g,a,î c,g,R,k,b,ajm T e,y,?_];rcases l:dp b k with _|a;{calcλn z B C D=>v.no j (by rw[uj x];unfold il;rw[l]) (by decide) n z B C D};{intro F y;nofun;let#[G,_]:=p3 l;left;calc agC U c H L 0;let k:=Ë y L;let O:(am F c^adC) c=aa^adC:=as;generalize am F c adC=aF at L k O;let P:=É W k;calc#[g,w,V,ú P Q,g,V,_,r,P.ae,r,g,u,a,S,b,T.assumes,r,(É e k).one,G,k u _ Z,?_];rcases Q:j0 (fg b a) S with _|e;{calc akX n z B C D v j (by rw[uj x];unfold il;ext adO l;rw[Q]) k};{intro z C;let D:=w8 o Q;calc apu U k n;let S:=ac1 [ù a,ù e] n;let B:(act z k [ù a,ù e]) k=aa^.tup [ù a,ù e]:=as;let n:=Ë C S;generalize agz z k [ù a,ù e]=aM at B n;let z:=É P n;nofun;let#[#[C,P],S,T,U,_]:=id z.co;left;calc#[ag,C,ai,av,k,az,_,b,(a,e),r,P,S,T,U,X,#[k,r,B],hs.mpr #[by{rwa[pV,G]},by rwa[rX G,D]],ê D B C z k];nofun;let#[G,P,S]:=C;let V:G.length=(kJ b (a,e)).length:=bC S;let C:(kJ b (a,e)).length<=48:=by{rw[EO o];let:=ky (λT=>(ri (n' b) (a,e)).contains T)^aK^ct b;let:=g3^ct b;let:=ux o;lia};let U:=Ÿ z c n O;let W:B≠c:=λh=>by{rw[h]at k;rw[n c _ O]at k;ext k};let O:aL F D:=Ë L^Ë n z;left;calc ahL B P;calc let k:cW:=(λn z o=>∃C,gj (z=[È g,È R,Ń u a,È c,C]) (o c=ahO (0::f8^(kJ b (a,e)).take n))^á c D o);ahK G k #[_,r,U,λg k D _=>D] (avR n z o aA B P W) ?_ ?_;{ext Ϧ n T z o L p;let#[C,rfl,u,B]:=p;let#[P,F,#[g,rfl,G]]:=cK S L;let L:=ä F;let L:g≠c:=acA G U D;let D:=ϒ B g G L;let G:(kJ b (a,e)).take (n+1)=(kJ b (a,e)).take n++[P]:=by{rw[dE,F];rfl};let F:=rv^(kJ b (a,e)).take n;rw[dD]at F;left;right;calc#[Ŕ u,c,g,Ç,u,D,?_,Ý,Ô D k h n];{rw[aI,ce];show _+2<=_;lia};{rw[as,G,B4];ext awX};{rwa[ajj n,B D k h n]}};{ext akv z o p C u B;rw[V,d0]at u;let n:aL Y o:=λg k h=>B g k (O g k^y g k h)^by{simpa using(λo:g=c=>by let:=y g k h;ext af4 o H)};left;calc(v.dd (l:=f8^kJ b (a,e)) (by rw[uj x];unfold il;ext adO l;rw[Q]) _ c u (É j n) (aD.aC n)^y.free H)}}}
def w4(H:aE)(W7:đ)(XK:bJ)(B:Nat):Ju H W7 B=aeR:=yw _ _ _
def Kb(e:gw H W7 1 XK Xu XE)(f:B<Xu)(T:bf):T∈(gb XE (B+1)).map (·.1)↔T∈aeR:=by rw[bE];unfold gb;constructor;{rintro⟨⟨g,a⟩,d,rfl⟩;let#[c,b]:=ϕ d;let b:a<B+1:=zI b;let#[_,h,_]:=(e.iff g a).mp c;calc(lP H W7 1 XK).cX (show a<=B by calc ö b) h};{intro d;let#[a,c,b]:=yi d;calc#[(T,a),dc.mpr #[(e.iff T a).mpr #[acT c f,b],zJ^show a<B+1 by calc aF c 1],r]}
def Lk(b:cs H Xw)(d:∀T,T∈XK↔T∈Zp)(a:b5):a∈ep H Xw^cM [] XK ah↔a∈ep H Xw^cM [] Zp ah:=by let#[e,e]:=a;rw[kf b,kf b];let:∀a T,T∈cM [] XK ah a↔T∈cM [] Zp ah a:=λa T=>by{unfold cM;by_cases c:a=0;{simp[c]};{simp[c,d T]}};simp only[this]
def DS(a:cs H Xw)(b:∀T,T∈XK↔T∈Zp)(T:bf):fj H XK T Xw=fj H Zp T Xw:=by unfold fj g2;rw[EL^Lk a b]
def xx:fr XL ZD Yh Y0=ah↔¬ex XL Yh Y0:=by unfold fr;rwa[Option.map_eq_none_iff,oA]
variable{abW:List bc}
def Oa(a:fr XL ZD Yh Y0=aa abW):abW≠[]:=by unfold fr at a;let#[b,_,rfl]:=acR a;simp
def Kg(b:agt)(c:cs H Xw)(a:bJ)(d:T∈cP H):fj H a T Xw≠[]↔T∈n5 H a Xw:=by let e:=(iu b).mp d;rw[show n5 H a Xw=i5 H 1 [] a Xw from r,m1 b c];unfold fj;constructor;{intro b;split at b;{rename_i d;calc#[0,r,d,e.2.1,?_];unfold g2 at b;by_cases c:ex (ep H Xw^ai3 a) (0,T.2.1) (0,T.2.2);{calc c};{rw[xx.mpr c]at b;calc zH r b}};{calc zH r b}};{rintro⟨b,rfl,d,_,c⟩;rw[zG d];unfold g2;rcases b:aw0 (ep H Xw^ai3 a) (aK^adz)with _|a;{calc zH c^xx.mp b};{let:=Oa b;exists this}}
def Ph(H:aE)(W7:đ)(a:T∉dn H W7):mE H W7 T=gU (-13):=by unfold mE Bn;rw[zG^by exists a]
def w9(a:as5)(T:bf):T∈ahP↔T∈dn H W7:=by rw[a.mem,D0,ED H [] XK,(rZ H W7 1 XK).1]
def B5(a:as5)(b:(T,B)∈XE):((bB^n6 H).find? λB=>(Ju H W7 B).contains T)=aa B:=by let#[c,d,e]:=(a.iff T B).mp b;let a:=(rZ H W7 1 XK).2.2.2;rwa[vQ,#[by{rw[w4 H W7 XK];exists d},B,by{rwa[dU,ē c 1 a]},by{rw[np]},Â a b]];rw[np,w4 H W7 XK];exists e a b
def Pi(a:as5)(b:(T,0)∈XE):mE H W7 T=hP [0]:=by let c:=(w9 a T).mp^bE.mpr (ϋ b);unfold mE Bn;rw[aix c,B5 a b];rfl
def Pg(g:agt)(n:∀a∈H.prods,cs H a)(i:as5)(o:(T,B+1)∈XE):∃f a,H.prods[f]?=aa a/\apN a≠[]/\(∀c d,c<f->H.prods[c]?=aa d->apN d=[])/\∃e,apN a=e.map^aM^az H a/\(∀p∈e,p∈aK^az H a)/\e.length<=(az H a).sum+1/\mE H W7 T=hP ((B+1)::f::e.length::f8 e):=by let x:=(w9 i T).mp^bE.mpr (ϋ o);let#[h,b,k]:=(i.iff T (B+1)).mp o;let j:=(pW _ b).1;let q:=(iu g).mp j;let l:=k B^a5 _;let s:=Kb i^show B<es H W7 1 XK by{calc h};let k:∃a∈H.prods,T∈n5 H aeR a:=by{let:=(pX.mp (b:T∈fI H 1 XK^aeR)).2.2;rcases this with b|b;{calc zH b l};{calc b}};let t:∀a∈H.prods,(apN a≠[]↔T∈n5 H aeR a):=λa h=>by{rwa[DS (n a h) s T,Kg g (n a h) _ j]};let j:(H.prods.zipIdx.find? λl=>(n5 H aeR l.1).contains T).isSome=af:=by{rw[oZ];let#[a,h,b]:=k;ext acF f k l h;calc#[(a,f),by{rw[List.mem_zipIdx_iff_getElem?];rwa[<-l,bi k]},by exists b]};let#[#[a,f],u]:=f4.mp j;let#[k,l,m,f,y]:=vQ.mp u;rw[G5,kA]at f;let#[h,v]:=ll f;subst v;let m:l<H.prods.length:=by{(rw[List.length_zipIdx]at m;assumption)};let v:H.prods[l]?=aa a:=by{rw[bi m,h]};let w:=cq v;let f:=n a w;let k:T∈n5 H aeR a:=by{exists k};let#[h,z,n,_,A]:=(m1 g f (g:=1) (Xv:=[])).mp^show T∈i5 H 1 [] aeR a from k;obtain rfl:h=0:=z;let z:c1 (az H a)^ep H a^cM [] aeR ah:=mZ g f λc p h=>by{unfold cM at h;rw[an1]at h;ext Ĳ h;{calc(pW B h).1}};rcases d:aw0 (ep H a^cM [] aeR ah) (aK^az H a)with _|e;{calc zH A^xx.mp d};{let p:∀h,h<(cc H T.1).length->((0,h):bc)∈aK^az H a:=λh A=>by{let C:0<(bq H a).length:=by{rwa[er,aea 1]};calc hs.mpr #[by{unfold az;rwa[aI,C]},?_];show h<(az H a).getD 0 0;unfold az;rwa[dN,b9,n,A]};let j:=EK (R:=ep H a^cM [] aeR ah) (p _ q.2.1)^p _ q.2.2;let p:=EJ (D:=az H a) (Xc:=(0,T.2.1)) (W0:=(0,T.2.2)) z;rw[d]at j p;calc#[l,a,v,(t a w).mpr k,Ô c h q k,e,?_,j,p,?_];{let e:c<H.prods.length:=acT q m;let:=y c q;rw[G5]at this;let j:H.prods[c]=h:=by{rw[bi e]at k;calc bW k};rw[j]at this;by_cases b:apN h=[];{calc b};{let:=(t h^cq k).mp b;simp_all}};{rw[DS f s T];unfold fj g2;rw[zG n,d];rfl};{unfold mE Bn;rw[aix x,B5 i o];dsimp only;rw[w4 H W7 XK,u];show(match((aw0 (wR H aeR a) (ik H a)).map λa=>({round:=B+1,prod:=l,way:=a}:Vaattc.Reason))with|ah=>_|aa h=>_)=_;rw[EL^uv f,r6 g f,d];rfl}}
def Lc(c:T∉ahP):asA=ah:=by induction XE with|nil=>{rfl}|cons a b d=>show av0 a b^cI T=_;rwa[hc^λb=>c^by{rwa[<-show a.1=T from rN b,cj]},d λb=>c^cu _ b]
inductive xW(d:ap)(J E f A w I N:ac)(m:Á)(a:ag)(n:aA)(o:aY):Prop|mk(c b e g h:ac)(i j k:Ã)(l:d5)(_:m=[Ū b e,Ū g h])(_:a e=Ě i)(_:a g=Ě j)(_:a h=Ě k)(_:ŕ c a b l)(_:acJ c a b (bN l^.why i j k) n o)
def Ks(cX:Ŭ "why" "Holder.why" 121 10 s M)(o:Ϯ)(bL:adA)(bM:Χ)(O:agA)(bO:mI m)(cZ:ϑ N "NotFromBelow" (-13))(c0:afD)(c1:aw1)(c3:apJ 7 ag6)(c4:aBe)(c7:asx):asZ 12^aw2:=by calc ý cX ["self","name","one","other","pair","family","turn","reason","production"] C eI eJ eK eL eO j c8 eP;let#[P,b,X,c9,da,bP,bS,bV,k,c,de,df,di,D,F]:=c8;calc ajg c G j dj 7;calc ac3 dk 6 j;calc ac3 dq 5 j;calc ac3 dt 4 j;calc Ţ dv 3 j dy 1;calc bl.mk (afE c0 dt^aw3 C c1 dq^aq (bm^aed c3 0 dj^ak (bG bO.below) an)^aq (Ò 5 C^iD G (ă 0)^bG bO.below)^aq (acz (amL (oQ G (ae 4)^ă 5)) cZ dv)^aq (Ò 6 C^iD G (ă 5)^ae 4)^aiT (bR c2 (ae 6) a7^bH _) (aC^bt^dB^ad7^ad7 an)^aq (Ò 7 C^Ü c4 dk^ë 4^aec 0^Ø 5)^aq (Ò 8 C^br cl (a3^ă 0)^ac4 7)^aC^bt^dT l0 (dB^ad7^ë 6^ahr 7)^Ü c7 dy^aec 8^ahr 7) ?_;ext ajn bX Y Z D b a F h p bZ;ext amS b3 D p u Q ag R b8 l dL ca am;let ao:=am.syms;left;calc#[b,Y,î Z,b,X,c9,da,bP,bS,bV,h,ajm k b3,de,df,di,?_];rcases c:il h bP bS bV with a|H;{let dM:a<0:=by{unfold il at c;ext aw4 c};calcλav n aA aJ S=>F.no D (by rw[rK p,c]) dM av n aA aJ S};{intro eR aK dQ eS v;let aL:=(É ca v);calc#[adD b u aL,Q,ag,R,b8,M,l,dL,h,k.assumes,1,_,r,trivial,by{decide},aL,ju^v P _ bZ,λdR dS e dX _ _ aM=>?_];let aU:=aL.b2 aM;nofun;let#[dY,cb]:=f4.mp^dX^by{decide};let#[aV,n,aY,d1,Ä d2 cc,x,a4,eT]:=e.bQ 1 dY cb;let#[d6,T,_]:=x.au;let eZ:=x.aM ao;let cg:=ac9 aU aK dQ;let ck:=dW.k (b:=bz ((1:Nat):Int)) e.a1;rw[cb]at ck;left;calc#[b,w,u,ú e o,M,_,r,ck,?_];let ba:=dW.cq (s:=aK) (YO:=cI H) T.a' cg;calc#[aV,A,n,ú T O,aY,_,r,ba,Ý];let bf:ŕ P dR b k:=c'.ad p (aU P _ (v P _ bZ) trivial) #[u,Q,ag,R,b8,M,l,dS,e];let bh:=(agF v) aU;by_cases bj:H∈ė cc;{nofun;let#[#[cm,y],U,a]:=bE.mp bj;obtain rfl:cm=H:=a;let d7:=B2 x.ak U;left;rw[d7]at ba⊢;calc ϭ g;calc#[aV,A,n,ú T O,aY,_,r,ba,?_];calc ϟ;ext adH y;{calc aeb g;calc apu bX d8 cn;let cs:=Ϭ [Ŀ 0,Ŀ 0] cn;calc F.dd (l:=[0]) (by rw[rK p,c];dsimp only;rw[Pi a4 U]) _ d8 as (É bf cs) (ϯ bh cs)^v.free^lI aM e.a1 cn};{calc a8 (λg=>zH (zI g)^by intro a;ext ϝ a;calc fL (aZ^cf a)^η^ai (akC (ai (ai (aea 1)^aZ^cf a)^bF _)^aZ^cf a)^bF _) ady;nofun;let#[z,bk,V,d9,ea,L,eb,eg,eh,ei]:=Pg ao am.a7 a4 U;let em:=cq V;let en:=i8 ao^am.kids bk em;left;calc#[b,w,u,ú e o,aK,Q,ag,R,aV,n,aY,d1,l,d2,cc,d6,h,cm,y+1,z,bk,r,cg,e.ba,T,x.ak,λct G=>x.all ct^(x.mem ct).mp G,U,e.tab,V,d9,ea,ò e0 W cx bq cy bv];rw[eb]at cy;let cz:=É e bv;nofun;let#[#[eo,ep],_,eq,#[e1,cB],_]:=cz.ba;let cC:agw l h:=bC cB;let cD:=ä V;ext apm cF l z cD cC;let#[e2,cG,er]:=cK cB cF;ext agr V cG;nofun;let#[cJ,es,e3,e7,e8,ev,e9,fa,ew,cM,fb,_]:=er;left;calc#[b,w,u,ú cz o,Q,J,eo,Ď ep bL,W,Œ bq,r,R,l,amt eq cF];rwa[ew,#[W,Œ bq,r,by{ext apq bX},Â cS ex]];let B:=Ϭ [Ŀ 0,ab.int (aj4 y),ù z] ex;calc#[afy cJ es B cM bM,W,_,Ç,bw.ad^B W _ bq,r,ev,cx,az h bk,L,r,(É cM B).occ,B cx _ cy,eg,ī (ai eh^aF en 1),ê fc ey ez bA fh];calc#[cS,ey,Ç,bA cS _ as,ez,by{show 3+(aP _).length<=_;rw[aI,ce,rv];lia},Â eA cU];let eB:=Ϭ ([Ŀ 0,ab.int (aj4 y),ù z]++aP (L.length::f8 L)) cU;let cW:=aD.af (ac8 bv B bA) eB;calc F.dd (l:=(y+1)::z::L.length::f8 L) (by rwa[rK p,c,zL (Prod.mk k) ei]) _ eA (by rw[as];rfl) (É bf cW) (ϯ bh cW)^v.free^lI aM e.a1^(ac8 bv B bA).free cU}};{rwa[Lc bj,aeb g];let X:H∉dn h k.assumes:=λg=>bj^(w9 a4 H).mpr g;calcλav n aA aJ S=>F.e8 (by rwa[rK p,c,zL (Prod.mk k)^Ph h k.assumes X]) (by decide) av n aA aJ (É bf S)^ϯ bh S}}
def fF.aC{g:þ}{h i:ag}{j:aE}{c d e:ac}{m:Á}(a:agE g h j c d e m)(b:eF h i):agE g i j c d e m:=by let#[g,h,i]:=a.syms;calc#[let#[k,l]:=a.ae;#[k,b c _ l r],#[g,ac9 b d h,aBi i c k u v l b],b e _ a.lst trivial,asX a (λc c c=>de.aC b c)]
def di.d2(c:aBm)(d:afB)(e:V s=aa^ł N [("grammar",ae0),("assumed",.ref Xq),("families",.ref XO)])(g:V Xq=aa^.aB^c0 XR)(i:V XO=aa^adl)(j:V I=agD)(k:XR.Nodup)(l:XR.length<=20)(m:∀b∈XR,b∈cP H/\mC H b=af):ŭ Xr V s N a Xl Xo Xq XO O [] H XR:=#[e,c.co.aC d,g,k,l,m,i,li,adw c b,λc c b=>(by ext b),j]
def M7(a:T∉W7):awi=c0 (W7++[T]):=by ext aAQ a
inductive xB(d:ap)(J E f A w I N:ac)(m:Á)(a:ag)(n:aA)(o:aY):Prop|mk(c b e g h:ac)(i j k:Ã)(l:d5)(_:m=[Ū b e,Ū g h])(_:a e=Ě i)(_:a g=Ě j)(_:a h=Ě k)(_:ŕ c a b l)(_:acJ c a b (bN l^.assume i j k) n o)
def Cv(a:il H D Xz ZC=.error Xb):Xb<0:=by unfold il at a;ext aw4 a
def Ki(a:Ŭ "assume" "Holder.assume" 121 3 s M)(l:c9 m)(n:Ϯ)(V:adA)(c:akK)(o:Ė "MOST_ASSUMED" 20)(p:ϑ N "SameDirection" (-7))(u:ϑ N "AssumedAlready" (-8))(v:ϑ N "TooManyAssumed" (-9))(y:afD)(C:aw1):asZ 12^aw5:=by calc ý a ["self","name","one","other","pair","symbol"] g a ag a a Z a b e;let#[av,h,D,F,S,z,G,H,e,B,T,R,L,k,x]:=b;calc ajg B O a P 5;calc ac3 Q 4 a;calc Ţ b 3 a j 1;calc bl.mk (afE y Q^aw3 g C P^aq (Ò 5 g^br cl (a3^ă 0)^ac4 4)^aq (acz (bR c2 (asB c 5 j 4) (asB c 5 j 4)^bH _) p b)^aq (acz (amL (Gd O (ae 4)^ă 0)) u b)^aq (acz (bR SZ (c4 Ku r l.len dG^Θ 0) (bG o)^bH _) v b)^aq (qr O (ă 0) (ae 4) jH r)^aq as6^aC^bt^aeN) ?_;ext ajn W a c k h b x l P az;ext amS g k P p Q X aA j aJ o U o;let Y:=o.syms;left;calc#[h,a,î c,h,D,F,S,z,G,H,l,ajm e g,T,R,L,?_];rcases B:il l z G H with b|c;{calcλo v a S C=>x.no k (by rw[x2 P,B]) (Cv B) o v a S C};{intro u D F T y;let g:=É U y;let U:bN e^.assume z G H=lC e l c:=by{rw[x2 P,B]};rw[U]at x;let B:=((iu Y).mp T).1;let U:∀b:Int,b<0->lC e l c=(e,gU b)->asw o v a b u Z:=λb Z aK o v a S C=>by{rw[aK]at x;calc x.1 Z o v a S (k.same^Ë y C)^aD.aC^Ë y C};nofun;let#[#[Z,aK],#[a,a],_,_,_]:=g.ba;ext aAq aM aO aP a B S l c C a k o;calc#[h,w,p,ú g n,Q,J,Z,Ď aK V,D,Œ F,ώ r,X,aM,amt aO aP];calc#[a,k,î o,D,Œ F,aff,a,k,_,_,_,c.2.1,r,o,a,k,î o,D,Œ F,b0 (g:=2) r,a,k,_,_,_,c.2.2,r,o,r,Ý];rw[<-S];let k:=PV Y T;calc Õ a;{let b:mC l c=ay:=by{rw[k];let a:=zI a;ext ϝ a;rw[a];simp};calc U (-7) (by decide)^by unfold lC;rw[b];rfl};{let b:mC l c=af:=by{rw[k];cases k:aoY c l<;>cases o:aoZ c l;{rw[k,o]at a;calc zH r a};{rfl};{rfl};{rw[k,o]at a;calc zH r a}};let k:=dW.cq (s:=D) (YO:=cI c) g.bo F;calc#[h,w,p,ú g n,j,_,r,k,Ý];calc Õ k;{calc U (-8) (by decide)^by unfold lC;rw[b,anI,zG^by exists pK.mp k]};{let C:c∉e.assumes:=λo=>k^pK.mpr o;calc#[h,w,p,ú g n,j,_,r,g.bo,Ç,Ý];let o:(c0 e.assumes).length=e.assumes.length:=by{unfold c0;rw[aI]};rwa[o,Õ k];{let k:20<=e.assumes.length:=by{let k:=zI k;calc ks k};calc U (-9) (by decide)^by unfold lC;rw[b,anI,aix C,zG^show Vaattc.mostAssumed<=gP e.assumes from k]};{let k:e.assumes.length<20:=by{let k:¬((20:Int)<=(e.assumes.length:Nat)):=adr v k;calc oU k};let v:lC e l c=({e with assumes:=e.assumes++[c]},hP []):=by{unfold lC;rw[b,anI,aix C,zF^by show¬(20<=e.assumes.length);calc jh k]};rw[v]at x;calc#[h,w,p,ú g n,j,_,r,.inr #[_,cI c,D,g.bo,r,F,by{rwa[o,aX (W1:=16777196)^ē k 16777196^au W]},r],?_];rw[M7 C];ext aBv D l B u j a z b g;let F:(am u j^.aB^c0 (e.assumes++[c])) h=aa^ł p [ajk Q j,aw6]:=by{rwa[ao^D g.ae (ajl a),g.ae]};calcλo v=>#[h,w,p,_,r,(a' v) h _ F,aiW n,asr W z n];let S:=a' (o:=adl) v;let W:o≠h:=Ę b F v;calc aBw S o j b v Y h D g a Z u U (am u j^.aB^c0 (e.assumes++[c])) p Q l B v D F;let V:∀l,u l=ah\/l=h\/l=j->I≠l:=aBx l b g a;let l:=aBy g (XR:=e.assumes++[c]) o U Y S W V Z (by rwa[lh,#[g.cg,by{simp},λG R H L b=>C^by rw[b4]at L;rwa[<-L,<-b,R]]]) (by rw[cO];show _+1<=20;calc k)^λk O=>by{ext aj6 O a;{calc g.ch k a};{rwa[ċ a,#[T,b]]}};calc aBz b 0 n g ag z y a u B v h D o W F j Y S;calc aw7 x z as (c'.ad (Xp:={e with assumes:=e.assumes++[c]}) P ((amT y U b) av _ az trivial) #[p,Q,X,aA,j,o,aJ,_,É l b]) (amT y U b) g}}}}
def M3(d:đ)(a:bf):oL (c0 d)^cI a=c0^d.filter λb=> !(b==a):=by unfold oL c0;rwa[List.filter_map,zL _^GY λb _=>?_];show decide (cI b≠cI a)= !(b==a);by_cases c:b=a;{simp[c]};{let:cI b≠cI a:=λa=>c^rN a;simp[c,this]}
def M8(a:T∈W7):∃b,bS (c0 W7)^cI T=aa b:=f4.mp^pK.mpr a
inductive xP(d:ap)(J E f A w I N:ac)(m:Á)(a:ag)(n:aA)(o:aY):Prop|mk(c b e g h:ac)(i j k:Ã)(l:d5)(_:m=[Ū b e,Ū g h])(_:a e=Ě i)(_:a g=Ě j)(_:a h=Ě k)(_:ŕ c a b l)(_:acJ c a b (bN l^.release i j k) n o)
def Kn(a:Ŭ "release" "Holder.release" 121 4 s M)(k:Ϯ)(c:afD)(h:aw1):asZ 12^aw8:=by calc ý a ["self","name","one","other","pair"] l a av a a a b u a;let#[aw,e,x,y,D,o,j,n,g,a,H,L,O,z,p]:=u;subst a;let F:=hC b;calc Ţ u 5 b v 4;calc adp (afE c v^aw3 l h u^aiT (amL (oQ F (ae 4)^ă 0)) (aC^bt^aeN)^aq (bm^Nj F (ă 0) (ae 4) #[r,r,r,r])^aq as6^aC^bt^aeN);ext ajn W b l z e c p u G az;let v:=z.bZ G;let#[B,R,aA,aF,h,M,aJ,Q,S]:=id v;left;calc#[e,b,î l,e,x,y,D,o,j,n,u,ajm g v,H,L,O,?_];rcases a:il u o j n with c|l;{calcλb u v x y=>p.no z (by rw[x4 G,a]) (Cv a) b u v x y};{intro v u y b x;let b:=É S x;let D:bN g^.release o j n=({g with assumes:=as7 g n l},{first:=if g.assumes.contains l then 1 else 0}):=by{rw[x4 G,a]};rw[D]at p;let a:=dW.cq (s:=u) (YO:=cI l) b.bo y;calc#[e,w,B,ú b k,h,_,r,a,Ý];by_cases C:l∈g.assumes;{nofun;let#[X,H]:=M8 C;left;rwa[H,ϭ a];rw[zG^by exists C]at p;calc#[e,w,B,ú b k,h,r,.inr #[_,.inl b.bo],_,cI l,u,X,b.bo,r,y,H,?_];rw[M3];let L:(as7 g n l).Sublist g.assumes:=GZ;generalize aM:(as7 g n l)=P at p L;ext aBv O j D v h a o c b;let Q:(am v h^aeO P) e=aa^ł B [ajk R h,aw6]:=by{rwa[ao^O b.ae (ajl a),b.ae]};calcλo y=>#[e,w,B,_,r,(a' y) e _ Q,aiW k,asr W u k];let Y:o≠e:=Ę c Q y;calc aBw T o h c y Z e O b a ag v U (am v h^aeO P) B R j D y O Q;let V:∀j,v j=ah\/j=e\/j=h->I≠j:=aBx j c b a;let j:=b.aM;let aK:=L.length_le;let aL:=aBy b (XR:=P) o U Z T Y V ag (b.cg.sublist L) (ai aK j)^λj F=>b.ch j^L.subset F;calc aBz b 1 k j av u x a v D y e O o Y Q h Z T;calc p.2 (by show afQ<=1;decide) _ u as (c'.ad (Xp:={g with assumes:=P}) G ((amT x U b) aw _ az trivial) #[B,R,aA,aF,h,o,aJ,_,É aL b]) (amT x U b) j};{let H:bS (c0 g.assumes)^cI l=ah:=by{rcases a:bS (c0 g.assumes)^cI l with _|X;{rfl};{calc zH (pK.mp^by rw[a];rfl) C}};rwa[H,aeb a];let a:(as7 g n l)=g.assumes:=z7.mpr λn S=>by{let:n≠l:=λc=>C^by{rwa[<-c,S]};exists this};rw[aix C,a]at p;calc agC W u k b 0;calc aw7 p u as (z.same^Ë x b) (aD.aC^Ë x b)^x.free k}}
def aJ.one:akg^afJ:=λa a a b=>by rwa[ajj b,a]
def aJ.new(b:aek):aJ W' h^afJ:=λa a a c=>by rwa[ao^Ę c b a,a]
def aJ.bI(d:ake)(e:aJ W' V Y'):aJ W' h Y':=λa b f c=>e a b (d a b f c) c
inductive xJ(d:ap)(J E f A w I N:ac)(i:Á)(a:ag)(j:aA)(k:aY):Prop|mk(c b e:ac)(g:Ã)(h:d5)(_:i=acE b e)(_:a e=Ě g)(_:ŕ c a b h)(_:acJ c a b (bN h^.load g) j k)
def Km(a:Ŭ "load" "Holder.load" 121 1 s M)(b:c9 m)(n:Ϯ)(G:adA)(g:Ė "MOST_BYTES" 3000)(h:ϑ N "TooLong" (-1))(j:aAm):aeQ 353 ["self","text"]^aw9:=by calc ý a ["self","text"] a a Y a a a c o a;let#[R,a,e,k,B,u,p,l,H]:=o;calc š u o 3 c;left;calc adp (aq (arS (Ũ b^Ø 1) g h o)^aeA (ģ j c^Ø 1)^aq (ac2 0 vo r)^aq as6^aC^bt^dB^ad7^ahb (Ũ b^awS) (Ũ b^awS));ext afw aA;let#[b,h,u,j,z,_,_]:=l.bM;let#[c,y]:=l.2.1;left;calc arU e p;let c:(bO k).length=k.length:=aI _;rwa[c,Õ g];{let g:3000<k.length:=by{let g:=zI g;calc gO g};let o:bN B^.load k=(B,gU (-1)):=by{let:rh k=.error (-1):=by{unfold rh;rw[zG^show Jt<k.length from g]};ext as8;rw[this]};calc H.no l o^by decide};{let g:ahq k:=by{let g:¬((3000:Int)<aeG k):=adr S g;calc kt g};calc#[e,k,r,p,g,λp x D v Z c C=>?_,Â o x];{let T:bN B^.load k=({held:=aa p,assumes:=[]},hP [p.syms.length,p.prods.length]):=by{ext as8;rw[x]};rw[T]at H;nofun;let#[e,U,L,Ä O P,V,X,ag,ai,aF,aK,aL]:=c;let aM:agE (λQ=>Q≠R) v p e L O P:=#[#[U,V],X.imp^ju y,ag,ï ai λZ c U=>U.imp^ju y,D,ju y _ aF,ju y _ aK,ju y _ aL];let U:=C a _ z;let V:=C I _ l.1;left;calc#[a,w,b,_,r,U,aiW n,Â c D];let ag:á a v^am v a^ł b^aw' e h u j:=aJ.one;let X:(am v a^ł b^aw' e h u j) a=aa^ł b [("grammar",À e),apG u j]:=as;generalize am v a (ł b (aw' e h u j))=W at D ag X⊢;let h:=(a' (o:=adm) D) a _ X;calc#[a,w,b,_,r,h,aiW n,Â h z];let ai:c≠a:=Ę o X D;let X:á a v^am (am W c^adm) a^ł b^as9 c e u j:=as' ag D;let D:(am (am W c^adm) a^ł b^as9 c e u j) a=aa^ł b [ajk e c,("families",j)]:=as;let ag:(am (am W c^adm) a^ł b^as9 c e u j) c=aa^adm:=by{rw[ao ai,as]};generalize am (am W c adm) a (ł b (as9 c e u j))=F at z X D ag⊢;let u:=(a' (o:=adl) z) a _ D;let aF:h≠a:=Ę o D z;calc#[a,w,b,_,r,u,aiW n,?_];let D:á a v^ata F h a b e c j:=as' X z;let u:(ata F h a b e c j) a=aa^ł b [ajk e c,("families",À h)]:=as;let X:(ata F h a b e c j) c=aa^adm:=by{rwa[ao ai,(a' z) c _ ag]};let ag:(ata F h a b e c j) h=aa^adl:=by{rw[ao aF,as]};generalize am (am F h adl) a (ł b (ca "families" (À h) [ajk e c,("families",j)]))=av at D u X ag⊢;let z:eF v av:=aJ.aC D λQ j v g ai=>by{ext ahQ j U g;ext ai};let j:I≠a:=Ę o U V;let U:=D I _ V^by{exists j};let j:=aM.aC z;let V:ŭ (λQ=>Q≠R) av a b e L O c h P [] p []:=#[u,j,X,li,bF _,adw Q l,ag,li,adw S l,λS Z l=>(by ext l),U];nofun;let#[#[Q,S],#[U,X,Z],ag,ai,_]:=id j;let aF:amE U p:=bC Z;let U:agw P p:=bC ai;left;calc#[a,w,b,Ď u n,e,J,Q,Ď S G,L,_,Ϣ X,a,w,b,Ď u n,e,J,Q,Ď S G,O,_,Ϣ ag,by{ext apq aA},Â j n];rw[aF,U];let G:=Ϭ [Ŀ 0,ab.int (p.syms.length:Nat),ab.int (p.prods.length:Nat)] n;let Q:Y j=ah:=by{ext afm g Y j v;{exfalso;by_cases az:j=a;{ext ā az u n};{rw[D j v (C j v g)^by exists az]at n;ext n}}};calc aw7 H j (by rw[as,BC];rfl) (c'.ad (Xp:={held:=aa p,assumes:=[]}) r ((amT C z G) R _ y trivial) #[b,e,L,O,c,h,P,_,É V G]) (amT C z G) Q};{let a:o<0:=by{unfold rh at x;ext aw4 x};let T:bN B^.load k=(B,gU o):=by{ext as8;rw[x]};calc H.no l T a}}
inductive C5(w:ac)(e:Á)(c:ag)(f:aA)(i:aY):Prop|mk(a d:ac)(_:e=æ a)(_:c a=aa^ł d [])(_:∀b g h,b a=aa^ł d (aBp g h)->ahe a c b f)
def LN(b:ő "__init__" "Holder.__init__" 121 0)(a:Ϯ):alZ 1^C5 w:=by calc ó b ["self"] b b b b b e;let#[b,c,g,h,j]:=e;calc Ş g (aq (ac2 0 gz r)^aq (ac2 0 vo r)^aC^as6);calc#[b,w,c,_,r,h,Į a,by{show 0<1000;decide},Â h e];calc#[b,w,c,_,r,(a' e) b _ as,Į a,by{show 1<1000;decide},Â k g];calc#[b,w,c,_,r,(a' g) b _ as,Į a,aiF];calc j _ h k as^(((aJ.one.bI^aJ.new e).bI aJ.one).bI^aJ.new g).bI aJ.one
abbrev rC:Nat->aeC|0=>(0,1)|1=>(0,1)|2=>(0,3)|3=>(0,3)|4=>(1,1)|5=>(1,1)|6=>(0,0)|7=>(1,0)|8=>(5,1)|9=>(0,3)|10=>(0,2)|_=>(0,0)
def CH(b:asf):∃a:Nat,Xb=a/\a<12/\rC a=(g,B):=by by_cases k:0<=Xb/\Xb<12;{obtain⟨a,rfl⟩:∃a:Nat,Xb=a:=#[Xb.toNat,by lia];let d:a<12:=gO k.2;calc#[a,r,d,?_];let e:∀c,c<12->dO (c:Nat)=aa^rC c:=by{decide};rw[e a d]at b;calc bW b};{unfold dO at b;rw[ν,ν,ν,ν,ν,ν,ν,ν,ν,ν,ν,zF^by lia]at b;ext b}
structure w3(d:ap)(g:Ą)(e:ac)(a:Ó):Prop where(at_:bA g "SHAPES"^À e)(all:∀b,bw d b e^π a)(len:a.length=12)(one:∀c f,é a c f->∀b,bw d b f [.int ((rC c).1:Nat),.int ((rC c).2:Nat)])
def BK(b:g<=B)(a:B<=O.length):gk O (aa Λ)^aa (B:Int)=(O.drop g).take (B-g):=by unfold gk;rw[se,se,s0^ds b a,s0 a]
def xZ(c:akg V)(e:h f=aa^ř w Y1)(a:aw d h A O):aw d V A O:=by ext ĸ a;{rcases a with a|⟨g,a⟩;{calc .inl^.inl^c A _ a^by simpa using(λb:A=f=>by ext ā b e a)};{calc aip #[g,c A _ a^by simpa using(λb:A=f=>by ext ā b e a)]}};{calc ÿ a}
def N4(a:Xi.drop g=jB^XT.drop B++Zf)(b:XT[B]?=aa Zo):Xi[g]?=aa (Zo.length:Int)/\(Xi.drop (g+1)).take Zo.length=Zo/\g+1+Zo.length<=Xi.length/\Xi.drop (g+1+Zo.length)=axa:=by let c:=ä b;let d:XT.drop B=Zo::XT.drop (B+1):=by{rw[sL c];rw[bi c]at b;rw[bW b]};let a:Xi.drop g=((Zo.length:Int)::Zo)++(axa):=by{rw[a,d];unfold jB;rw[kx,fN]};let b:Xi.drop (g+1)=Zo++(axa):=by{rw[<-oY,a];rfl};calc#[ae8,?_];{let:=zL (λc=>c[0]?) a;rw[z']at this;calc this};{rw[b,Hf]};{let:=zL gP a;rw[jl,cO,ce]at this;omega};{rw[<-oY,b,GU]}
abbrev lF(a:Int)(b:Nat)(c d:ac):aee:=[("number",Ì a),("end",Ê b),("wholes",À c),("rows",À d)]
@[reducible]abbrev wV(d:ap)(a:ac):Prop:=cH d a ["number","end","wholes","rows"]
inductive C3(d:ap)(Xo:ac)(q:Á)(c:ag)(s:aA)(v:aY):Prop|mk(b j k:ac)(e:Nat)(l:å)(f:Int)(g:å)(h:Ĵ)(m:å)(_:q=[Ū b k,Ê e])(_:c b=aa^Ŗ j [])(_:aw d c k^l.map ab.int)(_:l.drop e=f::g++(jB h++m))(_:dO f=aa (g.length,h.length))(_:∀a n o p i,a b=aa^Ŗ j^lF f i n o->a n=aa^ų g->a o=aa^ϔ p->atb t u a p h->l.drop i=m->e<i->ahe b c a s)
def LI(a:ő "__init__" "Call.__init__" 135 0)(e:c9 m)(n:wV d Xo)(g:w3 d m s W'):agh 1 ["self","calls","place"]^C3 d Xo:=by calc ó a ["self","calls","place","shape","start"] j a w a a Q;let#[a,b,B,h,x,H,c,u,E,y,I,J,k,l,R]:=Q;subst y;left;calc bl.mk (aeA (κ 1^ae 2)^aq (Ò 3 j^br dr (bG g.at_)^ă 0)^aeA (dT hD (agd 2 a7)^br dr (ae 3) a7)^aeA (qn vv (ae 1) (l2^agd 2 a7)^l2^ă 0)^aeA (dB an)^aC^h7 el (bR m' (Ũ e^Θ 0) (ac4 3)^bH _)^aq (Ò 4 j^dT hD (ă 0) a7)^aeA (agd 4^κ 1^ă 0)^aC^akm (ă 0) (na yT r e.tuple Ar^ak (qn vv (ae 1) (l2^ae 4)^l2^ă 0) an)) ?_;ext afw Z;let#[e,rfl,j,o]:=CH l;let aU:u.length<=3:=by{let:(rC e).2<=3:=by{rcases e with _|_|_|_|_|_|_|_|_|_|_|av;iterate 11 {decide};calc bF _};ext akb o};let v:x[h]?=aa (Ñ e):=by{let:=zL (λl=>l[0]?) k;rw[z']at this;calc this};let p:x.drop (h+1)=c++(jB u++E):=by{rw[<-oY,k];rfl};let C:(x.drop (h+1)).take c.length=c:=by{rw[p,Hf]};let aM:x.drop (afF h c)=jB^Ċ u 0++E:=by{rw[<-oY,p,GU];rfl};let D:afF h c<=x.length:=by{let:=zL gP k;rw[jl,cO,ce]at this;lia};let az:∀{p:Nat}{l:Int},é x p l->(Ż x)[p]?=aa^ϫ l:=λ{p l} A=>by{rw[b9,A];rfl};left;calc#[B,_,Ç,J,b0^az v,a,Xo,b,_,r,I,Į n,akw];let k:(am w a^Ŗ b^axb e) a=aa^Ŗ b [amU e]:=as;let z:á a w^am w a^Ŗ b^axb e:=aJ.one;generalize am w a (Ŗ b (axb e))=G at k z⊢;let v:(aon)[e]?=aa^ab.ref (W'[e]'(by rwa[g.len,j])):=by{rw[b9,bi^by rwa[g.len,j]];rfl};let F:=g.one e _^bi^by{rwa[g.len,j]};generalize W'[e]'(by rwa[g.len,j])=W at v F;rw[o]at F;calc#[a,Xo,b,Ď k n,s,_,Ç,g.all G,b0 v,?_];calc#[Ç,W,_,Ç,F G,ώ r,Ç,a,Xo,b,_,r,k,Į n,akx];let g:(am G a^Ŗ b^amV h c [amU e]) a=aa^Ŗ b [amU e,axc h c]:=as;let v:á a w^am G a^Ŗ b^amV h c [amU e]:=z.bI aJ.one;generalize am G a (Ŗ b (amV h c [amU e]))=ag at g v⊢;calc#[Ç,_,r,a,Xo,b,Ď g n,_,r,B,_,r,xZ v I J,Â j o];ext aBA S x h c D C;rw[S];let k:=a' (o:=(ų c)) o;calc#[a,Xo,b,_,r,k a _ g,Į n,aiF];let T:j≠a:=Ę k g o;let z:(am (am ag j^ų c) a^Ŗ b^atc j e h c) a=aa^Ŗ b (axd e h c j):=as;let C:(am (am ag j^ų c) a^Ŗ b^atc j e h c) j=aa^ų c:=by{rw[ao T,as]};let D:á a w^am (am ag j^ų c) a^Ŗ b^atc j e h c:=as' v o;generalize am (am ag j (.lst (Ż c))) a (Ŗ b (atc j e h c))=P at z C D⊢;ext aBB Z g o v;calc#[a,Xo,b,_,r,v a _ z,aiW n,?_];let L:g≠a:=Ę k z o;let aA:j≠g:=λk=>by{rw[<-k,C]at o;ext o};let O:(atd P g a b e h c j) a=aa^Ŗ b^lF (Ñ e) (afF h c) j g:=as;let V:(atd P g a b e h c j) j=aa^ų c:=by{rwa[ao T,ao aA,C]};let X:(atd P g a b e h c j) g=aa^Ő:=by{rw[ao L,as]};let Y:á a w^atd P g a b e h c j:=as' D o;let aV:w g=ah:=by{ext avM y w g N D L o};generalize am (am P g Ő) a (Ŗ b (ca "rows" (À g) (axd e h c j)))=bh at O V X Y⊢;calc let U:cW:=(λaK aL v=>h4 λ(p k:Nat) (C:Ó) (D:ϰ)=>p9 (aL=[È a,Ń B h,È W,D]) (aK=u.length-p) (p<=u.length) (v a=aa^Ŗ b^lF (Ñ e) k j g) (v j=aa^ų c) (v g=aa^ϔ C) (atb z o v C^Ğ u p) (x.drop k=jB^u.drop p++E) (h<k)^á a w v);#[U,#[_,0,afF h c,[],_,r,r,bF _,O,V,X,.nil,aM,ġ,Y],?_];ext ϐ aK aL v Q;let#[p,k,Ř C D,aW,E,aK,V,O,X,aL,Y]:=Q;let Q:ϲ C p:=by{rw[bC O,dD];lia};left;calc#[a,Xo,b,Ď E n,g,_,Ϣ V,W,_,Ç,F v,aff,Ç,Ý];rwa[aI,Q,Õ l];{let l:ś p u:=by{let l:=zI l;show ś p u;let l:Ñ p<aeG u:=l;lia};nofun;obtain⟨o,aM⟩:∃o,é u p o:=#[_,bi l];let#[aY,aZ,a1,a2]:=N4 X aM;left;calc let U:hy:=(λaP F=>∃D,aP=[È a,Ń B h,È W,D]/\∃h,F a=aa^Ŗ b^lF (Ñ e) (afF k o) j g/\F j=aa^ų c/\F g=aa^ϔ h/\atb z o F h^aeP u p/\á a w F);#[U,λaP F #[D,a4,h,a6,ba,bd,bf,bg]=>#[au5 u p,afF k o,h,D,a4,r,l,a6,ba,bd,bf,a2,Đ^ē aL 1^ġ,bg],?_];calc#[a,Xo,b,Ď E n,Ç,?_];calc#[a,Xo,b,Ď E n,B,_,Ç,xZ Y I J,b0^az aY,Ç,a,Xo,b,_,r,E,Į n,aki];let h:(am v a^Ŗ b^amV k o^lF (Ñ e) k j g) a=aa^Ŗ b^lF (Ñ e) (afF k o) j g:=as;let c:á a v^am v a^Ŗ b^amV k o^lF (Ñ e) k j g:=aJ.one;let w:=Y.bI c;let F:=ϒ c j aK T;let D:=ϒ c g V L;generalize am v a (Ŗ b (amV k o (lF (Ñ e) k j g)))=aS at h c w F D⊢;let T:=ï O λz U A=>c z _ A^by{simpa usingλk:z=a=>by ext ā k E A};ext aBA S x k o a1 aZ;calc#[a,Xo,b,Ď h n,Ŕ D,_,r,a,Xo,b,Ď h n,_,r,B,_,r,xZ w I J,λH c=>#[H,_,r,.inl #[aw.ad as,Â y b]]];rw[S]at b⊢;let e:=a' (o:=(ų o)) c;let c:=a' (o:=.tup^Ż o) b;let b:=Ë e c;let c:(am (am aS H^ų o) y^.tup^Ż o) y=aa^.tup^Ż o:=as;generalize am (am aS H (.lst (Ż o))) y (.tup (Ż o))=bj at b c⊢;let e:=b g _ D;let n:y≠g:=acA c e l;let o:a≠g:=ci L;calc#[g,Ç,e,by{rwa[aI,Q,aX (W1:=16777213)^aiX (ai l aU) 16777213 Z]},_,r,C++[y],ae8,?_,?_];{rwa[ao o,b a _ h]};{rwa[ao aA,b j _ F]};{rw[as,cA];rfl};{rwa[dE,aM,AG (ï T (Å z U A)) ?_];{rwa[ao^dk (b z _ A) e^by{ext ı l},b z _ A]};{rwa[ao n,c]}};{calcλa N l av=>by rwa[ao^Ę k aV l,b a N^w a N l av]}};{let l:p=u.length:=by{let l:¬(Ñ p<aeG u):=adr R l;calc bX aW^kt l};subst l;rw[d0]at O;rw[GV]at X;calc R v j g C k E aK V O X aL Y}
variable{abX:d5×wQ}
def fh.same(i:acJ XO h s abX Yj XA)(a:ŧ):acJ XO V s abX Yj XA:=#[λb j k c l e g=>i.1 b j k c l e^(agF a) g,λb c j k e g l=>i.2 b c j k e ((agF a) g)^a.free l]
structure Bv(q:aQ)(i:aN)(d:ap)(m:Ą)(t:aG)(J E f A w I N:ac):Prop where(load:ada 353 "load" ["self","text"]^aw9)(arrows:ada 12 "arrows" ["self","name"]^awJ)(assume:ate 12 "assume"^aw5)(release:ate 12 "release"^aw8)(graph:ada 12 "graph" ["self","kind","name"]^awY)(closure:ada 12 "closure" ["self","kind","name"]^awL)(verdict:ada 12 "verdict" ["self"]^awU)(circle:ada 12 "circle" ["self","kind"]^awR)(way:ada 12 "way" ["self","kind","one","other","name"]^awP)(why:ate 12 "why"^aw2)(spread:ada 12 "spread" ["self","name","attribute"]^awZ)(rounds:ada 12 "rounds" ["self"]^awW)
structure Bx(m:Ą):Prop where(eW:Ė "LOAD" 0)(eX:Ė "ARROWS" 1)(eZ:Ė "ASSUME" 2)(e0:Ė "RELEASE" 3)(e1:Ė "GRAPH" 4)(e2:Ė "CLOSURE" 5)(e3:Ė "VERDICT" 6)(e4:Ė "CIRCLE" 7)(e5:Ė "WAY" 8)(e6:Ė "WHY" 9)(eY:Ė "SPREAD" 10)
inductive JC(Xo:ac)(a:ag)(e:ac)(f:Int)(g:å)(h:Ĵ)(i:Nat):Prop|mk(j b c d:_)(_:a e=aa^Ŗ j^lF f i b c)(_:a b=aa^ų g)(_:a c=aa^ϔ d)(_:atb k l a d h)
abbrev Bu(Xo:ac)(a:ag)(b:ac)(c:Int)(d:å)(e:Ĵ)(f:Nat):Prop:=JC Xo a b c d e f
def N3(b:iK Xi=af):at0=bO^Br Xi:=by unfold bO Br;rwa[dZ,vS (Â a c)];unfold iK at b;let:=iI.mp b a c;rw[db,decide_eq_true_iff]at this;show ϫ a=ab.int (a.toNat:Int);rw[vO this.1]
variable{abY:rf}
def lH(a:wU XT ZF=aa abY):abY=ZF/\∀b∈XT,Ż b=bO^Br b:=by unfold wU at a;split at a;{rename_i c;calc#[ŝ a,λb d=>N3^iI.mp c b d]};{ext a}
def pL{b c:Type}{N:σ b c}{d:ì b}{e:c}(a:be N d [e]):∃f,d=[f]/\N f e:=by ext anj a b;{ext b;calc#[_,r,a]}
def Cw{c d:Type}{N:σ c d}{e:ì c}{f g:d}(b:be N e [f,g]):∃h a,e=[h,a]/\N h f/\N a g:=by ext anj b c;{let#[a,rfl,d]:=pL c;calc#[_,a,r,b,d]}
def xu{d e:Type}{N:σ d e}{f:ì d}{g h i:e}(c:be N f [g,h,i]):∃j a b,f=[j,a,b]/\N j g/\N a h/\N b i:=by ext anj c d;{let#[Ä a b,e,f]:=Cw d;calc#[_,a,b,r,c,e,f]}
def mM{c:Type}{a:ì c}(d:a.length=1):∃b,a=[b]:=by match a,d with|[b],_=>calc#[b,r]
def jx(b:asf)(a:dO Xb=aa (W1,Xu)):g=W1/\B=Xu:=by rw[b]at a;let:=bW a;calc#[(ll this).1,(ll this).2]
inductive C'(d:ap)(J E f A w Xo I N:ac)(k:Á)(a:ag)(l:aA)(m:aY):Prop|mk(XO b h:ac)(c:Int)(e:å)(g:Ĵ)(n:Nat)(i:rf)(j:d5)(_:k=acE b h)(_:Bu Xo a h c e g n)(_:dO c=aa (e.length,g.length))(_:Bp ((c::e)::g)=aa i)(_:ŕ XO a b j)(_:acJ XO a b (bN j i) l m)
def MD(e:Ö "made" 136 ["holder","call"])(b:wV d Xo)(c:Bx m)(a:Bv q i d m t J E f A w I N):aBC:=e.aw λe e e=>by calc ý e ["holder","call","wholes","rows"] h e Z e e e j e g;let#[XO,g,s,l,n,n,ag,n,z,n,#[u,M,o,p,v,R,p,O],x,B,y,C]:=e;calc š n e 12 j;left;calc bl.mk (aq (Ò 2 h^ă 1)^aq (Ò 3 h^ă 1)^agH (bG c.eW) (aC^bt^bU a.load (ae 0) j ļ^adE 3 an)^agH (bG c.eX) (aC^bt^bU a.arrows (ae 0) e ļ^adE 3 an)^agH (bG c.eZ) (aC^bt^bU a.assume (ae 0) e ļ^adE 3^amW 3)^agH (bG c.e0) (aC^bt^bU a.release (ae 0) e ļ^adE 3^amW 3)^agH (bG c.e1) (aC^bt^bU a.graph (ae 0) e ļ^adE 2^adE 3 an)^agH (bG c.e2) (aC^bt^bU a.closure (ae 0) e ļ^adE 2^adE 3 an)^agH (bG c.e3) (aC^bt^cT a.verdict (ae 0) e^ļ)^agH (bG c.e4) (aC^bt^bU a.circle (ae 0) e ļ^adE 2 an)^aq (ad3 (ă 1) (bG c.e5) (aC^bt^bU a.way (ae 0) e ļ^adE 2^ak (fm^amW 2)^ak (fm^amW 2)^adE 3 an) b6)^agH (bG c.e6) (aC^bt^bU a.why (ae 0) e ļ^adE 3^amW 3)^agH (bG c.eY) (aC^bt^bU a.spread (ae 0) e ļ^amW 3)^aC^bt^cT a.rounds (ae 0) e^ļ) ?_;ext afw ai;let#[D,a,a,a,F,_,_]:=y.bM;let G:∀{k:Nat},aes (ϫ l=ab.int (k:Int))->l=k:=λ{k} a=>by{let a:=zI a;injection a};left;calc#[s,Xo,u,Ď v b,s,Xo,u,Ď v b,?_];calc afG s u v b a aA;{calc ajo G (k:=0) a j l x 0 (0,1);ext ahT j;ext apO c l n e O h B;calc#[g,D,î F,o,Ļ p,r,XO,g,n,_,z,r,e,y,C]};calc afG s u v b a aF;{calc ajo G (k:=1) a j l x 1 (0,1);ext ahT j;ext apO c l n e O h B;calc#[g,D,î F,o,Ļ p,r,XO,g,n,_,z,r,e,y,C]};calc afG s u v b a aJ;{cases G (k:=2) a;calc axe j l x 2 c H P n S U e L Q O h B g D F o p z y C};calc afG s u v b a aK;{cases G (k:=3) a;calc axe j l x 3 c H P n S U e L Q O h B g D F o p z y C};calc afG s u v b a aL;{calc ajo G (k:=4) a j l x 4 (1,1);let#[T,rfl]:=mM j;ext apO c l n e O h B;calc#[g,D,î F,M,Ļ R,r,o,Ļ p,r,XO,g,n,T,_,z,r,e,y,C]};calc afG s u v b a aM;{calc ajo G (k:=5) a j l x 5 (1,1);let#[T,rfl]:=mM j;ext apO c l n e O h B;calc#[g,D,î F,M,Ļ R,r,o,Ļ p,r,XO,g,n,T,_,z,r,e,y,C]};calc afG s u v b a aO;{calc ajo G (k:=6) a j l x 6 (0,0);ext ahT j;ext ahT l;left;ext B;calc#[g,D,î F,XO,g,z,r,y,C]};calc afG s u v b a aP;{calc ajo G (k:=7) a j l x 7 (1,0);let#[T,rfl]:=mM j;ext ahT l;left;ext B;calc#[g,D,î F,M,Ļ R,r,XO,g,T,z,r,y,C]};calc afG s u v b a aU;{calc ajo G (k:=8) a j l x 8 (5,1);let#[T,V,W,Ä ao av]:=F2 j;ext apO c l n e O h B;calc#[g,D,î F,M,Ļ R,r,M,Ļ R,r,M,Ļ R,r,by{ext apx ai},Â X az];let Y:=ac1 [ϫ V,ϫ W] az;let az:(act Z X [ϫ V,ϫ W]) X=aa^.tup [ϫ V,ϫ W]:=as;generalize agz Z X [ϫ V,ϫ W]=aV at Y az⊢;let Z:=Y M _ R;calc#[M,Ļ Z,r,M,Ļ Z,r,by{ext apx ai},Â Z M];let R:=ac1 [ϫ ao,ϫ av] M;let M:=Ë Y R;calc#[o,_,Ç,Ć M o p,r,XO,g,n,T,V,W,ao,av,ů z,r,M n _ e,#[X,r,R X _ az],#[Z,r,as],É y M,É C M]};calc afG s u v b a M;{cases G (k:=9) a;calc axe j l x 9 c H P n S U e L Q O h B g D F o p z y C};calc afG s u v b a s;{calc ajo G (k:=10) a j l x 10 (0,2);ext ahT j;let#[c,H,rfl]:=vh l;let#[Ä n S,e,L]:=Cw O;let#[rfl,h]:=lH (XT:=[c,H]) B;rw[h c^by simp]at e;rw[h H^by simp]at L;left;calc#[g,D,î F,o,Ļ p,r,o,Ļ p,r,XO,g,n,S,_,_,z,r,e,L,y,C]};nofun;let#[c,rfl,b,b]:=CH x;let e:c=11:=by{let b:∀k:Nat,¬(aes (ab.int (Ñ c)=ab.int (k:Int)))->c≠k:=λk a ag=>a^by{rwa[ag,zJ r]};let:=b 0 aA;let:=b 1 aF;let:=b 2 aJ;let:=b 3 aK;let:=b 4 aL;let:=b 5 aM;let:=b 6 aO;let:=b 7 aP;let:=b 8 aU;let:=b 9 M;let:=b 10 s;lia};subst e;let#[j,l]:=jx x^show dO 11=aa (0,0) from r;ext ahT j;ext ahT l;left;ext B;calc#[g,D,î F,XO,g,z,r,y,C]
def bY.fc(c:aj5)(o:aif^Ν)(w:anG k a l b)(B:∀(h:aj)(j:cp)(n:Ψ)(e:ax)(a:ag)(k:Á)(l:aA)(b:aY)(s:ax),an9 j e h->XC k a l b->av (amX h j n e a b) [] (jf Xh k) a s->aH agY (amX h j n e a b).ao (execs af3 (amX h j n e a b).ai) (iA (amX h j n e a b) [] (aqj p l)) (amX h j n e a b).aD s):aud:=by let#[u,u,u,u,u,u,h,Ä u u,z,A]:=c.au;calc#[w,λj n e a c c k l b v u C D x=>?_];let y:=am5 c E F u;let c:d.In e.heap:=u.mod.ct.keeps y;calc I0 v.depth (c _ _ z) r o.c3 o.eb r (IN c A)^C _ _ _ _^Ji o.kind (λ#[G,z] c=>?_) (Ô H C s A);{calc(o.dT G (vV c).1).imp id λc=>#[c,AN _ _ _^Ð c]};subst C;calc#[(u.mod.nolimit.keeps y).keeps A.toInCall.keep,codeAny_func^eW (B h j n e a k l b s (v.deeper _) x^FV o v.aS u (w _ _ _ _ x) D A) (Å a b b) (Ķ b)];cases a with|ret a=>{let#[z,_,p,a,e,c]:=b;calc#[z,p,ala a,a.aq,e,c]}|next=>{let#[_,p,a,c]:=b;calc#[.ar,p,ala a,a.aq,r,c]}|brk=>{let#[_,_,_,c]:=b;calc c.elim}|cont=>let#[_,_,_,c]:=b;calc c.elim
abbrev mG(a:wQ):Prop:=a.first<0->a.rest=[]
def eP(a:Int):mG^gU a:=aep
def j5(a:Ã):mG^hP a:=λa=>zH a^by show¬(afQ<0);decide
def xg(a:Int):mG {first:=a}:=aep
def K8(a:aE)(b:đ)(c:bf):mG^mE a b c:=by unfold mE;ext ak0;{split<;>calc j5 _}
def K5(a:aE)(b:đ)(c:Nat):mG^px a b c:=by unfold px;split;{calc xg _};{split;{calc xg _};{calc j5 _}}
def K7(a:aE)(b:đ)(c d e f g:Int)(h:Ã):mG^mD a b c d e f g h:=by unfold mD;(repeat' split);all_goals first|(calc eP _)|calc j5 _
def K6(a:d5)(b:aE)(c:bf):mG (lC a b c).2:=by unfold lC;ext ak0;{ext ak0;{ext amY}}
def MQ(b:d5)(a:rf):mG (bN b a).2:=by cases a with|load d=>{ext as8;ext amY}|arrows d=>{ext afH a b c;{rw[x1 a];ext amY}}|assume d e f=>{ext afH a b c;{rw[x2 a];ext ak0;{calc K6 _ _ _}}}|release d e f=>{ext afH a b c;{rw[x4 a];ext ak0;{calc xg _}}}|graph g d=>{ext afH a b c;{rw[ui a];ext atf;{ext amY}}}|closure g d=>{ext afH a b c;{rw[uh a];ext atf;{ext amY}}}|verdict=>{ext afH a b c;{rwa[DE a,j5 _]}}|circle g=>{ext afH a b c;{rw[x3 a];ext atf;{calc K5 _ _ _}}}|way g g e g f d=>{ext afH a b c;{rwa[pQ a,K7 _ _ _ _ _ _ _ _]}}|why d e f=>{ext afH a b c;{rw[rK a];ext atf;{calc K8 _ _ _}}}|spread d e=>{ext afH a b c;{rw[uj a];dsimp only;ext amY}}|rounds=>ext afH a b c;{rwa[DD a,j5 _]}
inductive CM(d:ap)(J E f A w Xo I N:ac)(p:Á)(a:ag)(q:aA)(t:aY):Prop|mk(l c m:ac)(e:Int)(g:å)(h:Ĵ)(s:Nat)(i:rf)(j:d5)(_:p=acE c m)(_:Bu Xo a m e g h s)(_:dO e=aa (g.length,h.length))(_:Bp ((e::g)::h)=aa i)(_:ŕ l a c j)(_:∀b k,b k=aa^.lst^pD (bN j i).2->ŕ l b c (bN j i).1->eF a b->(∀n o,a n=aa o->w0 o->n≠k)->ĕ q k b)
def J1(a:Ö "answered" 137 ["holder","call"])(n:axf)(o:aBC):aBD:=a.aw λa a a=>by let k:dJ ["holder","call","refusal"] ["holder","call"]^da^aB 137:=auq;calc a.fc k (λb c a g e=>by ext an' e) ?_;rintro h h h h c b a g b p ⟨s,u,v,x,y,z,b,g,h,j,B,C,D,e,l⟩ F;subst j;calc ww^eW (U2 (W1:=2) (N:=N) (Yk:=(aqj c a)) r r r k.ak r r r n (λa a=>aC^bt^bg o p (a6.an a)^ü 0 1) F ?_) (Å F a a) (Ķ a);{calc#[s,u,v,x,y,z,b,g,h,r,B,C,D,e,λn e e c o k e=>?_,λn c j p k e s=>l c j p k e λc j a _ b=>by ext ā b s a];let#[p,s,u,v,x,y,z,B,C]:=o;calc#[p,s,_,u,v,x,y,z,B,C,Â s o];let p:=Ϭ [ab.int (bN h g).2.first] o;calc l _ s ?_ (É k p) (ϯ e p) (ê c j a k b);{rw[as];unfold pD;rw[MQ h g n];rfl};{let:=e c j a k;ext af4 b o}};{ext axy F a}
def hp(b:(Xi.all λ(a:Int)=>Jy a 8)=af):iK Xi=af:=by unfold iK;rw[iI]at b⊢;intro a c;let:=b a c;unfold Jy at this;rw[db,decide_eq_true_iff,decide_eq_true_iff]at this⊢;lia
def lG(a:rf)(b:XT.all iK=af):∃c,wU XT a=aa c:=by unfold wU;rwa[zG b,#[a,r]]
def rr(a:iK Xi=af):[Xi].all iK=af:=by rw[la,a];rfl
def JY(a:iK Xi=af)(b:iK Zf=af):[Xi,Zf].all iK=af:=by rw[la,a,la,b];rfl
def w5(a:iK Xi=af)(b:iK Zf=af)(c:iK Zo=af):[Xi,Zf,Zo].all iK=af:=by rw[la,a,la,b,la,c];rfl
def hn(a:(YL&&Zv)=af):YL=af:=(vJ.mp a).1
def eO(a:(YL&&Zv)=af):Zv=af:=(vJ.mp a).2
def J6(b:gJ XT)(a:Bo XT=af):∃c,Bp XT=aa c:=by ext b;{calc lG _^rr^hp^hn a};{calc lG _^rr^hp^hn a};{calc axg a};{calc axg a};{calc lG _^rr^hp^hn^eO a};{calc lG _^rr^hp^hn^eO a};{calc Ŧ};{calc Ŧ};{calc lG _^rr^hp^hn^eO^eO^eO^eO^eO a};{calc axg a};{calc lG _^JY (hp^hn a)^hp^hn^eO^eO a};{calc Ŧ}
def xY(b:afB)(a:aw d h f O):aw d V f O:=by ext ĸ a;{rcases a with a|⟨c,a⟩;{calc .inl^.inl^b f _ a trivial};{calc aip #[c,b f _ a trivial]}};{calc ÿ a}
def c'.own{a:ag}{b:ac}{c:d5}{e:Á}(h:ŕ XO a b c):ŕ XO (am a XO^.lst e) b c:=by let#[g,#[a,d],b]:=h;calc#[by{rwa[ao^acA g d a,g]},#[e,as],?_];rcases h:c.held with _|c;{rw[h]at b;let#[i,c,e,g,a]:=b;calc#[i,c,e,g,by rwa[ao^dk a d^by{ext ı a},a]]};{rw[h]at b;let#[c,h,i,j,e,g,k,l,m]:=b;calc#[c,h,i,j,e,g,k,l,m.own (λa=>a r) d]}
inductive pM(d:ap)(I:ac)(f:Á)(a:ag)(g:aA)(h:aY):Prop|mk(b:ac)(l:å)(_:f=æ b)(_:aw d a b^l.map ab.int)(_:a I=agD)(_:Bf l=af)(_:∀c e,c e=aa^.lst^(q' l).map ab.int->ĕ g e c)
def J2{j:ac}{c:b'}(a:aox "answers" 138 j c)(b:c9 m)(T:wV d Xo)(k:aeB "Holder" w ["self"]^C5 w)(l:aeB "Call" Xo ["self","calls","place"]^C3 d Xo)(n:aBD):ad1 356 j c ["calls"]^pM d I:=by calc ó a ["calls","holder","told","place","call","answer"] a e B e e G;let#[C,g,x,U,v,o,H]:=G;calc š x h 2 e;left;calc al0 (aq (Ò 1 a^Cz k h bd)^agg 2 a^aiJ 3 a^aq (h7 el (arP 3 b)^aq (Ò 4 a^j8 l h bd^ü 0 3)^aq (Ò 5 a^Ü n e^ü 1 4)^aq (akm (ae 2) (Ũ b^Ø 5))^aq (bm^akJ sq (ae 2)^Ø 5)^aC^Ò 3 a^ă 4)^aiS 2);ext afw V;let#[e,R,y,D,k,av]:=Pw o;left;calcλl z b s a=>#[l,z,r,as,λh F c L u=>ag4];let p:aL B h:=λn o a=>u n o (by rwa[Ï a b,Ï a s,a])^by{rwa[b4,ba a b]};ext aBB V b s u;let M:=Ë p u;let S:ŕ b (Ž h b) l Bq:=#[M I _ v,#[_,as],r,z,F,c,u l _ L];let az:B b=ah:=p.free s;calc let L:cW:=(λO Q s=>qd λ(h j:Nat) (e:List (List å)) (c:d5) (p:å) (u v:ϰ)=>u2 (Q=[È C,È l,Ń b h,u,v]) (O=g.length-h) (kB dO j^g.drop h=aa e) ((∀F∈e,Bo F=af)) (ŕ b s l c) (s b=aa^ų p) (p++qL^qK lD c e=q' g)^eF B s);#[L,#[_,0,R,e,Bq,[],Ç,y,D,S,as,k.symm,aD.aC M],?_];ext ϐ O Q s G;let#[h,j,e,c,p,Ř u v,y,D,aA,W,k,M]:=G;left;calc#[C,_,r,.inl^xY M U,Ç,Ý];rwa[aI,Õ a];{let a:ś h g:=by{let a:=zI a;calc gO a};nofun;let#[F,X,Y,aJ,Ä j aK]:=D3 y^by{intro e;let:=zL gP e;rw[jl]at this;simp at this;lia};let#[O,G,G,Q,Ř R S,rfl,aM]:=D2 j;let#[j,Z]:=J6 (EI S r r)^D _ cj;let G:lD c ((O::Q)::R)=((bN c j).1,wT (bN c j).2):=by{unfold lD;rw[Z]};rw[Qk,G]at k;ext Υ k;left;calc let L:hy:=(λag G=>h4 λ(e:Nat) (u v:ϰ) (P:å)=>p' (h<e) (g.drop e=X) (ag=[È C,È l,Ń b e,u,v]) (ŕ b G l (bN c j).1) (G b=aa^ų P) (P++qL^qK lD (bN c j).1 Y=q' g)^eF B G);#[L,λag G #[e,u,v,P,a6,aP,aU,aV,aY,a1,a2]=>#[g.length-e,by{lia},e,aJ,Y,_,P,u,v,aU,r,by{rwa[aP,aK]},γ F u D,aV,aY,a1,a2],?_];calc(λu v B z D=>#[u,v,C,h,g,O,Q,R,X,r,as,?_,aM,S,λF G L X e D Y ag aJ aK aM a4=>ag4]);{calc xY (M.trans λn o a _=>?_) U;rwa[Ï a B,Ï a z,a]};let C:aL s F:=λn o a=>a4 n o (by rwa[Ï a B,Ï a z,a])^by{rwa[b4,ba a B]};calc#[b,l,u,O,Q,R,e,j,c,r,#[v,G,L,X,D,Y,ag,aJ],S,Z,É aA C,ò l x B L l G];let F:=C b _ W;let z:=ac9 l b F;let O:b≠x:=ac9 G b F;let F:=l u _ D r;let Q:u≠b:=acA F z a;let D:(pD (bN c j).2).length=(wT (bN c j).2).length:=aI _;let G:=zL gP k;rw[cO,cO,ce]at G;calc#[Ŕ z,x,_,Ϣ B,b,Ç,z,by{rw[aI];lia},?_];calc#[.inl #[r,_,aw.ad as],b,x,Ç,as,(aeH O) B,(by let z:∀x:ab,(Ż p++[x]).length=Ŏ p:=λx=>by{rw[cO,aI];rfl};rwa[z,D,aX (W1:=6777215)^aiX (ai (ai (ai aia^aF (anu^Đ^ġ) 1)^aF (aZ G) 1)^aF av 1) 6777215 V]),?_];rwa[gn,#[u,Xo,v,agx ((Ņ Q) F) T,?_]];calc#[e,_,_,p++(((wT (bN c j).2).length:Int)::wT (bN c j).2),aM,aK,r,L.own,?_,?_,Ô n o a c];{rw[as,cA,dg,<-D,fN];rfl};{rwa[fN,k]};{rwa[ao^Ę e az a,l n o (C n o^M n o a c) c]}};{let a:β g h:=by{let a:¬(Ñ h<aeG g):=adr H a;calc kt a};rw[z3 a]at y;rw[D4 y]at k;calc(H s b ?_);rw[W,<-k];show _=aa^cx.lst^(p++[]).map ab.int;rw[fd]}
def SS(a:W.noTabs d=af)(b:adT=ŉ):W5≠W.tabObj #[]:=λc=>by let:=iI.mp a (f,W5)^W.mem_of_lookupK b;ext ϗ c
def Ue(J:ajM)(S:j.heap.Ns c5 m)(T:j.heap.Ns pf ZQ)(a1:∀u:al,u≠"__name__"->ZQ u=mj u)(a2:j.heap.NoLimit)(a3:j.gens=#[])(U:nG i.params j.heap Xd Y3)(aD:jJ Y3=af)(a4:∀h∈Y3,aqK h)(a6:aW g tk)(V:md j.heap s w)(B:j.heap.get? w=aa^W.tabObj #[])(a7:W.noTabs d=af)(a8:∃C v,m "__builtins__"=È C/\C≠pf/\ĥ C v/\v.cls=Þ "module"/\v.dict=aa pf/\v.data=.plain)(ba:∀D:aG,d.In D->D.Ns c5 m->md D s w->kK m D->bI q i d m D aO g f M Xh XC)(bd:∀(bf:ax)(X:â),anw X->qO bf M #[X,[]]^Xh.zip X)(bg:Y3.length=Xh.length)(bh:∀(p:ag)(aF:Á),p w=ah->kj d p aF Y3->XC aF (am p w^ft fW fX) (λY aJ=>gg d aJ Y WL) ald):jo agY tk (.call ñ #[Xd,[]]) (λy x=>∃l Z,y=.ok^.ret l/\me aat aau x.heap l WL Z/\OldK j.heap x.heap/\x.os=j.os/\ny x.gens) j:=by let#[n,aK,E]:=u4 Y3 Xd U aD a4;let bj:Fg^ahU n:=Ra E;let bk:=va J E Y3 Xd U aD aK;let bl:=qw aK;let bm:∀a l,ahU n a=aa l->d.lookup a=ah:=λa l o=>(u6 E o).1;let L:∀{a:ac}{c:bb},ĥ a c->(∀k:â,c≠Μ "list" k)->(∀k:â,c≠Μ "tuple" k)->ahU n a=ah:=λ{a c} b ae ai=>by{rcases o:ahU n a with _|l;{rfl};{obtain⟨_,k,_,_,⟨t,_⟩|⟨t,_⟩⟩:=u6 E o;{rw[t]at b;calc zH (ŝ b)^ae k};{rw[t]at b;calc zH (ŝ b)^ai k}}};let bo:ahU n w=ah:=L B (alR k e)^anK k e;let ak:cG q i (am (ahU n) w^ft fW fX) j.heap:=λa l o=>by{by_cases e:a=w;{ext aio e o;rwa[e,#[#[],B,trivial,λcb cc _ _ bq=>by ext bq]]};{rw[ao e]at o;obtain⟨_,k,N,O,⟨b,rfl⟩|⟨b,rfl⟩⟩:=u6 E o;{calc#[b,by{rwa[aI,N]},k,_,qw O,b]};{calc#[b,by{rwa[aI,N]},k,qw O,_,b,r,_,r]}}};let aL:=bh _ _ bo bk;let P:∀{a:ac}{c:bb},ĥ a c->c≠W.tabObj #[]->ahU n a=ah->ajp n a=ah:=λ{a c} b ae ai=>by{rwa[ao^λe=>ae^by{rw[e,B]at b;calc ŝ b},ai]};let aM:∀a l,ajp n a=aa l->a=w\/∃c an,l=.aL c an:=λa l o=>by{by_cases e:a=w;{calc Ð e};{rw[ao e]at o;rcases bj a with z|⟨c,an,z⟩;{ext Æ o z};{rw[o]at z;calc è #[c,an,bW z]}}};let aq:ajp n w=agD:=as;let aP:∀{a:ac}{c:bb}{F:aj3}{G:Nat},ĥ a c->c.data=.dict F G->ajp n a=ah:=λ{a c F G} b h=>P b (λe=>by ext Æ e h)^L b (λk e=>by ext Æ e h)^λk e=>by{ext Æ e h};let aS:ajp n s=ah:=by{let#[c,k,Ϝ,_,H,t,cd,_]:=id V;calc P H (λe=>by ext Æ e t)^L H (axh k e t)^axh k e t};let aU:∀{a:ac}{c:bb},ĥ a c->c.cls=Þ "module"->ajp n a=ah:=λ{a c} b h=>P b (λe=>by ext Æ e h)^L b (axh k e h)^λk e=>by{calc aqN e h (qZ h)};let au:∀a c,d.lookup a=aa c->ajp n a=ah:=λa c b=>P (J a c b) (SS a7 b)^by{rcases o:ahU n a with _|l;{rfl};{rw[bm a l o]at b;ext b}};generalize ajp n=p at ak aL aM aq aP aS aU au;let Q:∀{a:ac}{c:bb},ĥ a c->p a=ah->(ak1 p).get? a=aa c:=λb br=>RE b br;let R:∀{a:ac}{av:Ą},j.heap.Ns a av->(ak1 p).Ns a av:=λ{a av} z=>by{let#[c,F,G,b,h,y]:=z;calc#[c,F,G,Q b^aP b h,h,y]};let aV:d.In^ak1 p:=λa c b=>Q (J a c b)^au a c b;let bt:uU d m^ak1 p:=#[aV,R S,#[ZQ,R T,a1],let#[bu,N,O]:=a2;#[bu,R N,O]];let bv:md (ak1 p) s w:=let#[c,k,bw,bx,bA,bG,bH,bL,bM,b,y]:=V;#[c,k,bw,bx,bA,bG,bH,bL,bM,Q b aS,y];let bO:kK m^ak1 p:=by{let#[C,v,bP,bQ,aw,aX,bR,aY]:=a8;calc#[C,v,bP,bQ,Í e,Q aw^aU aw aX,aX,bR,aY];let#[c,F,G,b,h,_]:=S;rw[<-e,aw]at b;ext b;ext Æ aY h};let bS:kk q i d m (ak1 p) tk [] j p:=#[r,bt,λa c b=>SX b,o1^RF _ _,trivial,λa T=>aqh a T,ak,.of_eq a3];let bU:Xd.length=Xh.length:=by{rwa[zq U,bg]};calc ml ((ba _ aV (R S) bv bO).cy tk [] j p #[Xd,[]] Xd (Xd.map hb) _ _ a6 bS (bd j Xd bU) bl aL) (Å y x u);rcases y with b|bV;{calc u.elim};{cases bV with|next=>{calc u.elim}|brk=>{calc u.elim}|cont=>{calc u.elim}|ret l=>let#[Y,aJ,bX,bY,az,aA,bZ,o]:=u;let aZ:∃A,x.heap.get? w=aa^W.tabObj A:=by{let#[cf,e]:=az.b1 w _ aq;let#[A,b0,_]:=aA w _ e;calc#[A,b0]};let aB:∀a c,a≠w->ĥ a c->adg x a=aa c:=λa c b3 b=>by{rcases I:p a with _|b6;{calc ð az a c b I (by intro e;calc zH (show a∈([]:Ó) from e)^by simp)^by simp};{rcases aM a b6 I with e|⟨v,cg,e⟩;{calc zH e b3};{rw[e]at I;let#[H,_]:=ak a _ I;let#[t,_]:=aA a _^az.bS a v _ I;ext Æ b H;calc t}}};let b8:d.In x.heap:=λa c b=>aB a c (λe=>by let:=au a c b;ext af4 e aq)^J a c b;let#[Z,ca]:=gg.b4 (aat:=aat) (aau:=aau) aA b8 WL Y l o bZ;calc#[l,Z,r,ca,#[Å a c b,Å a c b],bX,bY];{by_cases e:a=w;{let#[A,aC]:=aZ;ext ā e B b;rwa[e,.inr^.inl #[(V.tab B).isCodeTable,r,#[],A,r,by rwa[Array.empty_append,aC]]]};{calc .inl^aB a c e b}};{by_cases e:a=w;{let#[A,aC]:=aZ;calc#[_,by rwa[e,aC]]};{calc#[c,aB a c e b]}}}
variable{Zg:W.OpenSpec}{acm:(al->Option aj)->aG->Prop}{aae:aN->aG->Prop}{aa7:DefRec}{Wa:nD->ap}{abZ:ap->ac->dK}{acl:DefRec}
def Vf(v:Zg.wellSaid=af)(aA:aa7.params.defaults=[])(w:Zg.args.length=Ya.length)(x:aW g tk)(y:∀(a:aN)(c:aG),aae a c->(ajq a).In c)(z:(recsOf q).find? (λA=>A.name==L)=aa acl)(B:∀a c,aae a c->∃h b,q0 (ajq a) L=õ h b)(C:∀a c,aae a c->W.noTabs^ajq a=af)(D:∀(a:aN)(e:Ą)(k:ac)(c:aG)(h b:ac),aae a c->(ajq a).In c->c.Ns c5 e->e aa7.name=È k->q0 (ajq a) L=õ h b->∃n:b',(∀(E:ax)(o:â),o.length=Ya.length->qO E n #[o,[]]^Ya.zip o)/\∀i:aG,(ajq a).In i->i.Ns c5 e->md i h b->kK e i->bI Zg.prog a (ajq a) e i aO g k n Ya^abZ (ajq a) b)(F:∀(p:ap)(b:ac)(j:ag)(l:Á)(d:hN.denoteAll Zg.args),j b=ah->hN.withinAll Zg.args d=af->hN.app Zg.args Zg.asked d=af->kj p j l^hN.encAll Zg.args d->abZ p b l (am j b^ft fW fX) (λG H=>gg p H G^Zg.ret.enc^hN.app Zg.args Zg.f d) ald):W.WalkOS q Xh acm aae Zg aa7 []^λI J=>fB I J:=by intro a M aB e aC f m k aD aF aJ aK aL aM aP aS aU aV N O P aX aY Q R aZ S a1;let#[d,T,U]:=W.os_pre_some Q;let#[V,t]:=hN.encAll_of_decAll Zg.args P d T;subst V;let s:=y a _ m;let#[h,b,u]:=B a _ m;let#[X,Y]:=W.tab_of f.T s z u;let#[n,Z,ae]:=D a e k _ h b m s f.T.g N u;calc W.enter_call^ml (Ue (aat:=[]) (aau:=classAt M.heap) (WL:=Zg.ret.enc^hN.app Zg.args Zg.f d) s f.T.g f.T.b f.T.builtins f.T.nolimit O S (Gg _ _) (SD R) x X Y (C a _ m) f.T.bmain ae Z (by rwa[FJ,w])^λj l ai ak=>F _ b j l d ai t U ak) (Å a2 a3 an);let#[Ä ao aq,as,au,av,aw]:=an;calc#[.inl #[ao,_,aq,r,aep,as,(W.OpenSpec.post_iff v t _ _).mpr r,λaz=>ji^adn az],au,av,aw]
variable{aaK:List aj->Prop}
def rs(b:aaK []):∀a,a.length=0->aaK a:=by intro a c;ext Ā a a a;{calc b};{ext c}
def pE(d:∀b a,a.length=g->aaK (b::a)):∀a,a.length=g+1->aaK a:=by intro a c;ext Ā a b a;{ext c};{calc d b a^Ak c}
@[reducible]abbrev rj(d e:al)(a:cE)(c:Ĩ):Prop:=∀(f g h:aj)(i:acL)(j k:aj)(b:â),Ē b c->wk (iN d e (jD a) (f3 a) (da a) .none f g h i j k) #[b,[]]=pure^c.zip b
inductive JE(d:ap)(m:Ą)(a:al)(c:cE):Prop|mk(b e:_)(_:bY d a a c b e)(_:m a=È b)
abbrev cg(d:ap)(m:Ą)(a:al)(b:cE):Prop:=JE d m a b
def cg.at_(a:cg d m L Xm)(b:rj L L Xm Xh:=by calc atg):b3 d m L Xm Xh:=let#[k,l,c,n]:=a;#[k,l,c,c.c1 b,n]
inductive JM(d:ap)(c:ac)(a:al)(e:al)(f:cE):Prop|mk(b g:_)(_:bY d a e f b g)(_:sh d c a b)
abbrev dH(d:ap)(a:ac)(b c:al)(e:cE):Prop:=JM d a b c e
def dH.aw(e:dH d f L Xn Xm)(h:g5 d f)(j:∀a b,bY d L Xn Xm a b->ϊ XU g a b Xh XC)(k:rj L Xn Xm Xh:=by calc atg):Ϥ XU g f L Xh XC:=let#[a,b,c,l]:=e;#[h,a,b,j a b c,c.c1 k,l]
inductive JK(d:ap)(m:Ą)(c:al)(a:ac)(e:al)(f:cE):Prop|mk(b g:_)(_:alY e f b g)(_:si d a b)(_:m c=È a)
abbrev hR(d:ap)(m:Ą)(a:al)(b:ac)(c:al)(e:cE):Prop:=JK d m a b c e
def hR.bG(e:hR d m L f Xn Xm)(h:∀a b,alY Xn Xm a b->ϊ XU g a b Xh XC)(j:rj "__init__" Xn Xm Xh:=by calc atg):eG q i d m t XU g L f Xh XC:=let#[a,b,c,k,l]:=e;#[a,b,k,h a b c,c.c1 j,l]
inductive JU(d:ap)(m:Ą)(c:ac)(e:al)(f:al)(g:cE):Prop|mk(a h b i:_)(_:yJ d a h b)(_:alY f g b i)(_:m e=È a)(_:pd d (À a)^À c=ζ)
abbrev gZ(d:ap)(m:Ą)(a:ac)(b c:al)(e:cE):Prop:=JU d m a b c e
def gZ.raises(e:gZ d m f L Xn Xm)(g:∀a b,alY Xn Xm a b->ad1 2 a b ["self"]^vw d Xb)(h:rj "__init__" Xn Xm ["self"]:=by calc atg):ϑ f L Xb:=let#[k,l,a,b,n,c,u,v]:=e;#[k,l,a,b,n,g a b c,c.c1 h,u,v]
structure tT(i:aQ)(j:aN)(a:ap)(b:Ą)(d e f k l m n g o p h c q w s x t u:ac)(y z:Ó):Prop where(gw:ã a b "with_arrow" 1)(fH:ã a b "has_arrow" 2)(fy:ã a b "closed" 3)(gs:ã a b "told_arrows" 4)(gu:ã a b "told_occurrences" 5)(fN:ã a b "is_of_kind" 12)(fP:ã a b "joined_graph" 13)(fG:ã a b "graph_of_kind" 14)(fX:ã a b "pairs_at" 15)(fY:ã a b "pairs_from" 16)(fT:ã a b "new_pairs" 17)(gx:ã a b "work_out" 18)(fJ:ã a b "is_blank" 44)(fK:ã a b "is_digit" 45)(fL:ã a b "is_great_letter" 46)(fM:ã a b "is_letter" 47)(gj:ã a b "spelled" 48)(fB:ã a b "end_of_run" 49)(fR:ã a b "name_token" 50)(fV:ã a b "number_token" 51)(gq:ã a b "token_of" 52)(gr:ã a b "tokens_of" 53)(f3:ã a b "read_expression" 62)(gg:ã a b "read_whole" 63)(f4:ã a b "read_if" 64)(gb:ã a b "read_step" 65)(f':ã a b "read_signed" 66)(f1:ã a b "read_atom" 67)(f7:ã a b "read_number" 68)(f5:ã a b "read_name" 69)(fz:ã a b "count_for" 70)(f2:ã a b "read_bracket" 71)(f0:ã a b "read_arguments" 72)(gf:ã a b "read_text" 78)(f6:ã a b "read_names" 79)(gc:ã a b "read_symbol" 80)(f8:ã a b "read_production" 81)(f9:ã a b "read_rule" 82)(gd:ã a b "read_target" 83)(fU:ã a b "number_named" 93)(gi:ã a b "require" 94)(fu:ã a b "are_different" 95)(fF:ã a b "grammar_of" 96)(gn:ã a b "symbols_of" 97)(fZ:ã a b "production_of" 98)(fA:ã a b "draw_rules" 99)(fW:ã a b "occurrence_number" 100)(fO:ã a b "is_to_be_defined" 101)(gp:ã a b "symbols_with_tree" 102)(fI:ã a b "has_circle" 104)(gm:ã a b "steps_to" 105)(fS:ã a b "nearest" 106)(fE:ã a b "first_way" 107)(fD:ã a b "first_circle" 108)(fC:ã a b "family_before" 110)(gh:ã a b "reason_of" 111)(gv:ã a b "way_for" 112)(fx:ã a b "attributes_of" 114)(fw:ã a b "attribute_numbers" 115)(gk:ã a b "spread_at_once" 116)(gl:ã a b "spread_from" 117)(fQ:ã a b "made" 136)(ft:ã a b "answered" 137)(hE:dH a h "add_pair" "Family.add_pair"^ç 11 1)(hF:dH a h "last_round" "Family.last_round"^ç 11 2)(hx:dH a e "next_kind" "Cursor.next_kind"^ç 54 1)(hy:dH a e "next_mark" "Cursor.next_mark"^ç 54 2)(hz:dH a e "take" "Cursor.take"^ç 54 3)(hA:dH a e "take_mark" "Cursor.take_mark"^ç 54 4)(hB:dH a f "add_part" "Expression.add_part"^ç 61 1)(hC:dH a f "begin_level" "Expression.begin_level"^ç 61 2)(hD:dH a f "end_levels" "Expression.end_levels"^ç 61 3)(h4:dH a g "number_of" "Symbol.number_of"^ç 90 1)(h3:dH a g "is_handed_down" "Symbol.is_handed_down"^ç 90 2)(hO:dH a c "load" "Holder.load"^ç 121 1)(hG:dH a c "arrows" "Holder.arrows"^ç 121 2)(hH:dH a c "assume" "Holder.assume"^ç 121 3)(hT:dH a c "release" "Holder.release"^ç 121 4)(hL:dH a c "graph" "Holder.graph"^ç 121 5)(hK:dH a c "closure" "Holder.closure"^ç 121 6)(h0:dH a c "verdict" "Holder.verdict"^ç 121 7)(hJ:dH a c "circle" "Holder.circle"^ç 121 8)(h1:dH a c "way" "Holder.way"^ç 121 9)(h2:dH a c "why" "Holder.why"^ç 121 10)(hY:dH a c "spread" "Holder.spread"^ç 121 11)(hX:dH a c "rounds" "Holder.rounds"^ç 121 12)(hV:dH a c "require_grammar" "Holder.require_grammar"^ç 121 13)(hW:dH a c "require_kind" "Holder.require_kind"^ç 121 14)(hU:dH a c "require_families" "Holder.require_families"^ç 121 15)(hM:dH a c "graph_of" "Holder.graph_of"^ç 121 16)(hN:dH a c "is_free" "Holder.is_free"^ç 121 17)(hS:dH a c "production_named" "Holder.production_named"^ç 121 18)(hZ:dH a c "symbol_named" "Holder.symbol_named"^ç 121 19)(hI:dH a c "attribute_named" "Holder.attribute_named"^ç 121 20)(hQ:dH a c "pair_named" "Holder.pair_named"^ç 121 21)(hP:dH a c "occurrence_at" "Holder.occurrence_at"^ç 121 22)(hm:hR a b "Cursor" e "Cursor.__init__"^ç 54 0)(gA:cH a e ["tokens","place"])(hn:hR a b "Expression" f "Expression.__init__"^ç 61 0)(gB:cH a f ["occurrences","has_own_number","parts","levels"])(hu:hR a b "ReadSymbol" k "ReadSymbol.__init__"^ç 74 0)(gI:cH a k ["name","handed_down","handed_up"])(hs:hR a b "ReadProduction" l "ReadProduction.__init__"^ç 75 0)(gG:cH a l ["name","left","is_numbered","children","rules"])(ht:hR a b "ReadRule" m "ReadRule.__init__"^ç 76 0)(gH:cH a m ["target","expression"])(hv:hR a b "ReadText" n "ReadText.__init__"^ç 77 0)(gJ:cH a n ["symbols","productions"])(hw:hR a b "Symbol" g "Symbol.__init__"^ç 90 0)(gL:cH a g ["name","attributes","down_count"])(hr:hR a b "Production" o "Production.__init__"^ç 91 0)(gF:cH a o ["name","places","starts","occurrences","own_graph"])(hp:hR a b "Grammar" p "Grammar.__init__"^ç 92 0)(gD:cH a p ["symbols","productions"])(ho:hR a b "Family" h "Family.__init__"^ç 11 0)(gC:cH a h ["found_in","rows"])(hq:hR a b "Holder" c "Holder.__init__"^ç 121 0)(gE:cH a c ["grammar","assumed","families"])(hl:hR a b "Call" q "Call.__init__"^ç 135 0)(gz:cH a q ["number","end","wholes","rows"])(ij:gZ a b d "TooLong" "TooLong.__init__"^ç 21 0)(il:gZ a b d "Unreadable" "Unreadable.__init__"^ç 22 0)(h9:gZ a b d "NoGrammar" "NoGrammar.__init__"^ç 23 0)(ih:gZ a b d "NothingHeld" "NothingHeld.__init__"^ç 24 0)(ie:gZ a b d "NoSuchSymbol" "NoSuchSymbol.__init__"^ç 25 0)(h':gZ a b d "NoSuchAttribute" "NoSuchAttribute.__init__"^ç 26 0)(ii:gZ a b d "SameDirection" "SameDirection.__init__"^ç 27 0)(h8:gZ a b d "AssumedAlready" "AssumedAlready.__init__"^ç 28 0)(ik:gZ a b d "TooManyAssumed" "TooManyAssumed.__init__"^ç 29 0)(ia:gZ a b d "NoSuchKind" "NoSuchKind.__init__"^ç 30 0)(ic:gZ a b d "NoSuchProduction" "NoSuchProduction.__init__"^ç 31 0)(ib:gZ a b d "NoSuchOccurrence" "NoSuchOccurrence.__init__"^ç 32 0)(ig:gZ a b d "NotFromBelow" "NotFromBelow.__init__"^ç 33 0)(h5:∃v A,bY a "__init__" "Refusal.__init__" (ç 20 0) v A/\uQ a d "__init__" v)(aJ:b "Refusal"=È d)(fq:c9 b)(fs:b "min"=ah)(fr:b "max"=ah)(g7:bA b "MOST_NAME_BYTES"^Î 12)(g5:bA b "MOST_DIGITS"^Î 18)(g0:bA b "MARK"^ô "mark")(gW:bA b "GREAT"^ô "great")(hf:bA b "SMALL"^ô "small")(hb:bA b "NUMBER"^ô "number")(gU:bA b "END"^ô "end")(gT:bA b "COMPARISON"^Î 2)(g8:bA b "MOST_PARTS"^Î 60)(g6:bA b "MOST_LEVELS"^Î 30)(g4:bA b "MOST_CHILDREN"^Î 3)(g':bA b "MOST_RULES"^Î 24)(ha:bA b "MOST_SYMBOLS"^Î 12)(g2:bA b "MOST_ATTRIBUTES"^Î 4)(g9:bA b "MOST_PRODUCTIONS"^Î 24)(hc:bA b "OWN"^Î 0)(gP:bA b "BELOW"^Î 1)(gM:bA b "ABOVE"^Î 2)(gX:bA b "JOINED"^Î 3)(g3:bA b "MOST_BYTES"^Î 3000)(g1:bA b "MOST_ASSUMED"^Î 20)(gY:bA b "LOAD"^Î 0)(gN:bA b "ARROWS"^Î 1)(gO:bA b "ASSUME"^Î 2)(hd:bA b "RELEASE"^Î 3)(gV:bA b "GRAPH"^Î 4)(gS:bA b "CLOSURE"^Î 5)(hh:bA b "VERDICT"^Î 6)(gR:bA b "CIRCLE"^Î 7)(hi:bA b "WAY"^Î 8)(hj:bA b "WHY"^Î 9)(hg:bA b "SPREAD"^Î 10)(hk:bA b "WORDS"^À s)(gQ:bA b "CALLS"^À t)(he:bA b "SIGNS"^À u)(cU:rp a b w y)(words:∀B,bw a B s pS)(calls:j2 i j a t mJ)(h7:j2 i j a u mQ)(h6:w3 a b x z)
variable{Wj Wk Wl Wm Wn:ac}{aaf aag:List ac}
def JZ(a7:ath)(a8:w2 d m t I)(ba:kK m t)(b:aox "answers" 138 a M):ad1 356 a M ["calls"]^pM d I:=by rcases a7 with⟨bd,bf,bg,bh,bj,bk,bl,bm,bo,bq,br,bt,bu,bv,bw,bA,bG,bH,bL,bM,bO,bP,au,bQ,bR,bS,bU,bV,bX,bZ,b0,b3,b6,b8,ca,cb,cc,cd,cf,cg,ck,cl,cm,cn,cs,ct,cx,cy,cz,cB,cC,cD,cF,cG,cH,cI,cJ,cK,cM,cS,cT,cU,cW,cX,cZ,c0,c1,c2,c3,c4,c7,c8,c9,da,de,df,di,dj,dk,dq,dr,dt,dv,dy,dz,dA,dB,dC,av,dH,dK,dL,dM,dQ,dR,dS,dT,z,dW,v,dX,aw,dY,X,d1,Y,d2,az,d6,u,d7,g,d8,h,d9,o,ea,c,eb,Z,eg,eh,ei,em,en,eo,ep,eq,er,es,ev,ew,ex,ey,j,ez,aA,eA,eB,eF,H,Q,L,ab,aC,eH,eI,eJ,eK,eL,eO,eP,eQ,aD,R,S,aF,eR,eS,eT,eZ,e0,e1,e2,e3,e7,e8,e9,fa,fb,fc,fh,fi,fj,fk,fl,fm,fs⟩;let e:=ez;let#[hu,ft,aJ,k]:=ey;let l:gx d ft ["self","number"] []:=aJ.c1 λ_ _ _ _ _ _=>pE λ_=>pE λ_=>rs r;let n:=LH (q:=q) (i:=i) (m:=m) (t:=t) aJ;ext ati fu eg b n l k j x eh fv ei;ext ati fw em b n l k j fx en fE eo;ext ati fF ep b n l k j fG eq fH er;ext ati aK es b n l k j fI ev fJ ew;ext atj fK ex b n l k j;let fL:=LX (q:=q) (i:=i) (t:=t) bu.at_;let aL:=LY (q:=q) (i:=i) (t:=t) bv.at_;let aM:=L0 (q:=q) (i:=i) (t:=t) bw.at_;let aP:=L2 bA.at_ aM;let aS:=Oh (q:=q) (i:=i) (t:=t) bG.at_ e;let fS:=KY bH.at_ e aP aL;let fT:=MN bL.at_ e x aS aM eB fc fk H Q L;let fU:=MZ bM.at_ e x eF ab;let fV:=OW bO.at_ x aP aL fT fU fi fm H;let fW:=OX bP.at_ e fS fL fV aC;let D:ob d s:=#[Į z,z.no _^by simp];let B:mF d X9:=#[Į v,v.no _^by{simp},v.no _^by{simp},v.no _^by simp];calc apP T c0 z (λa M b=>MS b D) aU c1 λa M b=>MT b D H T;calc apP ae c2 z (λa M b=>OL b D x T) aV c3 λa M b=>ON b D H x ae;calc apP fX c4 v (λa M b=>JX b B eI x) fY c7 λa M b=>Kc b B eJ x;let fZ:ņ _:=Ň c8 v λa M b=>KX b B;let f0:aok N s X9:=#[T,aU,ae,aV,fX,fY,fZ,B,D,H,L,ab];let F:akA N s:=#[T,aU,ae,aV];calc aeS f1 dT λa M b=>LJ b D;calc aeS f2 dW λa M b=>LK b B;calc aeS f3 dX λa M b=>LR b aw;calc aeS f9 dY λa M b=>LP b X;calc aeS ga d1 λa M b=>LQ b Y;calc aeS gb d2 λa M b=>LS b az;calc aeS gc d6 λa M b=>LU b u e;calc aeS gd d7 λa M b=>LO b g e;calc aeS ge d8 λa M b=>LM b h;calc aeS aW d9 λa M b=>LL b o u;calc aeS gf ea λa M b=>LN b c;calc aeS gg eb λa M b=>LI b e Z fs;let gh:By d m:=#[au.at_,bQ.at_,bR.at_,bS.at_,bU.at_,bV.at_,bX.at_,bZ.at_,b0.at_,b3.at_,b6.at_];let gi:=NV gh f0 e fj eH fh fl x aS 30;let gj:=NI au.at_ f2 gi;let aX:=NL ca.at_ F;let gk:=NR cb.at_ F Q L aX f3;let gl:=NS cf.at_ F ab L;let gm:=NO cd.at_ F gl gj ga;let gn:=NN cc.at_ F Q L aX gm f9;let go:=NT b8.at_ F Q aC fW f1 gk gn gb;let O:=NX ck.at_ fv;let ag:=MX (q:=q) (i:=i) (t:=t) cg.at_ e;calc apP gr c9 u (λa M b=>MY b u) gs da λa M b=>L1 b u;let G:akK:=#[u,gr,gs];let aY:=J4 (q:=q) (i:=i) (t:=t) cl.at_ e;let gt:=M2 cx.at_ e g G O;let gu:=L4 cy.at_ g G;let U:=Pj (q:=q) (i:=i) (t:=t) bd.at_;let y:=Lr (q:=q) (i:=i) (t:=t) bf.at_;let P:=KC bg.at_ e y;let gv:=KQ ct.at_ e g Y B gt gu O U;let gw:=Nx cs.at_ e eK eL X G Y B O ag gd gv;let gy:=Os cn.at_ e eO eP aw u O aY gc;let gz:=Ot (q:=q) (i:=i) (t:=t) cz.at_ e g;let gF:=Lm cm.at_ e eQ az X go gy O aY gw gz ge;let aZ:=OY bh.at_ e y;let ai:=OZ (q:=q) (i:=i) (t:=t) bj.at_ e;let a1:=L3 bk.at_ G R S;let ak:=Mc (q:=q) (i:=i) (t:=t) bl.at_ e g o;let gG:=Ng bo.at_ g y;let a2:=Lo bm.at_ e g aD R S aF ak;let gH:=Nh bq.at_ e g R S ak a2 P gG;calc apP a3 cX o (λa M b=>JW b o U) gI cZ λa M b=>MA b e eA o;let gJ:=MR br.at_ e h g o gH a1;let a4:=Pl bt.at_ e h o aW a3 a1 gJ;let gK:=Ka (q:=q) (i:=i) (t:=t) cK.at_ e h u;let gL:=J' (q:=q) (i:=i) (t:=t) cM.at_ g;let gM:=Oi cS.at_ e h g gL y U;let gN:=Oj cT.at_ e gK gM P y;let gO:=Ls cB.at_ e P y;let gV:=Oo cC.at_ e U;let gW:=MP cD.at_ e aA a8 ba y;let am:=La cF.at_ gV gW;let gX:=K9 cG.at_ e aA P y am;let gY:=K1 (f:=f) cH.at_ h o aW a3;let gZ:=Pd cJ.at_ g ak am;let g0:=NW cI.at_ e h o gY gZ;let C:mI m:=#[aD,R,S,aF];let p:ņ^i1 d N w:=Ň dB c λa M b=>N0 b c fw;let an:ņ^rH d N:=Ň dC c λa M b=>N1 b C aK;let ao:ņ^awz:=Ň dL c λa M b=>Nw b c h g ag fI;let aq:ņ^awB:=Ň dM c λa M b=>Oq b c h u ag fx;let a6:ņ^awC:=Ň dQ c λa M b=>J9 b c h G fE;let as:ņ^awE:=Ň dR c λa M b=>Nf b aq a6;let g1:ņ^apI λg2=>g2≠2:=Ň av c λa M b=>NY b c C a4;let V:ņ^apI ag6:=Ň av c λa M b=>NZ b c C a4 g1;let W:ņ^pO J E f A w I:=Ň dH c λa M b=>Ln b c V a2;let g3:ņ^xM d f N:=Ň dS c λa M b=>M1 b g fJ;let g4:ņ^xF J E f A w I:=Ň dK c λa M b=>LZ b e c h W gO;let g5:ņ^aw9:=Ň de c λa M b=>Km b e c h eR fu gF;let g6:ņ^awJ:=Ň df c λa M b=>Kh b g p ao aZ;let g7:ņ^aw5:=Ň di c λa M b=>Ki b e c h G eS fF fG fH p as;let g8:ņ^aw8:=Ň dj c λa M b=>Kn b c p as;let g9:ņ^awY:=Ň dk c λa M b=>Kl b e c o C aK p aq V;let ha:ņ^awL:=Ň dq c λa M b=>Kk b g p an ao W P aZ;let hb:ņ^awU:=Ň dr c λa M b=>Kq b C p g4;let hc:ņ^awR:=Ň dt c λa M b=>Kj b e c h g p an W gX ai;let hd:ņ^awP:=Ň dv c λa M b=>Kr b g p an ao g3 W am ai;let hn:ņ^aw2:=Ň dy c λa M b=>Ks b c h g o C fK p as V g0 ai;let ho:ņ^awZ:=Ň dz c λa M b=>Kp b c p aq a6 gN;let hp:ņ^awW:=Ň dA c λa M b=>Ko b c C p V gI;let hq:Bv q i d m t J E f A w I N:=#[g5,g6,g7,g8,g9,ha,hb,hc,hd,hn,ho,hp];let hr:Bx m:=#[eT,eZ,e0,e1,e2,e3,e7,e8,e9,fa,fb];let hs:=MD cU.at_ Z hr hq;let ht:=J1 cW.at_ j hs;calc J2 b e Z gf gg ht
variable{Wo Wp Wq Wr:aj}
def BN(a:Ξ)(b:ajr)(c:ŗ L=ajN)(e:amZ (.func^iN L L (jD Xm) af3 Ν .none Wo Wp Wq X7 YW Wr))(f:ls d YW L=af)(g:ak2):cg d m L Xm:=#[Xl,_,so e f g,fP a b c]
def MI(b:ϸ Yo=ajN)(c:anq)(e:amZ (.func^iN Yo YZ (jD Xm) af3 Ν .none Wo Wp Wq X7 YW Wr))(f:atk)(a:ak2):dH d s Yo YZ Xm:=#[Xl,_,so e f a,b,c,a]
def LD(a:m L=aa^ß)(b:ap6)(c:anq)(e:axi)(f:atk)(g:ak2)(h:AQ d s=af)(i:gR d^ß=af):hR d m L s YZ Xm:=#[Xl,_,so e f g,#[h,b,c,i],a]
def tW(a:ti d s Str.empty=af)(b:tf d s=af)(c:AU d s=af)(e:ϸ "__setattr__"=aeZ "object.__setattr__"):g5 d s:=#[a,b,c,e]
def t4(W3:e1 d s L):∀Xl∈[L],e1 d s Xl:=λXl a=>by rwa[ċ a,W3]
def kU(W3:e1 d s L)(b:∀Xl∈Xh,e1 d s Xl):∀Xl∈L::Xh,e1 d s Xl:=λXl a=>by ext adQ a a;{rwa[a,W3]};{calc b Xl a}
def Pm(a:Ξ)(b:ajr)(c:ŗ L=aa^aa^ß)(e:∃f g h i j k l n o p q t u v,d.lookup s=aa^mm f g s h i (jc [N]) af j k l n o p q t u v "Exception.__new__")(w:ϸ "__setattr__"=aeZ "object.__setattr__")(x:ϸ "__getattribute__"=aeZ "BaseException.__getattribute__")(y:ϸ "__getattr__"=adP)(z:ap6)(A:anq)(B:axi)(C:atk)(D:ak2)(E:gR d^ß=af)(F:ϸ "number"=adP)(G:pd d ß^acw=ζ):gZ d m N L YZ Xm:=#[s,[N],Xl,_,#[#[e,w,x,y],z,A,E,F],so B C D,fP a b c,G]
def Nz(c:IP d acw (Þ "type") "__init__"=aa^.val^acO)(e:IW d acw "__getattribute__"=aeZ "type.__getattribute__")(f:IU d N^Þ "type"=af)(g:axi)(h:atk)(a:ak2):∃b i,alY YZ Xm b i/\uQ d N "__init__" b:=#[Xl,_,so g h a,e,f,c,a]
variable{ab0:ClassData}
def KZ(a:aBE)(b:wf d N=aa ab0)(c:wj d^acw=aa^Þ "type")(e:wi d ß^acw=ζ):pd d ß^acw=ζ:=by unfold pd W.kitCls;dsimp only;rw[a,b,c,e];rfl
def Lj(a:Ξ)(b:ajr)(c:ŗ L=aa^aa^af2 YU):bA m L^af2:=#[_,fP a b c,YU,r]
def Lq(a:Ξ)(b:ajr)(c:ŗ L=aa^aa^.str Xn YU):bA m L^.str Xn:=#[_,fP a b c,YU,r]
def Ll(a:m L=aa^ß):bA m L^ß:=ϋ a
def gd(a:adT=aa #[Þ "tuple",X1,aqM g,Zi])(b:aqW)(c:ahX)(e:ag):bw d e f O:=.inr #[_,Xd.toArray,g,a,r,r,by{rwa[dw,b]},c]
@[reducible]abbrev wW(i:aN):Ĕ->List d4->Prop:=be λa b=>jF a.1 b.key=af/\b.hash=y3 i a.1/\bP a.2 b.val
variable{Wb:List d4}
def KN(W3:wW i Xy Wb):∃a,d2 Xy a/\(∀b∈Wb,∃c,jF c b.key=af/\b.hash=y3 i c)/\Pairs ag2 Wb a/\ė a=Xy.map (·.1):=by induction W3 with|nil=>{calc#[[],.nil,adw b d,.nil,r]}|@cons e b _ _ c _ f=>let#[a,g,h,j,k]:=f;calc#[(e.1,b.val)::a,.cons #[r,c.2.2] g,Â b d,.cons c.1 r j,by rw[dg,dg,k]];ext adQ d a;{rwa[a,#[e.1,c.1,c.2.1]]};{calc h b a}
def KM(b:aBF)(c:aj2)(a:wW i Xy Wb)(e:(Xy.map (·.1)).Nodup):j2 q i d f Xy:=by let#[h,j,k,l,m]:=KN (q:=q) a;calc#[c,_,Wb.toArray,g,h,b,#[r,r,r],r,j,λa b=>k a^by{exists b},l,by rwa[m,e]]
variable{aa8:Array (Option aj)}
def OJ(a:ŗ L=ajN)(b:amZ (.func M))(c:M.code=ñ)(e:adT=aa #[W8,X7,.fields Xt,aa8])(g:Xt[11]?=aa^ß):q0 d L=aa (f,s):=by unfold q0;ext adO a;ext adO b;ext adO c;ext adO e;rw[g]
variable{aah:ac}
@[reducible]abbrev Bt:Prop:=∀{q:aQ}{i:aN}{d:ap}{m:Ą}{a:aG}{N s X9 Z5 YC Yn YQ E f J A w Xo Wj Wk Wl Wm Wn I:ac}{aaf aag:Ó}{b:ac}{c:b'},ath->w2 d m a I->kK m a->aox "answers" 138 b c->bI q i d m a aO 356 b c ["calls"]^pM d I
def Lv(j:Bt)(h:Ξ)(n:ajr)(e:m "answers"=aa^.ref aah)(o:q0 d "nearest"=aa (YS,I))(k:cg d m "answers"^aB 138)(l:ath):aBG c g a b:=by let#[n,c,h,p]:=k;rw[p]at e;obtain rfl:n=aah:=by{let:=bW e;injection this};let p:rj "answers" "answers" (aB 138) ["calls"]:=λ_ _ _ _ _ _ a e=>by{let#[Ä k k,W3]:=qk e;cases h9 W3;rfl};calc#[c,Å g a t,λb b u c e=>j l (λg g v x=>#[YS,?_,c]) e h];{let#[y,z,c,e,g,j,k,Ä l B,n,C]:=h.au;calc .of_eq^p c e g j k l a t};{let#[y,z,c,e,g,j,k,l,B,a,n,C]:=v.au;calc W.law_code b u o x (b _ _ n) r}
variable{ZG:Prop}{ab1:al}
def KO(c:Ξ)(e:ajr)(a:al)(b:cE)(f:ŗ a=ajN)(g:amZ (.func^iN a a (jD b) (f3 b) (da b) .none Wo Wp Wq X7 YW Wr))(h:ls d YW a=af)(i:ak2)(j:cg d m a b->ZG):ZG:=j^BN c e f g h i
def Pn(e:Ξ)(f:ajr)(Q:axf)(c b:al)(a:cE)(g:ŗ c=aa^aa^ß){h i j k l n o p q t u v w x}(y:d.lookup s=aa^mm h i s j k (jc [N]) af l n o p q t u v w x "Exception.__new__")(z:ϸ "__setattr__"=aeZ "object.__setattr__")(A:ϸ "__getattribute__"=aeZ "BaseException.__getattribute__")(B:ϸ "__getattr__"=adP)(C:ap6)(D:anq)(E:amZ (.func^iN "__init__" b (jD a) (f3 a) (da a) .none Wo Wp Wq X7 YW Wr))(F:ls d YW b=af)(G:ak2)(H:gR d^ß=af)(I:ϸ "number"=adP)(J:aBE)(L:wf d N=aa ab0)(M:wj d^acw=aa^Þ "type")(O:wi d ß^acw=ζ)(P:gZ d m N c b a->ZG):ZG:=P^Pm e f g #[ć,ć,Ϝ,y] z A B C D E F G H I^KZ J L M O
def BL(k:Ξ)(l:m ab1=aa^ñ)(q:aQ)(i:aN)(a:Ĕ)(b:aBF)(c:aj2)(e:wW i a Wb)(h:aeh a)(j:j2 q i d f a->ZG):ZG:=j^KM b c e h
def Pf(e:Ξ)(h:m ab1=aa^ñ)(a:axj [ô "if" YU,ô "then" ZH,ô "else" ZI].toArray)(b:(∀c,bw d c f pS)->ZG):ZG:=b^gd (O:=pS) a (by show 3<=a9;decide)^.cons #[YU,r]^ajs #[ZH,r] #[ZI,r]
variable{ab3:Option ac}{ab5:Option ac}{ab7:Option ac}{ab2:Array (Option aj)}{ab4:Array (Option aj)}{ab6:Array (Option aj)}{ab8:Array (Option aj)}{aaL:hi}{aaM:hi}{aaN:hi}
def On{c e h:hi}(p:Ξ)(a:m "STEPS"=aa^ñ)(i:axj [ß,axk].toArray)(j:aBH [ô "|" YU].toArray)(k:aBI [ô "&" ZH].toArray)(l:aBJ [ô "=" ZI,ô "<" aaL].toArray)(n:d.lookup E=aa #[Þ "tuple",ab5,.seq [ô "+" aaM,ô "-" aaN].toArray X2,ab6])(o:d.lookup I=aa #[Þ "tuple",ab7,.seq [ô "*" c,ô "/" e,ô "mod" h].toArray X8,ab8])(b:rp d m f [s,w,A,E,I]->ZG):ZG:=by calc b #[ϋ a,λb=>gd (O:=[ß,axk]) i (by show 5<=a9;decide) (Κ^Κ^Κ^Κ^anC) b,r,Ô i p a b];match i,a with|0,a=>{ext a;calc aBK "|" j #[YU,r] b}|1,a=>{ext a;calc aBK "&" k #[ZH,r] b}|2,a=>{calc am0 a (O:=[ô "=",ô "<"]) l (ajs #[ZI,r] #[aaL,r]) b}|3,a=>{calc am0 a (O:=[ô "+",ô "-"]) n (ajs #[aaM,r] #[aaN,r]) b}|4,a=>{ext a;calc gd (O:=[ô "*",ô "/",ô "mod"]) o (by show 3<=a9;decide) (.cons #[c,r]^ajs #[e,r] #[h,r]) b}|b+5,a=>calc zH a^by show¬(([]:Ó)[b]?=aa p);simp
def N'{b c G H L M O:acL}{P Q R S T U V:Array^aju}{e h i j k l n o p q t u v y z C D F:hi}(av:Ξ)(W:m "SHAPES"=aa^ñ)(X:axj [ß,aBL].toArray)(Y:aBH [Î 0 YU,Î 1 ZH].toArray)(Z:aBI [Î 0 ZI,Î 1 aaL].toArray)(ab:aBJ [Î 0 aaM,Î 3 aaN].toArray)(ae:d.lookup E=aa #[Þ "tuple",ab5,ahV 0 e (Î 3 h) X2,ab6])(ag:d.lookup I=aa #[Þ "tuple",ab7,ahV 1 i (Î 1 j) X8,ab8])(ai:d.lookup J=ak3 b (ahV 1 k (Î 1 l) YB) P)(ak:d.lookup N=ak3 c (ahV 0 n (Î 0 o) Zb) Q)(am:d.lookup a=ak3 G (ahV 1 p (Î 0 q) ZU) R)(an:d.lookup Xl=ak3 H (ahV 5 t (Î 1 u) ZX) S)(ao:d.lookup Xo=ak3 L (ahV 0 v (Î 3 y) Z7) T)(aq:d.lookup Xq=ak3 M (ahV 0 z (Î 2 C) V7) U)(as:d.lookup x=ak3 O (ahV 0 D (Î 0 F) aav) V)(au:w3 d m f [s,w,A,E,I,J,N,a,Xl,Xo,Xq,x]->ZG):ZG:=by calc au #[ϋ W,λc=>gd (O:=[ß,aBL]) X (by show 12<=a9;decide) (Κ^Κ^Κ^Κ^Κ^Κ^Κ^Κ^Κ^Κ^Κ^anC) c,r,Ô G H b c];match G,b with|0,b=>{calc am0 b (O:=[Î 0,Î 1]) Y (ajs #[YU,r] #[ZH,r]) c}|1,b=>{calc am0 b (O:=[Î 0,Î 1]) Z (ajs #[ZI,r] #[aaL,r]) c}|2,b=>{calc am0 b (O:=[Î 0,Î 3]) ab (ajs #[aaM,r] #[aaN,r]) c}|3,b=>{calc ahW b 0 (Î 3) ae e h c}|4,b=>{calc ahW b 1 (Î 1) ag i j c}|5,b=>{calc ahW b 1 (Î 1) ai k l c}|6,b=>{calc ahW b 0 (Î 0) ak n o c}|7,b=>{calc ahW b 1 (Î 0) am p q c}|8,b=>{calc ahW b 5 (Î 1) an t u c}|9,b=>{calc ahW b 0 (Î 3) ao v y c}|10,b=>{calc ahW b 0 (Î 2) aq z C c}|11,b=>{calc ahW b 0 (Î 0) as D F c}|c+12,b=>calc zH b^by show¬(([]:Ó)[c]?=aa H);simp
def Lw(h:Bt)(a:Ξ)(b:ajr)(j:m "answers"=aa^.ref aah)(k:q0 d "nearest"=aa (YS,I))(l:ŗ "Refusal"=aa^aa^acw)(n:ŗ "Cursor"=aa^aa^ß)(o:ŗ "Expression"=aa^aa^.ref X9)(p:ŗ "ReadSymbol"=aa^aa^.ref Z5)(t:ŗ "ReadProduction"=aa^aa^.ref YC)(u:ŗ "ReadRule"=aa^aa^.ref Yn)(v:ŗ "ReadText"=aa^aa^.ref YQ)(x:ŗ "Symbol"=aa^aa^.ref E)(y:ŗ "Production"=aa^aa^ñ)(z:ŗ "Grammar"=aa^aa^.ref J)(B:ŗ "Family"=aa^aa^.ref A)(C:ŗ "Holder"=aa^aa^.ref w)(D:ŗ "Call"=aa^aa^.ref Xo)(F:ŗ "STEPS"=aa^aa^.ref Wj)(G:ŗ "WORDS"=aa^aa^.ref Wk)(H:ŗ "SHAPES"=aa^aa^.ref Wl)(L:ŗ "CALLS"=aa^aa^.ref Wm)(M:ŗ "SIGNS"=aa^aa^.ref Wn)(O:cg d m "answers"^aB 138)(P:axf->m "Cursor"=aa^ß->m "Expression"=aa^.ref X9->m "ReadSymbol"=aa^.ref Z5->m "ReadProduction"=aa^.ref YC->m "ReadRule"=aa^.ref Yn->m "ReadText"=aa^.ref YQ->m "Symbol"=aa^.ref E->m "Production"=aa^ñ->m "Grammar"=aa^.ref J->m "Family"=aa^.ref A->m "Holder"=aa^.ref w->m "Call"=aa^.ref Xo->m "STEPS"=aa^.ref Wj->m "WORDS"=aa^.ref Wk->m "SHAPES"=aa^.ref Wl->m "CALLS"=aa^.ref Wm->m "SIGNS"=aa^.ref Wn->ath):aBG g Q e c:=Lv h a b j k O^P (fP a b l) (fP a b n) (fP a b o) (fP a b p) (fP a b t) (fP a b u) (fP a b v) (fP a b x) (fP a b y) (fP a b z) (fP a b B) (fP a b C) (fP a b D) (fP a b F) (fP a b G) (fP a b H) (fP a b L)^fP a b M
set_option Elab.async false in set_option maxHeartbeats 0 in def zWb:PySem.W.looksOpen PySem.Challenge.rw_hangson_s01_answers.prog=true:=zWa (zWa (zWa (zWa (zWa (by decide+kernel) (by decide+kernel)) (by decide+kernel)) (by decide+kernel)) (by decide+kernel)) (by decide+kernel)
universe v2713
set_option Elab.async false in set_option maxHeartbeats 0 in def zWc:PySem.Challenge.rw_hangson_s01_answers.wellSaid=true:=zWa (zWa (zWa (zWa (zWa zWb (by decide+kernel)) (by decide+kernel)) (by decide+kernel)) (by decide+kernel)) (by decide+kernel)
universe v2714
def PySem.W.Fast.tw8799844413573620729:True:=trivial
def tw:True:=trivial
universe v2712
set_option Elab.async false in set_option tactic.hygienic true in set_option maxRecDepth 100000 in set_option maxHeartbeats 0 in def VV:v9.Holds:=by have hYk:=zWc;w_on;k_headS;(case hw=>exact⟨[.list [Î 6]],by{ext Û},by ext Û⟩);k_fillS;refine' Vf (Zg:=v9) (g:=356) (Ya:=["calls"]) (L:="nearest") (abZ:=pM) zWc rfl rfl ⟨rfl,by{decide},by decide⟩ (λw h Y=>Y) ?hx ?hT ?hnt ?F ?S;(case hx=>rfl);(case hT=>intro w h Y;refine'⟨_,_,OJ ?a_9000 ?l_9000 ?hc_9000 ?l2_9000 ?h11_9000⟩;(case a_9000=>k_is);(case l_9000=>k_is);(case hc_9000=>rfl);(case l2_9000=>k_is);(case h11_9000=>rfl));(case hnt=>intro w h Y;rfl);(case S=>intro K tb H xs a ht hwi hask hx;cases hx with|cons h1 h2=>cases h2;cases h1 with|lst hs ha=>have e:=FU a.1 _ ha;subst e;exact⟨_,a.1,rfl,xY (aD.aC (a' ht)) hs,as,hask,λH' p hp=>.lst (aw.ad hp) (FI _)⟩);case F=>intro w mg fa h c tb Y KX G hmg ht;refine' Lw JZ KX G hmg ht ?gR ?gC ?gCE ?gCY ?gCQ ?gCR ?gCT ?gCS ?gCP ?gCG ?gCF ?gCH ?gCC ?gaS ?gaW ?gaH ?gdC ?gdS ?A ?T;(case gR=>k_is);(case gC=>k_is);(case gCE=>k_is);(case gCY=>k_is);(case gCQ=>k_is);(case gCR=>k_is);(case gCT=>k_is);(case gCS=>k_is);(case gCP=>k_is);(case gCG=>k_is);(case gCF=>k_is);(case gCH=>k_is);(case gCC=>k_is);(case gaS=>k_is);(case gaW=>k_is);(case gaH=>k_is);(case gdC=>k_is);(case gdS=>k_is);(case A=>refine' KO KX G "answers" (aB 138) ?a_33 ?l_33 ?c_33 ?k_33 ?n_33;(case a_33=>k_is);(case l_33=>k_is);(case c_33=>k_is);(case k_33=>k_is);exactλz=>z);case T=>intro mR mC mCE mCY mCQ mCR mCT mCS mCP mCG mCF mCH mCC maS maW maH mdC mdS;constructor;all_goals first|(assumption)|(exact Ll (by assumption))|((refine' BN KX G ?a0 ?a1 ?a2 ?a3;ext axl))|((refine' MI ?a0 ?a1 ?a2 ?a3 ?a4;ext axl;(case a4=>k_is)))|((refine' LD (by assumption) ?a0 ?a1 ?a2 ?a3 ?a4 ?a5 ?a6;ext apQ;(case a6=>k_is)))|((refine' Pn KX G mR _ _ _ ?a0 ?a1 ?a2 ?a3 ?a4 ?a5 ?a6 ?a7 ?a8 ?a9 ?a10 ?a11 ?a12 ?a13 ?a14 ?a15 λz=>z;ext aBM;(case a13=>k_is);(case a14=>k_is);(case a15=>k_is)))|((refine' Lj KX G ?a0;(case a0=>k_is)))|((refine' Lq KX G ?a0;(case a0=>k_is)))|((refine' IT KX G ?a0;(case a0=>k_is)))|((calc axm (kU axn (kU (show ak4 from ?a7) (t4 (show ak4 from ?a8))));(case a7=>k_is);(case a8=>k_is)))|((calc axm (kU axn (t4 (show ak4 from ?a7)));(case a7=>k_is)))|((calc axm (t4 axn)))|((calc aBN (t4 (show ak4 from ?a5))))|((refine' Nz ?a0 ?a1 ?a2 ?a3 ?a4 ?a5;ext apQ))|((constructor<;>(refine' IT KX G ?a99;(case a99=>k_is))))|((refine' On KX maS ?a0 ?a1 ?a2 ?a3 ?a4 ?a5 λz=>z;ext apQ))|((refine' Pf KX maW ?a0 λz=>z;(case a0=>k_is)))|((refine' N' KX maH ?a0 ?a1 ?a2 ?a3 ?a4 ?a5 ?a6 ?a7 ?a8 ?a9 ?a10 ?a11 ?a12 λz=>z;ext aBM))|((refine' BL KX mdC v9.prog w mJ ?b0 ?b1 ?b2 ?b3 λz=>z;ext aBO))|((refine' BL KX mdS v9.prog w mQ ?b0 ?b1 ?b2 ?b3 λz=>z;ext aBO))|(trace_state;fail)
end
end
theorem PySem.Challenge.cw_hangson_s01_answers_holds : PySem.Challenge.rw_hangson_s01_answers.Holds :=
VV
