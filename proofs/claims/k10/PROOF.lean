import PyProof.Rows.All
import Wide.All
import OpenK.AllK
import Wide.FinOn
import HandS.ForMost
import KE.GoesMore
import PyProof.EnumMake
import HandS.ForExc
import HandS.More
import HandS.Defaults
import HandS.IsInst
import HandS.TupAny
import HandS.TupMul
import HandS.Lambda
import HandS.ExcInit
import HandS.ExcField
import PyProof.ExcAttrAll.LookupError
import HandS.MakeKwOnly
import HandS.OwnEq
import HandS.ExcIs
import KE.KExcIs
import PyProof.NeKinds
import PyProof.EqKinds
import PyProof.StrOps2
import HandS.ExcCtx
import HandS.ExcInitHot
import HandS.HotCalls
import KE.KTryMore
import HandS.HeadHook4
import HandS.Flow
import HandS.MakeKw
import HandS.Zip
import HandS.SetFor
import PyProof.InstNe
import HandS.List
import HandS.SlotsOwn
import HandS.Head0
import HandS.Head1
import HandS.Head2
import HandS.HeadEnd
import HandS.HeadHook1
import HandS.HeadHook2
import HandS.HeadHook3
import HandS.EndTab
import HandS.HeadWalk
import KE.KStateDown
import PyProof.TupleOfSeq
import HandS.ExcValue
import HandS.DictComp
import HandS.ListItems
import HandS.SetKeys
import HandS.Iter
import PyProof.Rows.RegStrFacts
import HandS.TryOnly
import HandS.Rev
import HandS.MapJoin
import PyProof.JoinWalk
import HandS.TupSets
import HandS.Conv
import HandS.CallSlots
import HandS.Nested
import PySem.Challenge.RW_onewitness_k10_machines_that_forget_and
set_option Elab.async false
set_option linter.all false
set_option maxRecDepth 100000
set_option maxHeartbeats 0
/-! enumerate(t), t a tuple; for i, x in enumerate(xs), xs a list or a tuple. -/
namespace Kx
open PySem PySem.AutoSeq1
/-- the record of a new enumerate over the iterator at j -/
abbrev enumRec (j : Addr) : Obj := { cls := .type "enumerate", data := .fields #[.none, .bool false, .ref j, rawInt 0, .none, .none] }
abbrev tupIter (t : Addr) : Obj := { cls := .type "tuple_iterator", data := .fields #[.ref t, .int 0 0] }
theorem makes_enum (t : Addr) (o : Obj) (items : Array Value) (n : Nat) (hc : o.cls = .type "tuple") (hd : o.data = .seq items n) :
    Meets (Builtin.«enumerate.__new__» ⟨[.type "enumerate", .ref t], []⟩) (fun _ R s => s.heap.get? t = some o ∧
      R (.ok (.ret (.ref (s.heap.push (tupIter t)).objs.size))) { s with heap := (s.heap.push (tupIter t)).push (enumRec s.heap.objs.size) }) := by
  refine .of_wp fun prog w A R s hs => ?_
  obtain ⟨oc, od, odt, os⟩ := o
  have hc' : oc = .type "tuple" := hc
  have hd' : odt = .seq items n := hd
  subst hc' hd'
  obtain ⟨hp, gs, dr, tk, sy⟩ := s
  obtain ⟨ht, hR⟩ := hs
  have subE := sub_enumerate
  have isT : (Shared.heap ⟨hp, gs, dr, tk, sy⟩).IsTuple t items := ⟨_, ht, rfl, n, rfl⟩
  wp_walk using wpAny_loadPart' ht
  refine wpAny_stack_any fun _ => wpAny_pure ?_
  split
  case h_1 c _ _ _ _ _ =>
    cases hq : (c == Value.type "enumerate") <;> (wp_walk using wpAny_loadPart' ht, wpAny_pyIter_tuple isT; exact ⟨_, rfl, hR⟩)
  case h_2 => wp_walk using wpAny_loadPart' ht, wpAny_pyIter_tuple isT; exact ⟨_, rfl, hR⟩
theorem call_enum {prog : Program} {w : World} {A : Around} {E : Value → Shared → Prop} {s : Shared} {t : Addr} {items : Array Value} {Q : Value → Shared → Prop} (hT : s.heap.IsTuple t items)
    (hQ : ∀ g : Heap, IsEnum g (s.heap.objs.size + 1) s.heap.objs.size 0 .none → g.IsTupleIter s.heap.objs.size t 0 → (∀ b o, s.heap.get? b = some o → g.get? b = some o) → Q (.ref (s.heap.objs.size + 1)) { s with heap := g }) :
    wpAny (model prog w) A (call (.type "enumerate") [.ref t]) Q E s := by
  obtain ⟨o, ho, hc, len, hd⟩ := hT
  have two : (s.heap.push (tupIter t)).objs.size = s.heap.objs.size + 1 := Heap.size_push ..
  have atE : ((s.heap.push (tupIter t)).push (enumRec s.heap.objs.size)).get? (s.heap.objs.size + 1) = some (enumRec s.heap.objs.size) := by
    rw [← two]; exact Heap.get?_push_size _ rfl
  have old : ∀ b u, s.heap.get? b = some u → ((s.heap.push (tupIter t)).push (enumRec s.heap.objs.size)).get? b = some u := fun b u z => Heap.get?_push_of_some _ (Heap.get?_push_of_some _ z)
  have it : ((s.heap.push (tupIter t)).push (enumRec s.heap.objs.size)).IsTupleIter s.heap.objs.size t 0 := ⟨_, Heap.get?_push_of_some _ (Heap.get?_push_size _ rfl), rfl, rfl⟩
  refine callType_new F.called_enumerate (by decide) (F.typeCall_enumerate_1 _) (F.newCall_enumerate_1 _) (fun q => F.args_object_init_2 q _) F.entry_enumerate_new (makes_enum t o items len hc hd) ⟨ho, ?_⟩
  show _ ∧ _
  rw [two]
  exact ⟨⟨_, atE, rfl⟩, hQ _ atE it old⟩
end Kx
namespace Kx
open L2 PySem PySem.Spec PyProof.Rows
/-- item i of the tuple at a, with its number, in a new pair -/
def ItPair (K : PySem.W.Frag) (a : Addr) : It where
  go := fun i H => ∃ (xs : List V) (x : V), SqT K H a xs ∧ xs[i]? = some x
  yld := fun i H v H' => ∃ (p : Addr) (x : V), v = .ref p ∧ H p = none ∧ H' = upd H p (.tup [.int (i : Nat), x]) ∧ ∀ xs, SqT K H a xs → xs[i]? = some x
  stop := fun i H => ∃ xs : List V, SqT K H a xs ∧ xs.length ≤ i
theorem one_of {b e j : Addr} (h : b ∈ [e, j]) : b = e ∨ b = j := by simpa using h
theorem turn_pair {P : Program} {w : World} {K : PySem.W.Frag} {es : List Expr} {k0 : Nat} {tp : Pos} (a e j : Addr) (aj : a ≠ j) (ae : a ≠ e) :
    Turn P w K (.Tuple es k0 tp) (ItPair K a) [e, j] e (fun i h => (∃ z, IsEnum h e j ((i : Nat) : Int) z) ∧ h.IsTupleIter j a i ∧ e ≠ j) where
  mem := List.mem_cons_self
  obj := by
    rintro i h ⟨⟨z, hz⟩, ⟨o, ho, _, hd⟩, _⟩ b hb
    rcases one_of hb with q | q <;> rw [q]
    · exact ⟨_, hz, fun _ y => nomatch y⟩
    · exact ⟨o, ho, fun _ y => by rw [hd] at y; cases y⟩
  keep := by
    rintro i h h' ⟨⟨z, hz⟩, hj, ne⟩ k
    exact ⟨⟨z, k e List.mem_cons_self _ hz⟩, hj.at fun o y => k j (by simp) o y, ne⟩
  item := by
    rintro X rfl rfl rfl calm i pins s σ H E I far ⟨⟨z, hz⟩, hj, ne⟩ ⟨xs, x, hx, hi⟩
    obtain ⟨vs, rel, isT, _⟩ := I.tuple hx
    obtain ⟨v, hv, rv⟩ := rel.get hi
    have lt : i < vs.toArray.size := by simpa using (List.getElem?_eq_some_iff.mp hv).1
    have D := Draws.tuple (prog := X.prog) (w := X.w) (A := X.A.in1) (I.ok.hd calm) j a aj vs.toArray
    have e_out : e ∉ [j, a] := by
      simp only [List.mem_cons, List.not_mem_nil, or_false, not_or]
      exact ⟨ne, fun y => ae y.symm⟩
    refine wpAny_pyNext_enum_itemD D hz ⟨hj, isT⟩ lt ne e_out fun y g tk hy out hj' pair _ rest => ?_
    obtain rfl : y = v := by
      have : vs.toArray[i]? = some v := by simpa using hv
      exact Option.some.inj (hy.symm.trans this)
    refine ⟨_, rfl, wpAny_letOwnedTupleGo_enum (s := { s with heap := g, toks := tk + 1 }) out fun g' back but => ?_⟩
    have sz : e < s.heap.objs.size := Heap.lt_size hz
    have szj : j < s.heap.objs.size := let ⟨_, y, _⟩ := hj; Heap.lt_size y
    have pair' : g'.get? s.heap.objs.size = some { cls := .type "tuple", data := .seq #[.int i tk, y] } := (but.2 _ (Nat.ne_of_gt sz)).trans pair
    have laid : ObjOk X.prog X.w (upd H s.heap.objs.size (.tup [.int (i : Nat), x])) g' s.heap.objs.size (.tup [.int (i : Nat), x]) := ⟨(by decide : 2 ≤ sizeLine), [.int i tk, y], .cons ⟨tk, rfl⟩ (.cons rv .nil), _, pair', rfl, _, rfl⟩
    have kept : ∀ b o, b ∉ [e, j] → s.heap.get? b = some o → g'.get? b = some o := fun b o out y => by
      have n1 : b ≠ e := fun q => out (by rw [q]; exact List.mem_cons_self)
      have n2 : b ≠ j := fun q => out (by rw [q]; simp)
      exact (but.2 b n1).trans (rest b o n1 n2 y)
    have J := I.turnedNew (ch := [e, j]) kept far (Nat.le_refl _) laid (t' := tk + 1)
    have num : ((i + 1 : Nat) : Int) = (i : Int) + 1 := by omega
    refine ⟨.ref s.heap.objs.size, _, J, rfl, ⟨_, x, rfl, I.hok.fresh (Nat.le_refl _), rfl, fun ys hys => by rw [I.tuple_inj hys hx]; exact hi⟩, ⟨⟨y, by rw [num]; exact back⟩, hj'.1.at fun o q => (but.2 j ne.symm).trans q, ne⟩, fun b hb => ?_⟩
    have small : b < s.heap.objs.size := by
      rcases one_of hb with q | q <;> rw [q]
      · exact sz
      · exact szj
    rw [upd_ne (Nat.ne_of_lt small)]
    exact (far b hb).1
  done := by
    rintro X rfl rfl rfl calm i pins s σ H E I far ⟨⟨z, hz⟩, hj, ne⟩ ⟨xs, hx, hi⟩
    obtain ⟨vs, rel, isT, _⟩ := I.tuple hx
    obtain ⟨g0, g1, _, g3, g4, g5⟩ := far j (by simp)
    have none_ : vs.toArray[i]? = none := by
      have := rel.length
      simp
      omega
    unfold pyNext
    refine wpAny_bind (wpAny_attempt (wpAny_callSpecial?_slot (s := s) (name := Str.ofString "__next__") ⟨_, hz, rfl⟩ F.slot_enumerate_next (wpAny_call_entry F.slot_enumerate_next ⟨_, hz, rfl⟩ F.entry_enumerate_next ?_ (F.args_enumerate_next_1 _))))
    show wpAny _ _ (field (.ref e) 2 >>= _) _ _ s
    refine wpAny_bind (wpAny_field hz rfl (x := .ref j) rfl (wpAny_bind (wpAny_nextOf_tuple_end (I.ok.hd calm) hj isT none_ fun g x kept stop => ?_)))
    obtain ⟨o, ho, hc⟩ := stop
    exact wpAny_bind (wpAny_isInstance (T := "StopIteration") (b := true) ⟨o, ho, hc⟩ isSubtype_stop (wpAny_pure ⟨rfl, I.turned (t' := s.toks) (fun b o hb y => kept b o hb y) g0 g1 g3 g4 g5⟩))
  self := by
    rintro A i s Q E ⟨⟨z, hz⟩, _⟩ h
    exact wpAny_pyIter_enum hz h
/-- a list or a tuple -/
def Sq (K : PySem.W.Frag) (H : Hp) (a : Addr) (xs : List V) : Prop := SqL K H a xs ∨ SqT K H a xs
def iPairs (K : PySem.W.Frag) (ta : TA) : TI := fun σ H R => ta σ H fun vs H1 => ∃ (a : Addr) (xs : List V), vs = [.ref a] ∧ ((SqL K H1 a xs ∧ R (Ite K a) H1) ∨ (SqT K H1 a xs ∧ R (ItPair K a) H1))
theorem pi_pairs {X : Cx} {e : Expr} {ta : TA} {p pos tp : Pos} {es : List Expr} {k0 : Nat} (hg : Gl X "enumerate") (hm : X.mg "enumerate" = none) (ha : PA X [e] ta) (hs : starEach [e] X.env = [(false, eval e X.env)] := by rfl) :
    PI X (.Tuple es k0 tp) (.Call (.Name "enumerate" p) [e] [] pos) (iPairs X.K ta) := by
  refine ⟨fun pins s σ H R I h => Call_ (ld_blt I hg hm boot_enumerate (PyProof.Rows.callWith_type1 (thn (ha.run pos pins s σ H _ I h) fun us t ⟨vs, H1, J, rel, a, xs, ev, how⟩ => ?_) hs rfl))⟩
  subst ev
  obtain ⟨u, rfl, ru⟩ := vals1 rel
  obtain rfl := (show u = Value.ref a from ru)
  have far : ∀ b ∈ [t.heap.objs.size + 1, t.heap.objs.size], FpOk X pins H1 b := fun b hb => by
    have ge : t.heap.objs.size ≤ b := by
      rcases one_of hb with q | q <;> rw [q]
      · exact Nat.le_succ _
      · exact Nat.le_refl _
    exact J.fpOk ge (J.hok.fresh ge)
  rcases how with ⟨hx, q⟩ | ⟨hx, q⟩
  · obtain ⟨_, _, isL, _⟩ := J.list hx
    refine call_enumerate_list isL.isList fun g hz hj _ k => wpAny_pyIter_enum hz ?_
    exact ⟨_, _, _, _, H1, rfl, J.kept (t' := t.toks) k, turn_enum a _ _, ⟨⟨.none, hz⟩, hj, Nat.succ_ne_self _⟩, far, q⟩
  · obtain ⟨_, _, isT, _⟩ := J.tuple hx
    have lt := isT.lt
    refine call_enum isT fun g hz hj k => wpAny_pyIter_enum hz ?_
    exact ⟨_, _, _, _, H1, rfl, J.kept (t' := t.toks) k, turn_pair a _ _ (Nat.ne_of_lt lt) (Nat.ne_of_lt (Nat.lt_succ_of_lt lt)), ⟨⟨.none, hz⟩, hj, Nat.succ_ne_self _⟩, far, q⟩
end Kx
/-! A try with several clauses «except C as n»: each clause stores what was caught at its own place. -/
namespace Kx
open PySem PyProof.Rows L2 PySem.Spec

/-- an error that came down to this frame and whose flight is over; `old` is the state without it -/
structure Down (X : Cx) (pins : List (Addr × Obj)) (σ : L2.St) (H : Hp) (x : Addr) (cls : Value) (d : Option Addr) (G : Heap) (old now : Shared) : Prop where
  was : Inv X pins σ H old
  low : ∀ b o, old.heap.get? b = some o → b ∉ frs X.stack → G.get? b = some o
  up : old.heap.UpToSlots now.heap
  fly : HandSPX.FlyingZ G (X.env :: X.outer) x (Zc cls d) now.heap
  fresh : H x = none
  sys : now.os = old.os
  bare : AllBare now.gens
section
variable {X : Cx} {pins : List (Addr × Obj)} {σ : L2.St} {H : Hp} {x : Addr} {cls : Value} {d : Option Addr} {G : Heap} {old now : Shared}
theorem Down.inv (D : Down X pins σ H x cls d G old now) : Inv X pins σ H now := D.was.landed D.low D.fly.1 D.up D.sys D.bare
/-- the record, and that it is no frame -/
theorem Down.rec_ (D : Down X pins σ H x cls d G old now) (hf : X.env.frame = some X.env.locals) :
    ∃ (ob : Obj) (vs : Array Value), now.heap.get? x = some ob ∧ Zc cls d ob ∧ ob.data = .fields vs ∧ x ≠ X.env.locals ∧ x ∉ X.fs := by
  obtain ⟨ob, vs, h1, h2, h3⟩ := D.fly.there
  have out : x ∉ frs (X.env :: X.outer) := by
    intro hm
    obtain ⟨_, ob2, h4, h5⟩ := D.fly.2.2.1.mem hm
    rw [h1] at h4
    cases h4
    exact h5 _ h3
  refine ⟨ob, vs, h1, h2, h3, fun z => out ?_, fun hm => out ?_⟩
  · exact List.mem_filterMap.mpr ⟨_, List.mem_cons_self, by rw [hf, z]⟩
  · obtain ⟨e1, h6, h7⟩ := List.mem_filterMap.mp hm
    exact List.mem_filterMap.mpr ⟨e1, List.mem_cons_of_mem _ h6, h7⟩
/-- within a suite -/
theorem Down.held (D : Down X pins σ H x cls d G old now) (hf : X.env.frame = some X.env.locals) :
    ∃ ob : Obj, now.heap.get? x = some ob ∧ Zc cls d ob ∧ (∃ vs, ob.data = .fields vs) ∧ Inv (X.suite x ((x, ob) :: (X.pn ++ pins))) [] σ H now := by
  obtain ⟨ob, vs, h1, h2, h3, h4, h5⟩ := D.rec_ hf
  exact ⟨ob, h1, h2, ⟨vs, h3⟩, D.inv.suite h1 h3 D.fresh h4 h5⟩
/-- no clause takes it: it goes on -/
theorem Down.goes {pos : Pos} {E : Ends} {W : WX} (D : Down X pins σ H x cls d G old now) (hs : X.stack = X.env :: X.outer) (hf : X.env.frame = some X.env.locals) (tk : Takes X W) (hw : W cls d σ H) :
    wpAny (model X.prog X.w) X.A (handleBy (.ref x) X.env []) (SP X pins E) X.xe now := by
  obtain ⟨_, _, _, ob, vs, T, _, _, h1, _, h3, h4, _⟩ := D.fly
  have away : wpAny (model X.prog X.w) X.A (setFlight (.ref x) X.env.frame) (fun _ s => wpAny (model X.prog X.w) X.A (throw (.ref x) : Sem Flow) (SP X pins E) X.xe s) X.xe now := by
    rw [hf]
    refine HandSPX.setFlight_upZ D.fly fun h' held up' => wpAny_throw (tk _ _ ⟨x, G, old, pins, σ, H, cls, d, rfl, D.was, D.low, D.up.trans up', ?_, D.fresh, D.sys, D.bare, hw⟩)
    rw [hs]
    exact .inr (.inr held)
  refine wpAny_handleBy_nil (wpAny_bind (wpAny_field h1 h3 h4 ?_))
  have some_ : ¬ ((Value.ref T == Value.none) = true) := by simp
  rw [if_neg some_]
  first
    | exact wpAny_bind away
    | exact wpAny_bind (wpAny_pure (wpAny_bind away))
end
/-- one clause: the class it names, the place of its name, its suite's reading -/
abbrev Clause : Type := Value × Nat × (Addr → Value → Option Addr → TS)
/-- behind a suite the name at i is gone -/
def bare (E : Ends) (i : Nat) : Ends where
  nx := fun σ H => E.nx (σ.set i none) H
  rt := E.rt
  bk := fun σ H => E.bk (σ.set i none) H
  ct := fun σ H => E.ct (σ.set i none) H
/-- what is asked of an error that the body lets out -/
def asks (K : PySem.W.Frag) (W : WX) (E : Ends) : List Clause → WX
  | [] => W
  | k :: r => fun cls d σ H => ∃ y, PySem.W.exmOne K cls k.1 = some y ∧ (y = true → ∀ x, H x = none → k.2.2 x cls d (bare E k.2.1) (σ.set k.2.1 (some (.ref x))) H) ∧ (y = false → asks K W E r cls d σ H)
inductive Clauses (X : Cx) : List ExceptHandler → List Clause → Prop
  | nil : Clauses X [] []
  | cons {nm n : Str} {i : Nat} {c : Value} {t : Addr → Value → Option Addr → TS} {st : Stmt} {more : List Stmt} {p1 p2 : Pos} {hs : List ExceptHandler} {ks : List Clause} (nd : X.N.Nodup) (at_ : X.N[i]? = some n) (loc : X.env.kindOf n = some .local) (cl : Names X nm c)
      (su : ∀ (x : Addr) (ob : Obj) (cls : Value) (d : Option Addr) (pn : List (Addr × Obj)), Zc cls d ob → (∃ vs, ob.data = .fields vs) → PSs (X.suite x ((x, ob) :: pn)) (st :: more) (t x cls d)) (rest : Clauses X hs ks) :
      Clauses X (.ExceptHandler (some (.Name nm p1)) (some n) (st :: more) p2 :: hs) ((c, i, t) :: ks)
section
variable {X : Cx} {pins : List (Addr × Obj)} {σ : L2.St} {H : Hp} {x : Addr} {cls : Value} {d : Option Addr} {G : Heap} {old now : Shared} {E : Ends} {W : WX}
theorem name_there {nm : Str} {c : Value} {p1 : Pos} {ob : Obj} {Q E' : Value → Shared → Prop} (cl : Names X nm c) (J : Inv (X.suite x ((x, ob) :: (X.pn ++ pins))) [] σ H now) (q : Q c now) :
    wpAny (model X.prog X.w) (X.A.mark (some (.ref x))) (eval (.Name nm p1) X.env) Q E' now := by
  obtain ⟨g, db, m | ⟨m, b, nn⟩⟩ := cl
  · exact ld_glob J g m q db
  · exact ld_blt J g m b q nn db
theorem Down.clauses (D : Down X pins σ H x cls d G old now) (hs : X.stack = X.env :: X.outer) (hf : X.env.frame = some X.env.locals) (tk : Takes X W) {hds : List ExceptHandler} {ks : List Clause} (C : Clauses X hds ks) (w : asks X.K W E ks cls d σ H) :
    wpAny (model X.prog X.w) X.A (handleBy (.ref x) X.env hds) (SP X pins E) X.xe now := by
  induction C with
  | nil => exact D.goes (pos := ⟨0, 0, 0, 0⟩) hs hf tk w
  | @cons nm n i c t st more p1 p2 hs' ks' nd at_ loc cl su rest ih =>
    obtain ⟨y, hy, yes, no⟩ := w
    obtain ⟨ob, h1, h2, h3, J⟩ := D.held hf
    refine wpAny_handleBy_cons (codeAny_handlers_test (name_there cl J ?_)) (fun z => nomatch z)
    have ty : PySem.W.Looks (model X.prog X.w) now.heap (typeOf (.ref x)) cls := fun _ _ _ _ k q => wpAny_typeOf_ref (k _ _ h1) (by rw [h2.1]; exact q)
    refine (PySem.W.exm_one D.inv.kIn ty hy).here ?_
    cases y with
    | false => exact ih (no rfl)
    | true =>
      refine codeAny_handlers_suite_as (HandSPX.lands_againZ D.fly fun h' fl up' => ?_)
      have D' : Down X pins σ H x cls d G old { now with heap := h' } := ⟨D.was, D.low, D.up.trans up', fl, D.fresh, D.sys, D.bare⟩
      obtain ⟨ob', _, g2, g3, J'⟩ := D'.held hf
      refine store_ok (X := X.suite x ((x, ob') :: (X.pn ++ pins))) (v := .ref x) J' nd at_ (.inl loc) rfl (fun s2 J2 => ?_) (.inr loc)
      refine wpAny_mono ((su x ob' cls d (X.pn ++ pins) g2 g3).run [] s2 _ H _ J2 (yes rfl x D.fresh)) (fun f s3 hf3 => ?_) (fun _ _ z => z.elim)
      have gone : ∀ {σ3 : L2.St} {H3 : Hp} {R : Shared → Prop}, Inv (X.suite x ((x, ob') :: (X.pn ++ pins))) [] σ3 H3 s3 → (∀ s4, Inv X pins (σ3.set i none) H3 s4 → R s4) →
          wpAny (model X.prog X.w) X.A (do bindName X.env n .none; unbindBehindTheSuite X.env n p2) (fun _ s4 => R s4) X.xe s3 := fun J3 q => gone_ok (J3.unsuite D.was.ok) nd at_ loc q
      match f, hf3 with
      | .next, ⟨_, _, J3, q⟩ => exact gone J3 fun _ J4 => ⟨_, _, J4, q⟩
      | .brk, ⟨_, _, J3, q⟩ => exact gone J3 fun _ J4 => ⟨_, _, J4, q⟩
      | .cont, ⟨_, _, J3, q⟩ => exact gone J3 fun _ J4 => ⟨_, _, J4, q⟩
      | .ret _, ⟨_, _, _, J3, r, q⟩ => exact gone J3 fun _ J4 => ⟨_, _, _, J4, r, q⟩
end
/-- try: body / except C as n: .. / except D as m: .. -/
theorem ps_tries {X : Cx} {body : List Stmt} {hd : ExceptHandler} {hds : List ExceptHandler} {ks : List Clause} {pos : Pos} {tb : WX → TS} {W : WX} (hs : X.stack = X.env :: X.outer) (hf : X.env.frame = some X.env.locals) (tk : Takes X W)
    (hb : ∀ (U : WX) (pn : List (Addr × Obj)) (xe : Value → Shared → Prop), Takes (X.tr pn xe) U → PassesOwn (model X.prog X.w) X.A X.env xe → PSs (X.tr pn xe) body (tb U)) (C : Clauses X (hd :: hds) ks) :
    PS X (.Try body (hd :: hds) [] [] pos) (fun E σ H => tb (asks X.K W E ks) E σ H) := by
  refine ⟨fun pins s σ H E I h => wpAny_Try_except ?_⟩
  have top : X.A.frames = some (X.env :: X.outer) := by rw [I.ok.frames, hs]
  have inner := hb (asks X.K W E ks) (X.pn ++ pins) (fun e s1 => wpAny (model X.prog X.w) X.A (noteFrame e X.env) (fun _ s2 => wpAny (model X.prog X.w) X.A (setFlight e none)
    (fun _ s3 => wpAny (model X.prog X.w) X.A (handleBy e X.env (hd :: hds)) (SP X pins E) X.xe s3) X.xe s2) X.xe s1) ?_ PassesOwn.looking
  · refine wpAny_mono (inner.run [] s σ H E (I.toTry _) h) (fun f s1 q => ?_) (fun _ _ z => z)
    match f, q with
    | .next, ⟨_, _, J, q⟩ => exact wpAny_execs_nil ⟨_, _, J.ofTry I.ok, q⟩
    | .brk, ⟨_, _, J, q⟩ => exact ⟨_, _, J.ofTry I.ok, q⟩
    | .cont, ⟨_, _, J, q⟩ => exact ⟨_, _, J.ofTry I.ok, q⟩
    | .ret _, ⟨_, _, _, J, r, q⟩ => exact ⟨_, _, _, J.ofTry I.ok, r, q⟩
  · rintro u s1 ⟨x, G, old, _, σ1, H1, cls, d, rfl, J, low, up, sky, fr, sys, bare, w⟩
    rw [show (X.tr (X.pn ++ pins) _).stack = X.env :: X.outer from hs] at sky
    refine Sky.land Zc.steady top hf sky fun h' fl up' => ?_
    exact Down.clauses (now := { s1 with heap := h' }) ⟨J.ofTry I.ok, low, up.trans up', fl, fr, sys, bare⟩ hs hf tk C w
end Kx
/-! Sequences, values of any known kind, calls by a bundle of facts. -/
namespace Kx
open L2 PySem PySem.Spec PyProof.Rows
section
variable {K : PySem.W.Frag} {H H' : Hp} {a b : Addr} {xs ys : List V} {o : HO}
theorem rd_same (e : Same H H') {u : HO} (h : Rd H a u) : Rd H' a u := h.elim (fun q => .inl (e _ _ q)) fun ⟨z, q⟩ => .inr ⟨z, e _ _ q⟩
theorem sqL_same (e : Same H H') (h : SqL K H a xs) : SqL K H' a xs := h.elim (fun q => .inl (rd_same e q)) .inr
theorem sqT_same (e : Same H H') (h : SqT K H a xs) : SqT K H' a xs := h.elim (fun q => .inl (rd_same e q)) .inr
theorem Sq.same (e : Same H H') (h : Sq K H a xs) : Sq K H' a xs := h.elim (fun q => .inl (sqL_same e q)) fun q => .inr (sqT_same e q)
theorem rd_upd (ne : a ≠ b) {u : HO} (h : Rd H a u) : Rd (upd H b o) a u := h.elim (fun q => .inl (by rw [upd_ne ne]; exact q)) fun ⟨z, q⟩ => .inr ⟨z, by rw [upd_ne ne]; exact q⟩
theorem sqL_upd (ne : a ≠ b) (h : SqL K H a xs) : SqL K (upd H b o) a xs := h.elim (fun q => .inl (rd_upd ne q)) .inr
theorem sqT_upd (ne : a ≠ b) (h : SqT K H a xs) : SqT K (upd H b o) a xs := h.elim (fun q => .inl (rd_upd ne q)) .inr
theorem Sq.upd (ne : a ≠ b) (h : Sq K H a xs) : Sq K (L2.upd H b o) a xs := h.elim (fun q => .inl (sqL_upd ne q)) fun q => .inr (sqT_upd ne q)
theorem same_new (h : H b = none) : Same H (upd H b o) := fun c u q => by
  rw [upd_ne (ne_of_none q h)]
  exact q
end
/-! ### loops over a list or a tuple -/
/-- the end of a loop's word: W by a word of the turn -/
theorem for_by {J : It} {n : Nat} {g : TG} {tb : TS} {D : Ends} {σ : L2.St} {H : Hp} (Pv : Nat → L2.St → Hp → Prop) (h0 : Pv 0 σ H)
    (go : ∀ i σ H, i < n → Pv i σ H → J.go i H ∧ ∀ x H', J.yld i H x H' → g x σ H' fun σ2 H2 => tb { D with nx := Pv (i + 1), ct := Pv (i + 1), bk := D.nx } σ2 H2)
    (stop : ∀ σ H, Pv n σ H → J.stop n H ∧ D.nx σ H) :
    ∃ W : Nat → Nat → L2.St → Hp → Prop, (∃ m, W 0 m σ H) ∧ ∀ i m σ H, W i m σ H → (J.stop i H ∧ D.nx σ H) ∨ (J.go i H ∧ ∃ N : L2.St → Hp → Prop, (∀ σ' H', N σ' H' → ∃ m', m' < m ∧ W (i + 1) m' σ' H') ∧ ∀ x H', J.yld i H x H' → g x σ H' fun σ2 H2 => tb { D with nx := N, ct := N, bk := D.nx } σ2 H2) := by
  refine ⟨fun i m σ H => m = n - i ∧ i ≤ n ∧ Pv i σ H, ⟨n, rfl, Nat.zero_le n, h0⟩, ?_⟩
  rintro i m σ H ⟨rfl, le, p⟩
  rcases Nat.lt_or_eq_of_le le with lt | rfl
  · obtain ⟨g1, g2⟩ := go i σ H lt p
    exact .inr ⟨g1, Pv (i + 1), fun σ' H' p' => ⟨n - (i + 1), by omega, rfl, lt, p'⟩, g2⟩
  · exact .inl (stop σ H p)
abbrev forR (g : TG) (tb : TS) (D : Ends) (σ : L2.St) : It → Hp → Prop := fun J H => ∃ W : Nat → Nat → L2.St → Hp → Prop, (∃ m, W 0 m σ H) ∧ ∀ i m σ H, W i m σ H →
  (J.stop i H ∧ D.nx σ H) ∨ (J.go i H ∧ ∃ N : L2.St → Hp → Prop, (∀ σ' H', N σ' H' → ∃ m', m' < m ∧ W (i + 1) m' σ' H') ∧ ∀ x H', J.yld i H x H' → g x σ H' fun σ2 H2 => tb { D with nx := N, ct := N, bk := D.nx } σ2 H2)
/-- for i, x in enumerate(xs) -/
theorem for_pairs {K : PySem.W.Frag} {a : Addr} {xs : List V} {g : TG} {tb : TS} {D : Ends} {σ : L2.St} {H : Hp} (hx : Sq K H a xs) (Pv : Nat → L2.St → Hp → Prop) (h0 : Pv 0 σ H) (hs : ∀ i σ' H', Pv i σ' H' → Same H H')
    (turn : ∀ (i : Nat) (x : V) (p : Addr) σ' H', xs[i]? = some x → Pv i σ' H' → H' p = none → g (.ref p) σ' (upd H' p (.tup [.int (i : Int), x])) fun σ2 H2 => tb { D with nx := Pv (i + 1), ct := Pv (i + 1), bk := D.nx } σ2 H2)
    (hd : ∀ σ' H', Pv xs.length σ' H' → D.nx σ' H') : (SqL K H a xs ∧ forR g tb D σ (Ite K a) H) ∨ (SqT K H a xs ∧ forR g tb D σ (ItPair K a) H) := by
  refine hx.imp (fun q => ⟨q, for_by (n := xs.length) Pv h0 ?_ ?_⟩) fun q => ⟨q, for_by (n := xs.length) Pv h0 ?_ ?_⟩
  · intro i σ' H' lt p
    have q' := sqL_same (hs i σ' H' p) q
    refine ⟨⟨xs, xs[i], q', List.getElem?_eq_getElem lt⟩, ?_⟩
    rintro v H2 ⟨pr, x, rfl, hn, rfl, hx⟩
    exact turn i x pr σ' H' (hx xs q') p hn
  · exact fun σ' H' p => ⟨⟨xs, sqL_same (hs _ σ' H' p) q, Nat.le_refl _⟩, hd σ' H' p⟩
  · intro i σ' H' lt p
    have q' := sqT_same (hs i σ' H' p) q
    refine ⟨⟨xs, xs[i], q', List.getElem?_eq_getElem lt⟩, ?_⟩
    rintro v H2 ⟨pr, x, rfl, hn, rfl, hx⟩
    exact turn i x pr σ' H' (hx xs q') p hn
  · exact fun σ' H' p => ⟨⟨xs, sqT_same (hs _ σ' H' p) q, Nat.le_refl _⟩, hd σ' H' p⟩
/-- for x in xs, xs a list or a tuple -/
def iAny (K : PySem.W.Frag) (tl : TE) : TI := fun σ H R => tl σ H fun x H1 => ∃ (a : Addr) (xs : List V), x = .ref a ∧ ((SqL K H1 a xs ∧ R (Itl K a) H1) ∨ (SqT K H1 a xs ∧ R (Itt K a) H1))
theorem pi_any {X : Cx} {tg e : Expr} {te : TE} (he : PE X e te) : PI X tg e (iAny X.K te) := by
  refine ⟨fun pins s σ H R I h => thn (he.run pins s σ H _ I h) fun u t ⟨x, H1, J, rx, a, xs, ex, how⟩ => ?_⟩
  subst ex
  obtain rfl := (show u = Value.ref a from rx)
  have far : ∀ b ∈ [t.heap.objs.size], FpOk X pins H1 b := fun b hb => by
    obtain rfl := (show b = t.heap.objs.size by simpa using hb)
    exact J.fpOk (Nat.le_refl _) (J.hok.fresh (Nat.le_refl _))
  have kept : ∀ (o : Obj) (b : Addr) (v : Obj), t.heap.get? b = some v → (t.heap.push o).get? b = some v := fun o b v z => Heap.get?_push_of_some _ z
  have new : ∀ (o : Obj), o.isFreed = false → (t.heap.push o).get? t.heap.objs.size = some o := fun o z => Heap.get?_push_size _ z
  rcases how with ⟨hx, q⟩ | ⟨hx, q⟩
  · obtain ⟨_, _, isL, _⟩ := J.list hx
    exact wpAny_pyIter_list isL.isList ⟨_, _, _, _, H1, rfl, J.kept (t' := t.toks) (kept _), turn_list a _, ⟨_, new _ rfl, rfl, rfl⟩, far, q⟩
  · obtain ⟨_, vs, isT, _⟩ := J.tuple hx
    exact wpAny_pyIter_tuple isT ⟨_, _, _, _, H1, rfl, J.kept (t' := t.toks) (kept _), turn_tuple a _, ⟨_, new _ rfl, rfl, rfl⟩, far, q⟩
theorem for_any {K : PySem.W.Frag} {a : Addr} {xs : List V} {g : TG} {tb : TS} {D : Ends} {σ : L2.St} {H : Hp} (hx : Sq K H a xs) (Pv : Nat → L2.St → Hp → Prop) (h0 : Pv 0 σ H)
    (hl : ∀ i σ' H', Pv i σ' H' → SqL K H a xs → SqL K H' a xs) (ht : ∀ i σ' H', Pv i σ' H' → SqT K H a xs → SqT K H' a xs)
    (turn : ∀ (i : Nat) (x : V) σ' H', xs[i]? = some x → Pv i σ' H' → g x σ' H' fun σ2 H2 => tb { D with nx := Pv (i + 1), ct := Pv (i + 1), bk := D.nx } σ2 H2)
    (hd : ∀ σ' H', Pv xs.length σ' H' → D.nx σ' H') : (SqL K H a xs ∧ forR g tb D σ (Itl K a) H) ∨ (SqT K H a xs ∧ forR g tb D σ (Itt K a) H) := by
  refine hx.imp (fun q => ⟨q, for_by (n := xs.length) Pv h0 ?_ ?_⟩) fun q => ⟨q, for_by (n := xs.length) Pv h0 ?_ ?_⟩
  · intro i σ' H' lt p
    have q' := hl i σ' H' p q
    refine ⟨⟨xs, xs[i], q', List.getElem?_eq_getElem lt⟩, ?_⟩
    rintro v H2 ⟨rfl, hv⟩
    exact turn i v σ' _ (hv xs q') p
  · exact fun σ' H' p => ⟨⟨xs, hl _ σ' H' p q, Nat.le_refl _⟩, hd σ' H' p⟩
  · intro i σ' H' lt p
    have q' := ht i σ' H' p q
    refine ⟨⟨xs, xs[i], q', List.getElem?_eq_getElem lt⟩, ?_⟩
    rintro v H2 ⟨rfl, hv⟩
    exact turn i v σ' _ (hv xs q') p
  · exact fun σ' H' p => ⟨⟨xs, ht _ σ' H' p q, Nat.le_refl _⟩, hd σ' H' p⟩
/-! ### values of a known kind -/
/-- v is no object, or a list, or a tuple -/
inductive Kn (K : PySem.W.Frag) (H : Hp) : V → Prop
  | non : Kn K H .non
  | bl (b : Bool) : Kn K H (.bl b)
  | int (i : Int) : Kn K H (.int i)
  | str (x : Str) : Kn K H (.str x)
  | seq {a : Addr} {xs : List V} (h : Sq K H a xs) : Kn K H (.ref a)
theorem Kn.same {K : PySem.W.Frag} {H H' : Hp} {v : V} (e : Same H H') (h : Kn K H v) : Kn K H' v := by
  cases h with
  | non => exact .non
  | bl b => exact .bl b
  | int i => exact .int i
  | str x => exact .str x
  | seq q => exact .seq (q.same e)
theorem tyx_list {K : PySem.W.Frag} {H : Hp} {a : Addr} {xs : List V} (h : SqL K H a xs) : TyX K H (.ref a) (.type "list") := by
  rcases h with (q | ⟨o, q⟩) | q
  · exact .base (.lst q)
  · exact .base (.frz q)
  · obtain ⟨_, _, _, q, r, _⟩ := q
    exact .kList q r
theorem tyx_tuple {K : PySem.W.Frag} {H : Hp} {a : Addr} {xs : List V} (h : SqT K H a xs) : TyX K H (.ref a) (.type "tuple") := by
  rcases h with (q | ⟨o, q⟩) | q
  · exact .base (.tup q)
  · exact .fTuple q
  · obtain ⟨_, _, _, q, r, _⟩ := q
    exact .kTuple q r
/-! ### a def that is known: its name, where it stands, what it takes, what it promises -/
structure Cal (P : Program) (w : World) (K : PySem.W.Frag) (mg : Str → Option Value) (base : Heap) (CX : CXT) (k : Nat) (x : Str) (ps : List Str) (sp : Sp) : Prop where
  ex : ∃ (f : Addr) (fd : FuncData), mg x = some (.ref f) ∧ PySem.W.keepIn K (.ref f) = true ∧ Binds K fd ps [] ∧ FnOk P w K mg base CX k f fd ps sp
section
variable {X : Cx} {CX : CXT} {k j : Nat} {x : Str} {ps : List Str} {sp : Sp} {e : Expr} {es : List Expr} {t : TA} {E : XK} {p pos : Pos}
theorem pe_callC (c : Cal X.prog X.w X.K X.mg X.base CX k x ps sp) (hr : Room j X.A) (hx : Passes CX X E) (ha : PA X (e :: es) t) (hk : k ≤ j := by decide) (hg : Gl X x := by rfl) (hdb : (x == ("__debug__" : Str)) = false := by decide)
    (he : starEach (e :: es) X.env = (false, eval e X.env) :: starEach es X.env := by rfl) (hpl : (backTo pos (starEach es X.env)).any (·.1) = false := by rfl) : PE X (.Call (.Name x p) (e :: es) [] pos) (tCall sp [] E t) := by
  obtain ⟨f, fd, h1, h2, h3, h4⟩ := c.ex
  exact pe_call h4 (hr.mono hk) hg h1 h2 h3 .nil hx ha hdb he hpl
end
end Kx
/-! defs that show a container as a text: their promise holds where no built-in that guards itself runs around. repr of data. -/
namespace Kx
open L2 PySem PySem.Spec PyProof.Rows
/-- nothing that guards itself runs around -/
abbrev Lone (A : Around) : Prop := A.guards = some []
structure FnG (P : Program) (w : World) (K : PySem.W.Frag) (mg : Str → Option Value) (base : Heap) (CX : CXT) (k : Nat) (f : Addr) (fd : FuncData) (ps : List Str) (sp : Sp) : Prop where
  len : ∀ vs H Q E, sp vs H Q E → List.length vs = ps.length
  run : ∀ (A : Around) (outer : List Env) (s : Shared) (H : Hp) (args : Args) (us : List Value) (vs : List V) (Q : VK) (E : XK), Room k A → Lone A → Env0 P w K mg base A outer s H → BindsTo s fd args (ps.zip us) → Vals vs us → sp vs H Q E → codeAny (model P w) A (.call (.ref f) args) (CR CX outer P w H s Q E) s
theorem FnG.of {P : Program} {w : World} {K : PySem.W.Frag} {mg : Str → Option Value} {base : Heap} {CX : CXT} {k : Nat} {f : Addr} {fd : FuncData} {ps : List Str} {sp : Sp} (F : FnOk P w K mg base CX k f fd ps sp) : FnG P w K mg base CX k f fd ps sp :=
  ⟨F.len, fun A outer s H args us vs Q E hr _ he hb hv hs => F.run A outer s H args us vs Q E hr he hb hv hs⟩
section
variable {P : Program} {w : World} {K : PySem.W.Frag} {mg : Str → Option Value} {base : Heap} {f : Addr} {fd : FuncData} {x qual : Str} {params : Arguments} {body : List Stmt} {scope : Scope} {dvs : List V} {kws : List (Str × V)}
/-- a def's body: what stands around is alone -/
theorem okG {CX : CXT} {N ps : List Str} {k : Nat} {sp : Sp} (F : FunD K x qual params body scope dvs kws f fd) (S : FnScope N ps scope) (len : ∀ vs H Q E, sp vs H Q E → vs.length = ps.length)
    (hbody : ∀ (cdv : Value) (A : Around) (outer : List Env) (s : Shared) (H : Hp) (vs : List V) (Q : VK) (E : XK), Lone A → PySem.W.codeIn K cdv qual = true → Room k (A.deeper (envOfC qual scope s.heap.objs.size f cdv)) → sp vs H Q E →
      ∃ t, PSs (cxOf CX P w K mg base N qual scope f cdv A outer s H E) body t ∧ t { nx := fun _ H' => Q .non H', rt := Q } (start N vs) H) : FnG P w K mg base CX (k + 1) f fd ps sp := by
  obtain ⟨oc, od, dV, kV, doc, pm, an, cdv, ct, osl, rfl, lk, hcd, -, -⟩ := F.ex
  exact ⟨len, fun A outer s H args us vs Q E hr lone e0 hb hv hs => LamX.run_ofS lk hcd S hr e0 hb hv (len _ _ _ _ hs) fun hr' => hbody cdv A outer s H vs Q E lone hcd hr' hs⟩
end
structure CalG (P : Program) (w : World) (K : PySem.W.Frag) (mg : Str → Option Value) (base : Heap) (CX : CXT) (k : Nat) (x : Str) (ps : List Str) (sp : Sp) : Prop where
  ex : ∃ (f : Addr) (fd : FuncData), mg x = some (.ref f) ∧ PySem.W.keepIn K (.ref f) = true ∧ Binds K fd ps [] ∧ FnG P w K mg base CX k f fd ps sp
section
variable {X : Cx} {CX : CXT} {k j : Nat} {x : Str} {ps : List Str} {sp : Sp} {e : Expr} {es : List Expr} {t : TA} {E : XK} {p pos : Pos}
theorem pe_callG (c : CalG X.prog X.w X.K X.mg X.base CX k x ps sp) (hr : Room j X.A) (lone : Lone X.A) (hx : Passes CX X E) (ha : PA X (e :: es) t) (hk : k ≤ j := by decide) (hg : Gl X x := by rfl) (hdb : (x == ("__debug__" : Str)) = false := by decide)
    (he : starEach (e :: es) X.env = (false, eval e X.env) :: starEach es X.env := by rfl) (hnp : (backTo pos (starEach es X.env)).any (·.1) = false := by rfl) :
    PE X (.Call (.Name x p) (e :: es) [] pos) (tCall sp [] E t) := by
  obtain ⟨f, fd, at_, keep, binds, F⟩ := c.ex
  refine ⟨fun pins s σ H Q I h => wpAny_Call_Name_kw (ld_glob I hg at_ ?_ hdb)⟩
  refine PySem.W.callWith_K (h₀ := X.base) I.ok.mod.kin keep (thn (ha.run pos pins s σ H _ I h) fun us s1 ⟨vs, H1, J, rel, q⟩ => ⟨J.kIn, ?_⟩) he hnp
  have q : sp (vs ++ []) H1 Q E := q
  rw [List.append_nil] at q
  have n : (us ++ []).length = ps.length := by
    rw [List.append_nil, ← rel.length]
    exact F.len _ _ _ _ q
  have b := binds s1 us J.kIn n
  rw [List.append_nil] at b
  refine wpAny_call (codeAny_mono (F.run X.A X.stack s1 H1 ⟨us, []⟩ us vs Q E (hr.mono hk) lone J.env0 b rel q) fun r s2 z => ?_)
  match r, z with
  | .error _, z => exact hx pins σ H1 s1 _ s2 J z
  | .ok (.ret _), z => exact J.after z
  | .ok .next, z => exact z.elim
  | .ok .brk, z => exact z.elim
  | .ok .cont, z => exact z.elim
end
/-! ### repr of data -/
/-- the text that shows v -/
def rShow (K : PySem.W.Frag) : List V → Hp → VK → Prop := fun vs H Q => ∃ (v : V) (d : PyData), vs = [v] ∧ Dp K H v d ∧ d.showable = true ∧ d.hasDict = false ∧ d.depth ≤ 60 ∧ d.shown.length ≤ sizeLine ∧ Q (.str d.shown) H
theorem call_show {X : Cx} (lone : Lone X.A) (hu : X.A.units + 64 < cLine) : CallR X (.builtin "repr") (rShow X.K) := by
  intro pins s σ H vs us Q I rel h
  obtain ⟨v, d, rfl, data, sh, nd, dep, fit, q⟩ := h
  obtain ⟨u, rfl, ru⟩ := vals1 rel
  obtain ⟨as, reads⟩ := Dp.reads I d v u data ru
  have fin : ∀ (h' : Heap) (z : Tok) (tk : Nat), (∀ b o, s.heap.get? b = some o → h'.get? b = some o) → EP X pins σ Q (.str d.shown z) { s with heap := h', toks := tk } := fun h' z tk keep => ⟨.str d.shown, H, I.kept keep, ⟨z, rfl⟩, q⟩
  cases data with
  | lst hs ha =>
    cases (show u = Value.ref _ from ru)
    exact repr_of_reads' reads sh (PyData.noDict_hsm nd) lone (by omega) (fun _ _ z => z) fin fit
  | tup hs ha =>
    cases (show u = Value.ref _ from ru)
    exact repr_of_reads' reads sh (PyData.noDict_hsm nd) lone (by omega) (fun _ _ z => z) fin fit
  | non =>
    cases (show u = Value.none from ru)
    exact PySem.P.repr_of_none (fin s.heap _ _ fun _ _ z => z)
  | bl b =>
    cases (show u = Value.bool b from ru)
    exact PySem.P.repr_of_bool (fin s.heap _ _ fun _ _ z => z)
  | int i =>
    obtain ⟨z, rfl⟩ := (show ∃ z, u = Value.int i z from ru)
    exact PySem.P.repr_of_int (of_decide_eq_true sh) (fin s.heap _ _ fun _ _ z => z)
  | str y =>
    obtain ⟨z, rfl⟩ := (show ∃ z, u = Value.str y z from ru)
    exact PySem.P.repr_of_str (fin s.heap _ _ fun _ _ z => z) fit
end Kx
/-! own errors of one field, over an own base over ValueError: «self.f = f» alone. -/
namespace Kx
open L2 PySem PySem.Spec PyProof.Rows
/-- __init__ keeps the one thing in f -/
def spKeep (K : PySem.W.Frag) (C : Addr) (f : Str) : Sp := fun vs H Q _ => ∃ (a : Addr) (v : V), vs = [.ref a, v] ∧ H a = some (exo a C none) ∧
  ∀ dx, H dx = none → dx ≠ a → Q .non (upd (upd H dx (exd dx [(f, v)])) a (exo a C (some dx)))
/-- what the module holds of such a class: at C, its __init__ at fI -/
structure ErrC (P : Program) (w : World) (K : PySem.W.Frag) (mg : Str → Option Value) (base : Heap) (k : Nat) (x f : Str) (C : Addr) : Prop where
  at_ : mg x = some (.ref C)
  cls : OexC K C
  no : PySem.W.findIn K (.ref C) f = some none
  ini : ∃ (fI : Addr) (fd : FuncData), PySem.W.findIn K (.ref C) "__init__" = some (some (.ref fI)) ∧ PySem.W.typeIn K (.ref fI) = some (.type "function") ∧ Binds K fd ["self", f] [] ∧ FnOk P w K mg base CX0 k fI fd ["self", f] (spKeep K C f)
theorem heap_made {fs : List (Str × V)} {H : Hp} {a d : Addr} {u v z : HO} (ha : H a = none) (hne : d ≠ a) : upd (del (upd (upd (upd H a u) d v) a z) a) d (.xd fs) = upd H d (.xd fs) := by
  funext b
  by_cases e1 : b = d
  · rw [e1, upd_same, upd_same]
  · rw [upd_ne e1, upd_ne e1]
    by_cases e2 : b = a
    · rw [e2, del_same, ha]
    · rw [del_ne e2, upd_ne e2, upd_ne e1, upd_ne e2]
/-- raise C(e): what is asked behind e -/
theorem thrown {K : PySem.W.Frag} {C : Addr} {f : Str} {v : V} {H : Hp} {R : XK} (h : ∀ d, H d = none → R (.ref C) (some d) (upd H d (.xd [(f, v)]))) :
    [v].length ≤ 1000 ∧ ∀ a, H a = none → spKeep K C f (.ref a :: ([v] ++ [])) (upd H a (exo a C none))
      (fun y H2 => y = .non ∧ ∃ (d : Addr) (fs : List (Str × V)), H2 a = some (exo a C (some d)) ∧ H2 d = some (exd d fs) ∧ H d = none ∧ R (.ref C) (some d) (upd (del H2 a) d (.xd fs))) (fun _ _ _ => False) := by
  refine ⟨Nat.succ_le_of_lt (by simp), fun a ha => ⟨a, v, rfl, upd_same, fun d hd ne => ⟨rfl, d, [(f, v)], upd_same, ?_, ?_, ?_⟩⟩⟩
  · rw [upd_ne ne, upd_same]
  · rwa [upd_ne ne] at hd
  · rw [heap_made ha ne]
    rw [upd_ne ne] at hd
    exact h d hd
section
variable {X : Cx} {k j : Nat} {x f : Str} {C : Addr} {e : Expr} {ta : TA} {W : WX} {p pos p2 : Pos}
theorem ps_throw (T : ErrC X.prog X.w X.K X.mg X.base k x f C) (hc : X.calm = true) (hr : Room j X.A) (tk : Takes X W) (ha : PA X [e] ta) (hk : k + 1 ≤ j := by decide) (hg : Gl X x := by rfl) (hdb : (x == ("__debug__" : Str)) = false := by decide)
    (he : starEach (e :: []) X.env = (false, eval e X.env) :: starEach [] X.env := by rfl) (hpl : (backTo pos (starEach [] X.env)).any (·.1) = false := by rfl) :
    PS X (.Raise (some (.Call (.Name x p) [e] [] pos)) none p2) (fun _ σ H => tMkO C (spKeep X.K C f) [] ta σ H fun cls d H' => W cls d σ H') := by
  obtain ⟨fI, fd, h1, h2, h3, h4⟩ := T.ini
  exact ps_raise (pos := p2) hc tk (pmk_oex (p := p) (pos := pos) (es := []) T.cls h1 h2 h4 (hr.mono hk) h3 .nil pass0 hg T.at_ ha hdb he hpl)
end
/-! ### the init itself -/
theorem ok_keep {P : Program} {w : World} {K : PySem.W.Frag} {mg : Str → Option Value} {base : Heap} {C fI : Addr} {fd : FuncData} {f qual : Str} {params : Arguments} {scope : Scope} {p1 p2 p3 p4 : Pos}
    (F : FunD K "__init__" qual params [.Assign [.Attribute (.Name "self" p1) f p2] (.Name f p3) p4] scope [] [] fI fd) (T : OexC K C) (no : PySem.W.findIn K (.ref C) f = some none)
    (sc : FnScope ["self", f] ["self", f] scope) (hd : (f == ("__debug__" : Str)) = false) (hcd : (f == ("__classdict__" : Str)) = false) (l0 : scope.names.lookup ("self" : Str) = some .local) (l1 : scope.names.lookup f = some .local) :
    FnOk P w K mg base CX0 1 fI fd ["self", f] (spKeep K C f) := by
  refine F.ok sc (fun vs H Q E h => ?_) (fun cdv A outer s H vs Q E hr h => ?_)
  · obtain ⟨a, v, rfl, _⟩ := h
    rfl
  · obtain ⟨a, v, rfl, ha, k⟩ := h
    refine ⟨_, pss_one (ps_ost (pe_var (i := 0) rfl (.inl l0)) (pe_var (i := 1) rfl (.inl l1) hd hcd)), ?_⟩
    exact ⟨_, rfl, _, rfl, a, C, rfl, T, no, .inl ⟨ha, fun dx n1 n2 => k dx n1 n2⟩⟩
end Kx
/-! own errors right over KeyError (made by LookupError's maker), with an own __init__. -/
namespace Kx
open PySem PySem.W PySem.Calls PyProof.Rows PySem.HandSPX
abbrev keyTail : List Value := [.type "KeyError", .type "LookupError", .type "Exception", .type "BaseException", .type "object"]
abbrev keyObj (nm q : Str) (C N : Addr) (bs : List Value) (sn : List Str) (sub : List Value) (ab : Bool) (col : Option Bool) (dd : Option Addr) (k0 k1 k2 k3 k5 : Option Value) : Obj :=
  excClassObj nm q C N bs keyTail true sn sub ab col dd k0 k1 k2 k3 k5 "LookupError.__new__"
theorem in_tail {C : Addr} {n : String} {b : Bool} (h : keyTail.contains (.type n) = b) : (Value.ref C :: keyTail).contains (.type n) = b := by
  rw [List.contains_cons, h]
  rfl
section
variable {h : Heap} {g : Array GenState} {d : Drawn} {t : Nat} {os : OsState} {prog : Program} {w : World} {A : Around} {R : Result → Shared → Prop} {E : Value → Shared → Prop}
variable {nm q : Str} {C N : Addr} {bs : List Value} {sn : List Str} {sub : List Value} {ab : Bool} {col : Option Bool} {dd : Option Addr} {k0 k1 k2 k3 k5 : Option Value} {more : List Value}
theorem key_check {M : Model} {Q : Unit → Shared → Prop} (stands : h.get? C = some (keyObj nm q C N bs sn sub ab col dd k0 k1 k2 k3 k5)) (done : Q () ⟨h, g, d, t, os⟩) :
    wpAny M A (checkBuiltinCall "LookupError.__new__" ⟨.ref C :: more, []⟩) Q E ⟨h, g, d, t, os⟩ := by
  have isB : (Value.ref C :: keyTail).contains (.type "LookupError") = true := in_tail (by decide +kernel)
  have short := PySem.F.excBase_LookupError.noStar
  simp only [checkBuiltinCall, PySem.F.excBase_LookupError.newKind, PySem.F.excBase_LookupError.newSplit, PySem.F.excBase_LookupError.newRow]
  repeat (first
    | refine wpAny_loadPart_at stands ?_
    | (refine wpAny_isSubtype_exc stands ?_; rw [isB])
    | refine wpAny_staticBase_exc stands ?_
    | refine wpAny_madeBy_exc stands ?_
    | simp only [bne_self_eq_false, Bool.false_eq_true, if_false]
    | wp_step)
  exact done
theorem key_new (stands : h.get? C = some (keyObj nm q C N bs sn sub ab col dd k0 k1 k2 k3 k5)) (fits : more.length ≤ sizeLine)
    (done : R (.ok (.ret (.ref (h.objs.size + 1)))) ⟨(h.push (kdv_tup more)).push (excO C h.objs.size), g, d, t, os⟩) : codeAny (model prog w) A (.builtin "LookupError.__new__" ⟨.ref C :: more, []⟩) R ⟨h, g, d, t, os⟩ := by
  have ends := PySem.F.excBase_LookupError.ends
  have isB : (Value.ref C :: keyTail).contains (.type "LookupError") = true := in_tail (by decide +kernel)
  have noA : (Value.ref C :: keyTail).contains (.type "AttributeError") = false := in_tail (by decide +kernel)
  have noN : (Value.ref C :: keyTail).contains (.type "NameError") = false := in_tail (by decide +kernel)
  refine codeAny_builtinAt PySem.F.excBase_LookupError.entry ?_
  unfold Builtin.«BaseException.__new__»; refine PySem.wpAt_bind ?_
  show PySem.wpAt _ _ _ (stack >>= _) _ _ _
  refine PySem.wpAt_bind (PySem.wpAt_stack fun _ _ => PySem.wpAt_of_wpAny ?_)
  wp_walk
  refine PySem.wpAt_of_wpAny ?_
  rw [PySem.F.excBase_LookupError.owner]
  repeat (first
    | with_reducible refine wpAny_madeHere_exc PySem.F.excBase_LookupError.canon stands ?_
    | with_reducible refine wpAny_loadPart_at stands ?_
    | (with_reducible refine wpAny_isSubtype_exc stands ?_; first | rw [isB] | rw [noA] | rw [noN])
    | wp_step)
  show R _ _
  rw [Heap.size_push]
  exact done
theorem key_call {fI : Addr} (stands : h.get? C = some (keyObj nm q C N bs sn sub ab col dd k0 k1 k2 k3 k5)) (hi : Looks (model prog w) h (typeLookup (.ref C) "__init__") (some (.ref fI)))
    (hb : ∀ self, Looks (model prog w) h (bindSpecial (.ref fI) self) (.ref fI, [self])) (fits : more.length ≤ sizeLine)
    (done : codeAny (model prog w) (A.under (.builtin "type.__call__" ⟨.ref C :: more, []⟩)) (.call (.ref fI) ⟨.ref (h.objs.size + 1) :: more, []⟩) (InitBack (h.objs.size + 1) R) ⟨(h.push (kdv_tup more)).push (excO C h.objs.size), g, d, t, os⟩) :
    codeAny (model prog w) A (.call (.ref C) ⟨more, []⟩) R ⟨h, g, d, t, os⟩ := by
  have l1 := tc_lookup
  have l2 := tc_bind (.ref C)
  have isTy : (⟨h, g, d, t, os⟩ : Shared).TypeIs (.ref C) "type" := ⟨_, stands, rfl⟩
  have all : ∀ b o, h.get? b = some o → ((h.push (kdv_tup more)).push (excO C h.objs.size)).get? b = some o := fun b o z => Heap.get?_push_of_some _ (Heap.get?_push_of_some _ z)
  refine codeAny_of_tree ?_
  show wpAny _ _ (callAny (.ref C) _) _ _ _; repeat (any_goals (first | assumption | with_reducible refine wpAny_loadPart_at stands ?_ | wp_step))
  refine ⟨rfl, ?_⟩
  refine codeAny_call_builtin_at (Code.quiet_builtin _ (by decide +kernel)) entry_typeCall (wpAny_check_type_call_sub stands ?_)
  repeat (first | with_reducible refine wpAny_loadPart_at stands ?_ | with_reducible refine wpAny_madeBy_exc stands ?_ | wp_step)
  refine codeAny_call_builtin_code (Code.quiet_builtin _ PySem.F.excBase_LookupError.quiet) (key_check stands (key_new stands fits ?_))
  show wpAny _ _ _ _ _ _
  have hC1 := all _ _ stands
  have made : ((h.push (kdv_tup more)).push (excO C h.objs.size)).get? (h.objs.size + 1) = some (excO C h.objs.size) := by heap_get
  have own : (Value.ref C :: keyTail).contains (.ref C) = true := by simp
  have i1 := hi.keeps all
  have b1 := (hb (.ref (h.objs.size + 1))).keeps all
  unfold isInstance
  repeat (first | with_reducible refine wpAny_loadPart_at made ?_ | wp_step)
  show wpAny _ _ (isSubtype (.ref C) (.ref C)) _ _ ⟨(h.push (kdv_tup more)).push (excO C h.objs.size), g, d, t, os⟩
  refine wpAny_isSubtype_exc hC1 ?_
  rw [own]
  repeat wp_step
  show wpAny _ _ (typeLookup (.ref C) _) _ _ _; refine i1.at (wpAny_holding (wpAny_bind (b1.at (wpAny_bind (wpAny_call (codeAny_mono done fun r s' z => ?_))))))
  match r, z with
  | .error _, z => exact z
  | .ok .next, z => exact z.elim
  | .ok .brk, z => exact z.elim
  | .ok .cont, z => exact z.elim
  | .ok (.ret _), ⟨e1, z⟩ =>
    subst e1
    first | (wp_walk; exact z) | exact wpAny_pure (wpAny_pure z)
end
/-! ### x.name = v on such an error that has no dict yet -/
theorem key_passes (self : Value) : refuseLoop self "__setattr__" keyTail = pure () := by kernel_rfl
/-- what the written part holds of such a class -/
structure KeyC (K : Frag) (C : Addr) : Prop where
  cls : ∃ nm q N bs sn sub ab col dd k0 k1 k2 k3 k5, K.lookup C = some (keyObj nm q C N bs sn sub ab col dd k0 k1 k2 k3 k5)
  sa : findIn K (.ref C) "__setattr__" = some (some (.builtin "object.__setattr__"))
  exC : subIn K (.ref C) (.type "BaseException") = some true
  tyC : typeIn K (.ref C) = some (.type "type")
  kC : keepIn K (.ref C) = true
section
open Builtin.ObjectAttr Builtin
variable {mem : Heap} {g : Array GenState} {d : Drawn} {t : Nat} {os : OsState} {prog : Program} {w : World} {A : Around} {R : Result → Shared → Prop} {E : Value → Shared → Prop}
theorem key_osa {K : Frag} {name : Str} {tk : Tok} {v : Value} {x C : Addr} {fv : Array Value} (T : KeyC K C) (X : K.In mem) (hx : mem.get? x = some { cls := .ref C, data := .fields fv }) (no : findIn K (.ref C) name = some none)
    (done : ∀ (h' : Heap) (tk' : Nat) (dx : Addr), (∀ b o, b ≠ x → mem.get? b = some o → h'.get? b = some o) → mem.objs.size ≤ dx → dx ≠ x → h'.get? x = some { cls := .ref C, dict := some dx, data := .fields fv } → h'.Ns1 dx (fun y => if y = name then some v else none) → R (.ok (.ret .none)) ⟨h', g, d, tk', os⟩) : codeAny (model prog w) A (.call (.builtin "object.__setattr__") ⟨[.ref x, .str name tk, v], []⟩) R ⟨mem, g, d, t, os⟩ := by
  obtain ⟨nm, q, N, bs, sn, sub, ab, col, dd, k0, k1, k2, k3, k5, stands⟩ := T.cls
  have cd : clsIn K C = some { name := nm, bases := bs, mro := .ref C :: keyTail, ns := N, qualname := q, hasDict := true, slotNames := sn, subclasses := sub, abstract := ab, collection := col, hasDel := false } := by
    unfold clsIn
    rw [stands]
  have I : InstAt mem x { cls := .ref C, data := .fields fv } C none := ⟨hx, rfl, rfl, trivial⟩
  have SF := PySem.F.store_object -- the store
  have obj : (Value.ref C :: keyTail).contains (.type "object") = true := in_tail (by decide +kernel)
  have apart : x ≠ mem.objs.size := Nat.ne_of_lt (Heap.lt_size hx)
  have sub' : Looks (model prog w) mem (isInstance (.ref x) (.type "object")) true := I.type.andThen (looks_mroIn X (by
    unfold mroIn
    rw [cd, Option.bind_some]
    show (if (Value.ref C :: keyTail).isEmpty = true then none else some ((Value.ref C :: keyTail).contains (.type "object"))) = some true
    rw [obj]
    rfl))
  refine codeAny_call_builtin SF.slot.plain SF.entry (@check_slot (model prog w) _ _ ⟨mem, g, d, t, os⟩ "object.__setattr__" "object" "__setattr__" (.ref x) [.str name tk, v] [] _ SF.kind SF.split sub' (SF.args (.ref x) (.str name tk) v) ?_)
  have mro : Looks (model prog w) mem (mroOf (.ref C)) (.ref C :: keyTail) := (looks_clsIn X cd).andThen .now
  have taker : Looks (model prog w) mem (storeTaker? none) none := .now
  have data : Looks (model prog w) mem (classData C) _ := looks_clsIn X cd
  rw [osa_eq, refuse_eq]
  refine wpAny_bind (wpAny_bind (I.type.at (wpAny_bind (mro.at ?_))))
  rw [refuseLoop_ref, key_passes]
  refine wpAny_pure (wpAny_bind (I.type.at (wpAny_bind ((looks_findIn X no).at (wpAny_bind (taker.at ?_))))))
  show wpAny _ _ (storeInOwnDict (.ref x) (.ref C) (.str name tk) name v false) _ _ _; unfold storeInOwnDict ownDictForStores
  repeat (first
    | with_reducible refine store_in_new ?_ ?_
    | with_reducible refine wpAny_loadPart_at hx ?_
    | with_reducible refine data.at ?_
    | wp_step)
  · exact ⟨_, #[], _, (Heap.get?_update_ne _ _ _ _ apart.symm).trans (Heap.get?_push_at rfl rfl), rfl, fun e he => absurd he (by simp), fun _ => rfl⟩
  · intro h' tk' ns but
    have here := Heap.get?_push_of_some { cls := .type "dict", data := .dict #[] } hx
    refine done h' tk' mem.objs.size (fun b o ne ho => ?_) (Nat.le_refl _) apart.symm ((but.2 x apart).trans (Heap.get?_update_self _ here rfl)) ns
    exact (but.2 b (Nat.ne_of_lt (Heap.lt_size ho))).trans ((Heap.get?_update_ne _ _ _ _ ne).trans (Heap.get?_push_of_some _ ho))
end
end Kx
/-! NoState and NoDeed: raised with their one thing. -/
namespace PySem
namespace LowZ
open PySem.HandSPX PySem.W PySem.Calls PyProof.Rows
theorem one_fits (v : Value) : [v].length ≤ sizeLine := by
  rw [sizeLine_eq]
  exact (by decide : 1 ≤ 16777216)
theorem ld_here {M : Model} {s : Shared} {name : Str} {scope : Scope} {L a : Addr} {cd : Value} {m : Str → Option Value} {x : Str} {pos : Pos} {v : Value} {Q : Value → Shared → Prop} {A : Around} {E : Value → Shared → Prop} (hn : s.heap.Ns L m) (hv : m x = some v) (h : Q v s)
    (hk : scope.kind = .function := by rfl) (hl : (envOfC name scope L a cd).kindOf x = some .local := by rfl) (hd : (x == ("__debug__" : Str)) = false := by decide) : wpAny M A (eval (.Name x pos) (envOfC name scope L a cd)) Q E s := wpAny_Name (wpAny_loadName_local hk hl hn hv h) hd
end LowZ
end PySem

namespace Kx
namespace KS
open PySem PySem.W PySem.Calls PyProof.Rows PySem.HandSPX PySem.LowZ
/-! __init__(self, state): self.state = state -/
def tArgs (p1 p2 : Pos) : Arguments := { posonlyargs := [], args := [{ arg := "self", annotation := none, pos := p1 }, { arg := "state", annotation := none, pos := p2 }], vararg := none, kwonlyargs := [], kw_defaults := [], kwarg := none, defaults := [] }
def tBody (q1 q2 q3 q4 : Pos) : List Stmt := [.Assign [.Attribute (.Name "self" q1) "state" q2] (.Name "state" q3) q4]
def tScope : Scope := { kind := .function, names := [(Str.ofString "self", .local), (Str.ofString "state", .local)], isGenerator := false, isCoroutine := false, more := [] }
structure Txt (K : Frag) (C fI : Addr) (qual : Str) : Prop where
  key : KeyC K C
  no : findIn K (.ref C) "state" = some none
  ini : findIn K (.ref C) "__init__" = some (some (.ref fI))
  tyI : typeIn K (.ref fI) = some (.type "function")
  fn : ∃ (oc : Value) (od : Option Addr) (dV kV doc pm : Value) (an : Option Addr) (cdv ct : Value) (osl : Array (Option Value)) (p1 p2 q1 q2 q3 q4 : Pos),
    K.lookup fI = some ⟨oc, od, .func (fnOf "__init__" qual (tArgs p1 p2) (tBody q1 q2 q3 q4) tScope dV kV doc pm an cdv ct), osl⟩ ∧ codeIn K cdv qual = true ∧ dV = .none
/-- what a made one is -/
structure Made (h h' : Heap) (e C d : Addr) (v : Value) : Prop where
  keep : ∀ b o, h.get? b = some o → h'.get? b = some o
  new : h.objs.size ≤ e
  obj : ∃ oe vs, h'.get? e = some oe ∧ oe.cls = .ref C ∧ oe.dict = some d ∧ oe.data = .fields vs ∧ vs[1]? = some .none
  dbig : h.objs.size ≤ d
  dne : d ≠ e
  ns : h'.Ns1 d (fun y => if y = "state" then some v else none)
section
variable {prog : Program} {w : World} {A : Around} {R : Result → Shared → Prop} {s : Shared} {K : Frag} {C fI : Addr} {qual : Str}
theorem inits (T : Txt K C fI qual) {x t0 : Addr} {v : Value} (X : K.In s.heap) (lim : s.heap.NoLimit) (hx : s.heap.get? x = some (excO C t0)) (room : A.depth < recursionLimit)
    (done : ∀ (h' : Heap) (tk : Nat) (dx : Addr), (∀ b o, b ≠ x → s.heap.get? b = some o → h'.get? b = some o) → h'.get? x = some { cls := .ref C, dict := some dx, data := .fields #[.ref t0, .none, .none, .none, .bool false, .none] } → s.heap.objs.size ≤ dx → dx ≠ x →
      h'.Ns1 dx (fun y => if y = "state" then some v else none) → R (.ok (.ret .none)) { s with heap := h', toks := tk }) :
    codeAny (model prog w) A (.call (.ref fI) ⟨[.ref x, v], []⟩) R s := by
  obtain ⟨oc, od, dV, kV, doc, pm, an, cdv, ct, osl, p1, p2, q1, q2, q3, q4, lk, hcd, rfl⟩ := T.fn
  refine Att.call_fn (binds := [("self", .ref x), ("state", v)]) X lim lk hcd room (BindsTo.of_eq (by first | rfl | with_unfolding_all rfl)) (by first | rfl | decide | with_unfolding_all rfl) (fun s1 IC => ?_) rfl rfl rfl
  obtain ⟨h1, tk1, rfl⟩ := IC.toInCall.same
  have keep : ∀ b o, s.heap.get? b = some o → h1.get? b = some o := IC.toInCall.keep
  have ns := IC.toInCall.ns
  show wpAny _ _ (execs _ _) _ _ _
  refine wpAny_execs_cons (plainObj_wpAny_Assign_Attribute ?_)
  refine ld_here (v := v) ns (by first | rfl | with_unfolding_all rfl | kernel_rfl) (ld_here (v := .ref x) ns (by first | rfl | with_unfolding_all rfl | kernel_rfl) ?_)
  refine set_plain (X.keeps keep) (ox := excO C t0) (od := none) ⟨keep _ _ hx, rfl, rfl, trivial⟩ T.key.sa ?_
  refine key_osa T.key (X.keeps keep) (keep _ _ hx) T.no (fun h3 tk3 dx k3 dn dne hx3 hn3 => ?_)
  show wpAny _ _ (execs _ _) _ _ _
  have z : s.heap.objs.size < h1.objs.size := ns.lt
  exact wpAny_execs_nil (done h3 tk3 dx (fun b o hb e => k3 b o hb (keep b o e)) hx3 (Nat.le_of_lt (Nat.lt_of_lt_of_le z dn)) dne hn3)
theorem makes (T : Txt K C fI qual) {v : Value} (X : K.In s.heap) (lim : s.heap.NoLimit) (room : A.depth + 1 < recursionLimit)
    (done : ∀ h' tk e d, Made s.heap h' e C d v → R (.ok (.ret (.ref e))) { s with heap := h', toks := tk }) : codeAny (model prog w) A (.call (.ref C) ⟨[v], []⟩) R s := by
  obtain ⟨nm, q, N, bs, sn, sub, ab, col, dd, k0, k1, k2, k3, k5, hC⟩ := T.key.cls
  obtain ⟨hp, gs, dr, tk, os⟩ := s
  have keep : ∀ b o, hp.get? b = some o → ((hp.push (kdv_tup [v])).push (excO C hp.objs.size)).get? b = some o := fun b o e => Heap.get?_push_of_some _ (Heap.get?_push_of_some _ e)
  have here : ((hp.push (kdv_tup [v])).push (excO C hp.objs.size)).get? (hp.objs.size + 1) = some (excO C hp.objs.size) := by heap_get
  refine key_call (X _ _ hC) (looks_findIn X T.ini) (fun self => bind_fn X self T.tyI) (one_fits v) ?_
  refine inits (s := ⟨(hp.push (kdv_tup [v])).push (excO C hp.objs.size), gs, dr, tk, os⟩) T (X.keeps keep) (lim.keeps keep) here ?_ fun h' tk' dx k' hx dn dne hns => ?_
  · show A.depth + 1 < recursionLimit
    exact room
  · have old : ∀ b o, hp.get? b = some o → h'.get? b = some o := fun b o e => k' b o (Nat.ne_of_lt (Nat.lt_succ_of_lt (Heap.lt_size e))) (keep b o e)
    have z : hp.objs.size + 1 + 1 ≤ dx := by
      have q := dn
      simp only [Heap.size_push] at q
      exact q
    exact ⟨rfl, done h' tk' (hp.objs.size + 1) dx ⟨old, Nat.le_succ _, ⟨_, _, hx, rfl, rfl, rfl, rfl⟩, Nat.le_trans (Nat.le_trans (Nat.le_succ _) (Nat.le_succ _)) z, dne, hns⟩⟩
end
end KS
end Kx
namespace Kx
namespace KS
open L2 PySem PySem.Spec PyProof.Rows
theorem rel_one {v : V} {v' : Value} (r : RelV v v') (y : Str) : RelO (List.lookup y [(("state" : Str), v)]) (if y = "state" then some v' else none) := by
  rw [lookup_put]
  by_cases h : y = "state"
  · rw [if_pos h, if_pos h]
    exact r
  · rw [if_neg h, if_neg h]
    trivial
section
variable {X : Cx} {C fI : Addr} {qual x : Str}
/-- C(e) -/
def tMk (C : Addr) (ta : TA) : L2.St → Hp → XK → Prop := fun σ H Q => ta σ H fun vs H1 => ∃ v, vs = [v] ∧ ∀ d, H1 d = none → Q (.ref C) (some d) (upd H1 d (.xd [(("state" : Str), v)]))
theorem pmk {a : Expr} {ta : TA} {p pos : Pos} {k : Nat} (T : Txt X.K C fI qual) (at_ : X.mg x = some (.ref C)) (hr : Room k X.A) (ha : PA X [a] ta) (hg : Gl X x) (hdb : (x == ("__debug__" : Str)) = false)
    (he : starEach (a :: []) X.env = (false, eval a X.env) :: starEach [] X.env) (hpl : (backTo pos (starEach [] X.env)).any (·.1) = false) : PMk X (.Call (.Name x p) [a] [] pos) (tMk C ta) := by
  intro pins s σ H Q I h
  refine wpAny_Call_Name_kw (ld_glob I hg at_ ?_ hdb)
  refine PySem.W.callWith_K (h₀ := X.base) I.ok.mod.kin T.key.kC (thn (ha.run pos pins s σ H _ I h) fun us s1 hh => ?_) he hpl
  obtain ⟨vs, H1, I1, r1, v, ev, q1⟩ := hh
  subst ev
  refine ⟨I1.kIn, ?_⟩
  obtain ⟨v', rfl, rv⟩ := vals1 r1
  show wpAny _ _ (call (.ref C) [v']) _ _ _
  have lim := I1.nolimit
  obtain ⟨hp, gs, dr, tk, os⟩ := s1
  refine wpAny_call (makes T I1.kIn lim (by have := hr.dp; omega) fun h' tk' e d M => ?_)
  show MkP X pins σ Q (.ref e) ⟨h', gs, dr, tk', os⟩
  obtain ⟨oe, fv, hoe, hc, hd, hdat, h1⟩ := M.obj
  have hns := M.ns
  obtain ⟨G, g1, g2⟩ := restrict h' fun b => decide (b ≠ e)
  have gk : ∀ b, b ≠ e → G.get? b = h'.get? b := fun b hb => g1 b (decide_eq_true hb)
  have ge : G.get? e = none := g2 e (by simp)
  have old : ∀ b o, hp.get? b = some o → G.get? b = some o := fun b o q => (gk b (Nat.ne_of_lt (Nat.lt_of_lt_of_le (Heap.lt_size q) M.new))).trans (M.keep b o q)
  have ob : ObjOk X.prog X.w (upd H1 d (.xd [(("state" : Str), v)])) G d (.xd [(("state" : Str), v)]) := ⟨_, hns.at (fun o q => (gk d M.dne).trans q), fun y => rel_one rv y⟩
  have J : Inv X pins σ (upd H1 d (.xd [(("state" : Str), v)])) ⟨G, gs, dr, tk', os⟩ := I1.laid (t' := tk') old M.dbig ob
  refine ⟨e, oe, fv, ⟨G, gs, dr, tk', os⟩, _, .ref C, some d, rfl, J, fun b o q => ?_, ge, hoe, ⟨hc, hd⟩, hdat, h1, ?_, rfl, I1.bare, raises_own T.key.exC T.key.tyC, q1 d (I1.hok.fresh M.dbig)⟩
  · by_cases hb : b = e
    · have q' : G.get? b = some o := q
      rw [hb, ge] at q'
      cases q'
    · exact (gk b hb).symm.trans q
  · rw [upd_ne (Ne.symm M.dne)]
    exact I1.hok.fresh M.new
/-- raise C(e) -/
theorem ps_throw {a : Expr} {ta : TA} {W : WX} {p pos p2 : Pos} {k : Nat} (T : Txt X.K C fI qual) (at_ : X.mg x = some (.ref C)) (hc : X.calm = true) (hr : Room k X.A) (tk : Takes X W) (ha : PA X [a] ta) (hg : Gl X x := by rfl) (hdb : (x == ("__debug__" : Str)) = false := by decide)
    (he : starEach (a :: []) X.env = (false, eval a X.env) :: starEach [] X.env := by rfl) (hpl : (backTo pos (starEach [] X.env)).any (·.1) = false := by rfl) :
    PS X (.Raise (some (.Call (.Name x p) [a] [] pos)) none p2) (fun _ σ H => tMk C ta σ H fun cls d H' => W cls d σ H') := ps_raise hc tk (pmk T at_ hr ha hg hdb he hpl)
end
end KS
end Kx

namespace Kx
namespace KD
open PySem PySem.W PySem.Calls PyProof.Rows PySem.HandSPX PySem.LowZ
/-! __init__(self, deed): self.deed = deed -/
def tArgs (p1 p2 : Pos) : Arguments := { posonlyargs := [], args := [{ arg := "self", annotation := none, pos := p1 }, { arg := "deed", annotation := none, pos := p2 }], vararg := none, kwonlyargs := [], kw_defaults := [], kwarg := none, defaults := [] }
def tBody (q1 q2 q3 q4 : Pos) : List Stmt := [.Assign [.Attribute (.Name "self" q1) "deed" q2] (.Name "deed" q3) q4]
def tScope : Scope := { kind := .function, names := [(Str.ofString "self", .local), (Str.ofString "deed", .local)], isGenerator := false, isCoroutine := false, more := [] }
structure Txt (K : Frag) (C fI : Addr) (qual : Str) : Prop where
  key : KeyC K C
  no : findIn K (.ref C) "deed" = some none
  ini : findIn K (.ref C) "__init__" = some (some (.ref fI))
  tyI : typeIn K (.ref fI) = some (.type "function")
  fn : ∃ (oc : Value) (od : Option Addr) (dV kV doc pm : Value) (an : Option Addr) (cdv ct : Value) (osl : Array (Option Value)) (p1 p2 q1 q2 q3 q4 : Pos),
    K.lookup fI = some ⟨oc, od, .func (fnOf "__init__" qual (tArgs p1 p2) (tBody q1 q2 q3 q4) tScope dV kV doc pm an cdv ct), osl⟩ ∧ codeIn K cdv qual = true ∧ dV = .none
/-- what a made one is -/
structure Made (h h' : Heap) (e C d : Addr) (v : Value) : Prop where
  keep : ∀ b o, h.get? b = some o → h'.get? b = some o
  new : h.objs.size ≤ e
  obj : ∃ oe vs, h'.get? e = some oe ∧ oe.cls = .ref C ∧ oe.dict = some d ∧ oe.data = .fields vs ∧ vs[1]? = some .none
  dbig : h.objs.size ≤ d
  dne : d ≠ e
  ns : h'.Ns1 d (fun y => if y = "deed" then some v else none)
section
variable {prog : Program} {w : World} {A : Around} {R : Result → Shared → Prop} {s : Shared} {K : Frag} {C fI : Addr} {qual : Str}
theorem inits (T : Txt K C fI qual) {x t0 : Addr} {v : Value} (X : K.In s.heap) (lim : s.heap.NoLimit) (hx : s.heap.get? x = some (excO C t0)) (room : A.depth < recursionLimit)
    (done : ∀ (h' : Heap) (tk : Nat) (dx : Addr), (∀ b o, b ≠ x → s.heap.get? b = some o → h'.get? b = some o) → h'.get? x = some { cls := .ref C, dict := some dx, data := .fields #[.ref t0, .none, .none, .none, .bool false, .none] } → s.heap.objs.size ≤ dx → dx ≠ x →
      h'.Ns1 dx (fun y => if y = "deed" then some v else none) → R (.ok (.ret .none)) { s with heap := h', toks := tk }) :
    codeAny (model prog w) A (.call (.ref fI) ⟨[.ref x, v], []⟩) R s := by
  obtain ⟨oc, od, dV, kV, doc, pm, an, cdv, ct, osl, p1, p2, q1, q2, q3, q4, lk, hcd, rfl⟩ := T.fn
  refine Att.call_fn (binds := [("self", .ref x), ("deed", v)]) X lim lk hcd room (BindsTo.of_eq (by first | rfl | with_unfolding_all rfl)) (by first | rfl | decide | with_unfolding_all rfl) (fun s1 IC => ?_) rfl rfl rfl
  obtain ⟨h1, tk1, rfl⟩ := IC.toInCall.same
  have keep : ∀ b o, s.heap.get? b = some o → h1.get? b = some o := IC.toInCall.keep
  have ns := IC.toInCall.ns
  show wpAny _ _ (execs _ _) _ _ _
  refine wpAny_execs_cons (plainObj_wpAny_Assign_Attribute ?_)
  refine ld_here (v := v) ns (by first | rfl | with_unfolding_all rfl | kernel_rfl) (ld_here (v := .ref x) ns (by first | rfl | with_unfolding_all rfl | kernel_rfl) ?_)
  refine set_plain (X.keeps keep) (ox := excO C t0) (od := none) ⟨keep _ _ hx, rfl, rfl, trivial⟩ T.key.sa ?_
  refine key_osa T.key (X.keeps keep) (keep _ _ hx) T.no (fun h3 tk3 dx k3 dn dne hx3 hn3 => ?_)
  show wpAny _ _ (execs _ _) _ _ _
  have z : s.heap.objs.size < h1.objs.size := ns.lt
  exact wpAny_execs_nil (done h3 tk3 dx (fun b o hb e => k3 b o hb (keep b o e)) hx3 (Nat.le_of_lt (Nat.lt_of_lt_of_le z dn)) dne hn3)
theorem makes (T : Txt K C fI qual) {v : Value} (X : K.In s.heap) (lim : s.heap.NoLimit) (room : A.depth + 1 < recursionLimit)
    (done : ∀ h' tk e d, Made s.heap h' e C d v → R (.ok (.ret (.ref e))) { s with heap := h', toks := tk }) : codeAny (model prog w) A (.call (.ref C) ⟨[v], []⟩) R s := by
  obtain ⟨nm, q, N, bs, sn, sub, ab, col, dd, k0, k1, k2, k3, k5, hC⟩ := T.key.cls
  obtain ⟨hp, gs, dr, tk, os⟩ := s
  have keep : ∀ b o, hp.get? b = some o → ((hp.push (kdv_tup [v])).push (excO C hp.objs.size)).get? b = some o := fun b o e => Heap.get?_push_of_some _ (Heap.get?_push_of_some _ e)
  have here : ((hp.push (kdv_tup [v])).push (excO C hp.objs.size)).get? (hp.objs.size + 1) = some (excO C hp.objs.size) := by heap_get
  refine key_call (X _ _ hC) (looks_findIn X T.ini) (fun self => bind_fn X self T.tyI) (one_fits v) ?_
  refine inits (s := ⟨(hp.push (kdv_tup [v])).push (excO C hp.objs.size), gs, dr, tk, os⟩) T (X.keeps keep) (lim.keeps keep) here ?_ fun h' tk' dx k' hx dn dne hns => ?_
  · show A.depth + 1 < recursionLimit
    exact room
  · have old : ∀ b o, hp.get? b = some o → h'.get? b = some o := fun b o e => k' b o (Nat.ne_of_lt (Nat.lt_succ_of_lt (Heap.lt_size e))) (keep b o e)
    have z : hp.objs.size + 1 + 1 ≤ dx := by
      have q := dn
      simp only [Heap.size_push] at q
      exact q
    exact ⟨rfl, done h' tk' (hp.objs.size + 1) dx ⟨old, Nat.le_succ _, ⟨_, _, hx, rfl, rfl, rfl, rfl⟩, Nat.le_trans (Nat.le_trans (Nat.le_succ _) (Nat.le_succ _)) z, dne, hns⟩⟩
end
end KD
end Kx
namespace Kx
namespace KD
open L2 PySem PySem.Spec PyProof.Rows
theorem rel_one {v : V} {v' : Value} (r : RelV v v') (y : Str) : RelO (List.lookup y [(("deed" : Str), v)]) (if y = "deed" then some v' else none) := by
  rw [lookup_put]
  by_cases h : y = "deed"
  · rw [if_pos h, if_pos h]
    exact r
  · rw [if_neg h, if_neg h]
    trivial
section
variable {X : Cx} {C fI : Addr} {qual x : Str}
/-- C(e) -/
def tMk (C : Addr) (ta : TA) : L2.St → Hp → XK → Prop := fun σ H Q => ta σ H fun vs H1 => ∃ v, vs = [v] ∧ ∀ d, H1 d = none → Q (.ref C) (some d) (upd H1 d (.xd [(("deed" : Str), v)]))
theorem pmk {a : Expr} {ta : TA} {p pos : Pos} {k : Nat} (T : Txt X.K C fI qual) (at_ : X.mg x = some (.ref C)) (hr : Room k X.A) (ha : PA X [a] ta) (hg : Gl X x) (hdb : (x == ("__debug__" : Str)) = false)
    (he : starEach (a :: []) X.env = (false, eval a X.env) :: starEach [] X.env) (hpl : (backTo pos (starEach [] X.env)).any (·.1) = false) : PMk X (.Call (.Name x p) [a] [] pos) (tMk C ta) := by
  intro pins s σ H Q I h
  refine wpAny_Call_Name_kw (ld_glob I hg at_ ?_ hdb)
  refine PySem.W.callWith_K (h₀ := X.base) I.ok.mod.kin T.key.kC (thn (ha.run pos pins s σ H _ I h) fun us s1 hh => ?_) he hpl
  obtain ⟨vs, H1, I1, r1, v, ev, q1⟩ := hh
  subst ev
  refine ⟨I1.kIn, ?_⟩
  obtain ⟨v', rfl, rv⟩ := vals1 r1
  show wpAny _ _ (call (.ref C) [v']) _ _ _
  have lim := I1.nolimit
  obtain ⟨hp, gs, dr, tk, os⟩ := s1
  refine wpAny_call (makes T I1.kIn lim (by have := hr.dp; omega) fun h' tk' e d M => ?_)
  show MkP X pins σ Q (.ref e) ⟨h', gs, dr, tk', os⟩
  obtain ⟨oe, fv, hoe, hc, hd, hdat, h1⟩ := M.obj
  have hns := M.ns
  obtain ⟨G, g1, g2⟩ := restrict h' fun b => decide (b ≠ e)
  have gk : ∀ b, b ≠ e → G.get? b = h'.get? b := fun b hb => g1 b (decide_eq_true hb)
  have ge : G.get? e = none := g2 e (by simp)
  have old : ∀ b o, hp.get? b = some o → G.get? b = some o := fun b o q => (gk b (Nat.ne_of_lt (Nat.lt_of_lt_of_le (Heap.lt_size q) M.new))).trans (M.keep b o q)
  have ob : ObjOk X.prog X.w (upd H1 d (.xd [(("deed" : Str), v)])) G d (.xd [(("deed" : Str), v)]) := ⟨_, hns.at (fun o q => (gk d M.dne).trans q), fun y => rel_one rv y⟩
  have J : Inv X pins σ (upd H1 d (.xd [(("deed" : Str), v)])) ⟨G, gs, dr, tk', os⟩ := I1.laid (t' := tk') old M.dbig ob
  refine ⟨e, oe, fv, ⟨G, gs, dr, tk', os⟩, _, .ref C, some d, rfl, J, fun b o q => ?_, ge, hoe, ⟨hc, hd⟩, hdat, h1, ?_, rfl, I1.bare, raises_own T.key.exC T.key.tyC, q1 d (I1.hok.fresh M.dbig)⟩
  · by_cases hb : b = e
    · have q' : G.get? b = some o := q
      rw [hb, ge] at q'
      cases q'
    · exact (gk b hb).symm.trans q
  · rw [upd_ne (Ne.symm M.dne)]
    exact I1.hok.fresh M.new
/-- raise C(e) -/
theorem ps_throw {a : Expr} {ta : TA} {W : WX} {p pos p2 : Pos} {k : Nat} (T : Txt X.K C fI qual) (at_ : X.mg x = some (.ref C)) (hc : X.calm = true) (hr : Room k X.A) (tk : Takes X W) (ha : PA X [a] ta) (hg : Gl X x := by rfl) (hdb : (x == ("__debug__" : Str)) = false := by decide)
    (he : starEach (a :: []) X.env = (false, eval a X.env) :: starEach [] X.env := by rfl) (hpl : (backTo pos (starEach [] X.env)).any (·.1) = false := by rfl) :
    PS X (.Raise (some (.Call (.Name x p) [a] [] pos)) none p2) (fun _ σ H => tMk C ta σ H fun cls d H' => W cls d σ H') := ps_raise hc tk (pmk T at_ hr ha hg hdb he hpl)
end
end KD
end Kx
/-! tuples of the same things compared; isinstance of a caught error that has a field; "0" times a number; calls with keywords alone. -/
namespace Kx
open L2 PySem PySem.Spec PyProof.Rows
/-- two tuples that hold, place by place, the same flat thing or the same object -/
def rSame (K : PySem.W.Frag) (b : Bool) : R2 := fun x y H Q => ∃ (p q : Addr) (xs : List V), x = .ref p ∧ y = .ref q ∧ SqT K H p xs ∧ SqT K H q xs ∧ (∀ v ∈ xs, flatB v = true ∨ ∃ c, v = .ref c) ∧ Q (.bl b) H
theorem same_at {A : Around} {s : Shared} : ∀ {xs : List V} {us ws : List Value}, (∀ v ∈ xs, flatB v = true ∨ ∃ c, v = .ref c) → Vals xs us → Vals xs ws → ∀ j (h1 : j < us.length) (h2 : j < ws.length), SeqAt.EqAt A s us[j] ws[j] true
  | [], _, _, _, .nil, .nil, _, h1, _ => absurd h1 (Nat.not_lt_zero _)
  | x :: xs, _, _, f, .cons r1 k1, .cons r2 k2, 0, _, _ => by
    rcases f x List.mem_cons_self with h | ⟨c, rfl⟩
    · exact eqAt_same r1 r2 h
    · cases r1
      cases r2
      exact SeqAt.EqAt.same _
  | x :: xs, _, _, f, .cons r1 k1, .cons r2 k2, j + 1, h1, h2 => same_at (fun v hv => f v (List.mem_cons_of_mem _ hv)) k1 k2 j (Nat.lt_of_succ_lt_succ h1) (Nat.lt_of_succ_lt_succ h2)
theorem all_range (n : Nat) : ((List.range n).all fun _ => true) = true := List.all_eq_true.mpr fun _ _ => rfl
section
variable {X : Cx}
theorem op_eqSame (hu : X.A.units + 64 < cLine) : OpR X (compareOp .Eq) (rSame X.K true) := by
  intro pins st σ H x y v u Q I rx ry h
  obtain ⟨p, q, xs, rfl, rfl, h1, h2, f, k⟩ := h
  cases rx
  cases ry
  obtain ⟨us, r1, t1, _⟩ := I.tuple h1
  obtain ⟨ws, r2, t2, _⟩ := I.tuple h2
  have e : us.toArray.size = ws.toArray.size := by simp only [List.size_toArray]; rw [← r1.length, ← r2.length]
  refine SeqAt.RcAt.tuples (e := fun _ => true) t1 t2 (by omega) (fun j a1 a2 => ?_) _ _ _ _ ?_
  · simpa using same_at f r1 r2 j (by simpa using a1) (by simpa using a2)
  · rw [all_range, e, beq_self_eq_true]
    exact ⟨.bl true, H, I, rfl, k⟩
theorem op_neSame (hu : X.A.units + 64 < cLine) : OpR X (compareOp .NotEq) (rSame X.K false) := by
  intro pins st σ H x y v u Q I rx ry h
  obtain ⟨p, q, xs, rfl, rfl, h1, h2, f, k⟩ := h
  cases rx
  cases ry
  obtain ⟨us, r1, t1, _⟩ := I.tuple h1
  obtain ⟨ws, r2, t2, _⟩ := I.tuple h2
  have e : us.toArray.size = ws.toArray.size := by simp only [List.size_toArray]; rw [← r1.length, ← r2.length]
  refine SeqAt.RcNeAt.tuples (e := fun _ => true) t1 t2 (by omega) (fun j a1 a2 => ?_) _ _ _ _ ?_
  · simpa using same_at f r1 r2 j (by simpa using a1) (by simpa using a2)
  · rw [all_range, e, beq_self_eq_true]
    exact ⟨.bl false, H, I, rfl, k⟩
/-- isinstance(e, c), e the error that the suite holds, its own dict at d -/
theorem call_isEd {a D d : Addr} {oe : Obj} {pn : List (Addr × Obj)} (C : ExcC X.K D) (hz : Zc (.ref D) (some d) oe) (hf : ∃ vs, oe.data = .fields vs) :
    CallR (X.suite a ((a, oe) :: pn)) (.builtin "isinstance") (fun xs H Q => (∃ fs, H d = some (.xd fs)) ∧ rIsE X.K D a xs H Q) := by
  rintro pins s σ H xs us Q I r h
  obtain ⟨⟨fs, hd⟩, c, cv, b, rfl, hcv, e, q⟩ := h
  cases r with
  | cons rx rr =>
    cases rr with
    | cons rt rr =>
      cases rr
      cases rx
      have ec := hcv _ rt
      subst ec
      obtain ⟨hget, -⟩ := I.pin (a, oe) (List.mem_append.mpr (.inl List.mem_cons_self))
      obtain ⟨vs, hv⟩ := hf
      obtain ⟨mA, hns, _⟩ := (show ObjOk X.prog X.w H s.heap d (.xd fs) from I.hok d _ hd)
      obtain ⟨od, ho, _⟩ := lookIn_ns hns
      have J : PySem.W.InstAt s.heap a oe D (some od) := by
        obtain ⟨oc, od', oda, osl⟩ := oe
        obtain ⟨h1, h2⟩ := hz
        dsimp only at h1 h2 hv
        subst h1 h2 hv
        exact ⟨hget, rfl, rfl, ho⟩
      have cl : (PySem.W.clsIn X.K D).isSome = true := by
        obtain ⟨cd, hc, _⟩ := PySem.W.any_some C.hd
        rw [hc]
        rfl
      exact PySem.W.kia_one (PySem.W.kitx_exc cl C.hg C.hk C.hs C.ha C.hn C.ht C.hm) I.kIn J e (fun z => nomatch z) fun tk => ⟨.bl b, H, I.kept (t' := tk) fun _ _ z => z, rfl, q⟩
/-! ### "0" * k -/
def noughts : Nat → Str
  | 1 => "0"
  | 2 => "00"
  | 3 => "000"
  | _ => "0000"
theorem op_noughts : OpR X (binaryOp .Mult) (fun x y H Q => ∃ k : Nat, x = .str "0" ∧ y = .int (k : Int) ∧ 1 ≤ k ∧ k ≤ 4 ∧ Q (.str (noughts k)) H) := by
  intro pins st σ H x y v u Q I rx ry h
  obtain ⟨k, rfl, rfl, k1, k4, q⟩ := h
  obtain ⟨t, rfl⟩ := (show ∃ t, v = Value.str "0" t from rx)
  obtain ⟨t2, rfl⟩ := (show ∃ t, u = Value.int (k : Int) t from ry)
  have cases_ : k = 1 ∨ k = 2 ∨ k = 3 ∨ k = 4 := by omega
  have fin : ∀ (z : Str) (tk tk2 : Nat), z = noughts k → EP X pins σ Q (.str z tk) { st with toks := tk2 } := fun z tk tk2 e => by
    subst e
    exact ⟨.str (noughts k), H, I.kept (t' := tk2) fun _ _ z => z, ⟨tk, rfl⟩, q⟩
  refine P.mul_str ?_ ?_ ?_ ?_
  · rcases cases_ with rfl | rfl | rfl | rfl <;> decide +kernel
  · rcases cases_ with rfl | rfl | rfl | rfl <;> decide +kernel
  · rcases cases_ with rfl | rfl | rfl | rfl <;> decide +kernel
  · rcases cases_ with rfl | rfl | rfl | rfl
    · rw [if_neg (by decide), if_pos (by decide +kernel)]
      exact ⟨.str (noughts 1), H, I, ⟨t, rfl⟩, q⟩
    · rw [if_neg (by decide), if_neg (by decide +kernel)]
      exact ⟨by decide +kernel, fin _ _ _ (by decide +kernel)⟩
    · rw [if_neg (by decide), if_neg (by decide +kernel)]
      exact ⟨by decide +kernel, fin _ _ _ (by decide +kernel)⟩
    · rw [if_neg (by decide), if_neg (by decide +kernel)]
      exact ⟨by decide +kernel, fin _ _ _ (by decide +kernel)⟩
end
/-! ### calls with keywords -/
structure CalN (P : Program) (w : World) (K : PySem.W.Frag) (mg : Str → Option Value) (base : Heap) (CX : CXT) (k n : Nat) (x : Str) (ps ks : List Str) (gV : List V → List V → List V) (sp : Sp) : Prop where
  ex : ∃ (f : Addr) (fd : FuncData) (g : List Value → List Value → List Value), mg x = some (.ref f) ∧ PySem.W.keepIn K (.ref f) = true ∧ KBn K fd ps n ks g gV ∧ FnOk P w K mg base CX k f fd ps sp
section
variable {X : Cx} {CX : CXT} {k j n : Nat} {x : Str} {ps ks : List Str} {gV : List V → List V → List V} {sp : Sp} {e : Expr} {es : List Expr} {kws : List Keyword} {t tk : TA} {E : XK} {p pos : Pos}
theorem pe_callN0 (c : CalN X.prog X.w X.K X.mg X.base CX k 0 x ps ks gV sp) (hr : Room j X.A) (hx : Passes CX X E) (hkw : PK X kws tk) (hk : k ≤ j := by decide) (hg : Gl X x := by rfl)
    (hal : (backToKw pos (keywordEach kws X.env)).all (·.1.isSome) = true := by rfl) (hky : (backToKw pos (keywordEach kws X.env)).filterMap (·.1) = ks := by rfl) (hdb : (x == ("__debug__" : Str)) = false := by decide)
    (hnp : ((backTo pos (starEach [] X.env)).any (·.1) || (backToKw pos (keywordEach kws X.env)).any (·.1.isNone)) = false := by rfl) :
    PE X (.Call (.Name x p) [] kws pos) (tCallN 0 ks.length sp gV E tNil tk) := by
  obtain ⟨f, fd, g, h1, h2, h3, h4⟩ := c.ex
  refine ⟨fun pins s σ H Q I h => wpAny_Call_Name_kw (ld_glob I hg h1 ?_ hdb)⟩
  refine PySem.W.callWith_KW0 (h₀ := X.base) I.ok.mod.kin h2 hal ?_ hnp
  refine thn (hkw.run pos pins s σ H _ I h) fun ws s2 ⟨zs, H2, I2, rz, _, l2, q2⟩ => ⟨I2.kIn, ?_⟩
  rw [hky]
  exact run_fnN (us := []) (vs := []) h4 (hr.mono hk) h3 hx I2 .nil rz rfl l2 q2
theorem pe_callNn (c : CalN X.prog X.w X.K X.mg X.base CX k n x ps ks gV sp) (hr : Room j X.A) (hx : Passes CX X E) (ha : PA X (e :: es) t) (hkw : PK X kws tk) (hk : k ≤ j := by decide) (hg : Gl X x := by rfl)
    (hal : (backToKw pos (keywordEach kws X.env)).all (·.1.isSome) = true := by rfl) (hky : (backToKw pos (keywordEach kws X.env)).filterMap (·.1) = ks := by rfl) (hdb : (x == ("__debug__" : Str)) = false := by decide)
    (he : starEach (e :: es) X.env = (false, eval e X.env) :: starEach es X.env := by rfl)
    (hnp : ((backTo pos (starEach (e :: es) X.env)).any (·.1) || (backToKw pos (keywordEach kws X.env)).any (·.1.isNone)) = false := by rfl) : PE X (.Call (.Name x p) (e :: es) kws pos) (tCallN n ks.length sp gV E t tk) := by
  obtain ⟨f, fd, g, h1, h2, h3, h4⟩ := c.ex
  exact pe_callN h4 (hr.mono hk) hg h1 h2 h3 hx ha hkw hal hky hdb he hnp
end
end Kx
/-! exceptions held as values: their class asked, their fields read. -/
namespace Kx
open L2 PySem PySem.Spec PyProof.Rows
/-- an exception stands at a: its class C, its dict at d -/
def IsEv (a C d : Addr) (h : Heap) : Prop := ∃ (ob : Obj) (ws : Array Value), h.get? a = some ob ∧ Zc (.ref C) (some d) ob ∧ ob.data = .fields ws
structure EvAt (H : Hp) (a C d : Addr) (fs : List (Str × V)) : Prop where
  ob : ∃ φ : Heap → Prop, H a = some (.ext φ) ∧ ∀ h, φ h → IsEv a C d h
  di : H d = some (.xd fs) ∨ H d = some (exd d fs)
theorem EvAt.same {H H' : Hp} {a C d : Addr} {fs : List (Str × V)} (e : Same H H') (h : EvAt H a C d fs) : EvAt H' a C d fs := by
  obtain ⟨⟨φ, h1, h2⟩, h3⟩ := h
  exact ⟨⟨φ, e _ _ h1, h2⟩, h3.imp (e _ _) (e _ _)⟩
theorem exo_ev {H : Hp} {a C d : Addr} {fs : List (Str × V)} (h1 : H a = some (exo a C (some d))) (h2 : H d = some (exd d fs)) : EvAt H a C d fs :=
  ⟨⟨_, h1, fun h ⟨t, q⟩ => ⟨_, _, q, ⟨rfl, rfl⟩, rfl⟩⟩, .inr h2⟩
section
variable {X : Cx} {pins : List (Addr × Obj)} {σ : L2.St} {H : Hp} {s : Shared} {a C d : Addr} {fs : List (Str × V)}
theorem EvAt.there (E : EvAt H a C d fs) (I : Inv X pins σ H s) : IsEv a C d s.heap ∧ ∃ mA, s.heap.Ns1 d mA ∧ ∀ f, RelO (fs.lookup f) (mA f) := by
  obtain ⟨⟨φ, h1, h2⟩, h3⟩ := E
  refine ⟨h2 _ (show ObjOk X.prog X.w H s.heap a (.ext φ) from I.hok a _ h1).1, ?_⟩
  rcases h3 with h3 | h3
  · obtain ⟨mA, z, r⟩ := (show ObjOk X.prog X.w H s.heap d (.xd fs) from I.hok d _ h3)
    exact ⟨mA, z, r⟩
  · exact exd_at I.hok h3
end
/-- isinstance(e, c) of such a value -/
def rIsV (K : PySem.W.Frag) : List V → Hp → VK → Prop := fun xs H Q => ∃ (a D d : Addr) (fs : List (Str × V)) (c : V) (cv : Value) (b : Bool), xs = [.ref a, c] ∧ EvAt H a D d fs ∧ ExcC K D ∧ (∀ u, RelV c u → u = cv) ∧ PySem.W.kitOne K (.ref D) cv = some b ∧ Q (.bl b) H
theorem call_isV {X : Cx} : CallR X (.builtin "isinstance") (rIsV X.K) := by
  rintro pins s σ H xs us Q I r ⟨a, D, d, fs, c, cv, b, rfl, E, C, hcv, e, q⟩
  obtain ⟨⟨ob, ws, h1, h2, h3⟩, mA, hns, _⟩ := E.there I
  cases r with
  | cons rx rr =>
    cases rr with
    | cons rt rr =>
      cases rr
      cases rx
      obtain rfl := hcv _ rt
      obtain ⟨od, ho, _⟩ := lookIn_ns hns
      have J : PySem.W.InstAt s.heap a ob D (some od) := by
        obtain ⟨c1, c2, c3, c4⟩ := ob
        obtain ⟨z1, z2⟩ := h2
        dsimp only at z1 z2 h3
        subst z1 z2 h3
        exact ⟨h1, rfl, rfl, ho⟩
      have cl : (PySem.W.clsIn X.K D).isSome = true := by
        obtain ⟨cd, hc, _⟩ := PySem.W.any_some C.hd
        rw [hc]
        rfl
      exact PySem.W.kia_one (PySem.W.kitx_exc cl C.hg C.hk C.hs C.ha C.hn C.ht C.hm) I.kIn J e (fun z => nomatch z) fun tk => ⟨.bl b, H, I.kept (t' := tk) fun _ _ z => z, rfl, q⟩
/-- e.f of such a value -/
def tEv (K : PySem.W.Frag) (f : Str) (te : TE) : TE := fun σ H Q => te σ H fun x H1 => ∃ (a D d : Addr) (fs : List (Str × V)) (v : V), x = .ref a ∧ EvAt H1 a D d fs ∧ XfC K D ∧ PySem.W.findIn K (.ref D) f = some none ∧ fs.lookup f = some v ∧ Q v H1
theorem pe_ev {X : Cx} {e : Expr} {te : TE} {pos : Pos} {n : Str} (he : PE X e te) (hb : attributeBase e n X.env (eval e X.env) = eval e X.env := by rfl) : PE X (.Attribute e n pos) (tEv X.K n te) := by
  refine ⟨fun pins s σ H Q I h => attr_of hb (thn (he.run pins s σ H _ I h) fun u s1 hh => ?_)⟩
  obtain ⟨x, H1, I1, rx, a, D, d, fs, v, rfl, E, T, no, l, q⟩ := hh
  obtain rfl := (show u = Value.ref a from rx)
  obtain ⟨⟨ob, ws, h1, h2, h3⟩, mA, hns, hr⟩ := E.there I1
  obtain ⟨od, hod, hlk⟩ := lookIn_ns hns
  obtain ⟨u, hu, ru⟩ := RelO.some_of (v := v) (o := mA n) (l ▸ hr n)
  have J : PySem.W.InstAt s1.heap a ob D (some od) := ⟨h1, h2.1, by unfold PySem.W.notCls; rw [h3] <;> rfl, by rw [h2.2]; exact hod⟩
  exact HandSPX.exc_get I1.kIn J T.ga T.gg T.exC (PySem.W.findObj_own T.hdC no rfl (by rw [hlk, hu])) (handed_of ru) ⟨v, H1, I1.tok _, ru, q⟩
end Kx
/-! own exceptions are made: by place, by name. -/
namespace Kx
open PySem PySem.W PySem.Calls PyProof.Rows PySem.HandSPX
/-- what the written part holds of such a class -/
structure EvC (K : Frag) (C : Addr) : Prop where
  cls : ∃ (B newId initId : String) (up : List Value) (nm q : Str) (N : Addr) (bs bm : List Value) (sn : List Str) (sub : List Value) (ab : Bool) (col : Option Bool) (dd : Option Addr) (k0 k1 k2 k3 k5 : Option Value),
    ExcBaseFacts B newId initId up ∧ K.lookup C = some (excClassObj nm q C N bs bm true sn sub ab col dd k0 k1 k2 k3 k5 newId) ∧ (Value.ref C :: bm).contains (.type B) = true ∧ (Value.ref C :: bm).contains (.type "AttributeError") = false ∧ (Value.ref C :: bm).contains (.type "NameError") = false
  exC : subIn K (.ref C) (.type "BaseException") = some true
  tyC : typeIn K (.ref C) = some (.type "type")
  kC : keepIn K (.ref C) = true
section
variable {h : Heap} {g : Array GenState} {d : Drawn} {t : Nat} {os : OsState} {prog : Program} {w : World} {A : Around} {R : Result → Shared → Prop} {E : Value → Shared → Prop}
variable {B newId initId : String} {up : List Value} {nm q : Str} {C N : Addr} {bs bm : List Value} {sn : List Str} {sub : List Value} {ab : Bool} {col : Option Bool} {dd : Option Addr} {k0 k1 k2 k3 k5 : Option Value} {more : List Value} {kw : List (Str × Value)}
theorem ev_check {M : Model} {Q : Unit → Shared → Prop} (F : ExcBaseFacts B newId initId up) (stands : h.get? C = some (excClassObj nm q C N bs bm true sn sub ab col dd k0 k1 k2 k3 k5 newId)) (isB : (Value.ref C :: bm).contains (.type B) = true) (done : Q () ⟨h, g, d, t, os⟩) :
    wpAny M A (checkBuiltinCall newId ⟨.ref C :: more, kw⟩) Q E ⟨h, g, d, t, os⟩ := by
  have short := F.noStar
  simp only [checkBuiltinCall, F.newSplit, F.newKind, F.newRow]
  repeat (first
    | refine wpAny_loadPart_at stands ?_
    | (refine wpAny_isSubtype_exc stands ?_; rw [isB])
    | refine wpAny_staticBase_exc stands ?_
    | refine wpAny_madeBy_exc stands ?_
    | simp only [bne_self_eq_false, Bool.false_eq_true, if_false]
    | wp_step)
  exact done
theorem ev_new (F : ExcBaseFacts B newId initId up) (stands : h.get? C = some (excClassObj nm q C N bs bm true sn sub ab col dd k0 k1 k2 k3 k5 newId)) (isB : (Value.ref C :: bm).contains (.type B) = true) (noA : (Value.ref C :: bm).contains (.type "AttributeError") = false) (noN : (Value.ref C :: bm).contains (.type "NameError") = false)
    (fits : more.length ≤ sizeLine) (done : R (.ok (.ret (.ref (h.objs.size + 1)))) ⟨(h.push (kdv_tup more)).push (excO C h.objs.size), g, d, t, os⟩) : codeAny (model prog w) A (.builtin newId ⟨.ref C :: more, kw⟩) R ⟨h, g, d, t, os⟩ := by
  have ends := F.ends
  refine codeAny_builtinAt F.entry ?_; unfold Builtin.«BaseException.__new__»; refine PySem.wpAt_bind ?_
  show PySem.wpAt _ _ _ (stack >>= _) _ _ _
  refine PySem.wpAt_bind (PySem.wpAt_stack fun _ _ => PySem.wpAt_of_wpAny ?_)
  wp_walk
  refine PySem.wpAt_of_wpAny ?_
  rw [F.owner]
  repeat (first
    | with_reducible refine wpAny_madeHere_exc F.canon stands ?_
    | with_reducible refine wpAny_loadPart_at stands ?_
    | (with_reducible refine wpAny_isSubtype_exc stands ?_; first | rw [isB] | rw [noA] | rw [noN])
    | wp_step)
  show R _ _
  rw [Heap.size_push]
  exact done
theorem ev_called {fI : Addr} (F : ExcBaseFacts B newId initId up) (stands : h.get? C = some (excClassObj nm q C N bs bm true sn sub ab col dd k0 k1 k2 k3 k5 newId)) (isB : (Value.ref C :: bm).contains (.type B) = true) (noA : (Value.ref C :: bm).contains (.type "AttributeError") = false) (noN : (Value.ref C :: bm).contains (.type "NameError") = false)
    (hi : Looks (model prog w) h (typeLookup (.ref C) "__init__") (some (.ref fI))) (hb : ∀ self, Looks (model prog w) h (bindSpecial (.ref fI) self) (.ref fI, [self])) (fits : more.length ≤ sizeLine)
    (done : codeAny (model prog w) (A.under (.builtin "type.__call__" ⟨.ref C :: more, kw⟩)) (.call (.ref fI) ⟨.ref (h.objs.size + 1) :: more, kw⟩) (InitBack (h.objs.size + 1) R) ⟨(h.push (kdv_tup more)).push (excO C h.objs.size), g, d, t, os⟩) :
    codeAny (model prog w) A (.call (.ref C) ⟨more, kw⟩) R ⟨h, g, d, t, os⟩ := by
  have l1 := tc_lookup
  have l2 := tc_bind (.ref C)
  have isTy : (⟨h, g, d, t, os⟩ : Shared).TypeIs (.ref C) "type" := ⟨_, stands, rfl⟩
  have all : ∀ b o, h.get? b = some o → ((h.push (kdv_tup more)).push (excO C h.objs.size)).get? b = some o := fun b o z => Heap.get?_push_of_some _ (Heap.get?_push_of_some _ z)
  refine codeAny_of_tree ?_
  show wpAny _ _ (callAny (.ref C) _) _ _ _; repeat (any_goals (first | assumption | with_reducible refine wpAny_loadPart_at stands ?_ | wp_step))
  refine ⟨rfl, ?_⟩
  refine codeAny_call_builtin_at (Code.quiet_builtin _ (by decide +kernel)) entry_typeCall (wpAny_check_type_call_sub stands ?_)
  repeat (first | with_reducible refine wpAny_loadPart_at stands ?_ | with_reducible refine wpAny_madeBy_exc stands ?_ | wp_step)
  refine codeAny_call_builtin_code (Code.quiet_builtin _ F.quiet) (ev_check F stands isB (ev_new F stands isB noA noN fits ?_))
  show wpAny _ _ _ _ _ _
  have hC1 := all _ _ stands
  have made : ((h.push (kdv_tup more)).push (excO C h.objs.size)).get? (h.objs.size + 1) = some (excO C h.objs.size) := by heap_get
  have own : (Value.ref C :: bm).contains (.ref C) = true := by simp
  have i1 := hi.keeps all
  have b1 := (hb (.ref (h.objs.size + 1))).keeps all
  unfold isInstance
  repeat (first | with_reducible refine wpAny_loadPart_at made ?_ | wp_step)
  show wpAny _ _ (isSubtype (.ref C) (.ref C)) _ _ ⟨(h.push (kdv_tup more)).push (excO C h.objs.size), g, d, t, os⟩
  refine wpAny_isSubtype_exc hC1 ?_
  rw [own]
  repeat wp_step
  show wpAny _ _ (typeLookup (.ref C) _) _ _ _; refine i1.at (wpAny_holding (wpAny_bind (b1.at (wpAny_bind (wpAny_call (codeAny_mono done fun r s' z => ?_))))))
  match r, z with
  | .error _, z => exact z
  | .ok .next, z => exact z.elim
  | .ok .brk, z => exact z.elim
  | .ok .cont, z => exact z.elim
  | .ok (.ret _), ⟨e1, z⟩ =>
    subst e1
    first | (wp_walk; exact z) | exact wpAny_pure (wpAny_pure z)
end
end Kx
/-! own exceptions as values; raised, their context None. -/
namespace Kx
open L2 PySem PySem.Spec PyProof.Rows
theorem EvC.of {K : PySem.W.Frag} {C : Addr} (T : OexC K C) : EvC K C := by
  obtain ⟨nm, q, N, bs, bm, sn, sub, ab, col, dd, v0, v1, v2, v3, v5, hC, hbm⟩ := T.cls
  have has := fun Y => PySem.HandSPX.refsVE_contains Y bm hbm
  refine ⟨⟨_, _, _, _, nm, q, N, bs, bm, sn, sub, ab, col, dd, v0, v1, v2, v3, v5, F.excBase_ValueError, hC, ?_, ?_, ?_⟩, T.exC, T.tyC, T.kC⟩
  · rw [List.contains_cons, has, F.excBase_ValueError.hasB, Bool.or_true]
  · rw [List.contains_cons, has, F.excBase_ValueError.noAttr]
    rfl
  · rw [List.contains_cons, has, F.excBase_ValueError.noName]
    rfl
theorem EvC.ofKey {K : PySem.W.Frag} {C : Addr} (T : KeyC K C) : EvC K C := by
  obtain ⟨nm, q, N, bs, sn, sub, ab, col, dd, k0, k1, k2, k3, k5, hC⟩ := T.cls
  exact ⟨⟨_, _, _, _, nm, q, N, bs, keyTail, sn, sub, ab, col, dd, k0, k1, k2, k3, k5, F.excBase_LookupError, hC, in_tail (by decide +kernel), in_tail (by decide +kernel), in_tail (by decide +kernel)⟩, T.exC, T.tyC, T.kC⟩
/-- what a made one leaves: the state at the init's start, the init's end -/
def Born (X : Cx) (pins : List (Addr × Obj)) (σ : L2.St) (H : Hp) (C : Addr) (G : Addr → Hp → Prop) (s : Shared) (u : Value) (s' : Shared) : Prop :=
  ∃ (a : Addr) (h2 : Heap), u = .ref a ∧ s.heap.objs.size ≤ a ∧ H a = none ∧ (∀ b o, s.heap.get? b = some o → h2.get? b = some o) ∧ Inv X pins σ (upd H a (exo a C none)) { s with heap := h2 } ∧
    ∃ v, CE X.stack X.prog X.w (upd H a (exo a C none)) { s with heap := h2 } (fun y H2 => y = .non ∧ G a H2) v s'
section
variable {X : Cx} {pins : List (Addr × Obj)} {σ : L2.St} {H : Hp} {s : Shared} {C fI : Addr} {fd : FuncData} {ps ks : List Str} {sp : Sp} {k : Nat} {G : Addr → Hp → Prop}
theorem ev_run {us ws us2 : List Value} {vs2 : List V} (T : EvC X.K C) (iC : PySem.W.findIn X.K (.ref C) "__init__" = some (some (.ref fI))) (tI : PySem.W.typeIn X.K (.ref fI) = some (.type "function")) (F1 : FnOk X.prog X.w X.K X.mg X.base CX0 k fI fd ps sp) (hr : Room (k + 1) X.A) (I : Inv X pins σ H s)
    (hb : ∀ (s' : Shared) (a : Addr), X.K.In s'.heap → BindsTo s' fd ⟨.ref a :: us, ks.zip ws⟩ (ps.zip (.ref a :: us2))) (rel : Vals vs2 us2) (fits : us.length ≤ sizeLine)
    (h : ∀ a, H a = none → sp (.ref a :: vs2) (upd H a (exo a C none)) (fun y H2 => y = .non ∧ G a H2) (fun _ _ _ => False)) :
    wpAny (model X.prog X.w) X.A (call (.ref C) us (ks.zip ws)) (Born X pins σ H C G s) X.xe s := by
  obtain ⟨B, newId, initId, up, nm, q, N, bs, bm, sn, sub, ab, col, dd, k0, k1, k2, k3, k5, F, hC, isB, noA, noN⟩ := T.cls
  obtain ⟨hp, g, dr, tk, os⟩ := (s : Shared)
  have more : hp.objs.size ≤ hp.objs.size + 1 := Nat.le_succ _
  have hn : H (hp.objs.size + 1) = none := I.hok.fresh more
  have all : ∀ b o, hp.get? b = some o → ((hp.push (PySem.W.kdv_tup us)).push (PySem.HandSPX.excO C hp.objs.size)).get? b = some o := fun b o z => Heap.get?_push_of_some _ (Heap.get?_push_of_some _ z)
  have here : ((hp.push (PySem.W.kdv_tup us)).push (PySem.HandSPX.excO C hp.objs.size)).get? (hp.objs.size + 1) = some (PySem.HandSPX.excO C hp.objs.size) := by heap_get
  have J : Inv X pins σ (upd H (hp.objs.size + 1) (exo (hp.objs.size + 1) C none)) ⟨(hp.push (PySem.W.kdv_tup us)).push (PySem.HandSPX.excO C hp.objs.size), g, dr, tk, os⟩ :=
    I.laid (t' := tk) all more (exo_ok here)
  refine wpAny_call (ev_called F (I.kIn _ _ hC) isB noA noN (PySem.W.looks_findIn I.kIn iC) (fun self => PySem.W.bind_fn I.kIn self tI) fits
    (codeAny_mono (F1.run _ X.stack _ _ ⟨Value.ref (hp.objs.size + 1) :: us, ks.zip ws⟩ (Value.ref (hp.objs.size + 1) :: us2) _ _ (fun _ _ _ => False) (hr.make C us (ks.zip ws)) (J.env0.make C us (ks.zip ws)) (hb _ _ J.kIn) (show Vals (V.ref (hp.objs.size + 1) :: vs2) (Value.ref (hp.objs.size + 1) :: us2) from .cons rfl rel) (h _ hn)) fun r s' z => ?_))
  match r, z with
  | .error _, z => exact z.elim
  | .ok .next, z => exact z.elim
  | .ok .brk, z => exact z.elim
  | .ok .cont, z => exact z.elim
  | .ok (.ret u), z =>
    have rv : u = Value.none := by
      obtain ⟨v, H2, _, _, _, _, r, e, _⟩ := z
      subst e
      exact r
    exact ⟨rv, _, _, rfl, more, hn, all, J, _, z⟩
theorem Born.value {Q : VK} {u : Value} {s' : Shared} (b : Born X pins σ H C (fun a H2 => Q (.ref a) H2) s u s') : EP X pins σ Q u s' := by
  obtain ⟨a, h2, rfl, _, _, _, J, v, ce⟩ := b
  obtain ⟨y, H2, J2, _, _, q⟩ := J.after ce
  exact ⟨.ref a, H2, J2, rfl, q⟩
theorem Born.raised {Q : XK} {u : Value} {s' : Shared} (T : EvC X.K C) (I : Inv X pins σ H s)
    (b : Born X pins σ H C (fun a H2 => ∃ (d : Addr) (fs : List (Str × V)), H2 a = some (exo a C (some d)) ∧ H2 d = some (exd d fs) ∧ H d = none ∧ Q (.ref C) (some d) (upd (del H2 a) d (.xd fs))) s u s') : L2N.MkP X pins σ Q u s' := by
  obtain ⟨a, h2, rfl, ha, hn, all, J, v, ce⟩ := b
  obtain ⟨y, H2, os2, bare2, un2, hok2, rv, ev, d, fs, ea, ed, hd1, q⟩ := ce
  obtain ⟨hp, gz, dr, tk, os⟩ := s
  obtain ⟨h3, g3, d3, t3, os3⟩ := s'
  obtain ⟨t0, G, J2, kG, ge, hoe, na⟩ := mk_end0 (d2 := d3) (t2 := t3) I ha all un2 hok2 os2 bare2 ea ed hd1
  refine ⟨a, _, _, ⟨G, g3, d3, t3, os3⟩, _, .ref C, some d, rfl, J2, kG, ge, hoe, ⟨rfl, rfl, fun ws hw => ?_⟩, rfl, rfl, na, rfl, bare2, raises_own T.exC T.tyC, q⟩
  cases hw
  rfl
end
/-- C(e, ..): what the init is asked -/
def tBorn (C : Addr) (sp : Sp) (ta : TA) (P : Hp → Addr → Hp → (V → Hp → Prop) → Prop) : TE := fun σ H Q => ta σ H fun vs H1 => vs.length ≤ 1000 ∧ ∀ a, H1 a = none → sp (.ref a :: vs) (upd H1 a (exo a C none)) (fun y H2 => y = .non ∧ P H1 a H2 Q) (fun _ _ _ => False)
/-- C(e, ..) as a value -/
def tMkV (C : Addr) (sp : Sp) (ta : TA) : TE := fun σ H Q => ta σ H fun vs H1 => vs.length ≤ 1000 ∧ ∀ a, H1 a = none → sp (.ref a :: vs) (upd H1 a (exo a C none)) (fun y H2 => y = .non ∧ Q (.ref a) H2) (fun _ _ _ => False)
/-- C(k = e, ..) as a value -/
def tMkVK (C : Addr) (m : Nat) (sp : Sp) (gV : List V → List V) (tk : TA) : TE := fun σ H Q => tk σ H fun zs H1 => zs.length = m ∧ ∀ a, H1 a = none → sp (.ref a :: gV zs) (upd H1 a (exo a C none)) (fun y H2 => y = .non ∧ Q (.ref a) H2) (fun _ _ _ => False)
/-- C(e, ..), to be raised -/
def tMkN (C : Addr) (sp : Sp) (ta : TA) : L2.St → Hp → XK → Prop := fun σ H Q => ta σ H fun vs H1 => vs.length ≤ 1000 ∧ ∀ a, H1 a = none → sp (.ref a :: vs) (upd H1 a (exo a C none))
  (fun y H2 => y = .non ∧ ∃ (d : Addr) (fs : List (Str × V)), H2 a = some (exo a C (some d)) ∧ H2 d = some (exd d fs) ∧ H1 d = none ∧ Q (.ref C) (some d) (upd (del H2 a) d (.xd fs))) (fun _ _ _ => False)
section
variable {X : Cx} {C fI : Addr} {fd : FuncData} {ps ks : List Str} {sp : Sp} {k : Nat} {x : Str} {e : Expr} {es : List Expr} {kws : List Keyword} {ta tk : TA} {p pos : Pos}
theorem fits_of {vs : List V} {us : List Value} (r : Vals vs us) (h : vs.length ≤ 1000) : us.length ≤ sizeLine := by
  rw [← Paired.length r, sizeLine_eq]
  omega
theorem binds_all (hb : Binds X.K fd ps []) {us : List Value} (n : us.length + 1 = ps.length) (s' : Shared) (a : Addr) (z : X.K.In s'.heap) : BindsTo s' fd ⟨.ref a :: us, ([] : List Str).zip ([] : List Value)⟩ (ps.zip (.ref a :: us)) := by
  have b := hb s' (.ref a :: us) z (by rw [List.append_nil]; exact n)
  rw [List.append_nil] at b
  exact b
theorem pe_mkV (T : EvC X.K C) (iC : PySem.W.findIn X.K (.ref C) "__init__" = some (some (.ref fI))) (tI : PySem.W.typeIn X.K (.ref fI) = some (.type "function")) (F1 : FnOk X.prog X.w X.K X.mg X.base CX0 k fI fd ps sp) (hr : Room (k + 1) X.A) (hb : Binds X.K fd ps []) (hm : X.mg x = some (.ref C)) (ha : PA X (e :: es) ta) (hg : Gl X x := by rfl)
    (hdb : (x == ("__debug__" : Str)) = false := by decide) (he : starEach (e :: es) X.env = (false, eval e X.env) :: starEach es X.env := by rfl) (hpl : (backTo pos (starEach es X.env)).any (·.1) = false := by rfl) : PE X (.Call (.Name x p) (e :: es) [] pos) (tMkV C sp ta) := by
  refine ⟨fun pins s σ H Q I h => wpAny_Call_Name_kw (ld_glob I hg hm ?_ hdb)⟩
  refine PySem.W.callWith_K (h₀ := X.base) I.ok.mod.kin T.kC (thn (ha.run pos pins s σ H _ I h) fun us s1 ⟨vs, H1, I1, r1, hz, q⟩ => ⟨I1.kIn, ?_⟩) he hpl
  have n : us.length + 1 = ps.length := by
    have l1 := F1.len _ _ _ _ (q s1.heap.objs.size (I1.hok.fresh (Nat.le_refl _)))
    have l2 := Paired.length r1
    rw [List.length_cons] at l1
    omega
  exact wpAny_mono (ev_run (ks := []) (ws := []) (G := fun a H2 => Q (.ref a) H2) T iC tI F1 hr I1 (binds_all hb n) r1 (fits_of r1 hz) q) (fun _ _ z => z.value) fun _ _ z => z
theorem pe_mkVK {g : List Value → List Value} {gV : List V → List V} (T : EvC X.K C) (iC : PySem.W.findIn X.K (.ref C) "__init__" = some (some (.ref fI))) (tI : PySem.W.typeIn X.K (.ref fI) = some (.type "function")) (F1 : FnOk X.prog X.w X.K X.mg X.base CX0 k fI fd ps sp) (hr : Room (k + 1) X.A)
    (hb : ∀ (s' : Shared) (a : Addr) (ws : List Value), X.K.In s'.heap → ws.length = ks.length → BindsTo s' fd ⟨[.ref a], ks.zip ws⟩ (ps.zip (.ref a :: g ws))) (rel : ∀ {zs : List V} {ws : List Value}, Vals zs ws → Vals (gV zs) (g ws)) (hm : X.mg x = some (.ref C)) (hkw : PK X kws tk) (hg : Gl X x := by rfl)
    (hal : (backToKw pos (keywordEach kws X.env)).all (·.1.isSome) = true := by rfl) (hky : (backToKw pos (keywordEach kws X.env)).filterMap (·.1) = ks := by rfl) (hdb : (x == ("__debug__" : Str)) = false := by decide)
    (hnp : ((backTo pos (starEach [] X.env)).any (·.1) || (backToKw pos (keywordEach kws X.env)).any (·.1.isNone)) = false := by rfl) : PE X (.Call (.Name x p) [] kws pos) (tMkVK C ks.length sp gV tk) := by
  refine ⟨fun pins s σ H Q I h => wpAny_Call_Name_kw (ld_glob I hg hm ?_ hdb)⟩
  refine PySem.W.callWith_KW0 (h₀ := X.base) I.ok.mod.kin T.kC hal ?_ hnp
  refine thn (hkw.run pos pins s σ H _ I h) fun ws s2 ⟨zs, H2, I2, rz, l2, q⟩ => ⟨I2.kIn, ?_⟩
  rw [hky]
  exact wpAny_mono (ev_run (us := []) (G := fun a H3 => Q (.ref a) H3) T iC tI F1 hr I2 (fun s' a z => hb s' a ws z (rz.length.symm.trans l2)) (rel rz) (Nat.zero_le _) q) (fun _ _ z => z.value) fun _ _ z => z
theorem pmkN (T : EvC X.K C) (iC : PySem.W.findIn X.K (.ref C) "__init__" = some (some (.ref fI))) (tI : PySem.W.typeIn X.K (.ref fI) = some (.type "function")) (F1 : FnOk X.prog X.w X.K X.mg X.base CX0 k fI fd ps sp) (hr : Room (k + 1) X.A) (hb : Binds X.K fd ps []) (hm : X.mg x = some (.ref C)) (ha : PA X (e :: es) ta) (hg : Gl X x := by rfl)
    (hdb : (x == ("__debug__" : Str)) = false := by decide) (he : starEach (e :: es) X.env = (false, eval e X.env) :: starEach es X.env := by rfl) (hpl : (backTo pos (starEach es X.env)).any (·.1) = false := by rfl) : L2N.PMk X (.Call (.Name x p) (e :: es) [] pos) (tMkN C sp ta) := by
  intro pins s σ H Q I h
  refine wpAny_Call_Name_kw (ld_glob (X := X) I hg hm ?_ hdb)
  refine PySem.W.callWith_K (h₀ := X.base) I.ok.mod.kin T.kC (thn (ha.run pos pins s σ H _ I h) fun us s1 ⟨vs, H1, I1, r1, hz, q⟩ => ⟨I1.kIn, ?_⟩) he hpl
  have n : us.length + 1 = ps.length := by
    have l1 := F1.len _ _ _ _ (q s1.heap.objs.size (I1.hok.fresh (Nat.le_refl _)))
    have l2 := Paired.length r1
    rw [List.length_cons] at l1
    omega
  exact wpAny_mono (ev_run (ks := []) (ws := []) T iC tI F1 hr I1 (binds_all hb n) r1 (fits_of r1 hz) q) (fun _ _ z => z.raised T I1) fun _ _ z => z
end
end Kx
/-! own errors raised, their context None: of one field, over ValueError or KeyError; of three. -/
namespace Kx
open L2 PySem PySem.Spec PyProof.Rows
/-! ### self.f = v on an error over KeyError -/
section
variable {X : Cx} {pins : List (Addr × Obj)} {σ : L2.St} {H : Hp} {s : Shared} {a C dx : Addr} {f : Str} {y : V}
theorem inv_dict {h' : Heap} {t1 : Addr} {tk : Nat} {u : Value} (I : Inv X pins σ H s) (ha : H a = some (exo a C none)) (k : ∀ b o, b ≠ a → s.heap.get? b = some o → h'.get? b = some o) (dn : s.heap.objs.size ≤ dx) (dne : dx ≠ a)
    (hx : h'.get? a = some { cls := .ref C, dict := some dx, data := .fields #[.ref t1, .none, .none, .none, .bool false, .none] }) (hn : h'.Ns1 dx (fun z => if z = f then some u else none)) (ry : RelV y u) :
    H dx = none ∧ Inv X pins σ (upd (upd H dx (exd dx [(f, y)])) a (exo a C (some dx))) { s with heap := h', toks := tk } := by
  have free : H dx = none := I.hok.fresh dn
  have nd : ∀ {b : Addr} {o : Obj}, s.heap.get? b = some o → b ≠ dx := fun q => Nat.ne_of_lt (Nat.lt_of_lt_of_le (Heap.lt_size q) dn)
  have na : ∀ {b : Addr}, H b = none → b ≠ a := fun {b} n => by
    rintro rfl
    rw [ha] at n
    exact nomatch n
  have step : Un X.fs [] H (upd (upd H dx (exd dx [(f, y)])) a (exo a C (some dx))) s.heap h' := {
    keep := fun b ob q n _ _ => k b ob (na n) q
    slot := fun b ob q n _ _ => ⟨ob.slots, k b ob (na n) q⟩
    free := fun b ob q n _ => by rw [upd_ne (na n), upd_ne (nd q)]; exact n
    there := fun b o q _ => (Decidable.em (b = a)).elim (fun e => ⟨_, e ▸ hx⟩) fun e => ⟨o, k b o e q⟩
    tups := fun b xs q => by rw [upd_ne (at_ne ha q exo_tup), upd_ne (ne_of_none q free)]; exact q
    frzs := fun b o v q => by rw [upd_ne (at_ne ha q exo_frz), upd_ne (ne_of_none q free)]; exact q
    tbls := fun b ps q => ⟨#[], by rw [upd_ne (at_ne ha q exo_tbl), upd_ne (ne_of_none q free), q, Array.append_empty]⟩ }
  refine ⟨free, I.un (t' := tk) step fun b o q => ?_⟩
  by_cases ea : b = a
  · subst ea
    rw [upd_same] at q
    obtain rfl := Option.some.inj q
    exact exo_ok hx
  rw [upd_ne ea] at q
  by_cases ed : b = dx
  · subst ed
    rw [upd_same] at q
    obtain rfl := Option.some.inj q
    exact exd_ok hn (relO_put (fs := []) ry fun _ => True.intro)
  rw [upd_ne ed] at q
  refine (I.hok b o q).stay (fun c v hc z => k c v (hc.elim (fun e => e ▸ ea) fun hc => at_ne ha hc exo_own) z) (fun c hc => ?_) fun c xs hc => ?_
  · rw [upd_ne (at_ne ha hc exo_own), upd_ne (ne_of_none hc free)]
    exact hc
  · rw [upd_ne (at_ne ha hc exo_tup), upd_ne (ne_of_none hc free)]
    exact hc
end
/-- self.f = e -/
def tOstK (K : PySem.W.Frag) (f : Str) (to te : TE) : TS := fun D σ H => te σ H fun y H1 => to σ H1 fun x H2 => ∃ a C : Addr, x = .ref a ∧ KeyC K C ∧ PySem.W.findIn K (.ref C) f = some none ∧ H2 a = some (exo a C none) ∧
  ∀ dx, H2 dx = none → dx ≠ a → D.nx σ (upd (upd H2 dx (exd dx [(f, y)])) a (exo a C (some dx)))
theorem ps_ostK {X : Cx} {o e : Expr} {to te : TE} {f : Str} {p' pos : Pos} (ho : PE X o to) (he : PE X e te) (hs : swapsWith e (some (.Attribute o f p')) pos.line X.env = pure false := by rfl) : PS X (.Assign [.Attribute o f p'] e pos) (tOstK X.K f to te) := by
  refine ⟨fun pins s σ H D I h => plainObj_wpAny_Assign_Attribute (thn (he.run pins s σ H _ I h) fun v s1 ⟨y, H1, I1, r1, q1⟩ => thn (ho.run pins s1 σ H1 _ I1 q1) fun u s2 ⟨x, H2, I2, r2, a, C, ex, T, no, ha, q⟩ => ?_) hs⟩
  subst ex
  obtain rfl := (show u = Value.ref a from r2)
  obtain ⟨t1, hob⟩ := exo_at I2.hok ha
  obtain ⟨hp, gz, dr, tk, os⟩ := s2
  refine PySem.W.set_plain I2.kIn (ox := { cls := .ref C, dict := none, data := .fields #[.ref t1, .none, .none, .none, .bool false, .none] }) (od := none) ⟨hob, rfl, rfl, trivial⟩ T.sa (key_osa T I2.kIn hob no fun h' tk' dx k dn dne hx hn => ?_)
  obtain ⟨free, J⟩ := inv_dict (tk := tk') I2 ha k dn dne hx hn r1
  exact ⟨σ, _, J, q dx free dne⟩
theorem ok_keepK {P : Program} {w : World} {K : PySem.W.Frag} {mg : Str → Option Value} {base : Heap} {C fI : Addr} {fd : FuncData} {f qual : Str} {params : Arguments} {scope : Scope} {p1 p2 p3 p4 : Pos}
    (F : FunD K "__init__" qual params [.Assign [.Attribute (.Name "self" p1) f p2] (.Name f p3) p4] scope [] [] fI fd) (T : KeyC K C) (no : PySem.W.findIn K (.ref C) f = some none)
    (sc : FnScope ["self", f] ["self", f] scope) (hd : (f == ("__debug__" : Str)) = false) (hcd : (f == ("__classdict__" : Str)) = false) (l0 : scope.names.lookup ("self" : Str) = some .local) (l1 : scope.names.lookup f = some .local) :
    FnOk P w K mg base CX0 1 fI fd ["self", f] (spKeep K C f) := by
  refine F.ok sc (fun vs H Q E h => ?_) (fun cdv A outer s H vs Q E hr h => ?_)
  · obtain ⟨a, v, rfl, _⟩ := h
    rfl
  · obtain ⟨a, v, rfl, ha, k⟩ := h
    exact ⟨_, pss_one (ps_ostK (pe_var (i := 0) rfl (.inl l0)) (pe_var (i := 1) rfl (.inl l1) hd hcd)), _, rfl, _, rfl, a, C, rfl, T, no, ha, fun dx n1 n2 => k dx n1 n2⟩
/-! ### what the module holds of an error of one field, of whatever base -/
structure ErrN (P : Program) (w : World) (K : PySem.W.Frag) (mg : Str → Option Value) (base : Heap) (k : Nat) (x f : Str) (C : Addr) : Prop where
  at_ : mg x = some (.ref C)
  cls : EvC K C
  ini : ∃ (fI : Addr) (fd : FuncData), PySem.W.findIn K (.ref C) "__init__" = some (some (.ref fI)) ∧ PySem.W.typeIn K (.ref fI) = some (.type "function") ∧ Binds K fd ["self", f] [] ∧ FnOk P w K mg base CX0 k fI fd ["self", f] (spKeep K C f) ∧
    ∀ (s' : Shared) (a : Addr) (ws : List Value), K.In s'.heap → ws.length = 1 → BindsTo s' fd ⟨[.ref a], ([f] : List Str).zip ws⟩ ((["self", f] : List Str).zip (.ref a :: ws))
section
variable {X : Cx} {k j : Nat} {x f : Str} {C : Addr} {e : Expr} {ta : TA} {W : WX} {p pos p2 : Pos}
theorem psN (T : ErrN X.prog X.w X.K X.mg X.base k x f C) (hc : X.calm = true) (hr : Room j X.A) (tk : L2N.Takes X W) (ha : PA X [e] ta) (hk : k + 1 ≤ j := by decide) (hg : Gl X x := by rfl) (hdb : (x == ("__debug__" : Str)) = false := by decide)
    (he : starEach (e :: []) X.env = (false, eval e X.env) :: starEach [] X.env := by rfl) (hpl : (backTo pos (starEach [] X.env)).any (·.1) = false := by rfl) :
    PS X (.Raise (some (.Call (.Name x p) [e] [] pos)) none p2) (fun _ σ H => tMkN C (spKeep X.K C f) ta σ H fun cls d H' => W cls d σ H') := by
  obtain ⟨fI, fd, h1, h2, h3, h4, _⟩ := T.ini
  exact L2N.ps_raise hc tk (pmkN T.cls h1 h2 h4 (hr.mono hk) h3 T.at_ ha hg hdb he hpl)
/-- C(e) as a value -/
theorem peV (T : ErrN X.prog X.w X.K X.mg X.base k x f C) (hr : Room j X.A) (ha : PA X [e] ta) (hk : k + 1 ≤ j := by decide) (hg : Gl X x := by rfl) (hdb : (x == ("__debug__" : Str)) = false := by decide)
    (he : starEach (e :: []) X.env = (false, eval e X.env) :: starEach [] X.env := by rfl) (hpl : (backTo pos (starEach [] X.env)).any (·.1) = false := by rfl) : PE X (.Call (.Name x p) [e] [] pos) (tMkV C (spKeep X.K C f) ta) := by
  obtain ⟨fI, fd, h1, h2, h3, h4, _⟩ := T.ini
  exact pe_mkV T.cls h1 h2 h4 (hr.mono hk) h3 T.at_ ha hg hdb he hpl
/-- C(f = e) as a value -/
theorem peVK {kws : List Keyword} {tk : TA} (T : ErrN X.prog X.w X.K X.mg X.base k x f C) (hr : Room j X.A) (hkw : PK X kws tk) (hk : k + 1 ≤ j := by decide) (hg : Gl X x := by rfl)
    (hal : (backToKw pos (keywordEach kws X.env)).all (·.1.isSome) = true := by rfl) (hky : (backToKw pos (keywordEach kws X.env)).filterMap (·.1) = [f] := by rfl) (hdb : (x == ("__debug__" : Str)) = false := by decide)
    (hnp : ((backTo pos (starEach [] X.env)).any (·.1) || (backToKw pos (keywordEach kws X.env)).any (·.1.isNone)) = false := by rfl) : PE X (.Call (.Name x p) [] kws pos) (tMkVK C 1 (spKeep X.K C f) id tk) := by
  obtain ⟨fI, fd, h1, h2, h3, h4, h5⟩ := T.ini
  exact pe_mkVK (g := id) (gV := id) (ks := [f]) T.cls h1 h2 h4 (hr.mono hk) h5 (fun r => r) T.at_ hkw hg hal hky hdb hnp
end
/-- a made value: what stands there -/
theorem made {K : PySem.W.Frag} {C : Addr} {f : Str} {v : V} {H : Hp} {Q : VK} (h : ∀ a d H', Same H H' → EvAt H' a C d [(f, v)] → Q (.ref a) H') :
    [v].length ≤ 1000 ∧ ∀ a, H a = none → spKeep K C f (.ref a :: [v]) (upd H a (exo a C none)) (fun y H2 => y = .non ∧ Q (.ref a) H2) (fun _ _ _ => False) := by
  refine ⟨Nat.succ_le_of_lt (by simp), fun a ha => ⟨a, v, rfl, upd_same, fun d hd ne => ⟨rfl, ?_⟩⟩⟩
  rw [upd_ne ne] at hd
  refine h a d _ (fun b o q => ?_) (exo_ev upd_same (by rw [upd_ne ne, upd_same]))
  have e1 := ne_of_none q ha
  rw [upd_ne e1, upd_ne (ne_of_none q hd), upd_ne e1]
  exact q
theorem madeK {K : PySem.W.Frag} {C : Addr} {f : Str} {v : V} {H : Hp} {Q : VK} (h : ∀ a d H', Same H H' → EvAt H' a C d [(f, v)] → Q (.ref a) H') :
    [v].length = 1 ∧ ∀ a, H a = none → spKeep K C f (.ref a :: id [v]) (upd H a (exo a C none)) (fun y H2 => y = .non ∧ Q (.ref a) H2) (fun _ _ _ => False) := ⟨rfl, (made h).2⟩
/-- raised -/
theorem thrownN {K : PySem.W.Frag} {C : Addr} {f : Str} {v : V} {H : Hp} {R : XK} (h : ∀ d, H d = none → R (.ref C) (some d) (upd H d (.xd [(f, v)]))) :
    [v].length ≤ 1000 ∧ ∀ a, H a = none → spKeep K C f (.ref a :: [v]) (upd H a (exo a C none))
      (fun y H2 => y = .non ∧ ∃ (d : Addr) (fs : List (Str × V)), H2 a = some (exo a C (some d)) ∧ H2 d = some (exd d fs) ∧ H d = none ∧ R (.ref C) (some d) (upd (del H2 a) d (.xd fs))) (fun _ _ _ => False) := thrown h
end Kx
/-! an own error of three fields. -/
namespace Kx
open L2 PySem PySem.Spec PyProof.Rows
def spKeep3 (K : PySem.W.Frag) (C : Addr) (f g h : Str) : Sp := fun vs H Q _ => ∃ (a : Addr) (x y z : V), vs = [.ref a, x, y, z] ∧ H a = some (exo a C none) ∧
  ∀ d H2, H d = none → d ≠ a → (∀ b, b ≠ a → b ≠ d → H2 b = H b) → H2 a = some (exo a C (some d)) → H2 d = some (exd d [(h, z), (g, y), (f, x)]) → Q .non H2
theorem ok_keep3 {P : Program} {w : World} {K : PySem.W.Frag} {mg : Str → Option Value} {base : Heap} {C fI : Addr} {fd : FuncData} {f g h qual : Str} {params : Arguments} {scope : Scope} {p1 p2 p3 p4 q1 q2 q3 q4 r1 r2 r3 r4 : Pos}
    (F : FunD K "__init__" qual params [.Assign [.Attribute (.Name "self" p1) f p2] (.Name f p3) p4, .Assign [.Attribute (.Name "self" q1) g q2] (.Name g q3) q4, .Assign [.Attribute (.Name "self" r1) h r2] (.Name h r3) r4] scope [] [] fI fd)
    (T : OexC K C) (nf : PySem.W.findIn K (.ref C) f = some none) (ng : PySem.W.findIn K (.ref C) g = some none) (nh : PySem.W.findIn K (.ref C) h = some none)
    (sc : FnScope ["self", f, g, h] ["self", f, g, h] scope) (df : (f == ("__debug__" : Str)) = false) (cf : (f == ("__classdict__" : Str)) = false) (dg : (g == ("__debug__" : Str)) = false) (cg : (g == ("__classdict__" : Str)) = false) (dh : (h == ("__debug__" : Str)) = false) (ch : (h == ("__classdict__" : Str)) = false)
    (l0 : scope.names.lookup ("self" : Str) = some .local) (lf : scope.names.lookup f = some .local) (lg : scope.names.lookup g = some .local) (lh : scope.names.lookup h = some .local) : FnOk P w K mg base CX0 1 fI fd ["self", f, g, h] (spKeep3 K C f g h) := by
  refine F.ok sc (fun vs H Q E z => ?_) (fun cdv A outer s H vs Q E hr z => ?_)
  · obtain ⟨a, x, y, z, rfl, _⟩ := z
    rfl
  · obtain ⟨a, x, y, z, rfl, ha, k⟩ := z
    refine ⟨_, pss_cons (ps_ost (pe_var (i := 0) rfl (.inl l0)) (pe_var (i := 1) rfl (.inl lf) df cf)) (pss_cons (ps_ost (pe_var (i := 0) rfl (.inl l0)) (pe_var (i := 2) rfl (.inl lg) dg cg)) (pss_one (ps_ost (pe_var (i := 0) rfl (.inl l0)) (pe_var (i := 3) rfl (.inl lh) dh ch)))), ?_⟩
    refine ⟨_, rfl, _, rfl, a, C, rfl, T, nf, .inl ⟨ha, fun d n1 n2 => ?_⟩⟩
    have a1 : upd (upd H d (exd d [(f, x)])) a (exo a C (some d)) a = some (exo a C (some d)) := upd_same
    have d1 : upd (upd H d (exd d [(f, x)])) a (exo a C (some d)) d = some (exd d [(f, x)]) := by rw [upd_ne n2, upd_same]
    refine ⟨_, rfl, _, rfl, a, C, rfl, T, ng, .inr ⟨d, _, a1, d1, by simp, ?_⟩⟩
    have a2 : upd (upd (upd H d (exd d [(f, x)])) a (exo a C (some d))) d (exd d [(g, y), (f, x)]) a = some (exo a C (some d)) := by rw [upd_ne (Ne.symm n2)]; exact a1
    refine ⟨_, rfl, _, rfl, a, C, rfl, T, nh, .inr ⟨d, _, a2, upd_same, by simp, ?_⟩⟩
    exact k d _ n1 n2 (fun b e1 e2 => by rw [upd_ne e2, upd_ne e2, upd_ne e1, upd_ne e2]) (by rw [upd_ne (Ne.symm n2)]; exact a2) upd_same
structure ErrF (P : Program) (w : World) (K : PySem.W.Frag) (mg : Str → Option Value) (base : Heap) (k : Nat) (x f g h : Str) (C : Addr) : Prop where
  at_ : mg x = some (.ref C)
  cls : OexC K C
  ini : ∃ (fI : Addr) (fd : FuncData), PySem.W.findIn K (.ref C) "__init__" = some (some (.ref fI)) ∧ PySem.W.typeIn K (.ref fI) = some (.type "function") ∧ Binds K fd ["self", f, g, h] [] ∧ FnOk P w K mg base CX0 k fI fd ["self", f, g, h] (spKeep3 K C f g h) ∧
    ∀ (s' : Shared) (a : Addr) (ws : List Value), K.In s'.heap → ws.length = 3 → BindsTo s' fd ⟨[.ref a], ([h, f, g] : List Str).zip ws⟩ ((["self", f, g, h] : List Str).zip (.ref a :: [ws.getD 1 .none, ws.getD 2 .none, ws.getD 0 .none]))
theorem made3 {K : PySem.W.Frag} {C : Addr} {f g h : Str} {x y z : V} {H : Hp} {Q : VK} (q : ∀ a d H', Same H H' → EvAt H' a C d [(h, z), (g, y), (f, x)] → Q (.ref a) H') :
    [x, y, z].length ≤ 1000 ∧ ∀ a, H a = none → spKeep3 K C f g h (.ref a :: [x, y, z]) (upd H a (exo a C none)) (fun u H2 => u = .non ∧ Q (.ref a) H2) (fun _ _ _ => False) := by
  refine ⟨by simp, fun a ha => ⟨a, x, y, z, rfl, upd_same, fun d H2 hd ne keep h1 h2 => ⟨rfl, q a d H2 (fun b o e => ?_) (exo_ev h1 h2)⟩⟩⟩
  rw [upd_ne ne] at hd
  have e1 := ne_of_none e ha
  rw [keep b e1 (ne_of_none e hd), upd_ne e1]
  exact e
theorem made3K {K : PySem.W.Frag} {C : Addr} {f g h : Str} {x y z : V} {H : Hp} {Q : VK} (q : ∀ a d H', Same H H' → EvAt H' a C d [(h, z), (g, y), (f, x)] → Q (.ref a) H') :
    [z, x, y].length = 3 ∧ ∀ a, H a = none → spKeep3 K C f g h (.ref a :: [[z, x, y].getD 1 .non, [z, x, y].getD 2 .non, [z, x, y].getD 0 .non]) (upd H a (exo a C none)) (fun u H2 => u = .non ∧ Q (.ref a) H2) (fun _ _ _ => False) := ⟨rfl, (made3 q).2⟩
theorem thrown3 {K : PySem.W.Frag} {C : Addr} {f g h : Str} {x y z : V} {H : Hp} {R : XK} (q : ∀ d, H d = none → R (.ref C) (some d) (upd H d (.xd [(h, z), (g, y), (f, x)]))) :
    [x, y, z].length ≤ 1000 ∧ ∀ a, H a = none → spKeep3 K C f g h (.ref a :: [x, y, z]) (upd H a (exo a C none))
      (fun u H2 => u = .non ∧ ∃ (d : Addr) (fs : List (Str × V)), H2 a = some (exo a C (some d)) ∧ H2 d = some (exd d fs) ∧ H d = none ∧ R (.ref C) (some d) (upd (del H2 a) d (.xd fs))) (fun _ _ _ => False) := by
  refine ⟨by simp, fun a ha => ⟨a, x, y, z, rfl, upd_same, fun d H2 hd ne keep h1 h2 => ⟨rfl, d, _, h1, h2, ?_, ?_⟩⟩⟩
  · rwa [upd_ne ne] at hd
  · have hd : H d = none := by rwa [upd_ne ne] at hd
    have e : upd (del H2 a) d (.xd [(h, z), (g, y), (f, x)]) = upd H d (.xd [(h, z), (g, y), (f, x)]) := by
      funext b
      by_cases e1 : b = d
      · rw [e1, upd_same, upd_same]
      · rw [upd_ne e1, upd_ne e1]
        by_cases e2 : b = a
        · rw [e2, del_same, ha]
        · rw [del_ne e2, keep b e2 e1, upd_ne e2]
    rw [e]
    exact q d hd
section
variable {X : Cx} {k j : Nat} {x f g h : Str} {C : Addr} {e : Expr} {es : List Expr} {ta : TA} {W : WX} {p pos p2 : Pos}
theorem psF (T : ErrF X.prog X.w X.K X.mg X.base k x f g h C) (hc : X.calm = true) (hr : Room j X.A) (tk : L2N.Takes X W) (ha : PA X (e :: es) ta) (hk : k + 1 ≤ j := by decide) (hg : Gl X x := by rfl) (hdb : (x == ("__debug__" : Str)) = false := by decide)
    (hz : starEach (e :: es) X.env = (false, eval e X.env) :: starEach es X.env := by rfl) (hpl : (backTo pos (starEach es X.env)).any (·.1) = false := by rfl) :
    PS X (.Raise (some (.Call (.Name x p) (e :: es) [] pos)) none p2) (fun _ σ H => tMkN C (spKeep3 X.K C f g h) ta σ H fun cls d H' => W cls d σ H') := by
  obtain ⟨fI, fd, h1, h2, h3, h4, _⟩ := T.ini
  exact L2N.ps_raise hc tk (pmkN (.of T.cls) h1 h2 h4 (hr.mono hk) h3 T.at_ ha hg hdb hz hpl)
theorem peF (T : ErrF X.prog X.w X.K X.mg X.base k x f g h C) (hr : Room j X.A) (ha : PA X (e :: es) ta) (hk : k + 1 ≤ j := by decide) (hg : Gl X x := by rfl) (hdb : (x == ("__debug__" : Str)) = false := by decide)
    (he : starEach (e :: es) X.env = (false, eval e X.env) :: starEach es X.env := by rfl) (hpl : (backTo pos (starEach es X.env)).any (·.1) = false := by rfl) : PE X (.Call (.Name x p) (e :: es) [] pos) (tMkV C (spKeep3 X.K C f g h) ta) := by
  obtain ⟨fI, fd, h1, h2, h3, h4, _⟩ := T.ini
  exact pe_mkV (.of T.cls) h1 h2 h4 (hr.mono hk) h3 T.at_ ha hg hdb he hpl
theorem vals_get {zs : List V} {ws : List Value} (r : Vals zs ws) (i : Nat) : RelV (zs.getD i .non) (ws.getD i .none) := by
  induction r generalizing i with
  | nil => exact rfl
  | cons h _ ih => cases i with
    | zero => exact h
    | succ i => exact ih i
/-- C(h = .., f = .., g = ..) as a value -/
theorem peFK {kws : List Keyword} {tk : TA} (T : ErrF X.prog X.w X.K X.mg X.base k x f g h C) (hr : Room j X.A) (hkw : PK X kws tk) (hk : k + 1 ≤ j := by decide) (hg : Gl X x := by rfl)
    (hal : (backToKw pos (keywordEach kws X.env)).all (·.1.isSome) = true := by rfl) (hky : (backToKw pos (keywordEach kws X.env)).filterMap (·.1) = [h, f, g] := by rfl) (hdb : (x == ("__debug__" : Str)) = false := by decide)
    (hnp : ((backTo pos (starEach [] X.env)).any (·.1) || (backToKw pos (keywordEach kws X.env)).any (·.1.isNone)) = false := by rfl) : PE X (.Call (.Name x p) [] kws pos) (tMkVK C 3 (spKeep3 X.K C f g h) (fun zs => [zs.getD 1 .non, zs.getD 2 .non, zs.getD 0 .non]) tk) := by
  obtain ⟨fI, fd, h1, h2, h3, h4, h5⟩ := T.ini
  exact pe_mkVK (g := fun ws => [ws.getD 1 .none, ws.getD 2 .none, ws.getD 0 .none]) (gV := fun zs => [zs.getD 1 .non, zs.getD 2 .non, zs.getD 0 .non]) (ks := [h, f, g]) (.of T.cls) h1 h2 h4 (hr.mono hk) h5 (fun r => .cons (vals_get r 1) (.cons (vals_get r 2) (.cons (vals_get r 0) .nil))) T.at_ hkw hg hal hky hdb hnp
end
end Kx
/-! lambdas held as values, called where they were made; their errors' context None. -/
namespace Kx
open L2 PySem PySem.Spec PyProof.Rows LamX
/-- the function object at f is ob -/
abbrev LamO (f : Addr) (ob : Obj) : HO := .ext fun h => h.get? f = some ob
theorem lamO_ok {P : Program} {w : World} {H : Hp} {h : Heap} {f : Addr} {ob : Obj} (e : h.get? f = some ob) : ObjOk P w H h f (LamO f ob) := ⟨e, ⟨ob, e⟩, fun h1 h2 z k => k _ z⟩
abbrev lamOb (X : Cx) (params : Arguments) (body : Expr) (scope : Scope) (pm : Value) (c' : Addr) (ctv : Value) : Obj := PySem.W.kla_obj "<lambda>" (X.env.qual ++ "<lambda>") params body scope (cloFrom X.env.cells scope.names []) pm c' ctv
/-- lambda: body, as a value -/
def tLamV (X : Cx) (T : List (Addr × Str)) (params : Arguments) (body : Expr) (scope : Scope) : TE := fun σ H Q => Tabs T H ∧ ∀ (f c' : Addr) (pm ctv : Value) (H1 : Hp), ExtN H H1 → Tabs T H1 → H f = none → H1 f = none → H1 c' = some (CodeO c' (X.env.qual ++ "<lambda>")) →
  Q (.ref f) (upd H1 f (LamO f (lamOb X params body scope pm c' ctv)))
section
variable {X : Cx}
theorem pe_lamV {T : List (Addr × Str)} {c P : Addr} {params : Arguments} {body : Expr} {scope : Scope} {pos : Pos} (TB : TabB X.base X.mg c P) (code : X.env.code = .ref c) (mem : (P, X.env.qual ++ "<lambda>") ∈ T) (only : ∀ p ∈ T, p.1 = P → p.2 = X.env.qual ++ "<lambda>")
    (hdef : defaultsOf params X.env = ([], [])) (L : LamS X.env.scope scope) : PE X (.Lambda params body scope pos) (tLamV X T params body scope) := by
  refine ⟨fun pins s σ H Q I asked => ?_⟩
  obtain ⟨hT, h⟩ := asked
  obtain ⟨ps, hP, trip, among⟩ := hT _ mem
  have free := L.has I.ok
  have here : s.heap.get? P = some { cls := .none, data := .fields ps } := I.hok P _ hP
  refine PySem.W.kla_eval hdef ?_; cases hc : codeAmong pos ps.toList with
  | some cv =>
    obtain ⟨c', rfl, old⟩ := among pos cv hc
    refine PySem.W.kla_makeFunctionHit (mg := X.mg) (c := c) (P := P) (ps := ps) (closure_ok free) I.ok.glob (I.mod.glob.keeps I.bk) code (TB.code.keeps I.bk) here trip hc (TB.bm.keeps I.bk) fun ctv h' tk all wide => ?_
    have J : Inv X pins σ H { s with heap := h', toks := tk } := I.kept all
    have J2 := J.laid (t' := tk) (a := h'.objs.size) (o := LamO h'.objs.size (lamOb X params body scope ((X.mg "__name__").getD .none) c' ctv)) (h' := h'.push (lamOb X params body scope ((X.mg "__name__").getD .none) c' ctv)) (fun b o e => Heap.get?_push_of_some _ e) (Nat.le_refl _) (lamO_ok (Heap.get?_push_size _ rfl))
    exact ⟨V.ref h'.objs.size, _, J2, rfl, h h'.objs.size c' _ ctv H (ExtN.refl H) hT (I.hok.fresh wide) (I.hok.fresh wide) old⟩
  | none =>
    refine PySem.W.kla_makeFunction (mg := X.mg) (c := c) (P := P) (ps := ps) (closure_ok free) I.ok.glob (I.mod.glob.keeps I.bk) code (TB.code.keeps I.bk) here trip hc TB.gP (TB.bm.keeps I.bk) fun c' ctv h' tk all ge lt rec_ tb => ?_
    obtain ⟨c2, oc, vs, t, e2, hoc, hd, hv⟩ := rec_
    cases e2
    have wide : s.heap.objs.size ≤ h'.objs.size := Nat.le_trans ge (Nat.le_of_lt lt)
    have nC : H c' = none := I.hok.fresh ge
    have J := inv_table (t' := tk) (more := #[rawInt pos.line, rawInt pos.col, .ref c']) I hP all tb ge ⟨oc, vs, t, hoc, hd, hv⟩
    have J2 := J.laid (t' := tk) (a := h'.objs.size) (o := LamO h'.objs.size (lamOb X params body scope ((X.mg "__name__").getD .none) c' ctv)) (h' := h'.push (lamOb X params body scope ((X.mg "__name__").getD .none) c' ctv)) (fun b o e => Heap.get?_push_of_some _ e) (Nat.le_refl _) (lamO_ok (Heap.get?_push_size _ rfl))
    have ext : ExtN H (upd (upd H P (.tbl (ps ++ #[rawInt pos.line, rawInt pos.col, .ref c']))) c' (CodeO c' (X.env.qual ++ "<lambda>"))) := fun b o e n => by
      have ne : b ≠ P := fun z => n ps (Option.some.inj (e.symm.trans (z ▸ hP)))
      rw [upd_ne (ne_of_none e nC), upd_ne ne]
      exact e
    have eL : (ps ++ #[rawInt pos.line, rawInt pos.col, Value.ref c']).toList = ps.toList ++ [rawInt pos.line, rawInt pos.col, Value.ref c'] := by simp
    refine ⟨V.ref h'.objs.size, _, J2, rfl, h h'.objs.size c' _ ctv _ ext (fun p hp => ?_) (I.hok.fresh wide) (J.hok.fresh (Nat.le_refl _)) upd_same⟩
    by_cases hb : p.1 = P
    · rw [only p hp hb, hb]
      refine ⟨_, (upd_ne (ne_of_none hP nC)).trans upd_same, eL ▸ PySem.TriplesOk_snoc _ _ _ _ trip, fun p' cv hcv => ?_⟩
      rw [eL] at hcv
      rcases among_app _ trip hcv with z | z
      · obtain ⟨c0, e1, e2⟩ := among p' cv z
        exact ⟨c0, e1, ext _ _ e2 codeO_ne⟩
      · exact ⟨c', z, upd_same⟩
    · obtain ⟨qs, a1, a2, a3⟩ := hT p hp
      refine ⟨qs, ((upd_ne (ne_of_none a1 nC)).trans (upd_ne hb)).trans a1, a2, fun p' cv hcv => ?_⟩
      obtain ⟨c0, e1, e2⟩ := (a3 p' cv hcv)
      exact ⟨c0, e1, ext _ _ e2 codeO_ne⟩
/-- the context of a lambda's body: errors' context None -/
abbrev lamCxN (X : Cx) (A : Around) (outer : List Env) (s : Shared) (H : Hp) (E : XK) (scope : Scope) (f c' : Addr) : Cx :=
  { lamCx X A outer s H E scope f c' with xe := fun e s' => wpAny (model X.prog X.w) (A.deeper (lamEnv X scope s.heap.objs.size f c')) (leaving (lamEnv X scope s.heap.objs.size f c') e) (fun _ s'' => L2N.CX X.prog X.w outer H s E e s'') (fun e' s'' => L2N.CX X.prog X.w outer H s E e' s'') s' }
/-- g() with g one of several lambdas -/
theorem pe_lamGo {ι : Type} {e : Expr} {te : TE} {pos : Pos} {k : Nat} {E : XK} (ps : ι → Arguments) (bs : ι → Expr) (ss : ι → Scope) (tb : ι → TE) (he : PE X e te) (hr : Room (k + 1) X.A) (hL : ∀ i, LamS X.env.scope (ss i)) (hx : Passes (L2N.CX X.prog X.w) X E)
    (hbind : ∀ i (q : Str) (cl : List (Str × Addr)) (pm cv ctv : Value), bindArgs (PySem.W.kla_fn "<lambda>" q (ps i) (bs i) (ss i) cl pm cv ctv) ⟨[], []⟩ = pure [])
    (hbody : ∀ i (A : Around) (outer : List Env) (s : Shared) (H : Hp) (f c' : Addr), Room k (A.deeper (lamEnv X (ss i) s.heap.objs.size f c')) → PE (lamCxN X A outer s H E (ss i) f c') (bs i) (tb i))
    (hc : eval (.Call e [] [] pos) X.env = (do callWith pos (← eval e X.env) [] (backTo pos (starEach [] X.env)) (backToKw pos (keywordEach [] X.env))) := by rfl) :
    PE X (.Call e [] [] pos) (fun σ H Q => te σ H fun v H1 => ∃ (i : ι) (f c' : Addr) (pm ctv : Value), v = .ref f ∧ H1 f = some (LamO f (lamOb X (ps i) (bs i) (ss i) pm c' ctv)) ∧ H1 c' = some (CodeO c' (X.env.qual ++ "<lambda>")) ∧ tb i σ H1 Q) := by
  refine ⟨fun pins s σ H Q I asked => ?_⟩
  rw [hc]
  refine wpAny_bind (thn (he.run pins s σ H _ I asked) fun u s1 ⟨v, H1, J, rv, i, f, c', pm, ctv, ev, hf, hco, q⟩ => ?_)
  subst ev
  obtain rfl := (show u = Value.ref f from rv)
  have here : s1.heap.get? f = some (lamOb X (ps i) (bs i) (ss i) pm c' ctv) := (show ObjOk X.prog X.w H1 s1.heap f (LamO f _) from J.hok f _ hf).1
  refine PySem.W.callWith_F0 ⟨_, _, _, _, here⟩ ?_
  obtain ⟨⟨oc, vs, t, hoc, hdc, hvc⟩, -, -⟩ := (show ObjOk X.prog X.w H1 s1.heap c' (CodeO c' (X.env.qual ++ "<lambda>")) from J.hok c' _ hco)
  have L := hL i
  have rc : codeAny (model X.prog X.w) X.A (.call (.ref f) ⟨[], []⟩) (CR (L2N.CX X.prog X.w) X.stack X.prog X.w H1 s1 Q E) s1 := by
    refine PySem.W.kla_callFunE hr.depth here rfl L.co L.gen rfl ⟨c', oc, vs, t, rfl, hoc, hdc, hvc⟩ ?_
    rw [hbind]
    refine wpAny_pure (wpAny_newFunctionEnv (fun y hy => (L.own y hy).2) (fun y hy => absurd hy (by simp)) (fun h1 ns but => ⟨J.nolimit.fresh _ but, ?_⟩) L.kind)
    show codeAny _ _ (.expr (bs i) (lamEnv X (ss i) s1.heap.objs.size f c')) _ _
    have kp : ∀ b o, s1.heap.get? b = some o → h1.get? b = some o := fun b o z => but.extBut b o (Nat.ne_of_lt (Heap.lt_size z)) (Heap.get?_push_of_some _ z)
    have K0 : Inv (lamCx X X.A X.stack s1 H1 E (ss i) f c') [] σ H1 { s1 with heap := h1, toks := s1.toks + ([] : List (Str × Value)).length } := lam_start2 J L J.env0 hr.hd Un.refl ns kp
    have K1 : Inv (lamCxN X X.A X.stack s1 H1 E (ss i) f c') [] σ H1 { s1 with heap := h1, toks := s1.toks + ([] : List (Str × Value)).length } :=
      ⟨⟨K0.ok.mod, K0.ok.kind, K0.ok.glob, K0.ok.blt, K0.ok.above, K0.ok.inj, K0.ok.has, K0.ok.cab, K0.ok.hd, K0.ok.frames, K0.ok.stk, K0.ok.exf, K0.ok.bs, K0.ok.bsz, K0.ok.noex, K0.ok.exfs, K0.ok.funs, K0.ok.frf⟩, K0.os, K0.bare, K0.base, K0.loc, K0.cell, K0.free, K0.freeC, K0.pin, K0.hok, K0.len⟩
    refine PySem.W.kla_codeExpr (wpAny_mono ((hbody i _ _ s1 H1 f c' (hr.deeper _)).run [] _ _ H1 Q K1 q) (fun v s2 z => ?_) fun _ _ z => z)
    obtain ⟨y, H2, K2, ry, q2⟩ := z
    exact ⟨y, H2, K2.os, K2.bare, K2.base, K2.hok, ry, q2⟩
  refine wpAny_call (codeAny_mono rc fun r s2 z => ?_)
  match r, z with
  | .error _, z => exact hx pins σ H1 s1 _ s2 J z
  | .ok (.ret _), z => exact J.after z
  | .ok .next, z => exact z.elim
  | .ok .brk, z => exact z.elim
  | .ok .cont, z => exact z.elim
end
end Kx
/-! where an error is handled: lists walked, tuples unpacked, a def that gets the error. -/
namespace Kx.Hot
open PySem PySem.Spec PyProof.Rows HotX
section
variable {prog : Program} {w : World} {A : Around} {E : Value → Shared → Prop} {s : Shared} {z l : Addr} {i : Nat} {xs : Array Value}
theorem hot_ne {x : Addr} {oz : Obj} {a b : Value} (hot : HotAt A x s.heap) (h : s.heap.get? z = some oz) (d : oz.data = .fields #[a, b]) : x ≠ z := by
  obtain ⟨_, o, vs, h1, d1, c1⟩ := hot
  rintro rfl
  rw [h1] at h
  cases h
  rw [d1] at d
  cases d
  cases c1
/-- the end of a list's walk -/
theorem list_end {x : Addr} {Q : Option Value → Shared → Prop} (hot : HotAt A x s.heap) (st : s.heap.IsListIter z l i) (isL : s.heap.IsList l xs) (out : xs[i]? = none) (q : ∀ h', Heap.ExtBut z s.heap h' → Q none { s with heap := h' }) : wpAny (model prog w) A (pyNext (.ref z)) Q E s := by
  obtain ⟨oz, hz, cz, dz⟩ := id st
  obtain ⟨ol, hl, _, nl, dl⟩ := isL
  have ne := hot_ne hot hz dz
  obtain ⟨hh, o1, v1, e1, d1, c1⟩ := hot
  unfold pyNext; refine wpAny_bind (wpAny_attempt (wpAny_callSpecial?_slot (name := Str.ofString "__next__") st.typeIs slot_listiter_next (wpAny_call_entry slot_listiter_next st.typeIs entry_listiter_next ?_ (args_listiter_next _))))
  show wpAny _ _ (field (.ref z) 0 >>= _) _ _ s; refine wpAny_bind (wpAny_field hz dz (x := .ref l) rfl ?_)
  show wpAny _ _ (if (Value.ref l == Value.none) = true then _ else _) _ _ s; rw [if_neg (show ¬ ((Value.ref l == Value.none) = true) from Bool.false_ne_true)]
  show wpAny _ _ (field (.ref z) 1 >>= _) _ _ s; refine wpAny_bind (wpAny_field hz dz (x := .int i 0) rfl ?_)
  show wpAny _ _ (seqItems? (.ref l) >>= _) _ _ s; refine wpAny_bind (wpAny_seqItems hl dl ?_)
  simp only [Int.toNat_natCast, out]
  refine wpAny_bind (wpAny_rule (wpAny_bind (wpAny_setField hz dz (by simp) ?_)))
  show wpAny _ _ (newExc (.type "StopIteration") [] >>= _) _ _ _; refine wpAny_bind ?_
  simp only [newExc, newTuple]; refine wpAny_bind (wpAny_newObj_type ?_ (by size_fits))
  refine wpAny_bind (m := firstArgMember _ _) (wpAny_of_eq (a := Value.none) (by first | rfl | (simp only [firstArgMember]; rfl)) ?_); refine wpAny_newObj_type ?_ (by size_fits)
  have e2 : ∀ b o, b ≠ z → s.heap.get? b = some o → (s.heap.update z (Obj.mapFields (·.setIfInBounds 0 Value.none))).get? b = some o := fun b o nb h => by
    rw [Heap.get?_update_other _ _ (Ne.symm nb)]
    exact h
  refine raiseNew_hot ⟨hh, o1, v1, Heap.get?_push_of_some _ (Heap.get?_push_of_some _ (e2 _ _ ne e1)), d1, c1⟩ (Nat.ne_of_lt (Heap.lt_size (Heap.get?_push_of_some _ (e2 _ _ ne e1)))) (Heap.get?_push_size _ rfl) rfl (by first | (simp; done) | (simp; omega) | (simp only [Array.size_append]; simp; omega)) ?_
  refine wpAny_bind (wpAny_isInstance (b := true) (T := "StopIteration") ⟨_, Heap.get?_update_self _ (Heap.get?_push_size _ rfl) rfl, rfl⟩ isSubtype_stop ?_)
  refine wpAny_pure (q _ fun b o nb h => ?_)
  rw [Heap.get?_update_other _ _ (Nat.ne_of_gt (Heap.lt_size (Heap.get?_push_of_some _ (e2 _ _ nb h))))]
  exact Heap.get?_push_of_some _ (Heap.get?_push_of_some _ (e2 _ _ nb h))
/-- the end of a tuple's walk -/
theorem tup_end {x : Addr} {Q : Option Value → Shared → Prop} (hot : HotAt A x s.heap) (st : IsTupIter s.heap z l i) (isT : IsTup s.heap l xs) (out : xs[i]? = none) (q : ∀ h', Heap.ExtBut z s.heap h' → Q none { s with heap := h' }) : wpAny (model prog w) A (pyNext (.ref z)) Q E s := by
  obtain ⟨oz, hz, cz, dz⟩ := id st
  obtain ⟨ol, hl, _, nl, dl⟩ := isT
  have ne := hot_ne hot hz dz
  obtain ⟨hh, o1, v1, e1, d1, c1⟩ := hot
  unfold pyNext; refine wpAny_bind (wpAny_attempt (wpAny_callSpecial?_slot (name := Str.ofString "__next__") st.typeIs slot_tupleiter_next (wpAny_call_entry slot_tupleiter_next st.typeIs entry_tupleiter_next ?_ (args_tupleiter_next _))))
  show wpAny _ _ (field (.ref z) 0 >>= _) _ _ s; refine wpAny_bind (wpAny_field hz dz (x := .ref l) rfl ?_)
  show wpAny _ _ (if (Value.ref l == Value.none) = true then _ else _) _ _ s; rw [if_neg (show ¬ ((Value.ref l == Value.none) = true) from Bool.false_ne_true)]
  show wpAny _ _ (field (.ref z) 1 >>= _) _ _ s; refine wpAny_bind (wpAny_field hz dz (x := .int i 0) rfl ?_)
  show wpAny _ _ (seqItems? (.ref l) >>= _) _ _ s; refine wpAny_bind (wpAny_seqItems hl dl ?_)
  simp only [Int.toNat_natCast, out]
  refine wpAny_bind (wpAny_rule (wpAny_bind (wpAny_setField hz dz (by simp) ?_)))
  show wpAny _ _ (newExc (.type "StopIteration") [] >>= _) _ _ _; refine wpAny_bind ?_
  simp only [newExc, newTuple]; refine wpAny_bind (wpAny_newObj_type ?_ (by size_fits))
  refine wpAny_bind (m := firstArgMember _ _) (wpAny_of_eq (a := Value.none) (by first | rfl | (simp only [firstArgMember]; rfl)) ?_); refine wpAny_newObj_type ?_ (by size_fits)
  have e2 : ∀ b o, b ≠ z → s.heap.get? b = some o → (s.heap.update z (Obj.mapFields (·.setIfInBounds 0 Value.none))).get? b = some o := fun b o nb h => by
    rw [Heap.get?_update_other _ _ (Ne.symm nb)]
    exact h
  refine raiseNew_hot ⟨hh, o1, v1, Heap.get?_push_of_some _ (Heap.get?_push_of_some _ (e2 _ _ ne e1)), d1, c1⟩ (Nat.ne_of_lt (Heap.lt_size (Heap.get?_push_of_some _ (e2 _ _ ne e1)))) (Heap.get?_push_size _ rfl) rfl (by first | (simp; done) | (simp; omega) | (simp only [Array.size_append]; simp; omega)) ?_
  refine wpAny_bind (wpAny_isInstance (b := true) (T := "StopIteration") ⟨_, Heap.get?_update_self _ (Heap.get?_push_size _ rfl) rfl, rfl⟩ isSubtype_stop ?_)
  refine wpAny_pure (q _ fun b o nb h => ?_)
  rw [Heap.get?_update_other _ _ (Nat.ne_of_gt (Heap.lt_size (Heap.get?_push_of_some _ (e2 _ _ nb h))))]
  exact Heap.get?_push_of_some _ (Heap.get?_push_of_some _ (e2 _ _ nb h))
/-- (a, b, ..) = a tuple -/
theorem tup_stored {x : Addr} {env : Env} {es : List Expr} {k} {pos : Pos} {Q : Unit → Shared → Prop} (hot : HotAt A x s.heap) (isT : IsTup s.heap l xs) (n : (assignEach es env).length = xs.size) (star : (assignEach es env).findIdx? (·.1) = none)
    (go : ∀ h', Heap.ExtBut s.heap.objs.size s.heap h' → wpAny (model prog w) A (assignInOrder ((assignEach es env).map (·.2)) xs.toList) Q E { s with heap := h' }) : wpAny (model prog w) A (assign (.Tuple es k pos) env (.ref l)) Q E s := by
  rw [assign_Tuple]; refine wpAny_bind (wpAny_standAt ?_)
  unfold unpack
  rw [n, star]; refine wpAny_bind (wpAny_holding ?_)
  have apart : l ≠ s.heap.objs.size := by obtain ⟨o, h, _⟩ := isT; exact Nat.ne_of_lt (Heap.lt_size h)
  obtain ⟨hh, o1, v1, e1, d1, c1⟩ := hot
  have ax : x ≠ s.heap.objs.size := Nat.ne_of_lt (Heap.lt_size e1)
  unfold unpackItems; refine wpAny_bind ?_
  unfold notIterableAtAll; refine wpAny_bind (wpAny_specialOf isT.typeIs slot_tuple_iter.lookup ?_)
  refine wpAny_pure ?_; simp only [Bool.false_eq_true, if_false]
  refine wpAny_bind (wpAny_holding (iter_tuple isT ?_)); refine wpAny_bind (wpAny_holding (draw_tuple apart xs.size 0 _ _ ⟨_, Heap.get?_push_size _ rfl, rfl, rfl⟩ (isT.push _) (by omega) fun h1 st1 but1 => ?_))
  have whole : List.take xs.size (List.drop 0 xs.toList) = xs.toList := by rw [List.drop_zero]; exact List.take_of_length_le (by simp)
  rw [whole]; rw [if_neg (by simp)]
  have isT1 : IsTup h1 l xs := (isT.push _).extBut but1.extBut apart
  have hot1 : HotAt A x h1 := ⟨hh, o1, v1, (but1.2 x ax).trans (Heap.get?_push_of_some _ e1), d1, c1⟩
  refine wpAny_bind (wpAny_holding (tup_end hot1 st1 isT1 (by simp) fun h2 ext2 => ?_)); simp only [Option.isSome_none, Bool.false_eq_true, if_false]
  exact wpAny_pure (go h2 fun b o nb e => ext2 b o nb (but1.extBut b o nb (Heap.get?_push_of_some _ e)))
end
end Kx.Hot
/-! A try with several clauses, of one class or of five; the context of what is caught is None. -/
namespace Kx.N
open PySem PyProof.Rows L2 PySem.Spec

section
variable {M : Model} {K : PySem.W.Frag}
open PySem.W PySem.Calls
/-- a tuple of five classes is asked -/
theorem exm5 {a1 a2 a3 a4 a5 cls : Value} {tp x : Addr} {y : Bool} {h : Heap} (inK : K.In h) (ty : Looks M h (typeOf (.ref x)) cls) (here : h.get? tp = some { cls := .type "tuple", data := .seq [a1, a2, a3, a4, a5].toArray }) (hx : exmAny K cls [a1, a2, a3, a4, a5] = some y) :
    Looks M h (excMatches (.ref x) (.ref tp)) y := by
  intro A Q E s k0 q
  obtain ⟨hh, gz, d, tk, os⟩ := s
  have k : ∀ b o, h.get? b = some o → hh.get? b = some o := k0
  have isT : Looks M h (isInstance (.ref tp) (.type "tuple")) true := ((Looks.ld here).andThen .now).andThen (Looks.of_pure isSubtype_tuple_tuple)
  obtain ⟨b1, r1, o1, hx, z1⟩ := exmAny_cons hx
  obtain ⟨b2, r2, o2, hx, z2⟩ := exmAny_cons hx
  obtain ⟨b3, r3, o3, hx, z3⟩ := exmAny_cons hx
  obtain ⟨b4, r4, o4, hx, z4⟩ := exmAny_cons hx
  obtain ⟨b5, r5, o5, hx, z5⟩ := exmAny_cons hx
  obtain rfl : false = r5 := Option.some.inj hx
  have both : ∀ {c : Value} {v : Bool}, exmOne K cls c = some v → Looks M hh (isExcClass c) true ∧ Looks M hh (isSubtype cls c) v := fun o => ⟨(exm_cls (M := M) inK o).1.keeps k, (exm_cls (M := M) inK o).2.keeps k⟩
  obtain ⟨u1, w1⟩ := both o1
  obtain ⟨u2, w2⟩ := both o2
  obtain ⟨u3, w3⟩ := both o3
  obtain ⟨u4, w4⟩ := both o4
  obtain ⟨u5, w5⟩ := both o5
  have ty := ty.keeps k
  have isT := isT.keeps k
  have at_ := k _ _ here
  subst z1 z2 z3 z4 z5
  unfold excMatches; refine wpAny_bind (isT.at ?_)
  dsimp only; rw [if_pos rfl]
  first
    | exact wpAny_bind (wpAny_seqItems at_ rfl (by dsimp only [Option.getD_some, Option.getD]; cases b1 <;> cases b2 <;> cases b3 <;> cases b4 <;> cases b5 <;> ((repeat (first | simp only [List.forIn_cons, List.forIn_nil, Bool.not_true, Bool.false_eq_true, if_false, if_true] | lk)); exact q)))
    | exact wpAny_bind (wpAny_bind (wpAny_seqItems at_ rfl (wpAny_pure (by dsimp only [Option.getD_some, Option.getD]; cases b1 <;> cases b2 <;> cases b3 <;> cases b4 <;> cases b5 <;> ((repeat (first | simp only [List.forIn_cons, List.forIn_nil, Bool.not_true, Bool.false_eq_true, if_false, if_true] | lk)); exact q)))))
theorem exm_single {cls c : Value} {y : Bool} (h : exmAny K cls [c] = some y) : exmOne K cls c = some y := by
  obtain ⟨b, r, o, hx, z⟩ := exmAny_cons h
  obtain rfl : false = r := Option.some.inj hx
  rw [z, Bool.or_false]
  exact o
end
theorem fly_keeps {G : Heap} {l : List Env} {x : Addr} {Z : Obj → Prop} {h h' : Heap} (f : HandSPX.FlyingZ G l x Z h) (k : ∀ b o, h.get? b = some o → h'.get? b = some o) : HandSPX.FlyingZ G l x Z h' := by
  obtain ⟨f1, f2, f3, ob, ws, T, ot, ts, e1, e2, e3, e4, e5, e6, e7, e8, e9⟩ := f
  exact ⟨fun b o q => k b o (f1 b o q), f2, f3.of_keeps fun b o q _ => ⟨o, k b o q, rfl⟩, ob, ws, T, ot, ts, k _ _ e1, e2, e3, e4, e5, e6, k _ _ e7, e8, e9⟩
/-- an error that came down to this frame and whose flight is over; `old` is the state without it -/
structure Down (X : Cx) (pins : List (Addr × Obj)) (σ : L2.St) (H : Hp) (x : Addr) (cls : Value) (d : Option Addr) (G : Heap) (old now : Shared) : Prop where
  was : Inv X pins σ H old
  low : ∀ b o, old.heap.get? b = some o → b ∉ frs X.stack → G.get? b = some o
  up : old.heap.UpToSlots now.heap
  fly : HandSPX.FlyingZ G (X.env :: X.outer) x (L2N.Zn cls d) now.heap
  fresh : H x = none
  sys : now.os = old.os
  bare : AllBare now.gens
section
variable {X : Cx} {pins : List (Addr × Obj)} {σ : L2.St} {H : Hp} {x : Addr} {cls : Value} {d : Option Addr} {G : Heap} {old now : Shared}
theorem Down.inv (D : Down X pins σ H x cls d G old now) : Inv X pins σ H now := D.was.landed D.low D.fly.1 D.up D.sys D.bare
/-- the record, and that it is no frame -/
theorem Down.rec_ (D : Down X pins σ H x cls d G old now) (hf : X.env.frame = some X.env.locals) :
    ∃ (ob : Obj) (vs : Array Value), now.heap.get? x = some ob ∧ L2N.Zn cls d ob ∧ ob.data = .fields vs ∧ x ≠ X.env.locals ∧ x ∉ X.fs := by
  obtain ⟨ob, vs, h1, h2, h3⟩ := D.fly.there
  have out : x ∉ frs (X.env :: X.outer) := by
    intro hm
    obtain ⟨_, ob2, h4, h5⟩ := D.fly.2.2.1.mem hm
    rw [h1] at h4
    cases h4
    exact h5 _ h3
  refine ⟨ob, vs, h1, h2, h3, fun z => out ?_, fun hm => out ?_⟩
  · exact List.mem_filterMap.mpr ⟨_, List.mem_cons_self, by rw [hf, z]⟩
  · obtain ⟨e1, h6, h7⟩ := List.mem_filterMap.mp hm
    exact List.mem_filterMap.mpr ⟨e1, List.mem_cons_of_mem _ h6, h7⟩
/-- within a suite -/
theorem Down.held (D : Down X pins σ H x cls d G old now) (hf : X.env.frame = some X.env.locals) :
    ∃ ob : Obj, now.heap.get? x = some ob ∧ L2N.Zn cls d ob ∧ (∃ vs, ob.data = .fields vs) ∧ Inv (X.suite x ((x, ob) :: (X.pn ++ pins))) [] σ H now := by
  obtain ⟨ob, vs, h1, h2, h3, h4, h5⟩ := D.rec_ hf
  exact ⟨ob, h1, h2, ⟨vs, h3⟩, D.inv.suite h1 h3 D.fresh h4 h5⟩
/-- no clause takes it: it goes on -/
theorem Down.goes {pos : Pos} {E : Ends} {W : WX} (D : Down X pins σ H x cls d G old now) (hs : X.stack = X.env :: X.outer) (hf : X.env.frame = some X.env.locals) (tk : L2N.Takes X W) (hw : W cls d σ H) :
    wpAny (model X.prog X.w) X.A (handleBy (.ref x) X.env []) (SP X pins E) X.xe now := by
  obtain ⟨_, _, _, ob, vs, T, _, _, h1, _, h3, h4, _⟩ := D.fly
  have away : wpAny (model X.prog X.w) X.A (setFlight (.ref x) X.env.frame) (fun _ s => wpAny (model X.prog X.w) X.A (throw (.ref x) : Sem Flow) (SP X pins E) X.xe s) X.xe now := by
    rw [hf]
    refine HandSPX.setFlight_upZ D.fly fun h' held up' => wpAny_throw (tk _ _ ⟨x, G, old, pins, σ, H, cls, d, rfl, D.was, D.low, D.up.trans up', ?_, D.fresh, D.sys, D.bare, hw⟩)
    rw [hs]
    exact .inr (.inr held)
  refine wpAny_handleBy_nil (wpAny_bind (wpAny_field h1 h3 h4 ?_))
  have some_ : ¬ ((Value.ref T == Value.none) = true) := by simp
  rw [if_neg some_]
  first
    | exact wpAny_bind away
    | exact wpAny_bind (wpAny_pure (wpAny_bind away))
end
/-- one clause: the class it names, the place of its name, its suite's reading -/
abbrev Clause : Type := List Value × Nat × (Addr → Value → Option Addr → TS)
/-- behind a suite the name at i is gone -/
def bare (E : Ends) (i : Nat) : Ends where
  nx := fun σ H => E.nx (σ.set i none) H
  rt := E.rt
  bk := fun σ H => E.bk (σ.set i none) H
  ct := fun σ H => E.ct (σ.set i none) H
/-- what is asked of an error that the body lets out -/
def asks (K : PySem.W.Frag) (W : WX) (E : Ends) : List Clause → WX
  | [] => W
  | k :: r => fun cls d σ H => ∃ y, PySem.W.exmAny K cls k.1 = some y ∧ (y = true → ∀ x, H x = none → k.2.2 x cls d (bare E k.2.1) (σ.set k.2.1 (some (.ref x))) H) ∧ (y = false → asks K W E r cls d σ H)
inductive Clauses (X : Cx) : List ExceptHandler → List Clause → Prop
  | nil : Clauses X [] []
  | cons {nm n : Str} {i : Nat} {c : Value} {t : Addr → Value → Option Addr → TS} {st : Stmt} {more : List Stmt} {p1 p2 : Pos} {hs : List ExceptHandler} {ks : List Clause} (nd : X.N.Nodup) (at_ : X.N[i]? = some n) (loc : X.env.kindOf n = some .local) (cl : Names X nm c)
      (su : ∀ (x : Addr) (ob : Obj) (cls : Value) (d : Option Addr) (pn : List (Addr × Obj)), L2N.Zn cls d ob → (∃ vs, ob.data = .fields vs) → PSs (X.suite x ((x, ob) :: pn)) (st :: more) (t x cls d)) (rest : Clauses X hs ks) :
      Clauses X (.ExceptHandler (some (.Name nm p1)) (some n) (st :: more) p2 :: hs) (([c], i, t) :: ks)
  | five {m1 m2 m3 m4 m5 n : Str} {i kk : Nat} {c1 c2 c3 c4 c5 : Value} {t : Addr → Value → Option Addr → TS} {st : Stmt} {more : List Stmt} {p1 p2 p3 p4 p5 p6 p7 : Pos} {hs : List ExceptHandler} {ks : List Clause} (nd : X.N.Nodup) (at_ : X.N[i]? = some n) (loc : X.env.kindOf n = some .local)
      (l1 : Names X m1 c1) (l2 : Names X m2 c2) (l3 : Names X m3 c3) (l4 : Names X m4 c4) (l5 : Names X m5 c5)
      (su : ∀ (x : Addr) (ob : Obj) (cls : Value) (d : Option Addr) (pn : List (Addr × Obj)), L2N.Zn cls d ob → (∃ vs, ob.data = .fields vs) → PSs (X.suite x ((x, ob) :: pn)) (st :: more) (t x cls d)) (rest : Clauses X hs ks) :
      Clauses X (.ExceptHandler (some (.Tuple [.Name m1 p1, .Name m2 p2, .Name m3 p3, .Name m4 p4, .Name m5 p5] kk p6)) (some n) (st :: more) p7 :: hs) (([c1, c2, c3, c4, c5], i, t) :: ks)
section
variable {X : Cx} {pins : List (Addr × Obj)} {σ : L2.St} {H : Hp} {x : Addr} {cls : Value} {d : Option Addr} {G : Heap} {old now : Shared} {E : Ends} {W : WX}
theorem name_there {nm : Str} {c : Value} {p1 : Pos} {ob : Obj} {Q E' : Value → Shared → Prop} (cl : Names X nm c) (J : Inv (X.suite x ((x, ob) :: (X.pn ++ pins))) [] σ H now) (q : Q c now) :
    wpAny (model X.prog X.w) (X.A.mark (some (.ref x))) (eval (.Name nm p1) X.env) Q E' now := by
  obtain ⟨g, db, m | ⟨m, b, nn⟩⟩ := cl
  · exact ld_glob J g m q db
  · exact ld_blt J g m b q nn db
theorem Down.clauses (D : Down X pins σ H x cls d G old now) (hs : X.stack = X.env :: X.outer) (hf : X.env.frame = some X.env.locals) (tk : L2N.Takes X W) {hds : List ExceptHandler} {ks : List Clause} (C : Clauses X hds ks) (w : asks X.K W E ks cls d σ H) :
    wpAny (model X.prog X.w) X.A (handleBy (.ref x) X.env hds) (SP X pins E) X.xe now := by
  induction C generalizing now with
  | nil => exact D.goes (pos := ⟨0, 0, 0, 0⟩) hs hf tk w
  | @cons nm n i c t st more p1 p2 hs' ks' nd at_ loc cl su rest ih =>
    obtain ⟨y, hy, yes, no⟩ := w
    obtain ⟨ob, h1, h2, h3, J⟩ := D.held hf
    refine wpAny_handleBy_cons (codeAny_handlers_test (name_there cl J ?_)) (fun z => nomatch z)
    have ty : PySem.W.Looks (model X.prog X.w) now.heap (typeOf (.ref x)) cls := fun _ _ _ _ k q => wpAny_typeOf_ref (k _ _ h1) (by rw [h2.1]; exact q)
    refine (PySem.W.exm_one D.inv.kIn ty (exm_single hy)).here ?_
    cases y with
    | false => exact ih D (no rfl)
    | true =>
      refine codeAny_handlers_suite_as (HandSPX.lands_againZ D.fly fun h' fl up' => ?_)
      have D' : Down X pins σ H x cls d G old { now with heap := h' } := ⟨D.was, D.low, D.up.trans up', fl, D.fresh, D.sys, D.bare⟩
      obtain ⟨ob', _, g2, g3, J'⟩ := D'.held hf
      refine store_ok (X := X.suite x ((x, ob') :: (X.pn ++ pins))) (v := .ref x) J' nd at_ (.inl loc) rfl (fun s2 J2 => ?_) (.inr loc)
      refine wpAny_mono ((su x ob' cls d (X.pn ++ pins) g2 g3).run [] s2 _ H _ J2 (yes rfl x D.fresh)) (fun f s3 hf3 => ?_) (fun _ _ z => z.elim)
      have gone : ∀ {σ3 : L2.St} {H3 : Hp} {R : Shared → Prop}, Inv (X.suite x ((x, ob') :: (X.pn ++ pins))) [] σ3 H3 s3 → (∀ s4, Inv X pins (σ3.set i none) H3 s4 → R s4) →
          wpAny (model X.prog X.w) X.A (do bindName X.env n .none; unbindBehindTheSuite X.env n p2) (fun _ s4 => R s4) X.xe s3 := fun J3 q => gone_ok (J3.unsuite D.was.ok) nd at_ loc q
      match f, hf3 with
      | .next, ⟨_, _, J3, q⟩ => exact gone J3 fun _ J4 => ⟨_, _, J4, q⟩
      | .brk, ⟨_, _, J3, q⟩ => exact gone J3 fun _ J4 => ⟨_, _, J4, q⟩
      | .cont, ⟨_, _, J3, q⟩ => exact gone J3 fun _ J4 => ⟨_, _, J4, q⟩
      | .ret _, ⟨_, _, _, J3, r, q⟩ => exact gone J3 fun _ J4 => ⟨_, _, _, J4, r, q⟩
  | @five m1 m2 m3 m4 m5 n i kk c1 c2 c3 c4 c5 t st more p1 p2 p3 p4 p5 p6 p7 hs' ks' nd at_ loc l1 l2 l3 l4 l5 su rest ih =>
    obtain ⟨y, hy, yes, no⟩ := w
    obtain ⟨ob, h1, h2, h3, J⟩ := D.held hf
    refine wpAny_handleBy_cons (codeAny_handlers_test ?_) (fun z => nomatch z)
    refine wpAny_Tuple (wpAny_items_cons (name_there l1 J (wpAny_items_cons (name_there l2 J (wpAny_items_cons (name_there l3 J (wpAny_items_cons (name_there l4 J (wpAny_items_cons (name_there l5 J (wpAny_items_nil ⟨by size_fits, ?_⟩)))))))))))
    have kp : ∀ b o, now.heap.get? b = some o → (now.heap.push { cls := .type "tuple", data := .seq [c1, c2, c3, c4, c5].toArray }).get? b = some o := fun _ _ z => Heap.get?_push_of_some _ z
    have ty : PySem.W.Looks (model X.prog X.w) (now.heap.push { cls := .type "tuple", data := .seq [c1, c2, c3, c4, c5].toArray }) (typeOf (.ref x)) cls := fun _ _ _ _ k q => wpAny_typeOf_ref (k _ _ (kp _ _ h1)) (by rw [h2.1]; exact q)
    refine (exm5 (D.inv.kIn.keeps kp) ty (Heap.get?_push_size now.heap rfl) hy).here ?_
    have D5 : Down X pins σ H x cls d G old { now with heap := now.heap.push { cls := .type "tuple", data := .seq [c1, c2, c3, c4, c5].toArray } } := ⟨D.was, D.low, D.up.trans (Heap.UpToSlots.of_keeps kp), fly_keeps D.fly kp, D.fresh, D.sys, D.bare⟩
    cases y with
    | false => exact ih D5 (no rfl)
    | true =>
      refine codeAny_handlers_suite_as (HandSPX.lands_againZ D5.fly fun h' fl up' => ?_)
      have D' : Down X pins σ H x cls d G old { now with heap := h' } := ⟨D.was, D.low, D5.up.trans up', fl, D.fresh, D.sys, D.bare⟩
      obtain ⟨ob', _, g2, g3, J'⟩ := D'.held hf
      refine store_ok (X := X.suite x ((x, ob') :: (X.pn ++ pins))) (v := .ref x) J' nd at_ (.inl loc) rfl (fun s2 J2 => ?_) (.inr loc)
      refine wpAny_mono ((su x ob' cls d (X.pn ++ pins) g2 g3).run [] s2 _ H _ J2 (yes rfl x D.fresh)) (fun f s3 hf3 => ?_) (fun _ _ z => z.elim)
      have gone : ∀ {σ3 : L2.St} {H3 : Hp} {R : Shared → Prop}, Inv (X.suite x ((x, ob') :: (X.pn ++ pins))) [] σ3 H3 s3 → (∀ s4, Inv X pins (σ3.set i none) H3 s4 → R s4) →
          wpAny (model X.prog X.w) X.A (do bindName X.env n .none; unbindBehindTheSuite X.env n p7) (fun _ s4 => R s4) X.xe s3 := fun J3 q => gone_ok (J3.unsuite D.was.ok) nd at_ loc q
      match f, hf3 with
      | .next, ⟨_, _, J3, q⟩ => exact gone J3 fun _ J4 => ⟨_, _, J4, q⟩
      | .brk, ⟨_, _, J3, q⟩ => exact gone J3 fun _ J4 => ⟨_, _, J4, q⟩
      | .cont, ⟨_, _, J3, q⟩ => exact gone J3 fun _ J4 => ⟨_, _, J4, q⟩
      | .ret _, ⟨_, _, _, J3, r, q⟩ => exact gone J3 fun _ J4 => ⟨_, _, _, J4, r, q⟩
end
/-- try: body / except C as n: .. / except D as m: .. -/
theorem ps_tries {X : Cx} {body : List Stmt} {hd : ExceptHandler} {hds : List ExceptHandler} {ks : List Clause} {pos : Pos} {tb : WX → TS} {W : WX} (hs : X.stack = X.env :: X.outer) (hf : X.env.frame = some X.env.locals) (tk : L2N.Takes X W)
    (hb : ∀ (U : WX) (pn : List (Addr × Obj)) (xe : Value → Shared → Prop), L2N.Takes (X.tr pn xe) U → PassesOwn (model X.prog X.w) X.A X.env xe → PSs (X.tr pn xe) body (tb U)) (C : Clauses X (hd :: hds) ks) :
    PS X (.Try body (hd :: hds) [] [] pos) (fun E σ H => tb (asks X.K W E ks) E σ H) := by
  refine ⟨fun pins s σ H E I h => wpAny_Try_except ?_⟩
  have top : X.A.frames = some (X.env :: X.outer) := by rw [I.ok.frames, hs]
  have inner := hb (asks X.K W E ks) (X.pn ++ pins) (fun e s1 => wpAny (model X.prog X.w) X.A (noteFrame e X.env) (fun _ s2 => wpAny (model X.prog X.w) X.A (setFlight e none)
    (fun _ s3 => wpAny (model X.prog X.w) X.A (handleBy e X.env (hd :: hds)) (SP X pins E) X.xe s3) X.xe s2) X.xe s1) ?_ PassesOwn.looking
  · refine wpAny_mono (inner.run [] s σ H E (I.toTry _) h) (fun f s1 q => ?_) (fun _ _ z => z)
    match f, q with
    | .next, ⟨_, _, J, q⟩ => exact wpAny_execs_nil ⟨_, _, J.ofTry I.ok, q⟩
    | .brk, ⟨_, _, J, q⟩ => exact ⟨_, _, J.ofTry I.ok, q⟩
    | .cont, ⟨_, _, J, q⟩ => exact ⟨_, _, J.ofTry I.ok, q⟩
    | .ret _, ⟨_, _, _, J, r, q⟩ => exact ⟨_, _, _, J.ofTry I.ok, r, q⟩
  · rintro u s1 ⟨x, G, old, _, σ1, H1, cls, d, rfl, J, low, up, sky, fr, sys, bare, w⟩
    rw [show (X.tr (X.pn ++ pins) _).stack = X.env :: X.outer from hs] at sky
    refine L2N.Sky.land L2N.Zn.steady top hf sky fun h' fl up' => ?_
    exact Down.clauses (now := { s1 with heap := h' }) ⟨J.ofTry I.ok, low, up.trans up', fl, fr, sys, bare⟩ hs hf tk C w
end Kx.N
namespace Kx.Hot
open L2 L2H PySem PySem.Spec PyProof.Rows HotX
/-- a list walked where an error is handled -/
theorem turnL {P : Program} {w : World} {K : PySem.W.Frag} {tg : Expr} (a z : Addr) : TurnH P w K tg (Itl K a) [z] z (fun i h => h.IsListIter z a i) where
  mem := List.mem_singleton.mpr rfl
  obj := fun i h st b hb => by
    obtain rfl := List.mem_singleton.mp hb
    obtain ⟨o, e, c, d⟩ := st
    exact ⟨o, e, fun v q => by rw [d] at q; cases q⟩
  keep := fun i h h' st k => st.at fun o e => k z (List.mem_singleton.mpr rfl) o e
  item := fun X hP hw hK hc i pins s σ H E I hf st hg => by
    subst hP hw hK
    obtain ⟨xs, x, hq, hx⟩ := hg
    obtain ⟨us, rv, isL, _⟩ := I.list hq
    obtain ⟨u, hu, rz⟩ := rv.get hx
    obtain ⟨f0, f1, f2, f3, f4, f5⟩ := hf z (List.mem_singleton.mpr rfl)
    refine wpAny_pyNext_list_item st isL.isList (x := u) (by simpa using hu) fun h' st' but => ?_
    have J : Inv X pins σ H { s with heap := h' } := I.turned (t' := s.toks) (fun b o hb e => (but.2 b hb).trans e) f0 f1 f3 f4 f5
    obtain ⟨o, e, c, d⟩ := id st'
    exact ⟨u, rfl, go_of (s := { s with heap := h' }) e c d (by decide) ⟨x, H, J, rz, ⟨rfl, fun ys hy => (I.list_inj hy hq) ▸ hx⟩, st', fun b hb => (hf b hb).1⟩⟩
  done := fun X hP hw hK hc i pins s σ H E I hf st hg => by
    subst hP hw hK
    obtain ⟨xs, hq, hx⟩ := hg
    obtain ⟨us, rv, isL, _⟩ := I.list hq
    obtain ⟨f0, f1, f2, f3, f4, f5⟩ := hf z (List.mem_singleton.mpr rfl)
    have n := rv.length
    obtain ⟨x1, hot⟩ := hc.at I
    exact list_end hot st isL.isList (by simp; omega) fun h' eb => ⟨rfl, I.turned (t' := s.toks) (fun b o hb e => eb b o hb e) f0 f1 f3 f4 f5⟩
  self := fun _ _ _ _ _ st q => wpAny_pyIter_listiter st q
section
variable {X : Cx} {tg e : Expr} {te : TE}
theorem pi_listH (he : PE X e te) : PIH X tg e (iList X.K te) := by
  refine ⟨fun pins s σ H R I h => thn (he.run pins s σ H _ I h) fun u t ⟨x, H1, J, rx, a, ex, ⟨xs, hx⟩, q⟩ => ?_⟩
  subst ex
  obtain rfl := (show u = Value.ref a from rx)
  obtain ⟨_, _, isL, _⟩ := J.list hx
  refine wpAny_pyIter_list isL.isList ⟨_, [t.heap.objs.size], _, _, H1, rfl, J.kept (t' := t.toks) fun b v z => Heap.get?_push_of_some _ z, turnL a _, ⟨_, Heap.get?_push_size _ rfl, rfl, rfl⟩, fun b hb => ?_, q⟩
  obtain rfl := List.mem_singleton.mp hb
  exact J.fpOk (Nat.le_refl _) (J.hok.fresh (Nat.le_refl _))
theorem pg_tupH {es : List Expr} {k : Nat} {t : TGs} {n : Nat} {pos : Pos} (hc : HotC X) (h : PGs X es t) (hn : (assignEach es X.env).length = n := by rfl) (hst : (assignEach es X.env).findIdx? (·.1) = none := by rfl) : PG X (.Tuple es k pos) (gTup X.K n t) := by
  refine ⟨fun pins s σ H v u Q I r asked => ?_⟩
  obtain ⟨a, xs, rfl, hq, hl, hw⟩ := asked
  cases r
  obtain ⟨us, rv, isT, _⟩ := I.tuple hq
  obtain ⟨x1, hot⟩ := hc.at I
  refine tup_stored hot isT (by simp [hn, ← hl, rv.length]) hst fun h' but => ?_
  exact h.run pins _ σ H xs _ Q (I.kept (t' := s.toks) fun b o e => but b o (Nat.ne_of_lt (Heap.lt_size e)) e) (by simpa using rv) hw
end
/-! ### a def that gets the error that is handled -/
/-- what such a def promises of the error p -/
structure FnE (P : Program) (w : World) (K : PySem.W.Frag) (mg : Str → Option Value) (base : Heap) (k : Nat) (f : Addr) (fd : FuncData) (ps : List Str) (sp : Addr × Obj → Sp) : Prop where
  len : ∀ p vs H Q E, sp p vs H Q E → vs.length = ps.length
  run : ∀ (A : Around) (outer : List Env) (s : Shared) (H : Hp) (args : Args) (us : List Value) (vs : List V) (Q : VK) (p : Addr × Obj), RoomH k A → Hot1 A p → PinOk outer H s p → Env0 P w K mg base A outer s H → BindsTo s fd args (ps.zip us) → Vals vs us → sp p vs H Q (fun _ _ _ => False) →
    codeAny (model P w) A (.call (.ref f) args) (CR CX0 outer P w H s Q (fun _ _ _ => False)) s
theorem FnE.of {P : Program} {w : World} {K : PySem.W.Frag} {mg : Str → Option Value} {base : Heap} {k : Nat} {f : Addr} {fd : FuncData} {x qual : Str} {params : Arguments} {body : List Stmt} {scope : Scope} {N ps : List Str} {sp : Addr × Obj → Sp} (F : FunD K x qual params body scope [] [] f fd) (S : FnScope N ps scope)
    (len : ∀ p vs H Q E, sp p vs H Q E → vs.length = ps.length)
    (hbody : ∀ (cdv : Value) (A : Around) (outer : List Env) (s : Shared) (H : Hp) (vs : List V) (Q : VK) (p : Addr × Obj), Hot1 A p → RoomH k (A.deeper (envOfC qual scope s.heap.objs.size f cdv)) → sp p vs H Q (fun _ _ _ => False) →
      ∃ t, PSs (cxH CX0 P w K mg base N qual scope f cdv A outer s H (fun _ _ _ => False) p) body t ∧ t { nx := fun _ H' => Q .non H', rt := Q } (L2.start N vs) H) : FnE P w K mg base (k + 1) f fd ps sp := by
  obtain ⟨oc, od, dV, kV, doc, pm, an, cdv, ct, osl, rfl, lk, hcd, -, -⟩ := F.ex
  refine ⟨len, fun A outer s H args us vs Q p hr hot pin e0 hb rel asked => ?_⟩
  have n := len _ _ _ _ _ asked
  have inK : K.In s.heap := e0.mod.kin.keeps fun b o e => (e0.bs b o e).1
  have wide : s.heap.NoLimit := e0.mod.nolimit.keeps fun b o e => (e0.bs b o e).1
  have kinds : ∀ y ∈ ps.zip us, scope.names.lookup y.1 = some .local ∨ (scope.names.lookup y.1 = some .cell ∧ ((cellsFrom (s.heap.objs.size + 1) scope.names []).lookup y.1).isSome = true) := by
    rintro ⟨m, v⟩ hy
    exact (S.par m (List.of_mem_zip hy).1).imp id fun q => ⟨q, PySem.W.cellsFrom_some _ _ _ (.inl q)⟩
  refine codeAny_call_function hr.depth (inK _ _ lk) rfl S.co S.gen rfl (PySem.W.codeRec_of inK hcd) (hb _ _ _ _ ?_)
  refine wpAny_newFunctionEnv_cells S.kind kinds fun env here s1 x => ?_
  subst here
  refine ⟨wide.keeps x.toInCall.keep, codeAny_func ?_⟩
  obtain ⟨t, ht, go⟩ := hbody cdv A outer s H vs Q p hot (hr.deeper _) asked
  have I : Inv (cxH CX0 P w K mg base N qual scope f cdv A outer s H (fun _ _ _ => False) p) [] (L2.start N vs) H s1 := inv_startH S pin e0 n rel x
  refine wpAny_mono (ht.run [] s1 (L2.start N vs) H _ I go) (fun fl s' z => ?_) fun _ _ z => z
  match fl, z with
  | .ret u, ⟨v, σ', H', J, rv, q⟩ => exact ⟨v, H', J.os, J.bare, J.base, J.hok, rv, q⟩
  | .next, ⟨σ', H', J, q⟩ => exact ⟨.non, H', J.os, J.bare, J.base, J.hok, rfl, q⟩
  | .brk, ⟨_, _, _, q⟩ => exact q.elim
  | .cont, ⟨_, _, _, q⟩ => exact q.elim
structure CalE (P : Program) (w : World) (K : PySem.W.Frag) (mg : Str → Option Value) (base : Heap) (k : Nat) (x : Str) (ps : List Str) (sp : Addr × Obj → Sp) : Prop where
  ex : ∃ (f : Addr) (fd : FuncData), mg x = some (.ref f) ∧ PySem.W.keepIn K (.ref f) = true ∧ Binds K fd ps [] ∧ FnE P w K mg base k f fd ps sp
/-- f(e) in the suite that holds the error -/
theorem pe_callE {X : Cx} {k j : Nat} {x : Str} {ps : List Str} {sp : Addr × Obj → Sp} {e : Expr} {es : List Expr} {t : TA} {p pos : Pos} {a : Addr} {ob : Obj} {cls : Value} {d : Option Addr} {pn : List (Addr × Obj)} (c : CalE X.prog X.w X.K X.mg X.base k x ps sp) (hr : Room j X.A) (hz : L2N.Zn cls d ob) (hf : ∃ vs, ob.data = .fields vs)
    (ha : PA (X.suite a ((a, ob) :: pn)) (e :: es) t) (hk : k ≤ j := by decide) (hg : Gl X x := by rfl) (hdb : (x == ("__debug__" : Str)) = false := by decide)
    (hz2 : starEach (e :: es) X.env = (false, eval e X.env) :: starEach es X.env := by rfl) (hpl : (backTo pos (starEach es X.env)).any (·.1) = false := by rfl) :
    PE (X.suite a ((a, ob) :: pn)) (.Call (.Name x p) (e :: es) [] pos) (fun σ H Q => t σ H fun vs H1 => sp (a, ob) vs H1 Q (fun _ _ _ => False)) := by
  obtain ⟨f, fd, c1, c2, c3, F⟩ := c.ex
  refine ⟨fun pins s σ H Q I h => wpAny_Call_Name_kw (ld_glob (X := X.suite a ((a, ob) :: pn)) I hg c1 ?_ hdb)⟩
  refine PySem.W.callWith_K (h₀ := X.base) I.ok.mod.kin c2 (thn (ha.run pos pins s σ H _ I h) fun us s1 ⟨vs, H1, J, rel, q⟩ => ⟨J.kIn, ?_⟩) hz2 hpl
  obtain ⟨g0, n0, nL, nF, nc⟩ := J.pin (a, ob) (List.mem_append_left _ List.mem_cons_self)
  have pin : PinOk X.stack H1 s1 (a, ob) := ⟨g0, n0, fun m => (List.mem_cons.mp (J.stkSub a m)).elim nL nF, nc⟩
  have hot : Hot1 (X.suite a ((a, ob) :: pn)).A (a, ob) := ⟨rfl, hf.elim fun vs z => ⟨vs, z, hz.2.2 vs z⟩⟩
  have n : (us ++ []).length = ps.length := by rw [List.append_nil, ← rel.length]; exact F.len _ _ _ _ _ q
  have b := c3 s1 us J.kIn n
  rw [List.append_nil] at b
  have room : RoomH k (X.suite a ((a, ob) :: pn)).A := ⟨(hr.mono hk).dp, (hr.mono hk).un⟩
  refine wpAny_call (codeAny_mono (F.run _ X.stack s1 H1 ⟨us, []⟩ us vs Q (a, ob) room hot pin J.env0 b rel q) fun r s2 z => ?_)
  match r, z with
  | .error _, z => exact z.elim
  | .ok (.ret _), z => exact J.after z
  | .ok .next, z => exact z.elim
  | .ok .brk, z => exact z.elim
  | .ok .cont, z => exact z.elim
/-- isinstance(e, c), e the error that a def got -/
theorem call_isH {X : Cx} {a D d : Addr} {ob : Obj} (C : ExcC X.K D) (hp : (a, ob) ∈ X.pn) (hz : Zc (.ref D) (some d) ob) (hf : ∃ vs, ob.data = .fields vs) :
    CallR X (.builtin "isinstance") (fun xs H Q => (∃ fs, H d = some (.xd fs)) ∧ rIsE X.K D a xs H Q) := by
  rintro pins s σ H xs us Q I r ⟨⟨fs, hd⟩, c, cv, b, rfl, hcv, e, q⟩
  cases r with
  | cons rx rr =>
    cases rr with
    | cons rt rr =>
      cases rr
      cases rx
      obtain rfl := hcv _ rt
      obtain ⟨g0, -⟩ := I.pin (a, ob) (List.mem_append_left _ hp)
      obtain ⟨vs, hv⟩ := hf
      obtain ⟨mA, hns, _⟩ := (show ObjOk X.prog X.w H s.heap d (.xd fs) from I.hok d _ hd)
      obtain ⟨od, hod, _⟩ := lookIn_ns hns
      have J : PySem.W.InstAt s.heap a ob D (some od) := by
        obtain ⟨c1, c2, c3, c4⟩ := ob
        obtain ⟨z1, z2⟩ := hz
        dsimp only at z1 z2 hv
        subst z1 z2 hv
        exact ⟨g0, rfl, rfl, hod⟩
      have cl : (PySem.W.clsIn X.K D).isSome = true := by
        obtain ⟨cd, hc, _⟩ := PySem.W.any_some C.hd
        rw [hc]
        rfl
      exact PySem.W.kia_one (PySem.W.kitx_exc cl C.hg C.hk C.hs C.ha C.hn C.ht C.hm) I.kIn J e (fun z => nomatch z) fun tk => ⟨.bl b, H, I.kept (t' := tk) fun _ _ z => z, rfl, q⟩
end Kx.Hot
/-! the text by places -/
namespace KT
open L2 PySem PySem.Spec PyProof.Rows Kx
def top (i : Nat) : Stmt := PySem.Challenge.pw_onewitness_k10_machines_that_forget_and.main.body.getD i (.Pass ⟨0, 0, 0, 0⟩)
abbrev s_BadMachine_init : Stmt := inClass (top 2) 0
abbrev s_BadShowing_init : Stmt := inClass (top 3) 0
abbrev s_Refused_init : Stmt := inClass (top 4) 0
abbrev s_TooGreat_init : Stmt := inClass (top 5) 0
abbrev s_Forgets_init : Stmt := inClass (top 6) 0
abbrev s_NoState_init : Stmt := inClass (top 7) 0
abbrev s_is_number : Stmt := top 11
abbrev s_is_below : Stmt := top 12
abbrev s_is_sequence : Stmt := top 13
abbrev s_first_not_below : Stmt := top 14
abbrev s_are_deeds : Stmt := top 15
abbrev s_ended : Stmt := top 16
abbrev s_Walk_init : Stmt := inClass (top 17) 0
abbrev s_Walk_point : Stmt := inClass (top 17) 1
abbrev s_Walk_all_points : Stmt := inClass (top 17) 2
abbrev s_Walk_row_to : Stmt := inClass (top 17) 3
abbrev s_Walk_go_on : Stmt := inClass (top 17) 4
abbrev s_Walk_come : Stmt := inClass (top 17) 5
abbrev s_Walk_later : Stmt := inClass (top 17) 6
abbrev s_Counters_init : Stmt := inClass (top 21) 0
abbrev s_Counters_eq : Stmt := inClass (top 21) 1
abbrev s_are_rests : Stmt := top 22
abbrev s_need_fit : Stmt := top 23
abbrev s_is_finite : Stmt := top 24
abbrev s_shows : Stmt := top 25
abbrev s_showing_of : Stmt := top 26
abbrev s_shown_of : Stmt := top 27
abbrev s_can_show : Stmt := top 28
abbrev s_check_showing : Stmt := top 29
abbrev s_Machine_init : Stmt := inClass (top 31) 0
abbrev s_Machine_eq : Stmt := inClass (top 31) 1
abbrev s_is_table : Stmt := top 32
abbrev s_need_state : Stmt := top 33
abbrev s_in_coming_order : Stmt := top 34
abbrev s_reached : Stmt := top 35
abbrev s_forgotten : Stmt := top 36
abbrev s_need_exchanges : Stmt := top 37
abbrev s_circle : Stmt := top 39
abbrev s_moved : Stmt := top 40
abbrev s_moved_by : Stmt := top 41
abbrev s_deed_pairs : Stmt := top 42
abbrev s_least_parting : Stmt := top 43
abbrev s_top : Stmt := top 44
abbrev s_first_together : Stmt := top 45
abbrev s_all_moved : Stmt := top 46
abbrev s_settled : Stmt := top 47
abbrev s_lots_of : Stmt := top 49
abbrev s_lot_with : Stmt := top 50
abbrev s_fold_size : Stmt := top 51
abbrev s_fold_values : Stmt := top 52
abbrev s_lot_shown : Stmt := top 53
abbrev s_told_state : Stmt := top 54
abbrev s_open_lots : Stmt := top 55
abbrev s_open_lot : Stmt := top 56
abbrev s_needed_values : Stmt := top 57
abbrev s_lot_rows : Stmt := top 58
abbrev s_rows_hold : Stmt := top 59
abbrev s_values_hold : Stmt := top 60
abbrev s_law_box : Stmt := top 62
abbrev s_law_take : Stmt := top 63
abbrev s_law_pick : Stmt := top 64
abbrev s_law_mixed : Stmt := top 65
abbrev s_law_exchange : Stmt := top 66
abbrev s_law_tables : Stmt := top 67
abbrev s_law_come : Stmt := top 68
abbrev s_law_heard : Stmt := top 69
abbrev s_law_forgets : Stmt := top 70
abbrev s_law_asks : Stmt := top 71
abbrev s_law_walks : Stmt := top 72
abbrev s_law : Stmt := top 73
abbrev FnP (K : PySem.W.Frag) (x : Str) (st : Stmt) (f : Addr) (fd : FuncData) : Prop := FunD K x x (defArgs st) (defBody st) (defScope st) [] [] f fd
/-- the built-in names that the module leaves alone, its numbers -/
structure Mg (mg : Str → Option Value) : Prop where
  z_KeyError : mg "KeyError" = none
  z_ValueError : mg "ValueError" = none
  z_abs : mg "abs" = none
  z_all : mg "all" = none
  z_bool : mg "bool" = none
  z_enumerate : mg "enumerate" = none
  z_int : mg "int" = none
  z_isinstance : mg "isinstance" = none
  z_len : mg "len" = none
  z_list : mg "list" = none
  z_max : mg "max" = none
  z_range : mg "range" = none
  z_repr : mg "repr" = none
  z_reversed : mg "reversed" = none
  z_sorted : mg "sorted" = none
  z_tuple : mg "tuple" = none
  z_zip : mg "zip" = none
  g_DEEDS_MOST : ∃ t, mg "DEEDS_MOST" = some (.int 4 t)
  g_STATES_MOST : ∃ t, mg "STATES_MOST" = some (.int 8 t)
  g_ROUND_MOST : ∃ t, mg "ROUND_MOST" = some (.int 60 t)
  g_REST_MOST : ∃ t, mg "REST_MOST" = some (.int 6 t)
theorem pe_constI {X : Cx} {x : Str} {i : Int} {pos : Pos} (h : ∃ t, X.mg x = some (.int i t)) (hg : Gl X x := by rfl) (hd : (x == ("__debug__" : Str)) = false := by decide) : PE X (.Name x pos) (tC (.int i)) := by
  obtain ⟨t, ht⟩ := h
  exact pe_glob hg ht ⟨t, rfl⟩ hd
theorem pe_ty {X : Cx} {x : Str} {n : String} {pos : Pos} (hm : X.mg x = none) (hv : bootBuiltins x = some (.type n)) (hg : Gl X x := by rfl) (hn : x ≠ "__name__" := by decide) (hd : (x == ("__debug__" : Str)) = false := by decide) : PE X (.Name x pos) (tC (.ty n)) :=
  pe_bltn hg hm hv rfl hn hd
theorem bt_int : bootBuiltins "int" = some (.type "int") := by decide +kernel
theorem bt_bool : bootBuiltins "bool" = some (.type "bool") := by decide +kernel
theorem bt_list : bootBuiltins "list" = some (.type "list") := by decide +kernel
theorem bt_tuple : bootBuiltins "tuple" = some (.type "tuple") := by decide +kernel
end KT
/-! t.count(k): a tuple known to have no attributes of its own; tuple(xs) makes such a one. -/
namespace Kx
open L2 PySem PySem.Spec PyProof.Rows
/-- a tuple without attributes -/
def TupD (H : Hp) (a : Addr) (xs : List V) : Prop := ∃ o : Obj, H a = some (.frz o (.tup xs)) ∧ o.dict = none
def SqD (K : PySem.W.Frag) (H : Hp) (a : Addr) (xs : List V) : Prop := SqL K H a xs ∨ TupD H a xs
section
variable {K : PySem.W.Frag} {H H' : Hp} {a : Addr} {xs : List V}
theorem TupD.sqT (h : TupD H a xs) : SqT K H a xs := h.elim fun o h => .inl (.inr ⟨o, h.1⟩)
theorem TupD.same (e : Same H H') (h : TupD H a xs) : TupD H' a xs := h.elim fun o h => ⟨o, e _ _ h.1, h.2⟩
theorem SqD.sq (h : SqD K H a xs) : Sq K H a xs := h.imp id TupD.sqT
theorem SqD.same (e : Same H H') (h : SqD K H a xs) : SqD K H' a xs := h.imp (sqL_same e) (TupD.same e)
end
section
variable {X : Cx}
/-- tuple(xs) -/
theorem call_tupD : CallR X (.type "tuple") (fun xs H Q => ∃ p ys, xs = [.ref p] ∧ SqD X.K H p ys ∧ ∀ q H', Same H H' → TupD H' q ys → Q (.ref q) H') := by
  intro pins st σ H xs us Q I r h
  obtain ⟨p, ys, rfl, h, q⟩ := h
  rcases h with hq | hq
  · obtain ⟨u, rfl, rx⟩ := vals1 r
    obtain rfl : u = .ref p := rx
    obtain ⟨its, rv, pl, fits⟩ := I.list hq
    have len := rv.length
    refine call_tuple_list pl.isList (fun mem kp => ?_) (by simp only [List.size_toArray]; omega)
    have J : Inv X pins σ H { st with heap := mem } := I.kept (t' := st.toks) kp
    have here := Heap.get?_push_size (h := mem) (o := { cls := .type "tuple", data := .seq its.toArray }) rfl
    have J2 : Inv X pins σ (upd H mem.objs.size (.frz { cls := .type "tuple", data := .seq its.toArray } (.tup ys))) { st with heap := mem.push { cls := .type "tuple", data := .seq its.toArray } } :=
      J.laid (t' := st.toks) (fun b o e => Heap.get?_push_of_some _ e) (Nat.le_refl _) ⟨here, fits, its, rv, IsTup.new _ _⟩
    exact ⟨.ref mem.objs.size, _, J2, rfl, q _ _ (same_new (J.hok.fresh (Nat.le_refl _))) ⟨_, upd_same, rfl⟩⟩
  · exact call_tuple_of pins st σ H _ us Q I r ⟨p, ys, rfl, .inr ⟨hq.sqT, q p H (Same.refl H) hq⟩⟩
/-- t.count(k) -/
def tCount (to : TE) (t : TA) : TE := fun σ H Q => to σ H fun x H1 => ∃ (p : Addr) (ns : List Int), x = .ref p ∧ TupD H1 p (ns.map V.int) ∧ t σ H1 fun ks H2 => ∃ k : Int, ks = [.int k] ∧ Same H1 H2 ∧ Q (.int (ns.count k : Nat)) H2
theorem pe_count {o e : Expr} {to : TE} {t : TA} {apos cpos : Pos} (ho : PE X o to) (ha : PA X [e] t)
    (hbase : attributeBase o "count" X.env (eval o X.env) = eval o X.env := by rfl)
    (hfew : ((backTo cpos (starEach [e] X.env)).all (fun x => !x.1) && (backToKw cpos (keywordEach [] X.env)).all (fun x => x.1.isSome) && decide ([e].length + ([] : List Keyword).length + (if ([] : List Keyword).isEmpty then 0 else 1) < 30)) = true := by rfl)
    (hline : (apos.endLine == cpos.line) = true := by exact rfl)
    (hs : starEach [e] X.env = (false, eval e X.env) :: starEach [] X.env := by rfl) (hplain : (backTo cpos (starEach [] X.env)).any (·.1) = false := by rfl) :
    PE X (.Call (.Attribute o "count" apos) [e] [] cpos) (tCount to t) := by
  refine ⟨fun pins st σ H Q I h => ?_⟩
  refine wpAny_Call_method_late hbase hfew hline rfl (thn (ho.run pins st σ H _ I h) fun v s1 ⟨x, H1, I1, r1, p, ns, ex, ⟨o, hp, od⟩, q1⟩ => ?_)
  subst ex
  obtain rfl : v = .ref p := r1
  obtain ⟨at_, _, its, rv, ⟨ot, ot1, ot2, _⟩⟩ := (show ObjOk X.prog X.w H1 s1.heap p (.frz o (.tup (ns.map V.int))) from I1.hok p _ hp)
  rw [at_] at ot1
  cases ot1
  refine ⟨"tuple", "tuple.count", PySem.F.plainAttrs_tuple, PySem.F.slot_tuple_count, PySem.F.type_tuple_count, ⟨o, at_, ot2⟩, fun a ea => ?_, ?_⟩
  · cases ea
    exact ⟨o, at_, od⟩
  have arg := ha.run cpos pins s1 σ H1 _ I1 q1
  rw [hs] at arg ⊢
  have plain : (false || (backTo cpos (starEach [] X.env)).any (·.1)) = false := by rw [hplain] <;> rfl
  refine Calls.callWith_builtin plain (Calls.evalArgs_plain ?_)
  refine thn arg fun us s2 ⟨ks, H2, I2, r2, k, ek, sm, q2⟩ => ?_
  subst ek
  obtain ⟨u, rfl, ru⟩ := r2.one
  obtain ⟨tk, rfl⟩ := ru
  obtain ⟨o2, hp2, od2⟩ := TupD.same sm (show TupD H1 p (ns.map V.int) from ⟨o, hp, od⟩)
  obtain ⟨at2, _, its2, rv2, ⟨ot2', ot3, ot4, n2, ot5⟩⟩ := (show ObjOk X.prog X.w H2 s2.heap p (.frz o2 (.tup (ns.map V.int))) from I2.hok p _ hp2)
  rw [at2] at ot3
  cases ot3
  obtain ⟨cls, dct, data, slo⟩ := o2
  simp only at ot4 ot5
  subst ot4 ot5
  have hi := ints_of_vals rv2
  refine call_meets PySem.F.slot_tuple_count ⟨_, at2, rfl⟩ PySem.F.entry_tuple_count (PySem.F.args_tuple_count_2 _ _)
    (SeqAt.tuple_countAt p its2.toArray n2 dct slo (.int k tk) (eqk k)) ⟨at2, fun y hy => (eqk_gives hi y (by simpa using hy)).at _ _, ?_⟩
  have ec : its2.toArray.toList.countP (eqk k) = ns.count k := eqk_count hi
  refine ⟨.int (ns.count k : Nat), H2, I2.tok _, ⟨s2.toks, ?_⟩, q2⟩
  rw [ec]
end
end Kx
/-! a tuple, that is not empty, times 0, 1, more -/
namespace Kx
open L2 PySem PySem.Spec PyProof.Rows
theorem times_one (t : Addr) (its : Array Value) (n : Nat) (dct : Option Addr) (slo : Array (Option Value)) (tk : Tok) :
    Meets (Builtin.«tuple.__mul__» ⟨[.ref t, .int 1 tk], []⟩) (fun _ R s => s.heap.get? t = some { cls := .type "tuple", dict := dct, data := .seq its n, slots := slo } ∧ R (.ok (.ret (.ref t))) s) :=
  .of_wp fun prog wo A R s h => by
    obtain ⟨mem, g, d, k, os⟩ := s
    obtain ⟨here, h⟩ := h
    have idx := AutoSeq1.idx_int
    have yes : (its.isEmpty || (1 : Int) == 1) = true := by rw [Bool.or_eq_true]; exact .inr rfl
    wp_walk using wpAny_loadPart' here
    repeat (first
      | (refine wpAny_ite_false (by decide) ?_; wp_walk using wpAny_loadPart' here)
      | (refine wpAny_ite_true (decide_eq_true yes) ?_; wp_walk using wpAny_loadPart' here))
    exact ⟨_, rfl, h⟩
theorem times_nought (t : Addr) (its : Array Value) (n : Nat) (dct : Option Addr) (slo : Array (Option Value)) (tk : Tok) (some_ : its.isEmpty = false) :
    Meets (Builtin.«tuple.__mul__» ⟨[.ref t, .int 0 tk], []⟩) (fun _ R s => s.heap.get? t = some { cls := .type "tuple", dict := dct, data := .seq its n, slots := slo } ∧ R (.ok (.ret (.ref s.heap.objs.size))) { s with heap := s.heap.push { cls := .type "tuple", data := .seq #[] } }) :=
  .of_wp fun prog wo A R s h => by
    obtain ⟨mem, g, d, k, os⟩ := s
    obtain ⟨here, h⟩ := h
    have idx := AutoSeq1.idx_int
    have no : (its.isEmpty || (0 : Int) == 1) = false := by rw [some_]; rfl
    have yes : (decide ((0 : Int) ≤ 0) || its.isEmpty) = true := rfl
    wp_walk using wpAny_loadPart' here
    repeat (first
      | (refine wpAny_ite_false (by decide) ?_; wp_walk using wpAny_loadPart' here)
      | (refine wpAny_ite_false (decide_eq_false (by rw [no]; exact Bool.false_ne_true)) ?_; wp_walk using wpAny_loadPart' here)
      | (refine wpAny_ite_true (decide_eq_true yes) ?_; wp_walk using wpAny_loadPart' here))
    exact ⟨_, rfl, h⟩
/-- t * k, t not empty -/
def rTimes (K : PySem.W.Frag) : R2 := fun x y H Q => ∃ (t : Addr) (k : Nat) (xs : List V), x = .ref t ∧ y = .int (k : Int) ∧ SqT K H t xs ∧ xs ≠ [] ∧ k ≤ 1000 ∧ xs.length ≤ 1000 ∧
  ∀ p H', Same H H' → SqT K H' p (List.replicate k xs).flatten → Q (.ref p) H'
theorem op_times {X : Cx} : OpR X (binaryOp .Mult) (rTimes X.K) := by
  intro pins st σ H x y v u Q I rx ry h
  obtain ⟨t, k, xs, rfl, rfl, hT, ne, hk, hz, q⟩ := h
  match k with
  | k + 2 =>
    refine op_repT pins st σ H _ _ v u Q I rx ry ⟨t, _, xs, rfl, rfl, hT, ne, by omega, by omega, hz, fun p hp => ?_⟩
    exact q p _ (same_new hp) (SqT.of upd_same)
  | 1 =>
    cases rx
    obtain ⟨tk, rfl⟩ := ry
    obtain ⟨its, r, ⟨⟨cls, dct, data, slo⟩, ho, hc, n, hd⟩, hs⟩ := I.tuple hT
    simp only at hc hd
    subst hc hd
    refine wpAny_binaryOp_repeat_ref (T := "tuple") (U := "int") (by decide) ⟨_, ho, rfl⟩ (fun s' => typeIs_int s' 1 tk) noFill_tuple_mul F.fills_int_mul F.slot_int_rmul repeat_tuple F.slot_int_index.lookup
      (call_meets F.slot_int_rmul (typeIs_int st 1 tk) F.entry_int_rmul (F.args_int_rmul_2 _ _) (int_rmul_tuple 1 tk t its.toArray n dct slo)
        ⟨ho, rfl, ⟨_, ho, rfl⟩, call_meets F.slot_tuple_mul ⟨_, ho, rfl⟩ F.entry_tuple_mul (F.args_tuple_mul_2 _ _) (times_one t its.toArray n dct slo tk) ⟨ho, ?_⟩⟩)
    have e : (List.replicate 1 xs).flatten = xs := by simp
    rw [e] at q
    exact ⟨.ref t, H, I, rfl, q t H (Same.refl H) hT⟩
  | 0 =>
    cases rx
    obtain ⟨tk, rfl⟩ := ry
    obtain ⟨its, r, ⟨⟨cls, dct, data, slo⟩, ho, hc, n, hd⟩, hs⟩ := I.tuple hT
    simp only at hc hd
    subst hc hd
    have full : its.toArray.isEmpty = false := by
      cases its with
      | nil =>
        cases r
        exact absurd rfl ne
      | cons a b => rfl
    refine wpAny_binaryOp_repeat_ref (T := "tuple") (U := "int") (by decide) ⟨_, ho, rfl⟩ (fun s' => typeIs_int s' 0 tk) noFill_tuple_mul F.fills_int_mul F.slot_int_rmul repeat_tuple F.slot_int_index.lookup
      (call_meets F.slot_int_rmul (typeIs_int st 0 tk) F.entry_int_rmul (F.args_int_rmul_2 _ _) (int_rmul_tuple 0 tk t its.toArray n dct slo)
        ⟨ho, rfl, ⟨_, ho, rfl⟩, call_meets F.slot_tuple_mul ⟨_, ho, rfl⟩ F.entry_tuple_mul (F.args_tuple_mul_2 _ _) (times_nought t its.toArray n dct slo tk full) ⟨ho, ?_⟩⟩)
    refine ⟨.ref st.heap.objs.size, _, I.laid (t' := st.toks) (o := .tup []) (fun b ob q => Heap.get?_push_of_some _ q) (Nat.le_refl _) ?_, rfl, q _ _ (same_new (I.hok.fresh (Nat.le_refl _))) (SqT.of upd_same)⟩
    exact ⟨Nat.zero_le _, _, .nil, IsTup.new _ _⟩
end Kx
/-! an own ==, and the != that comes of it: both answers. -/
namespace Kx
open L2 PySem PySem.Spec PyProof.Rows
/-- x == y (x != y), x an instance of the class at C, y another one or a tuple: what its own == promises, by k the answer -/
def rOwnAsk (K : PySem.W.Frag) (C : Addr) (sp : Sp) (E : XK) (neg : Bool) : R2 := fun x y H Q => ∃ (a b dx : Addr) (fs : List (Str × V)), x = .ref a ∧ y = .ref b ∧ H a = some (.ins C dx fs) ∧
  ((∃ (dy : Addr) (gs : List (Str × V)), H b = some (.ins C dy gs)) ∨ (neg = false ∧ (∃ ys, SqT K H b ys) ∧ PySem.W.notFirst K C (.type "tuple") = true)) ∧
  sp [x, y] H (fun v H' => ∃ k, v = .bl k ∧ Q (.bl (neg != k)) H') E
/-- what ==, != ask of the class at C, whose own == is at f -/
structure EqC (K : PySem.W.Frag) (C f : Addr) : Prop where
  eq : PySem.W.findIn K (.ref C) "__eq__" = some (some (.ref f))
  isFn : PySem.W.isFn K (.ref f) = true
  ne : ∃ (nm q : Str) (N : Addr) (bs : List Value) (hdct : Bool) (sn : List Str) (sub : List Value) (ab : Bool) (col : Option Bool) (dd : Option Addr) (k0 k1 k2 k3 k5 : Option Value) (newId : String) (oN oF : Obj) (es : Array DictEntry) (ep : Nat),
    K.lookup C = some (excClassObj nm q C N bs [.type "object"] hdct sn sub ab col dd k0 k1 k2 k3 k5 newId) ∧ K.lookup N = some oN ∧ oN.data = .dict es ep ∧ StrKeys es ∧ nsFind es "__eq__" = some (.ref f) ∧ nsFind es "__ne__" = none ∧ K.lookup f = some oF ∧ oF.cls = .type "function"
section
variable {X : Cx} {CX : CXT} {C f : Addr} {fd : FuncData} {ps : List Str} {n : Nat} {sp : Sp} {E : XK}
theorem own_eq (F : FnOk X.prog X.w X.K X.mg X.base CX n f fd ps sp) (T : EqC X.K C f) (hb : Binds X.K fd ps []) (hr : Room n X.A) (hx : Passes CX X E) : OpR X (compareOp .Eq) (rOwnAsk X.K C sp E false) := by
  intro pins st σ H x y v u Q I rx ry h
  obtain ⟨a, b, dx, fs, rfl, rfl, ha, hy, q⟩ := h
  obtain rfl : v = .ref a := rx
  obtain rfl : u = .ref b := ry
  obtain ⟨m1, J, _⟩ := ins_get I.hok ha
  obtain ⟨od, J, _⟩ := J.look
  obtain ⟨m, hF⟩ := I.fr
  have go : wpAny (model X.prog X.w) X.A (call (.ref f) [.ref a, .ref b]) (PySem.W.CmpBack (EP X pins σ Q)) X.xe st := by
    have hl := F.len _ _ _ _ q
    have both : Vals [V.ref a, V.ref b] [.ref a, .ref b] := .cons rfl (.cons rfl .nil)
    refine wpAny_call (codeAny_mono (F.run X.A X.stack st H ⟨[.ref a, .ref b], []⟩ [.ref a, .ref b] [.ref a, .ref b] _ E hr I.env0 (by
      have := hb st [.ref a, .ref b] I.kIn (by simpa using hl)
      simpa using this) both q) fun r s' z => ?_)
    match r, z with
    | .error e, z => exact hx pins σ H st e s' I z
    | .ok (.ret w), z =>
      obtain ⟨z', H', I', rz, k, ez, qz⟩ := I.after z
      subst ez
      cases rz
      refine (show EP X pins σ Q (.bool k) s' from ⟨.bl k, H', I', rfl, ?_⟩)
      have e : (false != k) = k := by cases k <;> rfl
      rw [e] at qz
      exact qz
    | .ok .next, z => exact z.elim
    | .ok .brk, z => exact z.elim
    | .ok .cont, z => exact z.elim
  show wpAny (model X.prog X.w) X.A (richCompare .Eq (.ref a) (.ref b)) (EP X pins σ Q) X.xe st
  rcases hy with ⟨dy, gs, hb'⟩ | ⟨_, ⟨ys, hT⟩, nf⟩
  · obtain ⟨m2, J2, _⟩ := ins_get I.hok hb'
    obtain ⟨od2, J2, _⟩ := J2.look
    exact PySem.W.cmp_K (op := .Eq) (tb := .ref C) hr.units0 hF I.ok.mod.kin J J2.type (by simp [PySem.W.notFirst]) T.eq T.isFn go
  · obtain ⟨its, _, ⟨o, ho, hc, _⟩, _⟩ := I.tuple hT
    exact PySem.W.cmp_K (op := .Eq) (tb := .type "tuple") hr.units0 hF I.ok.mod.kin J (fun A' Q' E' s' kp q' => wpAny_typeOf_ref (kp _ _ ho) (by rw [hc]; exact q')) nf T.eq T.isFn go
theorem own_ne (F : FnOk X.prog X.w X.K X.mg X.base CX n f fd ps sp) (T : EqC X.K C f) (hb : Binds X.K fd ps []) (hr : Room (n + 1) X.A) (hx : Passes CX X E) : OpR X (compareOp .NotEq) (rOwnAsk X.K C sp E true) := by
  intro pins st σ H x y v u Q I rx ry h
  obtain ⟨a, b, dx, fs, rfl, rfl, ha, hy, q⟩ := h
  obtain rfl : v = .ref a := rx
  obtain rfl : u = .ref b := ry
  obtain ⟨dy, gs, hb'⟩ : ∃ (dy : Addr) (gs : List (Str × V)), H b = some (.ins C dy gs) := hy.elim id fun z => nomatch z.1
  obtain ⟨m1, J, _⟩ := ins_get I.hok ha
  obtain ⟨m2, J2, _⟩ := ins_get I.hok hb'
  obtain ⟨od, J, _⟩ := J.look
  obtain ⟨od2, J2, _⟩ := J2.look
  obtain ⟨nm, qn, N, bs, hdct, sn, sub, ab, col, dd, k0, k1, k2, k3, k5, newId, oN, oF, es, ep, hC, hN, dN, sk, e1, e2, hF, cF⟩ := T.ne
  have O : st.heap.OwnEqNoNe a C f "object" [.type "object"] := ⟨_, oF, nm, qn, N, bs, hdct, sn, sub, ab, col, dd, k0, k1, k2, k3, k5, newId, fun y => nsFind es y, _, J.at_, J.cls, I.kIn _ _ hC, ⟨oN, es, ep, I.kIn _ _ hN, dN, sk, fun _ => rfl⟩, e1, I.kIn _ _ hF, cF, PySem.F.cmp_object.mro, PySem.F.cmp_object.eq.lookup, e2⟩
  obtain ⟨hp, g, d, t, os⟩ := st
  refine compareOp_ne_ownEq PySem.F.cmp_object O J2.at_ J2.cls (by have := hr.un; omega) ?_
  have hl := F.len _ _ _ _ q
  have both : Vals [V.ref a, V.ref b] [.ref a, .ref b] := .cons rfl (.cons rfl .nil)
  refine wpAny_call (codeAny_mono (F.run X.A.in1 X.stack _ H ⟨[.ref a, .ref b], []⟩ [.ref a, .ref b] [.ref a, .ref b] _ E hr.in1 I.env0.in1 (by
    have := hb ⟨hp, g, d, t, os⟩ [.ref a, .ref b] I.kIn (by simpa using hl)
    simpa using this) both q) fun r s' z => ?_)
  match r, z with
  | .error e, z => exact hx pins σ H _ e s' I z
  | .ok (.ret w), z =>
    obtain ⟨z', H', I', rz, k, ez, qz⟩ := I.after z
    subst ez
    cases rz
    refine ⟨k, rfl, .bl (!k), H', I', rfl, ?_⟩
    have e : (true != k) = !k := by cases k <;> rfl
    rw [e] at qz
    exact qz
  | .ok .next, z => exact z.elim
  | .ok .brk, z => exact z.elim
  | .ok .cont, z => exact z.elim
end
end Kx
/-! tuples of whole numbers, and tuples of such: as data, ==, != -/
namespace Kx
open L2 PySem PySem.Spec PyProof.Rows
abbrev dNums (ns : List Int) : PyData := .tuple (ns.map PyData.int)
abbrev dRows (rs : List (List Int)) : PyData := .tuple (rs.map dNums)
theorem dpAll_nums {K : PySem.W.Frag} {H : Hp} : ∀ (ns : List Int), DpAll K H (ns.map V.int) (ns.map PyData.int)
  | [] => .nil
  | n :: ns => .cons (.int n) (dpAll_nums ns)
theorem dp_nums {K : PySem.W.Frag} {H : Hp} {a : Addr} {ns : List Int} (h : SqT K H a (ns.map V.int)) : Dp K H (.ref a) (dNums ns) := .tup h (dpAll_nums ns)
theorem lay_nums : ∀ (ns : List Int), PyData.canLayAll0 (ns.map PyData.int) = true
  | [] => by simp only [List.map_nil, PyData.canLayAll0]
  | n :: ns => by simp only [List.map_cons, PyData.canLayAll0, PyData.canLay0, lay_nums ns, Bool.and_self]
theorem deep_nums : ∀ (ns : List Int), PyData.depthAll (ns.map PyData.int) = 0
  | [] => by simp only [List.map_nil, PyData.depthAll]
  | n :: ns => by simp only [List.map_cons, PyData.depthAll, PyData.depth, deep_nums ns, Nat.max_self]
theorem shaped_nums (ns : List Int) : SeqAt.shaped (dNums ns) = true := by
  unfold SeqAt.shaped
  simp only [PyData.canLay0, PyData.depth, lay_nums, deep_nums]
  decide
theorem eqv_nums : ∀ (xs ys : List Int), PyData.eqvAll (xs.map PyData.int) (ys.map PyData.int) = decide (xs = ys)
  | [], ys => by cases ys <;> simp [PyData.eqvAll]
  | n :: ns, [] => by simp [PyData.eqvAll]
  | x :: xs, y :: ys => by
    simp only [List.map_cons, PyData.eqvAll, PyData.eqv, eqv_nums xs ys]
    rw [Bool.eq_iff_iff]
    simp
theorem lay_rows : ∀ (rs : List (List Int)), PyData.canLayAll0 (rs.map dNums) = true
  | [] => by simp only [List.map_nil, PyData.canLayAll0]
  | n :: ns => by simp only [List.map_cons, PyData.canLayAll0, PyData.canLay0, lay_nums, lay_rows ns, Bool.and_self]
theorem deep_rows : ∀ (rs : List (List Int)), PyData.depthAll (rs.map dNums) ≤ 1
  | [] => by simp only [List.map_nil, PyData.depthAll]; decide
  | n :: ns => by
    have := deep_rows ns
    simp only [List.map_cons, PyData.depthAll, PyData.depth, deep_nums]
    omega
theorem shaped_rows (rs : List (List Int)) : SeqAt.shaped (dRows rs) = true := by
  unfold SeqAt.shaped
  have := deep_rows rs
  simp only [PyData.canLay0, PyData.depth, lay_rows, Bool.true_and]
  exact decide_eq_true (show _ ≤ 64 by omega)
theorem eqv_rows : ∀ (xs ys : List (List Int)), PyData.eqvAll (xs.map dNums) (ys.map dNums) = decide (xs = ys)
  | [], ys => by cases ys <;> simp [PyData.eqvAll]
  | n :: ns, [] => by simp [PyData.eqvAll]
  | x :: xs, y :: ys => by
    simp only [List.map_cons, PyData.eqvAll, PyData.eqv, eqv_nums x y, eqv_rows xs ys]
    rw [Bool.eq_iff_iff]
    simp
/-- t == u, t != u: tuples of whole numbers -/
def rNumsEq (K : PySem.W.Frag) (neg : Bool) : R2 := fun x y H Q => ∃ (a b : Addr) (xs ys : List Int), x = .ref a ∧ y = .ref b ∧ SqT K H a (xs.map V.int) ∧ SqT K H b (ys.map V.int) ∧ Q (.bl (neg != decide (xs = ys))) H
theorem op_eqNums {X : Cx} (hu : X.A.units + 64 < cLine) : OpR X (compareOp .Eq) (rNumsEq X.K false) := by
  intro pins st σ H x y v u Q I rx ry h
  obtain ⟨a, b, xs, ys, rfl, rfl, h1, h2, q⟩ := h
  refine op_eqD hu pins st σ H _ _ v u Q I rx ry ⟨_, _, dp_nums h1, dp_nums h2, shaped_nums xs, shaped_nums ys, ?_⟩
  simp only [PyData.eqv, eqv_nums]
  rwa [Bool.false_bne] at q
theorem op_neNums {X : Cx} (hu : X.A.units + 64 < cLine) : OpR X (compareOp .NotEq) (rNumsEq X.K true) := by
  intro pins st σ H x y v u Q I rx ry h
  obtain ⟨a, b, xs, ys, rfl, rfl, h1, h2, q⟩ := h
  refine op_neD hu pins st σ H _ _ v u Q I rx ry ⟨_, _, dp_nums h1, dp_nums h2, shaped_nums xs, shaped_nums ys, ?_⟩
  simp only [PyData.eqv, eqv_nums]
  rwa [Bool.true_bne] at q
end Kx
/-! numbers, sequences, rows -/
namespace KT
open PySem PySem.Spec PyProof.Rows L2 Kx
def isNum : V → Bool
  | .int i => decide (0 ≤ i)
  | _ => false
def isBel (l : Int) : V → Bool
  | .int i => decide (0 ≤ i) && decide (i < l)
  | _ => false
/-- what a value of known kind is as a sequence: its items, none where it is none -/
inductive Long (K : PySem.W.Frag) (H : Hp) : V → Option (List V) → Prop
  | seq {a : Addr} {xs : List V} (h : Sq K H a xs) : Long K H (.ref a) (some xs)
  | non : Long K H .non none
  | bl (b : Bool) : Long K H (.bl b) none
  | int (i : Int) : Long K H (.int i) none
  | str (x : Str) : Long K H (.str x) none
def inLen (l m : Int) : Option (List V) → Bool
  | some xs => decide (l ≤ (xs.length : Int)) && decide ((xs.length : Int) ≤ m)
  | none => false
theorem Long.same {K : PySem.W.Frag} {H H' : Hp} {v : V} {o : Option (List V)} (e : Same H H') (h : Long K H v o) : Long K H' v o := by
  cases h with
  | seq q => exact .seq (q.same e)
  | non => exact .non
  | bl b => exact .bl b
  | int i => exact .int i
  | str x => exact .str x
theorem Kn.long {K : PySem.W.Frag} {H : Hp} {v : V} (h : Kn K H v) : ∃ o, Long K H v o := by
  cases h with
  | seq q => exact ⟨_, .seq q⟩
  | non => exact ⟨_, .non⟩
  | bl b => exact ⟨_, .bl b⟩
  | int i => exact ⟨_, .int i⟩
  | str x => exact ⟨_, .str x⟩
theorem Long.kn {K : PySem.W.Frag} {H : Hp} {v : V} {o : Option (List V)} (h : Long K H v o) : Kn K H v := by
  cases h with
  | seq q => exact .seq q
  | non => exact .non
  | bl b => exact .bl b
  | int i => exact .int i
  | str x => exact .str x
/-- the first item that is not below l -/
def fnb (l : Int) : List V → Option Nat
  | [] => none
  | x :: xs => if isBel l x = true then (fnb l xs).map (· + 1) else some 0
def optV : Option Nat → V
  | some n => .int n
  | none => .non
/-- none: a row of deeds below n; else where it is wrong -/
def rowAt (n : Int) : Option (List V) → Option Int
  | some xs => if xs.length ≤ 400 then (fnb n xs).map (fun (i : Nat) => (i : Int)) else some (-1)
  | none => some (-1)
/-- every item is of a known kind, where the sequence is no longer than m -/
def Kns (K : PySem.W.Frag) (H : Hp) (o : Option (List V)) (m : Nat) : Prop := ∀ xs, o = some xs → xs.length ≤ m → ∀ x ∈ xs, Kn K H x
theorem Kns.same {K : PySem.W.Frag} {H H' : Hp} {o : Option (List V)} {m : Nat} (e : Same H H') (h : Kns K H o m) : Kns K H' o m := fun xs q l x hx => (h xs q l x hx).same e
/-- an error C of the one field f is raised -/
def Thrown (E : XK) (H : Hp) (C : Addr) (f : Str) (v : V) : Prop := ∀ d H', Same H H' → H' d = some (.xd [(f, v)]) → E (.ref C) (some d) H'
theorem Thrown.same {E : XK} {H H' : Hp} {C : Addr} {f : Str} {v : V} (e : Same H H') (h : Thrown E H C f v) : Thrown E H' C f v := fun d H2 e2 q => h d H2 (e.trans e2) q
theorem Thrown.at_ {E : XK} {H : Hp} {C : Addr} {f : Str} {v : V} (h : Thrown E H C f v) : ∀ d, H d = none → E (.ref C) (some d) (upd H d (.xd [(f, v)])) := fun d q => h d _ (same_new q) upd_same
theorem fnb_none {l : Int} : ∀ {xs : List V}, fnb l xs = none ↔ ∀ x ∈ xs, isBel l x = true
  | [] => by simp [fnb]
  | x :: xs => by
    unfold fnb
    by_cases h : isBel l x = true
    · rw [if_pos h, Option.map_eq_none_iff, fnb_none]
      exact ⟨fun q y hy => (List.mem_cons.mp hy).elim (fun e => e ▸ h) (q y), fun q y hy => q y (List.mem_cons_of_mem _ hy)⟩
    · rw [if_neg h]
      exact ⟨fun q => (nomatch q), fun q => absurd (q x (List.mem_cons_self ..)) h⟩
theorem fnb_some {l : Int} : ∀ {xs : List V} {i : Nat}, (∀ j x, j < i → xs[j]? = some x → isBel l x = true) → (∃ x, xs[i]? = some x ∧ isBel l x = false) → fnb l xs = some i
  | [], i, _, h => by obtain ⟨x, h, _⟩ := h; simp at h
  | x :: xs, 0, _, h => by
    obtain ⟨y, h1, h2⟩ := h
    have e : x = y := by simpa using h1
    unfold fnb
    rw [e, if_neg (by rw [h2]; exact Bool.false_ne_true)]
  | x :: xs, i + 1, hl, h => by
    unfold fnb
    rw [if_pos (hl 0 x (Nat.succ_pos i) rfl), fnb_some (i := i) (fun j y hj hy => hl (j + 1) y (Nat.succ_lt_succ hj) (by simpa using hy)) (by simpa using h)]
    rfl
/-- the errors' classes -/
structure Ad where
  cM : Addr
  cS : Addr
  cF : Addr
  cG : Addr
  cO : Addr
  cN : Addr
/-- what the module holds of its errors -/
structure Er (P : Program) (w : World) (K : PySem.W.Frag) (mg : Str → Option Value) (base : Heap) (a : Ad) : Prop where
  BadMachine : ErrN P w K mg base 1 "BadMachine" "at" a.cM
  BadShowing : ErrN P w K mg base 1 "BadShowing" "at" a.cS
  Refused : ErrN P w K mg base 1 "Refused" "at" a.cF
  TooGreat : ErrN P w K mg base 1 "TooGreat" "most" a.cG
  Forgets : ErrF P w K mg base 1 "Forgets" "deed" "one" "other" a.cO
  NoState : ErrN P w K mg base 1 "NoState" "state" a.cN
def spNumber (K : PySem.W.Frag) : Sp := fun vs H Q _ => ∃ v, vs = [v] ∧ Kn K H v ∧ Q (.bl (isNum v)) H
def spBelow (K : PySem.W.Frag) : Sp := fun vs H Q _ => ∃ v l, vs = [v, .int l] ∧ Kn K H v ∧ Q (.bl (isBel l v)) H
def spSeq (K : PySem.W.Frag) : Sp := fun vs H Q _ => ∃ v l m o, vs = [v, .int l, .int m] ∧ Long K H v o ∧ ∀ H', Same H H' → Q (.bl (inLen l m o)) H'
def spFnb (K : PySem.W.Frag) : Sp := fun vs H Q _ => ∃ a xs l, vs = [.ref a, .int l] ∧ Sq K H a xs ∧ (∀ x ∈ xs, Kn K H x) ∧ ∀ H', Same H H' → Q (optV (fnb l xs)) H'
/-- the type's name of such a value, where it is no int -/
theorem kn_ty {K : PySem.W.Frag} {H : Hp} {v : V} (h : Kn K H v) : (∃ i, v = .int i) ∨ ∃ n : String, TyX K H v (.type n) ∧ (n = "NoneType" ∨ n = "bool" ∨ n = "str" ∨ n = "list" ∨ n = "tuple") ∧ isNum v = false ∧ ∀ l, isBel l v = false := by
  cases h with
  | int i => exact .inl ⟨i, rfl⟩
  | non => exact .inr ⟨_, .base .non, by simp, rfl, fun _ => rfl⟩
  | bl b => exact .inr ⟨_, .base (.bl b), by simp, rfl, fun _ => rfl⟩
  | str x => exact .inr ⟨_, .base (.str x), by simp, rfl, fun _ => rfl⟩
  | seq q =>
    rcases q with q | q
    · exact .inr ⟨_, tyx_list q, by simp, rfl, fun _ => rfl⟩
    · exact .inr ⟨_, tyx_tuple q, by simp, rfl, fun _ => rfl⟩
theorem kit_int {K : PySem.W.Frag} {n : String} (h : n = "NoneType" ∨ n = "bool" ∨ n = "str" ∨ n = "list" ∨ n = "tuple") : ∃ b, PySem.W.kitOne K (.type n) (.type "int") = some b ∧ (b = true → PySem.W.kitOne K (.type n) (.type "bool") = some true) := by
  rcases h with rfl | rfl | rfl | rfl | rfl
  · exact ⟨false, kit_ty (by decide +kernel), fun z => nomatch z⟩
  · exact ⟨true, kit_ty (by decide +kernel), fun _ => kit_ty (by decide +kernel)⟩
  · exact ⟨false, kit_ty (by decide +kernel), fun z => nomatch z⟩
  · exact ⟨false, kit_ty (by decide +kernel), fun z => nomatch z⟩
  · exact ⟨false, kit_ty (by decide +kernel), fun z => nomatch z⟩
section
variable {P : Program} {w : World} {K : PySem.W.Frag} {mg : Str → Option Value} {base : Heap} {f : Addr} {fd : FuncData} {a : Ad}
theorem scis_number : FnScope ["value"] ["value"] (defScope s_is_number) := ⟨rfl, rfl, rfl, by decide +kernel, rfl, by decide +kernel, by decide +kernel⟩
theorem ok_is_number (F : FnP K "is_number" s_is_number f fd) (T : Mg mg) : FnOk P w K mg base CX0 1 f fd ["value"] (spNumber K) := by
  refine F.ok scis_number (fun vs H Q E h => ?_) (fun cdv A outer s H vs Q E hr h => ?_)
  · obtain ⟨v, rfl, _⟩ := h
    rfl
  · obtain ⟨v, rfl, hv, k⟩ := h
    refine ⟨_, PSs.nox (pss_one (ps_ret (pe_and (pe_callB call_isi (by rfl) T.z_isinstance (by decide +kernel) (pa_cons (pv 0) (pa_cons (pe_ty T.z_int bt_int) pa_nil))) (pe_and (pe_not (pe_callB call_isi (by rfl) T.z_isinstance (by decide +kernel) (pa_cons (pv 0) (pa_cons (pe_ty T.z_bool bt_bool) pa_nil)))) (pe_one (pe_cmpR op_ge (pv 0) pe_int (nomark _))))))), ?_⟩
    rcases kn_ty hv with ⟨i, rfl⟩ | ⟨n, ht, hn, e, _⟩
    · refine ⟨_, rfl, _, .ty "int", _, _, true, rfl, .ty _, .base (.int i), kit_ty (by decide +kernel), true, rfl, iteT ?_⟩
      refine ⟨_, rfl, _, .ty "bool", _, _, false, rfl, .ty _, .base (.int i), kit_ty (by decide +kernel), false, rfl, true, rfl, iteT ⟨_, rfl, _, _, rfl, rfl, ?_⟩⟩
      exact k
    · obtain ⟨b, hb, hb2⟩ := kit_int (K := K) hn
      rw [e] at k
      refine ⟨_, rfl, _, .ty "int", _, _, b, rfl, .ty _, ht, hb, b, rfl, ?_⟩
      cases b with
      | false => exact iteF k
      | true => exact iteT ⟨_, rfl, _, .ty "bool", _, _, true, rfl, .ty _, ht, hb2 rfl, true, rfl, false, rfl, iteF k⟩
theorem sc_is_below : FnScope ["value", "limit"] ["value", "limit"] (defScope s_is_below) := ⟨rfl, rfl, rfl, by decide +kernel, rfl, by decide +kernel, by decide +kernel⟩
theorem ok_is_below (F : FnP K "is_below" s_is_below f fd) (T : Mg mg) (c_is_number : Cal P w K mg base CX0 1 "is_number" ["value"] (spNumber K)) : FnOk P w K mg base CX0 2 f fd ["value", "limit"] (spBelow K) := by
  refine F.ok sc_is_below (fun vs H Q E h => ?_) (fun cdv A outer s H vs Q E hr h => ?_)
  · obtain ⟨v, l, rfl, _⟩ := h
    rfl
  · obtain ⟨v, l, rfl, hv, k⟩ := h
    refine ⟨_, PSs.nox (pss_one (ps_ret (pe_and (pe_callC c_is_number hr pass0 (pa_cons (pv 0) pa_nil)) (pe_one (pe_cmpR op_lt (pv 0) (pv 1) (nomark _)))))), ?_⟩
    refine ⟨_, rfl, v, rfl, hv, isNum v, rfl, ?_⟩
    cases e : isNum v with
    | false =>
      refine iteF ?_
      have e2 : isBel l v = false := by
        cases v <;> first | rfl | (have e' : decide _ = false := e; show (decide _ && decide _) = false; rw [e']; rfl)
      rw [e2] at k
      exact k
    | true =>
      refine iteT ?_
      obtain ⟨i, rfl⟩ : ∃ i, v = .int i := by
        cases v with
        | int i => exact ⟨i, rfl⟩
        | _ => cases e
      refine ⟨_, rfl, _, rfl, _, _, rfl, rfl, ?_⟩
      have e2 : isBel l (.int i) = decide (i < l) := by
        show (decide _ && decide _) = _
        rw [show decide (0 ≤ i) = true from e]
        rfl
      rw [e2] at k
      exact k
theorem sc_is_sequence : FnScope ["value", "least", "most"] ["value", "least", "most"] (defScope s_is_sequence) := ⟨rfl, rfl, rfl, by decide +kernel, rfl, by decide +kernel, by decide +kernel⟩
theorem kit_seq {K : PySem.W.Frag} {n : String} {b : Bool} (h1 : n = "list" ∨ n = "tuple" → b = true) (h2 : n = "NoneType" ∨ n = "bool" ∨ n = "str" ∨ n = "int" → b = false) (hn : (n = "list" ∨ n = "tuple") ∨ n = "NoneType" ∨ n = "bool" ∨ n = "str" ∨ n = "int") :
    PySem.W.kitAny K (.type n) [.type "list", .type "tuple"] = some b := by
  rcases hn with hn | hn
  · obtain rfl := h1 hn
    rcases hn with rfl | rfl
    · exact kitAny_cons (b := true) (kit_ty (by decide +kernel)) (fun z => nomatch z) (fun _ => rfl)
    · exact kitAny_cons (b := false) (kit_ty (by decide +kernel)) (fun _ => kitAny_cons (b := true) (kit_ty (by decide +kernel)) (fun z => nomatch z) (fun _ => rfl)) (fun z => nomatch z)
  · obtain rfl := h2 hn
    rcases hn with rfl | rfl | rfl | rfl
    · exact kitAny_cons (b := false) (kit_ty (by decide +kernel)) (fun _ => kitAny_cons (b := false) (kit_ty (by decide +kernel)) (fun _ => kitAny_nil) (fun z => nomatch z)) (fun z => nomatch z)
    · exact kitAny_cons (b := false) (kit_ty (by decide +kernel)) (fun _ => kitAny_cons (b := false) (kit_ty (by decide +kernel)) (fun _ => kitAny_nil) (fun z => nomatch z)) (fun z => nomatch z)
    · exact kitAny_cons (b := false) (kit_ty (by decide +kernel)) (fun _ => kitAny_cons (b := false) (kit_ty (by decide +kernel)) (fun _ => kitAny_nil) (fun z => nomatch z)) (fun z => nomatch z)
    · exact kitAny_cons (b := false) (kit_ty (by decide +kernel)) (fun _ => kitAny_cons (b := false) (kit_ty (by decide +kernel)) (fun _ => kitAny_nil) (fun z => nomatch z)) (fun z => nomatch z)
theorem long_ty {H : Hp} {v : V} {o : Option (List V)} (h : Long K H v o) : ∃ n : String, TyX K H v (.type n) ∧ PySem.W.kitAny K (.type n) [.type "list", .type "tuple"] = some o.isSome := by
  cases h with
  | non => exact ⟨_, .base .non, kit_seq (by simp) (by simp) (by simp)⟩
  | bl b => exact ⟨_, .base (.bl b), kit_seq (by simp) (by simp) (by simp)⟩
  | int i => exact ⟨_, .base (.int i), kit_seq (by simp) (by simp) (by simp)⟩
  | str x => exact ⟨_, .base (.str x), kit_seq (by simp) (by simp) (by simp)⟩
  | seq q =>
    rcases q with q | q
    · exact ⟨_, tyx_list q, kit_seq (by simp) (by simp) (by simp)⟩
    · exact ⟨_, tyx_tuple q, kit_seq (by simp) (by simp) (by simp)⟩
theorem ok_is_sequence (F : FnP K "is_sequence" s_is_sequence f fd) (T : Mg mg) : FnOk P w K mg base CX0 1 f fd ["value", "least", "most"] (spSeq K) := by
  refine F.ok sc_is_sequence (fun vs H Q E h => ?_) (fun cdv A outer s H vs Q E hr h => ?_)
  · obtain ⟨v, l, m, o, rfl, _⟩ := h
    rfl
  · obtain ⟨v, l, m, o, rfl, hv, k⟩ := h
    refine ⟨_, PSs.nox (pss_one (ps_ret (pe_and (pe_callB call_isiT (by rfl) T.z_isinstance (by decide +kernel) (pa_cons (pv 0) (pa_cons (pe_tup (pa_cons (pe_ty T.z_list bt_list) (pa_cons (pe_ty T.z_tuple bt_tuple) pa_nil))) pa_nil))) (pe_one (pe_chain op_le op_le (pv 1) (pe_callB call_len_seq (by rfl) T.z_len PySem.boot_len (pa_cons (pv 0) pa_nil)) (pv 2)))))), ?_⟩
    refine ⟨_, rfl, (by show 2 ≤ sizeLine; decide), fun p hp => ?_⟩
    have e := same_new (o := HO.tup [.ty "list", .ty "tuple"]) hp
    obtain ⟨n, ht, hk⟩ := long_ty (hv.same e)
    refine ⟨v, p, _, .type n, _, o.isSome, rfl, upd_same, .cons (.ty _) (.cons (.ty _) .nil), ht, hk, _, rfl, ?_⟩
    cases o with
    | none => exact iteF (k _ e)
    | some xs =>
      refine iteT ?_
      cases hv with
      | seq q =>
        have q' := q.same e
        refine ⟨_, rfl, _, rfl, _, _, rfl, q', _, _, rfl, rfl, decide (l ≤ (xs.length : Int)), rfl, ?_⟩
        refine ite2 (fun h1 => ?_) (fun h1 => ?_)
        · refine ⟨_, rfl, _, _, rfl, rfl, ?_⟩
          have k2 := k _ e
          rw [show inLen l m (some xs) = decide ((xs.length : Int) ≤ m) from by show (decide _ && _) = _; rw [h1]; rfl] at k2
          exact k2
        · have k2 := k _ e
          rw [show inLen l m (some xs) = false from by show (decide _ && _) = _; rw [Bool.eq_false_iff.mpr h1]; rfl] at k2
          exact k2
end
end KT
/-! the top, run -/
namespace KT
open PySem PySem.Spec PyProof.Rows L2 Kx
/-! ### Bools that the head's Hook asks -/
/-- a class's line and slots -/
def tailB (C : Addr) (bm : List Value → Bool) (newId : String) (mro : List Value) (sl : List (Option Value)) : Bool := match mro, sl with
  | .ref C' :: r, [_, _, _, _, some (.builtin n), _] => decide (C' = C) && (decide (n = newId) && bm r)
  | _, _ => false
theorem tailB_ok {C : Addr} {bm : List Value → Bool} {newId : String} {mro : List Value} {sl : List (Option Value)} (h : tailB C bm newId mro sl = true) :
    ∃ r a0 a1 a2 a3 a5, mro = .ref C :: r ∧ sl = [a0, a1, a2, a3, some (.builtin newId), a5] ∧ bm r = true := by
  unfold tailB at h
  split at h
  · obtain ⟨h4, h⟩ := He.ba h
    obtain ⟨h5, h6⟩ := He.ba h
    have h4 := of_decide_eq_true h4
    have h5 := of_decide_eq_true h5
    exact ⟨_, _, _, _, _, _, by rw [h4], by rw [h5], h6⟩
  · cases h
/-- the class at C as the text makes it: an own dict, no __del__, behind it the classes bm -/
def shapeB (K : PySem.W.Frag) (C : Addr) (bm : List Value → Bool) (newId : String) : Bool := match K.lookup C with
  | some ⟨.type c, _, .cls cd, sl⟩ => decide (c = "type") && (cd.hasDict && (!cd.hasDel && tailB C bm newId cd.mro sl.toList))
  | _ => false
theorem shapeB_ok {K : PySem.W.Frag} {C : Addr} {bm : List Value → Bool} {newId : String} (h : shapeB K C bm newId = true) :
    ∃ nm q N bs r sn sub ab col dd k0 k1 k2 k3 k5, K.lookup C = some (excClassObj nm q C N bs r true sn sub ab col dd k0 k1 k2 k3 k5 newId) ∧ bm r = true := by
  unfold shapeB at h
  cases e : K.lookup C with
  | none =>
    rw [e] at h
    cases h
  | some o =>
    obtain ⟨oc, od, dt, sl⟩ := o
    rw [e] at h
    cases oc with
    | type c =>
      cases dt with
      | cls cd =>
        obtain ⟨nm, bs, mro, N, q, hdct, sn, sub, ab, col, del⟩ := cd
        have h : (decide (c = "type") && (hdct && (!del && tailB C bm newId mro sl.toList))) = true := h
        obtain ⟨h1, h⟩ := He.ba h
        obtain ⟨h2, h⟩ := He.ba h
        obtain ⟨h3, h⟩ := He.ba h
        obtain ⟨r, a0, a1, a2, a3, a5, h4, h5, h6⟩ := tailB_ok h
        have k1 := of_decide_eq_true h1
        have k3 : del = false := by
          cases del with
          | false => rfl
          | true => cases h3
        have es : sl = #[a0, a1, a2, a3, some (.builtin newId), a5] := by
          have := congrArg List.toArray h5
          simpa using this
        refine ⟨nm, q, N, bs, r, sn, sub, ab, col, od, a0, a1, a2, a3, a5, ?_, h6⟩
        rw [k1, h2, k3, h4, es]
      | _ => cases h
    | _ => cases dt <;> cases h
/-- an own error over an own base over ValueError, of the field f -/
def oexB (K : PySem.W.Frag) (C : Addr) : Bool := shapeB K C PySem.HandSPX.refsVE "ValueError.__new__" && (He.eqO (PySem.W.findIn K (.ref C) "__setattr__") (some (some (.builtin "object.__setattr__"))) && (decide (PySem.W.subIn K (.ref C) (.type "BaseException") = some true) && (decide (PySem.W.typeIn K (.ref C) = some (.type "type")) && PySem.W.keepIn K (.ref C))))
theorem oexB_ok {K : PySem.W.Frag} {C : Addr} (h : oexB K C = true) : OexC K C := by
  obtain ⟨h1, h⟩ := He.ba h
  obtain ⟨h2, h⟩ := He.ba h
  obtain ⟨h3, h⟩ := He.ba h
  obtain ⟨h4, h5⟩ := He.ba h
  exact ⟨shapeB_ok h1, He.eqO_ok h2, of_decide_eq_true h3, of_decide_eq_true h4, h5⟩
def keyB (K : PySem.W.Frag) (C : Addr) : Bool := shapeB K C (fun r => decide (r = keyTail)) "LookupError.__new__" && (He.eqO (PySem.W.findIn K (.ref C) "__setattr__") (some (some (.builtin "object.__setattr__"))) && (decide (PySem.W.subIn K (.ref C) (.type "BaseException") = some true) && (decide (PySem.W.typeIn K (.ref C) = some (.type "type")) && PySem.W.keepIn K (.ref C))))
theorem keyB_ok {K : PySem.W.Frag} {C : Addr} (h : keyB K C = true) : KeyC K C := by
  obtain ⟨h1, h⟩ := He.ba h
  obtain ⟨h2, h⟩ := He.ba h
  obtain ⟨h3, h⟩ := He.ba h
  obtain ⟨h4, h5⟩ := He.ba h
  obtain ⟨nm, q, N, bs, r, sn, sub, ab, col, dd, k0, k1, k2, k3, k5, e, er⟩ := shapeB_ok h1
  have er := of_decide_eq_true er
  subst er
  exact ⟨⟨nm, q, N, bs, sn, sub, ab, col, dd, k0, k1, k2, k3, k5, e⟩, He.eqO_ok h2, of_decide_eq_true h3, of_decide_eq_true h4, h5⟩
def excB (K : PySem.W.Frag) (D : Addr) : Bool := He.eqO (PySem.W.findIn K (.ref D) "__getattribute__") (some (some (.builtin "BaseException.__getattribute__"))) && (He.eqO (PySem.W.findIn K (.ref D) "__getattr__") (some none) && (decide (PySem.W.subIn K (.ref D) (.type "BaseException") = some true) && (PySem.W.hasDictIn K D &&
  (He.eqO (PySem.W.findIn K (.ref D) "__class__") (some (some (.builtin "object.__class__"))) && (He.eqO (PySem.W.specialIn K (.builtin "object.__class__") "__get__") (some (some (.builtin "getset_descriptor.__get__"))) && (decide (PySem.W.takesIn K (.builtin "object.__class__") = some true) && decide (PySem.W.mroIn K D (.type "object") = some true)))))))
theorem excB_ok {K : PySem.W.Frag} {D : Addr} (h : excB K D = true) : ExcC K D := by
  obtain ⟨h1, h⟩ := He.ba h
  obtain ⟨h2, h⟩ := He.ba h
  obtain ⟨h3, h⟩ := He.ba h
  obtain ⟨h4, h⟩ := He.ba h
  obtain ⟨h5, h⟩ := He.ba h
  obtain ⟨h6, h⟩ := He.ba h
  obtain ⟨h7, h8⟩ := He.ba h
  exact ⟨He.eqO_ok h1, He.eqO_ok h2, of_decide_eq_true h3, h4, He.eqO_ok h5, He.eqO_ok h6, of_decide_eq_true h7, of_decide_eq_true h8⟩
theorem excB_xf {K : PySem.W.Frag} {D : Addr} (h : excB K D = true) : XfC K D := by
  have e := excB_ok h
  exact ⟨e.hg, e.hk, e.hs, e.hd⟩
end KT
/-! the end of a law that holds where nothing that guards itself runs around -/
namespace Kx
open L2 PySem PySem.Spec PyProof.Rows
/-- what is followed at the start: the tables, the script where the written part does not hold it -/
def startH (K : PySem.W.Frag) (a : Addr) (vs : List Value) (ns : List Int) (tabs : List Addr) : Hp := fun b =>
  if b ∈ tabs then some (.tbl #[]) else if b = a ∧ K.lookup a = .none then some (.frz { cls := .type "list", data := .seq vs.toArray } (.lst (ns.map V.int))) else .none
section
variable {P : Program} {w : World} {K : PySem.W.Frag} {mg mb : Str → Option Value} {k : Nat} {fa a : Addr} {cs : List (Addr × Addr)} {fd : FuncData} {x : Str} {sp : Sp} {s : Shared} {vs : List Value} {ns : List Int}
theorem lone_end (X : K.In s.heap) (G : s.heap.Ns mainGlobals mg) (Bn : s.heap.Ns builtinsNs mb) (Bi : ∀ y : Str, y ≠ "__name__" → mb y = bootBuiltins y) (lim : s.heap.NoLimit) (gens : s.gens = #[])
    (tE : ∀ p ∈ cs, s.heap.get? p.2 = some { cls := .none, data := .fields #[] }) (tN : ∀ p ∈ cs, K.lookup p.2 = .none) (tC : ∀ p ∈ cs, PySem.W.CodeHd s.heap p.1 p.2)
    (bmod : ∃ (bm : Addr) (ob : Obj), mg "__builtins__" = some (.ref bm) ∧ bm ≠ builtinsNs ∧ s.heap.get? bm = some ob ∧ ob.cls = .type "module" ∧ ob.dict = some builtinsNs ∧ ob.data = .plain)
    (at_ : s.heap.get? a = some { cls := .type "list", data := .seq vs.toArray }) (isI : IntsAre vs ns) (short : ns.length ≤ sizeLine) (room : Room k callerA)
    (F : ∀ base : Heap, K.In base → base.Ns mainGlobals mg → (∀ p ∈ cs, LamX.TabB base mg p.1 p.2) → FnG P w K mg base CX0 k fa fd [x] sp) (bind : ∀ (s' : Shared) (u : Value), BindsTo s' fd ⟨[u], []⟩ [(x, u)])
    (give : ∀ H : Hp, (∀ p ∈ cs, H p.2 = some (.tbl #[])) → SqL K H a (ns.map V.int) → sp [.ref a] H (fun v _ => v = .bl true) fun _ _ _ => False) :
    codeAny (model P w) callerA (.call (.ref fa) ⟨[.ref a], []⟩) (fun r s' => r = .ok (.ret (.bool true)) ∧ OldK s.heap s'.heap ∧ s'.os = s.os ∧ AllBare s'.gens) s := by
  have rel := vals_ints isI
  have len := isI.length
  have tabIs : ∀ b ∈ cs.map (·.2), s.heap.get? b = some { cls := .none, data := .fields #[] } ∧ K.lookup b = .none := fun b hb => by
    obtain ⟨p, hp, rfl⟩ := List.mem_map.mp hb
    exact ⟨tE p hp, tN p hp⟩
  have apart : a ∉ cs.map (·.2) := fun z => by
    have q := (tabIs a z).1
    rw [at_] at q
    injection q with q
    injection q with _ _ q
    cases q
  let H := startH K a vs ns (cs.map (·.2))
  have hT : ∀ b ∈ cs.map (·.2), H b = some (.tbl #[]) := fun b hb => if_pos hb
  have hTs : ∀ p ∈ cs, H p.2 = some (.tbl #[]) := fun p hp => hT _ (List.mem_map_of_mem hp)
  -- what H follows: a table, the script
  have cases_ : ∀ b, (b ∈ cs.map (·.2) ∧ H b = some (.tbl #[])) ∨ (b = a ∧ K.lookup a = .none ∧ H b = some (.frz { cls := .type "list", data := .seq vs.toArray } (.lst (ns.map V.int)))) ∨ H b = .none := fun b => by
    by_cases h1 : b ∈ cs.map (·.2)
    · exact .inl ⟨h1, hT b h1⟩
    · by_cases h2 : b = a ∧ K.lookup a = .none
      · exact .inr (.inl ⟨h2.1, h2.2, (if_neg h1).trans (if_pos h2)⟩)
      · exact .inr (.inr ((if_neg h1).trans (if_neg h2)))
  have known : ∀ {b : Addr} {o : Obj}, K.lookup b = some o → H b = .none := fun {b o} e => by
    rcases cases_ b with ⟨h, _⟩ | ⟨rfl, h, _⟩ | h
    · rw [(tabIs b h).2] at e
      cases e
    · rw [h] at e
      cases e
    · exact h
  have other : ∀ {b : Addr} {o : Obj}, s.heap.get? b = some o → (∀ us n, o.data ≠ .seq us n) → o.data ≠ .fields #[] → H b = .none := fun {b o} e h1 h2 => by
    rcases cases_ b with ⟨h, _⟩ | ⟨rfl, _, _⟩ | h
    · rw [(tabIs b h).1] at e
      cases e
      exact absurd rfl h2
    · rw [at_] at e
      cases e
      exact absurd rfl (h1 _ _)
    · exact h
  have ns_ : ∀ {b : Addr} {m : Str → Option Value}, s.heap.Ns b m → (hidT s.heap H).Ns b m := fun {b m} ⟨o, es, ep, e, d, r⟩ =>
    ⟨o, es, ep, hidT_get e (other e (fun us n z => by rw [d] at z; cases z) fun z => by rw [d] at z; cases z), d, r⟩
  have Xb : K.In (hidT s.heap H) := fun b o e => hidT_get (X b o e) (known e)
  have holds : HOk P w H s.heap := fun b u z => by
    rcases cases_ b with ⟨h, e⟩ | ⟨rfl, _, e⟩ | e
    · obtain rfl : u = .tbl #[] := Option.some.inj (z.symm.trans e)
      exact (tabIs b h).1
    · obtain rfl := Option.some.inj (z.symm.trans e)
      exact ⟨at_, by rw [List.length_map]; exact short, vs, _, rel, at_⟩
    · rw [e] at z
      cases z
  have script : SqL K H a (ns.map V.int) := by
    cases q : K.lookup a with
    | none =>
      refine .inl (.inr ⟨{ cls := .type "list", data := .seq vs.toArray }, ?_⟩)
      exact (if_neg apart).trans (if_pos ⟨rfl, q⟩)
    | some o =>
      have e := X a o q
      rw [at_] at e
      cases e
      exact .inr ⟨_, vs.toArray, _, q, rfl, rfl, rfl, by rw [List.size_toArray, len]; exact short, by simpa using rel⟩
  have tabs : ∀ p ∈ cs, LamX.TabB (hidT s.heap H) mg p.1 p.2 := fun p hp => by
    refine ⟨?_, ?_, fun z => ?_⟩
    · obtain ⟨o, us, file, tf, flags, tg, inF, text, tt, e, c1, c2, c3, more⟩ := tC p hp
      refine ⟨o, us, file, tf, flags, tg, inF, text, tt, hidT_get e (other e (fun vs n z => by rw [c2] at z; cases z) fun z => ?_), c1, c2, c3, more⟩
      rw [c2] at z
      cases z
      simp at c3
    · obtain ⟨bm, ob, b1, b2, b3, b4, b5, b6⟩ := bmod
      have b7 : H bm = .none := other b3 (fun us n z => by rw [b6] at z; cases z) fun z => by rw [b6] at z; cases z
      refine ⟨bm, ob, b1, b2, fun q => ?_, fun q => ?_, hidT_get b3 b7, b4, b5, b6⟩
      · obtain ⟨o, es, ep, e, d, _⟩ := G
        rw [← q, b3] at e
        cases e
        rw [b6] at d
        cases d
      · rw [q, hTs p hp] at b7
        cases b7
    · obtain ⟨o, es, ep, e, d, _⟩ := G
      rw [z, tE p hp] at e
      cases e
      cases d
  have env : Env0 P w K mg (hidT s.heap H) callerA [] s H :=
    { frames := rfl
      mod := ⟨Xb, ns_ G, ⟨mb, ns_ Bn, Bi⟩, let ⟨mc, h1, h2⟩ := lim; ⟨mc, ns_ h1, h2⟩⟩
      bs := fun b o e => of_hidT e
      bsz := Nat.le_of_eq (hidT_size _ _)
      funs := trivial
      frf := fun b hb => absurd (show b ∈ ([] : List Addr) from hb) (by simp)
      hok := holds
      bare := .of_eq gens }
  refine codeAny_mono ((F _ Xb (ns_ G) tabs).run callerA [] s H ⟨[.ref a], []⟩ [.ref a] [.ref a] _ _ room rfl env (bind s (.ref a)) (.cons rfl .nil) (give H hTs script)) fun r s' z => ?_
  match r, z with
  | .error e, z => exact z.elim
  | .ok .next, z => exact z.elim
  | .ok .brk, z => exact z.elim
  | .ok .cont, z => exact z.elim
  | .ok (.ret u), z =>
    obtain ⟨v, H', os, bare, un, ok', r', ev⟩ := z
    subst ev
    obtain rfl : u = .bool true := r'
    have stay : ∀ b o, b ∉ cs.map (·.2) → s.heap.get? b = some o → s'.heap.get? b = some o := fun b o nb e => by
      rcases cases_ b with ⟨h, _⟩ | ⟨_, _, q⟩ | q
      · exact absurd h nb
      · have old := (holds b _ q).1
        rw [e] at old
        cases old
        exact (ok' b _ (un.frzs b _ _ q)).1
      · exact un.keep b o e q (fun m => absurd (show b ∈ ([] : List Addr) from m) (by simp)) (by simp)
    have grown : ∀ b ∈ cs.map (·.2), ∃ more : Array Value, s'.heap.get? b = some { cls := .none, data := .fields more } := fun b hb => by
      obtain ⟨more, q⟩ := un.tbls b #[] (hT b hb)
      exact ⟨_, ok' b _ q⟩
    refine ⟨rfl, ⟨fun b o eb => ?_, fun b o eb => ?_⟩, os, bare⟩
    · by_cases mb : b ∈ cs.map (·.2)
      · rcases List.mem_map.mp mb with ⟨p, hp, rfl⟩
        obtain ⟨more, hm⟩ := grown _ mb
        rw [tE p hp] at eb
        cases eb
        exact .inr (.inl ⟨((tC p hp).tab (tE p hp)).isCodeTable, rfl, #[], more, rfl, by rw [Array.empty_append]; exact hm⟩)
      · exact .inl (stay b o mb eb)
    · by_cases mb : b ∈ cs.map (·.2)
      · obtain ⟨more, hm⟩ := grown b mb
        exact ⟨_, hm⟩
      · exact ⟨o, stay b o mb eb⟩
end
/-- the law's def, told over the head's heap -/
theorem lone_walk {l : PySem.W.OpenLaw} {n k : Nat} {q : Program} {loose : List Str} {XP : (Str → Option Value) → Heap → Prop} {YP : World → Heap → Prop} {d : DefRec} {x : Str} (most : l.most = some n) (short : n ≤ sizeLine) (plain : d.params.defaults = []) (room : Room k callerA)
    (F : ∀ (w : World) (mg : Str → Option Value) (fa : Addr) (h : Heap), YP w h → h.Ns mainGlobals mg → mg d.name = some (.ref fa) → ∃ (K : PySem.W.Frag) (fd : FuncData) (cs : List (Addr × Addr)) (sp : Sp), K.In h ∧
      (∀ p ∈ cs, h.get? p.2 = some { cls := .none, data := .fields #[] }) ∧ (∀ p ∈ cs, K.lookup p.2 = none) ∧ (∀ p ∈ cs, PySem.W.CodeHd h p.1 p.2) ∧ (∀ (s : Shared) (u : Value), BindsTo s fd ⟨[u], []⟩ [(x, u)]) ∧
      (∀ (H : Hp) (a : Addr) (ns : List Int), ns.length ≤ n → (∀ p ∈ cs, H p.2 = some (.tbl #[])) → SqL K H a (ns.map V.int) → sp [.ref a] H (fun v _ => v = .bl true) fun _ _ _ => False) ∧
      ∀ base : Heap, K.In base → base.Ns mainGlobals mg → (∀ p ∈ cs, LamX.TabB base mg p.1 p.2) → FnG l.prog w K mg base CX0 k fa fd [x] sp) : PySem.W.WalkO q loose XP YP l.row.toRowW d [] (fun f vs => PySem.call f vs) := by
  refine Att.attach_callB most plain fun w s₀ s₁ mg mb fa o pm cd doc a vs ns G Y _ _ _ hmg hobj hints hlen _ hg => ?_
  obtain ⟨K, fd, cs, sp, X, tE, tN, tC, hb, give, hF⟩ := F w mg fa _ Y G.T.g hmg
  exact lone_end X G.T.g G.T.b G.T.builtins G.T.nolimit hg tE tN tC G.T.bmain hobj hints (Nat.le_trans hlen short) room hF hb fun H hH hS => give H a ns hlen hH hS
end Kx
/-! what the head tells -/
namespace KT
open PySem PySem.Spec PyProof.Rows L2 Kx RZ
def iniB (K : PySem.W.Frag) (C : Addr) : Bool := He.eqO (PySem.W.findIn K (.ref C) "__init__") (some (some (.ref (He.ma K C "__init__")))) && decide (PySem.W.typeIn K (.ref (He.ma K C "__init__")) = some (.type "function"))
theorem iniB_ok {K : PySem.W.Frag} {C : Addr} (h : iniB K C = true) : PySem.W.findIn K (.ref C) "__init__" = some (some (.ref (He.ma K C "__init__"))) ∧ PySem.W.typeIn K (.ref (He.ma K C "__init__")) = some (.type "function") := by
  obtain ⟨h1, h2⟩ := He.ba h
  exact ⟨He.eqO_ok h1, of_decide_eq_true h2⟩
def isiB (K : PySem.W.Frag) (C : Addr) : Bool := He.eqO (PySem.W.findIn K (.ref C) "__class__") (some (some (.builtin "object.__class__"))) && (He.eqO (PySem.W.specialIn K (.builtin "object.__class__") "__get__") (some (some (.builtin "getset_descriptor.__get__"))) &&
  (decide (PySem.W.takesIn K (.builtin "object.__class__") = some true) && decide (PySem.W.mroIn K C (.type "object") = some true)))
theorem isiB_ok {K : PySem.W.Frag} {C : Addr} (h : isiB K C = true) : SlX.SIsi K C := by
  obtain ⟨h1, h⟩ := He.ba h
  obtain ⟨h2, h⟩ := He.ba h
  obtain ⟨h3, h4⟩ := He.ba h
  exact ⟨He.eqO_ok h1, He.eqO_ok h2, of_decide_eq_true h3, of_decide_eq_true h4⟩
def kitB (K : PySem.W.Frag) (t c : Value) (b : Bool) : Bool := decide (PySem.W.kitOne K t c = some b)
theorem kitB_ok {K : PySem.W.Frag} {t c : Value} {b : Bool} (h : kitB K t c b = true) : PySem.W.kitOne K t c = some b := of_decide_eq_true h
/-- the class's own names -/
def nsOf (K : PySem.W.Frag) (C : Addr) : Addr := match K.lookup C with
  | some ⟨_, _, .cls cd, _⟩ => cd.ns
  | _ => 0
def strE (e : DictEntry) : Bool := match e.key with
  | .str _ _ => true
  | _ => false
def nsB (K : PySem.W.Frag) (N f : Addr) : Bool := match K.lookup N with
  | some ⟨_, _, .dict es _, _⟩ => es.toList.all strE && (decide (nsFind es "__eq__" = some (.ref f)) && decide (nsFind es "__ne__" = none))
  | _ => false
theorem nsB_ok {K : PySem.W.Frag} {N f : Addr} (h : nsB K N f = true) : ∃ (oN : Obj) (es : Array DictEntry) (ep : Nat), K.lookup N = some oN ∧ oN.data = .dict es ep ∧ StrKeys es ∧ nsFind es "__eq__" = some (.ref f) ∧ nsFind es "__ne__" = none := by
  unfold nsB at h
  split at h
  · rename_i oc od es ep sl e
    obtain ⟨h1, h⟩ := He.ba h
    obtain ⟨h2, h3⟩ := He.ba h
    refine ⟨_, es, ep, e, rfl, fun z hz => ?_, of_decide_eq_true h2, of_decide_eq_true h3⟩
    have := List.all_eq_true.mp h1 z (by simpa using hz)
    unfold strE at this
    split at this
    · rename_i n t q
      exact ⟨n, t, q⟩
    · cases this
  · cases h
def eqB (K : PySem.W.Frag) (C f : Addr) : Bool := He.eqO (PySem.W.findIn K (.ref C) "__eq__") (some (some (.ref f))) && (PySem.W.isFn K (.ref f) && (shapeB K C (fun r => decide (r = [.type "object"])) "object.__new__" && (nsB K (nsOf K C) f &&
  (match K.lookup f with
  | some ⟨.type c, _, _, _⟩ => decide (c = "function")
  | _ => false))))
theorem eqB_ok {K : PySem.W.Frag} {C f : Addr} (h : eqB K C f = true) : EqC K C f := by
  obtain ⟨h1, h⟩ := He.ba h
  obtain ⟨h2, h⟩ := He.ba h
  obtain ⟨h3, h⟩ := He.ba h
  obtain ⟨h4, h5⟩ := He.ba h
  obtain ⟨nm, q, N, bs, r, sn, sub, ab, col, dd, k0, k1, k2, k3, k5, e, er⟩ := shapeB_ok h3
  have er := of_decide_eq_true er
  subst er
  have eN : nsOf K C = N := by
    unfold nsOf
    rw [e]
  rw [eN] at h4
  obtain ⟨oN, es, ep, n1, n2, n3, n4, n5⟩ := nsB_ok h4
  have hf : ∃ oF, K.lookup f = some oF ∧ oF.cls = .type "function" := by
    split at h5
    · rename_i c od dt sl e
      exact ⟨_, e, congrArg Value.type (of_decide_eq_true h5)⟩
    · cases h5
  obtain ⟨oF, f1, f2⟩ := hf
  exact ⟨He.eqO_ok h1, h2, nm, q, N, bs, true, sn, sub, ab, col, dd, k0, k1, k2, k3, k5, "object.__new__", oN, oF, es, ep, e, n1, n2, n3, n4, n5, f1, f2⟩
def nilB (K : PySem.W.Frag) (t : Addr) : Bool := match K.lookup t with
  | some ⟨.type c, _, .seq its _, _⟩ => decide (c = "tuple") && decide (its.size = 0)
  | _ => false
theorem nilB_ok {K : PySem.W.Frag} {t : Addr} (h : nilB K t = true) (H : Hp) : SqT K H t [] := by
  unfold nilB at h
  split at h
  · rename_i c od its n sl e
    obtain ⟨h1, h2⟩ := He.ba h
    have z : its = #[] := Array.eq_empty_of_size_eq_zero (of_decide_eq_true h2)
    subst z
    exact .inr ⟨_, #[], n, e, congrArg Value.type (of_decide_eq_true h1), rfl, Nat.zero_le _, .nil⟩
  · cases h
def adOf (K : PySem.W.Frag) : Ad := ⟨He.ga K "BadMachine", He.ga K "BadShowing", He.ga K "Refused", He.ga K "TooGreat", He.ga K "Forgets", He.ga K "NoState"⟩
/-! ### the names, the texts -/
abbrev dN0 : He.Defn := ("_law_asks", none)
abbrev dN1 : He.Defn := ("_law_walks", none)
abbrev dN2 : He.Defn := ("law", none)
def tZero (K : PySem.W.Frag) : Addr := He.dflAt ("Counters", some "__init__") 0 K
abbrev dF (x : Str) (st : Stmt) : He.DefD := ⟨(x, none), x, x, defArgs st, defBody st, defScope st, [], []⟩
abbrev dM (C m q : Str) (st : Stmt) (ds : List He.Dv) : He.DefD := ⟨(C, some m), m, q, defArgs st, defBody st, defScope st, ds, []⟩
def fn : List He.DefD := [
  dF "is_number" s_is_number,
  dF "is_below" s_is_below,
  dF "is_sequence" s_is_sequence,
  dF "first_not_below" s_first_not_below,
  dF "_are_rests" s_are_rests,
  dF "need_fit" s_need_fit,
  dF "_can_show" s_can_show,
  dF "check_showing" s_check_showing,
  dF "_is_table" s_is_table,
  dF "need_state" s_need_state,
  dF "in_coming_order" s_in_coming_order,
  dF "reached" s_reached,
  dF "forgotten" s_forgotten,
  dF "need_exchanges" s_need_exchanges,
  dF "circle" s_circle,
  dF "moved" s_moved,
  dF "moved_by" s_moved_by,
  dF "deed_pairs" s_deed_pairs,
  dF "least_parting" s_least_parting,
  dF "_top" s_top,
  dF "_first_together" s_first_together,
  dF "_all_moved" s_all_moved,
  dF "settled" s_settled,
  dF "lots_of" s_lots_of,
  dF "lot_with" s_lot_with,
  dF "fold_size" s_fold_size,
  dF "fold_values" s_fold_values,
  dF "lot_shown" s_lot_shown,
  dF "told_state" s_told_state,
  dF "open_lots" s_open_lots,
  dF "open_lot" s_open_lot,
  dF "needed_values" s_needed_values,
  dF "lot_rows" s_lot_rows,
  dF "rows_hold" s_rows_hold,
  dF "values_hold" s_values_hold,
  dF "_law_box" s_law_box,
  dF "_law_take" s_law_take,
  dF "_law_pick" s_law_pick,
  dF "_law_mixed" s_law_mixed,
  dF "_law_exchange" s_law_exchange,
  dF "_law_tables" s_law_tables,
  dF "_law_come" s_law_come,
  dF "_law_heard" s_law_heard,
  dF "_law_forgets" s_law_forgets,
  dF "_law_asks" s_law_asks,
  dF "_law_walks" s_law_walks,
  dF "law" s_law,
  dM "BadMachine" "__init__" "BadMachine.__init__" s_BadMachine_init [],
  dM "BadShowing" "__init__" "BadShowing.__init__" s_BadShowing_init [],
  dM "Refused" "__init__" "Refused.__init__" s_Refused_init [],
  dM "TooGreat" "__init__" "TooGreat.__init__" s_TooGreat_init [],
  dM "Forgets" "__init__" "Forgets.__init__" s_Forgets_init [],
  dM "NoState" "__init__" "NoState.__init__" s_NoState_init [],
  dM "Counters" "__init__" "Counters.__init__" s_Counters_init [.adr tZero],
  dM "Machine" "__init__" "Machine.__init__" s_Machine_init []]
def fa : List He.Fa := [
  .glo "is_number", .glo "is_below", .glo "is_sequence", .glo "first_not_below", .glo "_are_rests", .glo "need_fit", .glo "_can_show", .glo "check_showing",
  .glo "_is_table", .glo "need_state", .glo "in_coming_order", .glo "reached", .glo "forgotten", .glo "need_exchanges", .glo "circle", .glo "moved",
  .glo "moved_by", .glo "deed_pairs", .glo "least_parting", .glo "_top", .glo "_first_together", .glo "_all_moved", .glo "settled", .glo "lots_of",
  .glo "lot_with", .glo "fold_size", .glo "fold_values", .glo "lot_shown", .glo "told_state", .glo "open_lots", .glo "open_lot", .glo "needed_values",
  .glo "lot_rows", .glo "rows_hold", .glo "values_hold", .glo "_law_box", .glo "_law_take", .glo "_law_pick", .glo "_law_mixed", .glo "_law_exchange",
  .glo "_law_tables", .glo "_law_come", .glo "_law_heard", .glo "_law_forgets", .glo "_law_asks", .glo "_law_walks", .glo "law", .glo "WitnessError",
  .glo "BadMachine", .glo "BadShowing", .glo "Refused", .glo "TooGreat", .glo "Forgets", .glo "NoState", .glo "Counters", .glo "Machine",
  .free "KeyError", .free "ValueError", .free "abs", .free "all", .free "bool", .free "enumerate", .free "int", .free "isinstance",
  .free "len", .free "list", .free "max", .free "range", .free "repr", .free "reversed", .free "sorted", .free "tuple",
  .free "zip", .int "DEEDS_MOST" 4, .int "STATES_MOST" 8, .int "ROUND_MOST" 60, .int "REST_MOST" 6, .cls "Counters", .cls "Machine", .mkr "Counters",
  .mkr "Machine", .noat "Counters" "rounds", .noat "Counters" "rests", .noat "Machine" "deeds", .noat "Machine" "states", .noat "Machine" "tables", .noat "BadMachine" "at", .noat "BadShowing" "at",
  .noat "Refused" "at", .noat "TooGreat" "most", .noat "Forgets" "deed", .noat "Forgets" "one", .noat "Forgets" "other", .noat "NoState" "state", .exm "Forgets" "Forgets" true, .exm "BadShowing" "Forgets" false,
  .exm "BadShowing" "BadShowing" true, .exm "Refused" "Forgets" false, .exm "Refused" "BadShowing" false, .exm "Refused" "TooGreat" false, .exm "Refused" "Refused" true, .exm "NoState" "Forgets" false, .exm "NoState" "BadShowing" false, .exm "NoState" "TooGreat" false,
  .exm "NoState" "Refused" false, .exm "NoState" "NoState" true]
def tf : List He.Defn := [dN0, dN1, dN2]
def bools (K : PySem.W.Frag) : List Bool := [
  oexB K (He.ga K "BadMachine"),
  oexB K (He.ga K "BadShowing"),
  oexB K (He.ga K "Refused"),
  oexB K (He.ga K "TooGreat"),
  oexB K (He.ga K "Forgets"),
  keyB K (He.ga K "NoState"),
  iniB K (He.ga K "BadMachine"),
  iniB K (He.ga K "BadShowing"),
  iniB K (He.ga K "Refused"),
  iniB K (He.ga K "TooGreat"),
  iniB K (He.ga K "Forgets"),
  iniB K (He.ga K "NoState"),
  isiB K (He.ga K "Counters"),
  kitB K (.ref (He.ga K "Counters")) (.ref (He.ga K "Counters")) true,
  kitB K (.type "tuple") (.ref (He.ga K "Counters")) false,
  PySem.W.notFirst K (He.ga K "Counters") (.type "tuple"),
  isiB K (He.ga K "Machine"),
  kitB K (.ref (He.ga K "Machine")) (.ref (He.ga K "Machine")) true,
  kitB K (.type "tuple") (.ref (He.ga K "Machine")) false,
  PySem.W.notFirst K (He.ga K "Machine") (.type "tuple"),
  nilB K (tZero K),
  excB K (He.ga K "Forgets"),
  excB K (He.ga K "BadShowing"),
  excB K (He.ga K "Refused"),
  excB K (He.ga K "NoState"),
  kitB K (.ref (He.ga K "Forgets")) (.ref (He.ga K "WitnessError")) true,
  kitB K (.ref (He.ga K "BadShowing")) (.ref (He.ga K "WitnessError")) true,
  kitB K (.ref (He.ga K "Refused")) (.ref (He.ga K "WitnessError")) true,
  decide ((He.cT K dN0).2 ≠ (He.cT K dN1).2),
  decide ((He.cT K dN0).2 ≠ (He.cT K dN2).2),
  decide ((He.cT K dN1).2 ≠ (He.cT K dN2).2),
  kitB K (.ref (He.ga K "NoState")) (.type "KeyError") true,
  kitB K (.type "int") (.ref (He.ga K "Counters")) false,
  kitB K (.type "NoneType") (.ref (He.ga K "Counters")) false,
  kitB K (.type "bool") (.ref (He.ga K "Counters")) false,
  kitB K (.type "str") (.ref (He.ga K "Counters")) false,
  kitB K (.type "int") (.ref (He.ga K "Machine")) false,
  kitB K (.type "NoneType") (.ref (He.ga K "Machine")) false,
  kitB K (.type "bool") (.ref (He.ga K "Machine")) false,
  kitB K (.type "str") (.ref (He.ga K "Machine")) false]
def ex (K : PySem.W.Frag) : Bool := (bools K).all id
theorem ex_at {K : PySem.W.Frag} (h : ex K = true) (i : Nat) {b : Bool} (e : (bools K)[i]? = some b) : b = true := List.all_eq_true.mp h b (List.mem_of_getElem? e)
/-! ### how arguments are bound -/
theorem vals_getD : ∀ {vs : List V} {us : List Value} (i : Nat), Vals vs us → RelV (vs.getD i .non) (us.getD i .none)
  | [], [], _, _ => rfl
  | _ :: _, _ :: _, 0, .cons h _ => h
  | _ :: _, _ :: _, i + 1, .cons _ h => by
    have := vals_getD i h
    simpa using this
section
variable {K : PySem.W.Frag} {x qual : Str} {params : Arguments} {body : List Stmt} {scope : Scope} {kws : List (Str × V)} {f : Addr} {fd : FuncData} {ps ks : List Str} {n : Nat}
theorem kbn_of {g : List Value → List Value → List Value} {gV : List V → List V → List V} (F : FunD K x qual params body scope [] kws f fd) (rel : ∀ {vs us zs ws}, Vals vs us → Vals zs ws → Vals (gV vs zs) (g us ws))
    (h : ∀ (kV doc pm : Value) (an : Option Addr) (cdv ct : Value) (us ws : List Value), us.length = n → ws.length = ks.length → bindArgs (PySem.W.fnOf x qual params body scope .none kV doc pm an cdv ct) ⟨us, ks.zip ws⟩ = pure (ps.zip (g us ws))) : KBn K fd ps n ks g gV := by
  obtain ⟨oc, od, dV, kV, doc, pm, an, cdv, ct, osl, rfl, lk, hcd, hD, -⟩ := F.ex
  rcases hD with ⟨-, rfl⟩ | ⟨e, -⟩
  · exact ⟨fun s us ws _ l1 l2 => .of_eq (h kV doc pm an cdv ct us ws l1 l2), rel⟩
  · exact absurd rfl e
/-- a def's code object -/
theorem code_of {p : Str × Option Str} {st : Stmt} {z : Str} (F : FnP K z st (He.fAd K p) fd) : fd.code = .ref (He.cT K p).1 := by
  obtain ⟨oc, od, dV, kV, doc, pm, an, cdv, ct, osl, rfl, lk, hcd, -, -⟩ := F.ex
  obtain ⟨c, rfl⟩ := He.codeIn_ref hcd
  show Value.ref c = .ref (He.codeOf K p)
  rw [He.codeOf_eq lk rfl]
end
end KT
/-! the end -/
namespace KT
open PySem PySem.Spec PyProof.Rows L2 Kx RZ
abbrev Rw : PySem.W.OpenRow := PySem.W.OpenLaw.row PySem.Challenge.rw_onewitness_k10_machines_that_forget_and
abbrev hk : PySem.W.Hook := He.hookX 5 fa fn [] tf ex
def ob (s : PySem.W.SharedT) : He.AlX := He.obsX 5 fa fn [] tf ex (HandSHeadRun.getT s)
theorem ob_eq (s : PySem.W.SharedT) : ob s = hk.obs s.abs := He.obsX_eq (HandSHeadRun.getT_eq s)
def others1 : List Str := ["WitnessError", "BadMachine", "BadShowing", "Refused", "TooGreat", "Forgets", "NoState", "DEEDS_MOST", "STATES_MOST", "is_number", "is_below", "is_sequence", "first_not_below", "are_deeds", "ended", "Walk", "ROUND_MOST", "REST_MOST", "Counters", "_are_rests", "need_fit", "is_finite", "_shows", "showing_of", "shown_of", "_can_show", "check_showing", "Machine", "_is_table", "need_state"]
def others2 : List Str := ["in_coming_order", "reached", "forgotten", "need_exchanges", "circle", "moved", "moved_by", "deed_pairs", "least_parting", "_top", "_first_together", "_all_moved", "settled", "lots_of", "lot_with", "fold_size", "fold_values", "lot_shown", "told_state", "open_lots", "open_lot", "needed_values", "lot_rows", "rows_hold", "values_hold", "_law_box", "_law_take", "_law_pick", "_law_mixed", "_law_exchange"]
def others3 : List Str := ["_law_tables", "_law_come", "_law_heard", "_law_forgets", "_law_asks", "_law_walks"]
abbrev others : List Str := others1 ++ others2 ++ others3
theorem top_runs (w : World) : HandSHeadRun.RunEq Rw (PySem.W.view Rw.prog [73]) hk ob 8000 others w := by
  intro os
  kernel_rfl
end KT
namespace KT
open PySem PySem.Spec PyProof.Rows L2 Kx
section
variable {P : Program} {w : World} {K : PySem.W.Frag} {mg : Str → Option Value} {base : Heap} {f : Addr} {fd : FuncData} {a : Ad}
theorem passC {X : Cx} {W : WX} {E : XK} (tk : L2N.Takes X W) (h : ∀ cls d σ H, E cls d H → W cls d σ H) : Passes (L2N.CX X.prog X.w) X E := L2N.passes_call tk h
theorem inLen_some {l m : Int} {xs : List V} : inLen l m (some xs) = (decide (l ≤ (xs.length : Int)) && decide ((xs.length : Int) ≤ m)) := rfl
theorem optV_non {o : Option Nat} : decide (optV o = V.non) = o.isNone := by
  cases o with
  | none => rfl
  | some n => exact decide_eq_false (fun z => nomatch z)
theorem sc_first_not_below : FnScope ["values", "limit", "at", "value"] ["values", "limit"] (defScope s_first_not_below) := ⟨rfl, rfl, rfl, by decide +kernel, rfl, by decide +kernel, by decide +kernel⟩
theorem ok_first_not_below (F : FnP K "first_not_below" s_first_not_below f fd) (T : Mg mg) (c_is_below : Cal P w K mg base CX0 2 "is_below" ["value", "limit"] (spBelow K)) : FnOk P w K mg base CX0 3 f fd ["values", "limit"] (spFnb K) := by
  refine F.ok sc_first_not_below (fun vs H Q E h => ?_) (fun cdv A outer s H vs Q E hr h => ?_)
  · obtain ⟨a, xs, l, rfl, _⟩ := h
    rfl
  · obtain ⟨a, xs, l, rfl, hx, hk, k⟩ := h
    refine ⟨_, PSs.nox (pss_cons (ps_for PassesOwn.never rfl (pi_pairs (by rfl) T.z_enumerate (pa_cons (pv 0) pa_nil)) (pg_tup rfl (pgs_cons (pg_name (i := 2) sc_first_not_below.nd rfl (by first | exact Or.inl rfl | exact Or.inr rfl)) (pgs_cons (pg_name (i := 3) sc_first_not_below.nd rfl (by first | exact Or.inl rfl | exact Or.inr rfl)) pgs_nil)))
        (pss_one (ps_if (pt_not (pt_val (pe_callC c_is_below hr pass0 (pa_cons (pv 3) (pa_cons (pv 1) pa_nil)))))
          (pss_one (ps_ret (pv 2)))
          pss_nil)))
      (pss_one (ps_ret pe_non))), ?_⟩
    refine ⟨_, rfl, a, xs, rfl, for_pairs hx (fun i σ' H' => ∃ x y, σ' = [some (.ref a), some (.int l), x, y] ∧ Same H H' ∧ ∀ j z, j < i → xs[j]? = some z → isBel l z = true) ⟨_, _, rfl, Same.refl H, fun j z hj => absurd hj (Nat.not_lt_zero j)⟩ (fun i σ' H' q => q.elim fun _ q => q.elim fun _ q => q.2.1) ?_ ?_⟩
    · rintro i x p σ' H' hx' ⟨_, _, rfl, e, hl⟩ hp
      refine ⟨p, _, rfl, SqT.of upd_same, rfl, ?_⟩
      refine ⟨_, _, rfl, _, _, rfl, rfl, ?_⟩
      refine ⟨x, rfl, _, rfl, x, l, rfl, ((hk x (List.mem_of_getElem? hx')).same e).same (same_new hp), isBel l x, rfl, ?_⟩
      cases eb : isBel l x with
      | true =>
        refine iteF ⟨_, _, rfl, e.trans (same_new hp), fun j z hj hz => ?_⟩
        rcases Nat.lt_or_eq_of_le (Nat.le_of_lt_succ hj) with h | rfl
        · exact hl j z h hz
        · rw [hx'] at hz
          cases hz
          exact eb
      | false =>
        refine iteT ⟨_, rfl, ?_⟩
        rw [fnb_some (i := i) hl ⟨x, hx', eb⟩] at k
        exact k _ (e.trans (same_new hp))
    · rintro σ' H' ⟨_, _, rfl, e, hl⟩
      have := k _ e
      rw [fnb_none.mpr fun x hx => by
        obtain ⟨j, hj⟩ := List.getElem?_of_mem (hx : x ∈ xs)
        exact hl j x (List.getElem?_eq_some_iff.mp hj).1 hj] at this
      exact this
end
end KT
/-! comprehensions whose list is known ahead, item by item -/
namespace Kx
open L2 PySem PySem.Spec PyProof.Rows
/-- i items of out are made, at D -/
def Part (H1 : Hp) (D : Addr) (out : List V) (i : Nat) (H : Hp) : Prop := H D = some (.lst (out.take i)) ∧ Same H1 H
section
variable {H1 H H' : Hp} {D : Addr} {out : List V} {i : Nat} {y : V}
theorem Part.zero (hD : H1 D = none) : Part H1 D out 0 (upd H1 D (.lst [])) := ⟨upd_same, same_new hD⟩
theorem Part.step (p : Part H1 D out i H) (hD : H1 D = none) (e : Same H H') (hy : out[i]? = some y) (fits : out.length ≤ sizeLine) :
    ∃ acc, H' D = some (.lst acc) ∧ acc.length < sizeLine ∧ Part H1 D out (i + 1) (upd H' D (.lst (acc ++ [y]))) := by
  have lt := (List.getElem?_eq_some_iff.mp hy).1
  refine ⟨_, e _ _ p.1, by rw [List.length_take]; omega, ?_, fun b o hb => ?_⟩
  · rw [upd_same, List.take_add_one, hy] <;> rfl
  · rw [upd_ne (ne_of_none hb hD)]
    exact e _ _ (p.2 _ _ hb)
theorem Part.done {n : Nat} (p : Part H1 D out n H) (h : out.length ≤ n) : H D = some (.lst out) ∧ Same H1 H := by
  have q := p.1
  rw [List.take_of_length_le h] at q
  exact ⟨q, p.2⟩
end
theorem yes {σ : L2.St} {H : Hp} {Q : Bool → Hp → Prop} (h : Q true H) : tYes σ H Q := h
/-- a comprehension's W by a word of the turn -/
theorem lc_by {J : It} {n : Nat} {g : TG} {tt : TT} {te : TE} {vs : List Nat} {σ : L2.St} {Q : VK} {D : Addr} {H0 : Hp} (Pv : Nat → Hp → Prop) (h0 : Pv 0 H0)
    (go : ∀ i H, i < n → Pv i H → J.go i H ∧ ∀ x H', J.yld i H x H' → g x (wipe σ vs) H' fun σ2 H2 => wipe σ2 vs = wipe σ vs ∧ tt σ2 H2 fun b H3 =>
      if b = true then te σ2 H3 fun y H4 => ∃ acc, H4 D = some (.lst acc) ∧ acc.length < sizeLine ∧ Pv (i + 1) (upd H4 D (.lst (acc ++ [y]))) else Pv (i + 1) H3)
    (stop : ∀ H, Pv n H → J.stop n H ∧ Q (.ref D) H) :
    ∃ W : Nat → Nat → Hp → Prop, (∃ m, W 0 m H0) ∧ ∀ i m H, W i m H → (J.stop i H ∧ Q (.ref D) H) ∨ (J.go i H ∧ ∃ Nx : Hp → Prop, (∀ H', Nx H' → ∃ m', m' < m ∧ W (i + 1) m' H') ∧ ∀ x H', J.yld i H x H' → g x (wipe σ vs) H' fun σ2 H2 => wipe σ2 vs = wipe σ vs ∧ tt σ2 H2 fun b H3 =>
      if b = true then te σ2 H3 (fun y H4 => ∃ acc, H4 D = some (.lst acc) ∧ acc.length < sizeLine ∧ Nx (upd H4 D (.lst (acc ++ [y])))) else Nx H3) := by
  refine ⟨fun i m H => m = n - i ∧ i ≤ n ∧ Pv i H, ⟨n, rfl, Nat.zero_le n, h0⟩, ?_⟩
  rintro i m H ⟨rfl, le, p⟩
  rcases Nat.lt_or_eq_of_le le with lt | rfl
  · obtain ⟨g1, g2⟩ := go i H lt p
    exact .inr ⟨g1, Pv (i + 1), fun H' p' => ⟨n - (i + 1), by omega, rfl, lt, p'⟩, g2⟩
  · exact .inl (stop H p)
/-- the same for any body of the turn -/
theorem turns {J : It} {n : Nat} {Z : Hp → Prop} {H0 : Hp} {B : (Hp → Prop) → V → Hp → Prop} (Pv : Nat → Hp → Prop) (h0 : Pv 0 H0) (go : ∀ i H, i < n → Pv i H → J.go i H ∧ ∀ x H', J.yld i H x H' → B (Pv (i + 1)) x H') (stop : ∀ H, Pv n H → J.stop n H ∧ Z H) :
    ∃ W : Nat → Nat → Hp → Prop, (∃ m, W 0 m H0) ∧ ∀ i m H, W i m H → (J.stop i H ∧ Z H) ∨ (J.go i H ∧ ∃ Nx : Hp → Prop, (∀ H', Nx H' → ∃ m', m' < m ∧ W (i + 1) m' H') ∧ ∀ x H', J.yld i H x H' → B Nx x H') := by
  refine ⟨fun i m H => m = n - i ∧ i ≤ n ∧ Pv i H, ⟨n, rfl, Nat.zero_le n, h0⟩, ?_⟩
  rintro i m H ⟨rfl, le, p⟩
  rcases Nat.lt_or_eq_of_le le with lt | rfl
  · obtain ⟨g1, g2⟩ := go i H lt p
    exact .inr ⟨g1, Pv (i + 1), fun H' p' => ⟨n - (i + 1), by omega, rfl, lt, p'⟩, g2⟩
  · exact .inl (stop H p)
/-- t + u, any tuples -/
def rCatS (K : PySem.W.Frag) : R2 := fun x y H Q => ∃ (a b : Addr) (xs ys : List V), x = .ref a ∧ y = .ref b ∧ SqT K H a xs ∧ SqT K H b ys ∧ xs.length + ys.length ≤ sizeLine ∧ ∀ p H', Same H H' → SqT K H' p (xs ++ ys) → Q (.ref p) H'
theorem op_catS {X : Cx} {K : PySem.W.Frag} (hK : X.K = K := by rfl) : OpR X (binaryOp .Add) (rCatS K) := by
  subst hK
  intro pins st σ H x y v u Q I rx ry h
  obtain ⟨a, b, xs, ys, rfl, rfl, h1, h2, fits, key⟩ := h
  refine op_catA pins st σ H _ _ v u Q I rx ry ⟨a, b, xs, ys, rfl, rfl, h1, h2, fits, fun e => ?_, fun _ e => ?_, fun _ _ p hp => key p _ (same_new hp) (SqT.of upd_same)⟩
  · subst e
    exact key b H (Same.refl H) h2
  · subst e
    exact key a H (Same.refl H) (by rw [List.append_nil]; exact h1)
end Kx
/-! machines are made, compared -/
namespace KT
open PySem PySem.Spec PyProof.Rows L2 Kx
theorem r64 {k : Nat} {A : Around} (r : Room k A) : A.units + 64 < cLine := by have := r.un; omega
theorem fnb_ints {l : Int} : ∀ {xs : List V}, fnb l xs = none → ∃ ns : List Int, xs = ns.map V.int ∧ ∀ n ∈ ns, 0 ≤ n ∧ n < l
  | [], _ => ⟨[], rfl, fun _ h => nomatch h⟩
  | x :: xs, h => by
    have h' := fnb_none.mp h
    obtain ⟨ns, rfl, hn⟩ := fnb_ints (xs := xs) (fnb_none.mpr fun y hy => h' y (List.mem_cons_of_mem _ hy))
    have hx := h' x (List.mem_cons_self ..)
    cases x with
    | int i =>
      have hx : (decide (0 ≤ i) && decide (i < l)) = true := hx
      rw [Bool.and_eq_true] at hx
      refine ⟨i :: ns, rfl, fun n hn' => (List.mem_cons.mp hn').elim (fun e => ?_) (hn n)⟩
      subst e
      exact ⟨of_decide_eq_true hx.1, of_decide_eq_true hx.2⟩
    | _ => exact absurd hx Bool.false_ne_true
theorem fnb_of {l : Int} {ns : List Int} (h : ∀ n ∈ ns, 0 ≤ n ∧ n < l) : fnb l (ns.map V.int) = none := fnb_none.mpr fun x hx => by
  obtain ⟨n, hn, rfl⟩ := List.mem_map.mp hx
  show (decide (0 ≤ n) && decide (n < l)) = true
  rw [decide_eq_true (h n hn).1, decide_eq_true (h n hn).2]
  rfl
theorem tup_of {K : PySem.W.Frag} {H : Hp} {a : Addr} {xs : List V} {Q : VK} (q : Sq K H a xs) (key : ∀ p H', Same H H' → SqT K H' p xs → Q (.ref p) H') : (SqL K H a xs ∧ ∀ l, H l = none → Q (.ref l) (upd H l (.tup xs))) ∨ (SqT K H a xs ∧ Q (.ref a) H) :=
  q.imp (fun q => ⟨q, fun l hl => key l _ (same_new hl) (SqT.of upd_same)⟩) fun q => ⟨q, key a H (Same.refl H) q⟩
theorem call_tup {X : Cx} : CallR X (.type "tuple") (fun xs H Q => ∃ p ys, xs = [.ref p] ∧ Sq X.K H p ys ∧ ∀ q H', Same H H' → SqT X.K H' q ys → Q (.ref q) H') := fun pins s σ H vs us Q I r ⟨p, ys, e, q, key⟩ =>
  call_tuple_of pins s σ H vs us Q I r ⟨p, ys, e, tup_of q key⟩
theorem rd_ins {H : Hp} {x a C dx : Addr} {fs gs : List (Str × V)} {u : HO} (hx : H x = some (.ins C dx fs)) (n1 : ∀ C dx fs, u ≠ .ins C dx fs) (q : Rd H a u) : Rd (upd H x (.ins C dx gs)) a u :=
  q.elim (fun q => .inl (by rw [upd_ne (ne_of q hx (n1 _ _ _))]; exact q)) fun ⟨z, q⟩ => .inr ⟨z, by rw [upd_ne (ne_of q hx (fun z => nomatch z))]; exact q⟩
theorem sqL_ins {K : PySem.W.Frag} {H : Hp} {x a C dx : Addr} {fs gs : List (Str × V)} {xs : List V} (hx : H x = some (.ins C dx fs)) (h : SqL K H a xs) : SqL K (upd H x (.ins C dx gs)) a xs := h.imp (rd_ins hx fun _ _ _ z => nomatch z) id
theorem sqT_ins {K : PySem.W.Frag} {H : Hp} {x a C dx : Addr} {fs gs : List (Str × V)} {xs : List V} (hx : H x = some (.ins C dx fs)) (h : SqT K H a xs) : SqT K (upd H x (.ins C dx gs)) a xs := h.imp (rd_ins hx fun _ _ _ z => nomatch z) id
theorem sq_ins {K : PySem.W.Frag} {H : Hp} {x a C dx : Addr} {fs gs : List (Str × V)} {xs : List V} (hx : H x = some (.ins C dx fs)) (h : Sq K H a xs) : Sq K (upd H x (.ins C dx gs)) a xs := h.imp (sqL_ins hx) (sqT_ins hx)
theorem tru_sq {K : PySem.W.Frag} {H : Hp} {b : Addr} {xs : List V} (h : Sq K H b xs) : TruV K (.ref b) H (!xs.isEmpty) := h.elim (fun h => .inl ⟨xs, h, rfl⟩) fun h => .inr (.inl ⟨xs, h, rfl⟩)
theorem sqT_lst {K : PySem.W.Frag} {H : Hp} {D : Addr} {u u' : List V} {q : Addr} {xs : List V} (hD : H D = some (.lst u)) (h : SqT K H q xs) : SqT K (upd H D (.lst u')) q xs := by
  refine h.imp (fun h => ?_) id
  rcases h with h | ⟨z, h⟩
  · exact .inl (by rw [upd_ne (ne_of h hD (fun z => nomatch z))]; exact h)
  · exact .inr ⟨z, by rw [upd_ne (ne_of h hD (fun z => nomatch z))]; exact h⟩
/-- tables that a machine may have: n states -/
structure Mok (n : Nat) (ts : List (List Int)) : Prop where
  l1 : 1 ≤ ts.length
  l4 : ts.length ≤ 4
  n1 : 1 ≤ n
  n8 : n ≤ 8
  len : ∀ t ∈ ts, t.length = n
  ent : ∀ t ∈ ts, ∀ x ∈ t, 0 ≤ x ∧ x < (n : Int)
/-- rows stand at these places -/
def RowsBy (R : Addr → List V → Prop) : List V → List (List Int) → Prop
  | [], [] => True
  | v :: vs, t :: ts => (∃ q, v = .ref q ∧ R q (t.map V.int)) ∧ RowsBy R vs ts
  | _, _ => False
theorem RowsBy.imp {R S : Addr → List V → Prop} (e : ∀ q xs, R q xs → S q xs) : ∀ {vs : List V} {ts : List (List Int)}, RowsBy R vs ts → RowsBy S vs ts
  | [], [], _ => trivial
  | _ :: _, _ :: _, ⟨⟨q, h1, h2⟩, h⟩ => ⟨⟨q, h1, e _ _ h2⟩, RowsBy.imp e h⟩
  | [], _ :: _, h => h.elim
  | _ :: _, [], h => h.elim
theorem RowsBy.length {R : Addr → List V → Prop} : ∀ {vs : List V} {ts : List (List Int)}, RowsBy R vs ts → vs.length = ts.length
  | [], [], _ => rfl
  | _ :: _, _ :: _, ⟨_, h⟩ => congrArg Nat.succ (RowsBy.length h)
  | [], _ :: _, h => h.elim
  | _ :: _, [], h => h.elim
theorem RowsBy.at_ {R : Addr → List V → Prop} : ∀ {vs : List V} {ts : List (List Int)} {i : Nat} {t : List Int}, RowsBy R vs ts → ts[i]? = some t → ∃ q, vs[i]? = some (.ref q) ∧ R q (t.map V.int)
  | _ :: _, _ :: _, 0, t, ⟨⟨q, h1, h2⟩, _⟩, e => by
    simp at e
    subst e
    exact ⟨q, by simp [h1], h2⟩
  | _ :: _, _ :: _, i + 1, t, ⟨_, h⟩, e => by
    obtain ⟨q, h1, h2⟩ := RowsBy.at_ (i := i) h (by simpa using e)
    exact ⟨q, by simpa using h1, h2⟩
  | [], [], _, _, _, e => by simp at e
  | [], _ :: _, _, _, h, _ => h.elim
  | _ :: _, [], _, _, h, _ => h.elim
theorem RowsBy.snoc {R : Addr → List V → Prop} {q : Addr} {t : List Int} (hq : R q (t.map V.int)) : ∀ {vs : List V} {ts : List (List Int)}, RowsBy R vs ts → RowsBy R (vs ++ [.ref q]) (ts ++ [t])
  | [], [], _ => ⟨⟨q, rfl, hq⟩, trivial⟩
  | _ :: _, _ :: _, ⟨h1, h⟩ => ⟨h1, RowsBy.snoc hq h⟩
  | [], _ :: _, h => h.elim
  | _ :: _, [], h => h.elim
structure McAt (K : PySem.W.Frag) (CM : Addr) (H : Hp) (m : Addr) (n : Nat) (ts : List (List Int)) : Prop where
  ok : Mok n ts
  ex : ∃ dx t ps, H m = some (.ins CM dx [("deeds", .int (ts.length : Int)), ("states", .int (n : Int)), ("tables", .ref t)]) ∧ SqT K H t ps ∧ RowsBy (SqT K H) ps ts
theorem McAt.same {K : PySem.W.Frag} {CM : Addr} {H H' : Hp} {m : Addr} {n : Nat} {ts : List (List Int)} (e : Same H H') (h : McAt K CM H m n ts) : McAt K CM H' m n ts := by
  obtain ⟨ok, dx, t, ps, h1, h2, h3⟩ := h
  exact ⟨ok, dx, t, ps, e _ _ h1, sqT_same e h2, h3.imp fun _ _ q => sqT_same e q⟩
structure ClsM (K : PySem.W.Frag) (mg : Str → Option Value) (CM : Addr) : Prop where
  at_ : mg "Machine" = some (.ref CM)
  cl : Cls K CM
  n1 : NoAttr K CM "deeds"
  n2 : NoAttr K CM "states"
  n3 : NoAttr K CM "tables"
  isi : SlX.SIsi K CM
  yes : PySem.W.kitOne K (.ref CM) (.ref CM) = some true
  notT : PySem.W.kitOne K (.type "tuple") (.ref CM) = some false
  first : PySem.W.notFirst K CM (.type "tuple") = true
/-- a table of n states -/
def isTab (n : Nat) : Option (List V) → Bool
  | some ys => inLen 1 8 (some ys) && (decide (ys.length = n) && (fnb ys.length ys).isNone)
  | none => false
theorem isTab_some {n : Nat} {ys : List V} : isTab n (some ys) = (inLen 1 8 (some ys) && (decide (ys.length = n) && (fnb ys.length ys).isNone)) := rfl
def spTable (K : PySem.W.Frag) : Sp := fun vs H Q _ => ∃ (v like : V) (o : Option (List V)) (n : Nat), vs = [v, like] ∧ Long K H v o ∧ Kns K H o 8 ∧ (inLen 1 8 o = true → ∃ c zs, like = .ref c ∧ Sq K H c zs ∧ zs.length = n) ∧ ∀ H', Same H H' → Q (.bl (isTab n o)) H'
/-- the first that is no table -/
def badTab (n : Nat) : List (Option (List V)) → Option Nat
  | [] => none
  | o :: os => if isTab n o = true then (badTab n os).map (· + 1) else some 0
theorem badTab_none {n : Nat} : ∀ {os : List (Option (List V))}, badTab n os = none ↔ ∀ o ∈ os, isTab n o = true
  | [] => by simp [badTab]
  | o :: os => by
    unfold badTab
    by_cases h : isTab n o = true
    · rw [if_pos h, Option.map_eq_none_iff, badTab_none]
      exact ⟨fun q y hy => (List.mem_cons.mp hy).elim (fun e => e ▸ h) (q y), fun q y hy => q y (List.mem_cons_of_mem _ hy)⟩
    · rw [if_neg h]
      exact ⟨fun q => (nomatch q), fun q => absurd (q o (List.mem_cons_self ..)) h⟩
theorem badTab_some {n : Nat} : ∀ {os : List (Option (List V))} {i : Nat}, (∀ j o, j < i → os[j]? = some o → isTab n o = true) → (∃ o, os[i]? = some o ∧ isTab n o = false) → badTab n os = some i
  | [], i, _, h => by obtain ⟨x, h, _⟩ := h; simp at h
  | x :: xs, 0, _, h => by
    obtain ⟨y, h1, h2⟩ := h
    have e : x = y := by simpa using h1
    unfold badTab
    rw [e, if_neg (by rw [h2]; exact Bool.false_ne_true)]
  | x :: xs, i + 1, hl, h => by
    unfold badTab
    rw [if_pos (hl 0 x (Nat.succ_pos i) rfl), badTab_some (i := i) (fun j y hj hy => hl (j + 1) y (Nat.succ_lt_succ hj) (by simpa using hy)) (by simpa using h)]
    rfl
/-- what the items are as sequences -/
def Items (K : PySem.W.Frag) (H : Hp) : List V → List (Option (List V)) → Prop
  | [], [] => True
  | v :: vs, o :: os => (Long K H v o ∧ Kns K H o 8) ∧ Items K H vs os
  | _, _ => False
theorem Items.at_ {K : PySem.W.Frag} {H : Hp} : ∀ {vs : List V} {os : List (Option (List V))} {i : Nat} {v : V}, Items K H vs os → vs[i]? = some v → ∃ o, os[i]? = some o ∧ Long K H v o ∧ Kns K H o 8
  | _ :: _, _ :: _, 0, v, ⟨h1, _⟩, e => by
    simp at e
    subst e
    exact ⟨_, rfl, h1⟩
  | _ :: _, _ :: _, i + 1, v, ⟨_, h⟩, e => by
    obtain ⟨o, h1, h2⟩ := Items.at_ (i := i) h (by simpa using e)
    exact ⟨o, by simpa using h1, h2⟩
  | [], [], _, _, _, e => by simp at e
  | [], _ :: _, _, _, h, _ => h.elim
  | _ :: _, [], _, _, h, _ => h.elim
/-- the number of the first's items -/
def lenAt (os : List (Option (List V))) : Nat := match os[0]? with
  | some (some ys) => ys.length
  | _ => 0
theorem tabs_of {K : PySem.W.Frag} {H : Hp} {n : Nat} : ∀ {vs : List V} {os : List (Option (List V))}, Items K H vs os → (∀ o ∈ os, isTab n o = true) → ∃ ts : List (List Int), os = ts.map (fun t => some (t.map V.int)) ∧ RowsBy (Sq K H) vs ts ∧ (∀ t ∈ ts, t.length = n) ∧ ∀ t ∈ ts, ∀ x ∈ t, 0 ≤ x ∧ x < (n : Int)
  | [], [], _, _ => ⟨[], rfl, trivial, (fun t h => nomatch h), (fun t h => nomatch h)⟩
  | v :: vs, o :: os, ⟨⟨h1, _⟩, h⟩, all => by
    obtain ⟨ts, e, r, l, b⟩ := tabs_of h fun o ho => all o (List.mem_cons_of_mem _ ho)
    have z := all o (List.mem_cons_self ..)
    cases h1 with
    | @seq a ys q =>
      rw [isTab_some, Bool.and_eq_true, Bool.and_eq_true] at z
      have len := of_decide_eq_true z.2.1
      obtain ⟨ns, en, hn⟩ := fnb_ints (Option.isNone_iff_eq_none.mp z.2.2)
      subst en
      refine ⟨ns :: ts, by rw [e]; rfl, ⟨⟨a, rfl, q⟩, r⟩, fun t ht => ?_, fun t ht => ?_⟩
      · rcases List.mem_cons.mp ht with rfl | ht
        · rw [← len, List.length_map]
        · exact l t ht
      · rcases List.mem_cons.mp ht with rfl | ht
        · intro x hx
          have := hn x hx
          rw [len] at this
          exact this
        · exact b t ht
    | _ => cases z
  | [], _ :: _, h, _ => h.elim
  | _ :: _, [], h, _ => h.elim
section
variable {P : Program} {w : World} {K : PySem.W.Frag} {mg : Str → Option Value} {base : Heap} {f : Addr} {fd : FuncData} {a : Ad} {CM : Addr}
theorem sc_is_table : FnScope ["value", "like"] ["value", "like"] (defScope s_is_table) := ⟨rfl, rfl, rfl, by decide +kernel, rfl, by decide +kernel, by decide +kernel⟩
theorem ok_is_table (F : FnP K "_is_table" s_is_table f fd) (T : Mg mg) (c_is_sequence : Cal P w K mg base CX0 1 "is_sequence" ["value", "least", "most"] (spSeq K)) (c_first_not_below : Cal P w K mg base CX0 3 "first_not_below" ["values", "limit"] (spFnb K)) : FnOk P w K mg base CX0 4 f fd ["value", "like"] (spTable K) := by
  refine F.ok sc_is_table (fun vs H Q E h => ?_) (fun cdv A outer s H vs Q E hr h => ?_)
  · obtain ⟨v, like, o, n, rfl, _⟩ := h
    rfl
  · obtain ⟨v, like, o, n, rfl, hv, hk, hl, k⟩ := h
    refine ⟨_, PSs.nox (pss_cons (ps_if (pt_not (pt_val (pe_callC c_is_sequence hr pass0 (pa_cons (pv 0) (pa_cons pe_int (pa_cons (pe_constI T.g_STATES_MOST) pa_nil))))))
        (pss_one (ps_ret pe_bl))
        pss_nil)
      (pss_one (ps_ret (pe_and (pe_cmpR op_eq (pe_callB call_len_seq (by rfl) T.z_len PySem.boot_len (pa_cons (pv 0) pa_nil)) (pe_callB call_len_seq (by rfl) T.z_len PySem.boot_len (pa_cons (pv 1) pa_nil)) (nomark _)) (pe_one (pe_cmpR op_isN (pe_callC c_first_not_below hr pass0 (pa_cons (pv 0) (pa_cons (pe_callB call_len_seq (by rfl) T.z_len PySem.boot_len (pa_cons (pv 0) pa_nil)) pa_nil))) pe_non (nomark _))))))), ?_⟩
    refine ⟨_, rfl, v, 1, 8, o, rfl, hv, fun H1 e1 => ⟨inLen 1 8 o, rfl, ?_⟩⟩
    cases i1 : inLen 1 8 o with
    | false =>
      have z : isTab n o = false := by
        cases o with
        | none => rfl
        | some ys => rw [isTab_some, i1] <;> rfl
      rw [z] at k
      exact iteT (k H1 e1)
    | true =>
      refine iteF ?_
      obtain ⟨c, zs, rfl, hc, hn⟩ := hl i1
      cases hv with
      | @seq b ys hb =>
        rw [isTab_some, i1] at k
        have l8 : ys.length ≤ 8 := by
          rw [inLen_some, Bool.and_eq_true] at i1
          have := of_decide_eq_true i1.2
          omega
        refine ⟨_, rfl, b, ys, rfl, hb.same e1, _, rfl, c, zs, rfl, hc.same e1, rfl, ?_⟩
        have ed : decide (V.int (ys.length : Int) = V.int (zs.length : Int)) = decide (ys.length = n) := by
          rw [hn, Bool.eq_iff_iff, decide_eq_true_eq, decide_eq_true_eq]
          exact ⟨fun z => by injection z with z; omega, fun z => by rw [z]⟩
        rw [ed]
        refine ⟨_, rfl, ?_⟩
        cases en : decide (ys.length = n) with
        | false =>
          rw [en] at k
          exact iteF (k H1 e1)
        | true =>
          rw [en] at k
          refine iteT ?_
          refine ⟨_, rfl, _, rfl, b, ys, rfl, hb.same e1, b, ys, _, rfl, hb.same e1, fun x hx => (hk _ rfl l8 x hx).same e1, fun H2 e2 => ⟨rfl, ?_⟩⟩
          have k2 := k _ (e1.trans e2)
          rw [← optV_non] at k2
          exact k2
      | _ => cases i1
end
end KT
/-! machines are made, compared -/
namespace KT
open L2 PySem PySem.Spec PyProof.Rows Kx
def spMachine (K : PySem.W.Frag) (a : Ad) (CM : Addr) : Sp := fun vs H Q E => ∃ (x dx : Addr) (v : V) (o : Option (List V)), vs = [.ref x, v] ∧ H x = some (.ins CM dx []) ∧ Long K H v o ∧ (inLen 1 4 o = false → Thrown E H a.cM "at" (.int (-1))) ∧
  ∀ xs, o = some xs → inLen 1 4 o = true → ∃ os, Items K H xs os ∧ (∀ i, badTab (lenAt os) os = some i → Thrown E H a.cM "at" (.int (i : Int))) ∧
    (badTab (lenAt os) os = none → ∀ n ts, Mok n ts → os = ts.map (fun t => some (t.map V.int)) → ∀ H', (∀ b o, b ≠ x → H b = some o → H' b = some o) → McAt K CM H' x n ts → Q .non H')
/-- tuple(xs) in a comprehension -/
theorem call_tupK {X : Cx} {K : PySem.W.Frag} (hK : X.K = K := by rfl) : CallR X (.type "tuple") (fun xs H Q => ∃ p ys, xs = [.ref p] ∧ Sq K H p ys ∧ ∀ q H', Same H H' → SqT K H' q ys → Q (.ref q) H') := by
  subst hK
  exact call_tup
theorem Items.length {K : PySem.W.Frag} {H : Hp} : ∀ {vs : List V} {os : List (Option (List V))}, Items K H vs os → vs.length = os.length
  | [], [], _ => rfl
  | _ :: _, _ :: _, ⟨_, h⟩ => congrArg Nat.succ (Items.length h)
  | [], _ :: _, h => h.elim
  | _ :: _, [], h => h.elim
theorem ints_map {xs ys : List (List Int)} (h : xs.map (fun t => some (t.map V.int)) = ys.map (fun t => some (t.map V.int))) : xs = ys := by
  have inj : ∀ {a b : List Int}, a.map V.int = b.map V.int → a = b := fun {a b} h => by
    have := congrArg (List.map fun v => match v with | V.int i => i | _ => 0) h
    simpa [Function.comp_def] using this
  induction xs generalizing ys with
  | nil => cases ys with
    | nil => rfl
    | cons _ _ => cases h
  | cons x xs ih => cases ys with
    | nil => cases h
    | cons y ys =>
      rw [List.map_cons, List.map_cons] at h
      injection h with h1 h2
      rw [inj (Option.some.inj h1), ih h2]
section
variable {P : Program} {w : World} {K : PySem.W.Frag} {mg : Str → Option Value} {base : Heap} {f : Addr} {fd : FuncData} {a : Ad} {CM : Addr}
theorem sc_machine : FnScope ["self", "tables", "at", "table"] ["self", "tables"] (defScope s_Machine_init) := ⟨rfl, rfl, rfl, by decide +kernel, rfl, by decide +kernel, by decide +kernel⟩
theorem ok_machine (F : FunD K "__init__" "Machine.__init__" (defArgs s_Machine_init) (defBody s_Machine_init) (defScope s_Machine_init) [] [] f fd) (T : Mg mg) (R : Er P w K mg base a) (TM : ClsM K mg CM)
    (c_is_sequence : Cal P w K mg base CX0 1 "is_sequence" ["value", "least", "most"] (spSeq K)) (c__is_table : Cal P w K mg base CX0 4 "_is_table" ["value", "like"] (spTable K)) : FnOk P w K mg base (L2N.CX P w) 5 f fd ["self", "tables"] (spMachine K a CM) := by
  refine F.ok sc_machine (fun vs H Q E h => ?_) (fun cdv A outer s H vs Q E hr h => ?_)
  · obtain ⟨x, dx, v, o, rfl, _⟩ := h
    rfl
  · obtain ⟨x, dx, v, o, rfl, hx, hv, far, near⟩ := h
    refine ⟨_, (pss_cons (ps_if (pt_not (pt_val (pe_callC c_is_sequence hr pass0 (pa_cons (pv 1) (pa_cons pe_int (pa_cons (pe_constI T.g_DEEDS_MOST) pa_nil))))))
        (pss_one (psN R.BadMachine rfl hr (L2N.takes_of rfl rfl rfl rfl) (pa_cons (pe_un un_neg pe_int) pa_nil)))
        pss_nil)
      (pss_cons (ps_for (passes_of rfl) rfl (pi_pairs (by rfl) T.z_enumerate (pa_cons (pv 1) pa_nil)) (pg_tup rfl (pgs_cons (pg_name (i := 2) sc_machine.nd rfl (by first | exact Or.inl rfl | exact Or.inr rfl)) (pgs_cons (pg_name (i := 3) sc_machine.nd rfl (by first | exact Or.inl rfl | exact Or.inr rfl)) pgs_nil)))
        (pss_one (ps_if (pt_not (pt_val (pe_callC c__is_table hr pass0 (pa_cons (pv 3) (pa_cons (pe_ix ix_seq (pv 1) pe_int (fun _ _ => rfl)) pa_nil)))))
          (pss_one (psN R.BadMachine rfl hr (L2N.takes_of rfl rfl rfl rfl) (pa_cons (pv 2) pa_nil)))
          pss_nil)))
      (PSs.nox (pss_cons (ps_fld (pv 0) (pe_callB call_len_seq (by rfl) T.z_len PySem.boot_len (pa_cons (pv 1) pa_nil)) rfl)
      (pss_cons (ps_fld (pv 0) (pe_callB call_len_seq (by rfl) T.z_len PySem.boot_len (pa_cons (pe_ix ix_seq (pv 1) pe_int (fun _ _ => rfl)) pa_nil)) rfl)
      (pss_one (ps_fld (pv 0) (pe_callTy call_tup (by rfl) T.z_tuple (by decide +kernel) (pa_cons (pe_lc (own := [("table", 3)]) (by rfl) sc_machine.nd (pi_any (pv 1)) (blkOk_by (own := [("table", 3)]) (N := ["self", "tables", "at", "table"]) (sc := defScope s_Machine_init) (by decide +kernel))
        (fun _ _ _ _ _ => pg_name (i := 3) sc_machine.nd rfl (by first | exact Or.inl rfl | exact Or.inr rfl)) (fun _ _ _ _ _ => pts_nil) (fun _ _ _ _ _ => pe_callTy (call_tupK (K := K)) (by rfl) T.z_tuple bt_tuple (pa_cons (pv 3) pa_nil))) pa_nil)) rfl))))))), ?_⟩
    refine ⟨_, rfl, v, 1, 4, o, rfl, hv, fun H1 e1 => ⟨inLen 1 4 o, rfl, ?_⟩⟩
    cases i1 : inLen 1 4 o with
    | false => exact iteT ⟨1, rfl, thrownN ((far i1).same e1).at_⟩
    | true =>
      refine iteF ?_
      cases hv with
      | @seq b xs hb =>
        obtain ⟨os, it, bad, good⟩ := near xs rfl i1
        have len := it.length
        have l4 : 1 ≤ xs.length ∧ xs.length ≤ 4 := by
          have z := i1
          rw [inLen_some, Bool.and_eq_true] at z
          have := of_decide_eq_true z.1
          have := of_decide_eq_true z.2
          omega
        obtain ⟨x0, hx0⟩ : ∃ x0, xs[0]? = some x0 := ⟨xs[0], List.getElem?_eq_getElem (by omega)⟩
        obtain ⟨o0, ho0, long0, kns0⟩ := it.at_ hx0
        have ix0 : ∀ {H' : Hp} {Q : VK}, Same H H' → Q x0 H' → rIx K (.ref b) (.int 0) H' Q := fun e q => by
          rcases hb.same e with z | z
          · exact .inl ⟨b, xs, 0, x0, rfl, rfl, z, atI_nat hx0, q⟩
          · exact .inr (.inl ⟨b, xs, 0, x0, rfl, rfl, z, atI_nat hx0, q⟩)
        refine ⟨_, rfl, b, xs, rfl, for_pairs (hb.same e1) (fun i σ' H' => ∃ y z, σ' = [some (.ref x), some (.ref b), y, z] ∧ Same H H' ∧ Same H1 H' ∧ ∀ j o, j < i → os[j]? = some o → isTab (lenAt os) o = true) ⟨_, _, rfl, e1, Same.refl _, fun j z hj => absurd hj (Nat.not_lt_zero j)⟩ (fun i σ' H' q => q.elim fun _ q => q.elim fun _ q => q.2.2.1) ?_ ?_⟩
        · rintro i y t σ' H' hy ⟨_, _, rfl, e, e', hs⟩ ht
          refine ⟨t, _, rfl, SqT.of upd_same, rfl, ?_⟩
          refine ⟨_, _, rfl, _, _, rfl, rfl, ?_⟩
          have e2 := e.trans (same_new (o := HO.tup [.int (i : Int), y]) ht)
          obtain ⟨oi, hoi, longi, knsi⟩ := it.at_ hy
          refine ⟨_, rfl, _, rfl, ix0 e2 ?_⟩
          refine ⟨y, x0, oi, lenAt os, rfl, longi.same e2, knsi.same e2, fun z => ?_, fun H3 e3 => ⟨isTab (lenAt os) oi, rfl, ?_⟩⟩
          · have z0 : isTab (lenAt os) o0 = true ∨ (i = 0 ∧ oi = o0) := by
              rcases Nat.eq_zero_or_pos i with h | h
              · subst h
                rw [ho0] at hoi
                exact .inr ⟨rfl, (Option.some.inj hoi).symm⟩
              · exact .inl (hs 0 o0 h ho0)
            have some0 : ∃ zs, o0 = some zs := by
              rcases z0 with h | ⟨_, h⟩
              · cases o0 with
                | none => cases h
                | some zs => exact ⟨zs, rfl⟩
              · subst h
                cases oi with
                | none => cases z
                | some zs => exact ⟨zs, rfl⟩
            obtain ⟨zs, rfl⟩ := some0
            cases long0 with
            | @seq c _ hc => exact ⟨c, zs, rfl, hc.same e2, by unfold lenAt; rw [ho0]⟩
          · cases eb : isTab (lenAt os) oi with
            | false => exact iteT ⟨_, rfl, thrownN ((bad i (badTab_some hs ⟨oi, hoi, eb⟩)).same (e2.trans e3)).at_⟩
            | true =>
              refine iteF ⟨_, _, rfl, e2.trans e3, (e'.trans (same_new ht)).trans e3, fun j z hj hz => ?_⟩
              rcases Nat.lt_or_eq_of_le (Nat.le_of_lt_succ hj) with h | rfl
              · exact hs j z h hz
              · rw [hoi] at hz
                cases hz
                exact eb
        · rintro σ' H' ⟨_, _, rfl, e, e', hs⟩
          have allT : ∀ o ∈ os, isTab (lenAt os) o = true := fun o ho => by
            obtain ⟨j, hj⟩ := List.getElem?_of_mem ho
            exact hs j o (by rw [len]; exact (List.getElem?_eq_some_iff.mp hj).1) hj
          obtain ⟨ts, eo, rows, tl, tb⟩ := tabs_of it allT
          have lts : ts.length = xs.length := by rw [len, eo, List.length_map]
          obtain ⟨t0, ht0⟩ : ∃ t0, ts[0]? = some t0 := ⟨ts[0], List.getElem?_eq_getElem (by omega)⟩
          have mt0 := List.mem_of_getElem? ht0
          have n0 : lenAt os = t0.length := (tl t0 mt0).symm
          have mok : Mok (lenAt os) ts := by
            have z := allT o0 (List.mem_of_getElem? ho0)
            refine ⟨by omega, by omega, ?_, ?_, tl, tb⟩
            · cases o0 with
              | none => cases z
              | some ys =>
                rw [isTab_some, Bool.and_eq_true, Bool.and_eq_true, inLen_some, Bool.and_eq_true] at z
                have := of_decide_eq_true z.1.1
                have := of_decide_eq_true z.2.1
                omega
            · cases o0 with
              | none => cases z
              | some ys =>
                rw [isTab_some, Bool.and_eq_true, Bool.and_eq_true, inLen_some, Bool.and_eq_true] at z
                have := of_decide_eq_true z.1.2
                have := of_decide_eq_true z.2.1
                omega
          have good := good (badTab_none.mpr allT) _ ts mok eo
          obtain ⟨c0, hc0, sc0⟩ := rows.at_ ht0
          rw [hx0] at hc0
          obtain rfl := Option.some.inj hc0
          have hx1 := e _ _ hx
          have hb1 := hb.same e
          refine ⟨_, rfl, b, xs, rfl, hb1, _, rfl, x, CM, dx, _, rfl, hx1, TM.cl, TM.n1, (by decide), ?_⟩
          generalize hH2 : upd H' x (.ins CM dx (putF "deeds" (.int (xs.length : Int)) [])) = H2
          have hx2 : H2 x = some (.ins CM dx [("deeds", .int (xs.length : Int))]) := by rw [← hH2]; exact upd_same
          have sq2 : ∀ {p : Addr} {zs : List V}, Sq K H p zs → Sq K H2 p zs := fun z => by rw [← hH2]; exact sq_ins hx1 (z.same e)
          have hb2 : Sq K H2 b xs := sq2 hb
          have keep2 : ∀ c o, c ≠ x → H c = some o → H2 c = some o := fun c o ne hc => by rw [← hH2, upd_ne ne]; exact e _ _ hc
          have ix2 : ∀ {Q : VK}, Q (.ref c0) H2 → rIx K (.ref b) (.int 0) H2 Q := fun q => by
            rcases hb2 with z | z
            · exact .inl ⟨b, xs, 0, _, rfl, rfl, z, atI_nat hx0, q⟩
            · exact .inr (.inl ⟨b, xs, 0, _, rfl, rfl, z, atI_nat hx0, q⟩)
          refine ⟨_, rfl, ix2 ?_⟩
          refine ⟨c0, _, rfl, sq2 sc0, _, rfl, x, CM, dx, _, rfl, hx2, TM.cl, TM.n2, (Nat.lt_of_succ_lt (by show 2 < 1000; decide)), ?_⟩
          rw [List.length_map, ← n0]
          generalize hH3 : upd H2 x (.ins CM dx (putF "states" (.int (lenAt os : Int)) [("deeds", .int (xs.length : Int))])) = H3
          have hx3 : H3 x = some (.ins CM dx [("deeds", .int (xs.length : Int)), ("states", .int (lenAt os : Int))]) := by rw [← hH3]; exact upd_same
          have sq3 : ∀ {p : Addr} {zs : List V}, Sq K H p zs → Sq K H3 p zs := fun z => by rw [← hH3]; exact sq_ins hx2 (sq2 z)
          have hb3 : Sq K H3 b xs := sq3 hb
          have keep3 : ∀ c o, c ≠ x → H c = some o → H3 c = some o := fun c o ne hc => by rw [← hH3, upd_ne ne]; exact keep2 _ _ ne hc
          have inp3 : RowsBy (Sq K H3) xs ts := rows.imp fun _ _ q => sq3 q
          have last : ∀ (H4 : Hp) (D : Addr) (ps : List V), Same H3 H4 → H4 D = some (.lst ps) → RowsBy (SqT K H4) ps ts → ∀ t H5, Same H4 H5 → SqT K H5 t ps → Q .non (upd H5 x (.ins CM dx [("deeds", .int (xs.length : Int)), ("states", .int (lenAt os : Int)), ("tables", .ref t)])) := fun H4 D ps e4 hD rw4 t H5 e5 ht => by
            have hx5 := e5 _ _ (e4 _ _ hx3)
            refine good _ (fun c o ne hc => by rw [upd_ne ne]; exact e5 _ _ (e4 _ _ (keep3 _ _ ne hc))) ⟨mok, dx, t, ps, by rw [upd_same, lts], sqT_ins hx5 ht, rw4.imp fun _ _ q => sqT_ins hx5 (sqT_same e5 q)⟩
          have go : ∀ (D : Addr), H3 D = .none → ∀ i y H4, xs[i]? = some y → (∃ ps, RowsBy (SqT K H4) ps (ts.take i) ∧ H4 D = some (.lst ps) ∧ Same H3 H4) → ∃ q ys, y = .ref q ∧ Sq K H4 q ys ∧ ∀ q' H5, Same H4 H5 → SqT K H5 q' ys →
              ∃ acc, H5 D = some (.lst acc) ∧ acc.length < sizeLine ∧ ∃ ps, RowsBy (SqT K (L2.upd H5 D (.lst (acc ++ [.ref q'])))) ps (ts.take (i + 1)) ∧ L2.upd H5 D (.lst (acc ++ [.ref q'])) D = some (.lst ps) ∧ Same H3 (L2.upd H5 D (.lst (acc ++ [.ref q']))) := fun D hD i y H4 hy ⟨ps, rw4, hD4, e4⟩ => by
            have hi : i < ts.length := by rw [lts]; exact (List.getElem?_eq_some_iff.mp hy).1
            have ht : ts[i]? = some ts[i] := List.getElem?_eq_getElem hi
            obtain ⟨q, hq, sq⟩ := inp3.at_ ht
            rw [hy] at hq
            refine ⟨q, _, Option.some.inj hq, sq.same e4, fun q' H5 e5 ht5 => ?_⟩
            have hD5 := e5 _ _ hD4
            have lps := rw4.length
            rw [List.length_take] at lps
            refine ⟨ps, hD5, by rw [sizeLine_eq]; omega, ps ++ [.ref q'], ?_, upd_same, fun c o hc => ?_⟩
            · rw [List.take_add_one, ht]
              exact RowsBy.snoc (sqT_lst hD5 ht5) (rw4.imp fun _ _ z => sqT_lst hD5 (sqT_same e5 z))
            · rw [upd_ne (ne_of_none hc hD)]
              exact e5 _ _ (e4 _ _ hc)
          have fin : ∀ (D : Addr) H4, (∃ ps, RowsBy (SqT K H4) ps (ts.take xs.length) ∧ H4 D = some (.lst ps) ∧ Same H3 H4) → ∃ ps, H4 D = some (.lst ps) ∧ RowsBy (SqT K H4) ps ts ∧ Same H3 H4 := fun D H4 ⟨ps, h1, h2, h3⟩ => by
            rw [← lts, List.take_length] at h1
            exact ⟨ps, h2, h1, h3⟩
          have zero : ∀ (D : Addr), H3 D = .none → ∃ ps, RowsBy (SqT K (L2.upd H3 D (.lst []))) ps (ts.take 0) ∧ L2.upd H3 D (.lst []) D = some (.lst ps) ∧ Same H3 (L2.upd H3 D (.lst [])) := fun D hD => ⟨[], trivial, upd_same, same_new hD⟩
          refine ⟨_, rfl, b, xs, rfl, ?_⟩
          rcases hb3 with hb3 | hb3
          · refine .inl ⟨hb3, fun D hD => lc_list (xs := xs) (fun i H4 => ∃ ps, RowsBy (SqT K H4) ps (ts.take i) ∧ H4 D = some (.lst ps) ∧ Same H3 H4) (zero D hD) (fun i H4 _ p => p.elim fun _ p => sqL_same p.2.2 hb3) (fun i y H4 hy p => ⟨rfl, yes ((if_pos rfl).mpr ?_)⟩) fun H4 p => ?_⟩
            · obtain ⟨q, ys, rfl, sq, k⟩ := go D hD i y H4 hy p
              exact ⟨_, rfl, q, ys, rfl, sq, k⟩
            · obtain ⟨ps, h1, h2, h3⟩ := fin D H4 p
              exact ⟨D, _, rfl, .inl (SqL.of h1), fun t H5 e5 ht => ⟨_, rfl, x, CM, dx, _, rfl, e5 _ _ (h3 _ _ hx3), TM.cl, TM.n3, (Nat.lt_of_succ_lt (by show 3 < 1000; decide)), last H4 D ps h3 h1 h2 t H5 e5 ht⟩⟩
          · refine .inr ⟨hb3, fun D hD => lc_tup (xs := xs) (fun i H4 => ∃ ps, RowsBy (SqT K H4) ps (ts.take i) ∧ H4 D = some (.lst ps) ∧ Same H3 H4) (zero D hD) (fun i H4 _ p => p.elim fun _ p => sqT_same p.2.2 hb3) (fun i y H4 hy p => ⟨rfl, yes ((if_pos rfl).mpr ?_)⟩) fun H4 p => ?_⟩
            · obtain ⟨q, ys, rfl, sq, k⟩ := go D hD i y H4 hy p
              exact ⟨_, rfl, q, ys, rfl, sq, k⟩
            · obtain ⟨ps, h1, h2, h3⟩ := fin D H4 p
              exact ⟨D, _, rfl, .inl (SqL.of h1), fun t H5 e5 ht => ⟨_, rfl, x, CM, dx, _, rfl, e5 _ _ (h3 _ _ hx3), TM.cl, TM.n3, (Nat.lt_of_succ_lt (by show 3 < 1000; decide)), last H4 D ps h3 h1 h2 t H5 e5 ht⟩⟩
      | _ => cases i1
end
end KT
/-! machines compared; states, deeds, rows -/
namespace KT
open L2 PySem PySem.Spec PyProof.Rows Kx
theorem dp_rows {K : PySem.W.Frag} {H : Hp} {p : Addr} {vs : List V} {rs : List (List Int)} (hp : SqT K H p vs) (h : RowsBy (SqT K H) vs rs) : Dp K H (.ref p) (dRows rs) := .tup hp (go h) where
  go : ∀ {vs : List V} {rs : List (List Int)}, RowsBy (SqT K H) vs rs → DpAll K H vs (rs.map dNums)
    | [], [], _ => .nil
    | _ :: _, _ :: _, ⟨⟨q, h1, h2⟩, h⟩ => .cons (by rw [h1]; exact dp_nums h2) (go h)
    | [], _ :: _, h => h.elim
    | _ :: _, [], h => h.elim
/-- t == u, tuples of rows -/
def rRowsEq (K : PySem.W.Frag) : R2 := fun x y H Q => ∃ (a b : Addr) (ps qs : List V) (xs ys : List (List Int)), x = .ref a ∧ y = .ref b ∧ SqT K H a ps ∧ SqT K H b qs ∧ RowsBy (SqT K H) ps xs ∧ RowsBy (SqT K H) qs ys ∧ Q (.bl (decide (xs = ys))) H
theorem op_eqRows {X : Cx} (hu : X.A.units + 64 < cLine) : OpR X (compareOp .Eq) (rRowsEq X.K) := by
  intro pins st σ H x y v u Q I rx ry h
  obtain ⟨a, b, ps, qs, xs, ys, rfl, rfl, h1, h2, r1, r2, q⟩ := h
  refine op_eqD hu pins st σ H _ _ v u Q I rx ry ⟨_, _, dp_rows h1 r1, dp_rows h2 r2, shaped_rows xs, shaped_rows ys, ?_⟩
  simp only [PyData.eqv, eqv_rows]
  exact q
def spEqM (K : PySem.W.Frag) (CM : Addr) : Sp := fun vs H Q _ => ∃ m n ts d, vs = [.ref m, .ref d] ∧ McAt K CM H m n ts ∧
  ((∃ n' ts', McAt K CM H d n' ts' ∧ ∀ H', Same H H' → Q (.bl (decide (ts = ts'))) H') ∨ ((∃ xs, SqT K H d xs) ∧ ∀ H', Same H H' → Q (.bl false) H'))
def spState (K : PySem.W.Frag) (a : Ad) (CM : Addr) : Sp := fun vs H Q E => ∃ m n ts v, vs = [.ref m, v] ∧ McAt K CM H m n ts ∧ Kn K H v ∧ (isBel n v = false → Thrown E H a.cN "state" v) ∧ (isBel n v = true → Q v H)
/-- where a row leads a state -/
def ledTo (ts : List (List Int)) : Int → List Int → Int
  | s, [] => s
  | s, d :: ds => ledTo ts ((ts.getD d.toNat []).getD s.toNat 0) ds
theorem ledTo_snoc {ts : List (List Int)} {d : Int} : ∀ {s : Int} {row : List Int}, ledTo ts s (row ++ [d]) = (ts.getD d.toNat []).getD (ledTo ts s row).toNat 0
  | s, [] => rfl
  | s, e :: row => ledTo_snoc (s := (ts.getD e.toNat []).getD s.toNat 0) (row := row)
theorem Mok.next {n : Nat} {ts : List (List Int)} (ok : Mok n ts) {d s : Int} (d0 : 0 ≤ d) (d1 : d < ts.length) (s0 : 0 ≤ s) (s1 : s < n) :
    ∃ t x, ts[d.toNat]? = some t ∧ t[s.toNat]? = some x ∧ (ts.getD d.toNat []).getD s.toNat 0 = x ∧ 0 ≤ x ∧ x < n := by
  have hd : d.toNat < ts.length := by omega
  have ht : ts[d.toNat]? = some ts[d.toNat] := List.getElem?_eq_getElem hd
  have mt := List.mem_of_getElem? ht
  have lt := ok.len _ mt
  have hs : s.toNat < (ts[d.toNat]).length := by omega
  have hx : (ts[d.toNat])[s.toNat]? = some (ts[d.toNat])[s.toNat] := List.getElem?_eq_getElem hs
  refine ⟨_, _, ht, hx, ?_, ok.ent _ mt _ (List.mem_of_getElem? hx)⟩
  rw [List.getD_eq_getElem?_getD, List.getD_eq_getElem?_getD, ht, Option.getD_some, hx, Option.getD_some]
section
variable {P : Program} {w : World} {K : PySem.W.Frag} {mg : Str → Option Value} {base : Heap} {f : Addr} {fd : FuncData} {a : Ad} {CM : Addr}
theorem ty_mc {H : Hp} {m : Addr} {n : Nat} {ts : List (List Int)} (TM : ClsM K mg CM) (h : McAt K CM H m n ts) : TyX K H (.ref m) (.ref CM) := by
  obtain ⟨_, dx, t, ps, e, _⟩ := h
  exact .base (.ins e TM.cl TM.isi.ca TM.isi.cn TM.isi.ct TM.isi.cm)
theorem sc_eq : FnScope ["self", "other"] ["self", "other"] (defScope s_Machine_eq) := ⟨rfl, rfl, rfl, by decide +kernel, rfl, by decide +kernel, by decide +kernel⟩
theorem ok_eq (F : FunD K "__eq__" "Machine.__eq__" (defArgs s_Machine_eq) (defBody s_Machine_eq) (defScope s_Machine_eq) [] [] f fd) (T : Mg mg) (TM : ClsM K mg CM) : FnOk P w K mg base CX0 1 f fd ["self", "other"] (spEqM K CM) := by
  refine F.ok sc_eq (fun vs H Q E h => ?_) (fun cdv A outer s H vs Q E hr h => ?_)
  · obtain ⟨m, n, ts, d, rfl, _⟩ := h
    rfl
  · obtain ⟨m, n, ts, d, rfl, hm, how⟩ := h
    refine ⟨_, PSs.nox (pss_one (ps_ret (pe_and (pe_callB call_isi (by rfl) T.z_isinstance (by decide +kernel) (pa_cons (pv 1) (pa_cons (pe_glob (v := V.ref CM) rfl TM.at_ rfl) pa_nil))) (pe_one (pe_cmpR (op_eqRows (r64 hr)) (pe_fld (pv 0) rfl) (pe_fld (pv 1) rfl) (nomark _)))))), ?_⟩
    rcases how with ⟨n', ts', hd, k⟩ | ⟨⟨xs, hd⟩, k⟩
    · refine ⟨_, rfl, _, .ref CM, _, _, true, rfl, .own CM, ty_mc TM hd, TM.yes, true, rfl, iteT ?_⟩
      obtain ⟨_, dx, t, ps, c1, c2, c3⟩ := hm
      obtain ⟨_, dx', t', ps', d1, d2, d3⟩ := hd
      exact ⟨_, rfl, m, CM, dx, _, _, rfl, c1, TM.cl, TM.n3, rfl, _, rfl, d, CM, dx', _, _, rfl, d1, TM.cl, TM.n3, rfl, t, t', ps, ps', ts, ts', rfl, rfl, c2, d2, c3, d3, k H (Same.refl H)⟩
    · exact ⟨_, rfl, _, .ref CM, _, _, false, rfl, .own CM, tyx_tuple hd, TM.notT, false, rfl, iteF (k H (Same.refl H))⟩
theorem sc_need_state : FnScope ["machine", "state"] ["machine", "state"] (defScope s_need_state) := ⟨rfl, rfl, rfl, by decide +kernel, rfl, by decide +kernel, by decide +kernel⟩
theorem ok_need_state (F : FnP K "need_state" s_need_state f fd) (T : Mg mg) (R : Er P w K mg base a) (TM : ClsM K mg CM) (c_is_below : Cal P w K mg base CX0 2 "is_below" ["value", "limit"] (spBelow K)) : FnOk P w K mg base (L2N.CX P w) 3 f fd ["machine", "state"] (spState K a CM) := by
  refine F.ok sc_need_state (fun vs H Q E h => ?_) (fun cdv A outer s H vs Q E hr h => ?_)
  · obtain ⟨m, n, ts, v, rfl, _⟩ := h
    rfl
  · obtain ⟨m, n, ts, v, rfl, ⟨ok, dx, t, ps, h1, h2, h3⟩, hv, bad, good⟩ := h
    refine ⟨_, (pss_cons (ps_if (pt_not (pt_val (pe_callC c_is_below hr pass0 (pa_cons (pv 1) (pa_cons (pe_fld (pv 0) rfl) pa_nil)))))
        (pss_one (psN R.NoState rfl hr (L2N.takes_of rfl rfl rfl rfl) (pa_cons (pv 1) pa_nil)))
        pss_nil)
      (pss_one (ps_ret (pv 1)))), ?_⟩
    refine ⟨v, rfl, _, rfl, m, CM, dx, _, _, rfl, h1, TM.cl, TM.n2, rfl, v, _, rfl, hv, isBel n v, rfl, ?_⟩
    cases eb : isBel n v with
    | false => exact iteT ⟨v, rfl, thrownN (bad eb).at_⟩
    | true => exact iteF ⟨v, rfl, good eb⟩
end
end KT
/-! counters are made, compared -/
namespace KT
open PySem PySem.Spec PyProof.Rows L2 Kx
/-- rounds and rests that counters may have -/
structure Cok (rs es : List Int) : Prop where
  l1 : 1 ≤ rs.length
  l4 : rs.length ≤ 4
  le : es.length = rs.length
  r : ∀ x ∈ rs, 0 ≤ x ∧ x ≤ 60
  e : ∀ x ∈ es, 0 ≤ x ∧ x ≤ 6
structure CnAt (K : PySem.W.Frag) (C : Addr) (H : Hp) (c : Addr) (rs es : List Int) : Prop where
  ok : Cok rs es
  ex : ∃ dx p q, H c = some (.ins C dx [("rounds", .ref p), ("rests", .ref q)]) ∧ SqT K H p (rs.map V.int) ∧ SqT K H q (es.map V.int)
theorem CnAt.same {K : PySem.W.Frag} {C : Addr} {H H' : Hp} {c : Addr} {rs es : List Int} (e : Same H H') (h : CnAt K C H c rs es) : CnAt K C H' c rs es := by
  obtain ⟨ok, dx, p, q, h1, h2, h3⟩ := h
  exact ⟨ok, dx, p, q, e _ _ h1, sqT_same e h2, sqT_same e h3⟩
/-- what the module holds of such a class -/
structure ClsC (K : PySem.W.Frag) (mg : Str → Option Value) (C : Addr) : Prop where
  at_ : mg "Counters" = some (.ref C)
  cl : Cls K C
  n1 : NoAttr K C "rounds"
  n2 : NoAttr K C "rests"
  isi : SlX.SIsi K C
  yes : PySem.W.kitOne K (.ref C) (.ref C) = some true
  notT : PySem.W.kitOne K (.type "tuple") (.ref C) = some false
  first : PySem.W.notFirst K C (.type "tuple") = true
def roundsOk : Option (List V) → Bool
  | some xs => inLen 1 4 (some xs) && (fnb 61 xs).isNone
  | none => false
theorem roundsOk_some {xs : List V} : roundsOk (some xs) = (inLen 1 4 (some xs) && (fnb 61 xs).isNone) := rfl
def restsOk (k : Nat) : Option (List V) → Bool
  | some ys => ys.isEmpty || (decide (ys.length = k) && (fnb 7 ys).isNone)
  | none => false
theorem restsOk_some {k : Nat} {ys : List V} : restsOk k (some ys) = (ys.isEmpty || (decide (ys.length = k) && (fnb 7 ys).isNone)) := rfl
def spRests (K : PySem.W.Frag) : Sp := fun vs H Q _ => ∃ (v : V) (k : Nat) (o : Option (List V)), vs = [v, .int (k : Int)] ∧ k ≤ 4 ∧ Long K H v o ∧ Kns K H o 4 ∧ ∀ H', Same H H' → Q (.bl (restsOk k o)) H'
def spInit (K : PySem.W.Frag) (a : Ad) (C : Addr) : Sp := fun vs H Q E => ∃ (x dx : Addr) (v1 v2 : V) (o1 o2 : Option (List V)), vs = [.ref x, v1, v2] ∧ H x = some (.ins C dx []) ∧ Long K H v1 o1 ∧ Kns K H o1 4 ∧ Long K H v2 o2 ∧ Kns K H o2 4 ∧
  (roundsOk o1 = false → Thrown E H a.cF "at" v1) ∧ (∀ xs, o1 = some xs → roundsOk o1 = true → restsOk xs.length o2 = false → Thrown E H a.cF "at" v2) ∧
  (∀ rs es, Cok rs es → o1 = some (rs.map V.int) → (o2 = some [] ∧ es = List.replicate rs.length 0 ∨ o2 = some (es.map V.int)) → ∀ H', (∀ b o, b ≠ x → H b = some o → H' b = some o) → CnAt K C H' x rs es → Q .non H')
theorem restsOk_true {k : Nat} {o : Option (List V)} (h : restsOk k o = true) : o = some [] ∨ ∃ es : List Int, o = some (es.map V.int) ∧ es.length = k ∧ ∀ x ∈ es, 0 ≤ x ∧ x ≤ 6 := by
  cases o with
  | none => cases h
  | some ys =>
    rw [restsOk_some, Bool.or_eq_true, Bool.and_eq_true] at h
    rcases h with h | ⟨h1, h2⟩
    · rw [List.isEmpty_iff.mp h]
      exact .inl rfl
    · obtain ⟨es, rfl, he⟩ := fnb_ints (Option.isNone_iff_eq_none.mp h2)
      refine .inr ⟨es, rfl, ?_, fun x hx => ⟨(he x hx).1, by have := (he x hx).2; omega⟩⟩
      have := of_decide_eq_true h1
      rwa [List.length_map] at this
section
variable {P : Program} {w : World} {K : PySem.W.Frag} {mg : Str → Option Value} {base : Heap} {f : Addr} {fd : FuncData} {a : Ad} {C : Addr}
theorem sc__are_rests : FnScope ["value", "kinds"] ["value", "kinds"] (defScope s_are_rests) := ⟨rfl, rfl, rfl, by decide +kernel, rfl, by decide +kernel, by decide +kernel⟩
theorem optV_isN {o : Option Nat} : decide (optV o = V.non) = o.isNone := optV_non
theorem inLen_00 {xs : List V} : inLen 0 0 (some xs) = xs.isEmpty := by
  cases xs with
  | nil => rfl
  | cons x xs =>
    rw [inLen_some, decide_eq_true (by omega), decide_eq_false (by simp only [List.length_cons]; omega)]
    rfl
theorem inLen_kk {k : Nat} {xs : List V} : inLen (k : Int) (k : Int) (some xs) = decide (xs.length = k) := by
  rw [inLen_some, Bool.eq_iff_iff, Bool.and_eq_true, decide_eq_true_eq, decide_eq_true_eq, decide_eq_true_eq]
  omega
theorem ok_are_rests (F : FnP K "_are_rests" s_are_rests f fd) (T : Mg mg) (c_is_sequence : Cal P w K mg base CX0 1 "is_sequence" ["value", "least", "most"] (spSeq K)) (c_first_not_below : Cal P w K mg base CX0 3 "first_not_below" ["values", "limit"] (spFnb K)) :
    FnOk P w K mg base CX0 4 f fd ["value", "kinds"] (spRests K) := by
  refine F.ok sc__are_rests (fun vs H Q E h => ?_) (fun cdv A outer s H vs Q E hr h => ?_)
  · obtain ⟨v, k, o, rfl, _⟩ := h
    rfl
  · obtain ⟨v, k, o, rfl, hk, hv, kn, q⟩ := h
    refine ⟨_, PSs.nox (pss_cons (ps_if (pt_val (pe_callC c_is_sequence hr pass0 (pa_cons (pv 0) (pa_cons pe_int (pa_cons pe_int pa_nil)))))
        (pss_one (ps_ret pe_bl))
        pss_nil)
      (pss_one (ps_ret (pe_and (pe_callC c_is_sequence hr pass0 (pa_cons (pv 0) (pa_cons (pv 1) (pa_cons (pv 1) pa_nil)))) (pe_one (pe_cmpR op_isN (pe_callC c_first_not_below hr pass0 (pa_cons (pv 0) (pa_cons (pe_op op_add (pe_constI T.g_REST_MOST) pe_int) pa_nil))) pe_non (nomark _))))))), ?_⟩
    refine ⟨v, rfl, v, 0, 0, o, rfl, hv, fun H1 e1 => ⟨inLen 0 0 o, rfl, ?_⟩⟩
    cases o with
    | none =>
      refine iteF ?_
      exact ⟨v, rfl, _, rfl, _, rfl, v, _, _, none, rfl, hv.same e1, fun H2 e2 => ⟨_, rfl, iteF (q _ (e1.trans e2))⟩⟩
    | some xs =>
      rw [inLen_00]
      cases hz : xs.isEmpty with
      | true =>
        refine iteT ?_
        have e : restsOk k (some xs) = true := by rw [restsOk_some, hz] <;> rfl
        rw [e] at q
        exact q _ e1
      | false =>
        refine iteF ?_
        have e : restsOk k (some xs) = (decide (xs.length = k) && (fnb 7 xs).isNone) := by rw [restsOk_some, hz] <;> rfl
        rw [e] at q
        refine ⟨v, rfl, _, rfl, _, rfl, v, _, _, some xs, rfl, hv.same e1, fun H2 e2 => ⟨_, rfl, ?_⟩⟩
        rw [inLen_kk]
        cases hl : decide (xs.length = k) with
        | false =>
          rw [hl] at q
          exact iteF (q _ (e1.trans e2))
        | true =>
          rw [hl] at q
          refine iteT ?_
          have e12 := e1.trans e2
          cases hv with
          | seq qs =>
            refine ⟨_, rfl, _, _, rfl, rfl, _, xs, 7, rfl, qs.same e12, fun x hx => (kn _ rfl (by have := of_decide_eq_true hl; omega) x hx).same e12, fun H3 e3 => ⟨rfl, ?_⟩⟩
            have q3 := q _ (e12.trans e3)
            rw [← optV_non] at q3
            exact q3
theorem sc_init : FnScope ["self", "rounds", "rests"] ["self", "rounds", "rests"] (defScope s_Counters_init) := ⟨rfl, rfl, rfl, by decide +kernel, rfl, by decide +kernel, by decide +kernel⟩
theorem ok_init {dvs : List V} (F : FunD K "__init__" "Counters.__init__" (defArgs s_Counters_init) (defBody s_Counters_init) (defScope s_Counters_init) dvs [] f fd) (T : Mg mg) (R : Er P w K mg base a) (TC : ClsC K mg C)
    (c_is_sequence : Cal P w K mg base CX0 1 "is_sequence" ["value", "least", "most"] (spSeq K)) (c_first_not_below : Cal P w K mg base CX0 3 "first_not_below" ["values", "limit"] (spFnb K))
    (c__are_rests : Cal P w K mg base CX0 4 "_are_rests" ["value", "kinds"] (spRests K)) : FnOk P w K mg base (L2N.CX P w) 5 f fd ["self", "rounds", "rests"] (spInit K a C) := by
  refine F.ok sc_init (fun vs H Q E h => ?_) (fun cdv A outer s H vs Q E hr h => ?_)
  · obtain ⟨x, dx, v1, v2, o1, o2, rfl, _⟩ := h
    rfl
  · obtain ⟨x, dx, v1, v2, o1, o2, rfl, hx, h1, k1, h2, k2, bad1, bad2, good⟩ := h
    refine ⟨_, (pss_cons (ps_if (PW.pt (pw_or (pt_not (pt_val (pe_callC c_is_sequence hr pass0 (pa_cons (pv 1) (pa_cons pe_int (pa_cons (pe_constI T.g_DEEDS_MOST) pa_nil)))))) (pw_or1 (pt_cmpR op_notN (pe_callC c_first_not_below hr pass0 (pa_cons (pv 1) (pa_cons (pe_op op_add (pe_constI T.g_ROUND_MOST) pe_int) pa_nil))) pe_non (nomark _)))))
        (pss_one (psN R.Refused rfl hr (L2N.takes_of rfl rfl rfl rfl) (pa_cons (pv 1) pa_nil)))
        pss_nil)
      (pss_cons (ps_if (pt_not (pt_val (pe_callC c__are_rests hr pass0 (pa_cons (pv 2) (pa_cons (pe_callB call_len_seq (by rfl) T.z_len PySem.boot_len (pa_cons (pv 1) pa_nil)) pa_nil)))))
        (pss_one (psN R.Refused rfl hr (L2N.takes_of rfl rfl rfl rfl) (pa_cons (pv 2) pa_nil)))
        pss_nil)
      (PSs.nox (pss_cons (ps_fld (pv 0) (pe_callTy call_tup (by rfl) T.z_tuple (by decide +kernel) (pa_cons (pv 1) pa_nil)) rfl)
      (pss_one (ps_fld (pv 0) (pe_ifExp (pt_truth (pv 2) (by intro _; rfl)) (pe_callTy call_tup (by rfl) T.z_tuple (by decide +kernel) (pa_cons (pv 2) pa_nil)) (pe_op op_times (pe_tup (pa_cons pe_int pa_nil)) (pe_callB call_len_seq (by rfl) T.z_len PySem.boot_len (pa_cons (pv 1) pa_nil)))) rfl)))))), ?_⟩
    refine ⟨v1, rfl, v1, 1, 4, o1, rfl, h1, fun H1 e1 => ⟨inLen 1 4 o1, rfl, ?_⟩⟩
    cases i1 : inLen 1 4 o1 with
    | false =>
      have r1 : roundsOk o1 = false := by
        cases o1 with
        | none => rfl
        | some xs => rw [roundsOk_some, i1] <;> rfl
      exact iteT ⟨v1, rfl, thrownN ((bad1 r1).same e1).at_⟩
    | true =>
      refine iteF ?_
      cases h1 with
      | seq q1 =>
        rename_i b1 xs
        have len : 1 ≤ xs.length ∧ xs.length ≤ 4 := by
          have z := i1
          rw [inLen_some, Bool.and_eq_true] at z
          have := of_decide_eq_true z.1
          have := of_decide_eq_true z.2
          omega
        refine ⟨_, rfl, _, _, rfl, rfl, b1, xs, 61, rfl, q1.same e1, fun x hx => (k1 _ rfl len.2 x hx).same e1, fun H2 e2 => ⟨rfl, !(fnb 61 xs).isNone, ?_, ?_⟩⟩
        · rw [← optV_non]
        · have e12 := e1.trans e2
          cases ef : (fnb 61 xs).isNone with
          | false =>
            have r1 : roundsOk (some xs) = false := by rw [roundsOk_some, i1, ef] <;> rfl
            exact iteT ⟨_, rfl, thrownN ((bad1 r1).same e12).at_⟩
          | true =>
            have r1 : roundsOk (some xs) = true := by rw [roundsOk_some, i1, ef] <;> rfl
            refine iteF ?_
            refine ⟨v2, rfl, _, rfl, _, xs, rfl, q1.same e12, v2, xs.length, o2, rfl, len.2, h2.same e12, fun ys q l x hx => (k2 ys q l x hx).same e12, fun H3 e3 => ⟨restsOk xs.length o2, rfl, ?_⟩⟩
            have e13 := e12.trans e3
            cases r2 : restsOk xs.length o2 with
            | false => exact iteT ⟨v2, rfl, thrownN ((bad2 xs rfl r1 r2).same e13).at_⟩
            | true =>
              refine iteF ?_
              obtain ⟨rs, rfl, hrs⟩ := fnb_ints (Option.isNone_iff_eq_none.mp ef)
              have q1' := q1.same e13
              have hx' := e13 _ _ hx
              have fin : ∀ (p q : Addr) (es : List Int) (Hz : Hp), Cok rs es → (o2 = some [] ∧ es = List.replicate rs.length 0 ∨ o2 = some (es.map V.int)) → (∀ b o, b ≠ x → H b = some o → Hz b = some o) → SqT K Hz p (rs.map V.int) → SqT K Hz q (es.map V.int) → Hz x = some (.ins C dx [("rounds", .ref p), ("rests", .ref q)]) → Q .non Hz := fun p q es Hz ok2 ho keep hp hq hz =>
                good rs es ok2 rfl ho Hz keep ⟨ok2, dx, p, q, hz, hp, hq⟩
              refine ⟨_, rfl, b1, _, rfl, q1', fun p H4 e4 hp => ?_⟩
              have e14 := e13.trans e4
              refine ⟨_, rfl, x, C, dx, _, rfl, e14 _ _ hx, TC.cl, TC.n1, (by decide), ?_⟩
              have hx4 := e14 _ _ hx
              generalize eH : upd H4 x (.ins C dx (putF "rounds" (.ref p) [])) = H5
              have hx5 : H5 x = some (.ins C dx [("rounds", .ref p)]) := by rw [← eH]; exact upd_same
              have q15 : Sq K H5 b1 (rs.map V.int) := by rw [← eH]; exact sq_ins hx4 (q1.same e14)
              have p5 : SqT K H5 p (rs.map V.int) := by rw [← eH]; exact sqT_ins hx4 hp
              have keep5 : ∀ b o, b ≠ x → H b = some o → H5 b = some o := fun b o ne hb => by rw [← eH, upd_ne ne]; exact e14 _ _ hb
              obtain ⟨b2, ys, rfl, rfl, q2⟩ : ∃ b2 ys, v2 = .ref b2 ∧ o2 = some ys ∧ Sq K H b2 ys := by
                cases h2 with
                | seq q => exact ⟨_, _, rfl, rfl, q⟩
                | _ => cases r2
              have q25 : Sq K H5 b2 ys := by rw [← eH]; exact sq_ins hx4 (q2.same e14)
              have last : ∀ (q : Addr) (es : List Int) (H7 : Hp), Same H5 H7 → SqT K H7 q (es.map V.int) → Cok rs es → (some ys = some [] ∧ es = List.replicate rs.length 0 ∨ some ys = some (es.map V.int)) → Q .non (upd H7 x (.ins C dx (putF "rests" (.ref q) [("rounds", .ref p)]))) := fun q es H7 e7 hq ok2 ho =>
                fin p q es _ ok2 ho (fun b o ne hb => by rw [upd_ne ne]; exact e7 _ _ (keep5 b o ne hb)) (sqT_ins (e7 _ _ hx5) (sqT_same e7 p5)) (sqT_ins (e7 _ _ hx5) hq) upd_same
              have lrs : 1 ≤ rs.length ∧ rs.length ≤ 4 := by rw [List.length_map] at len; exact len
              have brs : ∀ n ∈ rs, 0 ≤ n ∧ n ≤ 60 := fun n hn => ⟨(hrs n hn).1, by have := (hrs n hn).2; omega⟩
              refine ⟨_, rfl, _, tru_sq q25, ?_⟩
              rcases restsOk_true r2 with e | ⟨es, e, le, be⟩
              · cases e
                refine iteF ⟨(by show 1 ≤ sizeLine; decide), fun t ht => ?_⟩
                have e6 := same_new (o := HO.tup [.int 0]) ht
                refine ⟨_, rfl, b1, _, rfl, q15.same e6, ?_⟩
                refine ⟨t, rs.length, [.int 0], rfl, by rw [List.length_map], SqT.of upd_same, (by simp), by omega, (by decide), fun q H7 e7 hq => ?_⟩
                have e57 := e6.trans e7
                refine ⟨_, rfl, x, C, dx, _, rfl, e57 _ _ hx5, TC.cl, TC.n2, (Nat.lt_of_succ_lt (by show 2 < 1000; decide)), ?_⟩
                refine last q (List.replicate rs.length 0) H7 e57 ?_ ⟨lrs.1, lrs.2, List.length_replicate, brs, fun n hn => by rw [List.eq_of_mem_replicate hn]; decide⟩ (.inl ⟨rfl, rfl⟩)
                have e8 : (List.replicate rs.length [V.int 0]).flatten = (List.replicate rs.length (0 : Int)).map V.int := by rw [List.map_replicate, List.flatten_replicate_singleton]
                rw [e8] at hq
                exact hq
              · cases e
                have ne : (!(es.map V.int).isEmpty) = true := by
                  cases es with
                  | nil => simp at le; omega
                  | cons _ _ => rfl
                rw [ne]
                refine iteT ⟨_, rfl, b2, _, rfl, q25, fun q H7 e7 hq => ?_⟩
                refine ⟨_, rfl, x, C, dx, _, rfl, e7 _ _ hx5, TC.cl, TC.n2, (Nat.lt_of_succ_lt (by show 2 < 1000; decide)), ?_⟩
                rw [List.length_map] at le
                exact last q es H7 e7 hq ⟨lrs.1, lrs.2, le, brs, be⟩ (.inr rfl)
      | non => cases i1
      | bl _ => cases i1
      | int _ => cases i1
      | str _ => cases i1
/-- own ==: of other counters, of a tuple -/
def spEqC (K : PySem.W.Frag) (C : Addr) : Sp := fun vs H Q _ => ∃ c rs es d, vs = [.ref c, .ref d] ∧ CnAt K C H c rs es ∧
  ((∃ rs' es', CnAt K C H d rs' es' ∧ ∀ H', Same H H' → Q (.bl (decide (rs = rs' ∧ es = es'))) H') ∨ ((∃ xs, SqT K H d xs) ∧ ∀ H', Same H H' → Q (.bl false) H'))
theorem ty_cn {H : Hp} {c : Addr} {rs es : List Int} (TC : ClsC K mg C) (h : CnAt K C H c rs es) : TyX K H (.ref c) (.ref C) := by
  obtain ⟨_, dx, p, q, e, _⟩ := h
  exact .base (.ins e TC.cl TC.isi.ca TC.isi.cn TC.isi.ct TC.isi.cm)
theorem sc_eqC : FnScope ["self", "other"] ["self", "other"] (defScope s_Counters_eq) := ⟨rfl, rfl, rfl, by decide +kernel, rfl, by decide +kernel, by decide +kernel⟩
theorem ok_eqC (F : FunD K "__eq__" "Counters.__eq__" (defArgs s_Counters_eq) (defBody s_Counters_eq) (defScope s_Counters_eq) [] [] f fd) (T : Mg mg) (TC : ClsC K mg C) : FnOk P w K mg base CX0 1 f fd ["self", "other"] (spEqC K C) := by
  refine F.ok sc_eqC (fun vs H Q E h => ?_) (fun cdv A outer s H vs Q E hr h => ?_)
  · obtain ⟨c, rs, es, d, rfl, _⟩ := h
    rfl
  · obtain ⟨c, rs, es, d, rfl, hc, how⟩ := h
    refine ⟨_, PSs.nox (pss_one (ps_ret (pe_and (pe_callB call_isi (by rfl) T.z_isinstance (by decide +kernel) (pa_cons (pv 1) (pa_cons (pe_glob (v := V.ref C) rfl TC.at_ rfl) pa_nil))) (pe_and (pe_cmpR (op_eqNums (r64 hr)) (pe_fld (pv 0) rfl) (pe_fld (pv 1) rfl) (nomark _)) (pe_one (pe_cmpR (op_eqNums (r64 hr)) (pe_fld (pv 0) rfl) (pe_fld (pv 1) rfl) (nomark _))))))), ?_⟩
    rcases how with ⟨rs', es', hd, k⟩ | ⟨⟨xs, hd⟩, k⟩
    · refine ⟨_, rfl, _, .ref C, _, _, true, rfl, .own C, ty_cn TC hd, TC.yes, true, rfl, iteT ?_⟩
      obtain ⟨_, dx, p, q, c1, c2, c3⟩ := hc
      obtain ⟨_, dx', p', q', d1, d2, d3⟩ := hd
      refine ⟨_, rfl, c, C, dx, _, _, rfl, c1, TC.cl, TC.n1, rfl, _, rfl, d, C, dx', _, _, rfl, d1, TC.cl, TC.n1, rfl, p, p', rs, rs', rfl, rfl, c2, d2, _, rfl, ?_⟩
      have k := k H (Same.refl H)
      refine ite2 (fun h => ?_) (fun h => ?_)
      · have e : rs = rs' := by simpa using h
        refine ⟨_, rfl, c, C, dx, _, _, rfl, c1, TC.cl, TC.n2, rfl, _, rfl, d, C, dx', _, _, rfl, d1, TC.cl, TC.n2, rfl, q, q', es, es', rfl, rfl, c3, d3, ?_⟩
        have e2 : (false != decide (es = es')) = decide (rs = rs' ∧ es = es') := by rw [Bool.false_bne, Bool.eq_iff_iff]; simp [e]
        rw [← e2] at k
        exact k
      · have e : ¬ rs = rs' := by simpa using h
        have e2 : decide (rs = rs' ∧ es = es') = false := decide_eq_false fun z => e z.1
        rw [e2] at k
        exact k
    · exact ⟨_, rfl, _, .ref C, _, _, false, rfl, .own C, tyx_tuple hd, TC.notT, false, rfl, iteF (k H (Same.refl H))⟩
end
end KT
/-! what is reached -/
namespace KT
open L2 PySem PySem.Spec PyProof.Rows Kx
/-- a row of deeds below l -/
def RowOk (l : Nat) (row : List Int) : Prop := ∀ d ∈ row, 0 ≤ d ∧ d < (l : Int)
theorem Mok.led_in {n : Nat} {ts : List (List Int)} (ok : Mok n ts) : ∀ {s : Int} {row : List Int}, 0 ≤ s → s < n → RowOk ts.length row → 0 ≤ ledTo ts s row ∧ ledTo ts s row < n
  | s, [], h0, h1, _ => ⟨h0, h1⟩
  | s, d :: row, h0, h1, hr => by
    obtain ⟨d0, d1⟩ := hr d (List.mem_cons_self ..)
    obtain ⟨t, x, _, _, e, x0, x1⟩ := ok.next d0 d1 h0 h1
    show 0 ≤ ledTo ts ((ts.getD d.toNat []).getD s.toNat 0) row ∧ ledTo ts ((ts.getD d.toNat []).getD s.toNat 0) row < n
    rw [e]
    exact Mok.led_in ok x0 x1 fun z hz => hr z (List.mem_cons_of_mem _ hz)
theorem isBel_iff {l i : Int} : isBel l (.int i) = true ↔ 0 ≤ i ∧ i < l := by
  show (decide (0 ≤ i) && decide (i < l)) = true ↔ _
  rw [Bool.and_eq_true, decide_eq_true_eq, decide_eq_true_eq]
theorem isBel_int {l : Int} {v : V} (h : isBel l v = true) : ∃ i, v = .int i ∧ 0 ≤ i ∧ i < l := by
  cases v with
  | int i => exact ⟨i, rfl, isBel_iff.mp h⟩
  | _ => cases h
def Rch (ts : List (List Int)) (s x : Int) : Prop := ∃ row, RowOk ts.length row ∧ x = ledTo ts s row
def nx (ts : List (List Int)) (d : Nat) (x : Int) : Int := (ts.getD d []).getD x.toNat 0
theorem Rch.refl {ts : List (List Int)} {s : Int} : Rch ts s s := ⟨[], (fun d h => nomatch h), rfl⟩
theorem Rch.step {ts : List (List Int)} {s x : Int} {d : Nat} (h : Rch ts s x) (hd : d < ts.length) : Rch ts s (nx ts d x) := by
  obtain ⟨row, h1, rfl⟩ := h
  refine ⟨row ++ [(d : Int)], fun z hz => ?_, ?_⟩
  · rcases List.mem_append.mp hz with hz | hz
    · exact h1 z hz
    · rw [List.mem_singleton.mp hz]
      omega
  · rw [ledTo_snoc, Int.toNat_natCast]
    rfl
theorem closed_all {ts : List (List Int)} {F : List Int} (cl : ∀ x ∈ F, ∀ d, d < ts.length → nx ts d x ∈ F) : ∀ {row : List Int} {s : Int}, s ∈ F → RowOk ts.length row → ledTo ts s row ∈ F
  | [], s, h, _ => h
  | d :: row, s, h, hr => by
    have hd := hr d (List.mem_cons_self ..)
    have := cl s h d.toNat (by omega)
    exact closed_all cl (row := row) this fun z hz => hr z (List.mem_cons_of_mem _ hz)
theorem len_le : ∀ {n : Nat} {F : List Int}, F.Nodup → (∀ x ∈ F, 0 ≤ x ∧ x < (n : Int)) → F.length ≤ n
  | 0, F, _, h => by
    cases F with
    | nil => exact Nat.le_refl _
    | cons x F => have := h x (List.mem_cons_self ..); omega
  | n + 1, F, nd, h => by
    by_cases hm : (n : Int) ∈ F
    · have e := List.length_erase_of_mem hm
      have := len_le (n := n) (nd.erase (n : Int)) fun x hx => by
        have h1 := (nd.mem_erase_iff).mp hx
        have h2 := h x h1.2
        have h3 : x ≠ (n : Int) := h1.1
        omega
      omega
    · have := len_le (n := n) nd fun x hx => by
        have h2 := h x hx
        have h3 : x ≠ (n : Int) := fun z => hm (z ▸ hx)
        omega
      omega
theorem Mok.rch {n : Nat} {ts : List (List Int)} (ok : Mok n ts) {s x : Int} (h0 : 0 ≤ s) (h1 : s < n) (h : Rch ts s x) : 0 ≤ x ∧ x < n := by
  obtain ⟨row, h2, rfl⟩ := h
  exact ok.led_in h0 h1 h2
/-- what is found, k of it looked at -/
structure Fnd (ts : List (List Int)) (s : Int) (F : List Int) (k : Nat) : Prop where
  nd : F.Nodup
  rch : ∀ x ∈ F, Rch ts s x
  st : s ∈ F
  le : k ≤ F.length
  done : ∀ i x, i < k → F[i]? = some x → ∀ d, d < ts.length → nx ts d x ∈ F
theorem Fnd.more {ts : List (List Int)} {s y : Int} {F : List Int} {k : Nat} (h : Fnd ts s F k) (hy : Rch ts s y) (no : y ∉ F) : Fnd ts s (F ++ [y]) k where
  nd := List.nodup_append.mpr ⟨h.nd, by simp, fun a ha b hb e => no (by rw [← List.mem_singleton.mp hb, ← e]; exact ha)⟩
  rch := fun x hx => (List.mem_append.mp hx).elim (h.rch x) fun hx => by rw [List.mem_singleton.mp hx]; exact hy
  st := List.mem_append_left _ h.st
  le := by rw [List.length_append]; have := h.le; omega
  done := fun i x hi hx d hd => List.mem_append_left _ (h.done i x hi (by rw [List.getElem?_append_left (by have := h.le; omega)] at hx; exact hx) d hd)
theorem Fnd.all {ts : List (List Int)} {s : Int} {F : List Int} (h : Fnd ts s F F.length) (x : Int) : x ∈ F ↔ Rch ts s x := by
  refine ⟨h.rch x, fun ⟨row, h1, e⟩ => ?_⟩
  rw [e]
  refine closed_all (fun y hy d hd => ?_) h.st h1
  obtain ⟨i, hi⟩ := List.getElem?_of_mem hy
  exact h.done i y (List.getElem?_eq_some_iff.mp hi).1 hi d hd
theorem lt_of_le {L : List Int} (h : L.Pairwise (· ≤ ·)) (nd : L.Nodup) : L.Pairwise (· < ·) := (h.and nd).imp fun ⟨a, b⟩ => Int.lt_iff_le_and_ne.mpr ⟨a, b⟩
theorem inV_nums {xs : List Int} {k : Int} : inV (.int k) (xs.map V.int) = decide (k ∈ xs) := by
  induction xs with
  | nil => rfl
  | cons x xs ih =>
    have e : inV (.int k) ((x :: xs).map V.int) = (eqV (.int x) (.int k) || inV (.int k) (xs.map V.int)) := rfl
    rw [e, ih, Bool.eq_iff_iff]
    have e2 : eqV (.int x) (.int k) = true ↔ x = k := by
      show decide _ = true ↔ _
      simp
    rw [Bool.or_eq_true, e2, decide_eq_true_eq, decide_eq_true_eq, List.mem_cons]
    exact ⟨fun h => h.imp Eq.symm id, fun h => h.imp Eq.symm id⟩
theorem flat_nums {xs : List Int} : (xs.map V.int).all flatV = true := List.all_eq_true.mpr fun x hx => by
  obtain ⟨i, _, rfl⟩ := List.mem_map.mp hx
  rfl
def spReached (K : PySem.W.Frag) (a : Ad) (CM : Addr) : Sp := fun vs H Q E => ∃ m n ts v, vs = [.ref m, v] ∧ McAt K CM H m n ts ∧ Kn K H v ∧ (isBel n v = false → Thrown E H a.cN "state" v) ∧
  (isBel n v = true → ∃ s, v = .int s ∧ ∀ (p : Addr) (L : List Int) H', Same H H' → L.Pairwise (· < ·) → (∀ x, x ∈ L ↔ Rch ts s x) → SqT K H' p (L.map V.int) → Q (.ref p) H')
end KT
/-! sorted(t), t a tuple of whole numbers -/
namespace Kx
open L2 PySem PySem.Spec PyProof.Rows
def rSortTup (K : PySem.W.Frag) : List V → Hp → VK → Prop := fun vs H Q => ∃ (a : Addr) (ns : List Int), vs = [V.ref a] ∧ SqT K H a (ns.map V.int) ∧ ns.length < 64 ∧
  ∀ (L : List Int) (p : Addr), L.Perm ns → L.Pairwise (· ≤ ·) → H p = none → Q (.ref p) (upd H p (.lst (L.map V.int)))
theorem cr_sortTup {X : Cx} : CallR X (.builtin "sorted") (rSortTup X.K) := by
  rintro pins s σ H vs us Q I r ⟨a, ns, rfl, hs, few, q⟩
  obtain ⟨us, rv, ⟨ob, here, cl, n, hd⟩, _⟩ := I.tuple hs
  rw [Vals.ref1 r]
  have hi := rv.ints
  have few' : us.length < 64 := by rw [hi.length]; exact few
  refine Calls.call_function_entry kind_sorted plain_sorted entry_sorted (args_sorted1 _) ?_; unfold Builtin.«sorted»; refine wpAny_bind (m := checkCount "sorted" 1 1 _) (wpAny_pure ?_)
  refine wpAny_bind (wpAny_collect_seq a (.inr rfl) here cl hd (fun h' all => ?_) (by rw [List.size_toArray]; exact small64 few'))
  rw [List.toList_toArray]; refine wpAny_bind (wpAny_newList ?_)
  have new : (h'.push (seqObj "list" us.toArray 0)).get? h'.objs.size = some (seqObj "list" us.toArray 0) := Heap.get?_push_size _ rfl
  refine wpAny_bind (wpAny_holding (wpAny_call_entry slot_list_sort ⟨_, new, rfl⟩ entry_list_sort (list_sort_tree new hi few' fun out L a1 a2 a3 => ⟨_, rfl, ?_⟩) (args_list_sort _)))
  refine wpAny_pure ⟨_, rfl, (?_ : EP X pins σ Q _ _)⟩
  obtain ⟨ep, last⟩ := sortedHeap_at (vs := us) (out := out) new
  have none_ : s.heap.get? h'.objs.size = none := by
    cases e : s.heap.get? h'.objs.size with
    | none => rfl
    | some o => exact absurd (Heap.lt_size (all _ _ e)) (Nat.lt_irrefl _)
  have free : H h'.objs.size = none := I.hok.gone none_
  have fits : (L.map V.int).length ≤ sizeLine := by rw [List.length_map, a2.length_eq]; exact small64 few
  refine ⟨.ref h'.objs.size, upd H h'.objs.size (.lst (L.map V.int)), I.laidN (t' := s.toks) (fun b o e => ?_) none_ free ⟨fits, out.toList, ep, vals_of_ints a1, last⟩, rfl, q L _ a2 a3 free⟩
  have e2 := all b o e
  rw [sortedHeap_old (Nat.ne_of_lt (Heap.lt_size e2)) (Heap.lt_size (Heap.get?_push_of_some _ e2))]
  exact Heap.get?_push_of_some _ e2
end Kx
/-! what comes; the one machine that forgets -/
namespace KT
open L2 PySem PySem.Spec PyProof.Rows Kx
def spComing (K : PySem.W.Frag) (a : Ad) (CM : Addr) : Sp := fun vs H Q E => ∃ m n ts v, vs = [.ref m, v] ∧ McAt K CM H m n ts ∧ Kn K H v ∧ (isBel n v = false → Thrown E H a.cN "state" v) ∧
  (isBel n v = true → ∃ s, v = .int s ∧ ∀ (p : Addr) (L : List Int) H', Same H H' → L.Nodup → L.length ≤ n → (∀ x, x ∈ L ↔ Rch ts s x) → SqT K H' p (L.map V.int) → Q (.ref p) H')
section
variable {P : Program} {w : World} {K : PySem.W.Frag} {mg : Str → Option Value} {base : Heap} {f : Addr} {fd : FuncData} {a : Ad} {CM : Addr}
theorem sc_coming : FnScope ["machine", "first", "found", "at", "table", "state"] ["machine", "first"] (defScope s_in_coming_order) := ⟨rfl, rfl, rfl, by decide +kernel, rfl, by decide +kernel, by decide +kernel⟩
theorem ok_coming (F : FnP K "in_coming_order" s_in_coming_order f fd) (T : Mg mg) (TM : ClsM K mg CM) (c_state : Cal P w K mg base (L2N.CX P w) 3 "need_state" ["machine", "state"] (spState K a CM)) : FnOk P w K mg base (L2N.CX P w) 5 f fd ["machine", "first"] (spComing K a CM) := by
  refine F.ok sc_coming (fun vs H Q E h => ?_) (fun cdv A outer s H vs Q E hr h => ?_)
  · obtain ⟨m, n, ts, v, rfl, _⟩ := h
    rfl
  · obtain ⟨m, n, ts, v, rfl, hm, hv, bad, good⟩ := h
    obtain ⟨ok, dx, t, ps, h1, h2, h3⟩ := id hm
    refine ⟨_, (pss_cons (ps_set (i := 2) sc_coming.nd rfl (by first | exact Or.inl rfl | exact Or.inr rfl) (pe_lst (pa_cons (pe_callC c_state hr (L2N.passes_call (L2N.takes_of rfl rfl rfl rfl) (fun _ _ _ _ z => z)) (pa_cons (pv 0) (pa_cons (pv 1) pa_nil))) pa_nil)))
      (PSs.nox (pss_cons (ps_set (i := 3) sc_coming.nd rfl (by first | exact Or.inl rfl | exact Or.inr rfl) pe_int)
      (pss_cons (ps_while PassesOwn.never (pt_cmpR op_lt (pv 3) (pe_callB call_len_seq (by rfl) T.z_len PySem.boot_len (pa_cons (pv 2) pa_nil)) (nomark _))
        (pss_cons (ps_for PassesOwn.never rfl (pi_tup (pe_fld (pv 0) rfl)) (pg_name (i := 4) sc_coming.nd rfl (by first | exact Or.inl rfl | exact Or.inr rfl))
          (pss_cons (ps_set (i := 5) sc_coming.nd rfl (by first | exact Or.inl rfl | exact Or.inr rfl) (pe_ix ix_tup (pv 4) (pe_ix ix_list (pv 2) (pv 3) (fun _ _ => rfl)) (fun _ _ => rfl)))
          (pss_one (ps_if (pt_cmpR op_notIn_seq (pv 5) (pv 2) (by rfl))
            (pss_one (ps_expr (pe_bm PySem.F.plainAttrs_list PySem.F.slot_list_append PySem.F.type_list_append mt_append (pv 2) (pa_cons (pv 5) pa_nil))))
            pss_nil))))
        (pss_one (ps_aug (i := 3) sc_coming.nd rfl (.inl rfl) pe_int ip_add))))
      (pss_one (ps_ret (pe_callTy call_tup (by rfl) T.z_tuple (by decide +kernel) (pa_cons (pv 2) pa_nil)))))))), ?_⟩
    refine ⟨_, rfl, v, rfl, m, n, ts, v, rfl, hm, hv, bad, fun eb => ?_⟩
    obtain ⟨s0, rfl, fin⟩ := good eb
    obtain ⟨s1, s2⟩ := isBel_iff.mp eb
    refine ⟨by show 1 ≤ sizeLine; decide, fun Fa hFa => ?_⟩
    refine ⟨fun k σ' H' => ∃ (j : Nat) (L : List Int) (y z : Option V), k = n - j ∧ σ' = [some (.ref m), some (.int s0), some (.ref Fa), some (.int (j : Int)), y, z] ∧ Fnd ts s0 L j ∧ H' Fa = some (.lst (L.map V.int)) ∧ Same H H', ⟨n, 0, [s0], _, _, rfl, rfl, ⟨by simp, fun x hx => by rw [List.mem_singleton.mp hx]; exact .refl, by simp, Nat.zero_le _, fun i x h => absurd h (Nat.not_lt_zero i)⟩, upd_same, same_new hFa⟩, ?_⟩
    rintro k σ' H' ⟨j, L, y, z, rfl, rfl, fnd, hL, e⟩
    have lenL := len_le fnd.nd fun x hx => ok.rch s1 s2 (fnd.rch x hx)
    refine ⟨_, rfl, _, rfl, Fa, _, rfl, .inl (SqL.of hL), _, _, rfl, rfl, _, rfl, ite2 (fun lt => ?_) (fun ge => ?_)⟩
    · rw [List.length_map] at lt
      have lt := of_decide_eq_true lt
      have hj : j < L.length := by omega
      have ex : L[j]? = some L[j] := List.getElem?_eq_getElem hj
      have hx := ok.rch s1 s2 (fnd.rch _ (List.mem_of_getElem? ex))
      refine ⟨fun σ2 H2 => ∃ (L2 : List Int) (y z : Option V), σ2 = [some (.ref m), some (.int s0), some (.ref Fa), some (.int ((j + 1 : Nat) : Int)), y, z] ∧ Fnd ts s0 L2 (j + 1) ∧ H2 Fa = some (.lst (L2.map V.int)) ∧ Same H H2, ?_, ?_⟩
      · rintro σ2 H2 ⟨L2, y, z, r1, r2, r3, r4⟩
        exact ⟨n - (j + 1), by omega, j + 1, L2, y, z, rfl, r1, r2, r3, r4⟩
      · refine ⟨_, rfl, m, CM, dx, _, _, rfl, e _ _ h1, TM.cl, TM.n3, rfl, t, rfl, ⟨ps, sqT_same e h2⟩, ?_⟩
        refine for_tup (xs := ps) (fun i σ2 H2 => ∃ (G : List Int) (y z : Option V), σ2 = [some (.ref m), some (.int s0), some (.ref Fa), some (.int (j : Int)), y, z] ∧ Fnd ts s0 (L ++ G) j ∧ (∀ d, d < i → nx ts d L[j] ∈ L ++ G) ∧ H2 Fa = some (.lst ((L ++ G).map V.int)) ∧ Same H H2) ⟨[], _, _, rfl, by rw [List.append_nil]; exact fnd, fun d hd => absurd hd (Nat.not_lt_zero d), by rw [List.append_nil]; exact hL, e⟩ (fun i σ2 H2 _ q => by
          obtain ⟨_, _, _, _, _, _, _, e2⟩ := q
          exact sqT_same e2 h2) ?_ ?_
        · rintro i q σ2 H2 hq ⟨G, y2, z2, rfl, fnd2, cl2, hL2, e2⟩
          have hi : i < ts.length := by rw [← h3.length]; exact (List.getElem?_eq_some_iff.mp hq).1
          obtain ⟨tt, x', t1, t2, t3, x0, x1⟩ := ok.next (d := (i : Int)) (by omega) (by omega) hx.1 hx.2
          rw [Int.toNat_natCast] at t1 t3
          obtain ⟨qa, hqa, sq⟩ := h3.at_ t1
          rw [hq] at hqa
          obtain rfl := Option.some.inj hqa
          have en : nx ts i L[j] = x' := t3
          have rx : Rch ts s0 x' := by
            rw [← en]
            exact (fnd.rch _ (List.mem_of_getElem? ex)).step hi
          have a1 : atI ((L ++ G).map V.int) (j : Int) = some (V.int L[j]) := atI_nat (by rw [List.getElem?_map, List.getElem?_append_left hj, ex]; rfl)
          have a2 : atI (tt.map V.int) L[j] = some (V.int x') := by
            have := atI_nat (xs := tt.map V.int) (j := L[j].toNat) (v := .int x') (by rw [List.getElem?_map, t2]; rfl)
            rwa [Int.toNat_of_nonneg hx.1] at this
          have lenG := len_le fnd2.nd fun x hx => ok.rch s1 s2 (fnd2.rch x hx)
          have n8 := ok.n8
          refine ⟨_, rfl, _, rfl, _, rfl, Fa, _, _, _, rfl, rfl, SqL.of hL2, a1, qa, _, _, _, rfl, rfl, sqT_same e2 sq, a2, ?_⟩
          refine ⟨_, rfl, _, rfl, Fa, _, rfl, .inl (SqL.of hL2), rfl, flat_nums, _, rfl, ?_⟩
          rw [if_pos rfl, inV_nums]
          refine ite2 (fun no => ?_) (fun yes => ?_)
          · have no : x' ∉ L ++ G := by simpa using no
            refine ⟨_, rfl, .inl ⟨rfl, _, SqL.of hL2⟩, _, rfl, Fa, _, _, rfl, rfl, hL2, by rw [List.length_map, sizeLine_eq]; omega, G ++ [x'], _, _, rfl, ?_, ?_, ?_, ?_⟩
            · rw [← List.append_assoc]
              exact fnd2.more rx no
            · intro d hd
              rw [← List.append_assoc]
              rcases Nat.lt_or_eq_of_le (Nat.le_of_lt_succ hd) with h | rfl
              · exact List.mem_append_left _ (cl2 d h)
              · rw [en]
                simp
            · rw [upd_same, ← List.append_assoc, List.map_append (l₁ := L ++ G)]
              rfl
            · intro c o hc
              rw [upd_ne (ne_of_none hc hFa)]
              exact e2 _ _ hc
          · have yes : x' ∈ L ++ G := Decidable.not_not.mp (by simpa [-List.mem_append] using yes)
            refine ⟨G, _, _, rfl, fnd2, fun d hd => ?_, hL2, e2⟩
            rcases Nat.lt_or_eq_of_le (Nat.le_of_lt_succ hd) with h | rfl
            · exact cl2 d h
            · rw [en]
              exact yes
        · rintro σ2 H2 ⟨G, y2, z2, rfl, fnd2, cl2, hL2, e2⟩
          refine ⟨_, rfl, _, _, rfl, rfl, L ++ G, y2, z2, ?_, ⟨fnd2.nd, fnd2.rch, fnd2.st, by rw [List.length_append]; omega, fun i x hi hx' d hd => ?_⟩, hL2, e2⟩
          · rfl
          · rcases Nat.lt_or_eq_of_le (Nat.le_of_lt_succ hi) with h | rfl
            · exact fnd2.done i x h hx' d hd
            · rw [List.getElem?_append_left hj, ex] at hx'
              cases hx'
              exact cl2 d (by rw [h3.length]; exact hd)
    · rw [List.length_map] at ge
      have ge : ¬ ((j : Int) < (L.length : Int)) := of_decide_eq_false (by simpa using ge)
      have ej : j = L.length := by have := fnd.le; omega
      subst ej
      exact ⟨_, rfl, Fa, _, rfl, .inl (SqL.of hL), fun q H3 e3 hq => fin q L H3 (e.trans e3) fnd.nd lenL (fun x => fnd.all x) hq⟩
theorem sc_reached : FnScope ["machine", "first"] ["machine", "first"] (defScope s_reached) := ⟨rfl, rfl, rfl, by decide +kernel, rfl, by decide +kernel, by decide +kernel⟩
theorem ok_reached (F : FnP K "reached" s_reached f fd) (T : Mg mg) (c_coming : Cal P w K mg base (L2N.CX P w) 5 "in_coming_order" ["machine", "first"] (spComing K a CM)) : FnOk P w K mg base (L2N.CX P w) 6 f fd ["machine", "first"] (spReached K a CM) := by
  refine F.ok sc_reached (fun vs H Q E h => ?_) (fun cdv A outer s H vs Q E hr h => ?_)
  · obtain ⟨m, n, ts, v, rfl, _⟩ := h
    rfl
  · obtain ⟨m, n, ts, v, rfl, hm, hv, bad, good⟩ := h
    refine ⟨_, (pss_one (ps_ret (pe_callTy call_tup (by rfl) T.z_tuple (by decide +kernel) (pa_cons (pe_callB cr_sortTup (by rfl) T.z_sorted (by decide +kernel) (pa_cons (pe_callC c_coming hr (L2N.passes_call (L2N.takes_of rfl rfl rfl rfl) (fun _ _ _ _ z => z)) (pa_cons (pv 0) (pa_cons (pv 1) pa_nil))) pa_nil)) pa_nil)))), ?_⟩
    refine ⟨_, rfl, v, rfl, m, n, ts, v, rfl, hm, hv, bad, fun eb => ?_⟩
    obtain ⟨s0, rfl, fin⟩ := good eb
    refine ⟨s0, rfl, fun t L H1 e1 nd len mem ht => ?_⟩
    have n8 := hm.ok.n8
    refine ⟨t, L, rfl, ht, by omega, fun L' p perm srt hp => ⟨p, _, rfl, .inl (SqL.of upd_same), fun q H3 e3 hq => ?_⟩⟩
    have e4 : Same H H3 := fun c o hc => e3 _ _ (by rw [upd_ne (ne_of_none (e1 _ _ hc) hp)]; exact e1 _ _ hc)
    exact fin q L' H3 e4 (lt_of_le srt (perm.nodup_iff.mpr nd)) (fun x => by rw [perm.mem_iff]; exact mem x) hq
end
end KT
/-! machines and counters are made -/
namespace KT
open PySem PySem.Spec PyProof.Rows L2 Kx RZ
structure Mks (P : Program) (w : World) (K : PySem.W.Frag) (mg : Str → Option Value) (base : Heap) (a : Ad) (C CM t0 : Addr) : Prop where
  cnt : ∃ (f : Addr) (fd : FuncData), Mk K C f ∧ FnOk P w K mg base (L2N.CX P w) 5 f fd ["self", "rounds", "rests"] (spInit K a C) ∧ Binds K fd ["self", "rounds", "rests"] []
  cnt1 : ∃ (f : Addr) (fd : FuncData), Mk K C f ∧ FnOk P w K mg base (L2N.CX P w) 5 f fd ["self", "rounds", "rests"] (spInit K a C) ∧ Binds K fd ["self", "rounds", "rests"] [.ref t0]
  mac : ∃ (f : Addr) (fd : FuncData), Mk K CM f ∧ FnOk P w K mg base (L2N.CX P w) 5 f fd ["self", "tables"] (spMachine K a CM) ∧ Binds K fd ["self", "tables"] []
  nil : ∀ H, SqT K H t0 []
section
variable {X : Cx} {a : Ad} {C CM t0 : Addr} {E : XK} {p pos : Pos} {e e2 : Expr} {t tk : TA} {n : Nat}
theorem pe_cnt2 (M : Mks X.prog X.w X.K X.mg X.base a C CM t0) (TC : ClsC X.K X.mg C) (hr : Room n X.A) (hx : Passes (L2N.CX X.prog X.w) X E) (ha : PA X [e, e2] t) (hn : 6 ≤ n := by decide) (hg : Gl X "Counters" := by rfl)
    (he : starEach [e, e2] X.env = (false, eval e X.env) :: starEach [e2] X.env := by rfl) (hpl : (backTo pos (starEach [e2] X.env)).any (·.1) = false := by rfl) {K : PySem.W.Frag} (hK : X.K = K := by rfl) : PE X (.Call (.Name "Counters" p) [e, e2] [] pos) (tMake C (spInit K a C) [] E t) := by
  subst hK
  obtain ⟨f, fd, h1, h2, h3⟩ := M.cnt
  exact pe_make h1 h2 (hr.mono hn) hg TC.at_ h3 .nil hx ha (by decide) he hpl
theorem pe_mac (M : Mks X.prog X.w X.K X.mg X.base a C CM t0) (TM : ClsM X.K X.mg CM) (hr : Room n X.A) (hx : Passes (L2N.CX X.prog X.w) X E) (ha : PA X [e] t) (hn : 6 ≤ n := by decide) (hg : Gl X "Machine" := by rfl)
    (he : starEach [e] X.env = (false, eval e X.env) :: starEach [] X.env := by rfl) (hpl : (backTo pos (starEach [] X.env)).any (·.1) = false := by rfl) {K : PySem.W.Frag} (hK : X.K = K := by rfl) : PE X (.Call (.Name "Machine" p) [e] [] pos) (tMake CM (spMachine K a CM) [] E t) := by
  subst hK
  obtain ⟨f, fd, h1, h2, h3⟩ := M.mac
  exact pe_make h1 h2 (hr.mono hn) hg TM.at_ h3 .nil hx ha (by decide) he hpl
theorem pe_cnt1 (M : Mks X.prog X.w X.K X.mg X.base a C CM t0) (TC : ClsC X.K X.mg C) (hr : Room n X.A) (hx : Passes (L2N.CX X.prog X.w) X E) (ha : PA X [e] t) (hn : 6 ≤ n := by decide) (hg : Gl X "Counters" := by rfl)
    (he : starEach [e] X.env = (false, eval e X.env) :: starEach [] X.env := by rfl) (hp : (backTo pos (starEach [] X.env)).any (·.1) = false := by rfl) {K : PySem.W.Frag} (hK : X.K = K := by rfl) : PE X (.Call (.Name "Counters" p) [e] [] pos) (tMake C (spInit K a C) [.ref t0] E t) := by
  subst hK
  obtain ⟨f, fd, h1, h2, h3⟩ := M.cnt1
  exact pe_make h1 h2 (hr.mono hn) hg TC.at_ h3 (.cons rfl .nil) hx ha (by decide) he hp
end
theorem pzN {X : Cx} : Passes (L2N.CX X.prog X.w) X fun _ _ _ => False := L2N.passes_call (fun _ _ ⟨_, _, _, _, _, _, _, _, _, _, _, _, _, _, _, _, z⟩ => z.elim) fun _ _ _ _ z => z
theorem kns_ints {K : PySem.W.Frag} {H : Hp} {ns : List Int} {m : Nat} : Kns K H (some (ns.map V.int)) m := fun xs q _ x hx => by
  cases q
  obtain ⟨n, _, rfl⟩ := List.mem_map.mp hx
  exact .int n
theorem items_of {K : PySem.W.Frag} {H : Hp} : ∀ {vs : List V} {ts : List (List Int)}, RowsBy (Sq K H) vs ts → Items K H vs (ts.map fun t => some (t.map V.int))
  | [], [], _ => trivial
  | _ :: _, _ :: _, ⟨⟨q, h1, h2⟩, h⟩ => ⟨⟨by rw [h1]; exact .seq h2, kns_ints⟩, items_of h⟩
  | [], _ :: _, h => h.elim
  | _ :: _, [], h => h.elim
theorem isTab_of {n : Nat} {t : List Int} (n1 : 1 ≤ n) (n8 : n ≤ 8) (l : t.length = n) (b : ∀ x ∈ t, 0 ≤ x ∧ x < (n : Int)) : isTab n (some (t.map V.int)) = true := by
  rw [isTab_some, inLen_some, List.length_map, l, fnb_of b, decide_eq_true (by omega), decide_eq_true (by omega)]
  simp
theorem new_ins {C x dx : Addr} {H : Hp} (hx : H x = none) (hd : H dx = none) (ne : dx ≠ x) : Same H (upd (upd H dx (.own x)) x (.ins C dx [])) := (same_new hd).trans (same_new (by rw [upd_ne (Ne.symm ne)]; exact hx))
theorem mc_make {K : PySem.W.Frag} {a : Ad} {CM x dx b : Addr} {H : Hp} {xs : List V} {n : Nat} {ts : List (List Int)} {E : XK} {Q : Hp → Prop} (ok : Mok n ts) (hb : Sq K H b xs) (rows : RowsBy (Sq K H) xs ts) (hx : H x = none) (hd : H dx = none) (ne : dx ≠ x)
    (q : ∀ H', Same H H' → McAt K CM H' x n ts → Q H') : spMachine K a CM [.ref x, .ref b] (upd (upd H dx (.own x)) x (.ins CM dx [])) (fun v H2 => v = .non ∧ Q H2) E := by
  have e := new_ins (C := CM) hx hd ne
  have len := rows.length
  have l1 := ok.l1
  have l4 := ok.l4
  have it := items_of (rows.imp fun _ _ z => z.same e)
  have l0 : lenAt (ts.map fun t => some (t.map V.int)) = n := by
    obtain ⟨t0, ht0⟩ : ∃ t0, ts[0]? = some t0 := ⟨ts[0], List.getElem?_eq_getElem (by omega)⟩
    unfold lenAt
    rw [List.getElem?_map, ht0]
    show (t0.map V.int).length = n
    rw [List.length_map]
    exact ok.len _ (List.mem_of_getElem? ht0)
  have nb : badTab n (ts.map fun t => some (t.map V.int)) = none := badTab_none.mpr fun o ho => by
    obtain ⟨t, ht, rfl⟩ := List.mem_map.mp ho
    exact isTab_of ok.n1 ok.n8 (ok.len t ht) (ok.ent t ht)
  refine ⟨x, dx, .ref b, some xs, rfl, upd_same, .seq (hb.same e), fun z => ?_, fun ys ey _ => ?_⟩
  · rw [inLen_some, decide_eq_true (by omega), decide_eq_true (by omega)] at z
    cases z
  · cases ey
    refine ⟨_, it, fun i z => ?_, fun _ n' ts' ok' eo H' keep mc => ?_⟩
    · rw [l0, nb] at z
      cases z
    · have et := ints_map eo
      subst et
      have en : n' = n := by
        obtain ⟨t0, ht0⟩ : ∃ t0, ts[0]? = some t0 := ⟨ts[0], List.getElem?_eq_getElem (by omega)⟩
        rw [← ok.len _ (List.mem_of_getElem? ht0), ok'.len _ (List.mem_of_getElem? ht0)]
      subst en
      exact ⟨rfl, q H' (fun c o hc => keep c o (ne_of_none hc hx) (e _ _ hc)) mc⟩
theorem ints_inj : ∀ {xs ys : List Int}, xs.map V.int = ys.map V.int → xs = ys
  | [], [], _ => rfl
  | [], _ :: _, h => nomatch h
  | _ :: _, [], h => nomatch h
  | x :: xs, y :: ys, h => by
    rw [List.map_cons] at h
    rw [List.map_cons] at h
    injection h with h1 h2
    cases h1
    rw [ints_inj h2]
section
variable {K : PySem.W.Frag} {a : Ad} {C x dx : Addr} {H : Hp} {v1 v2 : V} {E : XK} {o1 o2 : Option (List V)} {rs es : List Int}
theorem rounds_ok (ok : Cok rs es) : roundsOk (some (rs.map V.int)) = true := by
  rw [roundsOk_some, inLen_some, fnb_of (l := 61) fun n hn => ⟨(ok.r n hn).1, by have := (ok.r n hn).2; omega⟩, List.length_map]
  have := ok.l1
  have := ok.l4
  rw [decide_eq_true (by omega), decide_eq_true (by omega)]
  rfl
theorem rests_ok (ok : Cok rs es) : restsOk rs.length (some (es.map V.int)) = true := by
  rw [restsOk_some, fnb_of (l := 7) fun n hn => ⟨(ok.e n hn).1, by have := (ok.e n hn).2; omega⟩, List.length_map, decide_eq_true ok.le]
  simp
theorem make_good {Q : Hp → Prop} (ok : Cok rs es) (h1 : Long K H v1 (some (rs.map V.int))) (h2 : (Long K H v2 (some []) ∧ es = List.replicate rs.length 0) ∨ Long K H v2 (some (es.map V.int))) (hx : H x = none) (hd : H dx = none) (ne : dx ≠ x)
    (q : ∀ H', Same H H' → CnAt K C H' x rs es → Q H') : spInit K a C [.ref x, v1, v2] (upd (upd H dx (.own x)) x (.ins C dx [])) (fun v H2 => v = .non ∧ Q H2) E := by
  have e := new_ins (C := C) hx hd ne
  have last : ∀ rs' es', some (rs.map V.int) = some (rs'.map V.int) → es' = es → ∀ H', (∀ b o, b ≠ x → upd (upd H dx (.own x)) x (.ins C dx []) b = some o → H' b = some o) → CnAt K C H' x rs' es' → V.non = V.non ∧ Q H' := fun rs' es' er ee H' keep cn => by
    have er := ints_inj (Option.some.inj er)
    subst er ee
    exact ⟨rfl, q H' (fun b o hb => keep b o (ne_of_none hb hx) (e _ _ hb)) cn⟩
  rcases h2 with ⟨h2, ee⟩ | h2
  · refine ⟨x, dx, v1, v2, _, some [], rfl, upd_same, h1.same e, kns_ints, h2.same e, fun xs q _ x hx => by cases q; simp at hx, fun z => ?_, fun xs e1 _ z => ?_, fun rs' es' ok' er how => ?_⟩
    · rw [rounds_ok ok] at z
      cases z
    · cases e1
      rw [restsOk_some] at z
      cases z
    · rcases how with ⟨_, e3⟩ | e3
      · exact last rs' es' er (by rw [e3, ee, ints_inj (Option.some.inj er)])
      · exfalso
        have z : es'.length = 0 := by cases es' with
          | nil => rfl
          | cons _ _ => cases e3
        have := ok'.le
        have := ok'.l1
        omega
  · refine ⟨x, dx, v1, v2, _, _, rfl, upd_same, h1.same e, kns_ints, h2.same e, kns_ints, fun z => ?_, fun xs e1 _ z => ?_, fun rs' es' ok' er how => ?_⟩
    · rw [rounds_ok ok] at z
      cases z
    · cases e1
      rw [List.length_map, rests_ok ok] at z
      cases z
    · rcases how with ⟨e3, _⟩ | e3
      · exfalso
        have z : es.length = 0 := by cases es with
          | nil => rfl
          | cons _ _ => cases e3
        have := ok.le
        have := ok.l1
        omega
      · exact last rs' es' er (ints_inj (Option.some.inj e3)).symm
end
end KT
/-! counters that fit -/
namespace KT
open L2 PySem PySem.Spec PyProof.Rows Kx
def spNeedFit (K : PySem.W.Frag) (a : Ad) (C CM : Addr) : Sp := fun vs H Q E => ∃ (m c dx : Addr) (fs : List (Str × V)) (n : Nat) (rs es : List Int), vs = [.ref m, .ref c] ∧ H m = some (.ins CM dx fs) ∧ Cls K CM ∧ NoAttr K CM ("deeds" : Str) ∧ fs.lookup ("deeds" : Str) = some (V.int (n : Int)) ∧ CnAt K C H c rs es ∧
  (rs.length ≠ n → Thrown E H a.cF "at" (.ref c)) ∧ (rs.length = n → Q (.ref c) H)
section
variable {P : Program} {w : World} {K : PySem.W.Frag} {mg : Str → Option Value} {base : Heap} {f : Addr} {fd : FuncData} {a : Ad} {C CM : Addr}
theorem sc_need_fit : FnScope ["machine", "counters"] ["machine", "counters"] (defScope s_need_fit) := ⟨rfl, rfl, rfl, by decide +kernel, rfl, by decide +kernel, by decide +kernel⟩
theorem ok_need_fit (F : FnP K "need_fit" s_need_fit f fd) (T : Mg mg) (R : Er P w K mg base a) (TC : ClsC K mg C) : FnOk P w K mg base (L2N.CX P w) 3 f fd ["machine", "counters"] (spNeedFit K a C CM) := by
  refine F.ok sc_need_fit (fun vs H Q E h => ?_) (fun cdv A outer s H vs Q E hr h => ?_)
  · obtain ⟨m, c, dx, fs, n, rs, es, rfl, _⟩ := h
    rfl
  · obtain ⟨m, c, dx, fs, n, rs, es, rfl, hm, cl, na, hd, ⟨ok, dy, p, q, h1, h2, h3⟩, bad, good⟩ := h
    refine ⟨_, (pss_cons (ps_if (pt_cmpR op_ne (pe_callB call_len_seq (by rfl) T.z_len PySem.boot_len (pa_cons (pe_fld (pv 1) rfl) pa_nil)) (pe_fld (pv 0) rfl) (nomark _))
        (pss_one (psN R.Refused rfl hr (L2N.takes_of rfl rfl rfl rfl) (pa_cons (pv 1) pa_nil)))
        pss_nil)
      (PSs.nox (pss_one (ps_ret (pv 1))))), ?_⟩
    refine ⟨_, rfl, c, C, dy, _, _, rfl, h1, TC.cl, TC.n1, rfl, p, _, rfl, .inr h2, _, rfl, m, CM, dx, _, _, rfl, hm, cl, na, hd, rfl, _, rfl, ?_⟩
    rw [List.length_map]
    refine ite2 (fun h => ?_) (fun h => ?_)
    · have ne : rs.length ≠ n := fun e => by subst e; simp at h
      exact ⟨_, rfl, thrownN (bad ne).at_⟩
    · have e : rs.length = n := by
        simp at h
        omega
      exact ⟨_, rfl, good e⟩
end
end KT
/-! a table done over and over -/
namespace KT
open L2 PySem PySem.Spec PyProof.Rows Kx
def tx (t : List Int) (x : Int) : Int := t.getD x.toNat 0
/-- a table k times -/
def it (t : List Int) : Nat → Int → Int
  | 0, x => x
  | k + 1, x => tx t (it t k x)
theorem it_add (t : List Int) (x : Int) (i : Nat) : ∀ j, it t (i + j) x = it t j (it t i x)
  | 0 => rfl
  | j + 1 => congrArg (tx t) (it_add t x i j)
/-- L goes into itself, unlike to unlike -/
structure Exc (L : List Int) (t : List Int) : Prop where
  nd : L.Nodup
  cl : ∀ x ∈ L, tx t x ∈ L
  inj : ∀ x ∈ L, ∀ y ∈ L, tx t x = tx t y → x = y
theorem nodup_le : ∀ {F L : List Int}, F.Nodup → (∀ x ∈ F, x ∈ L) → F.length ≤ L.length
  | [], _, _, _ => Nat.zero_le _
  | x :: F, L, nd, h => by
    have hx := h x (List.mem_cons_self ..)
    have nd' := List.nodup_cons.mp nd
    have := nodup_le (F := F) (L := L.erase x) nd'.2 fun y hy => by
      have ne : y ≠ x := fun z => nd'.1 (z ▸ hy)
      exact (List.mem_erase_of_ne ne).mpr (h y (List.mem_cons_of_mem _ hy))
    rw [List.length_erase_of_mem hx] at this
    have : 0 < L.length := List.length_pos_of_mem hx
    rw [List.length_cons]
    omega
section
variable {L t : List Int} {x y : Int}
theorem Exc.it_in (e : Exc L t) (hx : x ∈ L) : ∀ k, it t k x ∈ L
  | 0 => hx
  | k + 1 => e.cl _ (e.it_in hx k)
theorem Exc.it_inj (e : Exc L t) (hx : x ∈ L) (hy : y ∈ L) : ∀ {k}, it t k x = it t k y → x = y
  | 0, h => h
  | k + 1, h => e.it_inj hx hy (e.inj _ (e.it_in hx k) _ (e.it_in hy k) h)
theorem Exc.back (e : Exc L t) (hx : x ∈ L) {i k : Nat} (h : it t (i + k) x = it t i x) : it t k x = x := by
  rw [Nat.add_comm, it_add] at h
  exact e.it_inj (e.it_in hx k) hx h
/-- x comes back, at the latest behind all of L -/
theorem Exc.some_back (e : Exc L t) (hx : x ∈ L) : ∃ c, 1 ≤ c ∧ c ≤ L.length ∧ it t c x = x := by
  refine Classical.byContradiction fun no => ?_
  have nd : ((List.range (L.length + 1)).map fun i => it t i x).Nodup := by
    refine List.pairwise_map.mpr (List.pairwise_lt_range.imp_of_mem fun {i j} hi hj lt z => no ?_)
    have hj := List.mem_range.mp hj
    refine ⟨j - i, by omega, by omega, ?_⟩
    have e' : i + (j - i) = j := by omega
    exact e.back hx (i := i) (by rw [e']; exact z.symm)
  have := nodup_le nd fun y hy => by
    obtain ⟨i, _, rfl⟩ := List.mem_map.mp hy
    exact e.it_in hx i
  rw [List.length_map, List.length_range] at this
  omega
/-- x comes back for the first time -/
structure Per (t : List Int) (x : Int) (c : Nat) : Prop where
  c1 : 1 ≤ c
  back : it t c x = x
  least : ∀ j, 0 < j → j < c → it t j x ≠ x
theorem least_of {p : Nat → Prop} : ∀ n, p n → ∃ m, m ≤ n ∧ p m ∧ ∀ j, j < m → ¬ p j := by
  intro n
  induction n using Nat.strongRecOn with
  | _ n ih =>
    intro hn
    by_cases h : ∃ m, m < n ∧ p m
    · obtain ⟨m, lt, hm⟩ := h
      obtain ⟨k, hk, h1, h2⟩ := ih m lt hm
      exact ⟨k, by omega, h1, h2⟩
    · exact ⟨n, Nat.le_refl _, hn, fun j hj hp => h ⟨j, hj, hp⟩⟩
theorem Exc.per (e : Exc L t) (hx : x ∈ L) : ∃ c, c ≤ L.length ∧ Per t x c := by
  obtain ⟨c, c1, cl, hc⟩ := e.some_back hx
  obtain ⟨m, hm, ⟨m1, m2⟩, m3⟩ := least_of (p := fun c => 1 ≤ c ∧ it t c x = x) c ⟨c1, hc⟩
  exact ⟨m, by omega, m1, m2, fun j j0 jm z => m3 j jm ⟨j0, z⟩⟩
theorem it_mul {c : Nat} (h : it t c x = x) : ∀ k, it t (c * k) x = x
  | 0 => rfl
  | k + 1 => by rw [Nat.mul_succ, it_add, it_mul h k, h]
theorem it_mod {c : Nat} (h : it t c x = x) (k : Nat) : it t k x = it t (k % c) x := by
  conv => lhs; rw [← Nat.div_add_mod k c, it_add, it_mul h]
/-- where x goes -/
def orb (t : List Int) (x : Int) (c : Nat) : List Int := (List.range c).map fun i => it t i x
theorem orb_len {c : Nat} : (orb t x c).length = c := by unfold orb; rw [List.length_map, List.length_range]
theorem orb_at {c i : Nat} (h : i < c) : (orb t x c)[i]? = some (it t i x) := by
  unfold orb
  rw [List.getElem?_map, List.getElem?_range h]
  rfl
theorem orb_more {c : Nat} : orb t x (c + 1) = orb t x c ++ [it t c x] := by
  unfold orb
  rw [List.range_succ, List.map_append]
  rfl
end
/-- a table's entries are places of it -/
def InR (t : List Int) : Prop := ∀ y ∈ t, 0 ≤ y ∧ y < (t.length : Int)
theorem InR.at_ {t : List Int} (h : InR t) {x : Int} (h0 : 0 ≤ x) (h1 : x < (t.length : Int)) : (t.map V.int)[x.toNat]? = some (.int (tx t x)) ∧ 0 ≤ tx t x ∧ tx t x < (t.length : Int) := by
  have lt : x.toNat < t.length := by omega
  have e : t[x.toNat]? = some t[x.toNat] := List.getElem?_eq_getElem lt
  have e2 : tx t x = t[x.toNat] := by
    unfold tx
    rw [List.getD_eq_getElem?_getD, e]
    rfl
  rw [e2, List.getElem?_map, e]
  exact ⟨rfl, h _ (List.getElem_mem lt)⟩
theorem InR.it_in {t : List Int} (h : InR t) {x : Int} (h0 : 0 ≤ x) (h1 : x < (t.length : Int)) : ∀ k, 0 ≤ it t k x ∧ it t k x < (t.length : Int)
  | 0 => ⟨h0, h1⟩
  | k + 1 => (h.at_ (h.it_in h0 h1 k).1 (h.it_in h0 h1 k).2).2
theorem at_int {xs : List V} {x : Int} {v : V} (h0 : 0 ≤ x) (h : xs[x.toNat]? = some v) : atI xs x = some v := by
  obtain ⟨k, rfl⟩ : ∃ k : Nat, x = (k : Int) := ⟨x.toNat, by omega⟩
  exact atI_nat h
/-- tables of n places that lead L into itself, unlike to unlike -/
structure Wrl (n : Nat) (ts : List (List Int)) (L : List Int) : Prop where
  tab : ∀ t ∈ ts, t.length = n ∧ InR t ∧ Exc L t
  rng : ∀ x ∈ L, 0 ≤ x ∧ x < (n : Int)
  n8 : n ≤ 8
  nd : L.Nodup
theorem Wrl.few {n : Nat} {ts : List (List Int)} {L : List Int} (w : Wrl n ts L) : L.length ≤ n := len_le w.nd w.rng
theorem Wrl.per {n : Nat} {ts : List (List Int)} {L t : List Int} {x : Int} (w : Wrl n ts L) (ht : t ∈ ts) (hx : x ∈ L) : ∃ c, c ≤ 8 ∧ c ≤ L.length ∧ Per t x c := by
  obtain ⟨c, h1, h2⟩ := (w.tab t ht).2.2.per hx
  have := w.few
  have := w.n8
  exact ⟨c, by omega, h1, h2⟩
/-- where numbers of deeds lead -/
def byC : List (List Int) → List Nat → Int → Int
  | t :: ts, c :: cs, s => byC ts cs (it t c s)
  | _, _, s => s
theorem byC_snoc : ∀ {ts : List (List Int)} {cs : List Nat} {t : List Int} {c : Nat} {s : Int}, ts.length = cs.length → byC (ts ++ [t]) (cs ++ [c]) s = it t c (byC ts cs s)
  | [], [], _, _, _, _ => rfl
  | _ :: ts, _ :: cs, _, _, _, h => byC_snoc (ts := ts) (cs := cs) (by simpa using h)
  | [], _ :: _, _, _, _, h => by simp at h
  | _ :: _, [], _, _, _, h => by simp at h
theorem byC_in {L : List Int} : ∀ {ts : List (List Int)} {cs : List Nat} {s : Int}, (∀ t ∈ ts, Exc L t) → s ∈ L → byC ts cs s ∈ L
  | [], _, _, _, h => h
  | _ :: _, [], _, _, h => h
  | t :: ts, c :: cs, s, e, h => byC_in (ts := ts) (cs := cs) (fun t ht => e t (List.mem_cons_of_mem _ ht)) ((e t (List.mem_cons_self ..)).it_in h c)
end KT
/-! where deeds lead, many times -/
namespace KT
open L2 PySem PySem.Spec PyProof.Rows Kx RZ
theorem at_last {xs : List V} {v : V} {j : Nat} (h : xs[j]? = some v) (hl : xs.length = j + 1) : atI xs (-1) = some v := by
  have e : ixN xs.length (-1) = some j := by
    unfold ixN
    rw [hl, if_neg (by decide), if_pos (by omega)]
    congr 1
    omega
  unfold atI
  rw [e]
  exact h
theorem same_put {H H' : Hp} {S : Addr} {o : HO} (e : Same H H') (n : H S = none) : Same H (upd H' S o) := fun b u hb => by
  rw [upd_ne (fun z => by rw [z, n] at hb; cases hb)]
  exact e b u hb
def spCircle (K : PySem.W.Frag) : Sp := fun vs H Q _ => ∃ (q : Addr) (t : List Int) (s : Int) (c : Nat), vs = [.ref q, .int s] ∧ SqT K H q (t.map V.int) ∧ InR t ∧ 0 ≤ s ∧ s < (t.length : Int) ∧ Per t s c ∧ c ≤ 8 ∧
  ∀ l H', Same H H' → H l = none → H' l = some (.lst ((orb t s c).map V.int)) → Q (.ref l) H'
def spMoved (K : PySem.W.Frag) : Sp := fun vs H Q _ => ∃ (q : Addr) (t : List Int) (s : Int) (c m : Nat), vs = [.ref q, .int s, .int (m : Nat)] ∧ SqT K H q (t.map V.int) ∧ InR t ∧ 0 ≤ s ∧ s < (t.length : Int) ∧ Per t s c ∧ c ≤ 8 ∧
  ∀ H', Same H H' → Q (.int (it t m s)) H'
def spMovedBy (K : PySem.W.Frag) : Sp := fun vs H Q _ => ∃ (p r : Addr) (ps : List V) (ts : List (List Int)) (s : Int) (cs : List Nat) (L : List Int) (n : Nat), vs = [.ref p, .int s, .ref r] ∧ SqT K H p ps ∧ RowsBy (SqT K H) ps ts ∧ SqT K H r (cs.map fun c => V.int (c : Nat)) ∧ ts.length = cs.length ∧
  Wrl n ts L ∧ s ∈ L ∧ ∀ H', Same H H' → Q (.int (byC ts cs s)) H'
section
variable {P : Program} {w : World} {K : PySem.W.Frag} {mg : Str → Option Value} {base : Heap} {f : Addr} {fd : FuncData} {a : Ad} {C CM : Addr}
theorem sc_circle : FnScope ["table", "place", "places"] ["table", "place"] (defScope s_circle) := ⟨rfl, rfl, rfl, by decide +kernel, rfl, by decide +kernel, by decide +kernel⟩
theorem ok_circle (F : FnP K "circle" s_circle f fd) (T : Mg mg) : FnOk P w K mg base CX0 1 f fd ["table", "place"] (spCircle K) := by
  refine F.ok sc_circle (fun vs H Q E h => ?_) (fun cdv A outer s H vs Q E hr h => ?_)
  · obtain ⟨q, t, s, c, rfl, _⟩ := h
    rfl
  · obtain ⟨q, t, s, c, rfl, hq, ir, s0, s1, per, c8, k⟩ := h
    refine ⟨_, PSs.nox (pss_cons (ps_set (i := 2) sc_circle.nd rfl (by first | exact Or.inl rfl | exact Or.inr rfl) (pe_lst (pa_cons (pv 1) pa_nil)))
  (pss_cons (ps_while PassesOwn.never (pt_cmpR op_ne (pe_ix ix_tup (pv 0) (pe_ix ix_list (pv 2) (pe_un un_neg pe_int) (fun _ _ => rfl)) (fun _ _ => rfl)) (pv 1) (nomark _))
  (pss_one (ps_expr (pe_bm PySem.F.plainAttrs_list PySem.F.slot_list_append PySem.F.type_list_append mt_append (pv 2) (pa_cons (pe_ix ix_tup (pv 0) (pe_ix ix_list (pv 2) (pe_un un_neg pe_int) (fun _ _ => rfl)) (fun _ _ => rfl)) pa_nil)))))
  (pss_one (ps_ret (pv 2))))), ?_⟩
    have c1 := per.c1
    refine ⟨_, rfl, (by show 1 ≤ sizeLine; decide), fun l hl => ?_⟩
    have e1 := same_new (o := HO.lst [V.int s]) hl
    have u1 : upd H l (HO.lst [V.int s]) l = some (.lst ((orb t s 1).map V.int)) := upd_same
    generalize upd H l (HO.lst [V.int s]) = H1 at *
    refine ⟨fun k σ' H' => ∃ j : Nat, k = c - (j + 1) ∧ j + 1 ≤ c ∧ σ' = [some (.ref q), some (.int s), some (.ref l)] ∧ Same H H' ∧ H' l = some (.lst ((orb t s (j + 1)).map V.int)), ⟨c - 1, 0, rfl, c1, rfl, e1, u1⟩, ?_⟩
    rintro k' σ' H' ⟨j, rfl, jc, rfl, e, hl'⟩
    have la : atI ((orb t s (j + 1)).map V.int) (-1) = some (.int (it t j s)) := at_last (j := j) (by rw [List.getElem?_map, orb_at (by omega)]; rfl) (by rw [List.length_map, orb_len])
    have inr := ir.it_in s0 s1 j
    obtain ⟨g1, g2, g3⟩ := ir.at_ inr.1 inr.2
    have lb : atI (t.map V.int) (it t j s) = some (.int (it t (j + 1) s)) := at_int inr.1 g1
    refine ⟨_, rfl, _, rfl, _, rfl, l, _, _, _, rfl, rfl, SqL.of hl', la, q, _, _, _, rfl, rfl, sqT_same e hq, lb, _, rfl, rfl, _, rfl, ite2 (fun h => ?_) (fun h => ?_)⟩
    · have ne : it t (j + 1) s ≠ s := by simpa using h
      have j2 : j + 1 ≠ c := fun z => ne (by rw [z]; exact per.back)
      refine ⟨fun σ2 H2 => σ2 = [some (.ref q), some (.int s), some (.ref l)] ∧ Same H H2 ∧ H2 l = some (.lst ((orb t s (j + 1 + 1)).map V.int)), ?_, ?_⟩
      · rintro σ2 H2 ⟨rfl, e2, h2⟩
        exact ⟨c - (j + 1 + 1), by omega, j + 1, rfl, by omega, rfl, e2, h2⟩
      · refine ⟨_, rfl, .inl ⟨rfl, _, SqL.of hl'⟩, _, rfl, _, rfl, _, rfl, l, _, _, _, rfl, rfl, SqL.of hl', la, q, _, _, _, rfl, rfl, sqT_same e hq, lb, ?_⟩
        refine ⟨l, _, _, rfl, rfl, hl', by rw [List.length_map, orb_len, sizeLine_eq]; omega, rfl, same_put e hl, ?_⟩
        rw [upd_same, orb_more (c := j + 1), List.map_append, List.map_singleton]
    · have ee : it t (j + 1) s = s := by simpa using h
      have jc2 : j + 1 = c := by
        refine Classical.byContradiction fun z => per.least (j + 1) (by omega) (by omega) ee
      rw [jc2] at hl'
      exact ⟨_, rfl, k l H' e hl hl'⟩
theorem sc_moved : FnScope ["table", "place", "many", "places"] ["table", "place", "many"] (defScope s_moved) := ⟨rfl, rfl, rfl, by decide +kernel, rfl, by decide +kernel, by decide +kernel⟩
theorem ok_moved (F : FnP K "moved" s_moved f fd) (T : Mg mg) (c_circle : Cal P w K mg base CX0 1 "circle" ["table", "place"] (spCircle K)) : FnOk P w K mg base CX0 2 f fd ["table", "place", "many"] (spMoved K) := by
  refine F.ok sc_moved (fun vs H Q E h => ?_) (fun cdv A outer s H vs Q E hr h => ?_)
  · obtain ⟨q, t, s, c, m, rfl, _⟩ := h
    rfl
  · obtain ⟨q, t, s, c, m, rfl, hq, ir, s0, s1, per, c8, k⟩ := h
    refine ⟨_, PSs.nox (pss_cons (ps_set (i := 3) sc_moved.nd rfl (by first | exact Or.inl rfl | exact Or.inr rfl) (pe_callC c_circle hr pass0 (pa_cons (pv 0) (pa_cons (pv 1) pa_nil))))
  (pss_one (ps_ret (pe_ix ix_list (pv 3) (pe_op op_mod (pv 2) (pe_callB call_len_seq (by rfl) T.z_len PySem.boot_len (pa_cons (pv 3) pa_nil))) (fun _ _ => rfl))))), ?_⟩
    have c1 := per.c1
    refine ⟨_, rfl, _, rfl, q, t, s, c, rfl, hq, ir, s0, s1, per, c8, fun l H1 e1 nl hl => ?_⟩
    refine ⟨_, rfl, _, rfl, _, rfl, l, _, rfl, .inl (SqL.of hl), ?_⟩
    rw [List.length_map, orb_len]
    have em : ((m : Nat) : Int) % ((c : Nat) : Int) = ((m % c : Nat) : Int) := rfl
    rw [it_mod per.back m] at k
    exact ⟨_, _, rfl, rfl, (by show (0 : Int) < ((c : Nat) : Int); omega), l, _, _, _, rfl, rfl, SqL.of hl, atI_nat (j := m % c) (by rw [List.getElem?_map, orb_at (Nat.mod_lt _ (by omega))]; rfl), k H1 e1⟩
theorem sc_moved_by : FnScope ["tables", "place", "counts", "table", "many"] ["tables", "place", "counts"] (defScope s_moved_by) := ⟨rfl, rfl, rfl, by decide +kernel, rfl, by decide +kernel, by decide +kernel⟩
theorem ok_moved_by (F : FnP K "moved_by" s_moved_by f fd) (T : Mg mg) (c_moved : Cal P w K mg base CX0 2 "moved" ["table", "place", "many"] (spMoved K)) : FnOk P w K mg base CX0 3 f fd ["tables", "place", "counts"] (spMovedBy K) := by
  refine F.ok sc_moved_by (fun vs H Q E h => ?_) (fun cdv A outer s H vs Q E hr h => ?_)
  · obtain ⟨p, r, ps, ts, s, cs, L, n, rfl, _⟩ := h
    rfl
  · obtain ⟨p, r, ps, ts, s, cs, L, n, rfl, hp, rows, hc, lc, wl, hs, k⟩ := h
    refine ⟨_, PSs.nox (pss_cons (ps_for PassesOwn.never rfl (pi_zipA (by rfl) T.z_zip (pa_cons (pv 0) (pa_cons (pv 2) pa_nil))) (pg_tup rfl (pgs_cons (pg_name (i := 3) sc_moved_by.nd rfl (by first | exact Or.inl rfl | exact Or.inr rfl)) (pgs_cons (pg_name (i := 4) sc_moved_by.nd rfl (by first | exact Or.inl rfl | exact Or.inr rfl)) pgs_nil)))
  (pss_one (ps_set (i := 1) sc_moved_by.nd rfl (by first | exact Or.inl rfl | exact Or.inr rfl) (pe_callC c_moved hr pass0 (pa_cons (pv 3) (pa_cons (pv 1) (pa_cons (pv 4) pa_nil)))))))
  (pss_one (ps_ret (pv 1)))), ?_⟩
    have lp := rows.length
    refine ⟨_, rfl, _, rfl, p, r, _, _, rfl, .inr ⟨hp, hc, for_zipT (xs := ps) (ys := cs.map fun c => V.int (c : Nat)) (by rw [List.length_map]; omega) (fun i σ' H' => ∃ x3 x4, σ' = [some (.ref p), some (.int (byC (ts.take i) (cs.take i) s)), some (.ref r), x3, x4] ∧ Same H H') ⟨_, _, rfl, Same.refl H⟩ (fun i σ' H' ⟨_, _, _, e⟩ => ⟨sqT_same e hp, sqT_same e hc⟩) ?_ ?_⟩⟩
    · rintro i x y t σ' H' hx hy ⟨x3, x4, rfl, e⟩ ht
      have hi : i < ts.length := by rw [← lp]; exact (List.getElem?_eq_some_iff.mp hx).1
      have ti : ts[i]? = some ts[i] := List.getElem?_eq_getElem hi
      have ci : cs[i]? = some (cs[i]'(by omega)) := List.getElem?_eq_getElem (by omega)
      obtain ⟨q, h1, h2⟩ := rows.at_ ti
      rw [hx] at h1
      cases h1
      rw [List.getElem?_map, ci] at hy
      cases hy
      refine ⟨t, _, rfl, SqT.of upd_same, rfl, ?_⟩
      refine ⟨_, _, rfl, _, _, rfl, rfl, ?_⟩
      have mt := List.getElem_mem hi
      obtain ⟨tl, tr, te⟩ := wl.tab _ mt
      have inL : byC (ts.take i) (cs.take i) s ∈ L := byC_in (fun t ht => (wl.tab t (List.mem_of_mem_take ht)).2.2) hs
      obtain ⟨b0, b1⟩ := wl.rng _ inL
      obtain ⟨c, c8, _, per⟩ := wl.per mt inL
      have e2 := e.trans (same_new (o := HO.tup [.ref q, .int ((cs[i]'(by omega) : Nat) : Int)]) ht)
      have eb : byC (ts.take (i + 1)) (cs.take (i + 1)) s = it ts[i] (cs[i]'(by omega)) (byC (ts.take i) (cs.take i) s) := by
        rw [List.take_add_one, List.take_add_one, ti, ci]
        exact byC_snoc (by rw [List.length_take, List.length_take]; omega)
      exact ⟨_, rfl, _, rfl, _, rfl, q, ts[i], _, c, cs[i]'(by omega), rfl, sqT_same e2 h2, tr, b0, by rw [tl]; exact b1, per, c8, fun H3 e3 => by rw [eb]; exact ⟨_, _, rfl, e2.trans e3⟩⟩
    · rintro σ' H' ⟨x3, x4, rfl, e⟩
      rw [List.take_of_length_le (by omega), List.take_of_length_le (by omega)]
      exact ⟨_, rfl, k H' e⟩
end
end KT
/-! pairs of deeds; machines that exchange -/
namespace KT
open L2 PySem PySem.Spec PyProof.Rows Kx RZ
/-- pairs of numbers below k -/
structure PairsOf (k : Nat) (prs : List (List Int)) : Prop where
  are : ∀ pr ∈ prs, ∃ a b : Nat, pr = [(a : Int), (b : Int)] ∧ a < k ∧ b < k
  few : prs.length ≤ 16
def Rl (prs : List (List Int)) : Nat → Nat → Prop := fun a b => [(a : Int), (b : Int)] ∈ prs
def LtB (k : Nat) : Nat → Nat → Prop := fun a b => a < b ∧ b < k
/-- all pairs of numbers below k, the less one first -/
structure PairsAll (k : Nat) (prs : List (List Int)) : Prop where
  are : ∀ pr ∈ prs, ∃ a b : Nat, pr = [(a : Int), (b : Int)] ∧ a < b ∧ b < k
  all : ∀ a b : Nat, a < b → b < k → [(a : Int), (b : Int)] ∈ prs
  few : prs.length ≤ 12
theorem PairsAll.pairs {k : Nat} {prs : List (List Int)} (h : PairsAll k prs) : PairsOf k prs := ⟨fun pr hp => by
  obtain ⟨a, b, e, l1, l2⟩ := h.are pr hp
  exact ⟨a, b, e, by omega, l2⟩, Nat.le_trans h.few (by decide)⟩
theorem PairsAll.rl {k : Nat} {prs : List (List Int)} (h : PairsAll k prs) : Rl prs = LtB k := funext fun a => funext fun b => propext ⟨fun m => by
  obtain ⟨a', b', e, l1, l2⟩ := h.are _ m
  have q1 := (List.cons.inj e).1
  have q2 := (List.cons.inj (List.cons.inj e).2).1
  exact ⟨by omega, by omega⟩, fun l => h.all a b l.1 l.2⟩
def spPairs (K : PySem.W.Frag) : Sp := fun vs H Q _ => ∃ k : Nat, vs = [.int (k : Nat)] ∧ k ≤ 4 ∧ ∀ l H' ps prs, Same H H' → H l = none → H' l = some (.lst ps) → RowsBy (SqT K H') ps prs → PairsAll k prs → Q (.ref l) H'
section
variable {P : Program} {w : World} {K : PySem.W.Frag} {mg : Str → Option Value} {base : Heap} {f : Addr} {fd : FuncData} {a : Ad} {C CM : Addr}
theorem sc_pairs : FnScope ["deeds", "one", "other"] ["deeds"] (defScope s_deed_pairs) := ⟨rfl, rfl, rfl, by decide +kernel, rfl, by decide +kernel, by decide +kernel⟩
theorem ok_pairs (F : FnP K "deed_pairs" s_deed_pairs f fd) (T : Mg mg) : FnOk P w K mg base CX0 1 f fd ["deeds"] (spPairs K) := by
  refine F.ok sc_pairs (fun vs H Q E h => ?_) (fun cdv A outer s H vs Q E hr h => ?_)
  · obtain ⟨k, rfl, _⟩ := h
    rfl
  · obtain ⟨k, rfl, k4, q⟩ := h
    refine ⟨_, PSs.nox (pss_one (ps_ret (pe_lc2 (own := [("one", 1), ("other", 2)]) (vs1 := [2]) (by rfl) sc_pairs.nd (pi_range1 (by rfl) T.z_range (pa_cons (pv 0) pa_nil)) (blkOk_by (own := [("one", 1), ("other", 2)]) (N := ["deeds", "one", "other"]) (sc := defScope s_deed_pairs) (by decide +kernel)) (by decide)
      (fun _ _ _ _ _ => (pg_name (i := 1) sc_pairs.nd rfl (by first | exact Or.inl rfl | exact Or.inr rfl))) (fun _ _ _ _ _ => pts_nil)
      (fun _ _ _ _ _ => pi_range2 (by rfl) T.z_range (pa_cons (pe_op op_add (pv 1) pe_int) (pa_cons (pv 0) pa_nil)))
      (fun _ _ _ _ _ => (pg_name (i := 2) sc_pairs.nd rfl (by first | exact Or.inl rfl | exact Or.inr rfl))) (fun _ _ _ _ _ => pts_nil)
      (fun _ _ _ _ _ => pe_tup (pa_cons (pv 1) (pa_cons (pv 2) pa_nil)))))), ?_⟩
    refine ⟨_, rfl, k, rfl, by omega, by omega, fun D0 hD => ?_⟩
    let Pw : Nat → Nat → Hp → Prop := fun i j H' => ∃ ps prs, Same H H' ∧ H' D0 = some (.lst ps) ∧ RowsBy (SqT K H') ps prs ∧ (∀ pr ∈ prs, ∃ a b : Nat, pr = [(a : Int), (b : Int)] ∧ a < b ∧ b < k) ∧ (∀ a b : Nat, a < b → b < k → (a < i ∨ a = i ∧ b < i + 1 + j) → [(a : Int), (b : Int)] ∈ prs) ∧ prs.length ≤ i * 3 + j
    refine turns (n := k) (fun i H' => Pw i 0 H') ⟨[], [], same_new hD, upd_same, trivial, fun _ h => (nomatch h), fun a b ab bk h => by omega, by simp⟩ ?_ ?_
    · intro i H2 hi p2
      refine ⟨hi, ?_⟩
      rintro v H3 ⟨rfl, rfl⟩
      have i0 : (0 : Int) + (i : Int) = (i : Int) := Int.zero_add _
      rw [i0]
      refine ⟨rfl, yes ((if_pos rfl).mpr ?_)⟩
      refine ⟨_, rfl, _, _, rfl, rfl, _, rfl, _, _, rfl, ⟨by omega, by omega, by omega, by omega⟩, ?_⟩
      rw [show (((k : Nat) : Int) - ((i : Int) + 1)).toNat = k - (i + 1) by omega]
      refine turns (n := k - (i + 1)) (fun j H' => Pw i j H') p2 ?_ ?_
      · rintro j H4 hj ⟨ps, prs, e4, h4, rows, are, all, few⟩
        refine ⟨hj, ?_⟩
        rintro v H5 ⟨rfl, rfl⟩
        refine ⟨rfl, yes ((if_pos rfl).mpr ?_)⟩
        refine ⟨_, rfl, _, rfl, (by show 2 ≤ sizeLine; decide), fun t ht => ?_⟩
        have ev : (i : Int) + 1 + (j : Int) = ((i + 1 + j : Nat) : Int) := by omega
        rw [ev]
        have e5 := same_new (o := HO.tup [V.int (i : Nat), V.int ((i + 1 + j : Nat) : Int)]) ht
        have u5 : SqT K (upd H5 t (HO.tup [V.int (i : Nat), V.int ((i + 1 + j : Nat) : Int)])) t ([((i : Nat) : Int), ((i + 1 + j : Nat) : Int)].map V.int) := SqT.of upd_same
        generalize upd H5 t (HO.tup [V.int (i : Nat), V.int ((i + 1 + j : Nat) : Int)]) = H6 at *
        have lp := rows.length
        have nD : H D0 = none := hD
        have up : ∀ {p : Addr} {xs : List V}, SqT K H6 p xs → SqT K (upd H6 D0 (.lst (ps ++ [.ref t]))) p xs := fun h => sqT_lst (e5 _ _ h4) h
        refine ⟨ps, e5 _ _ h4, by rw [sizeLine_eq]; omega, ps ++ [.ref t], prs ++ [[((i : Nat) : Int), ((i + 1 + j : Nat) : Int)]], same_put (e4.trans e5) nD, upd_same, RowsBy.snoc (up u5) (rows.imp fun _ _ z => up (sqT_same e5 z)), fun pr hpr => ?_, fun a b ab bk h => ?_, by rw [List.length_append, List.length_singleton]; omega⟩
        · rcases List.mem_append.mp hpr with h | h
          · exact are pr h
          · exact ⟨i, i + 1 + j, List.mem_singleton.mp h, by omega, by omega⟩
        · by_cases h1 : a = i ∧ b = i + 1 + j
          · obtain ⟨rfl, rfl⟩ := h1
            exact List.mem_append_right _ (List.mem_singleton.mpr rfl)
          · exact List.mem_append_left _ (all a b ab bk (by omega))
      · rintro H4 ⟨ps, prs, e4, h4, rows, are, all, few⟩
        refine ⟨Nat.le_refl _, ps, prs, e4, h4, rows, are, fun a b ab bk h => all a b ab bk (by omega), ?_⟩
        omega
    · rintro H2 ⟨ps, prs, e, h2, rows, are, all, few⟩
      exact ⟨Nat.le_refl _, q D0 H2 ps prs e hD h2 rows ⟨are, fun a b ab bk => all a b ab bk (by omega), by omega⟩⟩
end
end KT
/-! machines that exchange -/
namespace KT
open L2 PySem PySem.Spec PyProof.Rows Kx RZ
/-- unlike states that come lead to unlike ones -/
def Exch (ts : List (List Int)) (s : Int) : Prop := ∀ t ∈ ts, ∀ x y, Rch ts s x → Rch ts s y → tx t x = tx t y → x = y
/-- the least that is forgotten: the deed, two states -/
structure FgAt (ts : List (List Int)) (s : Int) (d : Nat) (x y : Int) : Prop where
  hd : d < ts.length
  rx : Rch ts s x
  ry : Rch ts s y
  lt : x < y
  eq : tx (ts.getD d []) x = tx (ts.getD d []) y
  least : ∀ (e : Nat) (u v : Int), e < ts.length → Rch ts s u → Rch ts s v → u < v → tx (ts.getD e []) u = tx (ts.getD e []) v → d < e ∨ (d = e ∧ (x < u ∨ (x = u ∧ y ≤ v)))
def ThrownF (E : XK) (H : Hp) (C : Addr) (d : Nat) (x y : Int) : Prop := ∀ dd H', Same H H' → H' dd = some (.xd [("other", .int y), ("one", .int x), ("deed", .int (d : Nat))]) → E (.ref C) (some dd) H'
theorem ThrownF.same {E : XK} {H H' : Hp} {C : Addr} {d : Nat} {x y : Int} (e : Same H H') (h : ThrownF E H C d x y) : ThrownF E H' C d x y := fun dd H2 e2 q => h dd H2 (e.trans e2) q
def spForgot (K : PySem.W.Frag) (CM : Addr) : Sp := fun vs H Q _ => ∃ (m : Addr) (n : Nat) (ts : List (List Int)) (s : Int), vs = [.ref m, .int s] ∧ McAt K CM H m n ts ∧ 0 ≤ s ∧ s < (n : Int) ∧ (Exch ts s → ∀ H', Same H H' → Q .non H') ∧ ∀ d x y p H', FgAt ts s d x y → Same H H' → SqT K H' p [.int (d : Nat), .int x, .int y] → Q (.ref p) H'
def spExch (K : PySem.W.Frag) (a : Ad) (CM : Addr) : Sp := fun vs H Q E => ∃ (m : Addr) (n : Nat) (ts : List (List Int)) (s : Int), vs = [.ref m, .int s] ∧ McAt K CM H m n ts ∧ 0 ≤ s ∧ s < (n : Int) ∧ (Exch ts s → ∀ H', Same H H' → Q (.ref m) H') ∧ ∀ d x y, FgAt ts s d x y → ThrownF E H a.cO d x y
/-- nothing is forgotten ahead of deed i, of state u by it, of v behind u -/
def NoFg (ts : List (List Int)) (L : List Int) (i j k : Nat) : Prop := ∀ (e p q : Nat) (u v : Int), e < ts.length → L[p]? = some u → L[q]? = some v → u < v → tx (ts.getD e []) u = tx (ts.getD e []) v → i < e ∨ (i = e ∧ (j < p ∨ (j = p ∧ k ≤ q)))
theorem NoFg.exch {ts : List (List Int)} {L : List Int} {s : Int} {i j k : Nat} (h : NoFg ts L i j k) (hi : ts.length ≤ i) (mem : ∀ x, x ∈ L ↔ Rch ts s x) : Exch ts s := fun t ht x y rx ry e => by
  obtain ⟨d, hd⟩ := List.mem_iff_getElem?.mp ht
  have ld := (List.getElem?_eq_some_iff.mp hd).1
  have gd : ts.getD d [] = t := by rw [List.getD_eq_getElem?_getD, hd]; rfl
  obtain ⟨p, hp⟩ := List.mem_iff_getElem?.mp ((mem x).mpr rx)
  obtain ⟨q, hq⟩ := List.mem_iff_getElem?.mp ((mem y).mpr ry)
  rcases Int.lt_trichotomy x y with l | l | l
  · have := h d p q x y ld hp hq l (by rw [gd]; exact e)
    omega
  · exact l
  · have := h d q p y x ld hq hp l (by rw [gd]; exact e.symm)
    omega
theorem NoFg.at_ {ts : List (List Int)} {L : List Int} {s : Int} {i j k : Nat} {x y : Int} (h : NoFg ts L i j k) (hi : i < ts.length) (srt : L.Pairwise (· < ·)) (mem : ∀ x, x ∈ L ↔ Rch ts s x) (hx : L[j]? = some x) (hy : L[k]? = some y) (lt : x < y) (eq : tx (ts.getD i []) x = tx (ts.getD i []) y) : FgAt ts s i x y := by
  have mono : ∀ {p q : Nat} {u v : Int}, L[p]? = some u → L[q]? = some v → p < q → u < v := fun {p q u v} hp hq l => by
    have := List.pairwise_iff_getElem.mp srt p q (List.getElem?_eq_some_iff.mp hp).1 (List.getElem?_eq_some_iff.mp hq).1 l
    rwa [(List.getElem?_eq_some_iff.mp hp).2, (List.getElem?_eq_some_iff.mp hq).2] at this
  refine ⟨hi, (mem x).mp (List.mem_of_getElem? hx), (mem y).mp (List.mem_of_getElem? hy), lt, eq, fun e u v he ru rv l q => ?_⟩
  obtain ⟨p, hp⟩ := List.mem_iff_getElem?.mp ((mem u).mpr ru)
  obtain ⟨r, hr⟩ := List.mem_iff_getElem?.mp ((mem v).mpr rv)
  rcases h e p r u v he hp hr l q with z | ⟨z, z2⟩
  · exact .inl z
  · refine .inr ⟨z, ?_⟩
    rcases z2 with z2 | ⟨z2, z3⟩
    · exact .inl (mono hx hp z2)
    · subst z2
      rw [hx] at hp
      cases hp
      refine .inr ⟨rfl, ?_⟩
      rcases Nat.lt_or_eq_of_le z3 with z3 | z3
      · have := mono hy hr z3
        omega
      · subst z3
        rw [hy] at hr
        cases hr
        exact Int.le_refl _
theorem isBel_yes {n : Nat} {s : Int} (h0 : 0 ≤ s) (h1 : s < (n : Int)) : isBel n (.int s) = true := isBel_iff.mpr ⟨h0, h1⟩
theorem bel_ne {n : Nat} {s : Int} (h0 : 0 ≤ s) (h1 : s < (n : Int)) {p : Prop} (z : isBel n (.int s) = false) : p := by
  rw [isBel_yes h0 h1] at z
  cases z
section
variable {P : Program} {w : World} {K : PySem.W.Frag} {mg : Str → Option Value} {base : Heap} {f : Addr} {fd : FuncData} {a : Ad} {C CM : Addr}
theorem Mok.inr {n : Nat} {ts : List (List Int)} (ok : Mok n ts) {t : List Int} (h : t ∈ ts) : t.length = n ∧ InR t := ⟨ok.len t h, fun y hy => by rw [ok.len t h]; exact ok.ent t h y hy⟩
theorem sc_forgotten : FnScope ["machine", "first", "come", "deed", "table", "one", "other"] ["machine", "first"] (defScope s_forgotten) := ⟨rfl, rfl, rfl, by decide +kernel, rfl, by decide +kernel, by decide +kernel⟩
theorem ok_forgotten (F : FnP K "forgotten" s_forgotten f fd) (T : Mg mg) (TM : ClsM K mg CM) (c_reached : Cal P w K mg base (L2N.CX P w) 6 "reached" ["machine", "first"] (spReached K a CM)) : FnOk P w K mg base (L2N.CX P w) 7 f fd ["machine", "first"] (spForgot K CM) := by
  refine F.ok sc_forgotten (fun vs H Q E h => ?_) (fun cdv A outer s H vs Q E hr h => ?_)
  · obtain ⟨m, n, ts, s, rfl, _⟩ := h
    rfl
  · obtain ⟨m, n, ts, s0, rfl, hm, z0, z1, good, bad⟩ := h
    refine ⟨_, (pss_cons (ps_set (i := 2) sc_forgotten.nd rfl (by first | exact Or.inl rfl | exact Or.inr rfl) (pe_callC c_reached hr (L2N.passes_call (L2N.takes_of rfl rfl rfl rfl) (fun _ _ _ _ z => z)) (pa_cons (pv 0) (pa_cons (pv 1) pa_nil))))
      (PSs.nox (pss_cons (ps_for PassesOwn.never rfl (pi_pairs (by rfl) T.z_enumerate (pa_cons (pe_fld (pv 0) rfl) pa_nil)) (pg_tup rfl (pgs_cons (pg_name (i := 3) sc_forgotten.nd rfl (by first | exact Or.inl rfl | exact Or.inr rfl)) (pgs_cons (pg_name (i := 4) sc_forgotten.nd rfl (by first | exact Or.inl rfl | exact Or.inr rfl)) pgs_nil)))
        (pss_one (ps_for PassesOwn.never rfl (pi_tup (pv 2)) (pg_name (i := 5) sc_forgotten.nd rfl (by first | exact Or.inl rfl | exact Or.inr rfl))
          (pss_one (ps_for PassesOwn.never rfl (pi_tup (pv 2)) (pg_name (i := 6) sc_forgotten.nd rfl (by first | exact Or.inl rfl | exact Or.inr rfl))
            (pss_one (ps_if (PW.pt (pw_and (pt_cmpR op_lt (pv 5) (pv 6) (nomark _)) (pw_and1 (pt_cmpR op_eq (pe_ix ix_tup (pv 4) (pv 5) (fun _ _ => rfl)) (pe_ix ix_tup (pv 4) (pv 6) (fun _ _ => rfl)) (nomark _)))))
              (pss_one (ps_ret (pe_tup (pa_cons (pv 3) (pa_cons (pv 5) (pa_cons (pv 6) pa_nil))))))
              pss_nil)))))))
      (pss_one (ps_ret pe_non))))), ?_⟩
    obtain ⟨ok, dx, t, ps, h1, ht, rows⟩ := id hm
    have lps := rows.length
    refine ⟨_, rfl, _, rfl, m, n, ts, .int s0, rfl, hm, .int s0, fun z => bel_ne z0 z1 z, fun _ => ⟨s0, rfl, fun p L H1 e1 srt mem hp => ?_⟩⟩
    refine ⟨_, rfl, m, CM, dx, _, _, rfl, e1 _ _ h1, TM.cl, TM.n3, rfl, t, ps, rfl, for_pairs (.inr (sqT_same e1 ht)) (fun i σ' H' => Same H H' ∧ Same H1 H' ∧ NoFg ts L i 0 0 ∧ ∃ x3 x4 x5 x6, σ' = [some (.ref m), some (.int s0), some (.ref p), x3, x4, x5, x6]) ⟨e1, .refl _, (fun e p q u v _ _ _ _ _ => by omega), _, _, _, _, rfl⟩ (fun i σ' H' q => q.2.1) ?_ ?_⟩
    · rintro i y c σ' H' hy ⟨e, ep, nf, x3, x4, x5, x6, rfl⟩ hc
      have hi : i < ts.length := by rw [← lps]; exact (List.getElem?_eq_some_iff.mp hy).1
      have ti : ts[i]? = some ts[i] := List.getElem?_eq_getElem hi
      have gi : ts.getD i [] = ts[i] := by rw [List.getD_eq_getElem?_getD, ti]; rfl
      have mt := List.getElem_mem hi
      obtain ⟨qa, r1, r2⟩ := rows.at_ ti
      rw [hy] at r1
      cases r1
      obtain ⟨tl, tr⟩ := Mok.inr ok mt
      refine ⟨c, _, rfl, SqT.of upd_same, rfl, ?_⟩
      refine ⟨_, _, rfl, _, _, rfl, rfl, ?_⟩
      have e2 := e.trans (same_new (o := HO.tup [.int (i : Int), .ref qa]) hc)
      have ep2 := ep.trans (same_new (o := HO.tup [.int (i : Int), .ref qa]) hc)
      have hp2 := sqT_same ep2 hp
      have hq2 := sqT_same e2 r2
      generalize upd H' c (.tup [.int (i : Int), .ref qa]) = G at e2 ep2 hp2 hq2 ⊢
      have num : ∀ {k : Nat} {z : V}, (L.map V.int)[k]? = some z → ∃ x, z = .int x ∧ L[k]? = some x ∧ atI (ts[i].map V.int) x = some (.int (tx ts[i] x)) := fun {k z} hz => by
        rw [List.getElem?_map, Option.map_eq_some_iff] at hz
        obtain ⟨x, h1, h2⟩ := hz
        have rx := (mem x).mp (List.mem_of_getElem? h1)
        obtain ⟨x0, x1⟩ := ok.rch z0 z1 rx
        exact ⟨x, h2.symm, h1, at_int x0 (tr.at_ x0 (by rw [tl]; exact x1)).1⟩
      refine ⟨_, rfl, p, rfl, ⟨_, hp2⟩, for_tup (xs := L.map V.int) (fun j σ2 H2 => G = H2 ∧ NoFg ts L i j 0 ∧ ∃ x5 x6, σ2 = [some (.ref m), some (.int s0), some (.ref p), some (.int (i : Int)), some (.ref qa), x5, x6]) ⟨rfl, nf, _, _, rfl⟩ (fun j σ2 H2 _ q => q.1 ▸ hp2) ?_ ?_⟩
      · rintro j z σ2 H2 hz ⟨rfl, nf2, x5, x6, rfl⟩
        obtain ⟨x, rfl, lx, ax⟩ := num hz
        refine ⟨_, rfl, p, rfl, ⟨_, hp2⟩, for_tup (xs := L.map V.int) (fun k σ3 H3 => G = H3 ∧ NoFg ts L i j k ∧ ∃ x6, σ3 = [some (.ref m), some (.int s0), some (.ref p), some (.int (i : Int)), some (.ref qa), some (.int x), x6]) ⟨rfl, nf2, _, rfl⟩ (fun j σ2 H2 _ q => q.1 ▸ hp2) ?_ ?_⟩
        · rintro k u σ3 H3 hu ⟨rfl, nf3, x6, rfl⟩
          obtain ⟨y, rfl, ly, ay⟩ := num hu
          have on : (x < y → tx ts[i] x = tx ts[i] y → False) → NoFg ts L i j (k + 1) := fun no e p q u v he hp hq l eq => by
            rcases nf3 e p q u v he hp hq l eq with z | ⟨z, z2⟩
            · exact .inl z
            · refine .inr ⟨z, ?_⟩
              rcases z2 with z2 | ⟨z2, z3⟩
              · exact .inl z2
              · refine .inr ⟨z2, ?_⟩
                rcases Nat.lt_or_eq_of_le z3 with z3 | z3
                · exact z3
                · subst z z2 z3
                  rw [lx] at hp
                  rw [ly] at hq
                  cases hp
                  cases hq
                  rw [gi] at eq
                  exact (no l eq).elim
          refine ⟨_, rfl, _, rfl, _, _, rfl, rfl, _, rfl, ite2 (fun lt => ?_) (fun nl => ⟨rfl, on fun l _ => nl (decide_eq_true l), _, rfl⟩)⟩
          refine ⟨_, rfl, _, rfl, qa, _, _, _, rfl, rfl, hq2, ax, _, rfl, _, rfl, qa, _, _, _, rfl, rfl, hq2, ay, rfl, _, rfl, ite2 (fun z => ?_) (fun z => ⟨rfl, on fun _ eq => z (by rw [eq]; simp), _, rfl⟩)⟩
          have exy : tx ts[i] x = tx ts[i] y := by simpa using z
          have lt := of_decide_eq_true lt
          refine ⟨_, rfl, _, rfl, _, rfl, (by show 3 ≤ sizeLine; decide), fun q hq => bad i x y q _ (nf3.at_ hi srt mem lx ly lt (by rw [gi]; exact exy)) (e2.trans (same_new hq)) (SqT.of upd_same)⟩
        · rintro σ3 H3 ⟨rfl, nf3, x6, rfl⟩
          refine ⟨rfl, fun e p q u v he hp hq l eq => ?_, _, _, rfl⟩
          have lq := (List.getElem?_eq_some_iff.mp hq).1
          rw [List.length_map] at nf3
          have := nf3 e p q u v he hp hq l eq
          omega
      · rintro σ2 H2 ⟨rfl, nf2, x5, x6, rfl⟩
        refine ⟨e2, ep2, fun e p q u v he hp hq l eq => ?_, _, _, _, _, rfl⟩
        have lp := (List.getElem?_eq_some_iff.mp hp).1
        rw [List.length_map] at nf2
        have := nf2 e p q u v he hp hq l eq
        omega
    · rintro σ' H' ⟨e, ep, nf, x3, x4, x5, x6, rfl⟩
      rw [lps] at nf
      exact good (nf.exch (Nat.le_refl _) mem) H' e
theorem sc_exch : FnScope ["machine", "first", "found", "deed", "one", "other"] ["machine", "first"] (defScope s_need_exchanges) := ⟨rfl, rfl, rfl, by decide +kernel, rfl, by decide +kernel, by decide +kernel⟩
theorem ok_exch (F : FnP K "need_exchanges" s_need_exchanges f fd) (T : Mg mg) (R : Er P w K mg base a) (c_forgotten : Cal P w K mg base (L2N.CX P w) 7 "forgotten" ["machine", "first"] (spForgot K CM)) : FnOk P w K mg base (L2N.CX P w) 8 f fd ["machine", "first"] (spExch K a CM) := by
  refine F.ok sc_exch (fun vs H Q E h => ?_) (fun cdv A outer s H vs Q E hr h => ?_)
  · obtain ⟨m, n, ts, s, rfl, _⟩ := h
    rfl
  · obtain ⟨m, n, ts, s0, rfl, hm, z0, z1, good, bad⟩ := h
    refine ⟨_, (pss_cons (ps_set (i := 2) sc_exch.nd rfl (by first | exact Or.inl rfl | exact Or.inr rfl) (pe_callC c_forgotten hr (L2N.passes_call (E := E) (L2N.takes_of rfl rfl rfl rfl) (fun _ _ _ _ z => z)) (pa_cons (pv 0) (pa_cons (pv 1) pa_nil))))
      (pss_cons (ps_if (pt_cmpR op_notN (pv 2) pe_non (nomark _))
        (pss_cons (ps_asg (pv 2) (pg_tup rfl (pgs_cons (pg_name (i := 3) sc_exch.nd rfl (by first | exact Or.inl rfl | exact Or.inr rfl)) (pgs_cons (pg_name (i := 4) sc_exch.nd rfl (by first | exact Or.inl rfl | exact Or.inr rfl)) (pgs_cons (pg_name (i := 5) sc_exch.nd rfl (by first | exact Or.inl rfl | exact Or.inr rfl)) pgs_nil)))))
        (pss_one (psF R.Forgets rfl hr (L2N.takes_of rfl rfl rfl rfl) (pa_cons (pv 3) (pa_cons (pv 4) (pa_cons (pv 5) pa_nil))))))
        pss_nil)
      (pss_one (ps_ret (pv 0))))), ?_⟩
    refine ⟨_, rfl, _, rfl, m, n, ts, s0, rfl, hm, z0, z1, fun ex H1 e1 => ?_, fun d x y p H1 fg e1 hp => ?_⟩
    · exact ⟨_, rfl, rfl, false, rfl, iteF ⟨_, rfl, good ex H1 e1⟩⟩
    · refine ⟨_, rfl, rfl, true, rfl, iteT ?_⟩
      refine ⟨_, rfl, p, _, rfl, hp, rfl, _, _, rfl, _, _, rfl, _, _, rfl, rfl, ?_⟩
      exact ⟨_, rfl, _, rfl, _, rfl, thrown3 fun dd hdd => bad d x y fg dd _ (e1.trans (same_new hdd)) upd_same⟩
end
end KT
/-! dicts of numbers by numbers -/
namespace KT
open L2 PySem PySem.Spec PyProof.Rows Kx RZ
def dict (M : List Int) (g : Int → Int) : List (Key × V) := M.map fun x => (Sum.inl x, V.int (g x))
theorem dict_len {M : List Int} {g : Int → Int} : (dict M g).length = M.length := by unfold dict; rw [List.length_map]
theorem dict_congr {M : List Int} {g g' : Int → Int} (h : ∀ x ∈ M, g x = g' x) : dict M g = dict M g' := List.map_congr_left fun x hx => by rw [h x hx]
theorem valV_dict {g : Int → Int} {y : Int} : ∀ {M : List Int}, valV (dict M g) (.inl y) = if y ∈ M then some (.int (g y)) else none
  | [] => rfl
  | x :: M => by
    show valV ((Sum.inl x, V.int (g x)) :: dict M g) (.inl y) = _
    by_cases h : x = y
    · subst h
      rw [valV_pos (p := ((Sum.inl x : Key), V.int (g x))) rfl, if_pos (List.mem_cons_self ..)]
    · rw [valV_neg (p := ((Sum.inl x : Key), V.int (g x))) (fun z => h (Sum.inl.inj z)), valV_dict]
      by_cases m : y ∈ M
      · rw [if_pos m, if_pos (List.mem_cons_of_mem _ m)]
      · rw [if_neg m, if_neg fun z => (List.mem_cons.mp z).elim (fun e => h e.symm) m]
theorem any_dict {M : List Int} {g : Int → Int} {y : Int} : ((dict M g).any fun kv => decide (kv.1 = Sum.inl y)) = decide (y ∈ M) := by
  rw [valV_any, valV_dict]
  by_cases m : y ∈ M
  · rw [if_pos m, decide_eq_true m]
    rfl
  · rw [if_neg m, decide_eq_false m]
    rfl
theorem putK_old {M : List Int} {g : Int → Int} {y v : Int} (h : y ∈ M) : putK (dict M g) (.inl y) (.int v) = dict M fun x => if x = y then v else g x := by
  unfold putK
  rw [any_dict, decide_eq_true h, if_pos rfl]
  unfold dict
  rw [List.map_map]
  refine List.map_congr_left fun x _ => ?_
  show (if (Sum.inl x : Key) = Sum.inl y then ((Sum.inl x : Key), V.int v) else (Sum.inl x, V.int (g x))) = (Sum.inl x, V.int (if x = y then v else g x))
  by_cases e : x = y
  · rw [if_pos (congrArg _ e), if_pos e]
  · rw [if_neg (fun z => e (Sum.inl.inj z)), if_neg e]
theorem putK_more {M : List Int} {g : Int → Int} {y v : Int} (h : y ∉ M) : putK (dict M g) (.inl y) (.int v) = dict (M ++ [y]) fun x => if x = y then v else g x := by
  rw [putK_new _ (by rw [valV_dict, if_neg h])]
  unfold dict
  rw [List.map_append, List.map_singleton]
  show _ = _ ++ [((Sum.inl y : Key), V.int (if y = y then v else g y))]
  rw [if_pos rfl]
  congr 1
  refine List.map_congr_left fun x hx => ?_
  show _ = ((Sum.inl x : Key), V.int (if x = y then v else g x))
  rw [if_neg (show ¬ x = y from fun z => h (z ▸ hx))]
/-- the same number is put once more, or a new one -/
theorem putK_same {M : List Int} {g : Int → Int} {y : Int} : putK (dict M g) (.inl y) (.int (g y)) = dict (if y ∈ M then M else M ++ [y]) g := by
  by_cases m : y ∈ M
  · rw [if_pos m, putK_old m]
    exact dict_congr fun x _ => by
      by_cases e : x = y
      · rw [if_pos e, e]
      · rw [if_neg e]
  · rw [if_neg m, putK_more m]
    exact dict_congr fun x _ => by
      by_cases e : x = y
      · rw [if_pos e, e]
      · rw [if_neg e]
/-- a loop over enumerate of a list or a tuple that stays -/
theorem for_pairsS {K : PySem.W.Frag} {a : Addr} {xs : List V} {g : TG} {tb : TS} {D : Ends} {σ : L2.St} {H : Hp} (hx : Sq K H a xs) (Pv : Nat → L2.St → Hp → Prop) (h0 : Pv 0 σ H) (sl : SqL K H a xs → ∀ i σ' H', Pv i σ' H' → SqL K H' a xs) (st : SqT K H a xs → ∀ i σ' H', Pv i σ' H' → SqT K H' a xs)
    (turn : ∀ (i : Nat) (x : V) (p : Addr) σ' H', xs[i]? = some x → Pv i σ' H' → H' p = none → g (.ref p) σ' (upd H' p (.tup [.int (i : Int), x])) fun σ2 H2 => tb { D with nx := Pv (i + 1), ct := Pv (i + 1), bk := D.nx } σ2 H2)
    (fin : ∀ σ' H', Pv xs.length σ' H' → D.nx σ' H') : (SqL K H a xs ∧ forR g tb D σ (Ite K a) H) ∨ (SqT K H a xs ∧ forR g tb D σ (ItPair K a) H) := by
  refine hx.imp (fun q => ⟨q, for_by (n := xs.length) Pv h0 ?_ ?_⟩) fun q => ⟨q, for_by (n := xs.length) Pv h0 ?_ ?_⟩
  · intro i σ' H' lt pv
    have q' := sl q i σ' H' pv
    refine ⟨⟨xs, xs[i], q', List.getElem?_eq_getElem lt⟩, ?_⟩
    rintro v H2 ⟨pr, x, rfl, hn, rfl, hx⟩
    exact turn i x pr σ' H' (hx xs q') pv hn
  · exact fun σ' H' pv => ⟨⟨xs, sl q _ σ' H' pv, Nat.le_refl _⟩, fin σ' H' pv⟩
  · intro i σ' H' lt pv
    have q' := st q i σ' H' pv
    refine ⟨⟨xs, xs[i], q', List.getElem?_eq_getElem lt⟩, ?_⟩
    rintro v H2 ⟨pr, x, rfl, hn, rfl, hx⟩
    exact turn i x pr σ' H' (hx xs q') pv hn
  · exact fun σ' H' pv => ⟨⟨xs, st q _ σ' H' pv, Nat.le_refl _⟩, fin σ' H' pv⟩
theorem for_pairsT {K : PySem.W.Frag} {a : Addr} {xs : List V} {g : TG} {tb : TS} {D : Ends} {σ : L2.St} {H : Hp} (q : SqT K H a xs) (Pv : Nat → L2.St → Hp → Prop) (h0 : Pv 0 σ H) (st : ∀ i σ' H', Pv i σ' H' → SqT K H' a xs)
    (turn : ∀ (i : Nat) (x : V) (p : Addr) σ' H', xs[i]? = some x → Pv i σ' H' → H' p = none → g (.ref p) σ' (upd H' p (.tup [.int (i : Int), x])) fun σ2 H2 => tb { D with nx := Pv (i + 1), ct := Pv (i + 1), bk := D.nx } σ2 H2)
    (fin : ∀ σ' H', Pv xs.length σ' H' → D.nx σ' H') : SqT K H a xs ∧ forR g tb D σ (ItPair K a) H := by
  refine ⟨q, for_by (n := xs.length) Pv h0 ?_ ?_⟩
  · intro i σ' H' lt pv
    have q' := st i σ' H' pv
    refine ⟨⟨xs, xs[i], q', List.getElem?_eq_getElem lt⟩, ?_⟩
    rintro v H2 ⟨pr, x, rfl, hn, rfl, hx⟩
    exact turn i x pr σ' H' (hx xs q') pv hn
  · exact fun σ' H' pv => ⟨⟨xs, st _ σ' H' pv, Nat.le_refl _⟩, fin σ' H' pv⟩
end KT
/-! where all places are moved -/
namespace KT
open L2 PySem PySem.Spec PyProof.Rows Kx RZ
def spAllMoved (K : PySem.W.Frag) : Sp := fun vs H Q _ => ∃ (q p : Addr) (t L : List Int) (m n : Nat), vs = [.ref q, .ref p, .int (m : Nat)] ∧ SqT K H q (t.map V.int) ∧ SqT K H p (L.map V.int) ∧ Wrl n [t] L ∧
  ∀ l H' ps prs, Same H H' → H l = none → H' l = some (.lst ps) → RowsBy (SqT K H') ps prs → (∀ pr ∈ prs, ∃ x ∈ L, pr = [x, it t m x]) → (∀ x ∈ L, [x, it t m x] ∈ prs) → prs.length ≤ 8 → Q (.ref l) H'
section
variable {P : Program} {w : World} {K : PySem.W.Frag} {mg : Str → Option Value} {base : Heap} {f : Addr} {fd : FuncData} {a : Ad} {C CM : Addr}
theorem paired_rows {H' : Hp} {g : Int → Int} : ∀ {ts : List Addr} {M : List Int}, Paired (fun (t : Addr) (q : Key × V) => H' t = some (.tup [kV q.1, q.2])) ts (dict M g) → RowsBy (SqT K H') (ts.map V.ref) (M.map fun x => [x, g x])
  | [], [], _ => trivial
  | t :: ts, x :: M, h => by
    cases h with
    | cons h1 h2 => exact ⟨⟨t, rfl, SqT.of h1⟩, paired_rows h2⟩
  | [], _ :: _, h => nomatch h
  | _ :: _, [], h => nomatch h
theorem r1 {k : Nat} {X : Cx} (r : Room k X.A) : X.A.units + 1 < cLine := by have := r.un; omega
theorem sc_all_moved : FnScope ["table", "places", "many", "later", "place", "found", "at", "one"] ["table", "places", "many"] (defScope s_all_moved) := ⟨rfl, rfl, rfl, by decide +kernel, rfl, by decide +kernel, by decide +kernel⟩
theorem ok_all_moved (F : FnP K "_all_moved" s_all_moved f fd) (T : Mg mg) (c_circle : Cal P w K mg base CX0 1 "circle" ["table", "place"] (spCircle K)) : FnOk P w K mg base CX0 2 f fd ["table", "places", "many"] (spAllMoved K) := by
  refine F.ok sc_all_moved (fun vs H Q E h => ?_) (fun cdv A outer s H vs Q E hr h => ?_)
  · obtain ⟨q, p, t, L, m, n, rfl, _⟩ := h
    rfl
  · obtain ⟨q, p, t, L, m, n, rfl, hq, hp, wl, k⟩ := h
    refine ⟨_, PSs.nox (pss_cons (ps_set (i := 3) sc_all_moved.nd rfl (by first | exact Or.inl rfl | exact Or.inr rfl) pe_dnewK)
      (pss_cons (ps_for PassesOwn.never rfl (pi_tup (pv 1)) (pg_name (i := 4) sc_all_moved.nd rfl (by first | exact Or.inl rfl | exact Or.inr rfl))
        (pss_one (ps_if (pt_cmp (pc_dnotin (r1 hr) (pv 4) (pv 3)))
          (pss_cons (ps_set (i := 5) sc_all_moved.nd rfl (by first | exact Or.inl rfl | exact Or.inr rfl) (pe_callC c_circle hr pass0 (pa_cons (pv 0) (pa_cons (pv 4) pa_nil))))
          (pss_one (ps_for PassesOwn.never rfl (pi_pairs (by rfl) T.z_enumerate (pa_cons (pv 5) pa_nil)) (pg_tup rfl (pgs_cons (pg_name (i := 6) sc_all_moved.nd rfl (by first | exact Or.inl rfl | exact Or.inr rfl)) (pgs_cons (pg_name (i := 7) sc_all_moved.nd rfl (by first | exact Or.inl rfl | exact Or.inr rfl)) pgs_nil)))
            (pss_one (ps_dput (r1 hr) (pv 3) (pv 7) (pe_ix ix_list (pv 5) (pe_op op_mod (pe_op op_add (pv 6) (pv 2)) (pe_callB call_len_seq (by rfl) T.z_len PySem.boot_len (pa_cons (pv 5) pa_nil))) (fun _ _ => rfl)) rfl)))))
          pss_nil)))
      (pss_one (ps_ret (LiI.pe_listItems (by rfl) (pv 3) (by rfl) T.z_list bt_list))))), ?_⟩
    obtain ⟨tl, tr, te⟩ := wl.tab t (List.mem_singleton.mpr rfl)
    have few := wl.few
    have n8 := wl.n8
    refine fun D0 hD => ?_
    let g : Int → Int := it t m
    have up : ∀ {H1 H2 : Hp} {o : HO}, Same H H1 → H D0 = none → (H2 = upd H1 D0 o) → Same H H2 := fun e n z => by rw [z]; exact same_put e n
    refine ⟨_, rfl, p, rfl, ⟨_, sqT_same (same_new hD) hp⟩, ?_⟩
    refine for_tup (xs := L.map V.int) (fun i σ' H' => ∃ (M : List Int) (x4 x5 x6 x7 : Option V), σ' = [some (.ref q), some (.ref p), some (.int (m : Nat)), some (.ref D0), x4, x5, x6, x7] ∧ Same H H' ∧ H' D0 = some (.dK (dict M g)) ∧ M.Nodup ∧ (∀ x ∈ M, x ∈ L) ∧ ∀ x ∈ L.take i, x ∈ M) ⟨[], _, _, _, _, rfl, same_new hD, upd_same, .nil, (fun _ h => nomatch h), (fun _ h => nomatch h)⟩ (fun i σ' H' _ z => by
      obtain ⟨_, _, _, _, _, _, e, _⟩ := z
      exact sqT_same e hp) ?_ ?_
    · rintro i y σ' H' hy ⟨M, x4, x5, x6, x7, rfl, e, hM, nd, sub, all⟩
      obtain ⟨x, hx, rfl⟩ : ∃ x, L[i]? = some x ∧ y = .int x := by
        rw [List.getElem?_map, Option.map_eq_some_iff] at hy
        obtain ⟨z, h1, h2⟩ := hy
        exact ⟨z, h1, h2.symm⟩
      have xL := List.mem_of_getElem? hx
      have tk : L.take (i + 1) = L.take i ++ [x] := by rw [List.take_add_one, hx]; rfl
      obtain ⟨c, c8, cL, per⟩ := wl.per (List.mem_singleton.mpr rfl) xL
      obtain ⟨x0, x1⟩ := wl.rng x xL
      refine ⟨_, rfl, _, rfl, D0, _, rfl, DGet.k (k := .inl x) hM, ?_⟩
      rw [valV_dict]
      by_cases m0 : x ∈ M
      · rw [if_pos m0]
        refine ⟨_, rfl, iteF ⟨M, _, _, _, _, rfl, e, hM, nd, sub, fun z hz => ?_⟩⟩
        rw [tk] at hz
        rcases List.mem_append.mp hz with h | h
        · exact all z h
        · rw [List.mem_singleton.mp h]; exact m0
      · rw [if_neg m0]
        refine ⟨_, rfl, iteT ?_⟩
        refine ⟨_, rfl, _, rfl, q, t, x, c, rfl, sqT_same e hq, tr, x0, by rw [tl]; exact x1, per, c8, fun l H1 e1 nl hl => ?_⟩
        have lD : l ≠ D0 := fun z => by rw [z, hM] at nl; cases nl
        refine ⟨_, rfl, l, (orb t x c).map V.int, rfl, ?_⟩
        refine for_pairsS (xs := (orb t x c).map V.int) (.inl (SqL.of hl)) (fun j σ2 H2 => ∃ (M2 : List Int) (x6 x7 : Option V), σ2 = [some (.ref q), some (.ref p), some (.int (m : Nat)), some (.ref D0), some (.int x), some (.ref l), x6, x7] ∧ Same H H2 ∧ H2 D0 = some (.dK (dict M2 g)) ∧ H2 l = some (.lst ((orb t x c).map V.int)) ∧ M2.Nodup ∧ (∀ x ∈ M2, x ∈ L) ∧ (∀ x ∈ M, x ∈ M2) ∧ ∀ k, k < j → it t k x ∈ M2) ⟨M, _, _, rfl, e.trans e1, e1 _ _ hM, hl, nd, sub, fun _ h => h, fun _ h => absurd h (Nat.not_lt_zero _)⟩
          (fun _ j σ2 H2 z => by obtain ⟨_, _, _, _, _, _, h, _⟩ := z; exact SqL.of h) (fun h j σ2 H2 _ => by
            rcases h with (h | ⟨o, h⟩) | h
            · rw [hl] at h; cases h
            · rw [hl] at h; cases h
            · exact .inr h) ?_ ?_
        · rintro j y p2 σ2 H2 hy ⟨M2, x6, x7, rfl, e2, hM2, hl2, nd2, sub2, old2, all2⟩ hp2
          have hj : j < c := by
            have := (List.getElem?_eq_some_iff.mp hy).1
            rwa [List.length_map, orb_len] at this
          obtain rfl : y = .int (it t j x) := by
            rw [List.getElem?_map, orb_at hj] at hy
            exact (Option.some.inj hy).symm
          refine ⟨p2, _, rfl, SqT.of upd_same, rfl, ?_⟩
          refine ⟨_, _, rfl, _, _, rfl, rfl, ?_⟩
          have e3 := same_new (o := HO.tup [V.int (j : Nat), V.int (it t j x)]) hp2
          have e23 := e2.trans e3
          have hM3 := e3 _ _ hM2
          have hl3 := e3 _ _ hl2
          generalize upd H2 p2 (HO.tup [V.int (j : Nat), V.int (it t j x)]) = H3 at *
          have em : (((j : Nat) : Int) + ((m : Nat) : Int)) % ((c : Nat) : Int) = (((j + m) % c : Nat) : Int) := rfl
          refine ⟨_, rfl, _, rfl, _, rfl, _, _, rfl, rfl, _, rfl, l, _, rfl, .inl (SqL.of hl3), ?_⟩
          rw [List.length_map, orb_len]
          refine ⟨_, _, rfl, rfl, (by have := per.c1; show (0 : Int) < ((c : Nat) : Int); omega), l, _, _, _, rfl, rfl, SqL.of hl3, atI_nat (j := (j + m) % c) (by rw [List.getElem?_map, orb_at (Nat.mod_lt _ (by omega))]; rfl), ?_⟩
          rw [← it_mod per.back, it_add]
          have yL : it t j x ∈ L := te.it_in xL j
          have lM : M2.length ≤ 8 := by
            have := nodup_le nd2 sub2
            omega
          refine ⟨_, rfl, _, rfl, D0, _, rfl, DPut.k (k := .inl (it t j x)) hM3 (by rw [dict_len, sizeLine_eq]; omega), ?_⟩
          rw [show putK (dict M2 g) (.inl (it t j x)) (.int (it t m (it t j x))) = _ from putK_same (g := g)]
          refine ⟨if it t j x ∈ M2 then M2 else M2 ++ [it t j x], _, _, rfl, same_put e23 hD, upd_same, by rw [upd_ne lD]; exact hl3, ?_, fun z hz => ?_, fun z hz => ?_, fun k' hk => ?_⟩
          · split
            · exact nd2
            · rename_i no
              exact List.nodup_append.mpr ⟨nd2, by simp, fun a ha b hb e => no (by rw [← List.mem_singleton.mp hb, ← e]; exact ha)⟩
          · split at hz
            · exact sub2 z hz
            · rcases List.mem_append.mp hz with h | h
              · exact sub2 z h
              · rw [List.mem_singleton.mp h]; exact yL
          · have := old2 z hz
            split
            · exact this
            · exact List.mem_append_left _ this
          · by_cases kj : k' = j
            · rw [kj]
              split
              · assumption
              · exact List.mem_append_right _ (List.mem_singleton.mpr rfl)
            · have := all2 k' (by omega)
              split
              · exact this
              · exact List.mem_append_left _ this
        · rintro σ2 H2 ⟨M2, x6, x7, rfl, e2, hM2, hl2, nd2, sub2, old2, all2⟩
          rw [List.length_map, orb_len] at all2
          refine ⟨M2, _, _, _, _, rfl, e2, hM2, nd2, sub2, fun z hz => ?_⟩
          rw [tk] at hz
          rcases List.mem_append.mp hz with h | h
          · exact old2 z (all z h)
          · rw [List.mem_singleton.mp h]
            exact all2 0 per.c1
    · rintro σ' H' ⟨M, x4, x5, x6, x7, rfl, e, hM, nd, sub, all⟩
      rw [List.length_map, List.take_length] at all
      refine ⟨_, rfl, D0, _, rfl, hM, fun H2 p2 ts e2 n2 n3 n4 h2 pr => ?_⟩
      have lM : M.length ≤ 8 := by
        have := nodup_le nd sub
        omega
      refine k p2 H2 (ts.map V.ref) (M.map fun x => [x, it t m x]) (e.trans e2) ?_ h2 (paired_rows pr) (fun pr hpr => ?_) (fun x hx => List.mem_map.mpr ⟨x, all x hx, rfl⟩) (by rw [List.length_map]; exact lM)
      · cases z : H p2 with
        | none => rfl
        | some o => rw [e _ _ z] at n2; cases n2
      · obtain ⟨x, hx, rfl⟩ := List.mem_map.mp hpr
        exact ⟨x, sub x hx, rfl⟩
end
end KT
/-! how long the texts of data are; a word between two statements; parts of lists -/
namespace Kx
open L2 PySem PySem.Spec PyProof.Rows
/-- behind a statement a word of one's own -/
theorem ps_mid {X : Cx} {st : Stmt} {t : TS} (h : PS X st t) : PS X st fun E σ H => ∃ N : L2.St → Hp → Prop, t { E with nx := N } σ H ∧ ∀ σ' H', N σ' H' → E.nx σ' H' := by
  refine ⟨fun pins s σ H E I ⟨N, q, k⟩ => wpAny_mono (h.run pins s σ H { E with nx := N } I q) (fun f s' z => ?_) fun _ _ z => z⟩
  match f, z with
  | .next, ⟨σ', H', J, n⟩ => exact ⟨σ', H', J, k σ' H' n⟩
  | .brk, z => exact z
  | .cont, z => exact z
  | .ret _, z => exact z
theorem ends_nx {E : Ends} {N : L2.St → Hp → Prop} : ({ E with nx := N } : Ends).nx = N := rfl
section
variable {xs : List V} {i : Nat}
theorem cut_to (h : i ≤ xs.length) : cutV xs none (some (i : Int)) = xs.take i := by
  unfold cutV
  rw [HT.sIx_none, HT.sIx_nat, List.drop_zero, Nat.sub_zero, Nat.min_eq_left h]
theorem cut_from (h : i ≤ xs.length) : cutV xs (some (i : Int)) none = xs.drop i := by
  unfold cutV
  rw [HT.sIx_none, HT.sIx_nat, Nat.min_eq_left h]
  exact List.take_of_length_le (by rw [List.length_drop]; exact Nat.le_refl _)
end
/-- d shows, within m levels, as a text of at most L signs -/
structure OkD (m L : Nat) (d : PyData) : Prop where
  sh : d.showable = true
  nd : d.hasDict = false
  deep : d.depth ≤ m
  fit : d.shown.length ≤ L
structure OkA (m L : Nat) (ds : List PyData) : Prop where
  sh : PyData.showableAll ds = true
  nd : PyData.hasDictAll ds = false
  deep : PyData.depthAll ds ≤ m
  fit : piled (PyData.shownAll ds) ≤ L
theorem OkD.mono {m n L M : Nat} {d : PyData} (h : OkD m L d) (h1 : m ≤ n) (h2 : L ≤ M) : OkD n M d := ⟨h.sh, h.nd, Nat.le_trans h.deep h1, Nat.le_trans h.fit h2⟩
theorem OkA.mono {m n L M : Nat} {d : List PyData} (h : OkA m L d) (h1 : m ≤ n) (h2 : L ≤ M) : OkA n M d := ⟨h.sh, h.nd, Nat.le_trans h.deep h1, Nat.le_trans h.fit h2⟩
theorem okD_int {i : Int} (h : i.natAbs < 2 ^ 200) : OkD 0 1921 (.int i) := by
  have lg : i.natAbs.log2 < 1920 := by
    by_cases z : i.natAbs = 0
    · rw [z]
      decide
    · exact (Nat.log2_lt z).mpr (Nat.lt_of_lt_of_le h (Nat.pow_le_pow_right (by decide) (by decide)))
  refine ⟨?_, by simp only [PyData.hasDict], by simp only [PyData.depth]; exact Nat.le_refl _, ?_⟩
  · simp only [PyData.showable]
    exact decide_eq_true lg
  · simp only [PyData.shown]
    exact int_text_len_1921 lg
theorem okD_small {i : Int} (h : -1000000 ≤ i ∧ i ≤ 1000000) : OkD 0 1921 (.int i) := okD_int (Nat.lt_of_lt_of_le (show i.natAbs < 2 ^ 20 by omega) (Nat.pow_le_pow_right (by decide) (by decide)))
theorem okD_non : OkD 0 4 .none := ⟨rfl, by simp only [PyData.hasDict], by simp only [PyData.depth]; exact Nat.le_refl _, by decide +kernel⟩
theorem okD_bl (b : Bool) : OkD 0 5 (.bool b) := ⟨rfl, by simp only [PyData.hasDict], by simp only [PyData.depth]; exact Nat.le_refl _, by cases b <;> decide +kernel⟩
theorem okD_str {z : Str} {L : Nat} (h : (reprText z).length ≤ L) : OkD 0 L (.str z) := ⟨rfl, by simp only [PyData.hasDict], by simp only [PyData.depth]; exact Nat.le_refl _, by simp only [PyData.shown]; exact h⟩
theorem okA_nil {m : Nat} : OkA m 0 [] := ⟨by simp only [PyData.showableAll], by simp only [PyData.hasDictAll], by simp only [PyData.depthAll]; exact Nat.zero_le _, by simp only [PyData.shownAll]; exact Nat.le_refl _⟩
theorem okA_cons {m L M : Nat} {d : PyData} {ds : List PyData} (h : OkD m L d) (k : OkA m M ds) : OkA m (L + 2 + M) (d :: ds) := by
  refine ⟨?_, ?_, ?_, ?_⟩
  · simp only [PyData.showableAll, h.sh, k.sh, Bool.and_self]
  · simp only [PyData.hasDictAll, h.nd, k.nd, Bool.or_self]
  · simp only [PyData.depthAll]
    exact Nat.max_le.mpr ⟨h.deep, k.deep⟩
  · simp only [PyData.shownAll]
    rw [piled_cons]
    have := h.fit
    have := k.fit
    omega
theorem textFrom_most : ∀ (ts : List Str) (k : Nat) (acc : Str), (textFrom k acc ts).length ≤ acc.length + piled ts
  | [], k, acc => Nat.le_refl _
  | t :: r, k, acc => by
    have ih := textFrom_most r (k + 1) (acc ++ (if k > 0 then ", " else "" : String) ++ t)
    rw [strLen_append, strLen_append] at ih
    have e : (((if k > 0 then ", " else "" : String) : Str)).length ≤ 2 := by split <;> decide
    rw [piled_cons]
    change (textFrom (k + 1) _ r).length ≤ _
    omega
theorem okD_list {m L : Nat} {ds : List PyData} (h : OkA m L ds) : OkD (m + 1) (L + 4) (.list ds) := by
  refine ⟨by simp only [PyData.showable]; exact h.sh, by simp only [PyData.hasDict]; exact h.nd, by simp only [PyData.depth]; exact Nat.succ_le_succ h.deep, ?_⟩
  simp only [PyData.shown]
  unfold listText
  have := textFrom_most (PyData.shownAll ds) 0 "["
  have e1 : (("[" : String) : Str).length = 1 := rfl
  have e2 : (("]" : String) : Str).length = 1 := rfl
  have := h.fit
  rw [strLen_append, e2]
  have e3 : (Str.ofString "[").length = 1 := rfl
  omega
theorem okD_tuple {m L : Nat} {ds : List PyData} (h : OkA m L ds) : OkD (m + 1) (L + 4) (.tuple ds) := by
  refine ⟨by simp only [PyData.showable]; exact h.sh, by simp only [PyData.hasDict]; exact h.nd, by simp only [PyData.depth]; exact Nat.succ_le_succ h.deep, ?_⟩
  simp only [PyData.shown]
  unfold tupleText
  have e1 : (("(" : String) : Str).length = 1 := rfl
  have e3 : (((if (PyData.shownAll ds).length == 1 then ",)" else ")" : String) : Str)).length ≤ 2 := by split <;> decide
  have := h.fit
  simp only [strLen_append, e1]
  by_cases z : PyData.shownAll ds = []
  · have e4 : (Str.join ", " (PyData.shownAll ds)).length = 0 := by rw [z]; rfl
    omega
  · have := join_length_add _ z
    omega
theorem okA_ints : ∀ {ns : List Int}, (∀ n ∈ ns, -1000000 ≤ n ∧ n ≤ 1000000) → OkA 0 (1923 * ns.length) (ns.map PyData.int)
  | [], _ => okA_nil
  | n :: ns, h => (okA_cons (okD_small (h n List.mem_cons_self)) (okA_ints fun x hx => h x (List.mem_cons_of_mem _ hx))).mono (Nat.le_refl _) (by rw [List.length_cons]; omega)
theorem okD_nums {ns : List Int} (h : ∀ n ∈ ns, -1000000 ≤ n ∧ n ≤ 1000000) (l : ns.length ≤ 8) : OkD 1 15400 (dNums ns) := (okD_tuple (okA_ints h)).mono (Nat.le_refl _) (by omega)
theorem okA_rows : ∀ {rs : List (List Int)}, (∀ r ∈ rs, r.length ≤ 8 ∧ ∀ n ∈ r, -1000000 ≤ n ∧ n ≤ 1000000) → OkA 1 (15402 * rs.length) (rs.map dNums)
  | [], _ => okA_nil
  | r :: rs, h => (okA_cons (okD_nums (h r List.mem_cons_self).2 (h r List.mem_cons_self).1) (okA_rows fun x hx => h x (List.mem_cons_of_mem _ hx))).mono (Nat.le_refl _) (by rw [List.length_cons]; omega)
theorem okD_rows {rs : List (List Int)} (h : ∀ r ∈ rs, r.length ≤ 8 ∧ ∀ n ∈ r, -1000000 ≤ n ∧ n ≤ 1000000) (l : rs.length ≤ 1000) : OkD 2 15402004 (dRows rs) := (okD_tuple (okA_rows h)).mono (Nat.le_refl _) (by omega)
end Kx
/-! zip of three lists of one length -/
namespace Kx
open L2 PySem PySem.Spec PyProof.Rows
theorem ad {a b : Nat} (h : a ≠ b) : (show Addr from a) ≠ b := h
abbrev Trip (h : Heap) (T : Addr) (a b c : Value) : Prop := h.get? T = some { cls := .type "tuple", data := .seq #[a, b, c] }
/-- the zip that is made at n: three list iterators, their tuple, the handed tuple, the zip -/
structure Z3 (n l1 l2 l3 k : Nat) (f0 : Value) (h : Heap) : Prop where
  z : IsZip h (n + 5) (n + 3) (n + 4) f0
  t : Trip h (n + 3) (.ref n) (.ref (n + 1)) (.ref (n + 2))
  o : ∃ a b c, Trip h (n + 4) a b c
  a1 : h.IsListIter n l1 k
  a2 : h.IsListIter (n + 1) l2 k
  a3 : h.IsListIter (n + 2) l3 k
/-- what is laid elsewhere stays -/
def But3 (n : Nat) (h h' : Heap) : Prop := ∀ c o, c ≠ n → c ≠ n + 1 → c ≠ n + 2 → c ≠ n + 4 → c ≠ n + 5 → h.get? c = some o → h'.get? c = some o
section
variable {prog : Program} {w : World} {A : Around} {E : Value → Shared → Prop} {s : Shared} {n l1 l2 l3 k : Nat} {xs ys zs : Array Value} {x y u : Value}
theorem upd_trip {T : Addr} {a b c v : Value} {j : Nat} {Q : Unit → Shared → Prop} (hT : Trip s.heap T a b c)
    (q : ∀ h', h'.get? T = some { cls := .type "tuple", data := .seq ((#[a, b, c] : Array Value).setIfInBounds j v) } → Heap.SameBut T s.heap h' → Q () { s with heap := h' }) : wpAny (model prog w) A (updateSeq T (·.setIfInBounds j v)) Q E s := by
  refine wpAny_updateSeq hT rfl (q _ ?_ (Heap.SameBut.update ..))
  rw [Heap.get?_update_self _ hT rfl]
  simp [Obj.mapSeq]
theorem zip3_item {Q : Value → Shared → Prop} (Z : Z3 n l1 l2 l3 k .none s.heap) (b1 : l1 < n) (b2 : l2 < n) (b3 : l3 < n) (hl1 : s.heap.IsList l1 xs) (hl2 : s.heap.IsList l2 ys) (hl3 : s.heap.IsList l3 zs) (hx : xs[k]? = some x) (hy : ys[k]? = some y) (hu : zs[k]? = some u)
    (q : ∀ h', Z3 n l1 l2 l3 (k + 1) (rawInt s.heap.objs.size) h' → Trip h' s.heap.objs.size x y u → But3 n s.heap h' → Q (.ref s.heap.objs.size) { s with heap := h' }) :
    wpAny (model prog w) A (Builtin.«zip.__next__» ⟨[.ref (n + 5)], []⟩) (fun fin s' => ∃ v, fin = .done (.ret v) ∧ Q v s') E s := by
  obtain ⟨hz, ht, ⟨a, b, c, ho⟩, h1, h2, h3⟩ := Z
  show wpAny _ _ (field (.ref (n + 5)) 2 >>= _) _ _ _
  refine wpAny_bind (wpAny_field hz rfl (x := Value.bool false) rfl ?_)
  show wpAny _ _ (field (.ref (n + 5)) 3 >>= _) _ _ _
  refine wpAny_bind (wpAny_field hz rfl (x := Value.ref (n + 3)) rfl ?_)
  refine wpAny_bind (wpAny_seqItems ht rfl ?_)
  show wpAny _ _ (Builtin.SmallTypes.ownedTupleIsFree (.ref (n + 5)) >>= _) _ _ _
  refine wpAny_bind ?_
  unfold Builtin.SmallTypes.ownedTupleIsFree
  refine wpAny_bind (wpAny_field hz rfl (x := Value.none) rfl (wpAny_pure ?_))
  simp only [if_true]
  refine wpAny_bind (wpAny_rule ?_)
  refine wpAny_bind (wpAny_field hz rfl (x := Value.ref (n + 4)) rfl ?_)
  refine wpAny_bind (wpAny_setField_rec hz (by simp) fun g1 hz1 d1 => ?_)
  replace hz1 : IsZip g1 (n + 5) (n + 3) (n + 4) .ellipsis := hz1
  refine wpAny_bind ?_
  simp only [List.zipIdx_cons, List.zipIdx_nil, List.forIn_cons, List.forIn_nil]
  -- the first
  refine wpAny_bind (wpAny_bind (wpAny_onRaise ?_))
  show wpAny _ _ (Builtin.SmallTypes.nextOf (.ref n) >>= _) _ _ _
  refine wpAny_bind (wpAny_nextOf_list_item (h1.extBut d1.extBut (ad (by omega))) (hl1.extBut d1.extBut (ad (by omega))) hx fun g2 e2 d2 => wpAny_pure ?_)
  have ho2 : Trip g2 (n + 4) a b c := d2.extBut _ _ (ad (by omega)) (d1.extBut _ _ (ad (by omega)) ho)
  refine wpAny_bind (wpAny_seqItems ho2 rfl ?_)
  refine wpAny_bind (upd_trip ho2 fun g3 ho3 d3 => ?_)
  replace ho3 : Trip g3 (n + 4) x b c := ho3
  refine wpAny_bind (wpAny_letGo (wpAny_pure ?_))
  -- the second
  refine wpAny_bind (wpAny_bind (wpAny_onRaise ?_))
  show wpAny _ _ (Builtin.SmallTypes.nextOf (.ref (n + 1)) >>= _) _ _ _
  refine wpAny_bind (wpAny_nextOf_list_item (((h2.extBut d1.extBut (ad (by omega))).extBut d2.extBut (ad (by omega))).extBut d3.extBut (ad (by omega))) (((hl2.extBut d1.extBut (ad (by omega))).extBut d2.extBut (ad (by omega))).extBut d3.extBut (ad (by omega))) hy fun g4 e4 d4 => wpAny_pure ?_)
  have ho4 : Trip g4 (n + 4) x b c := d4.extBut _ _ (ad (by omega)) ho3
  refine wpAny_bind (wpAny_seqItems ho4 rfl ?_)
  refine wpAny_bind (upd_trip ho4 fun g5 ho5 d5 => ?_)
  replace ho5 : Trip g5 (n + 4) x y c := ho5
  refine wpAny_bind (wpAny_letGo (wpAny_pure ?_))
  -- the third
  refine wpAny_bind (wpAny_bind (wpAny_onRaise ?_))
  show wpAny _ _ (Builtin.SmallTypes.nextOf (.ref (n + 2)) >>= _) _ _ _
  refine wpAny_bind (wpAny_nextOf_list_item (((((h3.extBut d1.extBut (ad (by omega))).extBut d2.extBut (ad (by omega))).extBut d3.extBut (ad (by omega))).extBut d4.extBut (ad (by omega))).extBut d5.extBut (ad (by omega)))
    (((((hl3.extBut d1.extBut (ad (by omega))).extBut d2.extBut (ad (by omega))).extBut d3.extBut (ad (by omega))).extBut d4.extBut (ad (by omega))).extBut d5.extBut (ad (by omega))) hu fun g6 e6 d6 => wpAny_pure ?_)
  have ho6 : Trip g6 (n + 4) x y c := d6.extBut _ _ (ad (by omega)) ho5
  refine wpAny_bind (wpAny_seqItems ho6 rfl ?_)
  refine wpAny_bind (upd_trip ho6 fun g7 ho7 d7 => ?_)
  replace ho7 : Trip g7 (n + 4) x y u := ho7
  refine wpAny_bind (wpAny_letGo (wpAny_pure (wpAny_pure ?_)))
  refine wpAny_bind (wpAny_seqItems ho7 rfl ?_)
  refine wpAny_bind (wpAny_newTuple ?_)
  have sz : g7.objs.size = s.heap.objs.size := by rw [d7.1, d6.1, d5.1, d4.1, d3.1, d2.1, d1.1]
  have keep7 : ∀ c' o', c' ≠ n → c' ≠ n + 1 → c' ≠ n + 2 → c' ≠ n + 4 → c' ≠ n + 5 → s.heap.get? c' = some o' → g7.get? c' = some o' := fun c' o' n0 n1 n2 n4 n5 e =>
    d7.extBut _ _ n4 (d6.extBut _ _ n2 (d5.extBut _ _ n4 (d4.extBut _ _ n1 (d3.extBut _ _ n4 (d2.extBut _ _ n0 (d1.extBut _ _ n5 e))))))
  have hz7 : IsZip g7 (n + 5) (n + 3) (n + 4) .ellipsis := d7.extBut _ _ (ad (by omega)) (d6.extBut _ _ (ad (by omega)) (d5.extBut _ _ (ad (by omega)) (d4.extBut _ _ (ad (by omega)) (d3.extBut _ _ (ad (by omega)) (d2.extBut _ _ (ad (by omega)) hz1)))))
  have i1 : g7.IsListIter n l1 (k + 1) := ((((e2.extBut d3.extBut (ad (by omega))).extBut d4.extBut (ad (by omega))).extBut d5.extBut (ad (by omega))).extBut d6.extBut (ad (by omega))).extBut d7.extBut (ad (by omega))
  have i2 : g7.IsListIter (n + 1) l2 (k + 1) := ((e4.extBut d5.extBut (ad (by omega))).extBut d6.extBut (ad (by omega))).extBut d7.extBut (ad (by omega))
  have i3 : g7.IsListIter (n + 2) l3 (k + 1) := e6.extBut d7.extBut (ad (by omega))
  have zl : n + 5 < g7.objs.size := Heap.lt_size hz7
  show wpAny _ _ (Builtin.SmallTypes.ownedTupleHandOut (.ref (n + 5)) (.ref g7.objs.size) >>= _) _ _ _
  refine wpAny_bind ?_
  unfold Builtin.SmallTypes.ownedTupleHandOut
  have hz8 : IsZip (g7.push { cls := .type "tuple", data := .seq #[x, y, u] }) (n + 5) (n + 3) (n + 4) .ellipsis := Heap.get?_push_of_some _ hz7
  refine wpAny_bind (wpAny_setField_rec hz8 (by simp) fun g9 hz9 d9 => ?_)
  replace hz9 : IsZip g9 (n + 5) (n + 3) (n + 4) (rawInt g7.objs.size) := hz9
  refine wpAny_setField_rec hz9 (by simp) fun gA hzA dA => ?_
  replace hzA : IsZip gA (n + 5) (n + 3) (n + 4) (rawInt g7.objs.size) := hzA
  have up : ∀ c' o', c' ≠ n + 5 → g7.get? c' = some o' → gA.get? c' = some o' := fun c' o' n5 e => dA.extBut _ _ n5 (d9.extBut _ _ n5 (Heap.get?_push_of_some _ e))
  have hT : Trip gA g7.objs.size x y u := dA.extBut _ _ (Nat.ne_of_gt zl) (d9.extBut _ _ (Nat.ne_of_gt zl) (Heap.get?_push_size _ rfl))
  rw [sz] at hzA hT
  refine wpAny_pure ⟨_, rfl, ?_⟩
  show Q (.ref g7.objs.size) _
  rw [sz]
  exact q gA ⟨hzA, up _ _ (ad (by omega)) (keep7 _ _ (ad (by omega)) (ad (by omega)) (ad (by omega)) (ad (by omega)) (ad (by omega)) ht), ⟨_, _, _, up _ _ (ad (by omega)) ho7⟩, i1.at fun o' e => up _ o' (ad (by omega)) e, i2.at fun o' e => up _ o' (ad (by omega)) e, i3.at fun o' e => up _ o' (ad (by omega)) e⟩ hT
    fun c' o' n0 n1 n2 n4 n5 e => up c' o' n5 (keep7 c' o' n0 n1 n2 n4 n5 e)
theorem zip3_end {Q : Fin → Shared → Prop} (hh : A.handled = none) (Z : Z3 n l1 l2 l3 k .none s.heap) (b1 : l1 < n) (hl1 : s.heap.IsList l1 xs) (hx : xs[k]? = none)
    (hE : ∀ h' e, But3 n s.heap h' → (∃ o, h'.get? e = some o ∧ o.cls = .type "StopIteration") → E (.ref e) { s with heap := h' }) :
    wpAny (model prog w) A (Builtin.«zip.__next__» ⟨[.ref (n + 5)], []⟩) Q E s := by
  obtain ⟨hz, ht, ⟨a, b, c, ho⟩, h1, h2, h3⟩ := Z
  show wpAny _ _ (field (.ref (n + 5)) 2 >>= _) _ _ _
  refine wpAny_bind (wpAny_field hz rfl (x := Value.bool false) rfl ?_)
  show wpAny _ _ (field (.ref (n + 5)) 3 >>= _) _ _ _
  refine wpAny_bind (wpAny_field hz rfl (x := Value.ref (n + 3)) rfl ?_)
  refine wpAny_bind (wpAny_seqItems ht rfl ?_)
  show wpAny _ _ (Builtin.SmallTypes.ownedTupleIsFree (.ref (n + 5)) >>= _) _ _ _
  refine wpAny_bind ?_
  unfold Builtin.SmallTypes.ownedTupleIsFree
  refine wpAny_bind (wpAny_field hz rfl (x := Value.none) rfl (wpAny_pure ?_))
  simp only [if_true]
  refine wpAny_bind (wpAny_rule ?_)
  refine wpAny_bind (wpAny_field hz rfl (x := Value.ref (n + 4)) rfl ?_)
  refine wpAny_bind (wpAny_setField_rec hz (by simp) fun g1 hz1 d1 => ?_)
  replace hz1 : IsZip g1 (n + 5) (n + 3) (n + 4) .ellipsis := hz1
  refine wpAny_bind ?_
  simp only [List.zipIdx_cons, List.zipIdx_nil, List.forIn_cons, List.forIn_nil]
  refine wpAny_bind (wpAny_bind (wpAny_onRaise ?_))
  show wpAny _ _ (Builtin.SmallTypes.nextOf (.ref n) >>= _) _ _ _
  refine wpAny_bind (wpAny_nextOf_list_end hh (h1.extBut d1.extBut (ad (by omega))) (hl1.extBut d1.extBut (ad (by omega))) hx fun g2 e d2 he => ?_)
  obtain ⟨oe, hoe, hce⟩ := he
  have hz2 : IsZip g2 (n + 5) (n + 3) (n + 4) .ellipsis := d2 _ _ (ad (by omega)) hz1
  have ez : e ≠ n + 5 := fun z => by
    subst z
    rw [hz2] at hoe
    cases hoe
    simp at hce
  refine wpAny_setField_rec hz2 (by simp) fun g3 _ d3 => hE g3 e (fun c' o' n0 _ _ _ n5 q => d3.extBut _ _ n5 (d2 _ _ n0 (d1.extBut _ _ n5 q))) ⟨oe, d3.extBut _ _ ez hoe, hce⟩
theorem next3_item {Q : Option Value → Shared → Prop} (Z : Z3 n l1 l2 l3 k .none s.heap) (b1 : l1 < n) (b2 : l2 < n) (b3 : l3 < n) (hl1 : s.heap.IsList l1 xs) (hl2 : s.heap.IsList l2 ys) (hl3 : s.heap.IsList l3 zs) (hx : xs[k]? = some x) (hy : ys[k]? = some y) (hu : zs[k]? = some u)
    (q : ∀ h', Z3 n l1 l2 l3 (k + 1) (rawInt s.heap.objs.size) h' → Trip h' s.heap.objs.size x y u → But3 n s.heap h' → Q (some (.ref s.heap.objs.size)) { s with heap := h' }) : wpAny (model prog w) A (pyNext (.ref (n + 5))) Q E s := by
  have hT : s.TypeIs (.ref (n + 5)) "zip" := ⟨_, Z.z, rfl⟩
  unfold pyNext
  exact wpAny_bind (wpAny_attempt (wpAny_callSpecial?_slot (name := Str.ofString "__next__") hT F.slot_zip_next (wpAny_call_entry F.slot_zip_next hT F.entry_zip_next
    (zip3_item Z b1 b2 b3 hl1 hl2 hl3 hx hy hu fun h' c1 c2 c3 => wpAny_pure (q h' c1 c2 c3)) (F.args_zip_next_1 _))))
theorem next3_end {Q : Option Value → Shared → Prop} (hh : A.handled = none) (Z : Z3 n l1 l2 l3 k .none s.heap) (b1 : l1 < n) (hl1 : s.heap.IsList l1 xs) (hx : xs[k]? = none) (q : ∀ h', But3 n s.heap h' → Q none { s with heap := h' }) :
    wpAny (model prog w) A (pyNext (.ref (n + 5))) Q E s := by
  have hT : s.TypeIs (.ref (n + 5)) "zip" := ⟨_, Z.z, rfl⟩
  unfold pyNext
  refine wpAny_bind (wpAny_attempt (wpAny_callSpecial?_slot (name := Str.ofString "__next__") hT F.slot_zip_next (wpAny_call_entry F.slot_zip_next hT F.entry_zip_next (zip3_end hh Z b1 hl1 hx fun h' e hk he => ?_) (F.args_zip_next_1 _))))
  obtain ⟨o, ho, hc⟩ := he
  refine wpAny_bind (wpAny_isInstance (T := "StopIteration") (b := true) ⟨o, ho, hc⟩ isSubtype_stop ?_)
  exact wpAny_pure (q _ hk)
end
/-- how the zip is made -/
abbrev liOf (l : Addr) : Obj := { cls := .type "list_iterator", data := .fields #[.ref l, .int 0 0] }
abbrev m1 (h : Heap) (l1 : Addr) : Heap := h.push (liOf l1)
abbrev m2 (h : Heap) (l1 l2 : Addr) : Heap := (m1 h l1).push (liOf l2)
abbrev m3 (h : Heap) (l1 l2 l3 : Addr) : Heap := (m2 h l1 l2).push (liOf l3)
abbrev m4 (h : Heap) (l1 l2 l3 : Addr) : Heap := (m3 h l1 l2 l3).push { cls := .type "tuple", data := .seq #[.ref h.objs.size, .ref (m1 h l1).objs.size, .ref (m2 h l1 l2).objs.size] }
abbrev m5 (h : Heap) (l1 l2 l3 : Addr) : Heap := (m4 h l1 l2 l3).push { cls := .type "tuple", data := .seq #[.none, .none, .none] }
abbrev m6 (h : Heap) (l1 l2 l3 : Addr) : Heap := (m5 h l1 l2 l3).push { cls := .type "zip", data := .fields #[.none, .bool false, .bool false, .ref (m3 h l1 l2 l3).objs.size, .ref (m4 h l1 l2 l3).objs.size] }
theorem meets_zip3 (l1 l2 l3 : Addr) (xs ys zs : Array Value) :
    Meets (Builtin.«zip.__new__» ⟨[.type "zip", .ref l1, .ref l2, .ref l3], []⟩) (fun _ R s => s.heap.IsList l1 xs ∧ s.heap.IsList l2 ys ∧ s.heap.IsList l3 zs ∧ R (.ok (.ret (.ref (m5 s.heap l1 l2 l3).objs.size))) { s with heap := m6 s.heap l1 l2 l3 }) :=
  .of_wp fun prog w A R s h => by
    obtain ⟨hp, g, d, tk, os⟩ := s
    obtain ⟨q1, q2, q3, h⟩ := h
    have hsub := sub_zip
    have L1 : Heap.IsList (Shared.heap ⟨hp, g, d, tk, os⟩) l1 xs := q1
    have L2 : Heap.IsList (Shared.heap ⟨hp.push (liOf l1), g, d, tk, os⟩) l2 ys := Heap.IsList.push q2 _
    have L3 : Heap.IsList (Shared.heap ⟨(hp.push (liOf l1)).push (liOf l2), g, d, tk, os⟩) l3 zs := Heap.IsList.push (Heap.IsList.push q3 _) _
    wp_walk using wpAny_pyIter_list L1, wpAny_pyIter_list L2, wpAny_pyIter_list L3
    exact ⟨_, rfl, h⟩
theorem typeCall_zip3 (a b c : Value) : checkTypeCall "zip" ⟨[a, b, c], []⟩ = pure () := by kernel_rfl
theorem newCall_zip3 (a b c : Value) : checkBuiltinCall "zip.__new__" ⟨[.type "zip", a, b, c], []⟩ = pure () := by kernel_rfl
theorem args_init4 (a b c d : Value) : argsOk "object.__init__" ⟨[a, b, c, d], []⟩ := by
  unfold argsOk
  rw [signature?_of (id := "object.__init__") (n := ['_', '_', 't', 'i', 'n', 'i', '_', '_']) (o := ['t', 'c', 'e', 'j', 'b', 'o']) (by kernel_rfl) F.owner_object]
  kernel_rfl
section
variable {prog : Program} {w : World} {A : Around} {E : Value → Shared → Prop} {s : Shared}
theorem call_zip3 {l1 l2 l3 : Addr} {xs ys zs : Array Value} {Q : Value → Shared → Prop} (q1 : s.heap.IsList l1 xs) (q2 : s.heap.IsList l2 ys) (q3 : s.heap.IsList l3 zs)
    (q : ∀ h', Z3 s.heap.objs.size l1 l2 l3 0 .none h' → (∀ c o, s.heap.get? c = some o → h'.get? c = some o) → Q (.ref (s.heap.objs.size + 5)) { s with heap := h' }) :
    wpAny (model prog w) A (call (.type "zip") [.ref l1, .ref l2, .ref l3]) Q E s := by
  refine callType_new F.called_zip (by decide) (typeCall_zip3 _ _ _) (newCall_zip3 _ _ _) (fun obj => args_init4 obj _ _ _) F.entry_zip_new (meets_zip3 l1 l2 l3 xs ys zs) ⟨q1, q2, q3, ?_⟩
  have z1 : (m1 s.heap l1).objs.size = s.heap.objs.size + 1 := Heap.size_push ..
  have z2 : (m2 s.heap l1 l2).objs.size = s.heap.objs.size + 2 := by rw [Heap.size_push, z1]
  have z3 : (m3 s.heap l1 l2 l3).objs.size = s.heap.objs.size + 3 := by rw [Heap.size_push, z2]
  have z4 : (m4 s.heap l1 l2 l3).objs.size = s.heap.objs.size + 4 := by rw [Heap.size_push, z3]
  have z5 : (m5 s.heap l1 l2 l3).objs.size = s.heap.objs.size + 5 := by rw [Heap.size_push, z4]
  have p6 : (m6 s.heap l1 l2 l3).get? (m5 s.heap l1 l2 l3).objs.size = some _ := Heap.get?_push_size _ rfl
  have p5 : (m6 s.heap l1 l2 l3).get? (m4 s.heap l1 l2 l3).objs.size = some _ := Heap.get?_push_of_some _ (Heap.get?_push_size _ rfl)
  have p4 : (m6 s.heap l1 l2 l3).get? (m3 s.heap l1 l2 l3).objs.size = some _ := Heap.get?_push_of_some _ (Heap.get?_push_of_some _ (Heap.get?_push_size _ rfl))
  have p3 : (m6 s.heap l1 l2 l3).get? (m2 s.heap l1 l2).objs.size = some _ := Heap.get?_push_of_some _ (Heap.get?_push_of_some _ (Heap.get?_push_of_some _ (Heap.get?_push_size _ rfl)))
  have p2 : (m6 s.heap l1 l2 l3).get? (m1 s.heap l1).objs.size = some _ := Heap.get?_push_of_some _ (Heap.get?_push_of_some _ (Heap.get?_push_of_some _ (Heap.get?_push_of_some _ (Heap.get?_push_size _ rfl))))
  have p1 : (m6 s.heap l1 l2 l3).get? s.heap.objs.size = some _ := Heap.get?_push_of_some _ (Heap.get?_push_of_some _ (Heap.get?_push_of_some _ (Heap.get?_push_of_some _ (Heap.get?_push_of_some _ (Heap.get?_push_size _ rfl)))))
  show _ ∧ _
  rw [z3, z4, z5] at p6
  rw [z1, z2, z3] at p4
  rw [z4] at p5
  rw [z2] at p3
  rw [z1] at p2
  rw [z5]
  exact ⟨⟨_, p6, rfl⟩, q _ ⟨p6, p4, ⟨_, _, _, p5⟩, ⟨_, p1, rfl, rfl⟩, ⟨_, p2, rfl, rfl⟩, ⟨_, p3, rfl, rfl⟩⟩ fun c o e => Heap.get?_push_of_some _ (Heap.get?_push_of_some _ (Heap.get?_push_of_some _ (Heap.get?_push_of_some _ (Heap.get?_push_of_some _ (Heap.get?_push_of_some _ e)))))⟩
end
end Kx
/-! zip of a tuple and a list -/
namespace Kx
open L2 PySem PySem.Spec PyProof.Rows
abbrev Pr2 (h : Heap) (T : Addr) (a b : Value) : Prop := h.get? T = some { cls := .type "tuple", data := .seq #[a, b] }
/-- the zip that is made at n: a tuple's iterator, a list's, their tuple, the handed tuple, the zip -/
structure ZM (n l1 l2 k : Nat) (f0 : Value) (h : Heap) : Prop where
  z : IsZip h (n + 4) (n + 2) (n + 3) f0
  t : Pr2 h (n + 2) (.ref n) (.ref (n + 1))
  o : ∃ a b, Pr2 h (n + 3) a b
  a1 : h.IsTupleIter n l1 k
  a2 : h.IsListIter (n + 1) l2 k
def ButM (n : Nat) (h h' : Heap) : Prop := ∀ c o, c ≠ n → c ≠ n + 1 → c ≠ n + 3 → c ≠ n + 4 → h.get? c = some o → h'.get? c = some o
section
variable {prog : Program} {w : World} {A : Around} {E : Value → Shared → Prop} {s : Shared} {n l1 l2 k : Nat} {xs ys : Array Value} {x y : Value}
theorem upd_pr2 {T : Addr} {a b v : Value} {j : Nat} {Q : Unit → Shared → Prop} (hT : Pr2 s.heap T a b)
    (q : ∀ h', h'.get? T = some { cls := .type "tuple", data := .seq ((#[a, b] : Array Value).setIfInBounds j v) } → Heap.SameBut T s.heap h' → Q () { s with heap := h' }) : wpAny (model prog w) A (updateSeq T (·.setIfInBounds j v)) Q E s := by
  refine wpAny_updateSeq hT rfl (q _ ?_ (Heap.SameBut.update ..))
  rw [Heap.get?_update_self _ hT rfl]
  simp [Obj.mapSeq]
theorem zipM_item {Q : Value → Shared → Prop} (Z : ZM n l1 l2 k .none s.heap) (b1 : l1 < n) (b2 : l2 < n) (hl1 : s.heap.IsTuple l1 xs) (hl2 : s.heap.IsList l2 ys) (hx : xs[k]? = some x) (hy : ys[k]? = some y)
    (q : ∀ h', ZM n l1 l2 (k + 1) (rawInt s.heap.objs.size) h' → Pr2 h' s.heap.objs.size x y → ButM n s.heap h' → Q (.ref s.heap.objs.size) { s with heap := h' }) :
    wpAny (model prog w) A (Builtin.«zip.__next__» ⟨[.ref (n + 4)], []⟩) (fun fin s' => ∃ v, fin = .done (.ret v) ∧ Q v s') E s := by
  obtain ⟨hz, ht, ⟨a, b, ho⟩, h1, h2⟩ := Z
  show wpAny _ _ (field (.ref (n + 4)) 2 >>= _) _ _ _
  refine wpAny_bind (wpAny_field hz rfl (x := Value.bool false) rfl ?_)
  show wpAny _ _ (field (.ref (n + 4)) 3 >>= _) _ _ _
  refine wpAny_bind (wpAny_field hz rfl (x := Value.ref (n + 2)) rfl ?_)
  refine wpAny_bind (wpAny_seqItems ht rfl ?_)
  show wpAny _ _ (Builtin.SmallTypes.ownedTupleIsFree (.ref (n + 4)) >>= _) _ _ _
  refine wpAny_bind ?_
  unfold Builtin.SmallTypes.ownedTupleIsFree
  refine wpAny_bind (wpAny_field hz rfl (x := Value.none) rfl (wpAny_pure ?_))
  simp only [if_true]
  refine wpAny_bind (wpAny_rule ?_)
  refine wpAny_bind (wpAny_field hz rfl (x := Value.ref (n + 3)) rfl ?_)
  refine wpAny_bind (wpAny_setField_rec hz (by simp) fun g1 hz1 d1 => ?_)
  replace hz1 : IsZip g1 (n + 4) (n + 2) (n + 3) .ellipsis := hz1
  refine wpAny_bind ?_
  simp only [List.zipIdx_cons, List.zipIdx_nil, List.forIn_cons, List.forIn_nil]
  refine wpAny_bind (wpAny_bind (wpAny_onRaise ?_))
  show wpAny _ _ (Builtin.SmallTypes.nextOf (.ref n) >>= _) _ _ _
  have t1 : g1.IsTuple l1 xs := hl1.at fun o q => d1.extBut _ _ (ad (by omega)) q
  refine wpAny_bind (RZ.nextOf_tuple_item (h1.at fun o q => d1.extBut _ _ (ad (by omega)) q) t1 hx fun g2 e2 d2 => wpAny_pure ?_)
  have ho2 : Pr2 g2 (n + 3) a b := d2.extBut _ _ (ad (by omega)) (d1.extBut _ _ (ad (by omega)) ho)
  refine wpAny_bind (wpAny_seqItems ho2 rfl ?_)
  refine wpAny_bind (upd_pr2 ho2 fun g3 ho3 d3 => ?_)
  replace ho3 : Pr2 g3 (n + 3) x b := ho3
  refine wpAny_bind (wpAny_letGo (wpAny_pure ?_))
  refine wpAny_bind (wpAny_bind (wpAny_onRaise ?_))
  show wpAny _ _ (Builtin.SmallTypes.nextOf (.ref (n + 1)) >>= _) _ _ _
  refine wpAny_bind (wpAny_nextOf_list_item (((h2.extBut d1.extBut (ad (by omega))).extBut d2.extBut (ad (by omega))).extBut d3.extBut (ad (by omega))) (((hl2.extBut d1.extBut (ad (by omega))).extBut d2.extBut (ad (by omega))).extBut d3.extBut (ad (by omega))) hy fun g4 e4 d4 => wpAny_pure ?_)
  have ho4 : Pr2 g4 (n + 3) x b := d4.extBut _ _ (ad (by omega)) ho3
  refine wpAny_bind (wpAny_seqItems ho4 rfl ?_)
  refine wpAny_bind (upd_pr2 ho4 fun g5 ho5 d5 => ?_)
  replace ho5 : Pr2 g5 (n + 3) x y := ho5
  refine wpAny_bind (wpAny_letGo (wpAny_pure (wpAny_pure ?_)))
  refine wpAny_bind (wpAny_seqItems ho5 rfl ?_)
  refine wpAny_bind (wpAny_newTuple ?_)
  have sz : g5.objs.size = s.heap.objs.size := by rw [d5.1, d4.1, d3.1, d2.1, d1.1]
  have keep5 : ∀ c' o', c' ≠ n → c' ≠ n + 1 → c' ≠ n + 3 → c' ≠ n + 4 → s.heap.get? c' = some o' → g5.get? c' = some o' := fun c' o' n0 n1 n3 n4 e =>
    d5.extBut _ _ n3 (d4.extBut _ _ n1 (d3.extBut _ _ n3 (d2.extBut _ _ n0 (d1.extBut _ _ n4 e))))
  have hz5 : IsZip g5 (n + 4) (n + 2) (n + 3) .ellipsis := d5.extBut _ _ (ad (by omega)) (d4.extBut _ _ (ad (by omega)) (d3.extBut _ _ (ad (by omega)) (d2.extBut _ _ (ad (by omega)) hz1)))
  have i1 : g5.IsTupleIter n l1 (k + 1) := e2.at fun o q => d5.extBut _ _ (ad (by omega)) (d4.extBut _ _ (ad (by omega)) (d3.extBut _ _ (ad (by omega)) q))
  have i2 : g5.IsListIter (n + 1) l2 (k + 1) := e4.extBut d5.extBut (ad (by omega))
  have zl : n + 4 < g5.objs.size := Heap.lt_size hz5
  show wpAny _ _ (Builtin.SmallTypes.ownedTupleHandOut (.ref (n + 4)) (.ref g5.objs.size) >>= _) _ _ _
  refine wpAny_bind ?_
  unfold Builtin.SmallTypes.ownedTupleHandOut
  have hz8 : IsZip (g5.push { cls := .type "tuple", data := .seq #[x, y] }) (n + 4) (n + 2) (n + 3) .ellipsis := Heap.get?_push_of_some _ hz5
  refine wpAny_bind (wpAny_setField_rec hz8 (by simp) fun g9 hz9 d9 => ?_)
  replace hz9 : IsZip g9 (n + 4) (n + 2) (n + 3) (rawInt g5.objs.size) := hz9
  refine wpAny_setField_rec hz9 (by simp) fun gA hzA dA => ?_
  replace hzA : IsZip gA (n + 4) (n + 2) (n + 3) (rawInt g5.objs.size) := hzA
  have up : ∀ c' o', c' ≠ n + 4 → g5.get? c' = some o' → gA.get? c' = some o' := fun c' o' n5 e => dA.extBut _ _ n5 (d9.extBut _ _ n5 (Heap.get?_push_of_some _ e))
  have hT : Pr2 gA g5.objs.size x y := dA.extBut _ _ (Nat.ne_of_gt zl) (d9.extBut _ _ (Nat.ne_of_gt zl) (Heap.get?_push_size _ rfl))
  rw [sz] at hzA hT
  refine wpAny_pure ⟨_, rfl, ?_⟩
  show Q (.ref g5.objs.size) _
  rw [sz]
  exact q gA ⟨hzA, up _ _ (ad (by omega)) (keep5 _ _ (ad (by omega)) (ad (by omega)) (ad (by omega)) (ad (by omega)) ht), ⟨_, _, up _ _ (ad (by omega)) ho5⟩, i1.at fun o' e => up _ o' (ad (by omega)) e, i2.at fun o' e => up _ o' (ad (by omega)) e⟩ hT
    fun c' o' n0 n1 n3 n4 e => up c' o' n4 (keep5 c' o' n0 n1 n3 n4 e)
theorem zipM_end {Q : Fin → Shared → Prop} (hh : A.handled = none) (Z : ZM n l1 l2 k .none s.heap) (b1 : l1 < n) (hl1 : s.heap.IsTuple l1 xs) (hx : xs[k]? = none)
    (hE : ∀ h' e, ButM n s.heap h' → (∃ o, h'.get? e = some o ∧ o.cls = .type "StopIteration") → E (.ref e) { s with heap := h' }) :
    wpAny (model prog w) A (Builtin.«zip.__next__» ⟨[.ref (n + 4)], []⟩) Q E s := by
  obtain ⟨hz, ht, ⟨a, b, ho⟩, h1, h2⟩ := Z
  show wpAny _ _ (field (.ref (n + 4)) 2 >>= _) _ _ _
  refine wpAny_bind (wpAny_field hz rfl (x := Value.bool false) rfl ?_)
  show wpAny _ _ (field (.ref (n + 4)) 3 >>= _) _ _ _
  refine wpAny_bind (wpAny_field hz rfl (x := Value.ref (n + 2)) rfl ?_)
  refine wpAny_bind (wpAny_seqItems ht rfl ?_)
  show wpAny _ _ (Builtin.SmallTypes.ownedTupleIsFree (.ref (n + 4)) >>= _) _ _ _
  refine wpAny_bind ?_
  unfold Builtin.SmallTypes.ownedTupleIsFree
  refine wpAny_bind (wpAny_field hz rfl (x := Value.none) rfl (wpAny_pure ?_))
  simp only [if_true]
  refine wpAny_bind (wpAny_rule ?_)
  refine wpAny_bind (wpAny_field hz rfl (x := Value.ref (n + 3)) rfl ?_)
  refine wpAny_bind (wpAny_setField_rec hz (by simp) fun g1 hz1 d1 => ?_)
  replace hz1 : IsZip g1 (n + 4) (n + 2) (n + 3) .ellipsis := hz1
  refine wpAny_bind ?_
  simp only [List.zipIdx_cons, List.zipIdx_nil, List.forIn_cons, List.forIn_nil]
  refine wpAny_bind (wpAny_bind (wpAny_onRaise ?_))
  show wpAny _ _ (Builtin.SmallTypes.nextOf (.ref n) >>= _) _ _ _
  have t1 : g1.IsTuple l1 xs := hl1.at fun o q => d1.extBut _ _ (ad (by omega)) q
  refine wpAny_bind (RZ.nextOf_tuple_end hh (h1.at fun o q => d1.extBut _ _ (ad (by omega)) q) t1 hx fun g2 e d2 he => ?_)
  obtain ⟨oe, hoe, hce⟩ := he
  have hz2 : IsZip g2 (n + 4) (n + 2) (n + 3) .ellipsis := d2 _ _ (ad (by omega)) hz1
  have ez : e ≠ n + 4 := fun z => by
    subst z
    rw [hz2] at hoe
    cases hoe
    simp at hce
  refine wpAny_setField_rec hz2 (by simp) fun g3 _ d3 => hE g3 e (fun c' o' n0 _ _ n4 q => d3.extBut _ _ n4 (d2 _ _ n0 (d1.extBut _ _ n4 q))) ⟨oe, d3.extBut _ _ ez hoe, hce⟩
theorem nextM_item {Q : Option Value → Shared → Prop} (Z : ZM n l1 l2 k .none s.heap) (b1 : l1 < n) (b2 : l2 < n) (hl1 : s.heap.IsTuple l1 xs) (hl2 : s.heap.IsList l2 ys) (hx : xs[k]? = some x) (hy : ys[k]? = some y)
    (q : ∀ h', ZM n l1 l2 (k + 1) (rawInt s.heap.objs.size) h' → Pr2 h' s.heap.objs.size x y → ButM n s.heap h' → Q (some (.ref s.heap.objs.size)) { s with heap := h' }) : wpAny (model prog w) A (pyNext (.ref (n + 4))) Q E s := by
  have hT : s.TypeIs (.ref (n + 4)) "zip" := ⟨_, Z.z, rfl⟩
  unfold pyNext
  exact wpAny_bind (wpAny_attempt (wpAny_callSpecial?_slot (name := Str.ofString "__next__") hT F.slot_zip_next (wpAny_call_entry F.slot_zip_next hT F.entry_zip_next
    (zipM_item Z b1 b2 hl1 hl2 hx hy fun h' c1 c2 c3 => wpAny_pure (q h' c1 c2 c3)) (F.args_zip_next_1 _))))
theorem nextM_end {Q : Option Value → Shared → Prop} (hh : A.handled = none) (Z : ZM n l1 l2 k .none s.heap) (b1 : l1 < n) (hl1 : s.heap.IsTuple l1 xs) (hx : xs[k]? = none) (q : ∀ h', ButM n s.heap h' → Q none { s with heap := h' }) :
    wpAny (model prog w) A (pyNext (.ref (n + 4))) Q E s := by
  have hT : s.TypeIs (.ref (n + 4)) "zip" := ⟨_, Z.z, rfl⟩
  unfold pyNext
  refine wpAny_bind (wpAny_attempt (wpAny_callSpecial?_slot (name := Str.ofString "__next__") hT F.slot_zip_next (wpAny_call_entry F.slot_zip_next hT F.entry_zip_next (zipM_end hh Z b1 hl1 hx fun h' e hk he => ?_) (F.args_zip_next_1 _))))
  obtain ⟨o, ho, hc⟩ := he
  refine wpAny_bind (wpAny_isInstance (T := "StopIteration") (b := true) ⟨o, ho, hc⟩ isSubtype_stop ?_)
  exact wpAny_pure (q _ hk)
end
abbrev tiOf (l : Addr) : Obj := { cls := .type "tuple_iterator", data := .fields #[.ref l, .int 0 0] }
abbrev g1M (h : Heap) (l1 : Addr) : Heap := h.push (tiOf l1)
abbrev g2M (h : Heap) (l1 l2 : Addr) : Heap := (g1M h l1).push (liOf l2)
abbrev g3M (h : Heap) (l1 l2 : Addr) : Heap := (g2M h l1 l2).push { cls := .type "tuple", data := .seq #[.ref h.objs.size, .ref (g1M h l1).objs.size] }
abbrev g4M (h : Heap) (l1 l2 : Addr) : Heap := (g3M h l1 l2).push { cls := .type "tuple", data := .seq #[.none, .none] }
abbrev g5M (h : Heap) (l1 l2 : Addr) : Heap := (g4M h l1 l2).push { cls := .type "zip", data := .fields #[.none, .bool false, .bool false, .ref (g2M h l1 l2).objs.size, .ref (g3M h l1 l2).objs.size] }
theorem meets_zipM (l1 l2 : Addr) (xs ys : Array Value) :
    Meets (Builtin.«zip.__new__» ⟨[.type "zip", .ref l1, .ref l2], []⟩) (fun _ R s => s.heap.IsTuple l1 xs ∧ s.heap.IsList l2 ys ∧ R (.ok (.ret (.ref (g4M s.heap l1 l2).objs.size))) { s with heap := g5M s.heap l1 l2 }) :=
  .of_wp fun prog w A R s h => by
    obtain ⟨hp, g, d, tk, os⟩ := s
    obtain ⟨q1, q2, h⟩ := h
    have hsub := sub_zip
    have L1 : Heap.IsTuple (Shared.heap ⟨hp, g, d, tk, os⟩) l1 xs := q1
    have L2 : Heap.IsList (Shared.heap ⟨hp.push (tiOf l1), g, d, tk, os⟩) l2 ys := Heap.IsList.push q2 _
    wp_walk using wpAny_pyIter_tuple L1, wpAny_pyIter_list L2
    exact ⟨_, rfl, h⟩
section
variable {prog : Program} {w : World} {A : Around} {E : Value → Shared → Prop} {s : Shared}
theorem call_zipM {l1 l2 : Addr} {xs ys : Array Value} {Q : Value → Shared → Prop} (q1 : s.heap.IsTuple l1 xs) (q2 : s.heap.IsList l2 ys)
    (q : ∀ h', ZM s.heap.objs.size l1 l2 0 .none h' → (∀ c o, s.heap.get? c = some o → h'.get? c = some o) → Q (.ref (s.heap.objs.size + 4)) { s with heap := h' }) :
    wpAny (model prog w) A (call (.type "zip") [.ref l1, .ref l2]) Q E s := by
  refine callType_new F.called_zip (by decide) (F.typeCall_zip_2 _ _) (F.newCall_zip_2 _ _) (fun obj => F.args_object_init_3 obj _ _) F.entry_zip_new (meets_zipM l1 l2 xs ys) ⟨q1, q2, ?_⟩
  have z1 : (g1M s.heap l1).objs.size = s.heap.objs.size + 1 := Heap.size_push ..
  have z2 : (g2M s.heap l1 l2).objs.size = s.heap.objs.size + 2 := by rw [Heap.size_push, z1]
  have z3 : (g3M s.heap l1 l2).objs.size = s.heap.objs.size + 3 := by rw [Heap.size_push, z2]
  have z4 : (g4M s.heap l1 l2).objs.size = s.heap.objs.size + 4 := by rw [Heap.size_push, z3]
  have p5 : (g5M s.heap l1 l2).get? (g4M s.heap l1 l2).objs.size = some _ := Heap.get?_push_size _ rfl
  have p4 : (g5M s.heap l1 l2).get? (g3M s.heap l1 l2).objs.size = some _ := Heap.get?_push_of_some _ (Heap.get?_push_size _ rfl)
  have p3 : (g5M s.heap l1 l2).get? (g2M s.heap l1 l2).objs.size = some _ := Heap.get?_push_of_some _ (Heap.get?_push_of_some _ (Heap.get?_push_size _ rfl))
  have p2 : (g5M s.heap l1 l2).get? (g1M s.heap l1).objs.size = some _ := Heap.get?_push_of_some _ (Heap.get?_push_of_some _ (Heap.get?_push_of_some _ (Heap.get?_push_size _ rfl)))
  have p1 : (g5M s.heap l1 l2).get? s.heap.objs.size = some _ := Heap.get?_push_of_some _ (Heap.get?_push_of_some _ (Heap.get?_push_of_some _ (Heap.get?_push_of_some _ (Heap.get?_push_size _ rfl))))
  show _ ∧ _
  rw [z2, z3, z4] at p5
  rw [z1, z2] at p3
  rw [z3] at p4
  rw [z1] at p2
  rw [z4]
  exact ⟨⟨_, p5, rfl⟩, q _ ⟨p5, p3, ⟨_, _, p4⟩, ⟨_, p1, rfl, rfl⟩, ⟨_, p2, rfl, rfl⟩⟩ fun c o e => Heap.get?_push_of_some _ (Heap.get?_push_of_some _ (Heap.get?_push_of_some _ (Heap.get?_push_of_some _ (Heap.get?_push_of_some _ e))))⟩
end
/-- the tuple and the list as they stand at each turn -/
def ItM (K : PySem.W.Frag) (a b : Addr) : It :=
  ⟨fun i H => ∃ (xs ys : List V) (x y : V), SqT K H a xs ∧ SqL K H b ys ∧ xs[i]? = some x ∧ ys[i]? = some y,
    fun i H v H' => ∃ T x y, v = .ref T ∧ H T = none ∧ H' = upd H T (.tup [x, y]) ∧ (∀ l, SqT K H a l → l[i]? = some x) ∧ ∀ l, SqL K H b l → l[i]? = some y,
    fun i H => ∃ xs : List V, SqT K H a xs ∧ xs.length ≤ i⟩
def fpM (n : Nat) : List Addr := [n + 4, n + 2, n + 3, n, n + 1]
theorem memM {n c : Nat} (h : c ∈ fpM n) : c = n + 4 ∨ c = n + 2 ∨ c = n + 3 ∨ c = n ∨ c = n + 1 := by simpa [fpM] using h
theorem inM {n c : Nat} (h : c = n + 4 ∨ c = n + 2 ∨ c = n + 3 ∨ c = n ∨ c = n + 1) : c ∈ fpM n := by simpa [fpM] using h
theorem ltM {n c m : Nat} (h : c ∈ fpM n) (l : n + 4 < m) : c < m := by rcases memM h with q | q | q | q | q <;> omega
theorem leM {n c : Nat} (h : c ∈ fpM n) : n ≤ c := by rcases memM h with q | q | q | q | q <;> omega
theorem ButM.out {n : Nat} {h h' : Heap} (k : ButM n h h') {c : Addr} {o : Obj} (no : c ∉ fpM n) (q : h.get? c = some o) : h'.get? c = some o :=
  k c o (fun e => no (inM (.inr (.inr (.inr (.inl e)))))) (fun e => no (inM (.inr (.inr (.inr (.inr e)))))) (fun e => no (inM (.inr (.inr (.inl e))))) (fun e => no (inM (.inl e))) q
theorem turn_zipM {P : Program} {w : World} {K : PySem.W.Frag} {elts : List Expr} {kk : Nat} {tpos : Pos} {n l1 l2 : Nat} (b1 : l1 < n) (b2 : l2 < n) :
    Turn P w K (.Tuple elts kk tpos) (ItM K l1 l2) (fpM n) (n + 4) (fun i h => ZM n l1 l2 i .none h) where
  mem := inM (.inl rfl)
  obj := fun i h Z c hc => by
    obtain ⟨hz, ht, ⟨x, y, ho⟩, ⟨o1, e1, _, d1⟩, ⟨o2, e2, _, d2⟩⟩ := Z
    rcases memM hc with q | q | q | q | q
    · rw [q]; exact ⟨_, hz, fun v q => nomatch q⟩
    · rw [q]; exact ⟨_, ht, fun v q => nomatch q⟩
    · rw [q]; exact ⟨_, ho, fun v q => nomatch q⟩
    · rw [q]; exact ⟨o1, e1, fun v q => by rw [d1] at q; cases q⟩
    · rw [q]; exact ⟨o2, e2, fun v q => by rw [d2] at q; cases q⟩
  keep := fun i h h' Z k => by
    obtain ⟨hz, ht, ⟨x, y, ho⟩, h1, h2⟩ := Z
    exact ⟨k _ (inM (.inl rfl)) _ hz, k _ (inM (.inr (.inl rfl))) _ ht, ⟨x, y, k _ (inM (.inr (.inr (.inl rfl)))) _ ho⟩, h1.at fun o q => k _ (inM (.inr (.inr (.inr (.inl rfl))))) o q, h2.at fun o q => k _ (inM (.inr (.inr (.inr (.inr rfl))))) o q⟩
  item := by
    intro X hP hw hK hc i pins s σ H E I hf Z hg
    subst hP hw hK
    obtain ⟨xs, ys, x, y, hqx, hqy, hx, hy⟩ := hg
    obtain ⟨its, rv, p, _⟩ := I.tuple hqx
    obtain ⟨its2, rv2, p2, _⟩ := I.list hqy
    obtain ⟨u, hu, ru⟩ := rv.get hx
    obtain ⟨u2, hu2, ru2⟩ := rv2.get hy
    have sl : n + 4 < s.heap.objs.size := Heap.lt_size Z.z
    refine nextM_item Z b1 b2 p p2.isList (x := u) (y := u2) (by simpa using hu) (by simpa using hu2) fun h' Z' hT hk => ?_
    refine ⟨_, rfl, wpAny_letOwnedTupleGo_zip (s := { s with heap := h' }) Z'.z fun h2 z2 sb => ?_⟩
    have hT2 : h2.get? s.heap.objs.size = some { cls := .type "tuple", data := .seq #[u, u2] } := (sb.2 _ (Nat.ne_of_gt sl)).trans hT
    have new : ObjOk X.prog X.w (upd H s.heap.objs.size (.tup [x, y])) h2 s.heap.objs.size (.tup [x, y]) :=
      ⟨by show 2 ≤ sizeLine; decide, [u, u2], .cons ru (.cons ru2 .nil), ⟨_, hT2, rfl, _, rfl⟩⟩
    have kp : ∀ c o, c ∉ fpM n → s.heap.get? c = some o → h2.get? c = some o := fun c o hb q => (sb.2 c (fun e => hb (inM (.inl e)))).trans (hk.out hb q)
    have I1 : Inv X pins σ (upd H s.heap.objs.size (.tup [x, y])) { s with heap := h2 } := I.turnedNew (t' := s.toks) (ch := fpM n) kp hf (Nat.le_refl _) new
    refine ⟨.ref s.heap.objs.size, _, I1, rfl, ⟨_, x, y, rfl, I.hok.fresh (Nat.le_refl _), rfl, fun l hl => by rw [I.tuple_inj hl hqx]; exact hx, fun l hl => by rw [I.list_inj hl hqy]; exact hy⟩, ?_, fun c hcm => ?_⟩
    · obtain ⟨c1, c2, ⟨y1, y2, c3⟩, c4, c5⟩ := Z'
      exact ⟨z2, (sb.2 _ (ad (by omega))).trans c2, ⟨y1, y2, (sb.2 _ (ad (by omega))).trans c3⟩, c4.at fun o q => (sb.2 _ (ad (by omega))).trans q, c5.at fun o q => (sb.2 _ (ad (by omega))).trans q⟩
    · have hlt : c < s.heap.objs.size := ltM hcm sl
      rw [upd_ne (Nat.ne_of_lt hlt)]
      exact (hf c hcm).1
  done := by
    intro X hP hw hK hc i pins s σ H E I hf Z hg
    subst hP hw hK
    obtain ⟨xs, hqx, hend⟩ := hg
    obtain ⟨its, rv, p, _⟩ := I.tuple hqx
    have ln := rv.length
    have no : its.toArray[i]? = none := by
      simp
      omega
    refine nextM_end (I.ok.hd hc) Z b1 p no fun h' hk => ⟨rfl, ?_⟩
    exact I.turnedL (t' := s.toks) (ch := fpM n) (fun c o hb q => hk.out hb q) hf
  self := fun A i s Q E Z q => wpAny_pyIter_zip Z.z q
/-- zip of a tuple and a tuple or a list -/
def iZipB (K : PySem.W.Frag) (ta : TA) : TI := fun σ H R => ta σ H fun vs H1 => ∃ a b xs ys, vs = [.ref a, .ref b] ∧ SqT K H1 a xs ∧ ((SqL K H1 b ys ∧ R (ItM K a b) H1) ∨ (SqT K H1 b ys ∧ R (RZ.ItzT K a b) H1))
theorem pi_zipB {X : Cx} {e e2 : Expr} {ta : TA} {p pos tpos : Pos} {elts : List Expr} {kk : Nat} (hg : Gl X "zip") (hm : X.mg "zip" = none) (ha : PA X [e, e2] ta)
    (hs : starEach [e, e2] X.env = (false, eval e X.env) :: starEach [e2] X.env := by rfl) (hpl : (backTo pos (starEach [e2] X.env)).any (·.1) = false := by rfl) :
    PI X (.Tuple elts kk tpos) (.Call (.Name "zip" p) [e, e2] [] pos) (iZipB X.K ta) := by
  refine ⟨fun pins s σ H R I h => ?_⟩
  refine Call_ (ld_blt I hg hm PyProof.Rows.boot_zip (PyProof.Rows.callWith_type1 (thn (ha.run pos pins s σ H _ I h) fun us s1 ⟨vs, H1, I1, r1, q1⟩ => ?_) hs hpl))
  obtain ⟨a, b, xs, ys, ex, qx, q1⟩ := q1
  subst ex
  obtain ⟨v1, us1, rfl, r, t1⟩ : ∃ v us', us = v :: us' ∧ RelV (.ref a) v ∧ Vals [.ref b] us' := by
    cases r1 with
    | cons r t => exact ⟨_, _, rfl, r, t⟩
  clear r1
  obtain ⟨v2, rfl, r'⟩ : ∃ v, us1 = [v] ∧ RelV (.ref b) v := by
    cases t1 with
    | cons r t =>
      cases t
      exact ⟨_, rfl, r⟩
  clear t1
  obtain rfl : v1 = .ref a := r
  obtain rfl : v2 = .ref b := r'
  clear h
  obtain ⟨its, rv, p1, _⟩ := I1.tuple qx
  obtain ⟨o1, ho1, _⟩ := id p1
  rcases q1 with ⟨qy, q⟩ | ⟨qy, q⟩
  · obtain ⟨its2, rv2, p2, _⟩ := I1.list qy
    refine call_zipM (show s1.heap.IsTuple a its.toArray from p1) p2.isList fun h' Z hk => wpAny_pyIter_zip Z.z ?_
    have I2 : Inv X pins σ H1 { s1 with heap := h' } := I1.kept (t' := s1.toks) hk
    refine ⟨s1.heap.objs.size + 4, fpM s1.heap.objs.size, _, _, H1, rfl, I2, turn_zipM (Heap.lt_size ho1) p2.lt, Z, fun c' hc' => ?_, q⟩
    have hle : s1.heap.objs.size ≤ c' := leM hc'
    exact I1.fpOk hle (I1.hok.fresh hle)
  · obtain ⟨its2, rv2, p2, _⟩ := I1.tuple qy
    obtain ⟨o2, ho2, _⟩ := id p2
    refine RZ.call_zipT (show s1.heap.IsTuple a its.toArray from p1) (show s1.heap.IsTuple b its2.toArray from p2) fun h' hz hTI hTO h1 h2 hsz hk => wpAny_pyIter_zip hz ?_
    have I2 : Inv X pins σ H1 { s1 with heap := h' } := I1.kept (t' := s1.toks) hk
    refine ⟨s1.heap.objs.size + 4, fpM s1.heap.objs.size, _, _, H1, rfl, I2, RZ.turn_zipT (PySem.W.ktu_apart s1.heap.objs.size a b (Heap.lt_size ho1) (Heap.lt_size ho2)), ⟨hz, hTI, ⟨_, _, hTO⟩, h1, h2⟩, fun c' hc' => ?_, q⟩
    have hle : s1.heap.objs.size ≤ c' := leM hc'
    exact I1.fpOk hle (I1.hok.fresh hle)
theorem for_zipB {K : PySem.W.Frag} {a b : Addr} {xs ys : List V} {g : TG} {tb : TS} {D : Ends} {σ : L2.St} {H0 H : Hp} (hl : xs.length = ys.length) (hx : SqT K H0 a xs) (hy : Sq K H0 b ys) (Pv : Nat → L2.St → Hp → Prop) (h0 : Pv 0 σ H) (old : ∀ i σ H', Pv i σ H' → Same H0 H')
    (hs : ∀ (i : Nat) (x y : V) (T : Addr) (σ : L2.St) (H' : Hp), xs[i]? = some x → ys[i]? = some y → Pv i σ H' → H' T = none → g (.ref T) σ (upd H' T (.tup [x, y])) fun σ2 H2 => tb { D with nx := Pv (i + 1), ct := Pv (i + 1), bk := D.nx } σ2 H2) (hd : ∀ σ H', Pv xs.length σ H' → D.nx σ H') :
    SqT K H a xs ∧ ((SqL K H b ys ∧ forR g tb D σ (ItM K a b) H) ∨ (SqT K H b ys ∧ forR g tb D σ (RZ.ItzT K a b) H)) := by
  refine ⟨sqT_same (old 0 σ H h0) hx, hy.imp (fun q => ⟨sqL_same (old 0 σ H h0) q, for_by (n := xs.length) Pv h0 ?_ ?_⟩) fun q => ⟨sqT_same (old 0 σ H h0) q, for_by (n := xs.length) Pv h0 ?_ ?_⟩⟩
  · intro i σ' H' lt p
    have q1 := sqT_same (old i σ' H' p) hx
    have q2 := sqL_same (old i σ' H' p) q
    refine ⟨⟨xs, ys, _, _, q1, q2, List.getElem?_eq_getElem lt, List.getElem?_eq_getElem (by omega : i < ys.length)⟩, ?_⟩
    rintro v H2 ⟨T, x, y, rfl, hT, rfl, f1, f2⟩
    exact hs i x y T σ' H' (f1 xs q1) (f2 ys q2) p hT
  · exact fun σ' H' p => ⟨⟨xs, sqT_same (old _ σ' H' p) hx, Nat.le_refl _⟩, hd σ' H' p⟩
  · intro i σ' H' lt p
    have q1 := sqT_same (old i σ' H' p) hx
    have q2 := sqT_same (old i σ' H' p) q
    refine ⟨⟨xs, ys, _, _, q1, q2, List.getElem?_eq_getElem lt, List.getElem?_eq_getElem (by omega : i < ys.length)⟩, ?_⟩
    rintro v H2 ⟨T, x, y, rfl, hT, rfl, f1, f2⟩
    exact hs i x y T σ' H' (f1 xs q1) (f2 ys q2) p hT
  · exact fun σ' H' p => ⟨⟨xs, ys, sqT_same (old _ σ' H' p) hx, sqT_same (old _ σ' H' p) q, .inl (Nat.le_refl _)⟩, hd σ' H' p⟩
end Kx
/-! a, b = a list or a tuple; a loop over a list or a tuple that is older than what the loop changes -/
namespace Kx
open L2 PySem PySem.Spec PyProof.Rows
def gSq (K : PySem.W.Frag) (n : Nat) (t : TGs) : TG := fun v σ H Q => ∃ a xs, v = .ref a ∧ Sq K H a xs ∧ xs.length = n ∧ t xs σ H Q
theorem pg_sq {X : Cx} {pos : Pos} {es : List Expr} {k : Nat} {t : TGs} {n : Nat} (hc : X.calm = true) (h : PGs X es t)
    (hn : (assignEach es X.env).length = n := by rfl) (hst : (assignEach es X.env).findIdx? (·.1) = none := by rfl) : PG X (.Tuple es k pos) (gSq X.K n t) := by
  refine ⟨fun pins s σ H v u Q I r hw => ?_⟩
  obtain ⟨a, xs, e1, hq, hl, hw⟩ := hw
  rcases hq with hq | hq
  · exact (pg_lst hc h hn hst).run pins s σ H v u Q I r ⟨a, xs, e1, hq, hl, hw⟩
  · exact (pg_tup hc h hn hst).run pins s σ H v u Q I r ⟨a, xs, e1, hq, hl, hw⟩
theorem for_old {K : PySem.W.Frag} {a : Addr} {xs : List V} {g : TG} {tb : TS} {D : Ends} {σ : L2.St} {H0 H : Hp} (hx : Sq K H0 a xs) (Pv : Nat → L2.St → Hp → Prop) (h0 : Pv 0 σ H) (old : ∀ i σ' H', Pv i σ' H' → Same H0 H')
    (turn : ∀ (i : Nat) (x : V) σ' H', xs[i]? = some x → Pv i σ' H' → g x σ' H' fun σ2 H2 => tb { D with nx := Pv (i + 1), ct := Pv (i + 1), bk := D.nx } σ2 H2)
    (hd : ∀ σ' H', Pv xs.length σ' H' → D.nx σ' H') : (SqL K H a xs ∧ forR g tb D σ (Itl K a) H) ∨ (SqT K H a xs ∧ forR g tb D σ (Itt K a) H) := by
  refine hx.imp (fun q => ⟨sqL_same (old 0 σ H h0) q, for_by (n := xs.length) Pv h0 ?_ ?_⟩) fun q => ⟨sqT_same (old 0 σ H h0) q, for_by (n := xs.length) Pv h0 ?_ ?_⟩
  · intro i σ' H' lt p
    have q' := sqL_same (old i σ' H' p) q
    refine ⟨⟨xs, xs[i], q', List.getElem?_eq_getElem lt⟩, ?_⟩
    rintro v H2 ⟨rfl, hv⟩
    exact turn i v σ' _ (hv xs q') p
  · exact fun σ' H' p => ⟨⟨xs, sqL_same (old _ σ' H' p) q, Nat.le_refl _⟩, hd σ' H' p⟩
  · intro i σ' H' lt p
    have q' := sqT_same (old i σ' H' p) q
    refine ⟨⟨xs, xs[i], q', List.getElem?_eq_getElem lt⟩, ?_⟩
    rintro v H2 ⟨rfl, hv⟩
    exact turn i v σ' _ (hv xs q') p
  · exact fun σ' H' p => ⟨⟨xs, sqT_same (old _ σ' H' p) q, Nat.le_refl _⟩, hd σ' H' p⟩
end Kx
/-! what is first put together -/
namespace KT
open L2 PySem PySem.Spec PyProof.Rows Kx RZ
theorem ix_tupK {X : Cx} {K : PySem.W.Frag} (hK : X.K = K := by rfl) : IxR X (rIxT K) := by
  subst hK
  exact ix_tup
/-- what is put together first -/
inductive Seed (PR : Nat → Nat → Prop) (ts : List (List Int)) (cs : List Nat) (L : List Int) : Int → Int → Prop
  | comm (a b : Nat) (x : Int) (pr : PR a b) (ha : a < ts.length) (hb : b < ts.length) (hx : x ∈ L) : Seed PR ts cs L (tx (ts.getD b []) (tx (ts.getD a []) x)) (tx (ts.getD a []) (tx (ts.getD b []) x))
  | turn (d : Nat) (x : Int) (hd : d < ts.length) (hx : x ∈ L) : Seed PR ts cs L x (it (ts.getD d []) (cs.getD d 0) x)
def commOf (ts : List (List Int)) (a b : Nat) (x : Int) : List Int := [tx (ts.getD b []) (tx (ts.getD a []) x), tx (ts.getD a []) (tx (ts.getD b []) x)]
def turnOf (ts : List (List Int)) (cs : List Nat) (d : Nat) (x : Int) : List Int := [x, it (ts.getD d []) (cs.getD d 0) x]
def spFirst (K : PySem.W.Frag) : Sp := fun vs H Q _ => ∃ (p pl pq r : Addr) (ps pps : List V) (ts prs : List (List Int)) (L : List Int) (cs : List Nat) (n : Nat), vs = [.ref p, .ref pl, .ref pq, .ref r] ∧ SqT K H p ps ∧ RowsBy (SqT K H) ps ts ∧ SqT K H pl (L.map V.int) ∧ Sq K H pq pps ∧ RowsBy (Sq K H) pps prs ∧
  PairsOf ts.length prs ∧ Sq K H r (cs.map fun c => V.int (c : Nat)) ∧ ts.length = cs.length ∧ ts.length ≤ 4 ∧ Wrl n ts L ∧
  ∀ l H' qs sds, Same H H' → H l = none → H' l = some (.lst qs) → RowsBy (SqT K H') qs sds → (∀ sd ∈ sds, ∃ u v, sd = [u, v] ∧ Seed (Rl prs) ts cs L u v) → (∀ u v, Seed (Rl prs) ts cs L u v → [u, v] ∈ sds) → sds.length ≤ 160 → Q (.ref l) H'
theorem getD_of {ts : List (List Int)} {d : Nat} {t : List Int} (h : ts[d]? = some t) : ts.getD d [] = t := by rw [List.getD_eq_getElem?_getD, h]; rfl
theorem RowsBy.app {R : Addr → List V → Prop} : ∀ {vs us : List V} {ts ss : List (List Int)}, RowsBy R vs ts → RowsBy R us ss → RowsBy R (vs ++ us) (ts ++ ss)
  | [], _, [], _, _, h => h
  | _ :: _, _, _ :: _, _, ⟨h1, h2⟩, h => ⟨h1, RowsBy.app h2 h⟩
  | [], _, _ :: _, _, h, _ => h.elim
  | _ :: _, _, [], _, h, _ => h.elim
section
variable {P : Program} {w : World} {K : PySem.W.Frag} {mg : Str → Option Value} {base : Heap} {f : Addr} {fd : FuncData} {a : Ad} {C CM : Addr}
theorem sc_first : FnScope ["tables", "places", "pairs", "rounds", "together", "one", "other", "first", "second", "table", "turn", "place"] ["tables", "places", "pairs", "rounds"] (defScope s_first_together) := ⟨rfl, rfl, rfl, by decide +kernel, rfl, by decide +kernel, by decide +kernel⟩
theorem ok_first (F : FnP K "_first_together" s_first_together f fd) (T : Mg mg) (c_all : Cal P w K mg base CX0 2 "_all_moved" ["table", "places", "many"] (spAllMoved K)) : FnOk P w K mg base CX0 3 f fd ["tables", "places", "pairs", "rounds"] (spFirst K) := by
  refine F.ok sc_first (fun vs H Q E h => ?_) (fun cdv A outer s H vs Q E hr h => ?_)
  · obtain ⟨p, pl, pq, r, ps, pps, ts, prs, L, cs, n, rfl, _⟩ := h
    rfl
  · obtain ⟨p, pl, pq, r, ps, pps, ts, prs, L, cs, n, rfl, hp, rows, hpl, hpq, prow, po, hc, lc, l4, wl, k⟩ := h
    refine ⟨_, PSs.nox (pss_cons (ps_set (i := 4) sc_first.nd rfl (by first | exact Or.inl rfl | exact Or.inr rfl) (pe_lst pa_nil))
      (pss_cons (ps_for PassesOwn.never rfl (pi_any (pv 2)) (pg_sq rfl (pgs_cons (pg_name (i := 5) sc_first.nd rfl (by first | exact Or.inl rfl | exact Or.inr rfl)) (pgs_cons (pg_name (i := 6) sc_first.nd rfl (by first | exact Or.inl rfl | exact Or.inr rfl)) pgs_nil)))
        (pss_cons (ps_mid (ps_asg (pe_tup (pa_cons (pe_ix ix_tup (pv 0) (pv 5) (fun _ _ => rfl)) (pa_cons (pe_ix ix_tup (pv 0) (pv 6) (fun _ _ => rfl)) pa_nil))) (pg_tup rfl (pgs_cons (pg_name (i := 7) sc_first.nd rfl (by first | exact Or.inl rfl | exact Or.inr rfl)) (pgs_cons (pg_name (i := 8) sc_first.nd rfl (by first | exact Or.inl rfl | exact Or.inr rfl)) pgs_nil)))))
        (pss_one (ps_expr (pe_bm PySem.F.plainAttrs_list PySem.F.slot_list_extend PySem.F.type_list_extend mt_extend (pv 4) (pa_cons (pe_lc (own := [("place", 11)]) (by rfl) sc_first.nd (pi_tup (pv 1)) (blkOk_by (own := [("place", 11)]) (N := ["tables", "places", "pairs", "rounds", "together", "one", "other", "first", "second", "table", "turn", "place"]) (sc := defScope s_first_together) (by decide +kernel))
          (fun _ _ _ _ _ => (pg_name (i := 11) sc_first.nd rfl (by first | exact Or.inl rfl | exact Or.inr rfl))) (fun _ _ _ _ _ => pts_nil)
          (fun _ _ _ _ _ => pe_tup (pa_cons (pe_ix (ix_tupK (K := K)) (pv 8) (pe_ix (ix_tupK (K := K)) (pv 7) (pv 11) (fun _ _ => rfl)) (fun _ _ => rfl)) (pa_cons (pe_ix (ix_tupK (K := K)) (pv 7) (pe_ix (ix_tupK (K := K)) (pv 8) (pv 11) (fun _ _ => rfl)) (fun _ _ => rfl)) pa_nil)))) pa_nil))))))
      (pss_cons (ps_for PassesOwn.never rfl (pi_zipB (by rfl) T.z_zip (pa_cons (pv 0) (pa_cons (pv 3) pa_nil))) (pg_tup rfl (pgs_cons (pg_name (i := 9) sc_first.nd rfl (by first | exact Or.inl rfl | exact Or.inr rfl)) (pgs_cons (pg_name (i := 10) sc_first.nd rfl (by first | exact Or.inl rfl | exact Or.inr rfl)) pgs_nil)))
        (pss_one (ps_expr (pe_bm PySem.F.plainAttrs_list PySem.F.slot_list_extend PySem.F.type_list_extend mt_extend (pv 4) (pa_cons (pe_callC c_all hr pass0 (pa_cons (pv 9) (pa_cons (pv 1) (pa_cons (pv 10) pa_nil)))) pa_nil)))))
      (pss_one (ps_ret (pv 4)))))), ?_⟩
    have few := wl.few
    have n8 := wl.n8
    have lps := rows.length
    have lpp := prow.length
    refine ⟨(by show 0 ≤ sizeLine; decide), fun D0 hD => ?_⟩
    have nD0 : H D0 = none := hD
    let W : Nat → Nat → Hp → Prop := fun i j H' => ∃ qs sds, Same H H' ∧ H' D0 = some (.lst qs) ∧ RowsBy (SqT K H') qs sds ∧ (∀ sd ∈ sds, ∃ u v, sd = [u, v] ∧ Seed (Rl prs) ts cs L u v) ∧
      (∀ k pr, k < i → prs[k]? = some pr → ∀ a b : Nat, pr = [(a : Int), (b : Int)] → ∀ x ∈ L, commOf ts a b x ∈ sds) ∧ (∀ d, d < j → ∀ x ∈ L, turnOf ts cs d x ∈ sds) ∧ sds.length ≤ (i + j) * 8
    have w0 : W 0 0 (upd H D0 (.lst [])) := ⟨[], [], same_new hD, upd_same, trivial, (fun _ h => nomatch h), (fun _ _ h => absurd h (Nat.not_lt_zero _)), (fun _ h => absurd h (Nat.not_lt_zero _)), by simp⟩
    have hpq1 : ∀ {H' : Hp}, Same H H' → Sq K H' pq pps := fun e => hpq.same e
    generalize upd H D0 (.lst []) = H0 at w0
    obtain ⟨_, _, e0, _⟩ := id w0
    have wS : ∀ {i j : Nat} {H1 H2 : Hp}, W i j H1 → Same H1 H2 → W i j H2 := fun ⟨qs, sds, e, h, ro, z⟩ e2 => ⟨qs, sds, e.trans e2, e2 _ _ h, ro.imp fun _ _ q => sqT_same e2 q, z⟩
    refine ⟨_, rfl, pq, pps, rfl, ?_⟩
    refine for_old (hpq) (fun i σ' H' => ∃ (x5 x6 x7 x8 x9 x10 x11 : Option V), σ' = [some (.ref p), some (.ref pl), some (.ref pq), some (.ref r), some (.ref D0), x5, x6, x7, x8, x9, x10, x11] ∧ W i 0 H') ⟨_, _, _, _, _, _, _, rfl, w0⟩ (fun i σ' H' z => by
      obtain ⟨_, _, _, _, _, _, _, _, _, _, e, _⟩ := z
      exact e) ?_ ?_
    · rintro i y σ' H1 hy ⟨x5, x6, x7, x8, x9, x10, x11, rfl, w1⟩
      have hi : i < prs.length := by rw [← lpp]; exact (List.getElem?_eq_some_iff.mp hy).1
      have pi : prs[i]? = some prs[i] := List.getElem?_eq_getElem hi
      obtain ⟨q, h1, h2⟩ := prow.at_ pi
      rw [hy] at h1
      cases h1
      obtain ⟨a, b, epr, ak, bk⟩ := po.are _ (List.getElem_mem hi)
      have ab : Rl prs a b := by
        have m := List.getElem_mem hi
        rw [epr] at m
        exact m
      rw [epr] at h2
      obtain ⟨_, _, e1, _⟩ := id w1
      have ta : ts[a]? = some (ts[a]'(by omega)) := List.getElem?_eq_getElem (by omega)
      have tb : ts[b]? = some ts[b] := List.getElem?_eq_getElem bk
      obtain ⟨qa, a1, a2⟩ := rows.at_ ta
      obtain ⟨qb, b1, b2⟩ := rows.at_ tb
      have ga := getD_of ta
      have gb := getD_of tb
      obtain ⟨al, ar, ae⟩ := wl.tab _ (List.getElem_mem (show a < ts.length by omega))
      obtain ⟨bl, br, be⟩ := wl.tab _ (List.getElem_mem bk)
      generalize ts[a]'(by omega) = tA at *
      generalize ts[b] = tB at *
      refine ⟨q, _, rfl, h2.same e1, rfl, ?_⟩
      refine ⟨_, _, rfl, _, _, rfl, rfl, ?_⟩
      refine ⟨fun σ' H' => σ' = [some (.ref p), some (.ref pl), some (.ref pq), some (.ref r), some (.ref D0), some (.int (a : Nat)), some (.int (b : Nat)), some (.ref qa), some (.ref qb), x9, x10, x11] ∧ W i 0 H', ?_, ?_⟩
      · refine ⟨_, rfl, _, rfl, p, ps, _, _, rfl, rfl, sqT_same e1 hp, atI_nat a1, _, rfl, _, rfl, p, ps, _, _, rfl, rfl, sqT_same e1 hp, atI_nat b1, (by show 2 ≤ sizeLine; decide), fun t ht => ?_⟩
        refine ⟨t, _, rfl, SqT.of upd_same, rfl, ?_⟩
        exact ⟨_, _, rfl, _, _, rfl, rfl, rfl, wS w1 (same_new (o := HO.tup [.ref qa, .ref qb]) ht)⟩
      clear w1 e1
      rintro σ' H2 ⟨rfl, w2⟩
      obtain ⟨qs, sds, e2, hD2, row2, are, have1, have2, fw⟩ := w2
      refine ⟨_, rfl, .inl ⟨rfl, _, SqL.of hD2⟩, ?_⟩
      refine ⟨_, rfl, pl, rfl, ⟨_, sqT_same e2 hpl⟩, fun D5 hD5 => ?_⟩
      have n50 : D0 ≠ D5 := fun z => by rw [← z, hD2] at hD5; cases hD5
      refine turns (n := L.length) (fun j H' => ∃ us, Same H2 H' ∧ H' D5 = some (.lst us) ∧ RowsBy (SqT K H') us ((L.take j).map (commOf ts a b))) ⟨[], same_new hD5, upd_same, trivial⟩ ?_ ?_
      · rintro j H3 hj ⟨us, e3, h3, row3⟩
        have e23 := e2.trans e3
        have xj : L[j]? = some L[j] := List.getElem?_eq_getElem hj
        refine ⟨⟨_, V.int L[j], sqT_same e23 hpl, by rw [List.getElem?_map, xj]; rfl⟩, ?_⟩
        rintro v H4 ⟨rfl, hv⟩
        have ev := hv _ (sqT_same e23 hpl)
        rw [List.getElem?_map, xj] at ev
        cases ev
        have xL := List.getElem_mem hj
        have tk : L.take (j + 1) = L.take j ++ [L[j]] := by rw [List.take_add_one, xj]; rfl
        generalize L[j] = x at *
        obtain ⟨x0, x1⟩ := wl.rng x xL
        have yA := ae.cl x xL
        have yB := be.cl x xL
        obtain ⟨y0, y1⟩ := wl.rng _ yA
        obtain ⟨z0, z1⟩ := wl.rng _ yB
        refine ⟨rfl, yes ((if_pos rfl).mpr ?_)⟩
        refine ⟨_, rfl, _, rfl, _, rfl, qa, _, _, _, rfl, rfl, sqT_same e23 a2, at_int x0 (ar.at_ x0 (by rw [al]; exact x1)).1, qb, _, _, _, rfl, rfl, sqT_same e23 b2, at_int y0 (br.at_ y0 (by rw [bl]; exact y1)).1, ?_⟩
        refine ⟨_, rfl, _, rfl, _, rfl, qb, _, _, _, rfl, rfl, sqT_same e23 b2, at_int x0 (br.at_ x0 (by rw [bl]; exact x1)).1, qa, _, _, _, rfl, rfl, sqT_same e23 a2, at_int z0 (ar.at_ z0 (by rw [al]; exact z1)).1, ?_⟩
        refine ⟨(by show 2 ≤ sizeLine; decide), fun t ht => ?_⟩
        have e4 := same_new (o := HO.tup [V.int (tx tB (tx tA x)), V.int (tx tA (tx tB x))]) ht
        have u4 : SqT K (upd H4 t (HO.tup [V.int (tx tB (tx tA x)), V.int (tx tA (tx tB x))])) t ((commOf ts a b x).map V.int) := by
          unfold commOf
          rw [ga, gb]
          exact SqT.of upd_same
        generalize upd H4 t (HO.tup [V.int (tx tB (tx tA x)), V.int (tx tA (tx tB x))]) = H5 at *
        have lus := row3.length
        rw [List.length_map, List.length_take] at lus
        have h5 := e4 _ _ h3
        refine ⟨us, h5, by rw [sizeLine_eq]; omega, us ++ [.ref t], same_put (e3.trans e4) hD5, upd_same, ?_⟩
        rw [tk, List.map_append]
        exact RowsBy.snoc (sqT_lst h5 u4) (row3.imp fun _ _ z => sqT_lst h5 (sqT_same e4 z))
      · rintro H3 ⟨us, e3, h3, row3⟩
        rw [List.take_length] at row3
        refine ⟨⟨_, sqT_same (e2.trans e3) hpl, by rw [List.length_map]; exact Nat.le_refl _⟩, ?_⟩
        have h0 := e3 _ _ hD2
        have row2' := row2.imp fun _ _ z => sqT_same e3 z
        have lq := row2.length
        have lu := row3.length
        rw [List.length_map] at lu
        have lw := po.few
        refine ⟨D0, D5, qs, us, rfl, rfl, h0, h3, by rw [sizeLine_eq]; omega, _, _, _, _, _, _, _, rfl, qs ++ us, sds ++ L.map (commOf ts a b), same_put (e2.trans e3) nD0, upd_same, (row2'.imp fun _ _ z => sqT_lst h0 z).app (row3.imp fun _ _ z => sqT_lst h0 z), fun sd hsd => ?_, fun kk pr hk hpr a' b' epr' x hx => ?_, fun d hd => absurd hd (Nat.not_lt_zero _), by rw [List.length_append, List.length_map]; omega⟩
        · rcases List.mem_append.mp hsd with h | h
          · exact are sd h
          · obtain ⟨x, hx, rfl⟩ := List.mem_map.mp h
            exact ⟨_, _, rfl, .comm a b x ab ak bk hx⟩
        · by_cases ki : kk = i
          · subst ki
            rw [pi] at hpr
            have := (Option.some.inj hpr).symm.trans epr
            rw [epr'] at this
            have ea : a' = a := by
              have := (List.cons.inj this).1
              omega
            have eb : b' = b := by
              have := (List.cons.inj (List.cons.inj this).2).1
              omega
            rw [ea, eb]
            exact List.mem_append_right _ (List.mem_map.mpr ⟨x, hx, rfl⟩)
          · exact List.mem_append_left _ (have1 kk pr (by omega) hpr a' b' epr' x hx)
    · rintro σ' H1 ⟨x5, x6, x7, x8, x9, x10, x11, rfl, w1⟩
      rw [lpp] at w1
      obtain ⟨_, _, e1, _⟩ := id w1
      refine ⟨_, rfl, _, rfl, p, r, _, _, rfl, for_zipB (xs := ps) (ys := cs.map fun c => V.int (c : Nat)) (by rw [List.length_map]; omega) hp hc (fun j σ' H' => ∃ x9 x10 x11, σ' = [some (.ref p), some (.ref pl), some (.ref pq), some (.ref r), some (.ref D0), x5, x6, x7, x8, x9, x10, x11] ∧ W prs.length j H') ⟨_, _, _, rfl, w1⟩ (fun i σ' H' z => by
        obtain ⟨_, _, _, _, _, _, e, _⟩ := z
        exact e) ?_ ?_⟩
      · rintro j u y t σ' H2 hx hy ⟨x9, x10, x11, rfl, w2⟩ ht
        have hj : j < ts.length := by rw [← lps]; exact (List.getElem?_eq_some_iff.mp hx).1
        have tj : ts[j]? = some ts[j] := List.getElem?_eq_getElem hj
        have cj : cs[j]? = some (cs[j]'(by omega)) := List.getElem?_eq_getElem (by omega)
        obtain ⟨q, h1, h2⟩ := rows.at_ tj
        rw [hx] at h1
        cases h1
        rw [List.getElem?_map, cj] at hy
        cases hy
        have gj := getD_of tj
        have gc : cs.getD j 0 = cs[j]'(by omega) := by rw [List.getD_eq_getElem?_getD, cj]; rfl
        have mt := List.getElem_mem hj
        refine ⟨t, _, rfl, SqT.of upd_same, rfl, ?_⟩
        refine ⟨_, _, rfl, _, _, rfl, rfl, ?_⟩
        have w3 := wS w2 (same_new (o := HO.tup [.ref q, .int ((cs[j]'(by omega) : Nat) : Int)]) ht)
        generalize upd H2 t (HO.tup [.ref q, .int ((cs[j]'(by omega) : Nat) : Int)]) = H3 at *
        obtain ⟨qs, sds, e3, hD3, row3, are, have1, have2, fw⟩ := w3
        have wl1 : Wrl n [ts[j]] L := ⟨fun t ht => by rw [List.mem_singleton.mp ht]; exact wl.tab _ mt, wl.rng, wl.n8, wl.nd⟩
        refine ⟨_, rfl, .inl ⟨rfl, _, SqL.of hD3⟩, ?_⟩
        refine ⟨_, rfl, _, rfl, _, rfl, q, pl, ts[j], L, cs[j]'(by omega), n, rfl, sqT_same e3 h2, sqT_same e3 hpl, wl1, fun l H4 us prs' e4 nl hl row4 are4 all4 few4 => ?_⟩
        have h4 := e4 _ _ hD3
        have lD : l ≠ D0 := fun z => by rw [z, hD3] at nl; cases nl
        have row3' := row3.imp fun _ _ z => sqT_same e4 z
        have lq := row3.length
        have lu := row4.length
        have lw := po.few
        refine ⟨D0, l, qs, us, rfl, rfl, h4, hl, by rw [sizeLine_eq]; omega, _, _, _, rfl, qs ++ us, sds ++ prs', same_put (e3.trans e4) nD0, upd_same, (row3'.imp fun _ _ z => sqT_lst h4 z).app (row4.imp fun _ _ z => sqT_lst h4 z), fun sd hsd => ?_, fun kk pr hk hpr a' b' epr' x hx => List.mem_append_left _ (have1 kk pr hk hpr a' b' epr' x hx), fun d hd x hx => ?_, by rw [List.length_append]; omega⟩
        · rcases List.mem_append.mp hsd with h | h
          · exact are sd h
          · obtain ⟨x, hx, rfl⟩ := are4 sd h
            exact ⟨_, _, rfl, by have := Seed.turn (PR := Rl prs) (ts := ts) (cs := cs) j x hj hx; rwa [gj, gc] at this⟩
        · by_cases dj : d = j
          · refine List.mem_append_right _ ?_
            rw [dj]
            unfold turnOf
            rw [gj, gc]
            exact all4 x hx
          · exact List.mem_append_left _ (have2 d (by omega) x hx)
      · rintro σ' H2 ⟨x9, x10, x11, rfl, w2⟩
        obtain ⟨qs, sds, e2, hD2, row2, are, have1, have2, fw⟩ := w2
        have := po.few
        refine ⟨_, rfl, k D0 H2 qs sds e2 nD0 hD2 row2 are (fun u v sd => ?_) (by omega)⟩
        match u, v, sd with
        | _, _, .comm a b x ab ha hb hx =>
          obtain ⟨kk, hk⟩ := List.getElem?_of_mem (show [(a : Int), (b : Int)] ∈ prs from ab)
          exact have1 kk _ (List.getElem?_eq_some_iff.mp hk).1 hk a b rfl x hx
        | _, _, .turn d x hd hx => exact have2 d (by omega) x hx
end
end KT
/-! what stands above -/
namespace KT
open L2 PySem PySem.Spec PyProof.Rows Kx RZ
/-- A leads each place of L up to the one place c of its class -/
structure Frs (L : List Int) (A c : Int → Int) (ρ : Int → Nat) : Prop where
  cl : ∀ x ∈ L, A x ∈ L
  cin : ∀ x ∈ L, c x ∈ L
  idem : ∀ x ∈ L, c (c x) = c x
  up : ∀ x ∈ L, c (A x) = c x
  root : ∀ x ∈ L, (A x = x ↔ c x = x)
  low : ∀ x ∈ L, A x ≠ x → ρ (A x) < ρ x
theorem Frs.start {L : List Int} : Frs L (fun x => x) (fun x => x) (fun _ => 0) := ⟨fun _ h => h, fun _ h => h, fun _ _ => rfl, fun _ _ => rfl, fun _ _ => Iff.rfl, fun _ _ h => absurd rfl h⟩
/-- a place goes two steps up -/
theorem Frs.half {L : List Int} {A c : Int → Int} {ρ : Int → Nat} {y : Int} (f : Frs L A c ρ) (hy : y ∈ L) (ne : A y ≠ y) : Frs L (fun z => if z = y then A (A y) else A z) c ρ := by
  have le : ∀ z ∈ L, ρ (A z) ≤ ρ z := fun z hz => by
    by_cases e : A z = z
    · rw [e]; exact Nat.le_refl _
    · exact Nat.le_of_lt (f.low z hz e)
  have l1 := f.low y hy ne
  have l2 := le _ (f.cl y hy)
  have ne2 : A (A y) ≠ y := fun z => by rw [z] at l2; omega
  refine ⟨fun x hx => ?_, f.cin, f.idem, fun x hx => ?_, fun x hx => ?_, fun x hx h => ?_⟩
  · show (if x = y then A (A y) else A x) ∈ L
    split
    · exact f.cl _ (f.cl y hy)
    · exact f.cl x hx
  · show c (if x = y then A (A y) else A x) = c x
    split
    · rename_i e
      rw [f.up _ (f.cl y hy), f.up y hy, e]
    · exact f.up x hx
  · show (if x = y then A (A y) else A x) = x ↔ _
    split
    · rename_i e
      rw [e]
      exact ⟨fun z => absurd z ne2, fun z => absurd ((f.root y hy).mpr z) ne⟩
    · exact f.root x hx
  · have h : (if x = y then A (A y) else A x) ≠ x := h
    show ρ (if x = y then A (A y) else A x) < ρ x
    split
    · rename_i e
      rw [e]
      omega
    · rename_i e
      rw [if_neg e] at h
      exact f.low x hx h
theorem dget_dict {H : Hp} {d : Addr} {L : List Int} {A : Int → Int} {y : Int} (h : H d = some (.dK (dict L A))) (hy : y ∈ L) : DGet H d (.int y) (some (.int (A y))) := by
  have := DGet.k (k := .inl y) h
  rw [valV_dict, if_pos hy] at this
  exact this
def spTop : Sp := fun vs H Q _ => ∃ (d : Addr) (L : List Int) (A c : Int → Int) (ρ : Int → Nat) (x : Int), vs = [.ref d, .int x] ∧ H d = some (.dK (dict L A)) ∧ Frs L A c ρ ∧ x ∈ L ∧ L.length ≤ 8 ∧
  ∀ A' H', Frs L A' c ρ → H' d = some (.dK (dict L A')) → (∀ b o, b ≠ d → H b = some o → H' b = some o) → (∀ b, H b = none → H' b = none) → Q (.int (c x)) H'
section
variable {P : Program} {w : World} {K : PySem.W.Frag} {mg : Str → Option Value} {base : Heap} {f : Addr} {fd : FuncData} {a : Ad} {C CM : Addr}
theorem sc_top : FnScope ["above", "place"] ["above", "place"] (defScope s_top) := ⟨rfl, rfl, rfl, by decide +kernel, rfl, by decide +kernel, by decide +kernel⟩
theorem ok_top (F : FnP K "_top" s_top f fd) (T : Mg mg) : FnOk P w K mg base CX0 1 f fd ["above", "place"] spTop := by
  refine F.ok sc_top (fun vs H Q E h => ?_) (fun cdv A outer s H vs Q E hr h => ?_)
  · obtain ⟨d, L, A', c, ρ, x, rfl, _⟩ := h
    rfl
  · obtain ⟨d, L, A0, c, ρ, x, rfl, hd, fr, hx, l8, k⟩ := h
    refine ⟨_, PSs.nox (pss_cons (ps_while PassesOwn.never (pt_cmpR op_ne (pe_dget (r1 hr) (pv 0) (pv 1) (fun _ _ => rfl)) (pv 1) (nomark _))
  (pss_cons (ps_dput (r1 hr) (pv 0) (pv 1) (pe_dget (r1 hr) (pv 0) (pe_dget (r1 hr) (pv 0) (pv 1) (fun _ _ => rfl)) (fun _ _ => rfl)) rfl)
  (pss_one (ps_set (i := 1) sc_top.nd rfl (by first | exact Or.inl rfl | exact Or.inr rfl) (pe_dget (r1 hr) (pv 0) (pv 1) (fun _ _ => rfl))))))
  (pss_one (ps_ret (pv 1)))), ?_⟩
    refine ⟨fun n σ' H' => ∃ (B : Int → Int) (y : Int), n = ρ y ∧ σ' = [some (.ref d), some (.int y)] ∧ y ∈ L ∧ c y = c x ∧ Frs L B c ρ ∧ H' d = some (.dK (dict L B)) ∧ (∀ b o, b ≠ d → H b = some o → H' b = some o) ∧ ∀ b, H b = none → H' b = none, ⟨ρ x, A0, x, rfl, rfl, hx, rfl, fr, hd, fun _ _ _ h => h, fun _ h => h⟩, ?_⟩
    rintro n σ' H' ⟨B, y, rfl, rfl, hy, cy, fb, hB, keep, none_⟩
    refine ⟨_, rfl, _, rfl, d, _, rfl, dget_dict hB hy, _, rfl, rfl, _, rfl, ite2 (fun h => ?_) (fun h => ?_)⟩
    · have ne : B y ≠ y := by simpa using h
      have yB := fb.cl y hy
      have fh := fb.half hy ne
      refine ⟨fun σ2 H2 => ∃ (B2 : Int → Int) (z : Int), ρ z < ρ y ∧ σ2 = [some (.ref d), some (.int z)] ∧ z ∈ L ∧ c z = c x ∧ Frs L B2 c ρ ∧ H2 d = some (.dK (dict L B2)) ∧ (∀ b o, b ≠ d → H b = some o → H2 b = some o) ∧ ∀ b, H b = none → H2 b = none, ?_, ?_⟩
      · rintro σ2 H2 ⟨B2, z, lt, r⟩
        exact ⟨ρ z, lt, B2, z, rfl, r⟩
      · refine ⟨_, rfl, _, rfl, _, rfl, d, _, rfl, dget_dict hB hy, d, _, rfl, dget_dict hB yB, _, rfl, _, rfl, d, _, rfl, DPut.k (k := .inl y) hB (by rw [dict_len, sizeLine_eq]; omega), ?_⟩
        rw [putK_old hy]
        have h2 : upd H' d (.dK (dict L fun z => if z = y then B (B y) else B z)) d = some (.dK (dict L fun z => if z = y then B (B y) else B z)) := upd_same
        refine ⟨_, rfl, _, rfl, d, _, rfl, dget_dict h2 hy, ?_⟩
        refine ⟨_, B (B y), ?_, ?_, fb.cl _ yB, ?_, fh, upd_same, fun b o ne' hb => by rw [upd_ne ne']; exact keep b o ne' hb, fun b hb => ?_⟩
        · have l1 := fb.low y hy ne
          by_cases e : B (B y) = B y
          · rw [e]; exact l1
          · exact Nat.lt_trans (fb.low _ yB e) l1
        · show [some (V.ref d), some (V.int (if y = y then B (B y) else B y))] = _
          rw [if_pos rfl]
        · rw [fb.up _ yB, fb.up y hy, cy]
        · have hb' := none_ b hb
          rw [upd_ne (fun z => by rw [z, hB] at hb'; cases hb')]
          exact hb'
    · have e : B y = y := by simpa using h
      have cyy := (fb.root y hy).mp e
      refine ⟨_, rfl, ?_⟩
      rw [show y = c x from by rw [← cyy, cy]]
      exact k B H' fb hB keep none_
end
end KT
/-! classes that are put together -/
namespace KT
open L2 PySem PySem.Spec PyProof.Rows Kx RZ
/-- what must be one -/
inductive Tog (PR : Nat → Nat → Prop) (ts : List (List Int)) (cs : List Nat) (L : List Int) : Int → Int → Prop
  | seed {u v : Int} (h : Seed PR ts cs L u v) : Tog PR ts cs L u v
  | refl {u : Int} (h : u ∈ L) : Tog PR ts cs L u u
  | symm {u v : Int} (h : Tog PR ts cs L u v) : Tog PR ts cs L v u
  | trans {u v w : Int} (h : Tog PR ts cs L u v) (k : Tog PR ts cs L v w) : Tog PR ts cs L u w
  | step {u v : Int} (d : Nat) (hd : d < ts.length) (h : Tog PR ts cs L u v) : Tog PR ts cs L (tx (ts.getD d []) u) (tx (ts.getD d []) v)
/-- what R makes one -/
inductive Gen (L : List Int) (R : Int → Int → Prop) : Int → Int → Prop
  | of {a b : Int} (h : R a b) (ha : a ∈ L) (hb : b ∈ L) : Gen L R a b
  | refl {a : Int} (ha : a ∈ L) : Gen L R a a
  | symm {a b : Int} (h : Gen L R a b) : Gen L R b a
  | trans {a b c : Int} (h : Gen L R a b) (k : Gen L R b c) : Gen L R a c
theorem Gen.mono {L : List Int} {R R' : Int → Int → Prop} (m : ∀ a b, R a b → a ∈ L → b ∈ L → Gen L R' a b) {a b : Int} (h : Gen L R a b) : Gen L R' a b := by
  induction h with
  | of h ha hb => exact m _ _ h ha hb
  | refl ha => exact .refl ha
  | symm _ ih => exact ih.symm
  | trans _ _ i1 i2 => exact i1.trans i2
theorem Gen.eq {L : List Int} {c : Int → Int} {a b : Int} (h : Gen L (fun a b => c a = c b) a b) : c a = c b := by
  induction h with
  | of h _ _ => exact h
  | refl _ => rfl
  | symm _ ih => exact ih.symm
  | trans _ _ i1 i2 => exact i1.trans i2
section
variable {PR : Nat → Nat → Prop} {n : Nat} {ts : List (List Int)} {cs : List Nat} {L : List Int} {u v : Int}
theorem getD_mem {d : Nat} (h : d < ts.length) : ts.getD d [] ∈ ts := by
  rw [List.getD_eq_getElem?_getD, List.getElem?_eq_getElem h]
  exact List.getElem_mem h
theorem Wrl.exc (w : Wrl n ts L) {d : Nat} (h : d < ts.length) : Exc L (ts.getD d []) := (w.tab _ (getD_mem h)).2.2
theorem Seed.inL (w : Wrl n ts L) (h : Seed PR ts cs L u v) : u ∈ L ∧ v ∈ L := by
  cases h with
  | comm a b x pr ha hb hx => exact ⟨(w.exc hb).cl _ ((w.exc ha).cl _ hx), (w.exc ha).cl _ ((w.exc hb).cl _ hx)⟩
  | turn d _ hd hx => exact ⟨hx, (w.exc hd).it_in hx _⟩
theorem Tog.inL (w : Wrl n ts L) (h : Tog PR ts cs L u v) : u ∈ L ∧ v ∈ L := by
  induction h with
  | seed h => exact h.inL w
  | refl h => exact ⟨h, h⟩
  | symm _ ih => exact ⟨ih.2, ih.1⟩
  | trans _ _ i1 i2 => exact ⟨i1.1, i2.2⟩
  | step d hd _ ih => exact ⟨(w.exc hd).cl _ ih.1, (w.exc hd).cl _ ih.2⟩
end
abbrev Gp (L : List Int) (c : Int → Int) (tog : List (List Int)) : Int → Int → Prop := Gen L fun a b => c a = c b ∨ [a, b] ∈ tog
/-- what stands while classes are put together -/
structure Uni (PR : Nat → Nat → Prop) (ts : List (List Int)) (cs : List Nat) (L : List Int) (c : Int → Int) (tog : List (List Int)) : Prop where
  inL : ∀ pr ∈ tog, ∃ u v, pr = [u, v] ∧ u ∈ L ∧ v ∈ L
  sound : ∀ x ∈ L, ∀ y ∈ L, c x = c y → Tog PR ts cs L x y
  soundT : ∀ u v, [u, v] ∈ tog → Tog PR ts cs L u v
  seeds : ∀ u v, Seed PR ts cs L u v → Gp L c tog u v
  steps : ∀ x ∈ L, ∀ y ∈ L, c x = c y → ∀ d, d < ts.length → Gp L c tog (tx (ts.getD d []) x) (tx (ts.getD d []) y)
section
variable {PR : Nat → Nat → Prop} {n : Nat} {ts : List (List Int)} {cs : List Nat} {L : List Int} {c A : Int → Int} {ρ : Int → Nat} {tog rest : List (List Int)} {one other : Int}
theorem Uni.start (w : Wrl n ts L) (h1 : ∀ sd ∈ tog, ∃ u v, sd = [u, v] ∧ Seed PR ts cs L u v) (h2 : ∀ u v, Seed PR ts cs L u v → [u, v] ∈ tog) : Uni PR ts cs L (fun x => x) tog := by
  refine ⟨fun pr h => ?_, fun x hx y _ e => ?_, fun u v h => ?_, fun u v h => ?_, fun x hx y _ e d hd => ?_⟩
  · obtain ⟨u, v, rfl, sd⟩ := h1 pr h
    exact ⟨u, v, rfl, sd.inL w⟩
  · have e : x = y := e
    rw [← e]
    exact .refl hx
  · obtain ⟨u', v', e, sd⟩ := h1 _ h
    cases e
    exact .seed sd
  · exact .of (.inr (h2 u v h)) (h.inL w).1 (h.inL w).2
  · have e : x = y := e
    rw [← e]
    exact .refl ((w.exc hd).cl x hx)
/-- a pair that is one already -/
theorem Uni.skip (u : Uni PR ts cs L c (rest ++ [[one, other]])) (e : c one = c other) : Uni PR ts cs L c rest := by
  have m : ∀ {a b : Int}, Gp L c (rest ++ [[one, other]]) a b → Gp L c rest a b := fun h => h.mono fun a b r ha hb => by
    rcases r with r | r
    · exact .of (.inl r) ha hb
    · rcases List.mem_append.mp r with r | r
      · exact .of (.inr r) ha hb
      · have := List.mem_singleton.mp r
        cases this
        exact .of (.inl e) ha hb
  exact ⟨fun pr h => u.inL pr (List.mem_append_left _ h), u.sound, fun a b h => u.soundT a b (List.mem_append_left _ h), fun a b h => m (u.seeds a b h), fun x hx y hy e d hd => m (u.steps x hx y hy e d hd)⟩
/-- the class of k takes the class of d in -/
def join (c : Int → Int) (k d : Int) : Int → Int := fun x => if c x = d then k else c x
theorem join_eq {k d x y : Int} (h : c x = c y) : join c k d x = join c k d y := by unfold join; rw [h]
theorem join_or {k d x y : Int} (h : join c k d x = join c k d y) : c x = c y ∨ (c x = d ∧ c y = k) ∨ (c x = k ∧ c y = d) := by
  unfold join at h
  by_cases h1 : c x = d
  · by_cases h2 : c y = d
    · exact .inl (h1.trans h2.symm)
    · rw [if_pos h1, if_neg h2] at h
      exact .inr (.inl ⟨h1, h.symm⟩)
  · by_cases h2 : c y = d
    · rw [if_neg h1, if_pos h2] at h
      exact .inr (.inr ⟨h, h2⟩)
    · rw [if_neg h1, if_neg h2] at h
      exact .inl h
theorem Uni.put (w : Wrl n ts L) (u : Uni PR ts cs L c (rest ++ [[one, other]])) (h1 : one ∈ L) (h2 : other ∈ L) : Uni PR ts cs L (join c (c one) (c other)) (rest ++ ts.map fun t => [tx t one, tx t other]) := by
  have t12 := u.soundT one other (List.mem_append_right _ (List.mem_singleton.mpr rfl))
  have j12 : join c (c one) (c other) one = join c (c one) (c other) other := by
    unfold join
    rw [if_pos rfl]
    split <;> rfl
  have m : ∀ {a b : Int}, Gp L c (rest ++ [[one, other]]) a b → Gp L (join c (c one) (c other)) (rest ++ ts.map fun t => [tx t one, tx t other]) a b := fun h => h.mono fun a b r ha hb => by
    rcases r with r | r
    · exact .of (.inl (join_eq r)) ha hb
    · rcases List.mem_append.mp r with r | r
      · exact .of (.inr (List.mem_append_left _ r)) ha hb
      · have := List.mem_singleton.mp r
        cases this
        exact .of (.inl j12) ha hb
  have new : ∀ d, d < ts.length → Gp L (join c (c one) (c other)) (rest ++ ts.map fun t => [tx t one, tx t other]) (tx (ts.getD d []) one) (tx (ts.getD d []) other) := fun d hd =>
    .of (.inr (List.mem_append_right _ (List.mem_map.mpr ⟨_, getD_mem hd, rfl⟩))) ((w.exc hd).cl _ h1) ((w.exc hd).cl _ h2)
  refine ⟨fun pr h => ?_, fun x hx y hy e => ?_, fun a b h => ?_, fun a b h => m (u.seeds a b h), fun x hx y hy e d hd => ?_⟩
  · rcases List.mem_append.mp h with h | h
    · exact u.inL pr (List.mem_append_left _ h)
    · obtain ⟨t, ht, rfl⟩ := List.mem_map.mp h
      exact ⟨_, _, rfl, (w.tab t ht).2.2.cl _ h1, (w.tab t ht).2.2.cl _ h2⟩
  · rcases join_or e with e | ⟨e1, e2⟩ | ⟨e1, e2⟩
    · exact u.sound x hx y hy e
    · exact (u.sound x hx other h2 e1).trans (t12.symm.trans (u.sound one h1 y hy e2.symm))
    · exact (u.sound x hx one h1 e1).trans (t12.trans (u.sound other h2 y hy e2.symm))
  · rcases List.mem_append.mp h with h | h
    · exact u.soundT a b (List.mem_append_left _ h)
    · obtain ⟨t, ht, e⟩ := List.mem_map.mp h
      cases e
      obtain ⟨d, hd⟩ := List.getElem?_of_mem ht
      have := t12.step d (List.getElem?_eq_some_iff.mp hd).1
      rwa [getD_of hd] at this
  · rcases join_or e with e | ⟨e1, e2⟩ | ⟨e1, e2⟩
    · exact m (u.steps x hx y hy e d hd)
    · exact (m (u.steps x hx other h2 e1 d hd)).trans ((new d hd).symm.trans (m (u.steps one h1 y hy e2.symm d hd)))
    · exact (m (u.steps x hx one h1 e1 d hd)).trans ((new d hd).trans (m (u.steps other h2 y hy e2.symm d hd)))
/-- in the end -/
theorem Uni.done (w : Wrl n ts L) (u : Uni PR ts cs L c []) {x y : Int} (hx : x ∈ L) (hy : y ∈ L) : c x = c y ↔ Tog PR ts cs L x y := by
  refine ⟨u.sound x hx y hy, fun h => ?_⟩
  have g : ∀ {a b : Int}, Gp L c [] a b → c a = c b := fun h => Gen.eq (h.mono fun a b r ha hb => by
    rcases r with r | r
    · exact .of r ha hb
    · cases r)
  clear hx hy
  induction h with
  | seed h => exact g (u.seeds _ _ h)
  | refl _ => rfl
  | symm _ ih => exact ih.symm
  | trans _ _ i1 i2 => exact i1.trans i2
  | step d hd h ih =>
    obtain ⟨a, b⟩ := h.inL w
    exact g (u.steps _ a _ b ih d hd)
theorem Frs.join (f : Frs L A c ρ) {k d : Int} (hk : k ∈ L) (hd : d ∈ L) (ck : c k = k) (cd : c d = d) (ne : k ≠ d) : Frs L (fun z => if z = d then k else A z) (join c k d) fun z => if z = k then 0 else ρ z + 1 := by
  have jk : KT.join c k d k = k := by
    unfold KT.join
    rw [ck, if_neg ne]
  refine ⟨fun x hx => ?_, fun x hx => ?_, fun x hx => ?_, fun x hx => ?_, fun x hx => ?_, fun x hx h => ?_⟩
  · show (if x = d then k else A x) ∈ L
    split
    · exact hk
    · exact f.cl x hx
  · show (if c x = d then k else c x) ∈ L
    split
    · exact hk
    · exact f.cin x hx
  · show KT.join c k d (if c x = d then k else c x) = if c x = d then k else c x
    split
    · exact jk
    · rename_i h
      unfold KT.join
      rw [f.idem x hx, if_neg h]
  · show KT.join c k d (if x = d then k else A x) = KT.join c k d x
    split
    · rename_i e
      rw [jk, e]
      unfold KT.join
      rw [cd, if_pos rfl]
    · exact join_eq (f.up x hx)
  · show (if x = d then k else A x) = x ↔ (if c x = d then k else c x) = x
    by_cases e : x = d
    · rw [if_pos e, e, cd, if_pos rfl]
    · rw [if_neg e]
      by_cases e2 : c x = d
      · rw [if_pos e2]
        refine ⟨fun h => ?_, fun h => ?_⟩
        · exact absurd (((f.root x hx).mp h).symm.trans e2) e
        · rw [← h, ck] at e2
          exact absurd e2 ne
      · rw [if_neg e2]
        exact f.root x hx
  · have h : (if x = d then k else A x) ≠ x := h
    show (if (if x = d then k else A x) = k then 0 else ρ (if x = d then k else A x) + 1) < (if x = k then 0 else ρ x + 1)
    by_cases e : x = d
    · rw [if_pos e, if_pos rfl, e, if_neg (Ne.symm ne)]
      omega
    · rw [if_neg e] at h ⊢
      have xk : x ≠ k := fun z => by
        rw [z] at h
        exact h ((f.root k hk).mpr ck)
      have := f.low x hx h
      rw [if_neg xk]
      split <;> omega
/-- how many classes there are -/
def roots (L : List Int) (c : Int → Int) : Nat := (L.filter fun x => decide (c x = x)).length
theorem roots_join (nd : L.Nodup) {k d : Int} (hd : d ∈ L) (ck : c k = k) (cd : c d = d) (ne : k ≠ d) : roots L (KT.join c k d) + 1 = roots L c := by
  have e1 : (L.filter fun x => decide (KT.join c k d x = x)) = (L.filter fun x => decide (c x = x)).filter (fun x => decide (x ≠ d)) := by
    rw [List.filter_filter]
    refine List.filter_congr fun x _ => ?_
    rw [Bool.eq_iff_iff, Bool.and_eq_true, decide_eq_true_eq, decide_eq_true_eq, decide_eq_true_eq]
    unfold KT.join
    by_cases e : c x = d
    · rw [if_pos e]
      refine ⟨fun h => ?_, fun ⟨h1, h2⟩ => absurd (h2.symm.trans e) h1⟩
      rw [← h, ck] at e
      exact absurd e ne
    · rw [if_neg e]
      exact ⟨fun h => ⟨fun z => e (h.trans z), h⟩, fun h => h.2⟩
  unfold roots
  rw [e1]
  have nd' := nd.filter (fun x => decide (c x = x))
  have mem : d ∈ L.filter fun x => decide (c x = x) := List.mem_filter.mpr ⟨hd, decide_eq_true cd⟩
  have : (L.filter fun x => decide (c x = x)).filter (fun x => decide (x ≠ d)) = (L.filter fun x => decide (c x = x)).erase d := by
    rw [List.Nodup.erase_eq_filter nd']
    exact List.filter_congr fun x _ => by
      rw [Bool.eq_iff_iff, decide_eq_true_eq, bne_iff_ne]
  rw [this, List.length_erase_of_mem mem]
  have := List.length_pos_of_mem mem
  omega
theorem roots_le : roots L c ≤ L.length := List.length_filter_le _ _
end
end KT
/-! lots by the places of their classes -/
namespace KT
open L2 PySem PySem.Spec PyProof.Rows Kx RZ
def keysOf (c : Int → Int) (M : List Int) : List Int := M.foldl (fun ks x => if c x ∈ ks then ks else ks ++ [c x]) []
def inC (c : Int → Int) (M : List Int) (k : Int) : List Int := M.filter fun x => decide (c x = k)
def lotsOf (c : Int → Int) (M : List Int) : List (List Int) := (keysOf c M).map (inC c M)
section
variable {c : Int → Int} {M : List Int} {x k : Int}
theorem keys_snoc : keysOf c (M ++ [x]) = if c x ∈ keysOf c M then keysOf c M else keysOf c M ++ [c x] := by
  unfold keysOf
  rw [List.foldl_append]
  rfl
theorem snoc_ind {p : List Int → Prop} (h0 : p []) (h : ∀ M x, p M → p (M ++ [x])) : ∀ M, p M := fun M => by
  have : ∀ n, ∀ M : List Int, M.length = n → p M := fun n => by
    induction n with
    | zero => exact fun M e => by rw [List.length_eq_zero_iff.mp e]; exact h0
    | succ n ih =>
      intro M e
      have ne : M ≠ [] := fun z => by rw [z] at e; cases e
      rw [← List.dropLast_concat_getLast ne]
      exact h _ _ (ih _ (by rw [List.length_dropLast, e]; rfl))
  exact this _ M rfl
theorem mem_keys : ∀ {M : List Int}, k ∈ keysOf c M ↔ ∃ x ∈ M, c x = k := fun {M} => by
  refine snoc_ind (p := fun M => k ∈ keysOf c M ↔ ∃ x ∈ M, c x = k) ?_ (fun M x ih => ?_) M
  · exact ⟨fun h => (nomatch h), fun ⟨_, h, _⟩ => (nomatch h)⟩
  · rw [keys_snoc]
    constructor
    · intro h
      split at h
      · obtain ⟨y, hy, e⟩ := ih.mp h
        exact ⟨y, List.mem_append_left _ hy, e⟩
      · rcases List.mem_append.mp h with h | h
        · obtain ⟨y, hy, e⟩ := ih.mp h
          exact ⟨y, List.mem_append_left _ hy, e⟩
        · exact ⟨x, List.mem_append_right _ (List.mem_singleton.mpr rfl), (List.mem_singleton.mp h).symm⟩
    · rintro ⟨y, hy, e⟩
      rcases List.mem_append.mp hy with hy | hy
      · have := ih.mpr ⟨y, hy, e⟩
        split
        · exact this
        · exact List.mem_append_left _ this
      · rw [List.mem_singleton.mp hy] at e
        split
        · rename_i h
          rw [← e]; exact h
        · rw [← e]
          exact List.mem_append_right _ (List.mem_singleton.mpr rfl)
theorem keys_nodup : ∀ {M : List Int}, (keysOf c M).Nodup := fun {M} => by
  refine snoc_ind (p := fun M => (keysOf c M).Nodup) .nil (fun M x ih => ?_) M
  rw [keys_snoc]
  split
  · exact ih
  · rename_i no
    exact List.nodup_append.mpr ⟨ih, by simp, fun a ha b hb e => no (by rw [← List.mem_singleton.mp hb, ← e]; exact ha)⟩
theorem inC_snoc : inC c (M ++ [x]) k = if k = c x then inC c M k ++ [x] else inC c M k := by
  unfold inC
  rw [List.filter_append]
  by_cases e : c x = k
  · rw [if_pos e.symm, List.filter_cons_of_pos (by simpa using e)]
    rfl
  · rw [if_neg (Ne.symm e), List.filter_cons_of_neg (by simpa using e)]
    simp
theorem inC_new (h : k ∉ keysOf c M) : inC c M k = [] := List.filter_eq_nil_iff.mpr fun x hx => by
  intro z
  exact h (mem_keys.mpr ⟨x, hx, of_decide_eq_true z⟩)
theorem inC_len : (inC c M k).length ≤ M.length := List.length_filter_le _ _
end
/-- a dict of lists by numbers -/
def dicR (G : List (Int × Addr)) : List (Key × V) := G.map fun g => (Sum.inl g.1, V.ref g.2)
theorem valV_dicR {k : Int} : ∀ {G : List (Int × Addr)}, (k ∉ G.map Prod.fst → valV (dicR G) (.inl k) = none) ∧ (∀ v, valV (dicR G) (.inl k) = some v → ∃ a, v = .ref a ∧ (k, a) ∈ G)
  | [] => ⟨fun _ => rfl, fun v h => by cases h⟩
  | (j, b) :: G => by
    obtain ⟨h1, h2⟩ := valV_dicR (k := k) (G := G)
    have e : dicR ((j, b) :: G) = ((Sum.inl j : Key), V.ref b) :: dicR G := rfl
    by_cases z : j = k
    · subst z
      rw [e, valV_pos (p := ((Sum.inl j : Key), V.ref b)) rfl]
      exact ⟨fun h => absurd (List.mem_cons_self ..) h, fun v h => ⟨b, (Option.some.inj h).symm, List.mem_cons_self ..⟩⟩
    · rw [e, valV_neg (p := ((Sum.inl j : Key), V.ref b)) (fun q => z (Sum.inl.inj q))]
      exact ⟨fun h => h1 fun m => h (List.mem_cons_of_mem _ m), fun v h => by
        obtain ⟨a, ha, m⟩ := h2 v h
        exact ⟨a, ha, List.mem_cons_of_mem _ m⟩⟩
theorem dicR_no {k : Int} : ∀ {G : List (Int × Addr)}, valV (dicR G) (.inl k) = none → k ∉ G.map Prod.fst
  | [], _ => fun h => nomatch h
  | (j, b) :: G, h => by
    have e : dicR ((j, b) :: G) = ((Sum.inl j : Key), V.ref b) :: dicR G := rfl
    by_cases z : j = k
    · subst z
      rw [e, valV_pos (p := ((Sum.inl j : Key), V.ref b)) rfl] at h
      cases h
    · rw [e, valV_neg (p := ((Sum.inl j : Key), V.ref b)) (fun q => z (Sum.inl.inj q))] at h
      exact fun m => (List.mem_cons.mp m).elim (fun q => z q.symm) (dicR_no h)
theorem put_dicR {G : List (Int × Addr)} {k : Int} {a : Addr} (h : k ∉ G.map Prod.fst) : putK (dicR G) (.inl k) (.ref a) = dicR (G ++ [(k, a)]) := by
  rw [putK_new _ (valV_dicR.1 h)]
  unfold dicR
  rw [List.map_append]
  rfl
/-- what stands while lots are gathered: M is done -/
structure Gth (c : Int → Int) (M : List Int) (G : List (Int × Addr)) (H : Hp) : Prop where
  keys : G.map Prod.fst = keysOf c M
  nd : (G.map Prod.snd).Nodup
  lst : ∀ g ∈ G, H g.2 = some (.lst ((inC c M g.1).map V.int))
theorem Gth.old {c : Int → Int} {M : List Int} {G : List (Int × Addr)} {H H' : Hp} {x : Int} {a : Addr} (g : Gth c M G H) (m : (c x, a) ∈ G) (ha : H' a = some (.lst ((inC c M (c x) ++ [x]).map V.int))) (ke : ∀ b o, b ≠ a → H b = some o → H' b = some o) : Gth c (M ++ [x]) G H' := by
  have mk : c x ∈ keysOf c M := by rw [← g.keys]; exact List.mem_map.mpr ⟨_, m, rfl⟩
  refine ⟨by rw [keys_snoc, if_pos mk]; exact g.keys, g.nd, fun h hh => ?_⟩
  rw [inC_snoc]
  by_cases e : h.1 = c x
  · have : h = (c x, a) := by
      have nk : (G.map Prod.fst).Nodup := by rw [g.keys]; exact keys_nodup
      have inj : ∀ {G : List (Int × Addr)} {p q : Int × Addr}, (G.map Prod.fst).Nodup → p ∈ G → q ∈ G → p.1 = q.1 → p = q := fun {G} => by
        induction G with
        | nil => intro p q _ hp; cases hp
        | cons r G ih =>
          intro p q nd hp hq e
          rw [List.map_cons, List.nodup_cons] at nd
          rcases List.mem_cons.mp hp with hp | hp
          · rcases List.mem_cons.mp hq with hq | hq
            · rw [hp, hq]
            · exact absurd (List.mem_map.mpr ⟨q, hq, by rw [← e, hp]⟩) nd.1
          · rcases List.mem_cons.mp hq with hq | hq
            · exact absurd (List.mem_map.mpr ⟨p, hp, by rw [e, hq]⟩) nd.1
            · exact ih nd.2 hp hq e
      exact inj nk hh m e
    rw [if_pos e, this]
    exact ha
  · rw [if_neg e]
    refine ke _ _ (fun z => ?_) (g.lst h hh)
    have inj : ∀ {G : List (Int × Addr)} {p q : Int × Addr}, (G.map Prod.snd).Nodup → p ∈ G → q ∈ G → p.2 = q.2 → p = q := fun {G} => by
      induction G with
      | nil => intro p q _ hp; cases hp
      | cons r G ih =>
        intro p q nd hp hq e
        rw [List.map_cons, List.nodup_cons] at nd
        rcases List.mem_cons.mp hp with hp | hp
        · rcases List.mem_cons.mp hq with hq | hq
          · rw [hp, hq]
          · exact absurd (List.mem_map.mpr ⟨q, hq, by rw [← e, hp]⟩) nd.1
        · rcases List.mem_cons.mp hq with hq | hq
          · exact absurd (List.mem_map.mpr ⟨p, hp, by rw [e, hq]⟩) nd.1
          · exact ih nd.2 hp hq e
    have := inj g.nd hh m z
    rw [this] at e
    exact e rfl
theorem Gth.new {c : Int → Int} {M : List Int} {G : List (Int × Addr)} {H H' : Hp} {x : Int} {a : Addr} (g : Gth c M G H) (no : c x ∉ keysOf c M) (na : a ∉ G.map Prod.snd) (ha : H' a = some (.lst [.int x])) (ke : ∀ b o, b ≠ a → H b = some o → H' b = some o) : Gth c (M ++ [x]) (G ++ [(c x, a)]) H' := by
  refine ⟨by rw [keys_snoc, if_neg no, List.map_append, g.keys]; rfl, ?_, fun h hh => ?_⟩
  · rw [List.map_append]
    exact List.nodup_append.mpr ⟨g.nd, by simp, fun b hb d hd e => na (by have : d = a := List.mem_singleton.mp hd; rw [← this, ← e]; exact hb)⟩
  · rw [inC_snoc]
    rcases List.mem_append.mp hh with hh | hh
    · have mk : h.1 ∈ keysOf c M := by rw [← g.keys]; exact List.mem_map.mpr ⟨_, hh, rfl⟩
      rw [if_neg fun e => no (by rw [← e]; exact mk)]
      refine ke _ _ (fun z => na ?_) (g.lst h hh)
      rw [← z]
      exact List.mem_map.mpr ⟨_, hh, rfl⟩
    · rw [List.mem_singleton.mp hh, if_pos rfl, inC_new no]
      exact ha
end KT
/-! x = {k: v for ..}, x a local -/
namespace Kx
open L2 PySem PySem.Spec PyProof.Rows
section
variable {X : Cx}
theorem ps_setDc {i : Nat} {y : Str} {py : Pos} {kx vx tg iter : Expr} {ifs : List Expr} {scope : Scope} {own : List (Str × Nat)} {pos spos : Pos} {wi : TI} {g : TG} {tt : TT} {tk tv : TE} (hc : X.calm = true) (hN : X.N.Nodup) (hy : X.N[i]? = some y) (hyl : X.env.scope.names.lookup y = some .local)
    (hsw : swapsWith (.DictComp kx vx [⟨tg, iter, ifs, 0⟩] scope pos) (some (.Name y py)) spos.line X.env = pure true) (hi : PI X tg iter wi) (ok : BlkOk X.N X.env.scope scope own)
    (hg : ∀ (s : Shared) (H : Hp) (C : Addr) (cl : List (Str × Addr)) (fp : List Addr), PG (X.blk s H scope (compEnvC scope cl C X.env) fp) tg g) (ht : ∀ (s : Shared) (H : Hp) (C : Addr) (cl : List (Str × Addr)) (fp : List Addr), PTs (X.blk s H scope (compEnvC scope cl C X.env) fp) ifs tt)
    (hk : ∀ (s : Shared) (H : Hp) (C : Addr) (cl : List (Str × Addr)) (fp : List Addr), PE (X.blk s H scope (compEnvC scope cl C X.env) fp) kx tk)
    (he : ∀ (s : Shared) (H : Hp) (C : Addr) (cl : List (Str × Addr)) (fp : List Addr), PE (X.blk s H scope (compEnvC scope cl C X.env) fp) vx tv) (hs : ∀ x, foldedSetIterable iter X.env x = pure x := by intro _; rfl) :
    PS X (.Assign [.Name y py] (.DictComp kx vx [⟨tg, iter, ifs, 0⟩] scope pos) spos) (tAsg (tDc wi g tt tk tv (own.map (·.2))) (gName i)) := by
  refine ⟨fun pins s σ H D I h => ?_⟩
  rw [exec_Assign_Name_used _ _ _ _ hsw]
  refine wpAny_bind (wpAny_standAt (wpAny_bind ?_))
  show wpAny _ X.A (do let _ ← comprehension (.DictComp kx vx [⟨tg, iter, ifs, 0⟩] scope pos) scope X.env (firstIterPos [⟨tg, iter, ifs, 0⟩] pos) newDict false (eval iter X.env) (some (assign (.Name y py) X.env))) _ _ s
  have h : tDc wi g tt tk tv (own.map (·.2)) σ H (fun x H1 => gName i x σ H1 D.nx) := h
  refine wpAny_bind (thn (dc_core (Qf := fun _ s' => SP X pins D .next s') hc hN I hi ok hg ht hk he hs h fun L C s' m H' I' q hn f => ?_) fun _ s' hq => wpAny_pure (wpAny_pure hq))
  show wpAny _ _ (assign (.Name y py) X.env (.ref L)) _ _ _
  refine wpAny_assign_Name (store_ok2 (v := V.ref L) I' hN hy (.inl hyl) rfl (fun s2 I2 ⟨a, sb, ha⟩ => ?_) (.inr hyl))
  obtain ⟨f0, f1, f2, f3, f4, f5⟩ := f
  have haC : C ≠ a := by
    rcases ha with z | z
    · rw [z]; exact f1
    · exact fun e => f4 y a z e.symm
  refine ⟨m, hn.sameBut sb haC, fun h3 sb3 => ?_⟩
  exact ⟨_, H', I2.turned (t' := s2.toks) (fun b o hb e => (sb3.2 b hb).trans e) f0 f1 f3 f4 f5, q⟩
theorem sw_dict {kx vx : Expr} {gs : List Comprehension} {scope : Scope} {pos py : Pos} {y : Str} {l : Nat} {env : Env} (hk : env.scope.kind = .function) (hy : env.scope.names.lookup y = some .local) (hl : (py.line == pos.line) = true)
    (ha : (scope.names.any fun (n, k) => n == y && (k == .local || k == .cell)) = false) : swapsWith (.DictComp kx vx gs scope pos) (some (.Name y py)) l env = pure true := by
  have ky : env.kindOf y = some .local := hy
  have hb : env.blockKind = .function := by unfold Env.blockKind; rw [hk]; rfl
  unfold swapsWith
  simp only [hb, ky, ha, Expr.pos, hl]
  rfl
end
end Kx
/-! lots -/
namespace KT
open L2 PySem PySem.Spec PyProof.Rows Kx RZ
theorem pi_tupK {X : Cx} {K : PySem.W.Frag} {tg l : Expr} {tl : TE} (hl : PE X l tl) (hK : X.K = K := by rfl) : PI X tg l (iTup K tl) := by
  subst hK
  exact pi_tup hl
theorem nodup_take {L : List Int} {i : Nat} {x : Int} (nd : L.Nodup) (h : L[i]? = some x) : x ∉ L.take i := fun m => by
  obtain ⟨j, hj⟩ := List.mem_iff_getElem?.mp m
  have lt : j < i := by
    have := (List.getElem?_eq_some_iff.mp hj).1
    rw [List.length_take] at this
    omega
  rw [List.getElem?_take_of_lt lt] at hj
  have li := (List.getElem?_eq_some_iff.mp h).1
  have := List.pairwise_iff_getElem.mp nd j i (by omega) li lt
  rw [List.getElem?_eq_getElem (by omega)] at hj
  rw [List.getElem?_eq_getElem li] at h
  exact this ((Option.some.inj hj).trans (Option.some.inj h).symm)
theorem RowsBy.take {R : Addr → List V → Prop} : ∀ {vs : List V} {ts : List (List Int)} (i : Nat), RowsBy R vs ts → RowsBy R (vs.take i) (ts.take i)
  | _, _, 0, _ => by rw [List.take_zero, List.take_zero]; trivial
  | [], [], _ + 1, _ => trivial
  | _ :: _, _ :: _, i + 1, ⟨h1, h2⟩ => ⟨h1, RowsBy.take i h2⟩
  | [], _ :: _, _ + 1, h => h.elim
  | _ :: _, [], _ + 1, h => h.elim
theorem sqT_keep {K : PySem.W.Frag} {H H' : Hp} {d p : Addr} {kvs : List (Key × V)} {xs : List V} (ke : ∀ b o, b ≠ d → H b = some o → H' b = some o) (hd : H d = some (.dK kvs)) (h : SqT K H p xs) : SqT K H' p xs := by
  rcases h with (h | ⟨z, h⟩) | h
  · exact .inl (.inl (ke _ _ (ne_of h hd (fun z => nomatch z)) h))
  · exact .inl (.inr ⟨z, ke _ _ (ne_of h hd (fun z => nomatch z)) h⟩)
  · exact .inr h
/-- c tells the classes of what must be one -/
def Cls1 (PR : Nat → Nat → Prop) (ts : List (List Int)) (cs : List Nat) (L : List Int) (c : Int → Int) : Prop := ∀ x ∈ L, ∀ y ∈ L, (c x = c y ↔ Tog PR ts cs L x y)
def spLeast (K : PySem.W.Frag) : Sp := fun vs H Q _ => ∃ (p pl pq r : Addr) (ps pps : List V) (ts prs : List (List Int)) (L : List Int) (cs : List Nat) (n : Nat), vs = [.ref p, .ref pl, .ref pq, .ref r] ∧ SqT K H p ps ∧ RowsBy (SqT K H) ps ts ∧ SqT K H pl (L.map V.int) ∧ Sq K H pq pps ∧ RowsBy (Sq K H) pps prs ∧
  PairsOf ts.length prs ∧ Sq K H r (cs.map fun c => V.int (c : Nat)) ∧ ts.length = cs.length ∧ ts.length ≤ 4 ∧ Wrl n ts L ∧
  ∀ l H' qs c, Same H H' → TupD H' l qs → RowsBy (SqT K H') qs (lotsOf c L) → Cls1 (Rl prs) ts cs L c → Q (.ref l) H'
section
variable {P : Program} {w : World} {K : PySem.W.Frag} {mg : Str → Option Value} {base : Heap} {f : Addr} {fd : FuncData} {a : Ad} {C CM : Addr}
abbrev lpN : List Str := ["tables", "places", "pairs", "rounds", "above", "together", "one", "other", "kept", "dropped", "lots", "place", "table", "lot"]
theorem sc_least : FnScope ["tables", "places", "pairs", "rounds", "above", "together", "one", "other", "kept", "dropped", "lots", "place", "table", "lot"] ["tables", "places", "pairs", "rounds"] (defScope s_least_parting) := ⟨rfl, rfl, rfl, by decide +kernel, rfl, by decide +kernel, by decide +kernel⟩
theorem ok_least (F : FnP K "least_parting" s_least_parting f fd) (T : Mg mg) (c_first : Cal P w K mg base CX0 3 "_first_together" ["tables", "places", "pairs", "rounds"] (spFirst K)) (c_top : Cal P w K mg base CX0 1 "_top" ["above", "place"] spTop) : FnOk P w K mg base CX0 4 f fd ["tables", "places", "pairs", "rounds"] (spLeast K) := by
  refine F.ok sc_least (fun vs H Q E h => ?_) (fun cdv A outer s H vs Q E hr h => ?_)
  · obtain ⟨p, pl, pq, r, ps, pps, ts, prs, L, cs, n, rfl, _⟩ := h
    rfl
  · obtain ⟨p, pl, pq, r, ps, pps, ts, prs, L, cs, n, rfl, hp, rows, hpl, hpq, prow, po, hc, lc, l4, wl, k⟩ := h
    refine ⟨_, PSs.nox (pss_cons (ps_mid (ps_setDc (i := 4) (own := [("place", 11)]) (by rfl) sc_least.nd rfl rfl (sw_dict rfl rfl rfl (by decide +kernel)) (pi_tup (pv 1)) (blkOk_by (own := [("place", 11)]) (N := ["tables", "places", "pairs", "rounds", "above", "together", "one", "other", "kept", "dropped", "lots", "place", "table", "lot"]) (sc := defScope s_least_parting) (by decide +kernel))
          (fun _ _ _ _ _ => (pg_name (i := 11) sc_least.nd rfl (by first | exact Or.inl rfl | exact Or.inr rfl))) (fun _ _ _ _ _ => pts_nil) (fun _ _ _ _ _ => pv 11) (fun _ _ _ _ _ => pv 11)))
      (pss_cons (ps_mid (ps_set (i := 5) sc_least.nd rfl (by first | exact Or.inl rfl | exact Or.inr rfl) (pe_callC c_first hr pass0 (pa_cons (pv 0) (pa_cons (pv 1) (pa_cons (pv 2) (pa_cons (pv 3) pa_nil)))))))
      (pss_cons (ps_mid (ps_while PassesOwn.never (pt_truth (pv 5) (by intro _; rfl))
        (pss_cons (ps_asg (pe_bm0 PySem.F.plainAttrs_list PySem.F.slot_list_pop PySem.F.type_list_pop mt_pop (pv 5)) (pg_tup rfl (pgs_cons (pg_name (i := 6) sc_least.nd rfl (by first | exact Or.inl rfl | exact Or.inr rfl)) (pgs_cons (pg_name (i := 7) sc_least.nd rfl (by first | exact Or.inl rfl | exact Or.inr rfl)) pgs_nil))))
        (pss_cons (ps_par (i := 8) (j := 9) (by rfl) sc_least.nd rfl rfl (by decide) rfl rfl (pa_cons (pe_callC c_top hr pass0 (pa_cons (pv 4) (pa_cons (pv 6) pa_nil))) (pa_cons (pe_callC c_top hr pass0 (pa_cons (pv 4) (pa_cons (pv 7) pa_nil))) pa_nil)) (by rfl))
        (pss_one (ps_if (pt_cmpR op_ne (pv 8) (pv 9) (nomark _))
          (pss_cons (ps_dput (r1 hr) (pv 4) (pv 9) (pv 8) rfl)
          (pss_one (ps_expr (pe_bm PySem.F.plainAttrs_list PySem.F.slot_list_extend PySem.F.type_list_extend mt_extend (pv 5) (pa_cons (pe_lc (own := [("table", 12)]) (by rfl) sc_least.nd (pi_tup (pv 0)) (blkOk_by (own := [("table", 12)]) (N := ["tables", "places", "pairs", "rounds", "above", "together", "one", "other", "kept", "dropped", "lots", "place", "table", "lot"]) (sc := defScope s_least_parting) (by decide +kernel))
            (fun _ _ _ _ _ => (pg_name (i := 12) sc_least.nd rfl (by first | exact Or.inl rfl | exact Or.inr rfl))) (fun _ _ _ _ _ => pts_nil)
            (fun _ _ _ _ _ => pe_tup (pa_cons (pe_ix (ix_tupK (K := K)) (pv 12) (pv 6) (fun _ _ => rfl)) (pa_cons (pe_ix (ix_tupK (K := K)) (pv 12) (pv 7) (fun _ _ => rfl)) pa_nil)))) pa_nil)))))
          pss_nil))))))
      (pss_cons (ps_mid (ps_set (i := 10) sc_least.nd rfl (by first | exact Or.inl rfl | exact Or.inr rfl) pe_dnewK))
      (pss_cons (ps_mid (ps_for PassesOwn.never rfl (pi_tup (pv 1)) (pg_name (i := 11) sc_least.nd rfl (by first | exact Or.inl rfl | exact Or.inr rfl))
        (pss_one (ps_expr (pe_bm PySem.F.plainAttrs_list PySem.F.slot_list_append PySem.F.type_list_append mt_append (pe_dsetd (pv 10) (pe_callC c_top hr pass0 (pa_cons (pv 4) (pa_cons (pv 11) pa_nil))) (pe_lst pa_nil) (by constructor <;> rfl)) (pa_cons (pv 11) pa_nil))))))
      (pss_one (ps_ret (pe_callTy call_tupD (by rfl) T.z_tuple bt_tuple (pa_cons (pe_lock (pe_lc (own := [("lot", 13)]) (by rfl) sc_least.nd (pi_values (pv 10)) (blkOk_by (own := [("lot", 13)]) (N := ["tables", "places", "pairs", "rounds", "above", "together", "one", "other", "kept", "dropped", "lots", "place", "table", "lot"]) (sc := defScope s_least_parting) (by decide +kernel))
          (fun _ _ _ _ _ => (pg_name (i := 13) sc_least.nd rfl (by first | exact Or.inl rfl | exact Or.inr rfl))) (fun _ _ _ _ _ => pts_nil) (fun _ _ _ _ _ => pe_callTy (call_tupK (K := K)) (by rfl) T.z_tuple bt_tuple (pa_cons (pv 13) pa_nil)))) pa_nil))))))))), ?_⟩
    have few := wl.few
    have n8 := wl.n8
    refine ⟨fun σ' H' => ∃ d, σ' = [some (.ref p), some (.ref pl), some (.ref pq), some (.ref r), some (.ref d), none, none, none, none, none, none, none, none, none] ∧ Same H H' ∧ H d = none ∧ H' d = some (.dK (dict L fun x => x)), ?_, ?_⟩
    · refine ⟨_, rfl, pl, rfl, ⟨_, hpl⟩, fun D0 hD => turns (n := L.length) (fun i H' => Same H H' ∧ H' D0 = some (.dK (dict (L.take i) fun x => x))) ⟨same_new hD, upd_same⟩ ?_ ?_⟩
      · rintro i H1 hi ⟨e1, h1⟩
        have xi : L[i]? = some L[i] := List.getElem?_eq_getElem hi
        refine ⟨⟨_, V.int L[i], sqT_same e1 hpl, by rw [List.getElem?_map, xi]; rfl⟩, ?_⟩
        rintro v H2 ⟨rfl, hv⟩
        have ev := hv _ (sqT_same e1 hpl)
        rw [List.getElem?_map, xi] at ev
        cases ev
        refine ⟨rfl, yes ((if_pos rfl).mpr ?_)⟩
        refine ⟨_, rfl, _, rfl, _, .inl L[i], rfl, h1, by rw [dict_len, List.length_take, sizeLine_eq]; omega, same_put e1 hD, ?_⟩
        rw [upd_same, putK_more (nodup_take wl.nd xi), List.take_add_one, xi]
        congr 2
        exact dict_congr fun x _ => by
          by_cases e : x = L[i]
          · rw [if_pos e, e]
          · rw [if_neg e]
      · rintro H1 ⟨e1, h1⟩
        rw [List.take_length] at h1
        exact ⟨⟨_, sqT_same e1 hpl, by rw [List.length_map]; exact Nat.le_refl _⟩, D0, rfl, e1, hD, h1⟩
    rintro σ' H1 ⟨d, rfl, e1, nd, hd⟩
    refine ⟨fun σ' H' => ∃ tg, σ' = [some (.ref p), some (.ref pl), some (.ref pq), some (.ref r), some (.ref d), some (.ref tg), none, none, none, none, none, none, none, none] ∧ Same H H' ∧ H tg = none ∧ d ≠ tg ∧ H' d = some (.dK (dict L fun x => x)) ∧ ∃ qs sds, H' tg = some (.lst qs) ∧ RowsBy (SqT K H') qs sds ∧ Uni (Rl prs) ts cs L (fun x => x) sds ∧ sds.length ≤ 160, ?_, ?_⟩
    · refine ⟨_, rfl, _, rfl, _, rfl, _, rfl, p, pl, pq, r, ps, pps, ts, prs, L, cs, n, rfl, sqT_same e1 hp, rows.imp fun _ _ z => sqT_same e1 z, sqT_same e1 hpl, hpq.same e1, prow.imp fun _ _ z => z.same e1, po, hc.same e1, lc, l4, wl, fun l H2 qs sds e2 nl hl row2 are all fw => ?_⟩
      refine ⟨l, rfl, e1.trans e2, ?_, fun z => ?_, e2 _ _ hd, qs, sds, hl, row2, .start wl are all, fw⟩
      · cases z : H l with
        | none => rfl
        | some o => rw [e1 _ _ z] at nl; cases nl
      · rw [← z, hd] at nl
        cases nl
    clear e1 hd
    rintro σ' H2 ⟨tg, rfl, e2, nt, dt, hd2, qs0, sds0, ht2, row2, u0, fw0⟩
    refine ⟨fun σ' H' => ∃ (x6 x7 x8 x9 x12 : Option V) (A c : Int → Int) (ρ : Int → Nat), σ' = [some (.ref p), some (.ref pl), some (.ref pq), some (.ref r), some (.ref d), some (.ref tg), x6, x7, x8, x9, none, none, x12, none] ∧ Same H H' ∧ H' d = some (.dK (dict L A)) ∧ Frs L A c ρ ∧ Uni (Rl prs) ts cs L c [], ?_, ?_⟩
    · refine ⟨fun m σ' H' => ∃ (x6 x7 x8 x9 x12 : Option V) (A c : Int → Int) (ρ : Int → Nat) (qs : List V) (sds : List (List Int)), m = roots L c * 5 + sds.length ∧ m ≤ 200 ∧ σ' = [some (.ref p), some (.ref pl), some (.ref pq), some (.ref r), some (.ref d), some (.ref tg), x6, x7, x8, x9, none, none, x12, none] ∧ Same H H' ∧ H' d = some (.dK (dict L A)) ∧ Frs L A c ρ ∧ H' tg = some (.lst qs) ∧ RowsBy (SqT K H') qs sds ∧ Uni (Rl prs) ts cs L c sds, ⟨_, _, _, _, _, _, _, _, _, qs0, sds0, rfl, by have := roots_le (L := L) (c := fun x => x); omega, rfl, e2, hd2, .start, ht2, row2, u0⟩, ?_⟩
      rintro m σ' H3 ⟨x6, x7, x8, x9, x12, A', c, ρ, qs, sds, rfl, m200, rfl, e3, hd3, fr, ht3, row3, un⟩
      have lqs := row3.length
      cases hs : sds with
      | nil =>
        subst hs
        obtain rfl : qs = [] := List.length_eq_zero_iff.mp lqs
        exact ⟨_, rfl, false, .inl ⟨_, SqL.of ht3, rfl⟩, iteF ⟨x6, x7, x8, x9, x12, A', c, ρ, rfl, e3, hd3, fr, un⟩⟩
      | cons s0 s1 =>
      have ne : sds ≠ [] := fun z => by rw [z] at hs; cases hs
      have eds : sds = sds.dropLast ++ [sds.getLast ne] := (List.dropLast_concat_getLast ne).symm
      rw [← hs]
      clear hs
      generalize sds.getLast ne = lastp at eds
      generalize sds.dropLast = rest at eds
      subst eds
      clear ne
      obtain ⟨one, other, rfl, h1, h2⟩ := un.inL lastp (List.mem_append_right _ (List.mem_singleton.mpr rfl))
      obtain ⟨q, hq1, hq2⟩ := row3.at_ (i := rest.length) (t := [one, other]) (by rw [List.getElem?_append_right (Nat.le_refl _), Nat.sub_self]; rfl)
      rw [List.length_append, List.length_singleton] at lqs m200
      have eqs : qs = qs.dropLast ++ [.ref q] := by
        have nq : qs ≠ [] := fun z => by rw [z] at lqs; simp at lqs
        conv => lhs; rw [← List.dropLast_concat_getLast nq]
        congr 2
        rw [List.getLast_eq_getElem]
        have := List.getElem?_eq_some_iff.mp hq1
        obtain ⟨hh, e⟩ := this
        rw [← e]
        congr 1
        omega
      have rowR : RowsBy (SqT K H3) qs.dropLast rest := by
        have := row3.take rest.length
        rw [List.take_append_of_le_length (Nat.le_refl _), List.take_length] at this
        rwa [show qs.take rest.length = qs.dropLast from by rw [List.dropLast_eq_take]; congr 1; omega] at this
      have tru : true = !qs.isEmpty := by
        cases qs with
        | nil => simp at lqs
        | cons => rfl
      have lastq : qs[qs.length - 1]? = some (.ref q) := by rw [lqs]; exact hq1
      have l8 : L.length ≤ 8 := by omega
      refine ⟨_, rfl, true, .inl ⟨_, SqL.of ht3, tru⟩, iteT ?_⟩
      refine ⟨fun σ2 H5 => ∃ (x6 x7 x8 x9 x12 : Option V) (A2 c2 : Int → Int) (ρ2 : Int → Nat) (qs2 : List V) (sds2 : List (List Int)), roots L c2 * 5 + sds2.length < roots L c * 5 + (rest.length + 1) ∧ σ2 = [some (.ref p), some (.ref pl), some (.ref pq), some (.ref r), some (.ref d), some (.ref tg), x6, x7, x8, x9, none, none, x12, none] ∧ Same H H5 ∧ H5 d = some (.dK (dict L A2)) ∧ Frs L A2 c2 ρ2 ∧ H5 tg = some (.lst qs2) ∧ RowsBy (SqT K H5) qs2 sds2 ∧ Uni (Rl prs) ts cs L c2 sds2, ?_, ?_⟩
      · rintro σ2 H5 ⟨y6, y7, y8, y9, y12, A2, c2, ρ2, qs2, sds2, lt, z⟩
        exact ⟨_, by rw [List.length_append, List.length_singleton]; exact lt, y6, y7, y8, y9, y12, A2, c2, ρ2, qs2, sds2, rfl, by omega, z⟩
      refine ⟨_, rfl, .inl ⟨rfl, _, SqL.of ht3⟩, tg, qs, .ref q, rfl, rfl, ht3, lastq, ?_⟩
      have e4 : Same H (upd H3 tg (.lst qs.dropLast)) := same_put e3 nt
      have hd4 : (upd H3 tg (.lst qs.dropLast)) d = some (.dK (dict L A')) := by rw [upd_ne dt]; exact hd3
      have ht4 : (upd H3 tg (.lst qs.dropLast)) tg = some (.lst qs.dropLast) := upd_same
      have row4 : RowsBy (SqT K (upd H3 tg (.lst qs.dropLast))) qs.dropLast rest := rowR.imp fun _ _ z => sqT_lst ht3 z
      have hq4 : SqT K (upd H3 tg (.lst qs.dropLast)) q ([one, other].map V.int) := sqT_lst ht3 hq2
      generalize upd H3 tg (.lst qs.dropLast) = H4 at e4 hd4 ht4 row4 hq4 ⊢
      refine ⟨q, _, rfl, hq4, rfl, ?_⟩
      refine ⟨_, _, rfl, _, _, rfl, rfl, ?_⟩
      refine ⟨_, rfl, _, rfl, d, L, A', c, ρ, one, rfl, hd4, fr, h1, l8, fun A1 H5 fr1 hd5 ke5 no5 => ?_⟩
      have e5 : Same H H5 := fun b o hb => ke5 b o (fun z => by rw [z, nd] at hb; cases hb) (e4 b o hb)
      have ht5 := ke5 _ _ (Ne.symm dt) ht4
      have row5 := row4.imp fun _ _ z => sqT_keep ke5 hd4 z
      refine ⟨_, rfl, _, rfl, d, L, A1, c, ρ, other, rfl, hd5, fr1, h2, l8, fun A2 H6 fr2 hd6 ke6 no6 => ?_⟩
      have e6 : Same H H6 := fun b o hb => ke6 b o (fun z => by rw [z, nd] at hb; cases hb) (e5 b o hb)
      have ht6 := ke6 _ _ (Ne.symm dt) ht5
      have row6 := row5.imp fun _ _ z => sqT_keep ke6 hd5 z
      clear e4 hd4 ht4 row4 hq4 ke5 no5 ke6 no6 e5 hd5 ht5 row5 fr1 fr e3 hd3 ht3 row3 rowR hq2
      refine ⟨_, _, rfl, ?_⟩
      refine ⟨_, rfl, _, rfl, rfl, _, rfl, ite2 (fun h => ?_) (fun h => ?_)⟩
      · have ne : c one ≠ c other := by simpa using h
        have k1 := fr2.cin one h1
        have k2 := fr2.cin other h2
        refine ⟨_, rfl, _, rfl, _, rfl, d, _, rfl, DPut.k (k := .inl (c other)) hd6 (by rw [dict_len, sizeLine_eq]; omega), ?_⟩
        rw [putK_old k2]
        have fr7 := fr2.join k1 k2 (fr2.idem one h1) (fr2.idem other h2) ne
        have e7 : Same H (upd H6 d (.dK (dict L fun z => if z = c other then c one else A2 z))) := same_put e6 nd
        have hd7 : (upd H6 d (.dK (dict L fun z => if z = c other then c one else A2 z))) d = some (.dK (dict L fun z => if z = c other then c one else A2 z)) := upd_same
        have ht7 : (upd H6 d (.dK (dict L fun z => if z = c other then c one else A2 z))) tg = some (.lst qs.dropLast) := by rw [upd_ne (Ne.symm dt)]; exact ht6
        have row7 : RowsBy (SqT K (upd H6 d (.dK (dict L fun z => if z = c other then c one else A2 z)))) qs.dropLast rest := row6.imp fun _ _ z => sqT_keep (fun b o nb hb => by rw [upd_ne nb]; exact hb) hd6 z
        generalize upd H6 d (.dK (dict L fun z => if z = c other then c one else A2 z)) = H7 at e7 hd7 ht7 row7 ⊢
        have un7 := un.put wl h1 h2
        have rj := roots_join wl.nd k2 (fr2.idem one h1) (fr2.idem other h2) ne
        obtain ⟨o0, o1⟩ := wl.rng one h1
        obtain ⟨u0', u1'⟩ := wl.rng other h2
        have lps := rows.length
        refine ⟨_, rfl, .inl ⟨rfl, _, SqL.of ht7⟩, ?_⟩
        refine ⟨_, rfl, p, rfl, ⟨_, sqT_same e7 hp⟩, fun D5 hD5 => ?_⟩
        refine turns (n := ts.length) (fun j H' => ∃ us, Same H7 H' ∧ H' D5 = some (.lst us) ∧ RowsBy (SqT K H') us ((ts.take j).map fun t => [tx t one, tx t other])) ⟨[], same_new hD5, upd_same, trivial⟩ ?_ ?_
        · rintro j H8 hj ⟨us, e8, h8, row8⟩
          have e78 := e7.trans e8
          have tj : ts[j]? = some ts[j] := List.getElem?_eq_getElem hj
          obtain ⟨qa, a1, a2⟩ := rows.at_ tj
          obtain ⟨tl, tr, te⟩ := wl.tab _ (List.getElem_mem hj)
          refine ⟨⟨_, V.ref qa, sqT_same e78 hp, a1⟩, ?_⟩
          rintro v H9 ⟨rfl, hv⟩
          have ev := hv _ (sqT_same e78 hp)
          rw [a1] at ev
          cases ev
          refine ⟨rfl, yes ((if_pos rfl).mpr ?_)⟩
          refine ⟨_, rfl, _, rfl, qa, _, _, _, rfl, rfl, sqT_same e78 a2, at_int o0 (tr.at_ o0 (by rw [tl]; exact o1)).1, ?_⟩
          refine ⟨_, rfl, _, rfl, qa, _, _, _, rfl, rfl, sqT_same e78 a2, at_int u0' (tr.at_ u0' (by rw [tl]; exact u1')).1, ?_⟩
          refine ⟨(by show 2 ≤ sizeLine; decide), fun t ht => ?_⟩
          have e9 := same_new (o := HO.tup [V.int (tx ts[j] one), V.int (tx ts[j] other)]) ht
          have u9 : SqT K (upd H9 t (HO.tup [V.int (tx ts[j] one), V.int (tx ts[j] other)])) t ([tx ts[j] one, tx ts[j] other].map V.int) := SqT.of upd_same
          generalize upd H9 t (HO.tup [V.int (tx ts[j] one), V.int (tx ts[j] other)]) = H10 at *
          have lus := row8.length
          rw [List.length_map, List.length_take] at lus
          have h10 := e9 _ _ h8
          refine ⟨us, h10, by rw [sizeLine_eq]; omega, us ++ [.ref t], same_put (e8.trans e9) hD5, upd_same, ?_⟩
          rw [List.take_add_one, tj, List.map_append]
          exact RowsBy.snoc (sqT_lst h10 u9) (row8.imp fun _ _ z => sqT_lst h10 (sqT_same e9 z))
        · rintro H8 ⟨us, e8, h8, row8⟩
          rw [List.take_length] at row8
          refine ⟨⟨_, sqT_same (e7.trans e8) hp, by rw [lps]; exact Nat.le_refl _⟩, ?_⟩
          have ht8 := e8 _ _ ht7
          have hd8 := e8 _ _ hd7
          have row7' := row7.imp fun _ _ z => sqT_same e8 z
          have lq7 := row7.length
          have lu8 := row8.length
          rw [List.length_map] at lu8
          refine ⟨tg, D5, qs.dropLast, us, rfl, rfl, ht8, h8, by rw [sizeLine_eq]; omega, _, _, _, _, _, _, join c (c one) (c other), _, qs.dropLast ++ us, rest ++ ts.map fun t => [tx t one, tx t other], by rw [List.length_append, List.length_map]; omega, rfl, same_put (e7.trans e8) nt, by rw [upd_ne dt]; exact hd8, fr7, upd_same, (row7'.imp fun _ _ z => sqT_lst ht8 z).app (row8.imp fun _ _ z => sqT_lst ht8 z), un7⟩
      · have ee : c one = c other := by simpa using h
        exact ⟨_, _, _, _, _, A2, c, ρ, qs.dropLast, rest, by omega, rfl, e6, hd6, fr2, ht6, row6, un.skip ee⟩
    clear hd2 row2 ht2 u0 fw0
    rintro σ' H3 ⟨x6, x7, x8, x9, x12, A', c, ρ, rfl, e3, hd3, fr, un⟩
    have cl : Cls1 (Rl prs) ts cs L c := fun x hx y hy => un.done wl hx hy
    have l8 : L.length ≤ 8 := by omega
    clear un
    refine ⟨fun σ' H' => ∃ g, σ' = [some (.ref p), some (.ref pl), some (.ref pq), some (.ref r), some (.ref d), some (.ref tg), x6, x7, x8, x9, some (.ref g), none, x12, none] ∧ Same H H' ∧ H g = none ∧ g ≠ d ∧ H' d = some (.dK (dict L A')) ∧ H' g = some (.dK []), ?_, ?_⟩
    · refine fun g hg => ⟨g, rfl, e3.trans (same_new hg), ?_, fun z => ?_, same_new hg _ _ hd3, upd_same⟩
      · cases z : H g with
        | none => rfl
        | some o => rw [e3 _ _ z] at hg; cases hg
      · rw [z, hd3] at hg
        cases hg
    clear e3 hd3
    rintro σ' H4 ⟨g, rfl, e4, ng, gd, hd4, hg4⟩
    refine ⟨fun σ' H' => ∃ (x11 : Option V) (G : List (Int × Addr)), σ' = [some (.ref p), some (.ref pl), some (.ref pq), some (.ref r), some (.ref d), some (.ref tg), x6, x7, x8, x9, some (.ref g), x11, x12, none] ∧ Same H H' ∧ H' g = some (.dK (dicR G)) ∧ Gth c L G H', ?_, ?_⟩
    · refine ⟨_, rfl, pl, rfl, ⟨_, sqT_same e4 hpl⟩, ?_⟩
      refine for_tup (xs := L.map V.int) (fun i σ' H' => ∃ (x11 : Option V) (G : List (Int × Addr)) (A2 : Int → Int), σ' = [some (.ref p), some (.ref pl), some (.ref pq), some (.ref r), some (.ref d), some (.ref tg), x6, x7, x8, x9, some (.ref g), x11, x12, none] ∧ Same H H' ∧ H' g = some (.dK (dicR G)) ∧ Gth c (L.take i) G H' ∧ H' d = some (.dK (dict L A2)) ∧ Frs L A2 c ρ ∧ ∀ a ∈ G.map Prod.snd, H a = none) ⟨_, [], A', rfl, e4, hg4, ⟨rfl, .nil, fun _ h => nomatch h⟩, hd4, fr, fun _ h => nomatch h⟩ (fun i σ' H' _ z => by
        obtain ⟨_, _, _, _, e, _⟩ := z
        exact sqT_same e hpl) ?_ ?_
      · rintro i y σ' H5 hy ⟨x11, G, A2, rfl, e5, hg5, gt, hd5, fr2, free⟩
        obtain ⟨x, hx, rfl⟩ : ∃ x, L[i]? = some x ∧ y = .int x := by
          rw [List.getElem?_map, Option.map_eq_some_iff] at hy
          obtain ⟨z, h1, h2⟩ := hy
          exact ⟨z, h1, h2.symm⟩
        have xL := List.mem_of_getElem? hx
        have tk : L.take (i + 1) = L.take i ++ [x] := by rw [List.take_add_one, hx]; rfl
        rw [tk]
        refine ⟨_, rfl, g, rfl, .inl ⟨_, .inl hg5⟩, ?_⟩
        refine ⟨_, rfl, _, rfl, d, L, A2, c, ρ, x, rfl, hd5, fr2, xL, l8, fun A3 H6 fr3 hd6 ke6 no6 => ?_⟩
        have e6 : Same H H6 := fun b o hb => ke6 b o (fun z => by rw [z, nd] at hb; cases hb) (e5 b o hb)
        have hg6 := ke6 _ _ gd hg5
        have gt6 : Gth c (L.take i) G H6 := ⟨gt.keys, gt.nd, fun h hh => ke6 _ _ (ne_of (gt.lst h hh) hd5 (fun z => nomatch z)) (gt.lst h hh)⟩
        clear e5 hg5 gt hd5 ke6 fr2 no6
        refine ⟨(by show 0 ≤ sizeLine; decide), fun l hl => ?_⟩
        have e7 := same_new (o := HO.lst []) hl
        have u7 := upd_same (H := H6) (a := l) (o := HO.lst [])
        have nl : H l = none := by
          cases z : H l with
          | none => rfl
          | some o => rw [e6 _ _ z] at hl; cases hl
        have lG : l ∉ G.map Prod.snd := fun m => by
          obtain ⟨h, hh, z⟩ := List.mem_map.mp m
          have := gt6.lst h hh
          rw [z, hl] at this
          cases this
        have ld : l ≠ d := fun z => by rw [z, hd6] at hl; cases hl
        have lg : l ≠ g := fun z => by rw [z, hg6] at hl; cases hl
        have e67 := e6.trans e7
        have hg7 := e7 _ _ hg6
        have hd7 := e7 _ _ hd6
        have gt7 : Gth c (L.take i) G (upd H6 l (HO.lst [])) := ⟨gt6.keys, gt6.nd, fun h hh => e7 _ _ (gt6.lst h hh)⟩
        generalize upd H6 l (HO.lst []) = H7 at *
        have lk : (dicR G).length ≤ 8 := by
          have : (dicR G).length = (G.map Prod.fst).length := by unfold dicR; rw [List.length_map, List.length_map]
          rw [this, gt6.keys]
          have := nodup_le (keys_nodup (c := c) (M := L.take i)) (L := L) fun k hk => by
            obtain ⟨y, hy, rfl⟩ := mem_keys.mp hk
            exact fr3.cin y (List.mem_of_mem_take hy)
          omega
        refine ⟨dicR G, .inl (c x), hg7, rfl, by rw [sizeLine_eq]; omega, fun v hv => ?_, fun hn => ?_⟩
        · obtain ⟨a', rfl, m⟩ := valV_dicR.2 v hv
          have ha := gt7.lst _ m
          have na := free a' (List.mem_map.mpr ⟨_, m, rfl⟩)
          have ad : a' ≠ d := ne_of ha hd7 (fun z => nomatch z)
          have ag : a' ≠ g := ne_of ha hg7 (fun z => nomatch z)
          refine ⟨.inl ⟨rfl, _, SqL.of ha⟩, _, rfl, a', _, _, rfl, rfl, ha, by have := inC_len (c := c) (M := L.take i) (k := c x); rw [List.length_take] at this; show (List.map V.int (inC c (L.take i) (c x))).length < sizeLine; rw [List.length_map, sizeLine_eq]; omega, ?_⟩
          exact ⟨_, G, A3, rfl, same_put e67 na, by rw [upd_ne (Ne.symm ag)]; exact hg7, gt7.old m (by rw [upd_same, List.map_append]; rfl) (fun b o nb hb => by rw [upd_ne nb]; exact hb), by rw [upd_ne (Ne.symm ad)]; exact hd7, fr3, free⟩
        · have no := dicR_no hn
          rw [put_dicR no]
          have u8 : (upd H7 g (.dK (dicR (G ++ [(c x, l)])))) l = some (.lst []) := by rw [upd_ne lg]; exact u7
          refine ⟨.inl ⟨rfl, _, SqL.of u8⟩, _, rfl, l, _, _, rfl, rfl, u8, (by show 0 < sizeLine; decide), ?_⟩
          refine ⟨_, G ++ [(c x, l)], A3, rfl, same_put (same_put e67 ng) nl, by rw [upd_ne (Ne.symm lg)]; exact upd_same, ?_, by rw [upd_ne (Ne.symm ld), upd_ne (Ne.symm gd)]; exact hd7, fr3, fun b hb => ?_⟩
          · have gt8 : Gth c (L.take i) G (upd H7 g (.dK (dicR (G ++ [(c x, l)])))) := ⟨gt7.keys, gt7.nd, fun h hh => by rw [upd_ne (ne_of (gt7.lst h hh) hg7 (fun z => nomatch z))]; exact gt7.lst h hh⟩
            exact gt8.new (by rw [← gt7.keys]; exact no) lG upd_same (fun b o nb hb => by rw [upd_ne nb]; exact hb)
          · rw [List.map_append] at hb
            rcases List.mem_append.mp hb with hb | hb
            · exact free b hb
            · have : b = l := List.mem_singleton.mp hb
              rw [this]; exact nl
      · rintro σ' H5 ⟨x11, G, A2, rfl, e5, hg5, gt, hd5, fr2, free⟩
        rw [List.length_map, List.take_length] at gt
        exact ⟨_, G, rfl, e5, hg5, gt⟩
    have frin := fr.cin
    clear e4 hd4 hg4 fr
    rintro σ' H5 ⟨x11, G, rfl, e5, hg5, gt⟩
    refine ⟨g, .dK (dicR G), hg5, trivial, fun od => ?_⟩
    refine ⟨_, rfl, g, od, dicR G, rfl, upd_same, fun D0 hD => ?_⟩
    have lG : G.length = (keysOf c L).length := by rw [← gt.keys, List.length_map]
    have lk : G.length ≤ 8 := by
      rw [lG]
      have := nodup_le (keys_nodup (c := c) (M := L)) (L := L) fun k hk => by
        obtain ⟨y, hy, rfl⟩ := mem_keys.mp hk
        exact frin y hy
      omega
    have gD : g ≠ D0 := fun z => by rw [← z, upd_same] at hD; cases hD
    have nD : H5 D0 = none := by rw [upd_ne (Ne.symm gD)] at hD; exact hD
    refine turns (n := G.length) (fun i H' => ∃ us, H' g = some (.frz od (.dK (dicR G))) ∧ (∀ b o, b ≠ g → H5 b = some o → H' b = some o) ∧ H' D0 = some (.lst us) ∧ RowsBy (SqT K H') us (((keysOf c L).take i).map (inC c L))) ⟨[], by rw [upd_ne gD]; exact upd_same, fun b o nb hb => by rw [upd_ne (fun z => by rw [z, nD] at hb; cases hb), upd_ne nb]; exact hb, upd_same, trivial⟩ ?_ ?_
    · rintro i H6 hi ⟨us, f6, ke6, h6, row6⟩
      have gi : G[i]? = some G[i] := List.getElem?_eq_getElem hi
      have ki : (keysOf c L)[i]? = some G[i].1 := by rw [← gt.keys, List.getElem?_map, gi]; rfl
      refine ⟨⟨f6, by unfold dicR; rw [List.length_map]; exact hi⟩, ?_⟩
      rintro v H7 ⟨rfl, kk, hv⟩
      have hv' : v = .ref G[i].2 := by
        unfold dicR at hv
        rw [List.getElem?_map, gi] at hv
        have := Option.some.inj hv
        exact (congrArg Prod.snd this).symm
      subst hv'
      have ha := gt.lst _ (List.getElem_mem hi)
      have ha7 := ke6 _ _ (ne_of ha hg5 (fun z => nomatch z)) ha
      refine ⟨rfl, yes ((if_pos rfl).mpr ?_)⟩
      refine ⟨_, rfl, G[i].2, _, rfl, .inl (SqL.of ha7), fun t H8 e8 ht => ?_⟩
      have lus := row6.length
      rw [List.length_map, List.length_take] at lus
      have h8 := e8 _ _ h6
      refine ⟨us, h8, by rw [sizeLine_eq]; omega, us ++ [.ref t], by rw [upd_ne gD]; exact e8 _ _ f6, fun b o nb hb => ?_, upd_same, ?_⟩
      · rw [upd_ne (fun z => by rw [z, nD] at hb; cases hb)]
        exact e8 _ _ (ke6 b o nb hb)
      · rw [List.take_add_one, ki, List.map_append]
        exact RowsBy.snoc (sqT_lst h8 ht) (row6.imp fun _ _ z => sqT_lst h8 (sqT_same e8 z))
    · rintro H6 ⟨us, f6, ke6, h6, row6⟩
      refine ⟨⟨f6, by unfold dicR; rw [List.length_map]; exact Nat.le_refl _⟩, f6, ?_⟩
      rw [lG, List.take_length] at row6
      have un : ∀ {p : Addr} {xs : List V}, SqT K H6 p xs → SqT K (upd H6 g (.dK (dicR G))) p xs := fun {p xs} h => by
        rcases h with (h | ⟨z, h⟩) | h
        · exact .inl (.inl (by rw [upd_ne (ne_of h f6 (fun z => nomatch z))]; exact h))
        · exact .inl (.inr ⟨z, by rw [upd_ne (ne_of h f6 (fun z => nomatch z))]; exact h⟩)
        · exact .inr h
      refine ⟨D0, us, rfl, .inl (SqL.of (by rw [upd_ne (Ne.symm gD)]; exact h6)), fun t H7 e7 ht => ?_⟩
      exact k t H7 us c (fun b o hb => e7 b o (by rw [upd_ne (fun z => by rw [z, ng] at hb; cases hb)]; exact ke6 b o (fun z => by rw [z, ng] at hb; cases hb) (e5 b o hb))) ht (row6.imp fun _ _ z => sqT_same e7 (un z)) cl
end
end KT
/-! lots of a machine and counters -/
namespace KT
open L2 PySem PySem.Spec PyProof.Rows Kx RZ
/-- a machine that exchanges, and the states that come -/
structure Mch (n : Nat) (ts : List (List Int)) (s : Int) (L : List Int) : Prop where
  ok : Mok n ts
  s0 : 0 ≤ s
  s1 : s < (n : Int)
  ex : Exch ts s
  srt : L.Pairwise (· < ·)
  mem : ∀ x, x ∈ L ↔ Rch ts s x
theorem Mch.sL {n : Nat} {ts : List (List Int)} {s : Int} {L : List Int} (h : Mch n ts s L) : s ∈ L := (h.mem s).mpr .refl
theorem Mch.wrl {n : Nat} {ts : List (List Int)} {s : Int} {L : List Int} (h : Mch n ts s L) : Wrl n ts L := by
  have nd : L.Nodup := h.srt.imp fun a => Int.ne_of_lt a
  refine ⟨fun t ht => ⟨(Mok.inr h.ok ht).1, (Mok.inr h.ok ht).2, nd, fun x hx => ?_, fun x hx y hy e => h.ex t ht x y ((h.mem x).mp hx) ((h.mem y).mp hy) e⟩, fun x hx => h.ok.rch h.s0 h.s1 ((h.mem x).mp hx), h.ok.n8, nd⟩
  obtain ⟨d, hd⟩ := List.getElem?_of_mem ht
  have := ((h.mem x).mp hx).step (List.getElem?_eq_some_iff.mp hd).1
  rw [show nx ts d x = tx t x from by unfold nx tx; rw [getD_of hd]] at this
  exact (h.mem _).mpr this
theorem sorted_eq : ∀ {L M : List Int}, L.Pairwise (· < ·) → M.Pairwise (· < ·) → (∀ x, x ∈ L ↔ x ∈ M) → L = M
  | [], [], _, _, _ => rfl
  | x :: L, [], _, _, h => absurd ((h x).mp (List.mem_cons_self ..)) (by simp)
  | [], y :: M, _, _, h => absurd ((h y).mpr (List.mem_cons_self ..)) (by simp)
  | x :: L, y :: M, p, q, h => by
    obtain ⟨p1, p2⟩ := List.pairwise_cons.mp p
    obtain ⟨q1, q2⟩ := List.pairwise_cons.mp q
    have e : x = y := by
      rcases List.mem_cons.mp ((h x).mp (List.mem_cons_self ..)) with a | a
      · exact a
      · rcases List.mem_cons.mp ((h y).mpr (List.mem_cons_self ..)) with b | b
        · exact b.symm
        · have := q1 x a
          have := p1 y b
          omega
    subst e
    rw [sorted_eq p2 q2 fun z => ?_]
    have := h z
    constructor
    · intro hz
      rcases List.mem_cons.mp (this.mp (List.mem_cons_of_mem _ hz)) with a | a
      · have := p1 z hz
        omega
      · exact a
    · intro hz
      rcases List.mem_cons.mp (this.mpr (List.mem_cons_of_mem _ hz)) with a | a
      · have := q1 z hz
        omega
      · exact a
def natsOf (rs : List Int) : List Nat := rs.map Int.toNat
theorem nats_back {rs : List Int} (h : ∀ r ∈ rs, 0 ≤ r) : (natsOf rs).map (fun c => V.int (c : Nat)) = rs.map V.int := by
  unfold natsOf
  rw [List.map_map]
  exact List.map_congr_left fun r hr => by
    show V.int ((r.toNat : Nat) : Int) = V.int r
    rw [Int.toNat_of_nonneg (h r hr)]
theorem nats_len {rs : List Int} : (natsOf rs).length = rs.length := List.length_map ..
def spSettled (K : PySem.W.Frag) (a : Ad) (CM : Addr) : Sp := fun vs H Q E => ∃ (m pq r : Addr) (pps : List V) (n : Nat) (ts prs : List (List Int)) (s : Int) (cs : List Nat), vs = [.ref m, .int s, .ref pq, .ref r] ∧ McAt K CM H m n ts ∧ 0 ≤ s ∧ s < (n : Int) ∧ Sq K H pq pps ∧ RowsBy (Sq K H) pps prs ∧ PairsOf ts.length prs ∧
  Sq K H r (cs.map fun c => V.int (c : Nat)) ∧ ts.length = cs.length ∧ (∀ d x y, FgAt ts s d x y → ThrownF E H a.cO d x y) ∧ ∀ L l H' qs c, Mch n ts s L → Same H H' → TupD H' l qs → RowsBy (SqT K H') qs (lotsOf c L) → Cls1 (Rl prs) ts cs L c → Q (.ref l) H'
def spLots (K : PySem.W.Frag) (a : Ad) (C CM : Addr) : Sp := fun vs H Q E => ∃ (m c : Addr) (n : Nat) (ts : List (List Int)) (v : V) (rs es : List Int), vs = [.ref m, v, .ref c] ∧ McAt K CM H m n ts ∧ Kn K H v ∧ CnAt K C H c rs es ∧ (isBel n v = false → Thrown E H a.cN "state" v) ∧
  ∀ s, v = .int s → 0 ≤ s → s < (n : Int) → (rs.length ≠ ts.length → Thrown E H a.cF "at" (.ref c)) ∧ (rs.length = ts.length → (∀ d x y, FgAt ts s d x y → ThrownF E H a.cO d x y) ∧ ∀ L l H' qs c, Mch n ts s L → Same H H' → TupD H' l qs → RowsBy (SqT K H') qs (lotsOf c L) → Cls1 (LtB ts.length) ts (natsOf rs) L c → Q (.ref l) H')
section
variable {P : Program} {w : World} {K : PySem.W.Frag} {mg : Str → Option Value} {base : Heap} {f : Addr} {fd : FuncData} {a : Ad} {C CM : Addr}
theorem sc_settled : FnScope ["machine", "first", "pairs", "rounds"] ["machine", "first", "pairs", "rounds"] (defScope s_settled) := ⟨rfl, rfl, rfl, by decide +kernel, rfl, by decide +kernel, by decide +kernel⟩
theorem ok_settled (F : FnP K "settled" s_settled f fd) (T : Mg mg) (TM : ClsM K mg CM) (c_exch : Cal P w K mg base (L2N.CX P w) 8 "need_exchanges" ["machine", "first"] (spExch K a CM)) (c_least : Cal P w K mg base CX0 4 "least_parting" ["tables", "places", "pairs", "rounds"] (spLeast K)) (c_reached : Cal P w K mg base (L2N.CX P w) 6 "reached" ["machine", "first"] (spReached K a CM)) :
    FnOk P w K mg base (L2N.CX P w) 9 f fd ["machine", "first", "pairs", "rounds"] (spSettled K a CM) := by
  refine F.ok sc_settled (fun vs H Q E h => ?_) (fun cdv A outer s H vs Q E hr h => ?_)
  · obtain ⟨m, pq, r, pps, n, ts, prs, s, cs, rfl, _⟩ := h
    rfl
  · obtain ⟨m, pq, r, pps, n, ts, prs, s0, cs, rfl, hm, z0, z1, hpq, prow, po, hc, lc, bad, k⟩ := h
    refine ⟨_, (pss_cons (ps_expr (pe_callC c_exch hr (L2N.passes_call (E := E) (L2N.takes_of rfl rfl rfl rfl) (fun _ _ _ _ z => z)) (pa_cons (pv 0) (pa_cons (pv 1) pa_nil))))
      (pss_one (ps_ret (pe_callC c_least hr pass0 (pa_cons (pe_fld (pv 0) rfl) (pa_cons (pe_callC c_reached hr (L2N.passes_call (E := E) (L2N.takes_of rfl rfl rfl rfl) (fun _ _ _ _ z => z)) (pa_cons (pv 0) (pa_cons (pv 1) pa_nil))) (pa_cons (pv 2) (pa_cons (pv 3) pa_nil)))))))), ?_⟩
    refine ⟨_, rfl, _, rfl, m, n, ts, s0, rfl, hm, z0, z1, fun ex H1 e1 => ?_, bad⟩
    obtain ⟨ok, dx, t, ps, h1, h2, h3⟩ := id (hm.same e1)
    refine ⟨_, rfl, m, CM, dx, _, _, rfl, h1, TM.cl, TM.n3, rfl, ?_⟩
    refine ⟨_, rfl, _, rfl, m, n, ts, .int s0, rfl, hm.same e1, .int s0, fun z => bel_ne z0 z1 z, fun _ => ⟨s0, rfl, fun p L H2 e2 srt mem hp => ?_⟩⟩
    have mc : Mch n ts s0 L := ⟨ok, z0, z1, ex, srt, mem⟩
    have e12 := e1.trans e2
    refine ⟨_, rfl, _, rfl, t, p, pq, r, ps, pps, ts, prs, L, cs, n, rfl, sqT_same e2 h2, h3.imp fun _ _ z => sqT_same e2 z, hp, hpq.same e12, prow.imp fun _ _ z => z.same e12, po, hc.same e12, lc, ok.l4, mc.wrl, fun l H3 qs c e3 hl hq cl => k L l H3 qs c mc (e12.trans e3) hl hq cl⟩
theorem isBel_st {n : Nat} {v : V} (h : isBel n v = true) : ∃ s : Int, v = .int s ∧ 0 ≤ s ∧ s < (n : Int) := by
  cases v with
  | int s => exact ⟨s, rfl, isBel_iff.mp h⟩
  | _ => cases h
theorem sc_lots : FnScope ["machine", "first", "counters"] ["machine", "first", "counters"] (defScope s_lots_of) := ⟨rfl, rfl, rfl, by decide +kernel, rfl, by decide +kernel, by decide +kernel⟩
theorem ok_lots (F : FnP K "lots_of" s_lots_of f fd) (T : Mg mg) (TM : ClsM K mg CM) (TC : ClsC K mg C) (c_state : Cal P w K mg base (L2N.CX P w) 3 "need_state" ["machine", "state"] (spState K a CM)) (c_fit : Cal P w K mg base (L2N.CX P w) 3 "need_fit" ["machine", "counters"] (spNeedFit K a C CM)) (c_settled : Cal P w K mg base (L2N.CX P w) 9 "settled" ["machine", "first", "pairs", "rounds"] (spSettled K a CM)) (c_pairs : Cal P w K mg base CX0 1 "deed_pairs" ["deeds"] (spPairs K)) :
    FnOk P w K mg base (L2N.CX P w) 10 f fd ["machine", "first", "counters"] (spLots K a C CM) := by
  refine F.ok sc_lots (fun vs H Q E h => ?_) (fun cdv A outer s H vs Q E hr h => ?_)
  · obtain ⟨m, c, n, ts, v, rs, es, rfl, _⟩ := h
    rfl
  · obtain ⟨m, c, n, ts, v, rs, es, rfl, hm, hv, hc, badN, k⟩ := h
    refine ⟨_, (pss_cons (ps_expr (pe_callC c_state hr (L2N.passes_call (E := E) (L2N.takes_of rfl rfl rfl rfl) (fun _ _ _ _ z => z)) (pa_cons (pv 0) (pa_cons (pv 1) pa_nil))))
      (pss_cons (ps_expr (pe_callC c_fit hr (L2N.passes_call (E := E) (L2N.takes_of rfl rfl rfl rfl) (fun _ _ _ _ z => z)) (pa_cons (pv 0) (pa_cons (pv 2) pa_nil))))
      (pss_one (ps_ret (pe_callC c_settled hr (L2N.passes_call (E := E) (L2N.takes_of rfl rfl rfl rfl) (fun _ _ _ _ z => z)) (pa_cons (pv 0) (pa_cons (pv 1) (pa_cons (pe_callC c_pairs hr pass0 (pa_cons (pe_fld (pv 0) rfl) pa_nil)) (pa_cons (pe_fld (pv 2) rfl) pa_nil))))))))), ?_⟩
    obtain ⟨ok, dx, t, ps, h1, h2, h3⟩ := id hm
    obtain ⟨cok, dy, p, q, c1, c2, c3⟩ := id hc
    refine ⟨_, rfl, _, rfl, m, n, ts, v, rfl, hm, hv, badN, fun yes => ?_⟩
    obtain ⟨s0, rfl, z0, z1⟩ := isBel_st yes
    obtain ⟨unfit, k⟩ := k s0 rfl z0 z1
    refine ⟨_, rfl, _, rfl, m, c, dx, _, ts.length, rs, es, rfl, h1, TM.cl, TM.n1, rfl, hc, fun z => unfit z, fun lc => ?_⟩
    obtain ⟨bad, k⟩ := k lc
    refine ⟨_, rfl, _, rfl, _, rfl, m, CM, dx, _, _, rfl, h1, TM.cl, TM.n1, rfl, ts.length, rfl, ok.l4, fun l H1 ps' prs e1 nl hl prow po => ?_⟩
    refine ⟨_, rfl, c, C, dy, _, _, rfl, e1 _ _ c1, TC.cl, TC.n1, rfl, ?_⟩
    exact ⟨m, l, p, ps', n, ts, prs, s0, natsOf rs, rfl, hm.same e1, z0, z1, .inl (SqL.of hl), prow.imp fun _ _ z => .inr z, po.pairs, by rw [nats_back fun r hr => (cok.r r hr).1]; exact .inr (sqT_same e1 c2), by rw [nats_len]; exact lc.symm, fun d x y fg => (bad d x y fg).same e1, fun L l H3 qs c mc e3 hl hq cl => k L l H3 qs c mc (e1.trans e3) hl hq (po.rl ▸ cl)⟩
end
end KT
/-! lots: which they are, how great -/
namespace KT
open L2 PySem PySem.Spec PyProof.Rows Kx RZ
section
variable {c c' : Int → Int} {L : List Int} {x k : Int}
theorem mem_inC : x ∈ inC c L k ↔ x ∈ L ∧ c x = k := by
  unfold inC
  rw [List.mem_filter, decide_eq_true_eq]
theorem mem_lots {l : List Int} : l ∈ lotsOf c L ↔ ∃ x ∈ L, l = inC c L (c x) := by
  unfold lotsOf
  rw [List.mem_map]
  constructor
  · rintro ⟨k, hk, rfl⟩
    obtain ⟨x, hx, rfl⟩ := mem_keys.mp hk
    exact ⟨x, hx, rfl⟩
  · rintro ⟨x, hx, rfl⟩
    exact ⟨c x, mem_keys.mpr ⟨x, hx, rfl⟩, rfl⟩
theorem reps (h : ∀ x ∈ L, ∀ y ∈ L, (c x = c y ↔ c' x = c' y)) : ∀ M : List Int, (∀ x ∈ M, x ∈ L) → ∃ R : List Int, (∀ x ∈ R, x ∈ M) ∧ keysOf c M = R.map c ∧ keysOf c' M = R.map c' := by
  refine snoc_ind (p := fun M => (∀ x ∈ M, x ∈ L) → ∃ R : List Int, (∀ x ∈ R, x ∈ M) ∧ keysOf c M = R.map c ∧ keysOf c' M = R.map c') (fun _ => ⟨[], (fun _ h => nomatch h), rfl, rfl⟩) fun M x ih sub => ?_
  obtain ⟨R, r1, r2, r3⟩ := ih fun y hy => sub y (List.mem_append_left _ hy)
  have xL := sub x (List.mem_append_right _ (List.mem_singleton.mpr rfl))
  have same : c x ∈ keysOf c M ↔ c' x ∈ keysOf c' M := by
    rw [mem_keys, mem_keys]
    constructor
    · rintro ⟨y, hy, e⟩
      exact ⟨y, hy, (h y (sub y (List.mem_append_left _ hy)) x xL).mp e⟩
    · rintro ⟨y, hy, e⟩
      exact ⟨y, hy, (h y (sub y (List.mem_append_left _ hy)) x xL).mpr e⟩
  rw [keys_snoc, keys_snoc]
  by_cases m : c x ∈ keysOf c M
  · rw [if_pos m, if_pos (same.mp m)]
    exact ⟨R, fun y hy => List.mem_append_left _ (r1 y hy), r2, r3⟩
  · rw [if_neg m, if_neg fun z => m (same.mpr z)]
    refine ⟨R ++ [x], fun y hy => ?_, by rw [r2, List.map_append]; rfl, by rw [r3, List.map_append]; rfl⟩
    rcases List.mem_append.mp hy with hy | hy
    · exact List.mem_append_left _ (r1 y hy)
    · exact List.mem_append_right _ hy
theorem inC_eq (h : ∀ x ∈ L, ∀ y ∈ L, (c x = c y ↔ c' x = c' y)) (hx : x ∈ L) : inC c L (c x) = inC c' L (c' x) := List.filter_congr fun y hy => by
  rw [Bool.eq_iff_iff, decide_eq_true_eq, decide_eq_true_eq]
  exact h y hy x hx
theorem lots_eq (h : ∀ x ∈ L, ∀ y ∈ L, (c x = c y ↔ c' x = c' y)) : lotsOf c L = lotsOf c' L := by
  obtain ⟨R, r1, r2, r3⟩ := reps h L fun _ h => h
  unfold lotsOf
  rw [r2, r3, List.map_map, List.map_map]
  exact List.map_congr_left fun x hx => inC_eq h (r1 x hx)
theorem Cls1.eq {PR : Nat → Nat → Prop} {ts : List (List Int)} {cs : List Nat} (h : Cls1 PR ts cs L c) (h' : Cls1 PR ts cs L c') : ∀ x ∈ L, ∀ y ∈ L, (c x = c y ↔ c' x = c' y) := fun x hx y hy => (h x hx y hy).trans (h' x hx y hy).symm
/-- the class of x in L -/
def cls (c : Int → Int) (L : List Int) (x : Int) : List Int := inC c L (c x)
theorem mem_cls {y : Int} : y ∈ cls c L x ↔ y ∈ L ∧ c y = c x := mem_inC
theorem cls_nodup (nd : L.Nodup) : (cls c L x).Nodup := nd.filter _
section
variable {PR : Nat → Nat → Prop} {n : Nat} {ts : List (List Int)} {cs : List Nat}
theorem cls_step (w : Wrl n ts L) (h : Cls1 PR ts cs L c) {t : List Int} (ht : t ∈ ts) (hx : x ∈ L) : (cls c L x).length ≤ (cls c L (tx t x)).length := by
  have te := (w.tab t ht).2.2
  obtain ⟨d, hd⟩ := List.getElem?_of_mem ht
  have ld := (List.getElem?_eq_some_iff.mp hd).1
  have := nodup_le (F := (cls c L x).map (tx t)) (L := cls c L (tx t x)) ?_ fun y hy => ?_
  · rwa [List.length_map] at this
  · refine List.pairwise_map.mpr ((cls_nodup w.nd).imp_of_mem fun {a b} ha hb ne z => ne ?_)
    exact te.inj a (mem_cls.mp ha).1 b (mem_cls.mp hb).1 z
  · obtain ⟨z, hz, rfl⟩ := List.mem_map.mp hy
    obtain ⟨zL, ze⟩ := mem_cls.mp hz
    refine mem_cls.mpr ⟨te.cl z zL, (h _ (te.cl z zL) _ (te.cl x hx)).mpr ?_⟩
    have := ((h z zL x hx).mp ze).step d ld
    rwa [getD_of hd] at this
theorem cls_it (w : Wrl n ts L) (h : Cls1 PR ts cs L c) {t : List Int} (ht : t ∈ ts) (hx : x ∈ L) : ∀ k, (cls c L x).length ≤ (cls c L (it t k x)).length
  | 0 => Nat.le_refl _
  | k + 1 => Nat.le_trans (cls_it w h ht hx k) (cls_step w h ht ((w.tab t ht).2.2.it_in hx k))
theorem cls_same (w : Wrl n ts L) (h : Cls1 PR ts cs L c) {t : List Int} (ht : t ∈ ts) (hx : x ∈ L) : (cls c L (tx t x)).length = (cls c L x).length := by
  have te := (w.tab t ht).2.2
  obtain ⟨p, _, _, per⟩ := w.per ht hx
  have c1 := per.c1
  have : it t (p - 1) (tx t x) = x := by
    have e : it t (1 + (p - 1)) x = x := by rw [show 1 + (p - 1) = p by omega]; exact per.back
    rw [it_add] at e
    exact e
  have a := cls_it w h ht (te.cl x hx) (p - 1)
  rw [this] at a
  have b := cls_step w h ht hx
  omega
/-- all lots are equally great -/
theorem cls_len {s : Int} (mc : Mch n ts s L) (h : Cls1 PR ts cs L c) (hx : x ∈ L) : (cls c L x).length = (cls c L s).length := by
  obtain ⟨row, h1, e⟩ := (mc.mem x).mp hx
  have w := mc.wrl
  have := closed_all (ts := ts) (F := L.filter fun x => decide ((cls c L x).length = (cls c L s).length)) (fun y hy d hd => ?_) (row := row) (s := s) (List.mem_filter.mpr ⟨mc.sL, decide_eq_true rfl⟩) h1
  · rw [← e] at this
    exact of_decide_eq_true (List.mem_filter.mp this).2
  · obtain ⟨yL, ye⟩ := List.mem_filter.mp hy
    have ye := of_decide_eq_true ye
    have m := getD_mem (ts := ts) hd
    have e1 : nx ts d y = tx (ts.getD d []) y := rfl
    refine List.mem_filter.mpr ⟨by rw [e1]; exact (w.exc hd).cl y yL, decide_eq_true ?_⟩
    rw [e1, cls_same w h m yL, ye]
end
end
end KT
/-! the lot that holds a state; the fold -/
namespace KT
open L2 PySem PySem.Spec PyProof.Rows Kx RZ
theorem op_inK {X : Cx} {K : PySem.W.Frag} (hK : X.K = K := by rfl) : OpR X (compareOp .In) (rIn K false) := by
  subst hK
  exact op_in_seq
/-- q from behind j on -/
def oneFrom (q : Addr) (j i : Nat) : List V := if j < i then [.ref q] else []
theorem oneFrom_yes {q : Addr} {j i : Nat} (h : j < i) : oneFrom q j i = [.ref q] := if_pos h
theorem oneFrom_no {q : Addr} {j i : Nat} (h : ¬ j < i) : oneFrom q j i = [] := if_neg h
def spLotWith (K : PySem.W.Frag) : Sp := fun vs H Q _ => ∃ (p : Addr) (x : Int) (qs : List V) (c : Int → Int) (L : List Int), vs = [.ref p, .int x] ∧ SqT K H p qs ∧ RowsBy (SqT K H) qs (lotsOf c L) ∧ x ∈ L ∧ (lotsOf c L).length ≤ 8 ∧
  ∀ q H', Same H H' → SqT K H' q ((cls c L x).map V.int) → Q (.ref q) H'
section
variable {P : Program} {w : World} {K : PySem.W.Frag} {mg : Str → Option Value} {base : Heap} {f : Addr} {fd : FuncData} {a : Ad} {C CM : Addr}
theorem sc_lot_with : FnScope ["lots", "state", "lot"] ["lots", "state"] (defScope s_lot_with) := ⟨rfl, rfl, rfl, by decide +kernel, rfl, by decide +kernel, by decide +kernel⟩
theorem ok_lot_with (F : FnP K "lot_with" s_lot_with f fd) (T : Mg mg) : FnOk P w K mg base CX0 1 f fd ["lots", "state"] (spLotWith K) := by
  refine F.ok sc_lot_with (fun vs H Q E h => ?_) (fun cdv A outer s H vs Q E hr h => ?_)
  · obtain ⟨p, x, qs, c, L, rfl, _⟩ := h
    rfl
  · obtain ⟨p, x, qs, c, L, rfl, hp, rows, hx, l8, k⟩ := h
    refine ⟨_, PSs.nox (pss_one (ps_ret (pe_ix ix_list (pe_lc (own := [("lot", 2)]) (by rfl) sc_lot_with.nd (pi_tup (pv 0)) (blkOk_by (own := [("lot", 2)]) (N := ["lots", "state", "lot"]) (sc := defScope s_lot_with) (by decide +kernel))
      (fun _ _ _ _ _ => (pg_name (i := 2) sc_lot_with.nd rfl (by first | exact Or.inl rfl | exact Or.inr rfl))) (fun _ _ _ _ _ => (pts_one (pt_cmpR (op_inK (K := K)) (pv 1) (pv 2) (by rfl)))) (fun _ _ _ _ _ => pv 2)) pe_int (fun _ _ => rfl)))), ?_⟩
    have lq := rows.length
    obtain ⟨j, hj⟩ := List.getElem?_of_mem (mem_lots.mpr ⟨x, hx, rfl⟩ : cls c L x ∈ lotsOf c L)
    have lj := (List.getElem?_eq_some_iff.mp hj).1
    obtain ⟨q, hq1, hq2⟩ := rows.at_ hj
    have only : ∀ i l, (lotsOf c L)[i]? = some l → (x ∈ l ↔ i = j) := fun i l hl => by
      have li := (List.getElem?_eq_some_iff.mp hl).1
      constructor
      · intro m
        unfold lotsOf at hl hj
        rw [List.getElem?_map, Option.map_eq_some_iff] at hl hj
        obtain ⟨k1, hk1, rfl⟩ := hl
        obtain ⟨k2, hk2, e2⟩ := hj
        have x2 : x ∈ inC c L k2 := by rw [e2]; exact mem_cls.mpr ⟨hx, rfl⟩
        have e : k1 = k2 := (mem_inC.mp m).2.symm.trans (mem_inC.mp x2).2
        rw [← e] at hk2
        have nd := keys_nodup (c := c) (M := L)
        rcases Nat.lt_trichotomy i j with h | h | h
        · exact absurd rfl ((List.pairwise_iff_getElem.mp nd i j (List.getElem?_eq_some_iff.mp hk1).1 (List.getElem?_eq_some_iff.mp hk2).1 h) |> fun z => by rw [(List.getElem?_eq_some_iff.mp hk1).2, (List.getElem?_eq_some_iff.mp hk2).2] at z; exact z)
        · exact h
        · exact absurd rfl ((List.pairwise_iff_getElem.mp nd j i (List.getElem?_eq_some_iff.mp hk2).1 (List.getElem?_eq_some_iff.mp hk1).1 h) |> fun z => by rw [(List.getElem?_eq_some_iff.mp hk1).2, (List.getElem?_eq_some_iff.mp hk2).2] at z; exact z)
      · rintro rfl
        rw [hj] at hl
        rw [← Option.some.inj hl]
        exact mem_cls.mpr ⟨hx, rfl⟩
    refine ⟨_, rfl, p, rfl, ⟨_, hp⟩, fun D0 hD => ?_⟩
    refine lc_tup (xs := qs) (fun i H' => Same H H' ∧ H' D0 = some (.lst (oneFrom q j i))) ⟨same_new hD, by rw [oneFrom_no (Nat.not_lt_zero _)]; exact upd_same⟩ (fun i H' _ z => sqT_same z.1 hp) ?_ ?_
    · rintro i y H1 hy ⟨e1, h1⟩
      have hi : i < (lotsOf c L).length := by rw [← lq]; exact (List.getElem?_eq_some_iff.mp hy).1
      have li : (lotsOf c L)[i]? = some (lotsOf c L)[i] := List.getElem?_eq_getElem hi
      obtain ⟨qi, b1, b2⟩ := rows.at_ li
      rw [hy] at b1
      cases b1
      refine ⟨rfl, ?_⟩
      refine ⟨_, rfl, _, rfl, qi, _, rfl, .inr (sqT_same e1 b2), rfl, flat_nums, ?_⟩
      rw [if_neg (by decide), inV_nums]
      have o := only i _ li
      refine ⟨_, rfl, ite2 (fun h => ?_) (fun h => ?_)⟩
      · have ij := o.mp (of_decide_eq_true h)
        subst ij
        rw [oneFrom_no (Nat.lt_irrefl _)] at h1
        have : qi = q := by
          rw [hy] at hq1
          cases hq1
          rfl
        subst this
        refine ⟨_, rfl, _, h1, (by show 0 < sizeLine; decide), same_put e1 hD, ?_⟩
        rw [upd_same, oneFrom_yes (by omega)]
        rfl
      · have ij : i ≠ j := fun z => h (decide_eq_true (o.mpr z))
        refine ⟨e1, ?_⟩
        rw [h1]
        by_cases lt : j < i
        · rw [oneFrom_yes lt, oneFrom_yes (by omega)]
        · rw [oneFrom_no lt, oneFrom_no (by omega)]
    · rintro H1 ⟨e1, h1⟩
      rw [oneFrom_yes (by omega)] at h1
      exact ⟨D0, _, _, _, rfl, rfl, SqL.of h1, rfl, k q H1 e1 (sqT_same e1 hq2)⟩
end
end KT
/-! showings of any value, the showing one deed later -/
namespace KT
open PySem PySem.Spec PyProof.Rows L2 Kx
theorem Cok.at_ {rs es : List Int} (h : Cok rs es) {i : Nat} (hi : i < rs.length) : rs[i]? = some (rs.getD i 0) ∧ es[i]? = some (es.getD i 0) ∧ 0 ≤ rs.getD i 0 ∧ rs.getD i 0 ≤ 60 ∧ 0 ≤ es.getD i 0 ∧ es.getD i 0 ≤ 6 := by
  have he : i < es.length := by rw [h.le]; exact hi
  have a1 : rs[i]? = some (rs.getD i 0) := by rw [List.getD_eq_getElem?_getD, List.getElem?_eq_getElem hi] <;> rfl
  have a2 : es[i]? = some (es.getD i 0) := by rw [List.getD_eq_getElem?_getD, List.getElem?_eq_getElem he] <;> rfl
  have b1 := h.r _ (List.mem_of_getElem? a1)
  have b2 := h.e _ (List.mem_of_getElem? a2)
  exact ⟨a1, a2, b1.1, b1.2, b2.1, b2.2⟩
def canShow (r e : Int) (v : V) : Bool := if r = 0 then isNum v else isBel (e + r) v
def spCanShow (K : PySem.W.Frag) (C : Addr) : Sp := fun vs H Q _ => ∃ c rs es, ∃ i : Nat, ∃ v r e, vs = [.ref c, .int (i : Int), v] ∧ CnAt K C H c rs es ∧ Kn K H v ∧ rs[i]? = some r ∧ es[i]? = some e ∧ Q (.bl (canShow r e v)) H
/-- all items can be shown -/
def AllShow (rs es : List Int) (xs : List V) : Prop := ∀ j x, xs[j]? = some x → canShow (rs.getD j 0) (es.getD j 0) x = true
/-- item i is the first that can't be shown -/
def FirstWrong (rs es : List Int) (xs : List V) (i : Nat) : Prop := (∀ j x, j < i → xs[j]? = some x → canShow (rs.getD j 0) (es.getD j 0) x = true) ∧ ∃ x, xs[i]? = some x ∧ canShow (rs.getD i 0) (es.getD i 0) x = false
/-- what is asked of a value that is to be a showing -/
structure ShowArg (K : PySem.W.Frag) (a : Ad) (H : Hp) (E : XK) (rs es : List Int) (v : V) (o : Option (List V)) : Prop where
  long : Long K H v o
  kn : ∀ xs, o = some xs → xs.length = rs.length → ∀ x ∈ xs, Kn K H x
  far : (o = none ∨ ∃ xs, o = some xs ∧ xs.length ≠ rs.length) → Thrown E H a.cS "at" (.int (-1))
  near : ∀ xs i, o = some xs → xs.length = rs.length → FirstWrong rs es xs i → Thrown E H a.cS "at" (.int (i : Int))
def spCheck (K : PySem.W.Frag) (a : Ad) (C : Addr) : Sp := fun vs H Q E => ∃ c rs es v o, vs = [.ref c, v] ∧ CnAt K C H c rs es ∧ ShowArg K a H E rs es v o ∧
  ∀ xs, o = some xs → xs.length = rs.length → AllShow rs es xs → ∀ p H', Same H H' → SqT K H' p xs → Q (.ref p) H'
theorem canShow_int {r e : Int} {v : V} (h : canShow r e v = true) : ∃ n, v = .int n ∧ 0 ≤ n := by
  unfold canShow at h
  by_cases z : r = 0
  · rw [if_pos z] at h
    cases v with
    | int n => exact ⟨n, rfl, of_decide_eq_true h⟩
    | _ => cases h
  · rw [if_neg z] at h
    cases v with
    | int n =>
      have h : (decide (0 ≤ n) && decide (n < e + r)) = true := h
      rw [Bool.and_eq_true] at h
      exact ⟨n, rfl, of_decide_eq_true h.1⟩
    | _ => cases h
theorem all_ints : ∀ {xs : List V}, (∀ (j : Nat) (x : V), xs[j]? = some x → ∃ n, x = V.int n ∧ 0 ≤ n) → ∃ ns : List Int, xs = ns.map V.int ∧ ∀ n ∈ ns, 0 ≤ n
  | [], _ => ⟨[], rfl, fun _ h => nomatch h⟩
  | x :: xs, h => by
    obtain ⟨n, rfl, hn⟩ := h 0 x rfl
    obtain ⟨ns, rfl, hns⟩ := all_ints (xs := xs) fun j y hy => h (j + 1) y (by simpa using hy)
    exact ⟨n :: ns, rfl, fun m hm => (List.mem_cons.mp hm).elim (fun e => e ▸ hn) (hns m)⟩
section
variable {P : Program} {w : World} {K : PySem.W.Frag} {mg : Str → Option Value} {base : Heap} {f : Addr} {fd : FuncData} {a : Ad} {C CM : Addr}
theorem sc_can_show : FnScope ["counters", "kind", "value", "turn"] ["counters", "kind", "value"] (defScope s_can_show) := ⟨rfl, rfl, rfl, by decide +kernel, rfl, by decide +kernel, by decide +kernel⟩
theorem ok_can_show (F : FnP K "_can_show" s_can_show f fd) (T : Mg mg) (TC : ClsC K mg C) (c_is_number : Cal P w K mg base CX0 1 "is_number" ["value"] (spNumber K)) (c_is_below : Cal P w K mg base CX0 2 "is_below" ["value", "limit"] (spBelow K)) :
    FnOk P w K mg base CX0 3 f fd ["counters", "kind", "value"] (spCanShow K C) := by
  refine F.ok sc_can_show (fun vs H Q E h => ?_) (fun cdv A outer s H vs Q E hr h => ?_)
  · obtain ⟨c, rs, es, i, v, r, e, rfl, _⟩ := h
    rfl
  · obtain ⟨c, rs, es, i, v, r, e, rfl, ⟨ok, dx, p, q, h1, h2, h3⟩, hv, hr', he, k⟩ := h
    refine ⟨_, PSs.nox (pss_cons (ps_set (i := 3) sc_can_show.nd rfl (by first | exact Or.inl rfl | exact Or.inr rfl) (pe_ix ix_tup (pe_fld (pv 0) rfl) (pv 1) (fun _ _ => rfl)))
      (pss_cons (ps_if (pt_cmpR op_eq (pv 3) pe_int (nomark _))
        (pss_one (ps_ret (pe_callC c_is_number hr pass0 (pa_cons (pv 2) pa_nil))))
        pss_nil)
      (pss_one (ps_ret (pe_callC c_is_below hr pass0 (pa_cons (pv 2) (pa_cons (pe_op op_add (pe_ix ix_tup (pe_fld (pv 0) rfl) (pv 1) (fun _ _ => rfl)) (pv 3)) pa_nil))))))), ?_⟩
    have hr2 : (rs.map V.int)[i]? = some (.int r) := by rw [List.getElem?_map, hr']; rfl
    have he2 : (es.map V.int)[i]? = some (.int e) := by rw [List.getElem?_map, he]; rfl
    refine ⟨_, rfl, c, C, dx, _, _, rfl, h1, TC.cl, TC.n1, rfl, _, rfl, p, _, _, _, rfl, rfl, h2, atI_nat hr2, ?_⟩
    refine ⟨_, rfl, rfl, _, rfl, ?_⟩
    refine ite2 (fun h => ?_) (fun h => ?_)
    · have z : canShow r e v = isNum v := if_pos (by simpa using h)
      rw [z] at k
      exact ⟨v, rfl, v, rfl, hv, k⟩
    · have z : canShow r e v = isBel (e + r) v := if_neg (by simpa using h)
      rw [z] at k
      exact ⟨v, rfl, _, rfl, c, C, dx, _, _, rfl, h1, TC.cl, TC.n2, rfl, _, rfl, q, _, _, _, rfl, rfl, h3, atI_nat he2, _, rfl, _, _, rfl, rfl, v, _, rfl, hv, k⟩
theorem sc_check : FnScope ["counters", "value", "kinds", "kind", "item"] ["counters", "value"] (defScope s_check_showing) := ⟨rfl, rfl, rfl, by decide +kernel, rfl, by decide +kernel, by decide +kernel⟩
theorem ok_check (F : FnP K "check_showing" s_check_showing f fd) (T : Mg mg) (R : Er P w K mg base a) (TC : ClsC K mg C) (c_is_sequence : Cal P w K mg base CX0 1 "is_sequence" ["value", "least", "most"] (spSeq K))
    (c__can_show : Cal P w K mg base CX0 3 "_can_show" ["counters", "kind", "value"] (spCanShow K C)) : FnOk P w K mg base (L2N.CX P w) 4 f fd ["counters", "value"] (spCheck K a C) := by
  refine F.ok sc_check (fun vs H Q E h => ?_) (fun cdv A outer s H vs Q E hr h => ?_)
  · obtain ⟨c, rs, es, v, o, rfl, _⟩ := h
    rfl
  · obtain ⟨c, rs, es, v, o, rfl, hc, sa, good⟩ := h
    obtain ⟨ok, dx, p, q, h1, h2, h3⟩ := id hc
    refine ⟨_, (pss_cons (ps_set (i := 2) sc_check.nd rfl (by first | exact Or.inl rfl | exact Or.inr rfl) (pe_callB call_len_seq (by rfl) T.z_len PySem.boot_len (pa_cons (pe_fld (pv 0) rfl) pa_nil)))
      (pss_cons (ps_if (pt_not (pt_val (pe_callC c_is_sequence hr pass0 (pa_cons (pv 1) (pa_cons (pv 2) (pa_cons (pv 2) pa_nil))))))
        (pss_one (psN R.BadShowing rfl hr (L2N.takes_of rfl rfl rfl rfl) (pa_cons (pe_un un_neg pe_int) pa_nil)))
        pss_nil)
      (pss_cons (ps_for (passes_of rfl) rfl (pi_pairs (by rfl) T.z_enumerate (pa_cons (pv 1) pa_nil)) (pg_tup rfl (pgs_cons (pg_name (i := 3) sc_check.nd rfl (by first | exact Or.inl rfl | exact Or.inr rfl)) (pgs_cons (pg_name (i := 4) sc_check.nd rfl (by first | exact Or.inl rfl | exact Or.inr rfl)) pgs_nil)))
        (pss_one (ps_if (pt_not (pt_val (pe_callC c__can_show hr pass0 (pa_cons (pv 0) (pa_cons (pv 3) (pa_cons (pv 4) pa_nil))))))
          (pss_one (psN R.BadShowing rfl hr (L2N.takes_of rfl rfl rfl rfl) (pa_cons (pv 3) pa_nil)))
          pss_nil)))
      (pss_one (ps_ret (pe_callTy call_tup (by rfl) T.z_tuple (by decide +kernel) (pa_cons (pv 1) pa_nil))))))), ?_⟩
    refine ⟨_, rfl, c, C, dx, _, _, rfl, h1, TC.cl, TC.n1, rfl, p, _, rfl, .inr h2, ?_⟩
    rw [List.length_map]
    refine ⟨v, rfl, _, rfl, _, rfl, v, _, _, o, rfl, sa.long, fun H1 e1 => ⟨inLen rs.length rs.length o, rfl, ?_⟩⟩
    cases ei : inLen rs.length rs.length o with
    | false =>
      refine iteT ⟨1, rfl, thrownN ((sa.far ?_).same e1).at_⟩
      cases o with
      | none => exact .inl rfl
      | some xs =>
        rw [inLen_kk] at ei
        exact .inr ⟨xs, rfl, of_decide_eq_false ei⟩
    | true =>
      refine iteF ?_
      obtain ⟨long, kn, far, near⟩ := sa
      cases long with
      | seq hx =>
        rename_i b xs
        rw [inLen_kk] at ei
        have hl := of_decide_eq_true ei
        refine ⟨_, rfl, b, xs, rfl, for_pairs (hx.same e1) (fun i σ' H' => ∃ x y, σ' = [some (.ref c), some (.ref b), some (.int rs.length), x, y] ∧ Same H H' ∧ Same H1 H' ∧ ∀ j z, j < i → xs[j]? = some z → canShow (rs.getD j 0) (es.getD j 0) z = true) ⟨_, _, rfl, e1, Same.refl _, fun j z hj => absurd hj (Nat.not_lt_zero j)⟩ (fun i σ' H' q => q.elim fun _ q => q.elim fun _ q => q.2.2.1) ?_ ?_⟩
        · rintro i x t σ' H' hx' ⟨_, _, rfl, e, e', hs⟩ ht
          have hi : i < rs.length := by have := (List.getElem?_eq_some_iff.mp hx').1; omega
          obtain ⟨a1, a2, _⟩ := ok.at_ hi
          refine ⟨t, _, rfl, SqT.of upd_same, rfl, ?_⟩
          refine ⟨_, _, rfl, _, _, rfl, rfl, ?_⟩
          have e2 := e.trans (same_new (o := HO.tup [.int (i : Int), x]) ht)
          refine ⟨_, rfl, _, rfl, x, rfl, c, rs, es, i, x, _, _, rfl, hc.same e2, (kn xs rfl hl x (List.mem_of_getElem? hx')).same e2, a1, a2, _, rfl, ?_⟩
          cases eb : canShow (rs.getD i 0) (es.getD i 0) x with
          | false => exact iteT ⟨_, rfl, thrownN ((near xs i rfl hl ⟨hs, x, hx', eb⟩).same e2).at_⟩
          | true =>
            refine iteF ⟨_, _, rfl, e2, e'.trans (same_new ht), fun j z hj hz => ?_⟩
            rcases Nat.lt_or_eq_of_le (Nat.le_of_lt_succ hj) with h | rfl
            · exact hs j z h hz
            · rw [hx'] at hz
              cases hz
              exact eb
        · rintro σ' H' ⟨_, _, rfl, e, e', hs⟩
          exact ⟨_, rfl, b, xs, rfl, hx.same e, fun t H4 e4 ht => good xs rfl hl (fun j z hz => hs j z (List.getElem?_eq_some_iff.mp hz).1 hz) t H4 (e.trans e4) ht⟩
      | non => cases ei
      | bl _ => cases ei
      | int _ => cases ei
      | str _ => cases ei
end
end KT
/-! sep.join(reversed(a list)); what is never run. -/
namespace Kx
open PySem PySem.Spec PyProof.Rows L2 RT MpR
section
variable {prog : Program} {w : World} {A : Around} {E : Value → Shared → Prop} {s : Shared}
theorem join_rev {x : Str} {t : Tok} {it l : Addr} {items : Array Value} {ys : List Str} {Q : Value → Shared → Prop} (hh : A.handled = none) (hit : s.heap.IsRevIter it l ((items.size : Int) - 1)) (hl : s.heap.IsList l items) (hne : l ≠ it) (hn : items.size ≤ sizeLine)
    (hP : ∀ acc : Array Value, ItemsOf (fun i v => items[items.size - 1 - i]? = some v) acc items.size → StrsAre acc.toList ys) (hok : (ys.map (·.length)).sum + ys.length * x.length ≤ 16777216)
    (hq : ∀ h' t' k, (∀ b o, b ≠ it → s.heap.get? b = some o → h'.get? b = some o) → Q (.str (Txt.join x ys) t') { s with heap := h', toks := k }) : wpAny (model prog w) A (call (.builtin "str.join") [.str x t, .ref it]) Q E s := by
  have hh1 : A.in1.handled = none := hh
  refine wpAny_call (codeAny_call_builtin F.slot_str_join.plain F.entry_str_join (F.slot_str_join.check _ _ _ _ _ _ _ _ (typeIs_str _ _ _) (F.args_str_join_2 _ _) ?_))
  rw [join_tree_other]
  refine wpAny_bind (wpAny_typeOf hit.typeIs ?_)
  show wpAny _ A.in1 ((pyIter (.ref it)).tryCatch _ >>= fun it => collect it >>= fun items => joinTail x items) _ _ s
  refine wpAny_bind (wpAny_tryCatch (wpAny_pyIter_revIter hit ?_))
  refine wpAny_bind (collect_rev hh1 hit hl hne hn fun h' tk acc hk hacc => ?_)
  obtain ⟨l2, hl2, ht⟩ := strsAre_values (hP acc hacc)
  subst ht
  rw [hl2]
  have hok' := joinOk_of hok
  unfold JoinOk at hok'
  rw [Bool.not_eq_true'] at hok'
  have g : Gives (joinTail x (strValues l2)) (joinMade x l2) := by
    have g0 := gives_joinTail x l2 hok'
    cases l2 with
    | nil => exact g0
    | cons p r => cases r with
      | nil => exact g0
      | cons q r' => exact g0
  exact g prog w A (wants Q E) _ (post_join l2 ⟨joinFit_length hok', fun t' k => hq h' t' k hk⟩)
end
theorem strs_of : ∀ {ys : List Str} {vs : List Value}, Vals (ys.map V.str) vs → StrsAre vs ys
  | [], [], _ => .nil
  | y :: ys, v :: vs, .cons r rs => by
    obtain ⟨t, rfl⟩ := r
    exact .cons y t (strs_of rs)
section
variable {X : Cx} {o e : Expr} {to te : TE} {apos pos p pos2 : Pos}
/-- sep.join(reversed(xs)), xs a list: sep first -/
def tJoinRev (K : PySem.W.Frag) (to te : TE) : TE := fun σ H Q => to σ H fun x H1 => (∃ a, x = .str a) ∧ te σ H1 fun v H2 => ∃ (a : Str) (q : Addr) (ys : List Str),
  x = .str a ∧ v = .ref q ∧ SqL K H2 q (ys.map V.str) ∧ (ys.reverse.map (·.length)).sum + ys.reverse.length * a.length ≤ 16777216 ∧ Q (.str (Txt.join a ys.reverse)) H2
theorem pe_joinRev (hc : X.calm = true) (ho : PE X o to) (hg : Gl X "reversed") (hm : X.mg "reversed" = none) (he : PE X e te)
    (hs1 : starEach [.Call (.Name "reversed" p) [e] [] pos2] X.env = [(false, eval (.Call (.Name "reversed" p) [e] [] pos2) X.env)] := by rfl)
    (hs : starEach [e] X.env = (false, eval e X.env) :: starEach [] X.env := by rfl)
    (hbase : attributeBase o "join" X.env (eval o X.env) = eval o X.env := by rfl) (hline : (apos.endLine == pos.line) = true := by rfl) :
    PE X (.Call (.Attribute o "join" apos) [.Call (.Name "reversed" p) [e] [] pos2] [] pos) (tJoinRev X.K to te) := by
  refine ⟨fun pins s σ H Q I h => ?_⟩
  refine PySem.Call_method1 hbase hs1 hline (thn (ho.run pins s σ H _ I h) fun v s1 ⟨x, H1, I1, r1, q1⟩ => ?_)
  obtain ⟨⟨a, rfl⟩, q1⟩ := q1
  obtain ⟨t, rfl⟩ := _root_.id r1
  refine ⟨"str", _, F.plainAttrs_str, F.slot_str_join, F.type_str_join, typeIs_str _ _ _, (fun _ e => nomatch e), Calls.callWith_builtin rfl (Calls.evalArgs_plain (Calls.spliced_cons ?_))⟩
  refine Call_ (ld_blt I1 hg hm PyProof.Rows.boot_reversed (PyProof.Rows.callWith_type1 (args_cons (thn (he.run pins s1 σ H1 _ I1 q1) fun u s2 ⟨y, H2, I2, r2, q2⟩ => args_nil ?_) hs) hs rfl))
  obtain ⟨a', q, ys, ea, rfl, hq, hz, q3⟩ := q2
  cases ea
  obtain rfl : u = Value.ref q := r2
  obtain ⟨its, rv, p', hsz⟩ := I2.list hq
  have hl := p'.isList
  obtain ⟨ol, hol, _⟩ := id hl
  have hn : its.toArray.size ≤ sizeLine := by rw [List.size_toArray, ← rv.length]; exact hsz
  have hne : q ≠ s2.heap.objs.size := Nat.ne_of_lt (Heap.lt_size hol)
  refine call_reversed_list hl (Calls.spliced_nil ?_)
  have k0 : ∀ b o, s2.heap.get? b = some o → (s2.heap.push (revObj q ((its.toArray.size : Int) - 1))).get? b = some o := fun b o e => Heap.get?_push_of_some _ e
  have I3 : Inv X pins σ H2 { s2 with heap := s2.heap.push (revObj q ((its.toArray.size : Int) - 1)) } := I2.kept (t' := s2.toks) k0
  obtain ⟨f0, f1, f2, f3, f4, f5⟩ := I2.fpOk (H' := H2) (b := s2.heap.objs.size) (Nat.le_refl _) (I2.hok.fresh (Nat.le_refl _))
  refine join_rev (s := { s2 with heap := s2.heap.push (revObj q ((its.toArray.size : Int) - 1)) }) (ys := ys.reverse) (I2.ok.hd hc) ⟨_, Heap.get?_push_size _ rfl, rfl, rfl⟩ (hl.push _) hne hn (fun acc hacc => strs_of ?_) hz fun h' t' k hk => ?_
  · rw [List.map_reverse]
    exact vals_rev rv hacc
  · exact ⟨.str _, H2, I3.turned (t' := k) (fun b o hb e => hk b o hb e) f0 f1 f3 f4 f5, ⟨t', rfl⟩, q3⟩
end
/-- what is never run -/
theorem ps_dead {X : Cx} {st : Stmt} : PS X st (fun _ _ _ => False) := ⟨fun _ _ _ _ _ _ h => h.elim⟩
theorem pe_dead {X : Cx} {e : Expr} : PE X e (fun _ _ _ => False) := ⟨fun _ _ _ _ _ _ h => h.elim⟩
end Kx
/-! set(xs), xs a list of ever so many tuples of whole numbers, few of them unlike -/
namespace Kx
open L2 PySem PySem.Spec PyProof.Rows
/-- at most 62 unlike ones -/
def FewT (ks : List (Addr × List Int)) : Prop := ∃ M : List (List Int), M.length ≤ 62 ∧ ∀ p ∈ ks, p.2 ∈ M
theorem nodup_len {α : Type} [DecidableEq α] : ∀ {A B : List α}, A.Nodup → (∀ x ∈ A, x ∈ B) → A.length ≤ B.length
  | [], _, _, _ => Nat.zero_le _
  | x :: A, B, nd, h => by
    obtain ⟨n1, n2⟩ := List.nodup_cons.mp nd
    have hx := h x List.mem_cons_self
    have := nodup_len (A := A) (B := B.erase x) n2 fun y hy => (List.mem_erase_of_ne (fun z => n1 (by rw [← z]; exact hy))).mpr (h y (List.mem_cons_of_mem _ hy))
    rw [List.length_erase_of_mem hx] at this
    have := List.length_pos_of_mem hx
    rw [List.length_cons]
    omega
theorem FewT.le {ks L : List (Addr × List Int)} (f : FewT ks) (sub : ∀ p ∈ L, p ∈ ks) (nd : (L.map (·.2)).Nodup) : L.length + 1 < 64 := by
  obtain ⟨M, m1, m2⟩ := f
  have := nodup_len nd fun x hx => by
    obtain ⟨p, hp, rfl⟩ := List.mem_map.mp hx
    exact m2 p (sub p hp)
  rw [List.length_map] at this
  omega
section
variable {P : Program} {w : World} {A : Around} {E : Value → Shared → Prop} {s : Shared}
/-- what is known of the list's items: of an older heap -/
structure OldT (P : Program) (w : World) (ks : List (Addr × List Int)) (hp : Heap) : Prop where
  few : FewT ks
  are : ∀ p ∈ ks, IsT P w hp p.2 p.1
def Later (hp : Heap) (s : Shared) : Prop := ∀ b o, hp.get? b = some o → s.heap.get? b = some o
/-- how far the set at S is -/
def SoFar (P : Program) (w : World) (ks : List (Addr × List Int)) (S : Addr) (i : Nat) (h : Heap) : Prop := ∃ L es ep t, SetTR P w h S L es ep t ∧ Got ks i L
theorem more_setM {I S : Addr} {fp wr : List Addr} {G : Array GenState → Array GenState → Prop} {n : Nat} {Pv : Nat → Value → Prop} {St : Nat → Shared → Prop} {ks : List (Addr × List Int)} {hp : Heap}
    (wk : WalksS P w A.in1 I fp wr G n Pv St) (out : S ∉ fp) (en : n = ks.length) (old : OldT P w ks hp) (val : ∀ i v, Pv i v → ∃ p, ks[i]? = some p ∧ v = .ref p.1) (nS : hp.get? S = none) (nw : ∀ b ∈ wr, hp.get? b = none) (room : A.in1.units < cLine) :
    ∀ (left i : Nat) (s : Shared) (R : Result → Shared → Prop), i + left = n → St i s → Later hp s → SoFar P w ks S i s.heap → (∀ s', Moved (S :: wr) G s s' → SoFar P w ks S n s'.heap → Later hp s' → R (.ok (.ret .none)) s') →
      codeAny (model P w) A (.builtin "set.update.loop" ⟨[.ref S, .ref I], []⟩) R s := by
  have offS : S ∉ wr := fun z => out (wk.sub _ z)
  have wider : ∀ b ∈ wr, b ∈ S :: wr := fun b z => List.mem_cons_of_mem _ z
  have stay : ∀ {s1 s2 : Shared}, Moved wr G s1 s2 → Later hp s1 → Later hp s2 := fun mv lt b o e => mv.heap b o (fun z => by
    rw [nw b z] at e
    cases e) (lt b o e)
  intro left
  induction left with
  | zero =>
    rintro i s R le st lt ⟨L, es, ep, t, tr, got⟩ q
    obtain rfl : i = n := by omega
    refine codeAny_builtin F.entry_set_update_loop ?_
    rw [Around.under_plainId F.plain_set_update_loop _]
    show wpAny _ A.in1 (pyNext (.ref I) >>= _) _ _ s
    refine wpAny_bind (wk.done s _ _ st fun s2 mv => ?_)
    show wpAny _ A.in1 (ret Value.none) _ _ s2
    have lt2 := stay mv lt
    have inK : ∀ p ∈ L, p ∈ ks := fun p z => List.mem_of_mem_take (got.sub p z)
    exact wpAny_pure (q s2 (mv.mono wider) ⟨L, es, ep, t, tr.keep (fun o e => mv.heap S o offS e) fun p z => isT_keep (old.are p (inK p z)) lt2, got⟩ lt2)
  | succ left ih =>
    rintro i s R le st lt ⟨L, es, ep, t, tr, got⟩ q
    refine codeAny_builtin F.entry_set_update_loop ?_
    rw [Around.under_plainId F.plain_set_update_loop _]
    show wpAny _ A.in1 (pyNext (.ref I) >>= _) _ _ s
    refine wpAny_bind (wk.item i s _ _ (by omega) st fun v s2 pv st2 mv => ?_)
    obtain ⟨p, at_, rfl⟩ := val i v pv
    have lt2 := stay mv lt
    have inK : ∀ p ∈ L, p ∈ ks := fun p z => List.mem_of_mem_take (got.sub p z)
    have tr2 : SetTR P w s2.heap S L es ep t := tr.keep (fun o e => mv.heap S o offS e) fun q z => isT_keep (old.are q (inK q z)) lt2
    have isp : IsT P w s2.heap p.2 p.1 := isT_keep (old.are p (List.mem_of_getElem? at_)) lt2
    show wpAny _ A.in1 (holding [Value.ref p.1] (setAdd S (.ref p.1)) >>= _) _ _ s2
    refine wpAny_bind (wpAny_holding ?_)
    unfold setAdd
    refine wpAny_holding (wpAny_bind (wpAny_pyHash_tuple room isp ?_))
    refine add_at (s := { s2 with toks := s2.toks + (p.2.length + 1) }) tr2 isp room (old.few.le inK tr2.nd) fun b h' L' es' ep' t' sb tr3 c1 c2 => ?_
    have got2 : Got ks (i + 1) L' := by
      by_cases z : p.2 ∈ L.map (·.2)
      · rw [c1 z]
        exact got.same at_ z
      · exact got.more at_ (c2 z)
    have lt3 : ∀ b o, hp.get? b = some o → h'.get? b = some o := fun b o e => (sb.2 b (fun z => by
      rw [z, nS] at e
      cases e)).trans (lt2 b o e)
    have fr : ∀ b ∈ fp, ∀ o, s2.heap.get? b = some o → h'.get? b = some o := fun b hb o e => by
      rw [sb.2 b fun z => out (by rw [← z]; exact hb)]
      exact e
    refine wpAny_pure ⟨plainId_quiet F.plain_set_update_loop _, ih (i + 1) _ R (by omega) (wk.frame _ s2 _ _ st2 (Nat.le_add_right _ _) fr) lt3 ⟨L', es', ep', t', tr3, got2⟩ fun s4 mv4 far lt4 => ?_⟩
    exact q s4 (Moved.trans wk.gtrans ((mv.mono wider).then_heap (Nat.le_add_right _ _) fun b o z e => by
      rw [sb.2 b fun y => z (by rw [y]; exact List.mem_cons_self)]
      exact e) mv4) far lt4
/-- the set as it is made -/
abbrev emptyS (w : World) : Obj := { cls := .type "set", dict := none, data := .set #[] 0 (.fresh 0 0 (!w.params.followText "set-order")) }
theorem call_setM {l : Addr} {items : Array Value} {ks : List (Addr × List Int)} {Q : Value → Shared → Prop} (hh : A.handled = none) (hl : s.heap.IsList l items) (hit : items.toList = ks.map fun p => Value.ref p.1) (old : OldT P w ks s.heap) (hu : A.units + 3 < cLine)
    (q : ∀ (h' : Heap) (tk : Nat), SoFar P w ks s.heap.objs.size ks.length h' → (∀ b o, s.heap.get? b = some o → h'.get? b = some o) → Q (.ref s.heap.objs.size) { s with heap := h', toks := tk }) : wpAny (model P w) A (call (.type "set") [.ref l]) Q E s := by
  have zn : items.size = ks.length := by
    have := congrArg List.length hit
    rwa [Array.length_toList, List.length_map] at this
  obtain ⟨c, tl, hmro⟩ := F.called_set.mro
  have hmade := F.called_set.made
  have hsub := F.called_set.sub
  refine wpAny_call (codeAny_of_tree ?_)
  show wpAny _ _ (callAny (.type "set") _) _ _ _
  refine wpAny_pure ⟨Code.quiet_builtin _ (by decide +kernel), codeAny_builtin F.entry_type_call ?_⟩
  rw [Around.under_plain (weight_type_call_type "set" [.ref l] []) rfl]
  have h1 := F.called_set.notType
  have h2 := F.called_set.canCreate
  have hct := F.typeCall_set_1 (.ref l)
  repeat (any_goals (first | assumption | wp_step))
  refine codeAny_mono (code_set_led1 (.ref l) (E := E) (Q₁ := fun obj s₁ => obj = .ref s.heap.objs.size ∧ s₁ = { s with heap := s.heap.push (emptyS w) }) ⟨rfl, rfl⟩) fun r s₁ hr => ?_
  match r, hr with
  | .error e, hr => exact hr
  | .ok (.ret obj), hr =>
    obtain ⟨rfl, rfl⟩ := hr
    have hS : (s.heap.push (emptyS w)).get? s.heap.objs.size = some (emptyS w) := Heap.get?_push_size _ rfl
    have hT : Shared.TypeIs { s with heap := s.heap.push (emptyS w) } (.ref s.heap.objs.size) "set" := ⟨_, hS, rfl⟩
    have hli := F.called_set.init.lookup
    have hbi := F.called_set.init.bind (.ref s.heap.objs.size)
    repeat (any_goals (first | assumption | wp_step))
    refine codeAny_mono (codeAny_call_builtin (R := wants (fun r s₂ => r = .none ∧ ∃ h' tk, s₂ = { s with heap := h', toks := tk } ∧ SoFar P w ks s.heap.objs.size ks.length h' ∧ (∀ b o, s.heap.get? b = some o → h'.get? b = some o)) E) F.called_set.init.plain F.entry_set_init (check_set_init_1 hT ?_)) fun r₂ s₂ hr₂ => ?_
    · obtain ⟨⟨ocls, odict, odata, oslots⟩, hol, hcl, nl, hdl⟩ := hl
      simp only at hcl hdl
      subst hcl hdl
      have holP : (s.heap.push (emptyS w)).get? l = some { cls := .type "list", dict := odict, data := .seq items nl, slots := oslots } := Heap.get?_push_of_some _ hol
      have hsls := F.sub_list_set
      have hslf := F.sub_list_frozenset
      have hne : (Value.type "list" == Value.type "dict") = false := by decide
      have hl1 : (s.heap.push (emptyS w)).IsList l items := ⟨_, holP, rfl, nl, rfl⟩
      unfold Builtin.«set.__init__» noKeywords Builtin.Frozenset.updateFrom
      generalize hPI : pyIter = PI
      wp_walk
      subst hPI
      refine wpAny_pyIter_list hl1 (wpAny_bind (wpAny_runValue ?_))
      have lS : l < s.heap.objs.size := Heap.lt_size hol
      have hh3 : A.in1.in1.in1.handled = none := by simp [hh]
      have off : l ≠ (s.heap.push (emptyS w)).objs.size := by
        rw [Heap.size_push]
        exact Nat.ne_of_lt (Nat.lt_succ_of_lt lS)
      have offS : s.heap.objs.size ∉ [(s.heap.push (emptyS w)).objs.size, l] := by
        rw [Heap.size_push]
        simp only [List.mem_cons, List.mem_singleton, List.not_mem_nil, or_false, not_or]
        exact ⟨Nat.ne_of_lt (Nat.lt_succ_self _), Nat.ne_of_gt lS⟩
      have val : ∀ (i : Nat) (v : Value), items[i]? = some v → ∃ p, ks[i]? = some p ∧ v = .ref p.1 := fun i v hv => by
        have z : items.toList[i]? = some v := by rw [Array.getElem?_toList]; exact hv
        rw [hit, List.getElem?_map] at z
        obtain ⟨p, e1, e2⟩ := Option.map_eq_some_iff.mp z
        exact ⟨p, e1, e2.symm⟩
      have fresh : ∀ b, s.heap.objs.size ≤ b → s.heap.get? b = none := fun b hb => by
        cases z : s.heap.get? b with
        | none => rfl
        | some o => exact absurd (Nat.lt_of_lt_of_le (Heap.lt_size z) hb) (Nat.lt_irrefl _)
      refine more_setM ((Walks.list hh3 _ l off items).toS) offS zn old val (fresh _ (Nat.le_refl _)) (fun b hb => fresh b (by
        rw [List.mem_singleton.mp hb, Heap.size_push]
        exact Nat.le_succ _)) hu items.size 0 _ _ (Nat.zero_add _) ⟨⟨_, Heap.get?_push_size _ rfl, rfl, rfl⟩, hl1.push _⟩ (fun b o e => Heap.get?_push_of_some _ (Heap.get?_push_of_some _ e)) ?_ ?_
      · exact ⟨[], #[], 0, _, setTR_fresh (Heap.get?_push_of_some _ hS), Got.zero ks⟩
      · intro s' hm far lt
        obtain ⟨h', g2, d', tk', os'⟩ := s'
        obtain rfl : g2 = s.gens := hm.gens
        obtain rfl : d' = s.drawn := hm.drawn
        obtain rfl : os' = s.os := hm.os
        show wpAny _ _ _ _ _ _
        refine wpAny_pure ?_
        show wpAny _ _ (ret Value.none) _ _ _
        rw [zn] at far
        exact wpAny_pure ⟨rfl, h', tk', rfl, far, lt⟩
    · match r₂, hr₂ with
      | .error e, hr₂ => exact hr₂
      | .ok (.ret r), hr₂ =>
        obtain ⟨rfl, h', tk, rfl, far, lt⟩ := hr₂
        repeat (any_goals (first | assumption | wp_step))
        exact q _ _ far lt
      | .ok .next, hr₂ => exact hr₂.elim
      | .ok .brk, hr₂ => exact hr₂.elim
      | .ok .cont, hr₂ => exact hr₂.elim
  | .ok .next, hr => exact hr.elim
  | .ok .brk, hr => exact hr.elim
  | .ok .cont, hr => exact hr.elim
end
/-- set(xs), xs a list of tuples of whole numbers, few of them unlike -/
def rSetM (K : PySem.W.Frag) (P : Program) (w : World) : List V → Hp → VK → Prop := fun xs H Q => ∃ (l : Addr) (ks : List (Addr × List Int)), xs = [V.ref l] ∧ SqL K H l (ks.map fun p => V.ref p.1) ∧ (∀ p ∈ ks, SqT K H p.1 (p.2.map V.int)) ∧ FewT ks ∧
  ∀ a L, H a = none → (∀ p ∈ L, p ∈ ks) → (∀ p ∈ ks, p.2 ∈ L.map (·.2)) → Q (.ref a) (upd H a (SetTO P w a L))
theorem cr_setM {X : Cx} (hc : X.calm = true) (hu : X.A.units + 64 < cLine) : CallR X (.type "set") (rSetM X.K X.prog X.w) := by
  intro pins s σ H xs us Q I r h
  obtain ⟨l, ks, rfl, hl, hk, hf, q⟩ := h
  rw [Vals.ref1 r]
  obtain ⟨its, rv, pl, hz⟩ := I.list hl
  refine call_setM (P := X.prog) (w := X.w) (ks := ks) (I.ok.hd hc) pl.isList (by simpa using refs_of_vals rv) ⟨hf, fun p hp => I.isT (hk p hp)⟩ (by omega) fun h' tk far keep => ?_
  obtain ⟨L, es, ep, t, tr, got⟩ := far
  exact ⟨.ref s.heap.objs.size, upd H s.heap.objs.size (SetTO X.prog X.w s.heap.objs.size L), I.laid (t' := tk) keep (Nat.le_refl _) (setTO_new tr.t0), rfl, q _ L (I.hok.fresh (Nat.le_refl _)) (fun p hp => List.mem_of_mem_take (got.sub p hp)) fun p hp => got.all p (by rw [List.take_length]; exact hp)⟩
end Kx
/-! askings that are refused -/
namespace KT
open L2 PySem PySem.Spec PyProof.Rows Kx RZ
theorem bel_no {n : Nat} {v : V} {s : Int} (h : isBel n v = false) (e : v = .int s) (z0 : 0 ≤ s) (z1 : s < (n : Int)) : False := by
  subst e
  rw [isBel_iff.mpr ⟨z0, z1⟩] at h
  cases h
theorem FgAt.one {ts : List (List Int)} {s : Int} {d e : Nat} {x y u v : Int} (h : FgAt ts s d x y) (g : FgAt ts s e u v) : d = e ∧ x = u ∧ y = v := by
  have a := h.least e u v g.hd g.rx g.ry g.lt g.eq
  have b := g.least d x y h.hd h.rx h.ry h.lt h.eq
  omega
theorem FgAt.no {ts : List (List Int)} {s : Int} {d : Nat} {x y : Int} (h : FgAt ts s d x y) (e : Exch ts s) : False := by
  have hd := h.hd
  have g : ts[d]? = some (ts.getD d []) := by rw [List.getD_eq_getElem?_getD, List.getElem?_eq_getElem hd] <;> rfl
  have z := e _ (List.mem_of_getElem? g) x y h.rx h.ry h.eq
  have := h.lt
  omega
def kwM : List V → List V → List V := fun vs zs => vs ++ [zs.getD 0 .non]
/-- a state that is none -/
def EarlyS (K : PySem.W.Frag) (a : Ad) (CM : Addr) (H : Hp) (vm v : V) (E : XK) : Prop := ∃ (m : Addr) (n : Nat) (ts : List (List Int)), vm = .ref m ∧ McAt K CM H m n ts ∧ Kn K H v ∧ isBel n v = false ∧ Thrown E H a.cN "state" v
/-- a state that is none, counters of other kinds -/
def EarlyW (K : PySem.W.Frag) (a : Ad) (C CM : Addr) (H : Hp) (vm v vc : V) (E : XK) : Prop := ∃ (m c : Addr) (n : Nat) (ts : List (List Int)) (rs es : List Int), vm = .ref m ∧ vc = .ref c ∧ McAt K CM H m n ts ∧ Kn K H v ∧ CnAt K C H c rs es ∧
  ((isBel n v = false ∧ Thrown E H a.cN "state" v) ∨ ∃ s, v = .int s ∧ 0 ≤ s ∧ s < (n : Int) ∧ rs.length ≠ ts.length ∧ Thrown E H a.cF "at" (.ref c))
/-- a machine that forgets -/
def Forg (K : PySem.W.Frag) (a : Ad) (C CM : Addr) (H : Hp) (vm v vc : V) (E : XK) : Prop := ∃ (m c : Addr) (n : Nat) (ts : List (List Int)) (s : Int) (rs es : List Int) (d : Nat) (x y : Int), vm = .ref m ∧ v = .int s ∧ vc = .ref c ∧ McAt K CM H m n ts ∧ CnAt K C H c rs es ∧ 0 ≤ s ∧ s < (n : Int) ∧ rs.length = ts.length ∧ FgAt ts s d x y ∧ ThrownF E H a.cO d x y
def EarlyL (K : PySem.W.Frag) (a : Ad) (C CM : Addr) (H : Hp) (vm v vc : V) (E : XK) : Prop := EarlyW K a C CM H vm v vc E ∨ Forg K a C CM H vm v vc E
section
variable {K : PySem.W.Frag} {a : Ad} {C CM : Addr} {H H' : Hp} {vm v vc : V} {E : XK}
theorem EarlyL.lots (h : EarlyL K a C CM H vm v vc E) (Q : VK) : spLots K a C CM [vm, v, vc] H Q E := by
  rcases h with ⟨m, c, n, ts, rs, es, rfl, rfl, hm, hv, hc, h⟩ | ⟨m, c, n, ts, s, rs, es, d, x, y, rfl, rfl, rfl, hm, hc, z0, z1, lr, fg, th⟩
  · refine ⟨m, c, n, ts, v, rs, es, rfl, hm, hv, hc, fun b => ?_, fun s ev z0 z1 => ?_⟩
    · rcases h with ⟨_, th⟩ | ⟨s, ev, z0, z1, _⟩
      · exact th
      · exact (bel_no b ev z0 z1).elim
    · rcases h with ⟨b, _⟩ | ⟨s', _, _, _, ne, th⟩
      · exact (bel_no b ev z0 z1).elim
      · exact ⟨fun _ => th, fun l => absurd l ne⟩
  · refine ⟨m, c, n, ts, .int s, rs, es, rfl, hm, .int s, hc, fun b => (bel_no b rfl z0 z1).elim, fun s' ev _ _ => ?_⟩
    cases ev
    refine ⟨fun ne => absurd lr ne, fun _ => ⟨fun d' x' y' g => ?_, fun L l H' qs c' mc => (fg.no mc.ex).elim⟩⟩
    obtain ⟨rfl, rfl, rfl⟩ := fg.one g
    exact th
theorem EarlyW.same (e : Same H H') (h : EarlyW K a C CM H vm v vc E) : EarlyW K a C CM H' vm v vc E := by
  obtain ⟨m, c, n, ts, rs, es, rfl, rfl, hm, hv, hc, h⟩ := h
  refine ⟨m, c, n, ts, rs, es, rfl, rfl, hm.same e, hv.same e, hc.same e, ?_⟩
  rcases h with ⟨b, th⟩ | ⟨s, ev, z0, z1, ne, th⟩
  · exact .inl ⟨b, th.same e⟩
  · exact .inr ⟨s, ev, z0, z1, ne, th.same e⟩
theorem EarlyL.same (e : Same H H') (h : EarlyL K a C CM H vm v vc E) : EarlyL K a C CM H' vm v vc E := by
  rcases h with h | ⟨m, c, n, ts, s, rs, es, d, x, y, rfl, rfl, rfl, hm, hc, z0, z1, lr, fg, th⟩
  · exact .inl (h.same e)
  · exact .inr ⟨m, c, n, ts, s, rs, es, d, x, y, rfl, rfl, rfl, hm.same e, hc.same e, z0, z1, lr, fg, th.same e⟩
theorem EarlyW.state (h : EarlyW K a C CM H vm v vc E) {Q : VK} (k : ∀ (m c : Addr) (n : Nat) (ts : List (List Int)) (rs es : List Int), vm = .ref m → vc = .ref c → McAt K CM H m n ts → CnAt K C H c rs es → rs.length ≠ ts.length → Thrown E H a.cF "at" (.ref c) → Q v H) : spState K a CM [vm, v] H Q E := by
  obtain ⟨m, c, n, ts, rs, es, rfl, rfl, hm, hv, hc, h⟩ := h
  refine ⟨m, n, ts, v, rfl, hm, hv, fun b => ?_, fun b => ?_⟩
  · rcases h with ⟨_, th⟩ | ⟨s, ev, z0, z1, _⟩
    · exact th
    · exact (bel_no b ev z0 z1).elim
  · rcases h with ⟨b2, _⟩ | ⟨s', _, _, _, ne, th⟩
    · rw [b2] at b
      cases b
    · exact k m c n ts rs es rfl rfl hm hc ne th
theorem unfit (TM : ClsM K mg CM) {m c : Addr} {n : Nat} {ts : List (List Int)} {rs es : List Int} (hm : McAt K CM H m n ts) (hc : CnAt K C H c rs es) (ne : rs.length ≠ ts.length) (th : Thrown E H a.cF "at" (.ref c)) (Q : VK) : spNeedFit K a C CM [.ref m, .ref c] H Q E := by
  obtain ⟨ok, dx, t, ps, h1, h2, h3⟩ := id hm
  exact ⟨m, c, dx, _, ts.length, rs, es, rfl, h1, TM.cl, TM.n1, rfl, hc, fun _ => th, fun z => absurd z ne⟩
end
def spL3 (K : PySem.W.Frag) (a : Ad) (C CM : Addr) : Sp := fun vs H Q E => ∃ vm v vc, vs = [vm, v, vc] ∧ EarlyL K a C CM H vm v vc E
def spL4 (K : PySem.W.Frag) (a : Ad) (C CM : Addr) : Sp := fun vs H Q E => ∃ vm v vc x, vs = [vm, v, vc, x] ∧ EarlyL K a C CM H vm v vc E
def spW4 (K : PySem.W.Frag) (a : Ad) (C CM : Addr) : Sp := fun vs H Q E => ∃ vm v vc x, vs = [vm, v, vc, x] ∧ EarlyW K a C CM H vm v vc E
/-- a showing that is none -/
def ShBad (K : PySem.W.Frag) (a : Ad) (H : Hp) (rs es : List Int) (v : V) (E : XK) : Prop := ∃ o, ShowArg K a H E rs es v o ∧ ∀ xs, o = some xs → xs.length = rs.length → ¬ AllShow rs es xs
def spOpen5 (K : PySem.W.Frag) (a : Ad) (C CM : Addr) : Sp := fun vs H Q E => ∃ vm v vc u x, vs = [vm, v, vc, u, x] ∧ (EarlyW K a C CM H vm v vc E ∨ ∃ (m c : Addr) (n : Nat) (ts : List (List Int)) (s : Int) (rs es : List Int), vm = .ref m ∧ v = .int s ∧ vc = .ref c ∧ McAt K CM H m n ts ∧ CnAt K C H c rs es ∧ 0 ≤ s ∧ s < (n : Int) ∧ rs.length = ts.length ∧ ShBad K a H rs es u E)
def spFgS (K : PySem.W.Frag) (a : Ad) (CM : Addr) (j : Nat) : Sp := fun vs H Q E => ∃ vm v rest, vs = vm :: v :: rest ∧ vs.length = j ∧ EarlyS K a CM H vm v E
section
variable {P : Program} {w : World} {K : PySem.W.Frag} {mg : Str → Option Value} {base : Heap} {f : Addr} {fd : FuncData} {a : Ad} {C CM : Addr}
theorem FnOk.or {CX : CXT} {k : Nat} {ps : List Str} {sp sp2 : Sp} (F : FnOk P w K mg base CX k f fd ps sp) (G : FnOk P w K mg base CX k f fd ps sp2) : FnOk P w K mg base CX k f fd ps (fun vs H Q E => sp vs H Q E ∨ sp2 vs H Q E) :=
  ⟨fun vs H Q E h => h.elim (F.len vs H Q E) (G.len vs H Q E), fun A outer s H args us vs Q E hr he hb hv h => h.elim (F.run A outer s H args us vs Q E hr he hb hv) (G.run A outer s H args us vs Q E hr he hb hv)⟩
theorem sc_fold_size : FnScope ["machine", "first", "counters"] ["machine", "first", "counters"] (defScope s_fold_size) := ⟨rfl, rfl, rfl, by decide +kernel, rfl, by decide +kernel, by decide +kernel⟩
theorem ok_fold_size (F : FnP K "fold_size" s_fold_size f fd) (T : Mg mg) (c_lots : Cal P w K mg base (L2N.CX P w) 10 "lots_of" ["machine", "first", "counters"] (spLots K a C CM)) : FnOk P w K mg base (L2N.CX P w) 11 f fd ["machine", "first", "counters"] (spL3 K a C CM) := by
  refine F.ok sc_fold_size (fun vs H Q E h => ?_) (fun cdv A outer s H vs Q E hr h => ?_)
  · obtain ⟨vm, v, vc, rfl, _⟩ := h
    rfl
  · obtain ⟨vm, v, vc, rfl, h⟩ := h
    refine ⟨_, (pss_one (ps_ret (pe_callB call_len_seq (by rfl) T.z_len PySem.boot_len (pa_cons (pe_ix ix_tup (pe_callC c_lots hr (L2N.passes_call (E := E) (L2N.takes_of rfl rfl rfl rfl) (fun _ _ _ _ z => z)) (pa_cons (pv 0) (pa_cons (pv 1) (pa_cons (pv 2) pa_nil)))) pe_int (fun _ _ => rfl)) pa_nil)))), ?_⟩
    refine ⟨_, rfl, _, rfl, _, rfl, ?_⟩
    show tNil _ _ _
    unfold tNil
    exact h.lots _
theorem sc_values : FnScope ["machine", "first", "counters", "values", "lot", "place", "state"] ["machine", "first", "counters"] (defScope s_fold_values) := ⟨rfl, rfl, rfl, by decide +kernel, rfl, by decide +kernel, by decide +kernel⟩
theorem ok_values (F : FnP K "fold_values" s_fold_values f fd) (T : Mg mg) (TM : ClsM K mg CM) (c_lots : Cal P w K mg base (L2N.CX P w) 10 "lots_of" ["machine", "first", "counters"] (spLots K a C CM)) : FnOk P w K mg base (L2N.CX P w) 11 f fd ["machine", "first", "counters"] (spL3 K a C CM) := by
  refine F.ok sc_values (fun vs H Q E h => ?_) (fun cdv A outer s H vs Q E hr h => ?_)
  · obtain ⟨vm, v, vc, rfl, _⟩ := h
    rfl
  · obtain ⟨vm, v, vc, rfl, h⟩ := h
    refine ⟨_, (pss_cons (ps_set (i := 3) sc_values.nd rfl (by first | exact Or.inl rfl | exact Or.inr rfl) (pe_op op_rep (pe_lst (pa_cons pe_non pa_nil)) (pe_fld (pv 0) rfl))) (pss_cons (ps_for (passes_of rfl) rfl (pi_tup (pe_callC c_lots hr (L2N.passes_call (E := E) (L2N.takes_of rfl rfl rfl rfl) (fun _ _ _ _ z => z)) (pa_cons (pv 0) (pa_cons (pv 1) (pa_cons (pv 2) pa_nil))))) (pg_name (i := 4) sc_values.nd rfl (by first | exact Or.inl rfl | exact Or.inr rfl)) (pss_cons ps_dead pss_nil)) (pss_cons ps_dead pss_nil))), ?_⟩
    have hm : ∃ (m : Addr) (n : Nat) (ts : List (List Int)), vm = .ref m ∧ McAt K CM H m n ts := by
      rcases h with ⟨m, c, n, ts, rs, es, rfl, rfl, hm, _⟩ | ⟨m, c, n, ts, s, rs, es, d, x, y, rfl, rfl, rfl, hm, _⟩
      · exact ⟨m, n, ts, rfl, hm⟩
      · exact ⟨m, n, ts, rfl, hm⟩
    obtain ⟨m, n, ts, rfl, hm⟩ := hm
    obtain ⟨ok, dx, t, ps, h1, h2, h3⟩ := id hm
    have n8 := ok.n8
    refine ⟨(by show 1 ≤ sizeLine; decide), fun l hl => ?_⟩
    have e1 := same_new (o := HO.lst [V.non]) hl
    have u1 := upd_same (H := H) (a := l) (o := HO.lst [V.non])
    generalize upd H l (HO.lst [V.non]) = H1 at *
    refine ⟨_, rfl, m, CM, dx, _, _, rfl, e1 _ _ h1, TM.cl, TM.n2, rfl, l, (n : Nat), _, rfl, rfl, u1, by omega, by omega, (by show 1 * _ ≤ sizeLine; rw [sizeLine_eq]; omega), fun v2 hv => ?_⟩
    have e2 := e1.trans (same_new (o := HO.lst (List.replicate (n : Int).toNat [V.non]).flatten) hv)
    refine ⟨_, rfl, _, rfl, _, rfl, ?_⟩
    show tNil _ _ _
    unfold tNil
    exact (h.same e2).lots _
theorem sc_lot_rows : FnScope ["machine", "first", "counters", "most", "fold", "walk", "alike", "at", "point", "same", "one"] ["machine", "first", "counters", "most"] (defScope s_lot_rows) := ⟨rfl, rfl, rfl, by decide +kernel, rfl, by decide +kernel, by decide +kernel⟩
theorem ok_lot_rows (F : FunD K "lot_rows" "lot_rows" (defArgs s_lot_rows) (defBody s_lot_rows) (defScope s_lot_rows) [] [] f fd) (c_size : Cal P w K mg base (L2N.CX P w) 11 "fold_size" ["machine", "first", "counters"] (spL3 K a C CM)) : FnOk P w K mg base (L2N.CX P w) 12 f fd ["machine", "first", "counters", "most"] (spL4 K a C CM) := by
  refine F.ok sc_lot_rows (fun vs H Q E h => ?_) (fun cdv A outer s H vs Q E hr h => ?_)
  · obtain ⟨vm, v, vc, x, rfl, _⟩ := h
    rfl
  · obtain ⟨vm, v, vc, x, rfl, h⟩ := h
    refine ⟨_, (pss_cons (ps_set (i := 4) sc_lot_rows.nd rfl (by first | exact Or.inl rfl | exact Or.inr rfl) (pe_callC c_size hr (L2N.passes_call (E := E) (L2N.takes_of rfl rfl rfl rfl) (fun _ _ _ _ z => z)) (pa_cons (pv 0) (pa_cons (pv 1) (pa_cons (pv 2) pa_nil))))) (pss_cons ps_dead (pss_cons ps_dead (pss_cons ps_dead (pss_cons ps_dead pss_nil))))), ?_⟩
    exact ⟨_, rfl, _, rfl, _, rfl, vm, v, vc, rfl, h⟩
theorem sc_rows_hold : FnScope ["machine", "first", "counters", "value", "fold", "showings", "row"] ["machine", "first", "counters", "value"] (defScope s_rows_hold) := ⟨rfl, rfl, rfl, by decide +kernel, rfl, by decide +kernel, by decide +kernel⟩
theorem ok_rows_hold (F : FnP K "rows_hold" s_rows_hold f fd) (c_size : Cal P w K mg base (L2N.CX P w) 11 "fold_size" ["machine", "first", "counters"] (spL3 K a C CM)) : FnOk P w K mg base (L2N.CX P w) 12 f fd ["machine", "first", "counters", "value"] (spL4 K a C CM) := by
  refine F.ok sc_rows_hold (fun vs H Q E h => ?_) (fun cdv A outer s H vs Q E hr h => ?_)
  · obtain ⟨vm, v, vc, x, rfl, _⟩ := h
    rfl
  · obtain ⟨vm, v, vc, x, rfl, h⟩ := h
    refine ⟨_, (pss_cons (ps_set (i := 4) sc_rows_hold.nd rfl (by first | exact Or.inl rfl | exact Or.inr rfl) (pe_callC c_size hr (L2N.passes_call (E := E) (L2N.takes_of rfl rfl rfl rfl) (fun _ _ _ _ z => z)) (pa_cons (pv 0) (pa_cons (pv 1) (pa_cons (pv 2) pa_nil))))) (pss_cons ps_dead (pss_cons ps_dead (pss_cons ps_dead pss_nil)))), ?_⟩
    exact ⟨_, rfl, _, rfl, _, rfl, vm, v, vc, rfl, h⟩
theorem sc_values_hold : FnScope ["machine", "first", "counters", "value", "lots", "come", "state", "item", "lot", "at"] ["machine", "first", "counters", "value"] (defScope s_values_hold) := ⟨rfl, rfl, rfl, by decide +kernel, rfl, by decide +kernel, by decide +kernel⟩
theorem ok_values_hold (F : FnP K "values_hold" s_values_hold f fd) (c_lots : Cal P w K mg base (L2N.CX P w) 10 "lots_of" ["machine", "first", "counters"] (spLots K a C CM)) : FnOk P w K mg base (L2N.CX P w) 11 f fd ["machine", "first", "counters", "value"] (spL4 K a C CM) := by
  refine F.ok sc_values_hold (fun vs H Q E h => ?_) (fun cdv A outer s H vs Q E hr h => ?_)
  · obtain ⟨vm, v, vc, x, rfl, _⟩ := h
    rfl
  · obtain ⟨vm, v, vc, x, rfl, h⟩ := h
    refine ⟨_, (pss_cons (ps_set (i := 4) sc_values_hold.nd rfl (by first | exact Or.inl rfl | exact Or.inr rfl) (pe_callC c_lots hr (L2N.passes_call (E := E) (L2N.takes_of rfl rfl rfl rfl) (fun _ _ _ _ z => z)) (pa_cons (pv 0) (pa_cons (pv 1) (pa_cons (pv 2) pa_nil))))) (pss_cons ps_dead (pss_cons ps_dead (pss_cons ps_dead (pss_cons ps_dead pss_nil))))), ?_⟩
    refine ⟨_, rfl, _, rfl, _, rfl, ?_⟩
    show tNil _ _ _
    unfold tNil
    exact h.lots _
theorem sc_open_lots : FnScope ["machine", "first", "counters", "most", "states", "state", "showing"] ["machine", "first", "counters", "most"] (defScope s_open_lots) := ⟨rfl, rfl, rfl, by decide +kernel, rfl, by decide +kernel, by decide +kernel⟩
theorem ok_open_lots (F : FunD K "open_lots" "open_lots" (defArgs s_open_lots) (defBody s_open_lots) (defScope s_open_lots) [] [] f fd) (TM : ClsM K mg CM) (c_state : Cal P w K mg base (L2N.CX P w) 3 "need_state" ["machine", "state"] (spState K a CM)) (c_fit : Cal P w K mg base (L2N.CX P w) 3 "need_fit" ["machine", "counters"] (spNeedFit K a C CM)) : FnOk P w K mg base (L2N.CX P w) 4 f fd ["machine", "first", "counters", "most"] (spW4 K a C CM) := by
  refine F.ok sc_open_lots (fun vs H Q E h => ?_) (fun cdv A outer s H vs Q E hr h => ?_)
  · obtain ⟨vm, v, vc, x, rfl, _⟩ := h
    rfl
  · obtain ⟨vm, v, vc, x, rfl, h⟩ := h
    refine ⟨_, (pss_cons (ps_expr (pe_callC c_state hr (L2N.passes_call (E := E) (L2N.takes_of rfl rfl rfl rfl) (fun _ _ _ _ z => z)) (pa_cons (pv 0) (pa_cons (pv 1) pa_nil)))) (pss_cons (ps_expr (pe_callC c_fit hr (L2N.passes_call (E := E) (L2N.takes_of rfl rfl rfl rfl) (fun _ _ _ _ z => z)) (pa_cons (pv 0) (pa_cons (pv 2) pa_nil)))) (pss_cons ps_dead (pss_cons ps_dead (pss_cons ps_dead (pss_cons ps_dead pss_nil)))))), ?_⟩
    refine ⟨_, rfl, _, rfl, h.state fun m c n ts rs es em ec hm hc ne thr => ?_⟩
    subst em
    subst ec
    refine ⟨_, rfl, _, rfl, ?_⟩
    show tNil _ _ _
    unfold tNil
    exact unfit TM hm hc ne thr _
theorem sc_open_lot : FnScope ["machine", "first", "counters", "showing", "most", "wanted", "walk", "state", "seen"] ["machine", "first", "counters", "showing", "most"] (defScope s_open_lot) := ⟨rfl, rfl, rfl, by decide +kernel, rfl, by decide +kernel, by decide +kernel⟩
theorem ok_open_lot (F : FunD K "open_lot" "open_lot" (defArgs s_open_lot) (defBody s_open_lot) (defScope s_open_lot) [] [] f fd) (TM : ClsM K mg CM) (c_state : Cal P w K mg base (L2N.CX P w) 3 "need_state" ["machine", "state"] (spState K a CM)) (c_fit : Cal P w K mg base (L2N.CX P w) 3 "need_fit" ["machine", "counters"] (spNeedFit K a C CM)) (c_chk : Cal P w K mg base (L2N.CX P w) 4 "check_showing" ["counters", "value"] (spCheck K a C)) : FnOk P w K mg base (L2N.CX P w) 5 f fd ["machine", "first", "counters", "showing", "most"] (spOpen5 K a C CM) := by
  refine F.ok sc_open_lot (fun vs H Q E h => ?_) (fun cdv A outer s H vs Q E hr h => ?_)
  · obtain ⟨vm, v, vc, u, x, rfl, _⟩ := h
    rfl
  · obtain ⟨vm, v, vc, u, x, rfl, h⟩ := h
    refine ⟨_, (pss_cons (ps_expr (pe_callC c_state hr (L2N.passes_call (E := E) (L2N.takes_of rfl rfl rfl rfl) (fun _ _ _ _ z => z)) (pa_cons (pv 0) (pa_cons (pv 1) pa_nil)))) (pss_cons (ps_expr (pe_callC c_fit hr (L2N.passes_call (E := E) (L2N.takes_of rfl rfl rfl rfl) (fun _ _ _ _ z => z)) (pa_cons (pv 0) (pa_cons (pv 2) pa_nil)))) (pss_cons (ps_set (i := 5) sc_open_lot.nd rfl (by first | exact Or.inl rfl | exact Or.inr rfl) (pe_callC c_chk hr (L2N.passes_call (E := E) (L2N.takes_of rfl rfl rfl rfl) (fun _ _ _ _ z => z)) (pa_cons (pv 2) (pa_cons (pv 3) pa_nil)))) (pss_cons ps_dead (pss_cons ps_dead pss_nil))))), ?_⟩
    rcases h with h | ⟨m, c, n, ts, s0, rs, es, rfl, rfl, rfl, hm, hc, z0, z1, lr, o, sa, bad⟩
    · refine ⟨_, rfl, _, rfl, h.state fun m c n ts rs es em ec hm hc ne thr => ?_⟩
      subst em
      subst ec
      refine ⟨_, rfl, _, rfl, ?_⟩
      show tNil _ _ _
      unfold tNil
      exact unfit TM hm hc ne thr _
    · obtain ⟨ok, dx, t, ps, h1, h2, h3⟩ := id hm
      refine ⟨_, rfl, _, rfl, m, n, ts, .int s0, rfl, hm, .int s0, fun b => (bel_no b rfl z0 z1).elim, fun _ => ?_⟩
      refine ⟨_, rfl, _, rfl, m, c, dx, _, ts.length, rs, es, rfl, h1, TM.cl, TM.n1, rfl, hc, fun z => absurd lr z, fun _ => ?_⟩
      exact ⟨_, rfl, _, rfl, c, rs, es, u, o, rfl, hc, sa, fun xs eo ln all => (bad xs eo ln all).elim⟩
theorem sc_needed : FnScope ["machine", "first", "counters", "most", "showing", "states"] ["machine", "first", "counters", "most"] (defScope s_needed_values) := ⟨rfl, rfl, rfl, by decide +kernel, rfl, by decide +kernel, by decide +kernel⟩
theorem ok_needed (F : FunD K "needed_values" "needed_values" (defArgs s_needed_values) (defBody s_needed_values) (defScope s_needed_values) [] [] f fd) (T : Mg mg) (c_open : CalN P w K mg base (L2N.CX P w) 4 3 "open_lots" ["machine", "first", "counters", "most"] ["most"] kwM (spW4 K a C CM)) : FnOk P w K mg base (L2N.CX P w) 5 f fd ["machine", "first", "counters", "most"] (spW4 K a C CM) := by
  refine F.ok sc_needed (fun vs H Q E h => ?_) (fun cdv A outer s H vs Q E hr h => ?_)
  · obtain ⟨vm, v, vc, x, rfl, _⟩ := h
    rfl
  · obtain ⟨vm, v, vc, x, rfl, h⟩ := h
    refine ⟨_, (pss_one (ps_ret (pe_callB (cr_max (by rfl)) (by rfl) T.z_max (by decide +kernel) (pa_cons (pe_lc (own := [("showing", 4), ("states", 5)]) (g := gTup K 2 (gCons (gName 4) (gCons (gName 5) gNil))) (by rfl) sc_needed.nd (pi_tup (pe_callNn c_open hr (L2N.passes_call (E := E) (L2N.takes_of rfl rfl rfl rfl) (fun _ _ _ _ z => z)) (pa_cons (pv 0) (pa_cons (pv 1) (pa_cons (pv 2) pa_nil))) (pk_cons (pv 3) pk_nil))) (blkOk_by (own := [("showing", 4), ("states", 5)]) (N := ["machine", "first", "counters", "most", "showing", "states"]) (sc := defScope s_needed_values) (by decide +kernel))
      (fun _ _ _ _ _ => pg_tup rfl (pgs_cons (pg_name (i := 4) sc_needed.nd rfl (by first | exact Or.inl rfl | exact Or.inr rfl)) (pgs_cons (pg_name (i := 5) sc_needed.nd rfl (by first | exact Or.inl rfl | exact Or.inr rfl)) pgs_nil))) (fun _ _ _ _ _ => pts_nil) (fun _ _ _ _ _ => pe_dead)) pa_nil)))), ?_⟩
    exact ⟨_, rfl, _, rfl, _, rfl, _, rfl, rfl, rfl, vm, v, vc, x, rfl, h⟩
structure Mx (n : Nat) (ts : List (List Int)) (s : Int) : Prop where
  s0 : 0 ≤ s
  s1 : s < (n : Int)
  ex : Exch ts s
def Zer (K : PySem.W.Frag) (H : Hp) (u : V) (rs es : List Int) : Prop := Long K H u (some ((List.replicate rs.length (0 : Int)).map V.int)) ∧ AllShow rs es ((List.replicate rs.length (0 : Int)).map V.int)
def spShown (K : PySem.W.Frag) (a : Ad) (C CM : Addr) : Sp := fun vs H Q E => ∃ vm v vc u, vs = [vm, v, vc, u] ∧ (EarlyL K a C CM H vm v vc E ∨ ∃ (m c : Addr) (n : Nat) (ts : List (List Int)) (s : Int) (rs es : List Int), vm = .ref m ∧ v = .int s ∧ vc = .ref c ∧ McAt K CM H m n ts ∧ CnAt K C H c rs es ∧ rs.length = ts.length ∧ Mx n ts s ∧
  (ShBad K a H rs es u E ∨ (Zer K H u rs es ∧ ∀ q (xs : List Int) H', Same H H' → SqT K H' q (xs.map V.int) → xs.length ≤ 8 → Q (.ref q) H')))
def spTold (K : PySem.W.Frag) (a : Ad) (C CM : Addr) : Sp := fun vs H Q E => ∃ vm v vc u x, vs = [vm, v, vc, u, x] ∧ (EarlyL K a C CM H vm v vc E ∨ ∃ (m c : Addr) (n : Nat) (ts : List (List Int)) (s : Int) (rs es : List Int), vm = .ref m ∧ v = .int s ∧ vc = .ref c ∧ McAt K CM H m n ts ∧ CnAt K C H c rs es ∧ rs.length = ts.length ∧ Mx n ts s ∧
  (ShBad K a H rs es u E ∨ (Zer K H u rs es ∧ Kn K H x ∧ (∀ k : Nat, k ≤ 8 → isBel k x = false) ∧ Thrown E H a.cF "at" x)))
theorem ShBad.same {H H' : Hp} {rs es : List Int} {u : V} {E : XK} (e : Same H H') (h : ShBad K a H rs es u E) : ShBad K a H' rs es u E := by
  obtain ⟨o, sa, bad⟩ := h
  exact ⟨o, ⟨sa.long.same e, fun xs q l x hx => (sa.kn xs q l x hx).same e, fun z => (sa.far z).same e, fun xs i q l z => (sa.near xs i q l z).same e⟩, bad⟩
theorem Zer.arg {H : Hp} {rs es : List Int} {u : V} {E : XK} (h : Zer K H u rs es) : ShowArg K a H E rs es u (some ((List.replicate rs.length (0 : Int)).map V.int)) := by
  have ln : ((List.replicate rs.length (0 : Int)).map V.int).length = rs.length := by rw [List.length_map, List.length_replicate]
  refine ⟨h.1, fun xs q l x hx => ?_, fun z => ?_, fun xs i q l z => ?_⟩
  · cases q
    obtain ⟨y, _, rfl⟩ := List.mem_map.mp hx
    exact .int y
  · rcases z with z | ⟨xs, q, z⟩
    · cases z
    · cases q
      exact absurd ln z
  · cases q
    obtain ⟨_, x, hx, z⟩ := z
    rw [h.2 i x hx] at z
    cases z
theorem Zer.same {H H' : Hp} {rs es : List Int} {u : V} (e : Same H H') (h : Zer K H u rs es) : Zer K H' u rs es := ⟨h.1.same e, h.2⟩
theorem nats_zero {k : Nat} : (List.replicate k (0 : Int)).map V.int = (List.replicate k 0).map fun c : Nat => V.int (c : Nat) := by
  rw [List.map_replicate, List.map_replicate]
  rfl
theorem sc_shown : FnScope ["machine", "first", "counters", "showing", "lots"] ["machine", "first", "counters", "showing"] (defScope s_lot_shown) := ⟨rfl, rfl, rfl, by decide +kernel, rfl, by decide +kernel, by decide +kernel⟩
theorem ok_shown (F : FnP K "lot_shown" s_lot_shown f fd) (T : Mg mg) (TM : ClsM K mg CM) (c_lots : Cal P w K mg base (L2N.CX P w) 10 "lots_of" ["machine", "first", "counters"] (spLots K a C CM)) (c_with : Cal P w K mg base CX0 1 "lot_with" ["lots", "state"] (spLotWith K)) (c_by : Cal P w K mg base CX0 3 "moved_by" ["tables", "place", "counts"] (spMovedBy K)) (c_chk : Cal P w K mg base (L2N.CX P w) 4 "check_showing" ["counters", "value"] (spCheck K a C)) : FnOk P w K mg base (L2N.CX P w) 11 f fd ["machine", "first", "counters", "showing"] (spShown K a C CM) := by
  refine F.ok sc_shown (fun vs H Q E h => ?_) (fun cdv A outer s H vs Q E hr h => ?_)
  · obtain ⟨vm, v, vc, u, rfl, _⟩ := h
    rfl
  · obtain ⟨vm, v, vc, u, rfl, h⟩ := h
    refine ⟨_, (pss_cons (ps_set (i := 4) sc_shown.nd rfl (by first | exact Or.inl rfl | exact Or.inr rfl) (pe_callC c_lots hr (L2N.passes_call (E := E) (L2N.takes_of rfl rfl rfl rfl) (fun _ _ _ _ z => z)) (pa_cons (pv 0) (pa_cons (pv 1) (pa_cons (pv 2) pa_nil))))) (pss_one (ps_ret (pe_callC c_with hr pass0 (pa_cons (pv 4) (pa_cons (pe_callC c_by hr pass0 (pa_cons (pe_fld (pv 0) rfl) (pa_cons (pv 1) (pa_cons (pe_callC c_chk hr (L2N.passes_call (E := E) (L2N.takes_of rfl rfl rfl rfl) (fun _ _ _ _ z => z)) (pa_cons (pv 2) (pa_cons (pv 3) pa_nil))) pa_nil)))) pa_nil)))))), ?_⟩
    rcases h with h | ⟨m, c, n, ts, s0, rs, es, rfl, rfl, rfl, hm, hc, lr, mc, h⟩
    · refine ⟨_, rfl, _, rfl, _, rfl, ?_⟩
      show tNil _ _ _
      unfold tNil
      exact h.lots _
    refine ⟨_, rfl, _, rfl, _, rfl, m, c, n, ts, .int s0, rs, es, rfl, hm, .int s0, hc, fun b => (bel_no b rfl mc.s0 mc.s1).elim, fun s' ev _ _ => ?_⟩
    cases ev
    refine ⟨fun z => absurd lr z, fun _ => ⟨fun d x y g => (g.no mc.ex).elim, fun L' l H1 qs cl mc' e1 hl hq hcl => ?_⟩⟩
    obtain ⟨ok, dx, t, ps, h1, h2, h3⟩ := id (hm.same e1)
    refine ⟨_, rfl, _, rfl, m, CM, dx, _, _, rfl, h1, TM.cl, TM.n3, rfl, _, rfl, _, rfl, _, rfl, ?_⟩
    rcases h with ⟨o, sa, bad⟩ | ⟨z, k⟩
    · have sb := (ShBad.same e1 ⟨o, sa, bad⟩ : ShBad K a H1 rs es u E)
      obtain ⟨o, sa, bad⟩ := sb
      exact ⟨c, rs, es, u, o, rfl, hc.same e1, sa, fun xs eo ln all => (bad xs eo ln all).elim⟩
    refine ⟨c, rs, es, u, _, rfl, hc.same e1, (z.same e1).arg, fun xs ex _ _ r H2 e2 hr2 => ?_⟩
    cases ex
    have sL := mc'.sL
    have wl := mc'.wrl
    refine ⟨t, r, ps, ts, s0, List.replicate rs.length 0, L', n, rfl, sqT_same e2 h2, h3.imp fun _ _ z => sqT_same e2 z, nats_zero ▸ hr2, by rw [List.length_replicate]; exact lr.symm, wl, sL, fun H3 e3 => ?_⟩
    have e23 := e2.trans e3
    have ll : (lotsOf cl L').length ≤ 8 := by
      unfold lotsOf
      rw [List.length_map]
      have := nodup_le (keys_nodup (c := cl) (M := L')) (L := L'.map cl) fun k hk => by
        obtain ⟨y, hy, rfl⟩ := mem_keys.mp hk
        exact List.mem_map.mpr ⟨y, hy, rfl⟩
      rw [List.length_map] at this
      have := wl.few
      have := wl.n8
      omega
    exact ⟨l, _, qs, cl, L', rfl, (hl.same e23).sqT, hq.imp fun _ _ z => sqT_same e23 z, byC_in (fun t ht => (wl.tab t ht).2.2) sL, ll, fun q H4 e4 hq4 => k q _ H4 (e1.trans (e23.trans e4)) hq4 (by
      have := wl.few
      have := wl.n8
      have : (cls cl L' (byC ts (List.replicate rs.length 0) s0)).length ≤ L'.length := List.length_filter_le _ _
      omega)⟩
theorem sc_told : FnScope ["machine", "first", "counters", "showing", "value", "lot"] ["machine", "first", "counters", "showing", "value"] (defScope s_told_state) := ⟨rfl, rfl, rfl, by decide +kernel, rfl, by decide +kernel, by decide +kernel⟩
theorem ok_told (F : FnP K "told_state" s_told_state f fd) (T : Mg mg) (R : Er P w K mg base a) (c_shown : Cal P w K mg base (L2N.CX P w) 11 "lot_shown" ["machine", "first", "counters", "showing"] (spShown K a C CM)) (c_below : Cal P w K mg base CX0 2 "is_below" ["value", "limit"] (spBelow K)) : FnOk P w K mg base (L2N.CX P w) 12 f fd ["machine", "first", "counters", "showing", "value"] (spTold K a C CM) := by
  refine F.ok sc_told (fun vs H Q E h => ?_) (fun cdv A outer s H vs Q E hr h => ?_)
  · obtain ⟨vm, v, vc, u, x, rfl, _⟩ := h
    rfl
  · obtain ⟨vm, v, vc, u, x, rfl, h⟩ := h
    refine ⟨_, (pss_cons (ps_set (i := 5) sc_told.nd rfl (by first | exact Or.inl rfl | exact Or.inr rfl) (pe_callC c_shown hr (L2N.passes_call (E := E) (L2N.takes_of rfl rfl rfl rfl) (fun _ _ _ _ z => z)) (pa_cons (pv 0) (pa_cons (pv 1) (pa_cons (pv 2) (pa_cons (pv 3) pa_nil)))))) (pss_cons (ps_if (pt_not (pt_val (pe_callC c_below hr pass0 (pa_cons (pv 4) (pa_cons (pe_callB call_len_seq (by rfl) T.z_len PySem.boot_len (pa_cons (pv 5) pa_nil)) pa_nil))))) (pss_one (psN R.Refused rfl hr (L2N.takes_of rfl rfl rfl rfl) (pa_cons (pv 4) pa_nil))) pss_nil) (pss_cons ps_dead pss_nil))), ?_⟩
    rcases h with h | ⟨m, c, n, ts, s0, rs, es, rfl, rfl, rfl, hm, hc, lr, mc, h⟩
    · exact ⟨_, rfl, _, rfl, _, rfl, _, rfl, vm, v, vc, u, rfl, .inl h⟩
    refine ⟨_, rfl, _, rfl, _, rfl, _, rfl, _, _, _, u, rfl, .inr ⟨m, c, n, ts, s0, rs, es, rfl, rfl, rfl, hm, hc, lr, mc, ?_⟩⟩
    rcases h with h | ⟨z, kx, nb, th⟩
    · exact .inl h
    refine .inr ⟨z, fun q xs H1 e1 hq l8 => ?_⟩
    refine ⟨_, rfl, _, rfl, q, _, rfl, .inr hq, x, _, rfl, kx.same e1, _, rfl, ?_⟩
    rw [List.length_map]
    rw [nb _ l8]
    exact iteT ⟨_, rfl, thrownN (th.same e1).at_⟩
theorem sc_forgottenS : FnScope ["machine", "first", "come", "deed", "table", "one", "other"] ["machine", "first"] (defScope s_forgotten) := ⟨rfl, rfl, rfl, by decide +kernel, rfl, by decide +kernel, by decide +kernel⟩
theorem ok_forgottenS (F : FnP K "forgotten" s_forgotten f fd) (c_reached : Cal P w K mg base (L2N.CX P w) 6 "reached" ["machine", "first"] (spReached K a CM)) : FnOk P w K mg base (L2N.CX P w) 7 f fd ["machine", "first"] (spFgS K a CM 2) := by
  refine F.ok sc_forgottenS (fun vs H Q E h => ?_) (fun cdv A outer s H vs Q E hr h => ?_)
  · obtain ⟨vm, v, rest, rfl, l, _⟩ := h
    exact l
  · obtain ⟨vm, v, rest, rfl, l, h⟩ := h
    obtain ⟨m, n, ts, rfl, hm, hv, b, thr⟩ := h
    refine ⟨_, (pss_cons (ps_set (i := 2) sc_forgottenS.nd rfl (by first | exact Or.inl rfl | exact Or.inr rfl) (pe_callC c_reached hr (L2N.passes_call (E := E) (L2N.takes_of rfl rfl rfl rfl) (fun _ _ _ _ z => z)) (pa_cons (pv 0) (pa_cons (pv 1) pa_nil)))) (pss_cons ps_dead (pss_cons ps_dead pss_nil))), ?_⟩
    obtain rfl : rest = [] := List.eq_nil_of_length_eq_zero (by simpa using l)
    exact ⟨_, rfl, _, rfl, m, n, ts, v, rfl, hm, hv, fun _ => thr, fun z => by rw [b] at z; cases z⟩
theorem sc_exchS : FnScope ["machine", "first", "found", "deed", "one", "other"] ["machine", "first"] (defScope s_need_exchanges) := ⟨rfl, rfl, rfl, by decide +kernel, rfl, by decide +kernel, by decide +kernel⟩
theorem ok_exchS (F : FnP K "need_exchanges" s_need_exchanges f fd) (c_forgotten : Cal P w K mg base (L2N.CX P w) 7 "forgotten" ["machine", "first"] (spFgS K a CM 2)) : FnOk P w K mg base (L2N.CX P w) 8 f fd ["machine", "first"] (spFgS K a CM 2) := by
  refine F.ok sc_exchS (fun vs H Q E h => ?_) (fun cdv A outer s H vs Q E hr h => ?_)
  · obtain ⟨vm, v, rest, rfl, l, _⟩ := h
    exact l
  · obtain ⟨vm, v, rest, rfl, l, h⟩ := h
    obtain ⟨m, n, ts, rfl, hm, hv, b, thr⟩ := h
    refine ⟨_, (pss_cons (ps_set (i := 2) sc_exchS.nd rfl (by first | exact Or.inl rfl | exact Or.inr rfl) (pe_callC c_forgotten hr (L2N.passes_call (E := E) (L2N.takes_of rfl rfl rfl rfl) (fun _ _ _ _ z => z)) (pa_cons (pv 0) (pa_cons (pv 1) pa_nil)))) (pss_cons ps_dead (pss_cons ps_dead pss_nil))), ?_⟩
    obtain rfl : rest = [] := List.eq_nil_of_length_eq_zero (by simpa using l)
    exact ⟨_, rfl, _, rfl, .ref m, v, [], rfl, rfl, m, n, ts, rfl, hm, hv, b, thr⟩
theorem sc_settledS : FnScope ["machine", "first", "pairs", "rounds"] ["machine", "first", "pairs", "rounds"] (defScope s_settled) := ⟨rfl, rfl, rfl, by decide +kernel, rfl, by decide +kernel, by decide +kernel⟩
theorem ok_settledS (F : FnP K "settled" s_settled f fd) (c_exch : Cal P w K mg base (L2N.CX P w) 8 "need_exchanges" ["machine", "first"] (spFgS K a CM 2)) : FnOk P w K mg base (L2N.CX P w) 9 f fd ["machine", "first", "pairs", "rounds"] (spFgS K a CM 4) := by
  refine F.ok sc_settledS (fun vs H Q E h => ?_) (fun cdv A outer s H vs Q E hr h => ?_)
  · obtain ⟨vm, v, rest, rfl, l, _⟩ := h
    exact l
  · obtain ⟨vm, v, rest, rfl, l, h⟩ := h
    obtain ⟨m, n, ts, rfl, hm, hv, b, thr⟩ := h
    refine ⟨_, (pss_cons (ps_expr (pe_callC c_exch hr (L2N.passes_call (E := E) (L2N.takes_of rfl rfl rfl rfl) (fun _ _ _ _ z => z)) (pa_cons (pv 0) (pa_cons (pv 1) pa_nil)))) (pss_cons ps_dead pss_nil)), ?_⟩
    obtain ⟨p1, p2, rfl⟩ : ∃ p1 p2, rest = [p1, p2] := by
      match rest, l with
      | [p1, p2], _ => exact ⟨p1, p2, rfl⟩
    exact ⟨_, rfl, _, rfl, .ref m, v, [], rfl, rfl, m, n, ts, rfl, hm, hv, b, thr⟩
end
end KT
/-! the law's draws -/
namespace KT
open PySem PySem.Spec PyProof.Rows L2 Kx RZ
/-- a source of draws -/
def bx (t : Int × Int) : HO := .lst [.int t.1, .int t.2]
/-- from H to H' only the source at b has moved, things were made -/
def Mv (b : Addr) (H H' : Hp) : Prop := (∀ c o, c ≠ b → H c = some o → H' c = some o) ∧ ∃ t, H' b = some (bx t)
theorem Mv.refl {b : Addr} {H : Hp} {t : Int × Int} (h : H b = some (bx t)) : Mv b H H := ⟨fun _ _ _ h => h, t, h⟩
theorem Mv.trans {b : Addr} {H H1 H2 : Hp} (h : Mv b H H1) (g : Mv b H1 H2) : Mv b H H2 := ⟨fun c o ne q => g.1 c o ne (h.1 c o ne q), g.2⟩
theorem Mv.same {b : Addr} {H H1 H2 : Hp} (h : Mv b H H1) (g : Same H1 H2) : Mv b H H2 := ⟨fun c o ne q => g c o (h.1 c o ne q), h.2.elim fun t q => ⟨t, g _ _ q⟩⟩
theorem Mv.upd {b : Addr} {H : Hp} (t : Int × Int) : Mv b H (L2.upd H b (bx t)) := ⟨fun c o ne q => by rw [upd_ne ne]; exact q, t, upd_same⟩
section
variable {K : PySem.W.Frag} {b a : Addr} {H H' : Hp} {t : Int × Int} {xs : List V}
theorem Mv.rd {u : HO} (m : Mv b H H') (hb : H b = some (bx t)) (n1 : ∀ ys, u ≠ .lst ys) (h : Rd H a u) : Rd H' a u := by
  rcases h with h | ⟨z, h⟩
  · exact .inl (m.1 _ _ (ne_of h hb (n1 _)) h)
  · exact .inr ⟨z, m.1 _ _ (ne_of h hb (fun z => nomatch z)) h⟩
theorem Mv.sqT (m : Mv b H H') (hb : H b = some (bx t)) (h : SqT K H a xs) : SqT K H' a xs := h.imp (m.rd hb fun _ z => nomatch z) id
theorem Mv.sqL (m : Mv b H H') (ne : a ≠ b) (h : SqL K H a xs) : SqL K H' a xs := h.imp (fun h => h.elim (fun h => .inl (m.1 _ _ ne h)) fun ⟨z, h⟩ => .inr ⟨z, m.1 _ _ ne h⟩) id
theorem Mv.tupD (m : Mv b H H') (hb : H b = some (bx t)) (h : TupD H a xs) : TupD H' a xs := h.elim fun o h => ⟨o, m.1 _ _ (ne_of h.1 hb (fun z => nomatch z)) h.1, h.2⟩
theorem Mv.mc {C c : Addr} {n : Nat} {ts : List (List Int)} (m : Mv b H H') (hb : H b = some (bx t)) (h : McAt K C H c n ts) : McAt K C H' c n ts := by
  obtain ⟨ok, dx, p, ps, h1, h2, h3⟩ := h
  exact ⟨ok, dx, p, ps, m.1 _ _ (ne_of h1 hb (fun z => nomatch z)) h1, m.sqT hb h2, h3.imp fun _ _ q => m.sqT hb q⟩
end
def spTake : Sp := fun vs H Q _ => ∃ (b : Addr) (t : Int × Int) (many : Int), vs = [.ref b, .int many] ∧ H b = some (bx t) ∧ 0 < many ∧ many < 1073741824 ∧
  ∀ (r : Int) (H' : Hp), 0 ≤ r → r < many → Mv b H H' → Q (.int r) H'
def spPick (K : PySem.W.Frag) : Sp := fun vs H Q _ => ∃ (b a : Addr) (t : Int × Int) (xs : List V), vs = [.ref b, .ref a] ∧ H b = some (bx t) ∧ a ≠ b ∧ SqL K H a xs ∧ 0 < xs.length ∧ xs.length < 1073741824 ∧
  ∀ (v : V) (H' : Hp), v ∈ xs → Mv b H H' → Q v H'
def spBox (K : PySem.W.Frag) : Sp := fun vs H Q _ => ∃ (a : Addr) (ns : List Int) (k : Nat), vs = [.ref a, .int (k : Int)] ∧ SqL K H a (ns.map V.int) ∧ ns.length ≤ 63 ∧
  ∀ (H' : Hp) (b : Addr) (t : Int × Int), Same H H' → H b = none → H' b = some (bx t) → Q (.ref b) H'
section
variable {P : Program} {w : World} {K : PySem.W.Frag} {mg : Str → Option Value} {base : Heap} {f : Addr} {fd : FuncData} {a : Ad} {C CM : Addr}
theorem sc_law_take : FnScope ["box", "many", "digit", "raw"] ["box", "many"] (defScope s_law_take) := ⟨rfl, rfl, rfl, by decide +kernel, rfl, by decide +kernel, by decide +kernel⟩
theorem ok_take (F : FnP K "_law_take" s_law_take f fd) (T : Mg mg) : FnOk P w K mg base CX0 1 f fd ["box", "many"] spTake := by
  refine F.ok sc_law_take (fun vs H Q E h => ?_) (fun cdv A outer s H vs Q E hr h => ?_)
  · obtain ⟨b, t, many, rfl, _⟩ := h
    rfl
  · obtain ⟨b, ⟨x, y⟩, many, rfl, hb, h0, h1, k⟩ := h
    refine ⟨_, PSs.nox (pss_cons (ps_if (pt_cmpR op_gt (pe_ix ix_list (pv 0) pe_int (fun _ _ => rfl)) pe_int (nomark _))
  (pss_cons (ps_set (i := 2) sc_law_take.nd rfl (by first | exact Or.inl rfl | exact Or.inr rfl) (pe_op op_mod (pe_callTy call_int1 (by rfl) T.z_int (by decide +kernel) (pa_cons (pe_ix ix_list (pv 0) pe_int (fun _ _ => rfl)) pa_nil)) (pv 1)))
  (pss_cons (ps_asg (pe_op op_fdivN (pe_ix ix_list (pv 0) pe_int (fun _ _ => rfl)) (pv 1)) (pg_sub (pv 0) pe_int set_list))
  (pss_one (ps_ret (pv 2)))))
  pss_nil)
  (pss_cons (ps_set (i := 3) sc_law_take.nd rfl (by first | exact Or.inl rfl | exact Or.inr rfl) (pe_op op_mod (pe_callTy call_int1 (by rfl) T.z_int (by decide +kernel) (pa_cons (pe_op op_add (pe_op op_mul (pe_ix ix_list (pv 0) pe_int (fun _ _ => rfl)) pe_int) pe_int) pa_nil)) pe_int))
  (pss_cons (ps_asg (pe_op op_add (pe_op op_mod (pe_callTy call_int1 (by rfl) T.z_int (by decide +kernel) (pa_cons (pe_op op_add (pe_op op_mul (pv 3) pe_int) pe_int) pa_nil)) pe_int) pe_int) (pg_sub (pv 0) pe_int set_list))
  (pss_one (ps_ret (pe_op op_mod (pe_callTy call_int1 (by rfl) T.z_int (by decide +kernel) (pa_cons (pe_op op_fdiv (pe_op op_add (pe_op op_mul (pv 3) pe_int) (pe_ix ix_list (pv 0) pe_int (fun _ _ => rfl))) pe_int) pa_nil)) (pv 1))))))), ?_⟩
    refine ⟨_, rfl, b, _, 0, _, rfl, rfl, SqL.of hb, rfl, _, _, rfl, rfl, _, rfl, ?_⟩
    refine ite2 (fun hx => ?_) (fun hx => ?_)
    · refine ⟨_, rfl, b, _, 0, _, rfl, rfl, SqL.of hb, rfl, .inl ⟨_, rfl, _, rfl, _, _, rfl, rfl, h0, ?_⟩⟩
      refine ⟨_, rfl, b, _, 0, _, rfl, rfl, SqL.of hb, rfl, _, rfl, _, _, rfl, rfl, ⟨by omega, by omega⟩, ?_⟩
      refine ⟨_, rfl, b, _, 0, 0, rfl, rfl, hb, rfl, ?_⟩
      exact ⟨_, rfl, k _ _ (Int.emod_nonneg _ (by omega)) (Int.emod_lt_of_pos _ h0) (Mv.upd (x.fdiv many, y))⟩
    · refine ⟨_, rfl, b, _, 1, _, rfl, rfl, SqL.of hb, rfl, _, _, rfl, rfl, .inr ⟨by decide, by decide⟩, _, _, rfl, rfl, .inl ⟨_, rfl, _, _, rfl, rfl, (by show (0 : Int) < 2147483399; decide), ?_⟩⟩
      refine ⟨_, rfl, _, _, rfl, rfl, .inr ⟨by decide, by decide⟩, _, _, rfl, rfl, .inl ⟨_, rfl, _, _, rfl, rfl, (by show (0 : Int) < 2147483587; decide), _, _, rfl, rfl, ?_⟩⟩
      refine ⟨_, rfl, b, _, 1, 1, rfl, rfl, hb, rfl, ?_⟩
      refine ⟨_, rfl, _, _, rfl, rfl, .inr ⟨by decide, by decide⟩, ?_⟩
      refine ⟨_, rfl, b, _, 1, _, rfl, rfl, SqL.of upd_same, rfl, _, _, rfl, rfl, _, _, rfl, rfl, ⟨by decide, by decide⟩, .inl ⟨_, rfl, _, rfl, _, _, rfl, rfl, h0, ?_⟩⟩
      exact k _ _ (Int.emod_nonneg _ (by omega)) (Int.emod_lt_of_pos _ h0) (Mv.upd (x, ((y * 40692 + 73) % 2147483399 * 39373 + 29) % 2147483587 + 1))
theorem sc_law_pick : FnScope ["box", "some"] ["box", "some"] (defScope s_law_pick) := ⟨rfl, rfl, rfl, by decide +kernel, rfl, by decide +kernel, by decide +kernel⟩
theorem ok_pick (F : FnP K "_law_pick" s_law_pick f fd) (T : Mg mg) (c__law_take : Cal P w K mg base CX0 1 "_law_take" ["box", "many"] spTake) : FnOk P w K mg base CX0 2 f fd ["box", "some"] (spPick K) := by
  refine F.ok sc_law_pick (fun vs H Q E h => ?_) (fun cdv A outer s H vs Q E hr h => ?_)
  · obtain ⟨b, a, t, xs, rfl, _⟩ := h
    rfl
  · obtain ⟨b, a, t, xs, rfl, hb, ne, hs, h0, h1, k⟩ := h
    refine ⟨_, PSs.nox (pss_one (ps_ret (pe_ix ix_list (pv 1) (pe_callC c__law_take hr pass0 (pa_cons (pv 0) (pa_cons (pe_callB call_len_seq (by rfl) T.z_len PySem.boot_len (pa_cons (pv 1) pa_nil)) pa_nil))) (fun _ _ => rfl)))), ?_⟩
    refine ⟨_, rfl, _, rfl, _, rfl, a, xs, rfl, .inl hs, b, t, _, rfl, hb, by omega, by omega, fun r H' r0 r1 m => ?_⟩
    obtain ⟨i, rfl⟩ : ∃ i : Nat, r = (i : Int) := ⟨r.toNat, by omega⟩
    have hx : xs[i]? = some xs[i] := List.getElem?_eq_getElem (by omega)
    exact ⟨a, xs, _, _, rfl, rfl, m.sqL ne hs, atI_nat hx, k _ H' (List.mem_of_getElem? hx) m⟩
theorem sc_law_box : FnScope ["script", "k", "cell", "great"] ["script", "k"] (defScope s_law_box) := ⟨rfl, rfl, rfl, by decide +kernel, rfl, by decide +kernel, by decide +kernel⟩
theorem ok_box (F : FnP K "_law_box" s_law_box f fd) (T : Mg mg) : FnOk P w K mg base CX0 1 f fd ["script", "k"] (spBox K) := by
  refine F.ok sc_law_box (fun vs H Q E h => ?_) (fun cdv A outer s H vs Q E hr h => ?_)
  · obtain ⟨a, ns, kk, rfl, _⟩ := h
    rfl
  · obtain ⟨a, ns, kk, rfl, hs, hl, k⟩ := h
    refine ⟨_, PSs.nox (pss_cons (ps_set (i := 2) sc_law_box.nd rfl (by first | exact Or.inl rfl | exact Or.inr rfl) (pe_op op_add (pe_op op_mul pe_int (pv 1)) pe_int))
  (pss_cons (ps_mid (ps_if (pt_cmpR op_lt (pv 1) (pe_callB call_len_seq (by rfl) T.z_len PySem.boot_len (pa_cons (pv 0) pa_nil)) (nomark _))
  (pss_one (ps_set (i := 2) sc_law_box.nd rfl (by first | exact Or.inl rfl | exact Or.inr rfl) (pe_callB call_abs (by rfl) T.z_abs (by decide +kernel) (pa_cons (pe_callTy call_int1 (by rfl) T.z_int (by decide +kernel) (pa_cons (pe_ix ix_list (pv 0) (pv 1) (fun _ _ => rfl)) pa_nil)) pa_nil))))
  (pss_one (ps_if (pt_cmpR op_gt (pe_callB call_len_seq (by rfl) T.z_len PySem.boot_len (pa_cons (pv 0) pa_nil)) pe_int (nomark _))
  (pss_one (ps_set (i := 2) sc_law_box.nd rfl (by first | exact Or.inl rfl | exact Or.inr rfl) (pe_op op_add (pv 2) (pe_op op_mul (pe_op op_mod (pe_callTy call_int1 (by rfl) T.z_int (by decide +kernel) (pa_cons (pe_callB call_abs (by rfl) T.z_abs (by decide +kernel) (pa_cons (pe_callTy call_int1 (by rfl) T.z_int (by decide +kernel) (pa_cons (pe_ix ix_list (pv 0) (pe_op op_mod (pe_callTy call_int1 (by rfl) T.z_int (by decide +kernel) (pa_cons (pv 1) pa_nil)) (pe_callB call_len_seq (by rfl) T.z_len PySem.boot_len (pa_cons (pv 0) pa_nil))) (fun _ _ => rfl)) pa_nil)) pa_nil)) pa_nil)) pe_int) pe_int))))
  pss_nil))))
  (pss_cons (ps_mid (ps_set (i := 3) sc_law_box.nd rfl (by first | exact Or.inl rfl | exact Or.inr rfl) (pe_ifExp (pt_cmpR op_ge (pv 2) (pe_op op_pow pe_int pe_int) (nomark _)) (pv 2) pe_int)))
  (pss_one (ps_ret (pe_lst (pa_cons (pv 3) (pa_cons (pe_op op_add (pe_op op_mod (pe_callTy call_int1 (by rfl) T.z_int (by decide +kernel) (pa_cons (pe_op op_add (pe_op op_mul (pe_op op_mod (pe_callTy call_int1 (by rfl) T.z_int (by decide +kernel) (pa_cons (pv 2) pa_nil)) pe_int) pe_int) (pe_op op_mul pe_int (pv 1))) pa_nil)) pe_int) pe_int) pa_nil)))))))), ?_⟩
    refine ⟨_, rfl, _, _, rfl, rfl, .inl ⟨by decide, by decide⟩, _, _, rfl, rfl, ?_⟩
    refine ⟨fun σ' H' => ∃ c : Int, σ' = [some (.ref a), some (.int (kk : Nat)), some (.int c), none] ∧ H' = H, ?_, ?_⟩
    · refine ⟨_, rfl, _, rfl, a, _, rfl, .inl hs, _, _, rfl, rfl, _, rfl, ?_⟩
      rw [List.length_map]
      refine ite2 (fun h1 => ?_) (fun h1 => ?_)
      · have hk : kk < ns.length := by simpa using h1
        have hx : (ns.map V.int)[kk]? = some (V.int ns[kk]) := by rw [List.getElem?_map, List.getElem?_eq_getElem hk]; rfl
        exact ⟨_, rfl, _, rfl, a, _, _, _, rfl, rfl, hs, atI_nat hx, .inl ⟨_, rfl, _, rfl, _, rfl, rfl⟩⟩
      · refine ⟨_, rfl, a, _, rfl, .inl hs, _, _, rfl, rfl, _, rfl, ?_⟩
        rw [List.length_map]
        refine ite2 (fun h2 => ?_) (fun h2 => ?_)
        · have hk : 0 < ns.length := by simpa using h2
          have hm : (kk : Int) % (ns.length : Int) = ((kk % ns.length : Nat) : Int) := rfl
          have lt : kk % ns.length < ns.length := Nat.mod_lt _ hk
          have hx : (ns.map V.int)[kk % ns.length]? = some (V.int ns[kk % ns.length]) := by rw [List.getElem?_map, List.getElem?_eq_getElem lt]; rfl
          have hat : atI (ns.map V.int) ((kk : Int) % (((ns.map V.int).length : Nat) : Int)) = some (V.int ns[kk % ns.length]) := by
            rw [List.length_map, hm]
            exact atI_nat hx
          refine ⟨_, rfl, _, rfl, _, rfl, .inl ⟨_, rfl, _, rfl, a, _, rfl, .inl hs, _, _, rfl, rfl, (by rw [List.length_map]; omega), ?_⟩⟩
          exact ⟨a, _, _, _, rfl, rfl, hs, hat, .inl ⟨_, rfl, _, rfl, .inl ⟨_, rfl, _, _, rfl, rfl, (by show (0 : Int) < 2147483587; decide), _, _, rfl, rfl, .inr ⟨by decide, by decide⟩, _, _, rfl, rfl, _, rfl, rfl⟩⟩⟩
        · exact ⟨_, rfl, rfl⟩
    rintro σ' H' ⟨c, rfl, rfl⟩
    refine ⟨fun σ' H2 => ∃ g : Int, σ' = [some (.ref a), some (.int (kk : Nat)), some (.int c), some (.int g)] ∧ H2 = H', ?_, ?_⟩
    · refine ⟨_, rfl, _, _, rfl, rfl, ⟨by decide, by decide, by decide⟩, _, _, rfl, rfl, _, rfl, ite2 (fun _ => ?_) (fun _ => ?_)⟩
      · exact ⟨_, rfl, _, rfl, rfl⟩
      · exact ⟨_, rfl, rfl⟩
    rintro σ' H2 ⟨g, rfl, rfl⟩
    refine ⟨_, rfl, _, rfl, .inl ⟨_, rfl, _, _, rfl, rfl, (by show (0 : Int) < 2147483587; decide), _, _, rfl, rfl, .inr ⟨by decide, by decide⟩, ?_⟩⟩
    refine ⟨_, rfl, _, _, rfl, rfl, .inl ⟨by decide, by decide⟩, _, _, rfl, rfl, .inl ⟨_, rfl, _, _, rfl, rfl, (by show (0 : Int) < 2147483587; decide), _, _, rfl, rfl, ?_⟩⟩
    exact ⟨(by show 2 ≤ sizeLine; decide), fun p hp => k _ p (_, _) (same_new hp) hp upd_same⟩
end
end KT
/-! numbers in a drawn order -/
namespace KT
open PySem PySem.Spec PyProof.Rows L2 Kx RZ TL
theorem Mv.free {b D : Addr} {H H' : Hp} (m : Mv b H H') (h : H' D = .none) : H D = .none ∧ D ≠ b := by
  have ne : D ≠ b := fun z => by
    obtain ⟨t, ht⟩ := m.2
    rw [z, ht] at h
    cases h
  refine ⟨?_, ne⟩
  cases e : H D with
  | none => rfl
  | some o => rw [m.1 _ _ ne e] at h; cases h
theorem Mv.put {b D : Addr} {H H' : Hp} {o : HO} (m : Mv b H H') (h1 : H D = .none) (h2 : D ≠ b) : Mv b H (L2.upd H' D o) := by
  refine ⟨fun c u ne q => ?_, ?_⟩
  · rw [upd_ne (fun z => by rw [z, h1] at q; cases q)]
    exact m.1 c u ne q
  · obtain ⟨t, ht⟩ := m.2
    exact ⟨t, by rw [upd_ne (Ne.symm h2)]; exact ht⟩
theorem cut_perm {zs : List V} {j : Nat} (h : j < zs.length) : ([zs[j]] ++ zs.eraseIdx j).Perm zs := by
  have e : zs = zs.take j ++ zs[j] :: zs.drop (j + 1) := by rw [← List.drop_eq_getElem_cons h, List.take_append_drop]
  rw [List.eraseIdx_eq_take_drop_succ]
  conv => rhs; rw [e]
  have := (List.perm_middle (a := zs[j]) (l₁ := zs.take j) (l₂ := zs.drop (j + 1))).symm
  simpa using this
def rng (n : Nat) : List Int := (List.range n).map Int.ofNat
theorem rng_len {n : Nat} : (rng n).length = n := by unfold rng; rw [List.length_map, List.length_range]
theorem mem_rng {n : Nat} {x : Int} : x ∈ rng n ↔ 0 ≤ x ∧ x < (n : Int) := by
  unfold rng
  rw [List.mem_map]
  constructor
  · rintro ⟨i, hi, rfl⟩
    have := List.mem_range.mp hi
    exact ⟨Int.natCast_nonneg i, Int.ofNat_lt.mpr this⟩
  · rintro ⟨h0, h1⟩
    exact ⟨x.toNat, List.mem_range.mpr (by omega), Int.toNat_of_nonneg h0⟩
theorem rng_nodup {n : Nat} : (rng n).Nodup := List.pairwise_map.mpr (List.nodup_range.imp fun ne e => ne (Int.ofNat.inj e))
theorem rgV_rng {n : Nat} : rgV 0 (n : Int) = (rng n).map V.int := by
  unfold rgV rng
  rw [Int.sub_zero, Int.toNat_natCast, List.map_map]
  exact List.map_congr_left fun i _ => by rw [Int.zero_add]; rfl
def valI : V → Int
  | .int i => i
  | _ => 0
theorem perm_ints : ∀ {ys : List V} {xs : List Int}, ys.Perm (xs.map V.int) → ∃ zs : List Int, ys = zs.map V.int ∧ zs.Perm xs := fun {ys xs} p => by
  have all : ∀ y ∈ ys, ∃ x, y = V.int x := fun y hy => by
    obtain ⟨x, _, e⟩ := List.mem_map.mp (p.mem_iff.mp hy)
    exact ⟨x, e.symm⟩
  have e : ys = (ys.map valI).map V.int := by
    rw [List.map_map]
    conv => lhs; rw [← List.map_id ys]
    refine List.map_congr_left fun y hy => ?_
    obtain ⟨x, rfl⟩ := all y hy
    rfl
  refine ⟨ys.map valI, e, ?_⟩
  have := p.map valI
  rw [List.map_map] at this
  rw [show (valI ∘ V.int) = id from rfl, List.map_id] at this
  exact this
def spMixed (K : PySem.W.Frag) : Sp := fun vs H Q _ => ∃ (b : Addr) (t : Int × Int) (n : Nat), vs = [.ref b, .int (n : Nat)] ∧ H b = some (bx t) ∧ n ≤ 9 ∧ ∀ l (xs : List Int) H', xs.Perm (rng n) → Mv b H H' → H l = none → l ≠ b → H' l = some (.lst (xs.map V.int)) → Q (.ref l) H'
section
variable {P : Program} {w : World} {K : PySem.W.Frag} {mg : Str → Option Value} {base : Heap} {f : Addr} {fd : FuncData} {a : Ad} {C CM : Addr}
theorem sc_mixed : FnScope ["box", "many", "found", "left", "turn"] ["box", "many"] (defScope s_law_mixed) := ⟨rfl, rfl, rfl, by decide +kernel, rfl, by decide +kernel, by decide +kernel⟩
theorem ok_mixed (F : FnP K "_law_mixed" s_law_mixed f fd) (T : Mg mg) (c_take : Cal P w K mg base CX0 1 "_law_take" ["box", "many"] spTake) : FnOk P w K mg base CX0 2 f fd ["box", "many"] (spMixed K) := by
  refine F.ok sc_mixed (fun vs H Q E h => ?_) (fun cdv A outer s H vs Q E hr h => ?_)
  · obtain ⟨b, t, n, rfl, _⟩ := h
    rfl
  · obtain ⟨b, t, n, rfl, hb, n9, k⟩ := h
    refine ⟨_, PSs.nox (pss_cons (ps_mid (ps_par (i := 2) (j := 3) (by rfl) sc_mixed.nd rfl rfl (by decide) rfl rfl (pa_cons (pe_lst pa_nil) (pa_cons (pe_listRg rfl (by rfl) T.z_list (prg_1 (by rfl) T.z_range (pv 1))) pa_nil)) (by rfl)))
      (pss_cons (ps_for PassesOwn.never rfl (pi_range1 (by rfl) T.z_range (pa_cons (pv 1) pa_nil)) (pg_name (i := 4) sc_mixed.nd rfl (by first | exact Or.inl rfl | exact Or.inr rfl))
        (pss_one (ps_expr (pe_bm PySem.F.plainAttrs_list PySem.F.slot_list_append PySem.F.type_list_append mt_append (pv 2) (pa_cons (pe_bm PySem.F.plainAttrs_list PySem.F.slot_list_pop PySem.F.type_list_pop mt_popAt (pv 3) (pa_cons (pe_callC c_take hr pass0 (pa_cons (pv 0) (pa_cons (pe_callB call_len_seq (by rfl) T.z_len PySem.boot_len (pa_cons (pv 3) pa_nil)) pa_nil))) pa_nil)) pa_nil)))))
      (pss_one (ps_ret (pv 2))))), ?_⟩
    refine ⟨fun σ' H' => ∃ (S L : Addr), σ' = [some (.ref b), some (.int (n : Nat)), some (.ref S), some (.ref L), none] ∧ Mv b H H' ∧ H S = none ∧ H L = none ∧ S ≠ b ∧ L ≠ b ∧ S ≠ L ∧ H' S = some (.lst []) ∧ H' L = some (.lst ((rng n).map V.int)), ?_, ?_⟩
    · refine ⟨(by show 0 ≤ sizeLine; decide), fun S hS => ?_⟩
      have e1 := same_new (o := HO.lst []) hS
      refine ⟨_, rfl, n, rfl, RgOk.of_le (by decide) (by omega) (by decide) (by omega), fun L hL => ?_⟩
      rw [rgV_rng]
      have m0 := Mv.refl hb
      have SL : S ≠ L := fun z => by rw [← z, upd_same] at hL; cases hL
      have nS := m0.free hS
      have m1 := m0.same e1
      have nL := m1.free hL
      exact ⟨_, _, rfl, S, L, rfl, m1.put nL.1 nL.2, nS.1, nL.1, nS.2, nL.2, SL, by rw [upd_ne SL]; exact upd_same, upd_same⟩
    rintro σ' H1 ⟨S, L, rfl, m1, nS, nL, Sb, Lb, SL, hS1, hL1⟩
    have len0 : ((rng n).map V.int).length = n := by rw [List.length_map, rng_len]
    refine ⟨_, rfl, n, rfl, by omega, by omega, for_range (lo := 0) (n := n) (fun i σ' H' => ∃ (x : Option V) (ys zs : List V), σ' = [some (.ref b), some (.int (n : Nat)), some (.ref S), some (.ref L), x] ∧ Mv b H H' ∧ H' S = some (.lst ys) ∧ H' L = some (.lst zs) ∧ ys.length = i ∧ (ys ++ zs).Perm ((rng n).map V.int)) ⟨_, [], _, rfl, m1, hS1, hL1, rfl, List.Perm.refl _⟩ ?_ ?_⟩
    · rintro i σ' H2 hi ⟨x, ys, zs, rfl, m2, hS2, hL2, ly, pm⟩
      obtain ⟨t2, hb2⟩ := m2.2
      have lz : ys.length + zs.length = n := by rw [← List.length_append, pm.length_eq, len0]
      refine ⟨_, rfl, .inl ⟨rfl, _, SqL.of hS2⟩, _, rfl, .inl ⟨rfl, _, SqL.of hL2⟩, _, rfl, _, rfl, L, zs, rfl, .inl (SqL.of hL2), b, t2, _, rfl, hb2, by omega, by omega, fun r H3 r0 r1 m3 => ?_⟩
      obtain ⟨j, rfl⟩ : ∃ j : Nat, r = (j : Int) := ⟨r.toNat, by omega⟩
      have hj : j < zs.length := by omega
      have m23 := m2.trans m3
      have hS3 := m3.1 _ _ Sb hS2
      have hL3 := m3.1 _ _ Lb hL2
      refine ⟨L, zs, j, j, zs[j], rfl, rfl, hL3, by omega, by omega, ?_, List.getElem?_eq_getElem hj, ?_⟩
      · rw [seqIndex_of (by omega) (by omega), Int.toNat_natCast]
      · have hS4 : (upd H3 L (.lst (zs.eraseIdx j))) S = some (.lst ys) := by rw [upd_ne SL]; exact hS3
        refine ⟨S, ys, zs[j], rfl, rfl, hS4, by rw [sizeLine_eq]; omega, _, ys ++ [zs[j]], zs.eraseIdx j, rfl, (m23.put nL Lb).put nS Sb, upd_same, by rw [upd_ne (Ne.symm SL)]; exact upd_same, by rw [List.length_append, ly]; rfl, ?_⟩
        rw [List.append_assoc]
        exact (List.Perm.append_left ys (cut_perm hj)).trans pm
    · rintro σ' H2 ⟨x, ys, zs, rfl, m2, hS2, hL2, ly, pm⟩
      have lz : ys.length + zs.length = n := by rw [← List.length_append, pm.length_eq, len0]
      obtain rfl : zs = [] := List.length_eq_zero_iff.mp (by omega)
      rw [List.append_nil] at pm
      obtain ⟨xs, rfl, px⟩ := perm_ints pm
      exact ⟨_, rfl, k S xs H2 px m2 nS Sb hS2⟩
end
end KT
/-! an exchange is drawn -/
namespace KT
open PySem PySem.Spec PyProof.Rows L2 Kx RZ TL
/-- an exchange of n places -/
structure Swp (n : Nat) (xs : List Int) : Prop where
  len : xs.length = n
  nd : xs.Nodup
  ent : ∀ x ∈ xs, 0 ≤ x ∧ x < (n : Int)
theorem Swp.perm {n : Nat} {xs : List Int} (p : xs.Perm (rng n)) : Swp n xs := ⟨by rw [p.length_eq, rng_len], (p.nodup_iff).mpr rng_nodup, fun x hx => mem_rng.mp (p.mem_iff.mp hx)⟩
/-- by a rule -/
def ruled (n : Nat) (g : Int → Int) : List Int := (rng n).map g
theorem ruled_len {n : Nat} {g : Int → Int} : (ruled n g).length = n := by unfold ruled; rw [List.length_map, rng_len]
theorem ruled_at {n i : Nat} {g : Int → Int} (h : i < n) : ((ruled n g).map V.int)[i]? = some (.int (g (i : Int))) := by
  unfold ruled rng
  rw [List.getElem?_map, List.getElem?_map, List.getElem?_map, List.getElem?_range h]
  rfl
theorem swp_ruled {n : Nat} {g : Int → Int} (h1 : ∀ x, 0 ≤ x → x < (n : Int) → 0 ≤ g x ∧ g x < (n : Int)) (h2 : ∀ x y, 0 ≤ x → x < (n : Int) → 0 ≤ y → y < (n : Int) → g x = g y → x = y) : Swp n (ruled n g) := by
  refine ⟨ruled_len, ?_, fun z hz => ?_⟩
  · exact List.pairwise_map.mpr (rng_nodup.imp_of_mem fun {x y} hx hy ne e => ne (h2 x y (mem_rng.mp hx).1 (mem_rng.mp hx).2 (mem_rng.mp hy).1 (mem_rng.mp hy).2 e))
  · obtain ⟨x, hx, rfl⟩ := List.mem_map.mp hz
    obtain ⟨a, b⟩ := mem_rng.mp hx
    exact h1 x a b
theorem turn_of {n : Nat} {o x : Int} (o0 : 0 ≤ o) (o1 : o < (n : Int)) (x0 : 0 ≤ x) (x1 : x < (n : Int)) : (x + o) % (n : Int) = if x + o < n then x + o else x + o - n := by
  split
  · exact Int.emod_eq_of_lt (by omega) (by assumption)
  · rw [← Int.sub_emod_right]
    exact Int.emod_eq_of_lt (by omega) (by omega)
theorem swp_turn {n : Nat} {o : Int} (o0 : 0 ≤ o) (o1 : o < (n : Int)) : Swp n (ruled n fun x => (x + o) % (n : Int)) := by
  refine swp_ruled (fun x x0 x1 => ?_) (fun x y x0 x1 y0 y1 e => ?_)
  · rw [turn_of o0 o1 x0 x1]
    split <;> omega
  · have e : (x + o) % (n : Int) = (y + o) % (n : Int) := e
    rw [turn_of o0 o1 x0 x1, turn_of o0 o1 y0 y1] at e
    split at e <;> split at e <;> omega
theorem swp_two {n : Nat} {a b : Int} (a0 : 0 ≤ a) (a1 : a < (n : Int)) (b0 : 0 ≤ b) (b1 : b < (n : Int)) : Swp n (ruled n fun x => if x = a then b else if x = b then a else x) := by
  refine swp_ruled (fun x x0 x1 => ?_) (fun x y x0 x1 y0 y1 e => ?_)
  · show 0 ≤ (if x = a then b else if x = b then a else x) ∧ _
    split
    · exact ⟨b0, b1⟩
    · split
      · exact ⟨a0, a1⟩
      · exact ⟨x0, x1⟩
  · have e : (if x = a then b else if x = b then a else x) = (if y = a then b else if y = b then a else y) := e
    split at e <;> split at e <;> (try split at e) <;> (try split at e) <;> omega
theorem swp_idle {n : Nat} : Swp n (rng n) := ⟨rng_len, rng_nodup, fun x hx => mem_rng.mp hx⟩
def spExchange (K : PySem.W.Frag) : Sp := fun vs H Q _ => ∃ (b : Addr) (t : Int × Int) (n : Nat), vs = [.ref b, .int (n : Nat)] ∧ H b = some (bx t) ∧ 1 ≤ n ∧ n ≤ 9 ∧ ∀ l (xs : List Int) H', Swp n xs → Mv b H H' → H l = none → l ≠ b → H' l = some (.lst (xs.map V.int)) → Q (.ref l) H'
section
variable {P : Program} {w : World} {K : PySem.W.Frag} {mg : Str → Option Value} {base : Heap} {f : Addr} {fd : FuncData} {a : Ad} {C CM : Addr}
theorem sc_exchange : FnScope ["box", "many", "style", "one", "other", "state"] ["box", "many"] (defScope s_law_exchange) := ⟨rfl, rfl, rfl, by decide +kernel, rfl, by decide +kernel, by decide +kernel⟩
theorem ok_exchange (F : FnP K "_law_exchange" s_law_exchange f fd) (T : Mg mg) (c_take : Cal P w K mg base CX0 1 "_law_take" ["box", "many"] spTake) (c_mixed : Cal P w K mg base CX0 2 "_law_mixed" ["box", "many"] (spMixed K)) : FnOk P w K mg base CX0 3 f fd ["box", "many"] (spExchange K) := by
  refine F.ok sc_exchange (fun vs H Q E h => ?_) (fun cdv A outer s H vs Q E hr h => ?_)
  · obtain ⟨b, t, n, rfl, _⟩ := h
    rfl
  · obtain ⟨b, t, n, rfl, hb, n1, n9, k⟩ := h
    refine ⟨_, PSs.nox (pss_cons (ps_mid (ps_asg (pe_tup (pa_cons (pe_callC c_take hr pass0 (pa_cons (pv 0) (pa_cons pe_int pa_nil))) (pa_cons (pe_callC c_take hr pass0 (pa_cons (pv 0) (pa_cons (pv 1) pa_nil))) (pa_cons (pe_callC c_take hr pass0 (pa_cons (pv 0) (pa_cons (pv 1) pa_nil))) pa_nil)))) (pg_tup rfl (pgs_cons (pg_name (i := 2) sc_exchange.nd rfl (by first | exact Or.inl rfl | exact Or.inr rfl)) (pgs_cons (pg_name (i := 3) sc_exchange.nd rfl (by first | exact Or.inl rfl | exact Or.inr rfl)) (pgs_cons (pg_name (i := 4) sc_exchange.nd rfl (by first | exact Or.inl rfl | exact Or.inr rfl)) pgs_nil))))))
      (pss_cons (ps_mid (ps_if (PW.pt (pw_and (pt_cmpR op_eq (pv 2) pe_int (nomark _)) (pw_and1 (pt_cmpR op_eq (pe_callC c_take hr pass0 (pa_cons (pv 0) (pa_cons pe_int pa_nil))) pe_int (nomark _)))))
        (pss_one (ps_ret (pe_listRg rfl (by rfl) T.z_list (prg_1 (by rfl) T.z_range (pv 1)))))
        pss_nil))
      (pss_cons (ps_mid (ps_if (pt_cmpR op_eq (pv 2) pe_int (nomark _))
        (pss_one (ps_ret (pe_lc (own := [("state", 5)]) (by rfl) sc_exchange.nd (pi_range1 (by rfl) T.z_range (pa_cons (pv 1) pa_nil)) (blkOk_by (own := [("state", 5)]) (N := ["box", "many", "style", "one", "other", "state"]) (sc := defScope s_law_exchange) (by decide +kernel))
          (fun _ _ _ _ _ => (pg_name (i := 5) sc_exchange.nd rfl (by first | exact Or.inl rfl | exact Or.inr rfl))) (fun _ _ _ _ _ => pts_nil) (fun _ _ _ _ _ => pe_op op_mod (pe_callTy call_int1 (by rfl) T.z_int (by decide +kernel) (pa_cons (pe_op op_add (pv 5) (pv 3)) pa_nil)) (pv 1)))))
        pss_nil))
      (pss_cons (ps_mid (ps_if (pt_cmpR op_eq (pv 2) pe_int (nomark _))
        (pss_one (ps_ret (pe_lc (own := [("state", 5)]) (by rfl) sc_exchange.nd (pi_range1 (by rfl) T.z_range (pa_cons (pv 1) pa_nil)) (blkOk_by (own := [("state", 5)]) (N := ["box", "many", "style", "one", "other", "state"]) (sc := defScope s_law_exchange) (by decide +kernel))
          (fun _ _ _ _ _ => (pg_name (i := 5) sc_exchange.nd rfl (by first | exact Or.inl rfl | exact Or.inr rfl))) (fun _ _ _ _ _ => pts_nil) (fun _ _ _ _ _ => pe_ifExp (pt_cmpR op_eq (pv 5) (pv 3) (nomark _)) (pv 4) (pe_ifExp (pt_cmpR op_eq (pv 5) (pv 4) (nomark _)) (pv 3) (pv 5))))))
        pss_nil))
      (pss_one (ps_ret (pe_callC c_mixed hr pass0 (pa_cons (pv 0) (pa_cons (pv 1) pa_nil))))))))), ?_⟩
    refine ⟨fun σ' H' => ∃ (st o u : Int), σ' = [some (.ref b), some (.int (n : Nat)), some (.int st), some (.int o), some (.int u), none] ∧ Mv b H H' ∧ 0 ≤ o ∧ o < n ∧ 0 ≤ u ∧ u < n, ?_, ?_⟩
    · refine ⟨_, rfl, b, t, 5, rfl, hb, by decide, by decide, fun st H1 _ _ m1 => ?_⟩
      obtain ⟨t1, hb1⟩ := m1.2
      refine ⟨_, rfl, _, rfl, b, t1, (n : Nat), rfl, hb1, by omega, by omega, fun o H2 o0 o1 m2 => ?_⟩
      obtain ⟨t2, hb2⟩ := m2.2
      refine ⟨_, rfl, _, rfl, b, t2, (n : Nat), rfl, hb2, by omega, by omega, fun u H3 u0 u1 m3 => ?_⟩
      refine ⟨(by show 3 ≤ sizeLine; decide), fun p hp => ?_⟩
      have e4 := same_new (o := HO.tup [V.int st, .int o, .int u]) hp
      refine ⟨p, _, rfl, SqT.of upd_same, rfl, ?_⟩
      exact ⟨_, _, rfl, _, _, rfl, _, _, rfl, rfl, st, o, u, rfl, ((m1.trans m2).trans m3).same e4, o0, o1, u0, u1⟩
    rintro σ' H1 ⟨st, o, u, rfl, m1, o0, o1, u0, u1⟩
    obtain ⟨t1, hb1⟩ := m1.2
    refine ⟨fun σ' H' => σ' = [some (.ref b), some (.int (n : Nat)), some (.int st), some (.int o), some (.int u), none] ∧ Mv b H H', ?_, ?_⟩
    · refine ⟨_, rfl, rfl, _, rfl, ite2 (fun _ => ?_) (fun _ => ⟨rfl, m1⟩)⟩
      refine ⟨_, rfl, b, t1, 2, rfl, hb1, by decide, by decide, fun r H2 _ _ m2 => ?_⟩
      have m12 := m1.trans m2
      refine ⟨rfl, _, rfl, ite2 (fun _ => ?_) (fun _ => ⟨rfl, m12⟩)⟩
      refine ⟨_, rfl, n, rfl, RgOk.of_le (by decide) (by omega) (by decide) (by omega), fun L hL => ?_⟩
      rw [rgV_rng]
      have f := m12.free hL
      exact k L _ _ swp_idle (m12.put f.1 f.2) f.1 f.2 upd_same
    rintro σ' H2 ⟨rfl, m2⟩
    have go : ∀ (g : Int → Int) (D0 : Addr), H2 D0 = none → Swp n (ruled n g) → ∀ H', Part H2 D0 ((ruled n g).map V.int) n H' → Q (.ref D0) H' := fun g D0 hD sw H' pt => by
      obtain ⟨hl, e⟩ := pt.done (by rw [List.length_map, ruled_len]; exact Nat.le_refl _)
      have f := m2.free hD
      exact k D0 _ H' sw (m2.same e) f.1 f.2 hl
    refine ⟨fun σ' H' => σ' = [some (.ref b), some (.int (n : Nat)), some (.int st), some (.int o), some (.int u), none] ∧ H' = H2, ?_, ?_⟩
    · refine ⟨_, rfl, rfl, _, rfl, ite2 (fun _ => ?_) (fun _ => ⟨rfl, rfl⟩)⟩
      refine ⟨_, rfl, n, rfl, by omega, by omega, fun D0 hD => ?_⟩
      refine turns (n := n) (Part H2 D0 ((ruled n fun x => (x + o) % (n : Int)).map V.int)) (Part.zero hD) ?_ ?_
      · intro i H3 hi pt
        refine ⟨hi, ?_⟩
        rintro v H4 ⟨rfl, rfl⟩
        rw [show (0 : Int) + (i : Int) = (i : Int) from Int.zero_add _]
        refine ⟨rfl, yes ((if_pos rfl).mpr ?_)⟩
        refine ⟨_, rfl, _, rfl, _, _, rfl, rfl, .inl ⟨_, rfl, _, rfl, _, _, rfl, rfl, (by show (0 : Int) < ((n : Nat) : Int); omega), ?_⟩⟩
        exact pt.step hD (Same.refl _) (ruled_at hi) (by rw [List.length_map, ruled_len, sizeLine_eq]; omega)
      · intro H3 pt
        exact ⟨Nat.le_refl _, go _ D0 hD (swp_turn o0 o1) H3 pt⟩
    rintro σ' H3 ⟨rfl, rfl⟩
    refine ⟨fun σ' H' => σ' = [some (.ref b), some (.int (n : Nat)), some (.int st), some (.int o), some (.int u), none] ∧ H' = H3, ?_, ?_⟩
    · refine ⟨_, rfl, rfl, _, rfl, ite2 (fun _ => ?_) (fun _ => ⟨rfl, rfl⟩)⟩
      refine ⟨_, rfl, n, rfl, by omega, by omega, fun D0 hD => ?_⟩
      refine turns (n := n) (Part H3 D0 ((ruled n fun x => if x = o then u else if x = u then o else x).map V.int)) (Part.zero hD) ?_ ?_
      · intro i H4 hi pt
        refine ⟨hi, ?_⟩
        rintro v H5 ⟨rfl, rfl⟩
        rw [show (0 : Int) + (i : Int) = (i : Int) from Int.zero_add _]
        refine ⟨rfl, yes ((if_pos rfl).mpr ?_)⟩
        have stp : ∀ y, y = V.int (if (i : Int) = o then u else if (i : Int) = u then o else i) → ∃ acc, H5 D0 = some (.lst acc) ∧ acc.length < sizeLine ∧ Part H3 D0 ((ruled n fun x => if x = o then u else if x = u then o else x).map V.int) (i + 1) (upd H5 D0 (.lst (acc ++ [y]))) := fun y ey => by
          rw [ey]
          exact pt.step hD (Same.refl _) (ruled_at hi) (by rw [List.length_map, ruled_len, sizeLine_eq]; omega)
        refine ⟨_, rfl, _, rfl, rfl, _, rfl, ite2 (fun h => ?_) (fun h => ?_)⟩
        · have e : (i : Int) = o := by simpa using h
          exact ⟨_, rfl, stp _ (by rw [if_pos e])⟩
        · have e : ¬ (i : Int) = o := by simpa using h
          refine ⟨_, rfl, _, rfl, rfl, _, rfl, ite2 (fun h2 => ?_) (fun h2 => ?_)⟩
          · have e2 : (i : Int) = u := by simpa using h2
            exact ⟨_, rfl, stp _ (by rw [if_neg e, if_pos e2])⟩
          · have e2 : ¬ (i : Int) = u := by simpa using h2
            exact ⟨_, rfl, stp _ (by rw [if_neg e, if_neg e2])⟩
      · intro H4 pt
        exact ⟨Nat.le_refl _, go _ D0 hD (swp_two o0 o1 u0 u1) H4 pt⟩
    rintro σ' H4 ⟨rfl, rfl⟩
    obtain ⟨t4, hb4⟩ := m2.2
    refine ⟨_, rfl, _, rfl, b, t4, n, rfl, hb4, n9, fun l xs H5 pm m5 nl lb hl => k l xs H5 (.perm pm) (m2.trans m5) ?_ lb hl⟩
    exact (m2.free nl).1
end
end KT
/-! tables are drawn that exchange -/
namespace KT
open PySem PySem.Spec PyProof.Rows L2 Kx RZ TL
/-- t leads the first k names among themselves, unlike to unlike -/
def Leads (nm : List Int) (k : Nat) (t : List Int) : Prop := ∃ row, Swp k row ∧ ∀ i, i < k → tx t (nm.getD i 0) = nm.getD (row.getD i 0).toNat 0
theorem getD_at {l : List Int} {i : Nat} (h : i < l.length) : l[i]? = some (l.getD i 0) := by
  rw [List.getD_eq_getElem?_getD, List.getElem?_eq_getElem h]
  rfl
theorem nd_at {l : List Int} (nd : l.Nodup) {i j : Nat} (hi : i < l.length) (hj : j < l.length) (e : l.getD i 0 = l.getD j 0) : i = j := by
  have a := getD_at hi
  have b := getD_at hj
  rcases Nat.lt_trichotomy i j with h | h | h
  · have := List.pairwise_iff_getElem.mp nd i j hi hj h
    rw [List.getElem?_eq_getElem hi, Option.some.injEq] at a
    rw [List.getElem?_eq_getElem hj, Option.some.injEq] at b
    rw [a, b] at this
    exact absurd e this
  · exact h
  · have := List.pairwise_iff_getElem.mp nd j i hj hi h
    rw [List.getElem?_eq_getElem hi, Option.some.injEq] at a
    rw [List.getElem?_eq_getElem hj, Option.some.injEq] at b
    rw [a, b] at this
    exact absurd e.symm this
theorem row_in {k : Nat} {row : List Int} (h : Swp k row) {i : Nat} (hi : i < k) : row[i]? = some (row.getD i 0) ∧ 0 ≤ row.getD i 0 ∧ row.getD i 0 < (k : Int) := by
  have a := getD_at (l := row) (by rw [h.len]; exact hi)
  exact ⟨a, h.ent _ (List.mem_of_getElem? a)⟩
theorem exch_of {n k : Nat} {nm : List Int} {ts : List (List Int)} {i0 : Nat} (sw : Swp n nm) (kn : k ≤ n) (h : ∀ t ∈ ts, Leads nm k t) (hi : i0 < k) : Exch ts (nm.getD i0 0) := by
  have inF : ∀ x, Rch ts (nm.getD i0 0) x → ∃ i, i < k ∧ x = nm.getD i 0 := fun x ⟨row, h1, e⟩ => by
    have m : ∀ {y : Int}, y ∈ nm.take k ↔ ∃ i, i < k ∧ y = nm.getD i 0 := fun {y} => by
      constructor
      · intro hy
        obtain ⟨i, hi⟩ := List.mem_iff_getElem?.mp hy
        have li := (List.getElem?_eq_some_iff.mp hi).1
        rw [List.length_take] at li
        rw [List.getElem?_take_of_lt (by omega)] at hi
        exact ⟨i, by omega, by rw [List.getD_eq_getElem?_getD, hi]; rfl⟩
      · rintro ⟨i, hi, rfl⟩
        have a := getD_at (l := nm) (i := i) (by rw [sw.len]; omega)
        exact List.mem_of_getElem? (i := i) (by rw [List.getElem?_take_of_lt hi]; exact a)
    have := closed_all (ts := ts) (F := nm.take k) (fun y hy d hd => ?_) (row := row) (s := nm.getD i0 0) (m.mpr ⟨i0, hi, rfl⟩) h1
    · rw [← e] at this
      exact m.mp this
    · obtain ⟨i, hi, rfl⟩ := m.mp hy
      obtain ⟨row, sr, er⟩ := h _ (getD_mem hd)
      have r := row_in sr hi
      rw [show nx ts d (nm.getD i 0) = tx (ts.getD d []) (nm.getD i 0) from rfl, er i hi]
      exact m.mpr ⟨_, by omega, rfl⟩
  intro t ht x y rx ry e
  obtain ⟨i, hi, rfl⟩ := inF x rx
  obtain ⟨j, hj, rfl⟩ := inF y ry
  obtain ⟨row, sr, er⟩ := h t ht
  rw [er i hi, er j hj] at e
  have ri := row_in sr hi
  have rj := row_in sr hj
  have e2 := nd_at sw.nd (by rw [sw.len]; omega) (by rw [sw.len]; omega) e
  have e3 : row.getD i 0 = row.getD j 0 := by omega
  rw [nd_at sr.nd (by rw [sr.len]; exact hi) (by rw [sr.len]; exact hj) e3]
def spTables (K : PySem.W.Frag) : Sp := fun vs H Q _ => ∃ (b : Addr) (t : Int × Int) (most deeds : Nat), vs = [.ref b, .int (most : Nat), .int (deeds : Nat)] ∧ H b = some (bx t) ∧ 1 ≤ most ∧ most ≤ 8 ∧ 1 ≤ deeds ∧ deeds ≤ 4 ∧
  ∀ p tt (ps : List V) (n : Nat) (ts : List (List Int)) (s : Int) H', Mv b H H' → SqT K H' p [.ref tt, .int s] → SqT K H' tt ps → RowsBy (SqT K H') ps ts → Mok n ts → 0 ≤ s → s < (n : Int) → Exch ts s → Q (.ref p) H'
section
variable {P : Program} {w : World} {K : PySem.W.Frag} {mg : Str → Option Value} {base : Heap} {f : Addr} {fd : FuncData} {a : Ad} {C CM : Addr}
theorem sc_tables : FnScope ["box", "most", "deeds", "inner", "whole", "names", "tables", "deed", "row", "table", "state"] ["box", "most", "deeds"] (defScope s_law_tables) := ⟨rfl, rfl, rfl, by decide +kernel, rfl, by decide +kernel, by decide +kernel⟩
theorem ok_tables (F : FnP K "_law_tables" s_law_tables f fd) (T : Mg mg) (c_take : Cal P w K mg base CX0 1 "_law_take" ["box", "many"] spTake) (c_mixed : Cal P w K mg base CX0 2 "_law_mixed" ["box", "many"] (spMixed K)) (c_exchange : Cal P w K mg base CX0 3 "_law_exchange" ["box", "many"] (spExchange K)) : FnOk P w K mg base CX0 4 f fd ["box", "most", "deeds"] (spTables K) := by
  refine F.ok sc_tables (fun vs H Q E h => ?_) (fun cdv A outer s H vs Q E hr h => ?_)
  · obtain ⟨b, t, most, deeds, rfl, _⟩ := h
    rfl
  · obtain ⟨b, t, most, deeds, rfl, hb, m1, m8, d1, d4, k⟩ := h
    refine ⟨_, PSs.nox (pss_cons (ps_mid (ps_set (i := 3) sc_tables.nd rfl (by first | exact Or.inl rfl | exact Or.inr rfl) (pe_op op_add pe_int (pe_callC c_take hr pass0 (pa_cons (pv 0) (pa_cons (pv 1) pa_nil))))))
      (pss_cons (ps_mid (ps_set (i := 4) sc_tables.nd rfl (by first | exact Or.inl rfl | exact Or.inr rfl) (pe_op op_add (pv 3) (pe_ifExp (pt_cmpR op_eq (pe_callC c_take hr pass0 (pa_cons (pv 0) (pa_cons pe_int pa_nil))) pe_int (nomark _)) (pe_callC c_take hr pass0 (pa_cons (pv 0) (pa_cons (pe_op op_sub pe_int (pv 3)) pa_nil))) pe_int))))
      (pss_cons (ps_mid (ps_par (i := 5) (j := 6) (by rfl) sc_tables.nd rfl rfl (by decide) rfl rfl (pa_cons (pe_callC c_mixed hr pass0 (pa_cons (pv 0) (pa_cons (pv 4) pa_nil))) (pa_cons (pe_lst pa_nil) pa_nil)) (by rfl)))
      (pss_cons (ps_mid (ps_for PassesOwn.never rfl (pi_range1 (by rfl) T.z_range (pa_cons (pe_op op_add pe_int (pe_callC c_take hr pass0 (pa_cons (pv 0) (pa_cons (pv 2) pa_nil)))) pa_nil)) (pg_name (i := 7) sc_tables.nd rfl (by first | exact Or.inl rfl | exact Or.inr rfl))
        (pss_cons (ps_mid (ps_par (i := 8) (j := 9) (by rfl) sc_tables.nd rfl rfl (by decide) rfl rfl (pa_cons (pe_callC c_exchange hr pass0 (pa_cons (pv 0) (pa_cons (pv 3) pa_nil))) (pa_cons (pe_op op_rep (pe_lst (pa_cons pe_int pa_nil)) (pv 4)) pa_nil)) (by rfl)))
        (pss_cons (ps_mid (ps_for PassesOwn.never rfl (pi_range1 (by rfl) T.z_range (pa_cons (pv 4) pa_nil)) (pg_name (i := 10) sc_tables.nd rfl (by first | exact Or.inl rfl | exact Or.inr rfl))
          (pss_one (ps_asg (pe_ifExp (pt_cmpR op_lt (pv 10) (pv 3) (nomark _)) (pe_ix ix_list (pv 5) (pe_ix ix_list (pv 8) (pv 10) (fun _ _ => rfl)) (fun _ _ => rfl)) (pe_callC c_take hr pass0 (pa_cons (pv 0) (pa_cons (pv 4) pa_nil)))) (pg_sub (pv 9) (pe_ix ix_list (pv 5) (pv 10) (fun _ _ => rfl)) set_list)))))
        (pss_one (ps_expr (pe_bm PySem.F.plainAttrs_list PySem.F.slot_list_append PySem.F.type_list_append mt_append (pv 6) (pa_cons (pe_callTy call_tup (by rfl) T.z_tuple bt_tuple (pa_cons (pv 9) pa_nil)) pa_nil))))))))
      (pss_one (ps_ret (pe_tup (pa_cons (pe_callTy call_tup (by rfl) T.z_tuple bt_tuple (pa_cons (pv 6) pa_nil)) (pa_cons (pe_ix ix_list (pv 5) (pe_callC c_take hr pass0 (pa_cons (pv 0) (pa_cons (pv 3) pa_nil))) (fun _ _ => rfl)) pa_nil))))))))), ?_⟩
    refine ⟨fun σ' H' => ∃ inn : Nat, σ' = [some (.ref b), some (.int (most : Nat)), some (.int (deeds : Nat)), some (.int (inn : Nat)), none, none, none, none, none, none, none] ∧ Mv b H H' ∧ 1 ≤ inn ∧ inn ≤ 8, ?_, ?_⟩
    · refine ⟨_, rfl, _, rfl, b, t, (most : Nat), rfl, hb, by omega, by omega, fun r H1 r0 r1 mv => ?_⟩
      obtain ⟨r, rfl⟩ : ∃ j : Nat, r = (j : Int) := ⟨r.toNat, by omega⟩
      refine ⟨_, _, rfl, rfl, 1 + r, ?_, mv, by omega, by omega⟩
      have : (1 : Int) + (r : Int) = ((1 + r : Nat) : Int) := by omega
      rw [← this]
      rfl
    rintro σ' H1 ⟨inn, rfl, mv1, i1, i8⟩
    refine ⟨fun σ' H' => ∃ n : Nat, σ' = [some (.ref b), some (.int (most : Nat)), some (.int (deeds : Nat)), some (.int (inn : Nat)), some (.int (n : Nat)), none, none, none, none, none, none] ∧ Mv b H H' ∧ inn ≤ n ∧ n ≤ 8, ?_, ?_⟩
    · obtain ⟨t1, hb1⟩ := mv1.2
      refine ⟨_, rfl, _, rfl, b, t1, 4, rfl, hb1, by decide, by decide, fun r H2 _ _ mv2 => ?_⟩
      have mv12 := mv1.trans mv2
      obtain ⟨t2, hb2⟩ := mv2.2
      refine ⟨rfl, _, rfl, ite2 (fun _ => ?_) (fun _ => ?_)⟩
      · refine ⟨_, rfl, _, rfl, _, _, rfl, rfl, b, t2, _, rfl, hb2, by omega, by omega, fun r H3 r0 r1 mv3 => ?_⟩
        obtain ⟨r, rfl⟩ : ∃ j : Nat, r = (j : Int) := ⟨r.toNat, by omega⟩
        refine ⟨_, _, rfl, rfl, inn + r, ?_, mv12.trans mv3, by omega, by omega⟩
        rfl
      · exact ⟨_, _, rfl, rfl, inn, congrArg (fun z : Int => [some (V.ref b), some (.int (most : Nat)), some (.int (deeds : Nat)), some (.int (inn : Nat)), some (.int z), none, none, none, none, none, none]) (Int.add_zero (inn : Int)), mv12, Nat.le_refl _, i8⟩
    clear mv1
    rintro σ' H2 ⟨n, rfl, mv2, nn, n8⟩
    refine ⟨fun σ' H' => ∃ (Na Ta : Addr) (nm : List Int), σ' = [some (.ref b), some (.int (most : Nat)), some (.int (deeds : Nat)), some (.int (inn : Nat)), some (.int (n : Nat)), some (.ref Na), some (.ref Ta), none, none, none, none] ∧ Mv b H H' ∧ H Na = none ∧ Na ≠ b ∧ H Ta = none ∧ Ta ≠ b ∧ Ta ≠ Na ∧ H' Na = some (.lst (nm.map V.int)) ∧ H' Ta = some (.lst []) ∧ Swp n nm, ?_, ?_⟩
    · obtain ⟨t2, hb2⟩ := mv2.2
      refine ⟨_, rfl, _, rfl, b, t2, n, rfl, hb2, by omega, fun l xs H3 pm mv3 nl lb hl => ?_⟩
      refine ⟨(by show 0 ≤ sizeLine; decide), fun Ta hT => ?_⟩
      have mv23 := mv2.trans mv3
      have fl := mv2.free nl
      have ft := mv23.free hT
      have tl : Ta ≠ l := fun z => by rw [z, hl] at hT; cases hT
      exact ⟨_, _, rfl, l, Ta, xs, rfl, mv23.put ft.1 ft.2, fl.1, lb, ft.1, ft.2, tl, by rw [upd_ne (Ne.symm tl)]; exact hl, upd_same, .perm pm⟩
    clear mv2
    rintro σ' H3 ⟨Na, Ta, nm, rfl, mv3, nN, Nb, nT, Tb, TN, hN, hT, sw⟩
    let Wt : Nat → Hp → Prop := fun i H' => ∃ (ps : List V) (ts : List (List Int)), Mv b H H' ∧ H' Na = some (.lst (nm.map V.int)) ∧ H' Ta = some (.lst ps) ∧ RowsBy (SqT K H') ps ts ∧ ts.length = i ∧ ∀ t ∈ ts, t.length = n ∧ (∀ x ∈ t, 0 ≤ x ∧ x < (n : Int)) ∧ Leads nm inn t
    have wS : ∀ {i : Nat} {H1 H2 : Hp}, Wt i H1 → Same H1 H2 → Wt i H2 := fun ⟨ps, ts, m, h1, h2, h3, h4⟩ e => ⟨ps, ts, m.same e, e _ _ h1, e _ _ h2, h3.imp fun _ _ z => sqT_same e z, h4⟩
    have wM : ∀ {i : Nat} {H1 H2 : Hp}, Wt i H1 → Mv b H1 H2 → Wt i H2 := fun ⟨ps, ts, m, h1, h2, h3, h4⟩ e => ⟨ps, ts, m.trans e, e.1 _ _ Nb h1, e.1 _ _ Tb h2, h3.imp fun _ _ z => m.2.elim fun t hb => e.sqT hb z, h4⟩
    have w0 : Wt 0 H3 := ⟨[], [], mv3, hN, hT, trivial, rfl, fun _ h => nomatch h⟩
    obtain ⟨t3, hb3⟩ := mv3.2
    refine ⟨fun σ' H' => ∃ (d : Nat) (x7 x8 x9 x10 : Option V), σ' = [some (.ref b), some (.int (most : Nat)), some (.int (deeds : Nat)), some (.int (inn : Nat)), some (.int (n : Nat)), some (.ref Na), some (.ref Ta), x7, x8, x9, x10] ∧ Wt d H' ∧ 1 ≤ d ∧ d ≤ 4, ?_, ?_⟩
    · refine ⟨_, rfl, _, rfl, b, t3, (deeds : Nat), rfl, hb3, by omega, by omega, fun r H4 r0 r1 mv4 => ?_⟩
      obtain ⟨r, rfl⟩ : ∃ j : Nat, r = (j : Int) := ⟨r.toNat, by omega⟩
      refine ⟨_, _, rfl, rfl, 1 + r, ?_, by omega, by omega, ?_⟩
      · rfl
      refine for_range (lo := 0) (n := 1 + r) (fun i σ' H' => ∃ (x7 x8 x9 x10 : Option V), σ' = [some (.ref b), some (.int (most : Nat)), some (.int (deeds : Nat)), some (.int (inn : Nat)), some (.int (n : Nat)), some (.ref Na), some (.ref Ta), x7, x8, x9, x10] ∧ Wt i H') ⟨_, _, _, _, rfl, wM w0 mv4⟩ ?_ ?_
      · rintro i σ' H5 hi ⟨x7, x8, x9, x10, rfl, w5⟩
        obtain ⟨_, _, m5, h5N, _⟩ := id w5
        obtain ⟨t5, hb5⟩ := m5.2
        refine ⟨fun σ' H' => ∃ (Ra Tb' : Addr) (row : List Int), σ' = [some (.ref b), some (.int (most : Nat)), some (.int (deeds : Nat)), some (.int (inn : Nat)), some (.int (n : Nat)), some (.ref Na), some (.ref Ta), some (.int ((0 : Int) + (i : Int))), some (.ref Ra), some (.ref Tb'), x10] ∧ Wt i H' ∧ Ra ≠ b ∧ Tb' ≠ b ∧ Ra ≠ Tb' ∧ Tb' ≠ Na ∧ Tb' ≠ Ta ∧ H Tb' = none ∧ H' Ra = some (.lst (row.map V.int)) ∧ H' Tb' = some (.lst ((List.replicate n (0 : Int)).map V.int)) ∧ Swp inn row, ?_, ?_⟩
        · refine ⟨_, rfl, _, rfl, b, t5, inn, rfl, hb5, i1, by omega, fun Ra row H6 sr m6 nR Rb hR => ?_⟩
          have w6 := wM w5 m6
          refine ⟨(by show 1 ≤ sizeLine; decide), fun l hl => ?_⟩
          have e7 := same_new (o := HO.lst [V.int 0]) hl
          have u7 := upd_same (H := H6) (a := l) (o := HO.lst [V.int 0])
          have w7 := wS w6 e7
          have hR7 := e7 _ _ hR
          generalize upd H6 l (HO.lst [V.int 0]) = H7 at *
          refine ⟨_, rfl, l, (n : Nat), _, rfl, rfl, u7, by omega, by omega, (by show 1 * _ ≤ sizeLine; rw [sizeLine_eq]; omega), fun p hp => ?_⟩
          have e8 := same_new (o := HO.lst (List.replicate (n : Int).toNat [V.int 0]).flatten) hp
          have u8 := upd_same (H := H7) (a := p) (o := HO.lst (List.replicate (n : Int).toNat [V.int 0]).flatten)
          rw [Int.toNat_natCast, List.flatten_replicate_singleton] at *
          obtain ⟨_, _, m7, h7N, h7T, _⟩ := id w7
          have f := m7.free hp
          refine ⟨_, _, rfl, Ra, p, row, rfl, wS w7 e8, Rb, f.2, fun z => ?_, fun z => ?_, fun z => ?_, f.1, e8 _ _ hR7, by rw [upd_same, List.map_replicate], sr⟩
          · rw [← z, hR7] at hp; cases hp
          · rw [z, h7N] at hp; cases hp
          · rw [z, h7T] at hp; cases hp
        clear w5 m5 h5N hb5
        rintro σ' H6 ⟨Ra, Tb', row, rfl, w6, Rb, Tbb, RT, TbN, TbT, nTb, hR6, hTb6, sr⟩
        refine ⟨fun σ' H' => ∃ (y10 : Option V) (tl : List Int), σ' = [some (.ref b), some (.int (most : Nat)), some (.int (deeds : Nat)), some (.int (inn : Nat)), some (.int (n : Nat)), some (.ref Na), some (.ref Ta), some (.int ((0 : Int) + (i : Int))), some (.ref Ra), some (.ref Tb'), y10] ∧ Wt i H' ∧ H' Tb' = some (.lst (tl.map V.int)) ∧ tl.length = n ∧ (∀ x ∈ tl, 0 ≤ x ∧ x < (n : Int)) ∧ Leads nm inn tl, ?_, ?_⟩
        · refine ⟨_, rfl, n, rfl, by omega, by omega, for_range (lo := 0) (n := n) (fun j σ' H' => ∃ (y10 : Option V) (tl : List Int), σ' = [some (.ref b), some (.int (most : Nat)), some (.int (deeds : Nat)), some (.int (inn : Nat)), some (.int (n : Nat)), some (.ref Na), some (.ref Ta), some (.int ((0 : Int) + (i : Int))), some (.ref Ra), some (.ref Tb'), y10] ∧ Wt i H' ∧ H' Ra = some (.lst (row.map V.int)) ∧ H' Tb' = some (.lst (tl.map V.int)) ∧ tl.length = n ∧ (∀ x ∈ tl, 0 ≤ x ∧ x < (n : Int)) ∧ ∀ q, q < inn → q < j → tx tl (nm.getD q 0) = nm.getD (row.getD q 0).toNat 0) ⟨_, _, rfl, w6, hR6, hTb6, by rw [List.length_replicate], fun x hx => by rw [(List.mem_replicate.mp hx).2]; omega, fun q _ h => absurd h (Nat.not_lt_zero _)⟩ ?_ ?_⟩
          · rintro j σ' H7 hj ⟨y10, tl, rfl, w7, hR7, hTb7, tlen, tent, tld⟩
            rw [show (0 : Int) + (j : Int) = (j : Int) from Int.zero_add _]
            obtain ⟨_, _, m7, h7N, _⟩ := id w7
            obtain ⟨t7, hb7⟩ := m7.2
            have nj := row_in sw hj
            have put : ∀ (v : Int) (H8 : Hp), Wt i H8 → H8 Ra = some (.lst (row.map V.int)) → H8 Tb' = some (.lst (tl.map V.int)) → 0 ≤ v → v < (n : Int) → (j < inn → v = nm.getD (row.getD j 0).toNat 0) →
                ∃ (y10 : Option V) (tl' : List Int), [some (V.ref b), some (.int (most : Nat)), some (.int (deeds : Nat)), some (.int (inn : Nat)), some (.int (n : Nat)), some (.ref Na), some (.ref Ta), some (.int ((0 : Int) + (i : Int))), some (.ref Ra), some (.ref Tb'), some (V.int (j : Nat))] = [some (V.ref b), some (.int (most : Nat)), some (.int (deeds : Nat)), some (.int (inn : Nat)), some (.int (n : Nat)), some (.ref Na), some (.ref Ta), some (.int ((0 : Int) + (i : Int))), some (.ref Ra), some (.ref Tb'), y10] ∧ Wt i (upd H8 Tb' (.lst ((tl.map V.int).set (nm.getD j 0).toNat (.int v)))) ∧ (upd H8 Tb' (.lst ((tl.map V.int).set (nm.getD j 0).toNat (.int v)))) Ra = some (.lst (row.map V.int)) ∧ (upd H8 Tb' (.lst ((tl.map V.int).set (nm.getD j 0).toNat (.int v)))) Tb' = some (.lst (tl'.map V.int)) ∧ tl'.length = n ∧ (∀ x ∈ tl', 0 ≤ x ∧ x < (n : Int)) ∧ ∀ q, q < inn → q < j + 1 → tx tl' (nm.getD q 0) = nm.getD (row.getD q 0).toNat 0 := fun v H8 w8 hR8 hTb8 v0 v1 ev => by
              obtain ⟨ps, ts, m8, h8N, h8T, r8, l8, a8⟩ := w8
              refine ⟨_, tl.set (nm.getD j 0).toNat v, rfl, ⟨ps, ts, m8.put nTb Tbb, by rw [upd_ne (Ne.symm TbN)]; exact h8N, by rw [upd_ne (Ne.symm TbT)]; exact h8T, r8.imp fun _ _ z => sqT_lst hTb8 z, l8, a8⟩, by rw [upd_ne RT]; exact hR8, by rw [upd_same, List.map_set], by rw [List.length_set]; exact tlen, fun x hx => ?_, fun q hq qj => ?_⟩
              · rcases List.mem_or_eq_of_mem_set hx with h | h
                · exact tent x h
                · rw [h]; exact ⟨v0, v1⟩
              · unfold tx
                have qn := row_in sw (show q < n by omega)
                by_cases e : q = j
                · subst e
                  rw [List.getD_eq_getElem?_getD, List.getElem?_set_self (by omega)]
                  exact ev hq
                · have ne : (nm.getD j 0).toNat ≠ (nm.getD q 0).toNat := fun z => e (nd_at sw.nd (by rw [sw.len]; omega) (by rw [sw.len]; exact hj) (by omega))
                  rw [List.getD_eq_getElem?_getD, List.getElem?_set_ne ne, ← List.getD_eq_getElem?_getD]
                  exact tld q hq (by omega)
            have set : ∀ {H8 : Hp}, H8 Na = some (.lst (nm.map V.int)) → atI (nm.map V.int) (j : Int) = some (V.int (nm.getD j 0)) := fun _ => atI_nat (by rw [List.getElem?_map, nj.1]; rfl)
            have ixn : ixN (tl.map V.int).length (nm.getD j 0) = some (nm.getD j 0).toNat := by
              unfold ixN
              rw [if_pos nj.2.1, if_pos (by rw [List.length_map, tlen]; exact nj.2.2)]
            refine ⟨_, rfl, _, rfl, _, _, rfl, rfl, _, rfl, ite2 (fun h => ?_) (fun h => ?_)⟩
            · have ji : j < inn := by
                have := of_decide_eq_true h
                omega
              have rj := row_in sr ji
              have nr := row_in sw (show (row.getD j 0).toNat < n by omega)
              refine ⟨_, rfl, _, rfl, _, rfl, Ra, _, _, _, rfl, rfl, SqL.of hR7, atI_nat (j := j) (by rw [List.getElem?_map, rj.1]; rfl), Na, _, _, _, rfl, rfl, SqL.of h7N, at_int rj.2.1 (by rw [List.getElem?_map, nr.1]; rfl), ?_⟩
              refine ⟨_, rfl, _, rfl, _, rfl, Na, _, _, _, rfl, rfl, SqL.of h7N, set h7N, Tb', _, _, _, rfl, rfl, hTb7, ixn, ?_⟩
              exact put _ H7 w7 hR7 hTb7 nr.2.1 nr.2.2 fun _ => rfl
            · have ji : ¬ j < inn := fun z => h (decide_eq_true (by omega))
              refine ⟨_, rfl, _, rfl, b, t7, (n : Nat), rfl, hb7, by omega, by omega, fun v H8 v0 v1 m8 => ?_⟩
              have h8N := m8.1 _ _ Nb h7N
              refine ⟨_, rfl, _, rfl, _, rfl, Na, _, _, _, rfl, rfl, SqL.of h8N, set h8N, Tb', _, _, _, rfl, rfl, m8.1 _ _ Tbb hTb7, ixn, ?_⟩
              exact put v H8 (wM w7 m8) (m8.1 _ _ Rb hR7) (m8.1 _ _ Tbb hTb7) v0 v1 fun z => absurd z ji
          · rintro σ' H7 ⟨y10, tl, rfl, w7, hR7, hTb7, tlen, tent, tld⟩
            exact ⟨_, tl, rfl, w7, hTb7, tlen, tent, row, sr, fun q hq => tld q hq (by omega)⟩
        clear w6 hR6 hTb6
        rintro σ' H7 ⟨y10, tl, rfl, w7, hTb7, tlen, tent, tld⟩
        obtain ⟨ps, ts, m7, h7N, h7T, r7, l7, a7⟩ := w7
        refine ⟨_, rfl, .inl ⟨rfl, _, SqL.of h7T⟩, ?_⟩
        refine ⟨_, rfl, Tb', _, rfl, .inl (SqL.of hTb7), fun q H8 e8 hq => ?_⟩
        have lp := r7.length
        have h8T := e8 _ _ h7T
        refine ⟨Ta, ps, _, rfl, rfl, h8T, by rw [sizeLine_eq]; omega, _, _, _, _, rfl, ps ++ [.ref q], ts ++ [tl], (m7.same e8).put nT Tb, by rw [upd_ne (Ne.symm TN)]; exact e8 _ _ h7N, upd_same, RowsBy.snoc (R := SqT K (upd H8 Ta (.lst (ps ++ [.ref q])))) (sqT_lst h8T hq) (r7.imp fun _ _ z => sqT_lst h8T (sqT_same e8 z)), by rw [List.length_append, l7]; rfl, fun t ht => ?_⟩
        rcases List.mem_append.mp ht with h | h
        · exact a7 t h
        · rw [List.mem_singleton.mp h]
          exact ⟨tlen, tent, tld⟩
      · rintro σ' H5 ⟨x7, x8, x9, x10, rfl, w5⟩
        exact ⟨1 + r, _, _, _, _, rfl, w5, by omega, by omega⟩
    rintro σ' H4 ⟨d, x7, x8, x9, x10, rfl, ⟨ps, ts, m4, h4N, h4T, r4, l4, a4⟩, d1', d4'⟩
    refine ⟨_, rfl, Ta, ps, rfl, .inl (SqL.of h4T), fun tt H5 e5 htt => ?_⟩
    have m5 := m4.same e5
    obtain ⟨t5, hb5⟩ := m5.2
    refine ⟨_, rfl, _, rfl, _, rfl, b, t5, (inn : Nat), rfl, hb5, by omega, by omega, fun r H6 r0 r1 m6 => ?_⟩
    obtain ⟨r, rfl⟩ : ∃ j : Nat, r = (j : Int) := ⟨r.toNat, by omega⟩
    have nr := row_in sw (show r < n by omega)
    refine ⟨Na, _, _, _, rfl, rfl, SqL.of (m6.1 _ _ Nb (e5 _ _ h4N)), atI_nat (j := r) (by rw [List.getElem?_map, nr.1]; rfl), (by show 2 ≤ sizeLine; decide), fun p hp => ?_⟩
    have e7 := same_new (o := HO.tup [.ref tt, V.int (nm.getD r 0)]) hp
    have ok : Mok n ts := ⟨by omega, by omega, by omega, n8, fun t ht => (a4 t ht).1, fun t ht => (a4 t ht).2.1⟩
    exact k p tt ps n ts (nm.getD r 0) _ ((m5.trans m6).same e7) (SqT.of upd_same) (sqT_same e7 (m6.sqT hb5 htt)) (r4.imp fun _ _ z => sqT_same e7 (m6.sqT hb5 (sqT_same e5 z))) ok nr.2.1 nr.2.2 (exch_of sw nn (fun t ht => (a4 t ht).2.2) (by omega))
end
end KT
/-! the states that come, by the law -/
namespace KT
open PySem PySem.Spec PyProof.Rows L2 Kx RZ TL
def spCome (K : PySem.W.Frag) : Sp := fun vs H Q _ => ∃ (tt : Addr) (ps : List V) (n : Nat) (ts : List (List Int)) (s : Int), vs = [.ref tt, .int s] ∧ SqT K H tt ps ∧ RowsBy (SqT K H) ps ts ∧ Mok n ts ∧ 0 ≤ s ∧ s < (n : Int) ∧
  ∀ l (L : List Int) H', Same H H' → H l = none → L.Pairwise (· < ·) → (∀ x, x ∈ L ↔ Rch ts s x) → H' l = some (.lst (L.map V.int)) → Q (.ref l) H'
theorem Fnd.next {ts : List (List Int)} {s : Int} {L G : List Int} {j : Nat} (f : Fnd ts s (L ++ G) j) (hj : j < L.length) (h : ∀ d, d < ts.length → nx ts d (L.getD j 0) ∈ L ++ G) : Fnd ts s (L ++ G) (j + 1) where
  nd := f.nd
  rch := f.rch
  st := f.st
  le := by rw [List.length_append]; omega
  done := fun i x hi hx d hd => by
    by_cases e : i = j
    · subst e
      rw [List.getElem?_append_left hj] at hx
      have : L.getD i 0 = x := by rw [List.getD_eq_getElem?_getD, hx]; rfl
      rw [← this]
      exact h d hd
    · exact f.done i x (by omega) hx d hd
section
variable {P : Program} {w : World} {K : PySem.W.Frag} {mg : Str → Option Value} {base : Heap} {f : Addr} {fd : FuncData} {a : Ad} {C CM : Addr}
theorem sc_come : FnScope ["tables", "first", "found", "turn", "table"] ["tables", "first"] (defScope s_law_come) := ⟨rfl, rfl, rfl, by decide +kernel, rfl, by decide +kernel, by decide +kernel⟩
theorem ok_come (F : FnP K "_law_come" s_law_come f fd) (T : Mg mg) : FnOk P w K mg base CX0 1 f fd ["tables", "first"] (spCome K) := by
  refine F.ok sc_come (fun vs H Q E h => ?_) (fun cdv A outer s H vs Q E hr h => ?_)
  · obtain ⟨tt, ps, n, ts, s, rfl, _⟩ := h
    rfl
  · obtain ⟨tt, ps, n, ts, s0, rfl, htt, rows, ok, z0, z1, k⟩ := h
    refine ⟨_, PSs.nox (pss_cons (ps_set (i := 2) sc_come.nd rfl (by first | exact Or.inl rfl | exact Or.inr rfl) (pe_lst (pa_cons (pv 1) pa_nil)))
  (pss_cons (ps_for PassesOwn.never rfl (pi_range1 (by rfl) T.z_range (pa_cons pe_int pa_nil)) (pg_name (i := 3) sc_come.nd rfl (by first | exact Or.inl rfl | exact Or.inr rfl))
  (pss_one (ps_if (pt_cmpR op_lt (pv 3) (pe_callB call_len_seq (by rfl) T.z_len PySem.boot_len (pa_cons (pv 2) pa_nil)) (nomark _))
  (pss_one (ps_for PassesOwn.never rfl (pi_tup (pv 0)) (pg_name (i := 4) sc_come.nd rfl (by first | exact Or.inl rfl | exact Or.inr rfl))
  (pss_one (ps_if (pt_cmpR op_notIn_seq (pe_ix ix_tup (pv 4) (pe_ix ix_list (pv 2) (pv 3) (fun _ _ => rfl)) (fun _ _ => rfl)) (pv 2) (by rfl))
  (pss_one (ps_expr (pe_bm PySem.F.plainAttrs_list PySem.F.slot_list_append PySem.F.type_list_append mt_append (pv 2) (pa_cons (pe_ix ix_tup (pv 4) (pe_ix ix_list (pv 2) (pv 3) (fun _ _ => rfl)) (fun _ _ => rfl)) pa_nil))))
  pss_nil))))
  pss_nil)))
  (pss_one (ps_ret (pe_callB cr_sorted (by rfl) T.z_sorted (by decide +kernel) (pa_cons (pv 2) pa_nil)))))), ?_⟩
    have n8 := ok.n8
    have lps := rows.length
    refine ⟨_, rfl, (by show 1 ≤ sizeLine; decide), fun Fa hF => ?_⟩
    have e1 := same_new (o := HO.lst [V.int s0]) hF
    have u1 : upd H Fa (HO.lst [V.int s0]) Fa = some (.lst (([s0] : List Int).map V.int)) := upd_same
    have nF : H Fa = none := hF
    generalize upd H Fa (HO.lst [V.int s0]) = H1 at *
    refine ⟨8, rfl, by decide, by decide, for_range (lo := 0) (n := 8) (fun i σ' H' => ∃ (x3 x4 : Option V) (L : List Int), σ' = [some (.ref tt), some (.int s0), some (.ref Fa), x3, x4] ∧ Same H H' ∧ H' Fa = some (.lst (L.map V.int)) ∧ Fnd ts s0 L (min i L.length)) ⟨_, _, [s0], rfl, e1, u1, ⟨by simp, fun x hx => by rw [List.mem_singleton.mp hx]; exact .refl, List.mem_singleton.mpr rfl, Nat.min_le_right _ _, fun i x hi => by omega⟩⟩ ?_ ?_⟩
    · rintro i σ' H2 hi ⟨x3, x4, L, rfl, e2, h2, fn⟩
      rw [show (0 : Int) + (i : Int) = (i : Int) from Int.zero_add _]
      refine ⟨_, rfl, _, rfl, Fa, _, rfl, .inl (SqL.of h2), _, _, rfl, rfl, _, rfl, ite2 (fun lt => ?_) (fun ge => ?_)⟩
      · rw [List.length_map] at lt
        have lt : i < L.length := by
          have := of_decide_eq_true lt
          omega
        rw [Nat.min_eq_left (by omega)] at fn
        have ex := getD_at lt
        have hx := ok.rch z0 z1 (fn.rch _ (List.mem_of_getElem? ex))
        refine ⟨_, rfl, tt, rfl, ⟨ps, sqT_same e2 htt⟩, ?_⟩
        refine for_tup (xs := ps) (fun j σ3 H3 => ∃ (x4 : Option V) (G : List Int), σ3 = [some (.ref tt), some (.int s0), some (.ref Fa), some (.int (i : Int)), x4] ∧ Same H H3 ∧ H3 Fa = some (.lst ((L ++ G).map V.int)) ∧ Fnd ts s0 (L ++ G) i ∧ ∀ d, d < j → nx ts d (L.getD i 0) ∈ L ++ G) ⟨_, [], rfl, e2, by rw [List.append_nil]; exact h2, by rw [List.append_nil]; exact fn, fun d h => absurd h (Nat.not_lt_zero _)⟩ (fun j σ3 H3 _ z => by
          obtain ⟨_, _, _, e, _⟩ := z
          exact sqT_same e htt) ?_ ?_
        · rintro j y σ3 H3 hy ⟨x4, G, rfl, e3, h3, f3, cl3⟩
          have hj : j < ts.length := by rw [← lps]; exact (List.getElem?_eq_some_iff.mp hy).1
          have tj : ts[j]? = some ts[j] := List.getElem?_eq_getElem hj
          obtain ⟨q, b1, b2⟩ := rows.at_ tj
          rw [hy] at b1
          cases b1
          obtain ⟨tl, tr⟩ := Mok.inr ok (List.getElem_mem hj)
          have en : nx ts j (L.getD i 0) = tx ts[j] (L.getD i 0) := by unfold nx tx; rw [getD_of tj]
          have a1 : atI ((L ++ G).map V.int) (i : Int) = some (V.int (L.getD i 0)) := atI_nat (by rw [List.getElem?_map, List.getElem?_append_left lt, ex]; rfl)
          have a2 : atI (ts[j].map V.int) (L.getD i 0) = some (V.int (tx ts[j] (L.getD i 0))) := at_int hx.1 (tr.at_ hx.1 (by rw [tl]; exact hx.2)).1
          have rx : Rch ts s0 (tx ts[j] (L.getD i 0)) := by
            rw [← en]
            exact (fn.rch _ (List.mem_of_getElem? ex)).step hj
          have lG : (L ++ G).length ≤ n := len_le f3.nd fun x hx => ok.rch z0 z1 (f3.rch x hx)
          refine ⟨_, rfl, _, rfl, _, rfl, Fa, _, _, _, rfl, rfl, SqL.of h3, a1, q, _, _, _, rfl, rfl, sqT_same e3 b2, a2, ?_⟩
          refine ⟨_, rfl, Fa, _, rfl, .inl (SqL.of h3), rfl, flat_nums, ?_⟩
          rw [inV_nums]
          by_cases m : tx ts[j] (L.getD i 0) ∈ L ++ G
          · rw [decide_eq_true m]
            refine ⟨_, rfl, iteF ⟨_, G, rfl, e3, h3, f3, fun d hd => ?_⟩⟩
            by_cases dj : d = j
            · rw [dj, en]; exact m
            · exact cl3 d (by omega)
          · rw [decide_eq_false m]
            refine ⟨_, rfl, iteT ?_⟩
            refine ⟨_, rfl, .inl ⟨rfl, _, SqL.of h3⟩, _, rfl, _, rfl, _, rfl, Fa, _, _, _, rfl, rfl, SqL.of h3, a1, q, _, _, _, rfl, rfl, sqT_same e3 b2, a2, ?_⟩
            refine ⟨Fa, _, _, rfl, rfl, h3, by rw [List.length_map, sizeLine_eq]; omega, _, G ++ [tx ts[j] (L.getD i 0)], rfl, same_put e3 nF, ?_, ?_, fun d hd => ?_⟩
            · rw [upd_same, ← List.append_assoc, List.map_append (l₁ := L ++ G)]
              rfl
            · rw [← List.append_assoc]
              exact f3.more rx m
            · rw [← List.append_assoc]
              by_cases dj : d = j
              · rw [dj, en]
                exact List.mem_append_right _ (List.mem_singleton.mpr rfl)
              · exact List.mem_append_left _ (cl3 d (by omega))
        · rintro σ3 H3 ⟨x4, G, rfl, e3, h3, f3, cl3⟩
          have f4 := f3.next lt fun d hd => cl3 d (by rw [lps]; exact hd)
          refine ⟨_, _, L ++ G, rfl, e3, h3, ?_⟩
          rw [Nat.min_eq_left (by rw [List.length_append]; omega)]
          exact f4
      · rw [List.length_map] at ge
        have ge : L.length ≤ i := by simpa using ge
        refine ⟨_, _, L, rfl, e2, h2, ?_⟩
        rw [Nat.min_eq_right (by omega)]
        rw [Nat.min_eq_right ge] at fn
        exact fn
    · rintro σ' H2 ⟨x3, x4, L, rfl, e2, h2, fn⟩
      have lL : L.length ≤ n := len_le fn.nd fun x hx => ok.rch z0 z1 (fn.rch x hx)
      rw [Nat.min_eq_right (by omega)] at fn
      refine ⟨_, rfl, Fa, L, rfl, SqL.of h2, by omega, fun M p pm srt hp => ?_⟩
      have np : H p = none := by
        cases z : H p with
        | none => rfl
        | some o => rw [e2 _ _ z] at hp; cases hp
      exact k p M _ (e2.trans (same_new hp)) np (lt_of_le srt ((pm.nodup_iff).mpr fn.nd)) (fun x => (pm.mem_iff).trans (fn.all x)) upd_same
end
end KT
/-! what a machine forgets, by the law's own loops -/
namespace KT
open L2 PySem PySem.Spec PyProof.Rows Kx RZ
def spLForg (K : PySem.W.Frag) : Sp := fun vs H Q _ => ∃ (tt : Addr) (ps : List V) (n : Nat) (ts : List (List Int)) (s : Int), vs = [.ref tt, .int s] ∧ SqT K H tt ps ∧ RowsBy (SqT K H) ps ts ∧ Mok n ts ∧ 0 ≤ s ∧ s < (n : Int) ∧
  (Exch ts s → ∀ H', Same H H' → Q .non H') ∧ ∀ d x y p H', FgAt ts s d x y → Same H H' → SqT K H' p [.int (d : Nat), .int x, .int y] → Q (.ref p) H'
section
variable {P : Program} {w : World} {K : PySem.W.Frag} {mg : Str → Option Value} {base : Heap} {f : Addr} {fd : FuncData} {a : Ad} {C CM : Addr}
theorem sc_lforg : FnScope ["tables", "first", "come", "deed", "one", "other"] ["tables", "first"] (defScope s_law_forgets) := ⟨rfl, rfl, rfl, by decide +kernel, rfl, by decide +kernel, by decide +kernel⟩
theorem ok_lforg (F : FnP K "_law_forgets" s_law_forgets f fd) (T : Mg mg) (c_come : Cal P w K mg base CX0 1 "_law_come" ["tables", "first"] (spCome K)) : FnOk P w K mg base CX0 2 f fd ["tables", "first"] (spLForg K) := by
  refine F.ok sc_lforg (fun vs H Q E h => ?_) (fun cdv A outer s H vs Q E hr h => ?_)
  · obtain ⟨tt, ps, n, ts, s, rfl, _⟩ := h
    rfl
  · obtain ⟨tt, ps, n, ts, s0, rfl, ht, rows, ok, z0, z1, good, bad⟩ := h
    refine ⟨_, PSs.nox (pss_cons (ps_set (i := 2) sc_lforg.nd rfl (by first | exact Or.inl rfl | exact Or.inr rfl) (pe_callC c_come hr pass0 (pa_cons (pv 0) (pa_cons (pv 1) pa_nil))))
      (pss_cons (ps_for PassesOwn.never rfl (pi_range1 (by rfl) T.z_range (pa_cons (pe_callB call_len_seq (by rfl) T.z_len PySem.boot_len (pa_cons (pv 0) pa_nil)) pa_nil)) (pg_name (i := 3) sc_lforg.nd rfl (by first | exact Or.inl rfl | exact Or.inr rfl))
        (pss_one (ps_for PassesOwn.never rfl (pi_list (pv 2)) (pg_name (i := 4) sc_lforg.nd rfl (by first | exact Or.inl rfl | exact Or.inr rfl))
          (pss_one (ps_for PassesOwn.never rfl (pi_list (pv 2)) (pg_name (i := 5) sc_lforg.nd rfl (by first | exact Or.inl rfl | exact Or.inr rfl))
            (pss_one (ps_if (PW.pt (pw_and (pt_cmpR op_lt (pv 4) (pv 5) (nomark _)) (pw_and1 (pt_cmpR op_eq (pe_ix ix_tup (pe_ix ix_tup (pv 0) (pv 3) (fun _ _ => rfl)) (pv 4) (fun _ _ => rfl)) (pe_ix ix_tup (pe_ix ix_tup (pv 0) (pv 3) (fun _ _ => rfl)) (pv 5) (fun _ _ => rfl)) (nomark _)))))
              (pss_one (ps_ret (pe_tup (pa_cons (pv 3) (pa_cons (pv 4) (pa_cons (pv 5) pa_nil))))))
              pss_nil)))))))
      (pss_one (ps_ret pe_non)))), ?_⟩
    have lps := rows.length
    refine ⟨_, rfl, _, rfl, tt, ps, n, ts, s0, rfl, ht, rows, ok, z0, z1, fun p L H1 e1 np srt mem hp => ?_⟩
    refine ⟨_, rfl, _, _, rfl, .inr (sqT_same e1 ht), ?_⟩
    rw [lps]
    refine ⟨ts.length, rfl, by have := ok.l4; omega, by have := ok.l4; omega, for_range (lo := 0) (n := ts.length) (fun i σ' H' => H1 = H' ∧ NoFg ts L i 0 0 ∧ ∃ x3 x4 x5, σ' = [some (.ref tt), some (.int s0), some (.ref p), x3, x4, x5]) ⟨rfl, (fun e p q u v _ _ _ _ _ => by omega), _, _, _, rfl⟩ ?_ ?_⟩
    · rintro i σ' H' hi ⟨rfl, nf, x3, x4, x5, rfl⟩
      rw [show (0 : Int) + (i : Int) = (i : Int) from Int.zero_add _]
      have ti : ts[i]? = some ts[i] := List.getElem?_eq_getElem hi
      have gi : ts.getD i [] = ts[i] := by rw [List.getD_eq_getElem?_getD, ti]; rfl
      have mt := List.getElem_mem hi
      obtain ⟨qa, r1, r2⟩ := rows.at_ ti
      obtain ⟨tl, tr⟩ := Mok.inr ok mt
      have hq2 := sqT_same e1 r2
      have ht2 := sqT_same e1 ht
      have num : ∀ {k : Nat} {z : V}, (L.map V.int)[k]? = some z → ∃ x, z = .int x ∧ L[k]? = some x ∧ atI (ts[i].map V.int) x = some (.int (tx ts[i] x)) := fun {k z} hz => by
        rw [List.getElem?_map, Option.map_eq_some_iff] at hz
        obtain ⟨x, h1, h2⟩ := hz
        have rx := (mem x).mp (List.mem_of_getElem? h1)
        obtain ⟨x0, x1⟩ := ok.rch z0 z1 rx
        exact ⟨x, h2.symm, h1, at_int x0 (tr.at_ x0 (by rw [tl]; exact x1)).1⟩
      refine ⟨_, rfl, p, rfl, ⟨_, SqL.of hp⟩, for_list (K := K) (xs := L.map V.int) (fun j σ2 H2 => H1 = H2 ∧ NoFg ts L i j 0 ∧ ∃ x5 x6, σ2 = [some (.ref tt), some (.int s0), some (.ref p), some (.int (i : Int)), x5, x6]) ⟨rfl, nf, _, _, rfl⟩ (fun j σ2 H2 _ q => q.1 ▸ SqL.of hp) ?_ ?_⟩
      · rintro j z σ2 H2 hz ⟨rfl, nf2, x5, x6, rfl⟩
        obtain ⟨x, rfl, lx, ax⟩ := num hz
        refine ⟨_, rfl, p, rfl, ⟨_, SqL.of hp⟩, for_list (K := K) (xs := L.map V.int) (fun k σ3 H3 => H1 = H3 ∧ NoFg ts L i j k ∧ ∃ x6, σ3 = [some (.ref tt), some (.int s0), some (.ref p), some (.int (i : Int)), some (.int x), x6]) ⟨rfl, nf2, _, rfl⟩ (fun j σ2 H2 _ q => q.1 ▸ SqL.of hp) ?_ ?_⟩
        · rintro k u σ3 H3 hu ⟨rfl, nf3, x6, rfl⟩
          obtain ⟨y, rfl, ly, ay⟩ := num hu
          have on : (x < y → tx ts[i] x = tx ts[i] y → False) → NoFg ts L i j (k + 1) := fun no e p q u v he hp hq l eq => by
            rcases nf3 e p q u v he hp hq l eq with z | ⟨z, z2⟩
            · exact .inl z
            · refine .inr ⟨z, ?_⟩
              rcases z2 with z2 | ⟨z2, z3⟩
              · exact .inl z2
              · refine .inr ⟨z2, ?_⟩
                rcases Nat.lt_or_eq_of_le z3 with z3 | z3
                · exact z3
                · subst z z2 z3
                  rw [lx] at hp
                  rw [ly] at hq
                  cases hp
                  cases hq
                  rw [gi] at eq
                  exact (no l eq).elim
          refine ⟨_, rfl, _, rfl, _, _, rfl, rfl, _, rfl, ite2 (fun lt => ?_) (fun nl => ⟨rfl, on fun l _ => nl (decide_eq_true l), _, rfl⟩)⟩
          refine ⟨_, rfl, _, rfl, tt, _, _, _, rfl, rfl, ht2, atI_nat (j := i) r1, _, rfl, qa, _, _, _, rfl, rfl, hq2, ax, _, rfl, _, rfl, tt, _, _, _, rfl, rfl, ht2, atI_nat (j := i) r1, _, rfl, qa, _, _, _, rfl, rfl, hq2, ay, rfl, _, rfl, ite2 (fun z => ?_) (fun z => ⟨rfl, on fun _ eq => z (by rw [eq]; simp), _, rfl⟩)⟩
          have exy : tx ts[i] x = tx ts[i] y := by simpa using z
          have lt := of_decide_eq_true lt
          refine ⟨_, rfl, _, rfl, _, rfl, (by show 3 ≤ sizeLine; decide), fun q hq => bad i x y q _ (nf3.at_ hi srt mem lx ly lt (by rw [gi]; exact exy)) (e1.trans (same_new hq)) (SqT.of upd_same)⟩
        · rintro σ3 H3 ⟨rfl, nf3, x6, rfl⟩
          refine ⟨rfl, fun e p q u v he hp hq l eq => ?_, _, _, rfl⟩
          have lq := (List.getElem?_eq_some_iff.mp hq).1
          rw [List.length_map] at nf3
          have := nf3 e p q u v he hp hq l eq
          omega
      · rintro σ2 H2 ⟨rfl, nf2, x5, x6, rfl⟩
        refine ⟨rfl, fun e p q u v he hp hq l eq => ?_, _, _, _, rfl⟩
        have lp := (List.getElem?_eq_some_iff.mp hp).1
        rw [List.length_map] at nf2
        have := nf2 e p q u v he hp hq l eq
        omega
    · rintro σ' H' ⟨rfl, nf, x3, x4, x5, rfl⟩
      exact good (nf.exch (Nat.le_refl _) mem) H1 e1
end
end KT
/-! where only tables move; a body whose code object is known -/
namespace Kx
open L2 PySem PySem.Spec PyProof.Rows
section
variable {P : Program} {w : World} {K : PySem.W.Frag} {mg : Str → Option Value} {base : Heap} {x qual : Str} {params : Arguments} {body : List Stmt} {scope : Scope} {dvs : List V} {kws : List (Str × V)} {f c : Addr} {fd : FuncData}
/-- a def's body, its code object known -/
theorem okGc {CX : CXT} {N ps : List Str} {k : Nat} {sp : Sp} (F : FunD K x qual params body scope dvs kws f fd) (hc : fd.code = .ref c) (S : FnScope N ps scope) (len : ∀ vs H Q E, sp vs H Q E → vs.length = ps.length)
    (hbody : ∀ (A : Around) (outer : List Env) (s : Shared) (H : Hp) (vs : List V) (Q : VK) (E : XK), Lone A → Room k (A.deeper (envOfC qual scope s.heap.objs.size f (.ref c))) → sp vs H Q E →
      ∃ t, PSs (cxOf CX P w K mg base N qual scope f (.ref c) A outer s H E) body t ∧ t { nx := fun _ H' => Q .non H', rt := Q } (start N vs) H) : FnG P w K mg base CX (k + 1) f fd ps sp := by
  obtain ⟨oc, od, dV, kV, doc, pm, an, cdv, ct, osl, rfl, lk, hcd, -, -⟩ := F.ex
  have hc : cdv = .ref c := hc
  subst hc
  exact ⟨len, fun A outer s H args us vs Q E hr lone e0 hb hv hs => LamX.run_ofS lk hcd S hr e0 hb hv (len _ _ _ _ hs) fun hr' => hbody A outer s H vs Q E lone hr' hs⟩
end
/-! ### where only tables move -/
section
variable {K : PySem.W.Frag} {H H' : Hp} {a : Addr} {xs : List V}
theorem ext_rd (e : LamX.ExtN H H') {u : HO} (n : ∀ ps, u ≠ .tbl ps) (h : Rd H a u) : Rd H' a u := h.elim (fun q => .inl (e _ _ q n)) fun ⟨z, q⟩ => .inr ⟨z, e _ _ q fun _ z => nomatch z⟩
theorem ext_sqT (e : LamX.ExtN H H') (h : SqT K H a xs) : SqT K H' a xs := h.imp (ext_rd e fun _ z => nomatch z) id
theorem ext_sqL (e : LamX.ExtN H H') (h : SqL K H a xs) : SqL K H' a xs := h.imp (ext_rd e fun _ z => nomatch z) id
theorem ext_sq (e : LamX.ExtN H H') (h : Sq K H a xs) : Sq K H' a xs := h.imp (ext_sqL e) (ext_sqT e)
theorem ext_of (e : Same H H') : LamX.ExtN H H' := fun b o q _ => e b o q
theorem ext_kn {v : V} (e : LamX.ExtN H H') (h : Kn K H v) : Kn K H' v := by
  cases h with
  | non => exact .non
  | bl b => exact .bl b
  | int i => exact .int i
  | str x => exact .str x
  | seq q => exact .seq (ext_sq e q)
theorem tabs_same {T : List (Addr × Str)} (t : LamX.Tabs T H) (e : Same H H') : LamX.Tabs T H' := t.ext e
/-- t == u, t != u: tuples of rows -/
def rRowsEq (K : PySem.W.Frag) (neg : Bool) : R2 := fun x y H Q => ∃ (xs ys : List (List Int)), Dp K H x (dRows xs) ∧ Dp K H y (dRows ys) ∧ Q (.bl (neg != decide (xs = ys))) H
theorem op_eqRows {X : Cx} (hu : X.A.units + 64 < cLine) : OpR X (compareOp .Eq) (rRowsEq X.K false) := by
  intro pins st σ H x y v u Q I rx ry ⟨xs, ys, h1, h2, q⟩
  refine op_eqD hu pins st σ H _ _ v u Q I rx ry ⟨_, _, h1, h2, shaped_rows xs, shaped_rows ys, ?_⟩
  simp only [PyData.eqv, eqv_rows]
  rwa [Bool.false_bne] at q
theorem op_neRows {X : Cx} (hu : X.A.units + 64 < cLine) : OpR X (compareOp .NotEq) (rRowsEq X.K true) := by
  intro pins st σ H x y v u Q I rx ry ⟨xs, ys, h1, h2, q⟩
  refine op_neD hu pins st σ H _ _ v u Q I rx ry ⟨_, _, h1, h2, shaped_rows xs, shaped_rows ys, ?_⟩
  simp only [PyData.eqv, eqv_rows]
  rwa [Bool.true_bne] at q
end
end Kx
/-! lambdas held as values, called in a suite whose errors are caught. -/
namespace Kx
open L2 PySem PySem.Spec PyProof.Rows LamX
section
variable {X : Cx}
/-- g() with g one of several lambdas, what it lets out by what stands when it is called -/
theorem pe_lamGoS {ι : Type} {e : Expr} {te : TE} {pos : Pos} {k : Nat} {W : L2.St → XK} (ps : ι → Arguments) (bs : ι → Expr) (ss : ι → Scope) (tb : XK → ι → TE) (he : PE X e te) (hr : Room (k + 1) X.A) (hL : ∀ i, LamS X.env.scope (ss i)) (hx : ∀ σ, PassesAt (L2N.CX X.prog X.w) X σ (W σ))
    (hbind : ∀ i (q : Str) (cl : List (Str × Addr)) (pm cv ctv : Value), bindArgs (PySem.W.kla_fn "<lambda>" q (ps i) (bs i) (ss i) cl pm cv ctv) ⟨[], []⟩ = pure [])
    (hbody : ∀ (E : XK) i (A : Around) (outer : List Env) (s : Shared) (H : Hp) (f c' : Addr), Room k (A.deeper (lamEnv X (ss i) s.heap.objs.size f c')) → PE (lamCxN X A outer s H E (ss i) f c') (bs i) (tb E i))
    (hc : eval (.Call e [] [] pos) X.env = (do callWith pos (← eval e X.env) [] (backTo pos (starEach [] X.env)) (backToKw pos (keywordEach [] X.env))) := by rfl) :
    PE X (.Call e [] [] pos) (fun σ H Q => te σ H fun v H1 => ∃ (i : ι) (f c' : Addr) (pm ctv : Value), v = .ref f ∧ H1 f = some (LamO f (lamOb X (ps i) (bs i) (ss i) pm c' ctv)) ∧ H1 c' = some (CodeO c' (X.env.qual ++ "<lambda>")) ∧ tb (W σ) i σ H1 Q) := by
  refine ⟨fun pins s σ H Q I asked => ?_⟩
  obtain ⟨E, eE⟩ : ∃ E : XK, E = W σ := ⟨_, rfl⟩
  rw [← eE] at asked
  rw [hc]
  refine wpAny_bind (thn (he.run pins s σ H _ I asked) fun u s1 ⟨v, H1, J, rv, i, f, c', pm, ctv, ev, hf, hco, q⟩ => ?_)
  subst ev
  obtain rfl := (show u = Value.ref f from rv)
  have here : s1.heap.get? f = some (lamOb X (ps i) (bs i) (ss i) pm c' ctv) := (show ObjOk X.prog X.w H1 s1.heap f (LamO f _) from J.hok f _ hf).1
  refine PySem.W.callWith_F0 ⟨_, _, _, _, here⟩ ?_
  obtain ⟨⟨oc, vs, t, hoc, hdc, hvc⟩, -, -⟩ := (show ObjOk X.prog X.w H1 s1.heap c' (CodeO c' (X.env.qual ++ "<lambda>")) from J.hok c' _ hco)
  have L := hL i
  have rc : codeAny (model X.prog X.w) X.A (.call (.ref f) ⟨[], []⟩) (CR (L2N.CX X.prog X.w) X.stack X.prog X.w H1 s1 Q E) s1 := by
    refine PySem.W.kla_callFunE hr.depth here rfl L.co L.gen rfl ⟨c', oc, vs, t, rfl, hoc, hdc, hvc⟩ ?_
    rw [hbind]
    refine wpAny_pure (wpAny_newFunctionEnv (fun y hy => (L.own y hy).2) (fun y hy => absurd hy (by simp)) (fun h1 ns but => ⟨J.nolimit.fresh _ but, ?_⟩) L.kind)
    show codeAny _ _ (.expr (bs i) (lamEnv X (ss i) s1.heap.objs.size f c')) _ _
    have kp : ∀ b o, s1.heap.get? b = some o → h1.get? b = some o := fun b o z => but.extBut b o (Nat.ne_of_lt (Heap.lt_size z)) (Heap.get?_push_of_some _ z)
    have K0 : Inv (lamCx X X.A X.stack s1 H1 E (ss i) f c') [] σ H1 { s1 with heap := h1, toks := s1.toks + ([] : List (Str × Value)).length } := lam_start2 J L J.env0 hr.hd Un.refl ns kp
    have K1 : Inv (lamCxN X X.A X.stack s1 H1 E (ss i) f c') [] σ H1 { s1 with heap := h1, toks := s1.toks + ([] : List (Str × Value)).length } :=
      ⟨⟨K0.ok.mod, K0.ok.kind, K0.ok.glob, K0.ok.blt, K0.ok.above, K0.ok.inj, K0.ok.has, K0.ok.cab, K0.ok.hd, K0.ok.frames, K0.ok.stk, K0.ok.exf, K0.ok.bs, K0.ok.bsz, K0.ok.noex, K0.ok.exfs, K0.ok.funs, K0.ok.frf⟩, K0.os, K0.bare, K0.base, K0.loc, K0.cell, K0.free, K0.freeC, K0.pin, K0.hok, K0.len⟩
    refine PySem.W.kla_codeExpr (wpAny_mono ((hbody E i _ _ s1 H1 f c' (hr.deeper _)).run [] _ _ H1 Q K1 q) (fun v s2 z => ?_) fun _ _ z => z)
    obtain ⟨y, H2, K2, ry, q2⟩ := z
    exact ⟨y, H2, K2.os, K2.bare, K2.base, K2.hok, ry, q2⟩
  refine wpAny_call (codeAny_mono rc fun r s2 z => ?_)
  match r, z with
  | .error _, z => exact hx σ pins H1 s1 _ s2 J (by rw [← eE]; exact z)
  | .ok (.ret _), z => exact J.after z
  | .ok .next, z => exact z.elim
  | .ok .brk, z => exact z.elim
  | .ok .cont, z => exact z.elim
/-- the same in a try: the reading does not speak of the try -/
theorem pe_lamGoT {X : Cx} {pn : List (Addr × Obj)} {xe : Value → Shared → Prop} {ι : Type} {e : Expr} {te : TE} {pos : Pos} {k : Nat} {W : L2.St → XK} (ps : ι → Arguments) (bs : ι → Expr) (ss : ι → Scope) (tb : XK → ι → TE) (he : PE (X.tr pn xe) e te) (hr : Room (k + 1) X.A) (hL : ∀ i, LamS X.env.scope (ss i)) (hx : ∀ σ, PassesAt (L2N.CX X.prog X.w) (X.tr pn xe) σ (W σ))
    (hbind : ∀ i (q : Str) (cl : List (Str × Addr)) (pm cv ctv : Value), bindArgs (PySem.W.kla_fn "<lambda>" q (ps i) (bs i) (ss i) cl pm cv ctv) ⟨[], []⟩ = pure [])
    (hbody : ∀ (E : XK) i (A : Around) (outer : List Env) (s : Shared) (H : Hp) (f c' : Addr), Room k (A.deeper (lamEnv (X.tr pn xe) (ss i) s.heap.objs.size f c')) → PE (lamCxN (X.tr pn xe) A outer s H E (ss i) f c') (bs i) (tb E i))
    (hc : eval (.Call e [] [] pos) X.env = (do callWith pos (← eval e X.env) [] (backTo pos (starEach [] X.env)) (backToKw pos (keywordEach [] X.env))) := by rfl) :
    PE (X.tr pn xe) (.Call e [] [] pos) (fun σ H Q => te σ H fun v H1 => ∃ (i : ι) (f c' : Addr) (pm ctv : Value), v = .ref f ∧ H1 f = some (LamO f (lamOb X (ps i) (bs i) (ss i) pm c' ctv)) ∧ H1 c' = some (CodeO c' (X.env.qual ++ "<lambda>")) ∧ tb (W σ) i σ H1 Q) :=
  pe_lamGoS (X := X.tr pn xe) ps bs ss tb he hr hL hx hbind hbody hc
end
end Kx
/-! lambdas that outlive the def that made them: the cells of a frame that is gone. -/
namespace Kx
open L2 PySem PySem.Spec PyProof.Rows LamX
/-- b is one of the frame's cells -/
def isCel (en : Env) (b : Addr) : Bool := en.cells.any fun p => p.2 == b && en.cells.lookup p.1 == some b
theorem isCel_iff {en : Env} {b : Addr} : isCel en b = true ↔ ∃ x, en.cells.lookup x = some b := by
  unfold isCel
  rw [List.any_eq_true]
  constructor
  · rintro ⟨p, _, h⟩
    rw [Bool.and_eq_true] at h
    exact ⟨p.1, by simpa using h.2⟩
  · rintro ⟨x, h⟩
    refine ⟨(x, b), PySem.mem_of_lookup h, ?_⟩
    show (b == b && en.cells.lookup x == some b) = true
    rw [h]
    simp
/-- a cell of a frame that is gone: it holds what it held when the frame ended -/
abbrev CelO (N : List Str) (en : Env) (σ : L2.St) (c : Addr) : HO := .ext fun h => (∃ v, h.IsCell c v) ∧ ∀ (i : Nat) (x : Str) (v : V), N[i]? = some x → σ[i]? = some (some v) → (en.scope.names.lookup x = some .cell ∨ en.scope.names.lookup x = some .free) → en.cells.lookup x = some c → ∃ u, RelV v u ∧ h.IsCell c (some u)
structure Dead (N : List Str) (en : Env) (σ : L2.St) (H : Hp) : Prop where
  inj : ∀ x y c, en.cells.lookup x = some c → en.cells.lookup y = some c → x = y
  has : ∀ x, (en.kindOf x = some .cell ∨ en.kindOf x = some .free) → ∃ c, en.cells.lookup x = some c
  at_ : ∀ x c, en.cells.lookup x = some c → H c = some (CelO N en σ c)
  len : σ.length = N.length
section
variable {N : List Str} {en : Env} {σ : L2.St} {H H' H2 : Hp} {h h' B : Heap} {P : Program} {w : World}
theorem celO_ne {c : Addr} {ps : Array Value} : CelO N en σ c ≠ .tbl ps := fun z => by
  cases z
theorem Dead.ext (D : Dead N en σ H) (e : ExtN H H') : Dead N en σ H' := ⟨D.inj, D.has, fun x c h => e _ _ (D.at_ x c h) fun _ => celO_ne, D.len⟩
def dropD (en : Env) (H : Hp) : Hp := fun b => if isCel en b = true then none else H b
def putD (N : List Str) (en : Env) (σ : L2.St) (H : Hp) : Hp := fun b => if isCel en b = true then some (CelO N en σ b) else H b
theorem dropD_cel {b : Addr} (h : isCel en b = true) : dropD en H b = none := if_pos h
theorem dropD_not {b : Addr} (h : ¬ isCel en b = true) : dropD en H b = H b := if_neg h
theorem putD_cel {b : Addr} (h : isCel en b = true) : putD N en σ H b = some (CelO N en σ b) := if_pos h
theorem putD_not {b : Addr} (h : ¬ isCel en b = true) : putD N en σ H b = H b := if_neg h
theorem dropD_none {b : Addr} (h : H b = none) : dropD en H b = none := by
  by_cases c : isCel en b = true
  · exact dropD_cel c
  · rw [dropD_not c, h]
theorem of_dropD {b : Addr} {o : HO} (h : dropD en H b = some o) : ¬ isCel en b = true ∧ H b = some o := by
  by_cases c : isCel en b = true
  · rw [dropD_cel c] at h
    cases h
  · exact ⟨c, by rw [← dropD_not (H := H) c]; exact h⟩
theorem Dead.cel (D : Dead N en σ H) {b : Addr} (c : isCel en b = true) : H b = some (CelO N en σ b) := by
  obtain ⟨x, hx⟩ := isCel_iff.mp c
  exact D.at_ x b hx
/-- what is no such thing stays when the cells are dropped -/
theorem Dead.drop (D : Dead N en σ H) {b : Addr} {o : HO} (h : H b = some o) (n : ∀ φ, o ≠ .ext φ) : dropD en H b = some o := by
  by_cases c : isCel en b = true
  · rw [D.cel c] at h
    exact absurd (show o = .ext _ from (Option.some.inj h).symm) (n _)
  · rw [dropD_not c, h]
theorem Dead.drop_ok (D : Dead N en σ H) (ok : HOk P w H h) : HOk P w (dropD en H) h := fun a o e => by
  obtain ⟨nc, e2⟩ := of_dropD e
  exact (ok a o e2).stay (fun _ _ _ q => q) (fun b z => D.drop z fun φ => nofun) fun b xs z => D.drop z fun φ => nofun
theorem Dead.un (D : Dead N en σ H) {fs : List Addr} (u : Un fs [] (dropD en H) H2 h h') : Un fs [] H (putD N en σ H2) h h' where
  keep := fun b o e n hb hx => u.keep b o e (dropD_none n) hb hx
  slot := fun b o e n hb hx => u.slot b o e (dropD_none n) hb hx
  free := fun b o e n hx => by
    have nc : ¬ isCel en b = true := fun c => by
      rw [D.cel c] at n
      cases n
    rw [putD_not nc]
    exact u.free b o e (dropD_none n) hx
  there := u.there
  tups := fun b xs e => by
    obtain ⟨nc, _⟩ := of_dropD (D.drop e fun φ => nofun)
    rw [putD_not nc]
    exact u.tups b xs (D.drop e fun φ => nofun)
  frzs := fun b o xs e => by
    obtain ⟨nc, _⟩ := of_dropD (D.drop e fun φ => nofun)
    rw [putD_not nc]
    exact u.frzs b o xs (D.drop e fun φ => nofun)
  tbls := fun b ps e => by
    obtain ⟨nc, _⟩ := of_dropD (D.drop e fun φ => nofun)
    rw [putD_not nc]
    exact u.tbls b ps (D.drop e fun φ => nofun)
theorem Dead.ub (D : Dead N en σ H) {fs : List Addr} (u : UB fs (dropD en H) H2 h B h') : UB fs H (putD N en σ H2) h B h' where
  keep := fun b o e n hb => u.keep b o e (dropD_none n) hb
  slot := u.slot
  free := fun b o e n => by
    have nc : ¬ isCel en b = true := fun c => by
      rw [D.cel c] at n
      cases n
    rw [putD_not nc]
    exact u.free b o e (dropD_none n)
  there := u.there
  tups := fun b xs e => by
    obtain ⟨nc, _⟩ := of_dropD (D.drop e fun φ => nofun)
    rw [putD_not nc]
    exact u.tups b xs (D.drop e fun φ => nofun)
  frzs := fun b o xs e => by
    obtain ⟨nc, _⟩ := of_dropD (D.drop e fun φ => nofun)
    rw [putD_not nc]
    exact u.frzs b o xs (D.drop e fun φ => nofun)
  tbls := fun b ps e => by
    obtain ⟨nc, _⟩ := of_dropD (D.drop e fun φ => nofun)
    rw [putD_not nc]
    exact u.tbls b ps (D.drop e fun φ => nofun)
/-- the heap with its cells again -/
theorem Dead.put_ok (D : Dead N en σ H) (ok : HOk P w H h) (ok2 : HOk P w H2 h') (keep : ∀ b o, h.get? b = some o → isCel en b = true → ∃ sl, h'.get? b = some { o with slots := sl }) (free : ∀ b, isCel en b = true → H2 b = none) : HOk P w (putD N en σ H2) h' := fun a o e => by
  by_cases c : isCel en a = true
  · rw [putD_cel c] at e
    cases e
    obtain ⟨⟨v, hv⟩, hs⟩ := (show ObjOk P w H h a (CelO N en σ a) from ok a _ (D.cel c)).1
    have cell : ∀ v, h.IsCell a v → h'.IsCell a v := fun v ⟨o, ho, hd⟩ => by
      obtain ⟨sl, q⟩ := keep a o ho c
      exact ⟨_, q, hd⟩
    refine ⟨⟨⟨v, cell v hv⟩, fun i x v e1 e2 e3 e4 => ?_⟩, ?_, fun h1 h2 z k => ?_⟩
    · obtain ⟨u, r, z⟩ := hs i x v e1 e2 e3 e4
      exact ⟨u, r, cell _ z⟩
    · obtain ⟨o, ho, _⟩ := cell v hv
      exact ⟨o, ho⟩
    · obtain ⟨⟨v, o, ho, hd⟩, hs⟩ := z
      exact ⟨⟨v, o, k o ho, hd⟩, fun i x v e1 e2 e3 e4 => by
        obtain ⟨u, r, o, ho, hd⟩ := hs i x v e1 e2 e3 e4
        exact ⟨u, r, o, k o ho, hd⟩⟩
  · rw [putD_not c] at e
    have up : ∀ b u, H2 b = some u → putD N en σ H2 b = some u := fun b u q => by
      have nc : ¬ isCel en b = true := fun z => by
        rw [free b z] at q
        cases q
      rw [putD_not nc, q]
    exact (ok2 a o e).stay (fun _ _ _ q => q) (fun b z => up b _ z) fun b xs z => up b _ z
/-- what is reached behind holds with the cells -/
theorem putD_ext (D : Dead N en σ H) (e : ExtN (dropD en H) H2) : ExtN H (putD N en σ H2) := fun b o z n => by
  by_cases c : isCel en b = true
  · rw [putD_cel c, ← D.cel c, z]
  · rw [putD_not c]
    exact e b o (by rw [dropD_not c, z]) n
theorem Dead.put (D : Dead N en σ H) : Dead N en σ (putD N en σ H2) := ⟨D.inj, D.has, fun x c h => putD_cel (isCel_iff.mpr ⟨x, h⟩), D.len⟩
end
/-- the context of a frame that is gone, beside the running one -/
abbrev Xd (X : Cx) (N : List Str) (en : Env) : Cx := { X with N := N, env := en }
section
variable {X : Cx} {N : List Str} {en : Env} {σ : L2.St} {H1 : Hp} {s1 : Shared}
theorem lam_startD {E : XK} {scope : Scope} {f c' : Addr} {h₁ : Heap} {tk : Nat} (D : Dead N en σ H1) (ok : HOk X.prog X.w H1 s1.heap) (L : LamS en.scope scope) (e0 : Env0 X.prog X.w X.K X.mg X.base X.A X.stack s1 (dropD en H1)) (hd : X.A.handled = none)
    (hns : h₁.Ns s1.heap.objs.size fun y => ([] : List (Str × Value)).reverse.lookup y) (kp : ∀ b o, s1.heap.get? b = some o → h₁.get? b = some o) :
    Inv (lamCxN (Xd X N en) X.A X.stack s1 (dropD en H1) E scope f c') [] σ (dropD en H1) { s1 with heap := h₁, toks := tk } := by
  have hfree : ∀ y ∈ scope.names, y.2 = .free → ∃ c, en.cells.lookup y.1 = some c := fun y hy e => (L.free y hy e).elim (fun z => D.has _ (.inl z)) fun z => D.has _ (.inr z)
  have cm : ∀ {y c}, (cloFrom en.cells scope.names []).lookup y = some c → en.cells.lookup y = some c := fun e => NdefX.clo_cm hfree e
  have look : ∀ {y}, scope.names.lookup y = some .free → ∃ c, (cloFrom en.cells scope.names []).lookup y = some c := fun {y} hl => by
    have hy : (y, NameKind.free) ∈ scope.names := PySem.mem_of_lookup hl
    exact mem_lookup (cloFrom_has (cells := en.cells) (acc := []) hy)
  have cel : ∀ {y c}, en.cells.lookup y = some c → (∃ v, s1.heap.IsCell c v) ∧ ∀ (i : Nat) (x : Str) (v : V), N[i]? = some x → σ[i]? = some (some v) → (en.scope.names.lookup x = some .cell ∨ en.scope.names.lookup x = some .free) → en.cells.lookup x = some c → ∃ u, RelV v u ∧ s1.heap.IsCell c (some u) := fun {y c} e =>
    (show ObjOk X.prog X.w H1 s1.heap c (CelO N en σ c) from ok c _ (D.at_ y c e)).1
  have cellK : ∀ {c : Addr} {v : Option Value}, s1.heap.IsCell c v → h₁.IsCell c v := fun {c v} ⟨o, ho, hd⟩ => ⟨o, kp _ _ ho, hd⟩
  have noA : ∀ b : Addr, b ∉ (lamCxN (Xd X N en) X.A X.stack s1 (dropD en H1) E scope f c').ex := fun b z => absurd (show b ∈ ([] : List Addr) from z) (by simp)
  refine ⟨⟨e0.mod, L.kind, rfl, rfl, Nat.le_refl _, fun y z c e1 e2 => D.inj y z c (cm e1) (cm e2), fun y hy => ?_, fun y c z _ => ?_, fun _ => hd, Around.frames_deeper e0.frames, .inr ⟨rfl, rfl⟩, fun b z => absurd z (noA b), e0.bs, e0.bsz, fun b _ _ => noA b,
      fun b z => absurd z (noA b), e0.funs, e0.frf⟩,
    rfl, e0.bare, Un.kept kp, ⟨_, hns, fun i y v e1 e2 e3 => ?_⟩, fun y c e => ?_, e0.hok.fresh (Nat.le_refl _), fun y c e => ?_, fun q hq => absurd (show q ∈ ([] : List (Addr × Obj)) ++ [] from hq) (by simp), e0.hok.kept kp, D.len⟩
  · have hy : scope.names.lookup y = some .cell ∨ scope.names.lookup y = some .free := hy
    rcases hy with hy | hy
    · exact absurd rfl (L.own _ (PySem.mem_of_lookup hy)).2
    · exact look hy
  · have z : false = true := z
    cases z
  · have e3 : Vis scope y := e3
    rcases e3 with k | k | k
    · exact absurd rfl (L.own _ (PySem.mem_of_lookup k)).1
    · exact absurd rfl (L.own _ (PySem.mem_of_lookup k)).2
    · obtain ⟨c2, h2⟩ := look k
      have c1 := cm h2
      obtain ⟨u, r, z⟩ := (cel c1).2 i y v e1 e2 (L.free _ (PySem.mem_of_lookup k) rfl) c1
      exact ⟨u, r, .inr ⟨.inr k, c2, h2, cellK z⟩⟩
  · obtain ⟨⟨v, z⟩, _⟩ := cel (cm e)
    exact ⟨v, cellK z⟩
  · exact dropD_cel (isCel_iff.mpr ⟨y, cm e⟩)
/-- g() with g one of several lambdas that outlived their def -/
theorem pe_lamGoD {ι : Type} {e : Expr} {te : TE} {pos : Pos} {k : Nat} {W : L2.St → XK} (N : List Str) (sc : Scope) (qn : Str) (ps : ι → Arguments) (bs : ι → Expr) (ss : ι → Scope) (tb : XK → ι → TE) (he : PE X e te) (hr : Room (k + 1) X.A) (hL : ∀ i, LamS sc (ss i)) (hx : ∀ σ, PassesAt (L2N.CX X.prog X.w) X σ (W σ))
    (hbind : ∀ i (q : Str) (cl : List (Str × Addr)) (pm cv ctv : Value), bindArgs (PySem.W.kla_fn "<lambda>" q (ps i) (bs i) (ss i) cl pm cv ctv) ⟨[], []⟩ = pure [])
    (hbody : ∀ (en : Env) (E : XK) i (A : Around) (outer : List Env) (s : Shared) (H : Hp) (f c' : Addr), Room k (A.deeper (lamEnv (Xd X N en) (ss i) s.heap.objs.size f c')) → PE (lamCxN (Xd X N en) A outer s H E (ss i) f c') (bs i) (tb E i))
    (hc : eval (.Call e [] [] pos) X.env = (do callWith pos (← eval e X.env) [] (backTo pos (starEach [] X.env)) (backToKw pos (keywordEach [] X.env))) := by rfl) :
    PE X (.Call e [] [] pos) (fun σ H Q => te σ H fun v H1 => ∃ (i : ι) (en : Env) (σd : L2.St) (f c' : Addr) (pm ctv : Value), v = .ref f ∧ en.scope = sc ∧ en.qual = qn ∧ Dead N en σd H1 ∧ H1 f = some (LamO f (lamOb (Xd X N en) (ps i) (bs i) (ss i) pm c' ctv)) ∧ H1 c' = some (CodeO c' (qn ++ "<lambda>")) ∧
      tb (fun cls d H2 => (∀ b, isCel en b = true → H2 b = none) → W σ cls d (putD N en σd H2)) i σd (dropD en H1) (fun v H2 => (∀ b, isCel en b = true → H2 b = none) → Q v (putD N en σd H2))) := by
  refine ⟨fun pins s σ H Q I asked => ?_⟩
  rw [hc]
  refine wpAny_bind (thn (he.run pins s σ H _ I asked) fun u s1 ⟨v, H1, J, rv, i, en, σd, f, c', pm, ctv, ev, hsc, hqn, D, hf, hco, q⟩ => ?_)
  subst ev
  subst hqn
  obtain rfl := (show u = Value.ref f from rv)
  have here : s1.heap.get? f = some (lamOb (Xd X N en) (ps i) (bs i) (ss i) pm c' ctv) := (show ObjOk X.prog X.w H1 s1.heap f (LamO f _) from J.hok f _ hf).1
  refine PySem.W.callWith_F0 ⟨_, _, _, _, here⟩ ?_
  obtain ⟨⟨oc, vs, t, hoc, hdc, hvc⟩, -, -⟩ := (show ObjOk X.prog X.w H1 s1.heap c' (CodeO c' (en.qual ++ "<lambda>")) from J.hok c' _ hco)
  have L : LamS en.scope (ss i) := by rw [hsc]; exact hL i
  have e1 := J.env0
  have nofs : ∀ b, isCel en b = true → b ∉ frs X.stack := fun b c z => by
    have := e1.frf b z
    rw [D.cel c] at this
    cases this
  have e0 : Env0 X.prog X.w X.K X.mg X.base X.A X.stack s1 (dropD en H1) := { e1 with
    bs := fun b o z => ⟨(e1.bs b o z).1, dropD_none (e1.bs b o z).2⟩
    frf := fun b z => dropD_none (e1.frf b z)
    hok := D.drop_ok e1.hok }
  have rc : codeAny (model X.prog X.w) X.A (.call (.ref f) ⟨[], []⟩) (CR (L2N.CX X.prog X.w) X.stack X.prog X.w (dropD en H1) s1 (fun v H2 => (∀ b, isCel en b = true → H2 b = none) → Q v (putD N en σd H2)) (fun cls d H2 => (∀ b, isCel en b = true → H2 b = none) → W σ cls d (putD N en σd H2))) s1 := by
    refine PySem.W.kla_callFunE hr.depth here rfl L.co L.gen rfl ⟨c', oc, vs, t, rfl, hoc, hdc, hvc⟩ ?_
    rw [hbind]
    refine wpAny_pure (wpAny_newFunctionEnv (fun y hy => (L.own y hy).2) (fun y hy => absurd hy (by simp)) (fun h1 ns but => ⟨J.nolimit.fresh _ but, ?_⟩) L.kind)
    show codeAny _ _ (.expr (bs i) (lamEnv (Xd X N en) (ss i) s1.heap.objs.size f c')) _ _
    have kp : ∀ b o, s1.heap.get? b = some o → h1.get? b = some o := fun b o z => but.extBut b o (Nat.ne_of_lt (Heap.lt_size z)) (Heap.get?_push_of_some _ z)
    have K1 := lam_startD (X := X) (E := fun cls d H2 => (∀ b, isCel en b = true → H2 b = none) → W σ cls d (putD N en σd H2)) (f := f) (c' := c') (tk := s1.toks + ([] : List (Str × Value)).length) D e1.hok L e0 hr.hd ns kp
    refine PySem.W.kla_codeExpr (wpAny_mono ((hbody en _ i _ _ s1 _ f c' (hr.deeper _)).run [] _ _ _ _ K1 q) (fun v s2 z => ?_) fun _ _ z => z)
    obtain ⟨y, H2, K2, ry, q2⟩ := z
    exact ⟨y, H2, K2.os, K2.bare, K2.base, K2.hok, ry, q2⟩
  refine wpAny_call (codeAny_mono rc fun r s2 z => ?_)
  match r, z with
  | .error e', z =>
    obtain ⟨a, B, H', cls, d, re, fl, hok, ub, na, os, ag, hE⟩ := z
    have kB : ∀ b o, s1.heap.get? b = some o → isCel en b = true → B.get? b = some o := fun b o e c => ub.keep b o e (dropD_cel c) (nofs b c)
    have nca : ¬ isCel en a = true := fun c => by
      obtain ⟨o, ho⟩ := (e1.hok a _ (D.cel c)).2.1
      have := kB a o ho c
      rw [fl.2.1] at this
      cases this
    refine hx σ pins H1 s1 _ s2 J ⟨a, B, putD N en σd H', cls, d, re, fl, D.put_ok e1.hok hok (fun b o e c => ⟨o.slots, kB b o e c⟩) (fun b c => ?_), D.ub ub, by rw [putD_not nca]; exact na, os, ag, hE fun b c => ?_⟩
    all_goals
      obtain ⟨o, ho⟩ := (e1.hok b _ (D.cel c)).2.1
      exact ub.free b o ho (dropD_cel c)
  | .ok (.ret _), z =>
    obtain ⟨y, H2, os, ba, un, hok, rv2, q2⟩ := z
    refine J.after ⟨y, putD N en σd H2, os, ba, D.un un, D.put_ok e1.hok hok (fun b o e c => un.any e (dropD_cel c) (by simp)) (fun b c => ?_), rv2, q2 fun b c => ?_⟩
    all_goals
      obtain ⟨o, ho⟩ := (e1.hok b _ (D.cel c)).2.1
      exact un.free b o ho (dropD_cel c) (by simp)
  | .ok .next, z => exact z.elim
  | .ok .brk, z => exact z.elim
  | .ok .cont, z => exact z.elim
end
/-! ### a def that ends with a return, its cells kept -/
structure PR (X : Cx) (st : List Stmt) (t : (L2.St → V → Hp → Prop) → L2.St → Hp → Prop) : Prop where
  run : ∀ (pins : List (Addr × Obj)) (s : Shared) (σ : L2.St) (H : Hp) (R : L2.St → V → Hp → Prop), Inv X pins σ H s → t R σ H → wpAny (model X.prog X.w) X.A (execs st X.env) (fun f s' => ∃ u v σ' H', f = .ret u ∧ Inv X pins σ' H' s' ∧ RelV v u ∧ R σ' v H') X.xe s
section
variable {X : Cx} {st : Stmt} {rest : List Stmt} {t : TS} {u : (L2.St → V → Hp → Prop) → L2.St → Hp → Prop} {e : Expr} {te : TE} {pos : Pos}
theorem pr_cons (h1 : PS X st t) (h2 : PR X rest u) : PR X (st :: rest) (fun R σ H => t { nx := u R, rt := fun _ _ => False } σ H) := by
  refine ⟨fun pins s σ H R I h => ?_⟩
  refine wpAny_execs_cons (thn (h1.run pins s σ H _ I h) fun f s1 q => ?_)
  cases f with
  | next =>
    obtain ⟨σ', H', I', q⟩ := q
    exact h2.run pins s1 σ' H' R I' q
  | ret v => exact q.elim fun _ q => q.elim fun _ q => q.elim fun _ q => q.2.2.elim
  | brk => exact q.elim fun _ q => q.elim fun _ q => q.2.elim
  | cont => exact q.elim fun _ q => q.elim fun _ q => q.2.elim
theorem pr_ret (he : PE X e te) : PR X [.Return (some e) pos] (fun R σ H => te σ H fun v H1 => R σ v H1) := by
  refine ⟨fun pins s σ H R I h => ?_⟩
  refine wpAny_execs_cons (wpAny_Return_some (thn (he.run pins s σ H _ I h) fun v s1 ⟨x, H1, I1, r1, q1⟩ => ?_))
  exact ⟨v, x, σ, H1, rfl, I1, r1, q1⟩
end
section
variable {P : Program} {w : World} {K : PySem.W.Frag} {mg : Str → Option Value} {base : Heap} {f : Addr} {fd : FuncData} {x qual : Str} {params : Arguments} {body : List Stmt} {scope : Scope} {dvs : List V} {kws : List (Str × V)}
theorem run_ofD {CX : CXT} {k : Nat} {f : Addr} {name qual : Str} {params : Arguments} {body : List Stmt} {scope : Scope} {dV kV doc pm cdv ct oc : Value} {an od : Option Addr}
    {osl : Array (Option Value)} {N ps : List Str} (lk : K.lookup f = some ⟨oc, od, .func (PySem.W.fnOf name qual params body scope dV kV doc pm an cdv ct), osl⟩) (hcd : PySem.W.codeIn K cdv qual = true) (S : FnScope N ps scope)
    {A : Around} {outer : List Env} {s : Shared} {H : Hp} {args : Args} {us : List Value} {vs : List V} {Q : VK} {E : XK} (hr : Room (k + 1) A) (e0 : Env0 P w K mg base A outer s H) (hb : BindsTo s (PySem.W.fnOf name qual params body scope dV kV doc pm an cdv ct) args (ps.zip us)) (r : Vals vs us) (hl : vs.length = ps.length)
    (hbody : Room k (A.deeper (envOfC qual scope s.heap.objs.size f cdv)) → ∃ t, PR (cxOf CX P w K mg base N qual scope f cdv A outer s H E) body t ∧ t (fun σ' v H' => Dead N (envOfC qual scope s.heap.objs.size f cdv) σ' (putD N (envOfC qual scope s.heap.objs.size f cdv) σ' H') → (∀ b o, H' b = some o → putD N (envOfC qual scope s.heap.objs.size f cdv) σ' H' b = some o) → Q v (putD N (envOfC qual scope s.heap.objs.size f cdv) σ' H')) (L2.start N vs) H) :
    codeAny (model P w) A (.call (.ref f) args) (CR CX outer P w H s Q E) s := by
  have KX : K.In s.heap := e0.mod.kin.keeps fun b o e => (e0.bs b o e).1
  have lim : s.heap.NoLimit := e0.mod.nolimit.keeps fun b o e => (e0.bs b o e).1
  have hkind : ∀ y ∈ ps.zip us, scope.names.lookup y.1 = some .local ∨ (scope.names.lookup y.1 = some .cell ∧ ((cellsFrom (s.heap.objs.size + 1) scope.names []).lookup y.1).isSome = true) := fun ⟨n, v⟩ hy => by
    rcases S.par n (List.of_mem_zip hy).1 with q | q
    · exact .inl q
    · exact .inr ⟨q, PySem.W.cellsFrom_some _ _ _ (.inl q)⟩
  refine codeAny_call_function hr.depth (KX _ _ lk) rfl S.co S.gen rfl (PySem.W.codeRec_of KX hcd) (hb _ _ _ _ ?_)
  refine wpAny_newFunctionEnv_cells S.kind hkind fun env he s1 x => ?_
  subst he
  refine ⟨lim.keeps x.toInCall.keep, codeAny_func ?_⟩
  obtain ⟨t, ht, hq⟩ := hbody (hr.deeper _)
  have I : Inv (cxOf CX P w K mg base N qual scope f cdv A outer s H E) [] (L2.start N vs) H s1 := inv_start S hr.hd e0 hl r x
  refine wpAny_mono (ht.run [] s1 (L2.start N vs) H _ I hq) (fun fl s' hs => ?_) fun e s' hs => hs
  obtain ⟨u, v, σ', H', rfl, J, rv, q⟩ := hs
  generalize hen : envOfC qual scope s.heap.objs.size f cdv = en at q
  have Jc : ∀ x c, en.cells.lookup x = some c → ∃ v, s'.heap.IsCell c v := fun x c e => J.cell x c (by rw [← hen] at e; exact e)
  have Jf : ∀ x c, en.cells.lookup x = some c → H' c = none := fun x c e => J.freeC x c (by rw [← hen] at e; exact e)
  have Jfb : ∀ b, isCel en b = true → H' b = none := fun b c => by
    obtain ⟨x, hx⟩ := isCel_iff.mp c
    exact Jf x b hx
  have Jab : ∀ b, isCel en b = true → s.heap.objs.size ≤ b := fun b c => by
    obtain ⟨x, hx⟩ := isCel_iff.mp c
    exact J.ok.cab x b rfl (by rw [← hen] at hx; exact hx)
  have up : ∀ b u, H' b = some u → putD N en σ' H' b = some u := fun b u z => by
    have nc : ¬ isCel en b = true := fun c => by
      rw [Jfb b c] at z
      cases z
    rw [putD_not nc, z]
  have D : Dead N en σ' (putD N en σ' H') := ⟨fun x y c e1 e2 => J.ok.inj x y c (by rw [← hen] at e1; exact e1) (by rw [← hen] at e2; exact e2), fun x hx => by
      obtain ⟨c, hc⟩ := J.ok.has x (by rw [← hen] at hx; exact hx)
      exact ⟨c, by rw [← hen]; exact hc⟩, fun x c h => putD_cel (isCel_iff.mpr ⟨x, h⟩), J.len⟩
  refine ⟨v, putD N en σ' H', J.os, J.bare, ⟨fun b o e n hb hx => J.base.keep b o e n hb hx, fun b o e n hb hx => J.base.slot b o e n hb hx, fun b o e n hx => ?_, fun b o e hx => J.base.there b o e hx, fun b xs e => up b _ (J.base.tups b xs e), fun b o xs e => up b _ (J.base.frzs b o xs e), fun b ps e => ?_⟩, fun a o e => ?_, rv, q D up⟩
  · have nc : ¬ isCel en b = true := fun c => by
      exact absurd (Jab b c) (Nat.not_le.mpr (Heap.lt_size e))
    rw [putD_not nc]
    exact J.base.free b o e n hx
  · obtain ⟨more, h⟩ := J.base.tbls b ps e
    exact ⟨more, up b _ h⟩
  · by_cases c : isCel en a = true
    · rw [putD_cel c] at e
      cases e
      obtain ⟨x0, hx0⟩ := isCel_iff.mp c
      obtain ⟨v0, hv0⟩ := Jc x0 a hx0
      refine ⟨⟨⟨v0, hv0⟩, fun i x v e1 e2 e3 e4 => ?_⟩, ?_, fun h1 h2 z k => ?_⟩
      · obtain ⟨m, hn, hl⟩ := J.loc
        have e3' : scope.names.lookup x = some .cell ∨ scope.names.lookup x = some .free := by rw [← hen] at e3; exact e3
        obtain ⟨u', r', l⟩ := hl i x v e1 e2 (e3'.elim (fun z => .inr (.inl z)) fun z => .inr (.inr z))
        rcases l with ⟨z, _⟩ | ⟨_, c2, hc2, z⟩
        · have z' : scope.names.lookup x = some .local := z
          rcases e3' with k | k <;> rw [k] at z' <;> cases z'
        · have e4' : (envOfC qual scope s.heap.objs.size f cdv).cells.lookup x = some a := by rw [hen]; exact e4
          have hc2' : (envOfC qual scope s.heap.objs.size f cdv).cells.lookup x = some c2 := hc2
          rw [e4'] at hc2'
          cases hc2'
          exact ⟨u', r', z⟩
      · obtain ⟨o, ho, _⟩ := hv0
        exact ⟨o, ho⟩
      · obtain ⟨⟨v, o, ho, hd⟩, hs⟩ := z
        exact ⟨⟨v, o, k o ho, hd⟩, fun i x v e1 e2 e3 e4 => by
          obtain ⟨u, r, o, ho, hd⟩ := hs i x v e1 e2 e3 e4
          exact ⟨u, r, o, k o ho, hd⟩⟩
    · rw [putD_not c] at e
      exact (J.hok a o e).stay (fun _ _ _ q => q) (fun b z => up b _ z) fun b xs z => up b _ z
/-- a def's body, its cells kept -/
theorem okD {CX : CXT} {N ps : List Str} {k : Nat} {sp : Sp} (F : FunD K x qual params body scope dvs kws f fd) (S : FnScope N ps scope) (len : ∀ vs H Q E, sp vs H Q E → vs.length = ps.length)
    (hbody : ∀ (cdv : Value) (A : Around) (outer : List Env) (s : Shared) (H : Hp) (vs : List V) (Q : VK) (E : XK), PySem.W.codeIn K cdv qual = true → fd.code = cdv → Room k (A.deeper (envOfC qual scope s.heap.objs.size f cdv)) → sp vs H Q E →
      ∃ t, PR (cxOf CX P w K mg base N qual scope f cdv A outer s H E) body t ∧ t (fun σ' v H' => Dead N (envOfC qual scope s.heap.objs.size f cdv) σ' (putD N (envOfC qual scope s.heap.objs.size f cdv) σ' H') → (∀ b o, H' b = some o → putD N (envOfC qual scope s.heap.objs.size f cdv) σ' H' b = some o) → Q v (putD N (envOfC qual scope s.heap.objs.size f cdv) σ' H')) (start N vs) H) : FnOk P w K mg base CX (k + 1) f fd ps sp := by
  obtain ⟨oc, od, dV, kV, doc, pm, an, cdv, ct, osl, rfl, lk, hcd, -, -⟩ := F.ex
  exact ⟨len, fun A outer s H args us vs Q E hr e0 hb hv hs => run_ofD lk hcd S hr e0 hb hv (len _ _ _ _ hs) fun hr' => hbody cdv A outer s H vs Q E hcd rfl hr' hs⟩
end
end Kx
/-! what is heard of an asking -/
namespace KT
open L2 PySem PySem.Spec PyProof.Rows Kx RZ
/-- what can be shown as a text -/
structure ShowD (K : PySem.W.Frag) (H : Hp) (v : V) (dt : PyData) : Prop where
  dp : Dp K H v dt
  sh : dt.showable = true
  nd : dt.hasDict = false
  deep : dt.depth ≤ 60
  fit : dt.shown.length ≤ sizeLine
theorem bt_KeyError : bootBuiltins "KeyError" = some (.type "KeyError") := by decide +kernel
theorem takes_len {X : Cx} {W : WX} (t : Takes X W) : Takes X fun c d σ H => σ.length = X.N.length → W c d σ H := fun u s ⟨x, B, o, pins, σ, H, cls, d, e, I, r1, r2, r3, r4, r5, r6, q⟩ => t u s ⟨x, B, o, pins, σ, H, cls, d, e, I, r1, r2, r3, r4, r5, r6, q I.len⟩
/-- what is heard of an error -/
def Out (K : PySem.W.Frag) (a : Ad) (C : Addr) (cls : Value) (d : Option Addr) (H : Hp) (Q : VK) : Prop := ∃ dd, d = some dd ∧
  ((cls = .ref a.cO ∧ ∃ i x y : Int, H dd = some (.xd [("other", .int y), ("one", .int x), ("deed", .int i)]) ∧ ∀ p H2, Same H H2 → SqT K H2 p [.str "forgets", .int i, .int x, .int y, .bl true] → Q (.ref p) H2) ∨
  (cls = .ref a.cS ∧ ∃ i : Int, H dd = some (.xd [("at", .int i)]) ∧ ∀ p H2, Same H H2 → SqT K H2 p [.str "showing", .int i, .bl true] → Q (.ref p) H2) ∨
  (cls = .ref a.cF ∧ ∃ (c : Addr) (rs es : List Int), H dd = some (.xd [("at", .ref c)]) ∧ CnAt K C H c rs es ∧ ∀ p H2, Same H H2 → SqT K H2 p [.str "refused", .ref c, .bl true] → Q (.ref p) H2) ∨
  (cls = .ref a.cF ∧ ∃ v dt, H dd = some (.xd [("at", v)]) ∧ ShowD K H v dt ∧ ((∃ i, v = .int i) ∨ v = .non ∨ (∃ b, v = .bl b) ∨ ∃ x, v = .str x) ∧ ∀ p H2, Same H H2 → SqT K H2 p [.str "refused", .str dt.shown, .bl true] → Q (.ref p) H2) ∨
  (cls = .ref a.cN ∧ ∃ v dt, H dd = some (.xd [("state", v)]) ∧ ShowD K H v dt ∧ ∀ p H2, Same H H2 → SqT K H2 p [.str "state", .str dt.shown, .bl true] → Q (.ref p) H2))
/-- what is heard of a call tl -/
def TTh (K : PySem.W.Frag) (a : Ad) (C : Addr) : (XK → Hp → VK → Prop) → Hp → VK → Prop := fun tl H Q => tl (fun cls d H' => Out K a C cls d H' Q) H (fun v H' => 2 ≤ sizeLine ∧ ∀ p, H' p = none → Q (.ref p) (upd H' p (.tup [.str "told", v])))
/-- the errors as they are caught and asked -/
structure Hd (K : PySem.W.Frag) (mg : Str → Option Value) (a : Ad) (C CM cW : Addr) : Prop where
  g_W : mg "WitnessError" = some (.ref cW)
  g_S : mg "BadShowing" = some (.ref a.cS)
  g_N : mg "NoState" = some (.ref a.cN)
  g_O : mg "Forgets" = some (.ref a.cO)
  g_G : mg "TooGreat" = some (.ref a.cG)
  g_F : mg "Refused" = some (.ref a.cF)
  x_O : XfC K a.cO
  x_S : XfC K a.cS
  x_F : XfC K a.cF
  x_N : XfC K a.cN
  n_O1 : PySem.W.findIn K (.ref a.cO) "deed" = some none
  n_O2 : PySem.W.findIn K (.ref a.cO) "one" = some none
  n_O3 : PySem.W.findIn K (.ref a.cO) "other" = some none
  n_S : PySem.W.findIn K (.ref a.cS) "at" = some none
  n_F : PySem.W.findIn K (.ref a.cF) "at" = some none
  n_N : PySem.W.findIn K (.ref a.cN) "state" = some none
  e_O : ExcC K a.cO
  e_S : ExcC K a.cS
  e_F : ExcC K a.cF
  e_N : ExcC K a.cN
  k_O : PySem.W.kitOne K (.ref a.cO) (.ref cW) = some true
  k_S : PySem.W.kitOne K (.ref a.cS) (.ref cW) = some true
  k_F : PySem.W.kitOne K (.ref a.cF) (.ref cW) = some true
  k_N : PySem.W.kitOne K (.ref a.cN) (.type "KeyError") = some true
  b_C : ∀ n ∈ (["int", "NoneType", "bool", "str"] : List String), PySem.W.kitOne K (.type n) (.ref C) = some false
  b_M : ∀ n ∈ (["int", "NoneType", "bool", "str"] : List String), PySem.W.kitOne K (.type n) (.ref CM) = some false
  m_OO : PySem.W.exmOne K (.ref a.cO) (.ref a.cO) = some true
  m_SO : PySem.W.exmOne K (.ref a.cS) (.ref a.cO) = some false
  m_SS : PySem.W.exmOne K (.ref a.cS) (.ref a.cS) = some true
  m_FO : PySem.W.exmOne K (.ref a.cF) (.ref a.cO) = some false
  m_FS : PySem.W.exmOne K (.ref a.cF) (.ref a.cS) = some false
  m_FG : PySem.W.exmOne K (.ref a.cF) (.ref a.cG) = some false
  m_FF : PySem.W.exmOne K (.ref a.cF) (.ref a.cF) = some true
  m_NO : PySem.W.exmOne K (.ref a.cN) (.ref a.cO) = some false
  m_NS : PySem.W.exmOne K (.ref a.cN) (.ref a.cS) = some false
  m_NG : PySem.W.exmOne K (.ref a.cN) (.ref a.cG) = some false
  m_NF : PySem.W.exmOne K (.ref a.cN) (.ref a.cF) = some false
  m_NN : PySem.W.exmOne K (.ref a.cN) (.ref a.cN) = some true
/-- isinstance(e, c), whatever the error's class is said to be -/
theorem call_isEw {X : Cx} {x D : Addr} {oe : Obj} {cls : Value} {d : Option Addr} {pn : List (Addr × Obj)} (C : ExcC X.K D) (hz : Zc cls d oe) (hf : ∃ vs, oe.data = .fields vs) :
    CallR (X.suite x ((x, oe) :: pn)) (.builtin "isinstance") (fun xs H Q => cls = .ref D ∧ (∃ dd, d = some dd ∧ ∃ fs, H dd = some (.xd fs)) ∧ rIsE X.K D x xs H Q) := by
  rintro pins s σ H xs us Q I r h
  obtain ⟨rfl, ⟨dd, rfl, fs, h1⟩, h2⟩ := h
  exact call_isEd C hz hf pins s σ H xs us Q I r ⟨⟨fs, h1⟩, h2⟩
theorem sc_law_heard : FnScope ["ask", "fault"] ["ask"] (defScope s_law_heard) := ⟨rfl, rfl, rfl, by decide +kernel, rfl, by decide +kernel, by decide +kernel⟩
abbrev ZH (P : Program) (w : World) (K : PySem.W.Frag) (mg : Str → Option Value) (base : Heap) (g : Addr) (cdg : Value) (A : Around) (outer : List Env) (s : Shared) (H : Hp) (E9 : XK) : Cx := cxOf C8.CX0 P w K mg base ["ask", "fault"] "_law_heard" (defScope s_law_heard) g cdg A outer s H E9
section
variable {P : Program} {w : World} {K : PySem.W.Frag} {mg : Str → Option Value} {base : Heap} {f : Addr} {fd : FuncData} {a : Ad} {C CM cW : Addr}
theorem heard_core {g : Addr} {cdg : Value} {A : Around} {outer : List Env} {s : Shared} {H : Hp} {E9 : XK} {k : Nat} (T : Mg mg) (TC : ClsC K mg C) (TM : ClsM K mg CM) (D : Hd K mg a C CM cW) (lone : Lone A) (hr1 : Room (k + 1) (A.deeper (envOfC "_law_heard" (defScope s_law_heard) s.heap.objs.size g cdg))) {fl : Addr} {Q : VK} (TL : XK → L2.St → Hp → VK → Prop)
    (act : ∀ (W : WX) (pn : List (Addr × Obj)) (xe : Value → Shared → Prop) (E : XK) (p1 p2 : Pos), Takes ((ZH P w K mg base g cdg A outer s H E9).tr pn xe) W → (∀ cls d σ' H', E cls d H' → W cls d σ' H') →
      PE ((ZH P w K mg base g cdg A outer s H E9).tr pn xe) (.Call (.Name "ask" p1) [] [] p2) (TL E))
    (h : TL (fun cls d H' => Out K a C cls d H' Q) (L2.start ["ask", "fault"] [.ref fl]) H (fun v H' => 2 ≤ sizeLine ∧ ∀ p, H' p = none → Q (.ref p) (upd H' p (.tup [.str "told", v])))) :
    ∃ t, PSs (ZH P w K mg base g cdg A outer s H E9).nox (defBody s_law_heard) t ∧ t { nx := fun _ H' => Q .non H', rt := Q } (L2.start ["ask", "fault"] [.ref fl]) H := by
  have un := hr1.un
  have cs : ∀ (x : Addr) (ob : Obj) (pn : List (Addr × Obj)), CallR ((ZH P w K mg base g cdg A outer s H E9).nox.suite x ((x, ob) :: pn)) (.builtin "repr") (rShow K) :=
    fun x ob pn => call_show lone (by show (A.deeper (envOfC "_law_heard" (defScope s_law_heard) s.heap.objs.size g cdg)).units + 64 < _; omega)
  have ci : ∀ (x : Addr) (ob : Obj) (pn : List (Addr × Obj)), CallR ((ZH P w K mg base g cdg A outer s H E9).nox.suite x ((x, ob) :: pn)) (.builtin "isinstance") (rIsiT K) := fun x ob pn => call_isiT
  refine ⟨_, pss_one (ps_tries (W := fun _ _ _ _ => False)
      (tb := fun U E σ H => ∃ Ech : XK, (∀ cls d σ' H', Ech cls d H' → σ'.length = 2 → U cls d σ' H') ∧ TL Ech σ H (fun v H' => 2 ≤ sizeLine ∧ ∀ p, H' p = none → E.rt (.ref p) (upd H' p (.tup [.str "told", v]))))
      rfl rfl LamX.takes0 (fun U pn xe tk own => ?_)
      (Clauses.cons (i := 1) sc_law_heard.nd rfl rfl ⟨rfl, by decide, .inl D.g_O⟩
        (fun x ob cls d pn hz hf => pss_one (ps_ret (pe_tup (pa_cons pe_str (pa_cons (pe_xf D.x_O D.n_O1 hz hf (pv 1)) (pa_cons (pe_xf D.x_O D.n_O2 hz hf (pv 1)) (pa_cons (pe_xf D.x_O D.n_O3 hz hf (pv 1)) (pa_cons (pe_callB (call_isEw D.e_O hz hf) (by rfl) T.z_isinstance (by decide +kernel) (pa_cons (pv 1) (pa_cons (pe_glob (v := V.ref cW) rfl D.g_W rfl) pa_nil))) pa_nil))))))))
      (Clauses.cons (i := 1) sc_law_heard.nd rfl rfl ⟨rfl, by decide, .inl D.g_S⟩
        (fun x ob cls d pn hz hf => pss_one (ps_ret (pe_tup (pa_cons pe_str (pa_cons (pe_xf D.x_S D.n_S hz hf (pv 1)) (pa_cons (pe_callB (call_isEw D.e_S hz hf) (by rfl) T.z_isinstance (by decide +kernel) (pa_cons (pv 1) (pa_cons (pe_glob (v := V.ref cW) rfl D.g_W rfl) pa_nil))) pa_nil))))))
      (Clauses.cons (i := 1) sc_law_heard.nd rfl rfl ⟨rfl, by decide, .inl D.g_G⟩ (fun x ob cls d pn hz hf => pss_one ps_dead)
      (Clauses.cons (i := 1) sc_law_heard.nd rfl rfl ⟨rfl, by decide, .inl D.g_F⟩
        (fun x ob cls d pn hz hf => pss_one (ps_ret (pe_tup (pa_cons pe_str (pa_cons (pe_ifExp (pt_val (pe_callB (ci x ob pn) (by rfl) T.z_isinstance (by decide +kernel) (pa_cons (pe_xf D.x_F D.n_F hz hf (pv 1)) (pa_cons (pe_tup (pa_cons (pe_glob (v := V.ref C) rfl TC.at_ rfl) (pa_cons (pe_glob (v := V.ref CM) rfl TM.at_ rfl) pa_nil))) pa_nil)))) (pe_xf D.x_F D.n_F hz hf (pv 1)) (pe_callB (cs x ob pn) (by rfl) T.z_repr (by decide +kernel) (pa_cons (pe_xf D.x_F D.n_F hz hf (pv 1)) pa_nil)))
          (pa_cons (pe_callB (call_isEw D.e_F hz hf) (by rfl) T.z_isinstance (by decide +kernel) (pa_cons (pv 1) (pa_cons (pe_glob (v := V.ref cW) rfl D.g_W rfl) pa_nil))) pa_nil))))))
      (Clauses.cons (i := 1) sc_law_heard.nd rfl rfl ⟨rfl, by decide, .inl D.g_N⟩
        (fun x ob cls d pn hz hf => pss_one (ps_ret (pe_tup (pa_cons pe_str (pa_cons (pe_callB (cs x ob pn) (by rfl) T.z_repr (by decide +kernel) (pa_cons (pe_xf D.x_N D.n_N hz hf (pv 1)) pa_nil)) (pa_cons (pe_callB (call_isEw D.e_N hz hf) (by rfl) T.z_isinstance (by decide +kernel) (pa_cons (pv 1) (pa_cons (pe_bltn (v := V.ty "KeyError") (by rfl) T.z_KeyError bt_KeyError rfl) pa_nil))) pa_nil))))))
      Clauses.nil)))))), ?_⟩
  · refine ⟨fun pins s' σ H' E I h' => ?_⟩
    rcases h' with ⟨Ech, hW, h3⟩
    have hp := fun p1 p2 => act (fun c d σ H => σ.length = _ → U c d σ H) pn xe Ech p1 p2 (takes_len tk) (fun cls d σ' H' he hlen => hW cls d σ' H' he hlen)
    exact (pss_one (ps_ret (pe_tup (pa_cons pe_str (pa_cons (hp _ _) pa_nil))))).run pins s' σ H' E I h3
  · refine ⟨fun cls d H' => Out K a C cls d H' Q, ?_, ?_⟩
    · rintro cls d σ' H' ⟨dd, rfl, o⟩ hlen
      obtain ⟨v0, v1, rfl⟩ : ∃ v0 v1, σ' = [v0, v1] := by
        match σ', hlen with
        | [v0, v1], _ => exact ⟨v0, v1, rfl⟩
      have no : ∀ {P : Prop}, true = false → P := fun z => nomatch z
      have no' : ∀ {P : Prop}, false = true → P := fun z => nomatch z
      rcases o with ⟨rfl, i, u, v, hd, k⟩ | ⟨rfl, i, hd, k⟩ | ⟨rfl, c, rs, es, hd, cn, k⟩ | ⟨rfl, v, dt, hd, sd, kind, k⟩ | ⟨rfl, v, dt, hd, sd, k⟩
      · refine ⟨true, D.m_OO, fun _ x hx => ?_, no⟩
        refine ⟨_, rfl, rfl, rfl, dd, _, _, rfl, hd, rfl, _, rfl, rfl, rfl, dd, _, _, rfl, hd, rfl, _, rfl, rfl, rfl, dd, _, _, rfl, hd, rfl, ?_⟩
        exact ⟨_, rfl, rfl, ⟨dd, rfl, _, hd⟩, _, _, true, rfl, fun u r => r, D.k_O, (by show 5 ≤ sizeLine; decide), fun p hp => k p _ (same_new hp) (SqT.of upd_same)⟩
      · refine ⟨false, D.m_SO, no', fun _ => ⟨true, D.m_SS, fun _ x hx => ?_, no⟩⟩
        refine ⟨_, rfl, rfl, rfl, dd, _, _, rfl, hd, rfl, ?_⟩
        exact ⟨_, rfl, rfl, ⟨dd, rfl, _, hd⟩, _, _, true, rfl, fun u r => r, D.k_S, (by show 3 ≤ sizeLine; decide), fun p hp => k p _ (same_new hp) (SqT.of upd_same)⟩
      · refine ⟨false, D.m_FO, no', fun _ => ⟨false, D.m_FS, no', fun _ => ⟨false, D.m_FG, no', fun _ => ⟨true, D.m_FF, fun _ x hx => ?_, no⟩⟩⟩⟩
        refine ⟨_, rfl, rfl, rfl, dd, _, _, rfl, hd, rfl, (by show 2 ≤ sizeLine; decide), fun t ht => ?_⟩
        have e1 := same_new (o := HO.tup [.ref C, .ref CM]) ht
        have kt : PySem.W.kitAny K (.ref C) [.ref C, .ref CM] = some true := kitAny_cons (b := true) TC.yes (fun z => nomatch z) (fun _ => rfl)
        refine ⟨.ref c, t, _, .ref C, _, true, rfl, upd_same, .cons (.own C) (.cons (.own CM) .nil), ty_cn TC (cn.same e1), kt, _, rfl, ?_⟩
        refine iteT ?_
        refine ⟨_, rfl, rfl, rfl, dd, _, _, rfl, e1 _ _ hd, rfl, ?_⟩
        exact ⟨_, rfl, rfl, ⟨dd, rfl, _, e1 _ _ hd⟩, _, _, true, rfl, fun u r => r, D.k_F, (by show 3 ≤ sizeLine; decide), fun p hp => k p _ (e1.trans (same_new hp)) (SqT.of upd_same)⟩
      · refine ⟨false, D.m_FO, no', fun _ => ⟨false, D.m_FS, no', fun _ => ⟨false, D.m_FG, no', fun _ => ⟨true, D.m_FF, fun _ x hx => ?_, no⟩⟩⟩⟩
        refine ⟨_, rfl, rfl, rfl, dd, _, _, rfl, hd, rfl, (by show 2 ≤ sizeLine; decide), fun t ht => ?_⟩
        have e1 := same_new (o := HO.tup [.ref C, .ref CM]) ht
        obtain ⟨n, hn, ty⟩ : ∃ n, n ∈ (["int", "NoneType", "bool", "str"] : List String) ∧ TyX K (upd H' t (HO.tup [.ref C, .ref CM])) v (.type n) := by
          rcases kind with ⟨i, rfl⟩ | rfl | ⟨b, rfl⟩ | ⟨x, rfl⟩
          · exact ⟨"int", by simp, .base (.int i)⟩
          · exact ⟨"NoneType", by simp, .base .non⟩
          · exact ⟨"bool", by simp, .base (.bl b)⟩
          · exact ⟨"str", by simp, .base (.str x)⟩
        have kt : PySem.W.kitAny K (.type n) [.ref C, .ref CM] = some false := kitAny_cons (b := false) (D.b_C n hn) (fun _ => kitAny_cons (b := false) (D.b_M n hn) (fun _ => rfl) (fun z => nomatch z)) (fun z => nomatch z)
        refine ⟨v, t, _, .type n, _, false, rfl, upd_same, .cons (.own C) (.cons (.own CM) .nil), ty, kt, _, rfl, ?_⟩
        refine iteF ?_
        refine ⟨_, rfl, rfl, rfl, dd, _, _, rfl, e1 _ _ hd, rfl, _, dt, rfl, (by have q := sd.dp; rcases kind with ⟨i, rfl⟩ | rfl | ⟨b, rfl⟩ | ⟨x, rfl⟩ <;> cases q <;> constructor), sd.sh, sd.nd, sd.deep, sd.fit, ?_⟩
        exact ⟨_, rfl, rfl, ⟨dd, rfl, _, e1 _ _ hd⟩, _, _, true, rfl, fun u r => r, D.k_F, (by show 3 ≤ sizeLine; decide), fun p hp => k p _ (e1.trans (same_new hp)) (SqT.of upd_same)⟩
      · refine ⟨false, D.m_NO, no', fun _ => ⟨false, D.m_NS, no', fun _ => ⟨false, D.m_NG, no', fun _ => ⟨false, D.m_NF, no', fun _ => ⟨true, D.m_NN, fun _ x hx => ?_, no⟩⟩⟩⟩⟩
        exact ⟨_, rfl, rfl, rfl, dd, _, _, rfl, hd, rfl, _, dt, rfl, sd.dp, sd.sh, sd.nd, sd.deep, sd.fit, _, rfl, rfl, ⟨dd, rfl, _, hd⟩, _, (.type "KeyError"), true, rfl, fun u r => r, D.k_N, (by show 3 ≤ sizeLine; decide), fun p hp => k p _ (same_new hp) (SqT.of upd_same)⟩
    · exact h
/-- of a lambda that a def makes as it asks -/
theorem heard_gives {X : Cx} {g : Addr} {cdg : Value} {k : Nat} {q : Str} (T : Mg X.mg) (TC : ClsC X.K X.mg C) (TM : ClsM X.K X.mg CM) (D : Hd X.K X.mg a C CM cW) (lone : Lone X.A) (hr : Room (k + 2) X.A) :
    LamX.GivesTo X ["ask", "fault"] "_law_heard" (defScope s_law_heard) g cdg (defBody s_law_heard) "ask" q (TTh X.K a C) := by
  intro fl c' s H Q tl act hc h
  exact heard_core (k := k) T TC TM D lone (hr.deeper _) (fun E σ H Q => σ[0]? = some (some (.ref fl)) ∧ H c' = some (LamX.CodeO c' q) ∧ tl E H Q) (fun W pn xe E p1 p2 tk hW => act W pn xe E p1 p2 tk hW) ⟨rfl, hc, h⟩
/-- what a def that hears lambdas must know: c, Pt its code object and table -/
structure HF (X : Cx) (a : Ad) (C CM cW : Addr) (Ts : List (Addr × Str)) (g : Addr) (fdg : FuncData) (c Pt : Addr) (st : Stmt) : Prop where
  FH : FnP X.K "_law_heard" s_law_heard g fdg
  gH : X.mg "_law_heard" = some (.ref g)
  bH : Binds X.K fdg ["ask"] []
  T : Mg X.mg
  TC : ClsC X.K X.mg C
  TM : ClsM X.K X.mg CM
  D : Hd X.K X.mg a C CM cW
  lone : Lone X.A
  TB : LamX.TabB X.base X.mg c Pt
  code : X.env.code = .ref c
  sc : X.env.scope = defScope st
  mem : (Pt, X.env.qual ++ "<lambda>") ∈ Ts
  only : ∀ p ∈ Ts, p.1 = Pt → p.2 = X.env.qual ++ "<lambda>"
theorem pe_heard {X : Cx} {a : Ad} {C CM cW : Addr} {Ts : List (Addr × Str)} {g : Addr} {fdg : FuncData} {c Pt : Addr} {st : Stmt} {k : Nat} {params : Arguments} {body : Expr} {scope : Scope} {t : XK → TE} {p lpos pos : Pos} (h : HF X a C CM cW Ts g fdg c Pt st) (hr : Room (k + 2) X.A)
    (hbody : ∀ (A : Around) (outer : List Env) (s : Shared) (H : Hp) (E : XK) (f c' : Addr), Room k (A.deeper (LamX.lamEnv X scope s.heap.objs.size f c')) → PE (LamX.lamCx X A outer s H E scope f c') body (t E))
    (hg : Gl X "_law_heard" := by rfl) (hL : LamX.lamSB (defScope st) scope = true := by decide +kernel) (hdef : defaultsOf params X.env = ([], []) := by rfl)
    (hbind : ∀ (q : Str) (cl : List (Str × Addr)) (pm cv ctv : Value), bindArgs (PySem.W.kla_fn "<lambda>" q params body scope cl pm cv ctv) ⟨[], []⟩ = pure [] := by intros; rfl) :
    PE X (.Call (.Name "_law_heard" p) [.Lambda params body scope lpos] [] pos) (LamX.tLam Ts (TTh X.K a C) t) := by
  obtain ⟨oc, od, dV, kV, doc, pm, an, cdv, ct, osl, rfl, lk, hcd, -, -⟩ := h.FH.ex
  exact LamX.pe_lamcall (k := k) hg h.gH h.FH.kp lk hcd h.bH sc_law_heard rfl (.inl rfl) (heard_gives h.T h.TC h.TM h.D h.lone hr) h.TB h.code h.mem h.only hr (by rw [h.sc]; exact LamX.lamS_by hL) hdef hbind hbody
/-- what leaves a def, its context none, leaves it -/
theorem cx_of {P : Program} {w : World} {outer : List Env} {H : Hp} {s : Shared} {E : XK} {u : Value} {s' : Shared} (h : L2N.CX P w outer H s E u s') : L2.CX P w outer H s E u s' := by
  obtain ⟨a, B, H', cls, d, e, fl, r⟩ := h
  obtain ⟨oe, vs, T, oT, ts, he, hz, r2⟩ := fl.2.2.2
  exact ⟨a, B, H', cls, d, e, ⟨fl.1, fl.2.1, fl.2.2.1, oe, vs, T, oT, ts, he, hz.zc, r2⟩, r⟩
/-- an error that is raised is heard -/
theorem passL {X : Cx} {A : Around} {outer : List Env} {s : Shared} {H : Hp} {E : XK} {scope : Scope} {f c' : Addr} : Passes (L2N.CX (LamX.lamCx X A outer s H E scope f c').prog (LamX.lamCx X A outer s H E scope f c').w) (LamX.lamCx X A outer s H E scope f c') E :=
  fun pins σ H1 s1 e s' I c => passes_call (X := LamX.lamCx X A outer s H E scope f c') (takes_of (E := E) rfl rfl rfl rfl) (fun _ _ _ _ z => z) pins σ H1 s1 e s' I (cx_of c)
theorem passD {X : Cx} {A : Around} {outer : List Env} {s : Shared} {H : Hp} {E : XK} {scope : Scope} {f c' : Addr} : Passes (L2N.CX (lamCxN X A outer s H E scope f c').prog (lamCxN X A outer s H E scope f c').w) (lamCxN X A outer s H E scope f c') E :=
  L2N.passes_call (X := lamCxN X A outer s H E scope f c') (L2N.takes_of (E := E) rfl rfl rfl rfl) (fun _ _ _ _ z => z)
/-- lambdas of a def that is gone: its names, its scope, its name, what they are -/
structure Dl (ι : Type) where
  N : List Str
  sc : Scope
  qn : Str
  ps : ι → Arguments
  bs : ι → Expr
  ss : ι → Scope
/-- lambda i of such a def stands at fl -/
def Dl.At {ι : Type} (d : Dl ι) (en : Env) (σd : L2.St) (i : ι) (H : Hp) (fl : Addr) : Prop := ∃ (c' : Addr) (pm ctv : Value), en.scope = d.sc ∧ en.qual = d.qn ∧ Dead d.N en σd H ∧ H fl = some (LamO fl (PySem.W.kla_obj "<lambda>" (en.qual ++ "<lambda>") (d.ps i) (d.bs i) (d.ss i) (cloFrom en.cells (d.ss i).names []) pm c' ctv)) ∧ H c' = some (LamX.CodeO c' (d.qn ++ "<lambda>"))
/-- what it does when it is called -/
def Dl.Does {ι : Type} (d : Dl ι) (tb : XK → ι → TE) (fl : Addr) : XK → Hp → VK → Prop := fun E H Q => ∃ (i : ι) (en : Env) (σd : L2.St), d.At en σd i H fl ∧ tb (fun cls dd H2 => (∀ b, isCel en b = true → H2 b = none) → E cls dd (putD d.N en σd H2)) i σd (dropD en H) (fun v H2 => (∀ b, isCel en b = true → H2 b = none) → Q v (putD d.N en σd H2))
def spHear {ι : Type} (K : PySem.W.Frag) (a : Ad) (C : Addr) (d : Dl ι) (tb : XK → ι → TE) : Sp := fun vs H Q _ => ∃ fl, vs = [.ref fl] ∧ TTh K a C (d.Does tb fl) H Q
theorem ok_hear {ι : Type} {d : Dl ι} {tb : XK → ι → TE} {k : Nat} (F : FnP K "_law_heard" s_law_heard f fd) (T : Mg mg) (TC : ClsC K mg C) (TM : ClsM K mg CM) (D : Hd K mg a C CM cW) (hL : ∀ i, LamX.LamS d.sc (d.ss i))
    (hbind : ∀ i (q : Str) (cl : List (Str × Addr)) (pm cv ctv : Value), bindArgs (PySem.W.kla_fn "<lambda>" q (d.ps i) (d.bs i) (d.ss i) cl pm cv ctv) ⟨[], []⟩ = pure [])
    (hbody : ∀ (X : Cx), X.prog = P → X.w = w → X.K = K → X.mg = mg → X.base = base → ∀ (en : Env) (E : XK) i (A : Around) (outer : List Env) (s : Shared) (H : Hp) (f c' : Addr), Room k (A.deeper (LamX.lamEnv (Xd X d.N en) (d.ss i) s.heap.objs.size f c')) → PE (lamCxN (Xd X d.N en) A outer s H E (d.ss i) f c') (d.bs i) (tb E i)) :
    FnG P w K mg base CX0 (k + 2) f fd ["ask"] (spHear K a C d tb) := by
  refine okG F sc_law_heard (fun vs H Q E h => ?_) (fun cdv A outer s H vs Q E lone hcd hr h => ?_)
  · obtain ⟨fl, rfl, _⟩ := h
    rfl
  · obtain ⟨fl, rfl, h⟩ := h
    have act : ∀ (W : WX) (pn : List (Addr × Obj)) (xe : Value → Shared → Prop) (E' : XK) (p1 p2 : Pos), Takes ((ZH P w K mg base f cdv A outer s H E).tr pn xe) W → (∀ cls d σ' H', E' cls d H' → W cls d σ' H') →
        PE ((ZH P w K mg base f cdv A outer s H E).tr pn xe) (.Call (.Name "ask" p1) [] [] p2) (fun σ H Q => σ[0]? = some (some (.ref fl)) ∧ d.Does tb fl E' H Q) := by
      intro W pn xe E' p1 p2 tk hW
      have body := pe_lamGoD (X := (ZH P w K mg base f cdv A outer s H E).tr pn xe) (e := .Name "ask" p1) (pos := p2) (k := k) (W := fun _ => E') d.N d.sc d.qn d.ps d.bs d.ss tb (pv 0) hr hL (fun σ pins H s e s' I c => tk e s' (XE.of_call I (fun cls d H' h => hW cls d σ H' h) (cx_of c))) hbind (fun en E i A outer s H f c' r => hbody _ rfl rfl rfl rfl rfl en E i A outer s H f c' r)
      refine ⟨fun pins s1 σ1 H1 Q1 I h1 => body.run pins s1 σ1 H1 Q1 I ?_⟩
      obtain ⟨h0, i, en, σd, ⟨c', pm, ctv, q1, q2, q3, q4, q5⟩, q6⟩ := h1
      exact ⟨_, h0, i, en, σd, fl, c', pm, ctv, rfl, q1, q2, q3, q4, q5, q6⟩
    obtain ⟨t, ht, q⟩ := heard_core (P := P) (w := w) (base := base) (g := f) (cdg := cdv) (A := A) (outer := outer) (s := s) (H := H) (E9 := E) (k := k) (fl := fl) (Q := Q) T TC TM D lone hr (fun E σ H Q => σ[0]? = some (some (.ref fl)) ∧ d.Does tb fl E H Q) act ⟨rfl, h⟩
    exact ⟨t, PSs.nox ht, q⟩
end
end KT
/-! the lambdas that ask, made by defs that end -/
namespace KT
open L2 PySem PySem.Spec PyProof.Rows Kx RZ
theorem ext_ofS {H H' : Hp} (e : Same H H') : LamX.ExtN H H' := fun b o h _ => e b o h
/-- only tables moved, things were made -/
structure Wt (Ts : List (Addr × Str)) (H H' : Hp) : Prop where
  ext : LamX.ExtN H H'
  tabs : LamX.Tabs Ts H'
section
variable {Ts : List (Addr × Str)} {H H' H2 : Hp}
theorem Wt.refl (t : LamX.Tabs Ts H) : Wt Ts H H := ⟨LamX.ExtN.refl H, t⟩
theorem Wt.same (g : Wt Ts H H') (e : Same H' H2) : Wt Ts H H2 := ⟨g.ext.trans (ext_ofS e), g.tabs.ext e⟩
theorem Wt.ext2 (g : Wt Ts H H') (e : LamX.ExtN H' H2) (t : LamX.Tabs Ts H2) : Wt Ts H H2 := ⟨g.ext.trans e, t⟩
theorem Wt.trans (g : Wt Ts H H') (k : Wt Ts H' H2) : Wt Ts H H2 := ⟨g.ext.trans k.ext, k.tabs⟩
theorem Wt.fresh {a : Addr} (g : Wt Ts H H') (h : H' a = none) : ∀ o, H a = some o → (∀ ps, o ≠ .tbl ps) → False := fun o e n => by
  rw [g.ext _ _ e n] at h
  cases h
theorem Wt.put {a : Addr} {us us' : List V} (g : Wt Ts H H') (n : ∀ o, H a = some o → (∀ ps, o ≠ .tbl ps) → False) (h : H' a = some (.lst us)) : Wt Ts H (upd H' a (.lst us')) := by
  refine ⟨fun b o e n2 => ?_, fun p hp => ?_⟩
  · have ne : b ≠ a := fun z => n o (z ▸ e) n2
    rw [upd_ne ne]
    exact g.ext b o e n2
  · obtain ⟨ps, h1, h2, h3⟩ := g.tabs p hp
    refine ⟨ps, by rw [upd_ne (ne_of h1 h (fun z => nomatch z))]; exact h1, h2, fun pos cv hcv => ?_⟩
    obtain ⟨c, e1, e2⟩ := h3 pos cv hcv
    have nl : LamX.CodeO c p.2 ≠ .lst us := fun z => by
      unfold LamX.CodeO at z
      cases z
    exact ⟨c, e1, by rw [upd_ne (ne_of e2 h nl)]; exact e2⟩
end
/-- a lambda stands at f -/
def LamAtH (X : Cx) (params : Arguments) (body : Expr) (scope : Scope) (H : Hp) (f : Addr) : Prop := ∃ (c' : Addr) (pm ctv : Value), H f = some (LamO f (lamOb X params body scope pm c' ctv)) ∧ H c' = some (LamX.CodeO c' (X.env.qual ++ "<lambda>"))
theorem LamAtH.ext {X : Cx} {params : Arguments} {body : Expr} {scope : Scope} {H H' : Hp} {f : Addr} (h : LamAtH X params body scope H f) (e : LamX.ExtN H H') : LamAtH X params body scope H' f := by
  obtain ⟨c', pm, ctv, h1, h2⟩ := h
  exact ⟨c', pm, ctv, e _ _ h1 (fun _ z => nomatch z), e _ _ h2 LamX.codeO_ne⟩
theorem LamAtH.put {X : Cx} {params : Arguments} {body : Expr} {scope : Scope} {H : Hp} {f a : Addr} {us us' : List V} (h : LamAtH X params body scope H f) (k : H a = some (.lst us)) : LamAtH X params body scope (upd H a (.lst us')) f := by
  obtain ⟨c', pm, ctv, h1, h2⟩ := h
  have nl : LamX.CodeO c' (X.env.qual ++ "<lambda>") ≠ .lst us := fun z => by
    unfold LamX.CodeO at z
    cases z
  exact ⟨c', pm, ctv, by rw [upd_ne (ne_of h1 k (fun z => nomatch z))]; exact h1, by rw [upd_ne (ne_of h2 k nl)]; exact h2⟩
@[irreducible] def tLamI (X : Cx) (T : List (Addr × Str)) (params : Arguments) (body : Expr) (scope : Scope) : TE := tLamV X T params body scope
theorem tLamI_eq {X : Cx} {T : List (Addr × Str)} {params : Arguments} {body : Expr} {scope : Scope} : tLamI X T params body scope = tLamV X T params body scope := by
  unfold tLamI
  rfl
theorem lam_use {X : Cx} {T : List (Addr × Str)} {params : Arguments} {body : Expr} {scope : Scope} {σ : L2.St} {H : Hp} {Q : VK} (h : LamX.Tabs T H ∧ ∀ (f : Addr) (H2 : Hp), Wt T H H2 → LamAtH X params body scope H2 f → Q (.ref f) H2) : tLamI X T params body scope σ H Q := by
  rw [tLamI_eq]
  refine ⟨h.1, fun f c' pm ctv H1 e t n n1 co => h.2 f _ ((⟨e, t⟩ : Wt T H H1).same (same_new n1)) ⟨c', pm, ctv, upd_same, ?_⟩⟩
  rw [upd_ne (ne_of_none co n1)]
  exact co
theorem PE_mono2 {X : Cx} {e : Expr} {t t2 : TE} (h : PE X e t) (k : ∀ σ H Q, t2 σ H Q → t σ H Q) : PE X e t2 := ⟨fun pins s σ H Q I q => h.run pins s σ H Q I (k _ _ _ q)⟩

theorem pe_lamS {X : Cx} {Ts : List (Addr × Str)} {c Pt : Addr} {params : Arguments} {body : Expr} {scope : Scope} {pos : Pos} (st : Stmt) (TB : LamX.TabB X.base X.mg c Pt) (code : X.env.code = .ref c) (mem : (Pt, X.env.qual ++ "<lambda>") ∈ Ts) (only : ∀ p ∈ Ts, p.1 = Pt → p.2 = X.env.qual ++ "<lambda>")
    (sc : X.env.scope = defScope st) (hdef : defaultsOf params X.env = ([], [])) (hL : LamX.lamSB (defScope st) scope = true) : PE X (.Lambda params body scope pos) (tLamI X Ts params body scope) := by
  rw [tLamI_eq]
  exact pe_lamV TB code mem only hdef (by rw [sc]; exact LamX.lamS_by hL)
/-- the lambda of statement i of a body -/
def lamIn (st : Stmt) (i : Nat) : Option (Arguments × PySem.Expr × Scope) := match (defBody st).getD i (.Pass ⟨0, 0, 0, 0⟩) with
  | .Assign _ (.List [.Lambda ps b sc _] _) _ => some (ps, b, sc)
  | .Expr (.Call _ [.Lambda ps b sc _] _ _) _ => some (ps, b, sc)
  | _ => none
def lamPs (st : Stmt) (i : Nat) : Arguments := match lamIn st i with
  | some (p, _, _) => p
  | none => defArgs st
def lamBd (st : Stmt) (i : Nat) : PySem.Expr := match lamIn st i with
  | some (_, b, _) => b
  | none => .Constant .none 0 ⟨0, 0, 0, 0⟩
def lamSc (st : Stmt) (i : Nat) : Scope := match lamIn st i with
  | some (_, _, s) => s
  | none => defScope st
inductive I8 where
  | n0 | n1 | n2 | n3 | n4 | n5 | n6 | n7
inductive I3 where
  | n0 | n1 | n2
def I8.k : I8 → Nat
  | .n0 => 0
  | .n1 => 1
  | .n2 => 2
  | .n3 => 3
  | .n4 => 4
  | .n5 => 5
  | .n6 => 6
  | .n7 => 7
def I3.k : I3 → Nat
  | .n0 => 0
  | .n1 => 1
  | .n2 => 2
def dlA : Dl I8 := ⟨["machine", "first", "counters", "showing", "value", "asks"], defScope s_law_asks, Str.ofString "_law_asks" ++ ".<locals>.", fun i => lamPs s_law_asks i.k, fun i => lamBd s_law_asks i.k, fun i => lamSc s_law_asks i.k⟩
def dlW : Dl I3 := ⟨["machine", "first", "counters", "showing", "asks"], defScope s_law_walks, Str.ofString "_law_walks" ++ ".<locals>.", fun i => lamPs s_law_walks i.k, fun i => lamBd s_law_walks i.k, fun i => lamSc s_law_walks i.k⟩
theorem a_scope (i : I8) : LamX.lamSB (defScope s_law_asks) (lamSc s_law_asks i.k) = true := by cases i <;> decide +kernel
theorem w_scope (i : I3) : LamX.lamSB (defScope s_law_walks) (lamSc s_law_walks i.k) = true := by cases i <;> decide +kernel
theorem a_bind (i : I8) (q : Str) (cl : List (Str × Addr)) (pm cv ctv : Value) : bindArgs (PySem.W.kla_fn "<lambda>" q (dlA.ps i) (dlA.bs i) (dlA.ss i) cl pm cv ctv) ⟨[], []⟩ = pure [] := by
  match i with
  | .n0 => rfl
  | .n1 => rfl
  | .n2 => rfl
  | .n3 => rfl
  | .n4 => rfl
  | .n5 => rfl
  | .n6 => rfl
  | .n7 => rfl
theorem w_bind (i : I3) (q : Str) (cl : List (Str × Addr)) (pm cv ctv : Value) : bindArgs (PySem.W.kla_fn "<lambda>" q (dlW.ps i) (dlW.bs i) (dlW.ss i) cl pm cv ctv) ⟨[], []⟩ = pure [] := by
  match i with
  | .n0 => rfl
  | .n1 => rfl
  | .n2 => rfl
/-- the askings -/
structure FnS (P : Program) (w : World) (K : PySem.W.Frag) (mg : Str → Option Value) (base : Heap) (a : Ad) (C CM : Addr) : Prop where
  lots : Cal P w K mg base (L2N.CX P w) 10 "lots_of" ["machine", "first", "counters"] (spLots K a C CM)
  size : Cal P w K mg base (L2N.CX P w) 11 "fold_size" ["machine", "first", "counters"] (spL3 K a C CM)
  vals : Cal P w K mg base (L2N.CX P w) 11 "fold_values" ["machine", "first", "counters"] (spL3 K a C CM)
  shown : Cal P w K mg base (L2N.CX P w) 11 "lot_shown" ["machine", "first", "counters", "showing"] (spShown K a C CM)
  told : Cal P w K mg base (L2N.CX P w) 12 "told_state" ["machine", "first", "counters", "showing", "value"] (spTold K a C CM)
  lrows : CalN P w K mg base (L2N.CX P w) 12 3 "lot_rows" ["machine", "first", "counters", "most"] ["most"] kwM (spL4 K a C CM)
  rhold : Cal P w K mg base (L2N.CX P w) 12 "rows_hold" ["machine", "first", "counters", "value"] (spL4 K a C CM)
  vhold : Cal P w K mg base (L2N.CX P w) 11 "values_hold" ["machine", "first", "counters", "value"] (spL4 K a C CM)
  olots : CalN P w K mg base (L2N.CX P w) 4 3 "open_lots" ["machine", "first", "counters", "most"] ["most"] kwM (spW4 K a C CM)
  needed : CalN P w K mg base (L2N.CX P w) 5 3 "needed_values" ["machine", "first", "counters", "most"] ["most"] kwM (spW4 K a C CM)
  olot : CalN P w K mg base (L2N.CX P w) 5 4 "open_lot" ["machine", "first", "counters", "showing", "most"] ["most"] kwM (spOpen5 K a C CM)
  settled : Cal P w K mg base (L2N.CX P w) 9 "settled" ["machine", "first", "pairs", "rounds"] (fun vs H Q E => spSettled K a CM vs H Q E ∨ spFgS K a CM 4 vs H Q E)
/-- what each of them does when it is refused -/
def tbA (K : PySem.W.Frag) (a : Ad) (C CM : Addr) (E : XK) (_ : I8) : TE := fun σ H Q => ∃ vm v vc u x, σ[0]? = some (some vm) ∧ σ[1]? = some (some v) ∧ σ[2]? = some (some vc) ∧ σ[3]? = some (some u) ∧ σ[4]? = some (some x) ∧ EarlyL K a C CM H vm v vc E
def tbW (K : PySem.W.Frag) (a : Ad) (C CM : Addr) (E : XK) (_ : I3) : TE := fun σ H Q => ∃ vm v vc u, σ[0]? = some (some vm) ∧ σ[1]? = some (some v) ∧ σ[2]? = some (some vc) ∧ σ[3]? = some (some u) ∧ EarlyW K a C CM H vm v vc E
section
variable {P : Program} {w : World} {K : PySem.W.Frag} {mg : Str → Option Value} {base : Heap} {f : Addr} {fd : FuncData} {a : Ad} {C CM cW : Addr}
theorem bodyA0 (X : Cx) (F : FnS X.prog X.w X.K X.mg X.base a C CM) (en : Env) (E : XK) (A : Around) (outer : List Env) (s : Shared) (H : Hp) (f c' : Addr) (hr : Room 12 (A.deeper (LamX.lamEnv (Xd X dlA.N en) (dlA.ss .n0) s.heap.objs.size f c'))) : PE (lamCxN (Xd X dlA.N en) A outer s H E (dlA.ss .n0) f c') (dlA.bs .n0) (tbA X.K a C CM E .n0) :=
  PE_mono2 (show PE _ (.Call (.Name "lots_of" _) [_, _, _] _ _) _ from pe_callC F.lots hr (passD (X := Xd X dlA.N en) (A := A) (outer := outer) (s := s) (H := H) (E := E) (scope := dlA.ss .n0) (f := f) (c' := c')) (pa_cons (pv 0) (pa_cons (pv 1) (pa_cons (pv 2) pa_nil)))) fun σ H Q ⟨vm, v, vc, u, x, h0, h1, h2, h3, h4, h⟩ => by
    refine ⟨_, h0, _, h1, _, h2, ?_⟩
    show tNil _ _ _
    unfold tNil
    exact h.lots _
theorem bodyA1 (X : Cx) (F : FnS X.prog X.w X.K X.mg X.base a C CM) (en : Env) (E : XK) (A : Around) (outer : List Env) (s : Shared) (H : Hp) (f c' : Addr) (hr : Room 12 (A.deeper (LamX.lamEnv (Xd X dlA.N en) (dlA.ss .n1) s.heap.objs.size f c'))) : PE (lamCxN (Xd X dlA.N en) A outer s H E (dlA.ss .n1) f c') (dlA.bs .n1) (tbA X.K a C CM E .n1) :=
  PE_mono2 (show PE _ (.Call (.Name "fold_size" _) [_, _, _] _ _) _ from pe_callC F.size hr (passD (X := Xd X dlA.N en) (A := A) (outer := outer) (s := s) (H := H) (E := E) (scope := dlA.ss .n1) (f := f) (c' := c')) (pa_cons (pv 0) (pa_cons (pv 1) (pa_cons (pv 2) pa_nil)))) fun σ H Q ⟨vm, v, vc, u, x, h0, h1, h2, h3, h4, h⟩ => by
    exact ⟨_, h0, _, h1, _, h2, vm, v, vc, rfl, h⟩
theorem bodyA2 (X : Cx) (F : FnS X.prog X.w X.K X.mg X.base a C CM) (en : Env) (E : XK) (A : Around) (outer : List Env) (s : Shared) (H : Hp) (f c' : Addr) (hr : Room 12 (A.deeper (LamX.lamEnv (Xd X dlA.N en) (dlA.ss .n2) s.heap.objs.size f c'))) : PE (lamCxN (Xd X dlA.N en) A outer s H E (dlA.ss .n2) f c') (dlA.bs .n2) (tbA X.K a C CM E .n2) :=
  PE_mono2 (show PE _ (.Call (.Name "fold_values" _) [_, _, _] _ _) _ from pe_callC F.vals hr (passD (X := Xd X dlA.N en) (A := A) (outer := outer) (s := s) (H := H) (E := E) (scope := dlA.ss .n2) (f := f) (c' := c')) (pa_cons (pv 0) (pa_cons (pv 1) (pa_cons (pv 2) pa_nil)))) fun σ H Q ⟨vm, v, vc, u, x, h0, h1, h2, h3, h4, h⟩ => by
    exact ⟨_, h0, _, h1, _, h2, vm, v, vc, rfl, h⟩
theorem bodyA3 (X : Cx) (F : FnS X.prog X.w X.K X.mg X.base a C CM) (en : Env) (E : XK) (A : Around) (outer : List Env) (s : Shared) (H : Hp) (f c' : Addr) (hr : Room 12 (A.deeper (LamX.lamEnv (Xd X dlA.N en) (dlA.ss .n3) s.heap.objs.size f c'))) : PE (lamCxN (Xd X dlA.N en) A outer s H E (dlA.ss .n3) f c') (dlA.bs .n3) (tbA X.K a C CM E .n3) :=
  PE_mono2 (show PE _ (.Call (.Name "lot_shown" _) [_, _, _, _] _ _) _ from pe_callC F.shown hr (passD (X := Xd X dlA.N en) (A := A) (outer := outer) (s := s) (H := H) (E := E) (scope := dlA.ss .n3) (f := f) (c' := c')) (pa_cons (pv 0) (pa_cons (pv 1) (pa_cons (pv 2) (pa_cons (pv 3) pa_nil))))) fun σ H Q ⟨vm, v, vc, u, x, h0, h1, h2, h3, h4, h⟩ => by
    exact ⟨_, h0, _, h1, _, h2, _, h3, vm, v, vc, u, rfl, .inl h⟩
theorem bodyA4 (X : Cx) (F : FnS X.prog X.w X.K X.mg X.base a C CM) (en : Env) (E : XK) (A : Around) (outer : List Env) (s : Shared) (H : Hp) (f c' : Addr) (hr : Room 12 (A.deeper (LamX.lamEnv (Xd X dlA.N en) (dlA.ss .n4) s.heap.objs.size f c'))) : PE (lamCxN (Xd X dlA.N en) A outer s H E (dlA.ss .n4) f c') (dlA.bs .n4) (tbA X.K a C CM E .n4) :=
  PE_mono2 (show PE _ (.Call (.Name "told_state" _) [_, _, _, _, _] _ _) _ from pe_callC F.told hr (passD (X := Xd X dlA.N en) (A := A) (outer := outer) (s := s) (H := H) (E := E) (scope := dlA.ss .n4) (f := f) (c' := c')) (pa_cons (pv 0) (pa_cons (pv 1) (pa_cons (pv 2) (pa_cons (pv 3) (pa_cons (pv 4) pa_nil)))))) fun σ H Q ⟨vm, v, vc, u, x, h0, h1, h2, h3, h4, h⟩ => by
    exact ⟨_, h0, _, h1, _, h2, _, h3, _, h4, vm, v, vc, u, x, rfl, .inl h⟩
theorem bodyA5 (X : Cx) (F : FnS X.prog X.w X.K X.mg X.base a C CM) (en : Env) (E : XK) (A : Around) (outer : List Env) (s : Shared) (H : Hp) (f c' : Addr) (hr : Room 12 (A.deeper (LamX.lamEnv (Xd X dlA.N en) (dlA.ss .n5) s.heap.objs.size f c'))) : PE (lamCxN (Xd X dlA.N en) A outer s H E (dlA.ss .n5) f c') (dlA.bs .n5) (tbA X.K a C CM E .n5) :=
  PE_mono2 (show PE _ (.Call (.Name "lot_rows" _) [_, _, _] _ _) _ from pe_callNn F.lrows hr (passD (X := Xd X dlA.N en) (A := A) (outer := outer) (s := s) (H := H) (E := E) (scope := dlA.ss .n5) (f := f) (c' := c')) (pa_cons (pv 0) (pa_cons (pv 1) (pa_cons (pv 2) pa_nil))) (pk_cons pe_int pk_nil)) fun σ H Q ⟨vm, v, vc, u, x, h0, h1, h2, h3, h4, h⟩ => by
    exact ⟨_, h0, _, h1, _, h2, rfl, rfl, vm, v, vc, _, rfl, h⟩
theorem bodyA6 (X : Cx) (F : FnS X.prog X.w X.K X.mg X.base a C CM) (en : Env) (E : XK) (A : Around) (outer : List Env) (s : Shared) (H : Hp) (f c' : Addr) (hr : Room 12 (A.deeper (LamX.lamEnv (Xd X dlA.N en) (dlA.ss .n6) s.heap.objs.size f c'))) : PE (lamCxN (Xd X dlA.N en) A outer s H E (dlA.ss .n6) f c') (dlA.bs .n6) (tbA X.K a C CM E .n6) :=
  PE_mono2 (show PE _ (.Call (.Name "rows_hold" _) [_, _, _, _] _ _) _ from pe_callC F.rhold hr (passD (X := Xd X dlA.N en) (A := A) (outer := outer) (s := s) (H := H) (E := E) (scope := dlA.ss .n6) (f := f) (c' := c')) (pa_cons (pv 0) (pa_cons (pv 1) (pa_cons (pv 2) (pa_cons (pv 4) pa_nil))))) fun σ H Q ⟨vm, v, vc, u, x, h0, h1, h2, h3, h4, h⟩ => by
    exact ⟨_, h0, _, h1, _, h2, _, h4, vm, v, vc, x, rfl, h⟩
theorem bodyA7 (X : Cx) (F : FnS X.prog X.w X.K X.mg X.base a C CM) (en : Env) (E : XK) (A : Around) (outer : List Env) (s : Shared) (H : Hp) (f c' : Addr) (hr : Room 12 (A.deeper (LamX.lamEnv (Xd X dlA.N en) (dlA.ss .n7) s.heap.objs.size f c'))) : PE (lamCxN (Xd X dlA.N en) A outer s H E (dlA.ss .n7) f c') (dlA.bs .n7) (tbA X.K a C CM E .n7) :=
  PE_mono2 (show PE _ (.Call (.Name "values_hold" _) [_, _, _, _] _ _) _ from pe_callC F.vhold hr (passD (X := Xd X dlA.N en) (A := A) (outer := outer) (s := s) (H := H) (E := E) (scope := dlA.ss .n7) (f := f) (c' := c')) (pa_cons (pv 0) (pa_cons (pv 1) (pa_cons (pv 2) (pa_cons (pv 4) pa_nil))))) fun σ H Q ⟨vm, v, vc, u, x, h0, h1, h2, h3, h4, h⟩ => by
    exact ⟨_, h0, _, h1, _, h2, _, h4, vm, v, vc, x, rfl, h⟩
theorem bodyW0 (X : Cx) (F : FnS X.prog X.w X.K X.mg X.base a C CM) (en : Env) (E : XK) (A : Around) (outer : List Env) (s : Shared) (H : Hp) (f c' : Addr) (hr : Room 12 (A.deeper (LamX.lamEnv (Xd X dlW.N en) (dlW.ss .n0) s.heap.objs.size f c'))) : PE (lamCxN (Xd X dlW.N en) A outer s H E (dlW.ss .n0) f c') (dlW.bs .n0) (tbW X.K a C CM E .n0) :=
  PE_mono2 (show PE _ (.Call (.Name "open_lots" _) [_, _, _] _ _) _ from pe_callNn F.olots hr (passD (X := Xd X dlW.N en) (A := A) (outer := outer) (s := s) (H := H) (E := E) (scope := dlW.ss .n0) (f := f) (c' := c')) (pa_cons (pv 0) (pa_cons (pv 1) (pa_cons (pv 2) pa_nil))) (pk_cons pe_int pk_nil)) fun σ H Q ⟨vm, v, vc, u, h0, h1, h2, h3, h⟩ => by
    exact ⟨_, h0, _, h1, _, h2, rfl, rfl, vm, v, vc, _, rfl, h⟩
theorem bodyW1 (X : Cx) (F : FnS X.prog X.w X.K X.mg X.base a C CM) (en : Env) (E : XK) (A : Around) (outer : List Env) (s : Shared) (H : Hp) (f c' : Addr) (hr : Room 12 (A.deeper (LamX.lamEnv (Xd X dlW.N en) (dlW.ss .n1) s.heap.objs.size f c'))) : PE (lamCxN (Xd X dlW.N en) A outer s H E (dlW.ss .n1) f c') (dlW.bs .n1) (tbW X.K a C CM E .n1) :=
  PE_mono2 (show PE _ (.Call (.Name "needed_values" _) [_, _, _] _ _) _ from pe_callNn F.needed hr (passD (X := Xd X dlW.N en) (A := A) (outer := outer) (s := s) (H := H) (E := E) (scope := dlW.ss .n1) (f := f) (c' := c')) (pa_cons (pv 0) (pa_cons (pv 1) (pa_cons (pv 2) pa_nil))) (pk_cons pe_int pk_nil)) fun σ H Q ⟨vm, v, vc, u, h0, h1, h2, h3, h⟩ => by
    exact ⟨_, h0, _, h1, _, h2, rfl, rfl, vm, v, vc, _, rfl, h⟩
theorem bodyW2 (X : Cx) (F : FnS X.prog X.w X.K X.mg X.base a C CM) (en : Env) (E : XK) (A : Around) (outer : List Env) (s : Shared) (H : Hp) (f c' : Addr) (hr : Room 12 (A.deeper (LamX.lamEnv (Xd X dlW.N en) (dlW.ss .n2) s.heap.objs.size f c'))) : PE (lamCxN (Xd X dlW.N en) A outer s H E (dlW.ss .n2) f c') (dlW.bs .n2) (tbW X.K a C CM E .n2) :=
  PE_mono2 (show PE _ (.Call (.Name "open_lot" _) [_, _, _, _] _ _) _ from pe_callNn F.olot hr (passD (X := Xd X dlW.N en) (A := A) (outer := outer) (s := s) (H := H) (E := E) (scope := dlW.ss .n2) (f := f) (c' := c')) (pa_cons (pv 0) (pa_cons (pv 1) (pa_cons (pv 2) (pa_cons (pv 3) pa_nil)))) (pk_cons pe_int pk_nil)) fun σ H Q ⟨vm, v, vc, u, h0, h1, h2, h3, h⟩ => by
    exact ⟨_, h0, _, h1, _, h2, _, h3, rfl, rfl, vm, v, vc, u, _, rfl, .inl h⟩
/-- askings are heard, whichever of the two defs made them -/
theorem ok_hearA (Fh : FnP K "_law_heard" s_law_heard f fd) (T : Mg mg) (TC : ClsC K mg C) (TM : ClsM K mg CM) (D : Hd K mg a C CM cW) (F : FnS P w K mg base a C CM) : FnG P w K mg base CX0 14 f fd ["ask"] (spHear K a C dlA (tbA K a C CM)) := by
  refine ok_hear (k := 12) Fh T TC TM D (fun i => LamX.lamS_by (a_scope i)) a_bind fun X e1 e2 e3 e4 e5 en E i A outer s H f c' hr => ?_
  subst e1 e2 e3 e4 e5
  match i with
  | .n0 => exact bodyA0 X F en E A outer s H f c' hr
  | .n1 => exact bodyA1 X F en E A outer s H f c' hr
  | .n2 => exact bodyA2 X F en E A outer s H f c' hr
  | .n3 => exact bodyA3 X F en E A outer s H f c' hr
  | .n4 => exact bodyA4 X F en E A outer s H f c' hr
  | .n5 => exact bodyA5 X F en E A outer s H f c' hr
  | .n6 => exact bodyA6 X F en E A outer s H f c' hr
  | .n7 => exact bodyA7 X F en E A outer s H f c' hr
theorem ok_hearW (Fh : FnP K "_law_heard" s_law_heard f fd) (T : Mg mg) (TC : ClsC K mg C) (TM : ClsM K mg CM) (D : Hd K mg a C CM cW) (F : FnS P w K mg base a C CM) : FnG P w K mg base CX0 14 f fd ["ask"] (spHear K a C dlW (tbW K a C CM)) := by
  refine ok_hear (k := 12) Fh T TC TM D (fun i => LamX.lamS_by (w_scope i)) w_bind fun X e1 e2 e3 e4 e5 en E i A outer s H f c' hr => ?_
  subst e1 e2 e3 e4 e5
  match i with
  | .n0 => exact bodyW0 X F en E A outer s H f c' hr
  | .n1 => exact bodyW1 X F en E A outer s H f c' hr
  | .n2 => exact bodyW2 X F en E A outer s H f c' hr
end
end KT
/-! the defs that make the askings -/
namespace KT
open L2 PySem PySem.Spec PyProof.Rows Kx RZ
/-- lambdas so far, in the list at l -/
structure As (X : Cx) (st : Stmt) (Ts : List (Addr × Str)) (H0 : Hp) (l : Addr) (fls : List Addr) (H : Hp) : Prop where
  wt : Wt Ts H0 H
  nl : ∀ o, H0 l = some o → (∀ ps, o ≠ .tbl ps) → False
  hl : H l = some (.lst (fls.map V.ref))
  at_ : ∀ j fl, fls[j]? = some fl → LamAtH X (lamPs st j) (lamBd st j) (lamSc st j) H fl
section
variable {X : Cx} {st : Stmt} {Ts : List (Addr × Str)} {H0 H H1 : Hp} {l : Addr} {fls : List Addr}
theorem As.snoc {f0 : Addr} (h : As X st Ts H0 l fls H) (w1 : Wt Ts H H1) (l1 : LamAtH X (lamPs st fls.length) (lamBd st fls.length) (lamSc st fls.length) H1 f0) : As X st Ts H0 l (fls ++ [f0]) (upd H1 l (.lst (fls.map V.ref ++ [.ref f0]))) := by
  have hl1 : H1 l = some (.lst (fls.map V.ref)) := w1.ext _ _ h.hl (fun _ z => nomatch z)
  refine ⟨(h.wt.trans w1).put h.nl hl1, h.nl, by rw [upd_same, List.map_append]; rfl, fun j fl hj => ?_⟩
  rcases Nat.lt_or_ge j fls.length with lt | ge
  · rw [List.getElem?_append_left lt] at hj
    exact ((h.at_ j fl hj).ext w1.ext).put hl1
  · rw [List.getElem?_append_right ge] at hj
    obtain ⟨j', rfl⟩ : ∃ j', j = fls.length + j' := ⟨j - fls.length, by omega⟩
    rw [Nat.add_sub_cancel_left] at hj
    cases j' with
    | zero =>
      cases hj
      exact l1.put hl1
    | succ j' => simp at hj
end
theorem sc_asks : FnScope ["machine", "first", "counters", "showing", "value", "asks"] ["machine", "first", "counters", "showing", "value"] (defScope s_law_asks) := ⟨rfl, rfl, rfl, by decide +kernel, rfl, by decide +kernel, by decide +kernel⟩
def sp_asks (Ts : List (Addr × Str)) : Sp := fun vs H Q _ => ∃ vm v vc u x, vs = [vm, v, vc, u, x] ∧ LamX.Tabs Ts H ∧ ∀ (en : Env) (σd : L2.St) (l : Addr) (fls : List Addr) (H' : Hp), Wt Ts H H' → H' l = some (.lst (fls.map V.ref)) → fls.length = 8 → σd = [some vm, some v, some vc, some u, some x, some (.ref l)] →
  (∀ (j : Nat) (fl : Addr), fls[j]? = some fl → ∃ i : I8, dlA.At en σd i H' fl) → Q (.ref l) H'
section
variable {P : Program} {w : World} {K : PySem.W.Frag} {mg : Str → Option Value} {base : Heap} {f cc Pt : Addr} {fd : FuncData} {Ts : List (Addr × Str)}
theorem ok_asks (F : FnP K "_law_asks" s_law_asks f fd) (hcode : fd.code = .ref cc) (TB : LamX.TabB base mg cc Pt) (mem : (Pt, dlA.qn ++ "<lambda>") ∈ Ts) (only : ∀ p ∈ Ts, p.1 = Pt → p.2 = dlA.qn ++ "<lambda>") : FnOk P w K mg base CX0 1 f fd ["machine", "first", "counters", "showing", "value"] (sp_asks Ts) := by
  refine okD F sc_asks (fun vs H Q E h => ?_) (fun cdv A outer s H vs Q E hcd hcv hr h => ?_)
  · obtain ⟨vm, v, vc, u, x, rfl, _⟩ := h
    rfl
  · obtain ⟨vm, v, vc, u, x, rfl, ht, kk⟩ := h
    rw [hcode] at hcv
    subst hcv
    obtain ⟨Z, eZ⟩ : ∃ Z, Z = cxOf CX0 P w K mg base ["machine", "first", "counters", "showing", "value", "asks"] "_law_asks" (defScope s_law_asks) f (.ref cc) A outer s H E := ⟨_, rfl⟩
    refine ⟨_, pr_cons (ps_set (i := 5) sc_asks.nd rfl (by first | exact Or.inl rfl | exact Or.inr rfl) (pe_lst (pa_cons (pe_lamS s_law_asks TB rfl mem only rfl rfl (by decide +kernel)) pa_nil)))
      (pr_cons (ps_expr (pe_bm PySem.F.plainAttrs_list PySem.F.slot_list_append PySem.F.type_list_append mt_append (pv 5) (pa_cons (pe_lamS s_law_asks TB rfl mem only rfl rfl (by decide +kernel)) pa_nil)))
      (pr_cons (ps_expr (pe_bm PySem.F.plainAttrs_list PySem.F.slot_list_append PySem.F.type_list_append mt_append (pv 5) (pa_cons (pe_lamS s_law_asks TB rfl mem only rfl rfl (by decide +kernel)) pa_nil)))
      (pr_cons (ps_expr (pe_bm PySem.F.plainAttrs_list PySem.F.slot_list_append PySem.F.type_list_append mt_append (pv 5) (pa_cons (pe_lamS s_law_asks TB rfl mem only rfl rfl (by decide +kernel)) pa_nil)))
      (pr_cons (ps_expr (pe_bm PySem.F.plainAttrs_list PySem.F.slot_list_append PySem.F.type_list_append mt_append (pv 5) (pa_cons (pe_lamS s_law_asks TB rfl mem only rfl rfl (by decide +kernel)) pa_nil)))
      (pr_cons (ps_expr (pe_bm PySem.F.plainAttrs_list PySem.F.slot_list_append PySem.F.type_list_append mt_append (pv 5) (pa_cons (pe_lamS s_law_asks TB rfl mem only rfl rfl (by decide +kernel)) pa_nil)))
      (pr_cons (ps_expr (pe_bm PySem.F.plainAttrs_list PySem.F.slot_list_append PySem.F.type_list_append mt_append (pv 5) (pa_cons (pe_lamS s_law_asks TB rfl mem only rfl rfl (by decide +kernel)) pa_nil)))
      (pr_cons (ps_expr (pe_bm PySem.F.plainAttrs_list PySem.F.slot_list_append PySem.F.type_list_append mt_append (pv 5) (pa_cons (pe_lamS s_law_asks TB rfl mem only rfl rfl (by decide +kernel)) pa_nil)))
      (pr_ret (pv 5))))))))), ?_⟩
    refine lam_use ⟨ht, fun f0 H1 w1 l1 => ?_⟩
    refine ⟨(by show 1 ≤ sizeLine; decide), fun l hl => ?_⟩
    have nl : ∀ o, H l = some o → (∀ ps, o ≠ .tbl ps) → False := w1.fresh hl
    have a1 : As (cxOf CX0 P w K mg base ["machine", "first", "counters", "showing", "value", "asks"] "_law_asks" (defScope s_law_asks) f (.ref cc) A outer s H E) s_law_asks Ts H l [f0] (upd H1 l (.lst [.ref f0])) := ⟨w1.same (same_new hl), nl, upd_same, fun j fl hj => by
      cases j with
      | zero =>
        cases hj
        exact l1.ext (ext_ofS (same_new hl))
      | succ j => cases hj⟩
    generalize upd H1 l (.lst [.ref f0]) = G1 at a1
    refine ⟨_, rfl, .inl ⟨rfl, _, SqL.of a1.hl⟩, lam_use ⟨a1.wt.tabs, fun f1 H2 w2 l2 => ⟨l, _, _, rfl, rfl, w2.ext _ _ a1.hl (fun _ z => nomatch z), (by show 1 < sizeLine; decide), ?_⟩⟩⟩
    have a2 := a1.snoc w2 l2
    generalize upd H2 l (HO.lst (List.map V.ref [f0] ++ [V.ref f1])) = G2 at a2 ⊢
    rw [show ([f0] : List Addr) ++ [f1] = [f0, f1] from rfl] at a2
    refine ⟨_, rfl, .inl ⟨rfl, _, SqL.of a2.hl⟩, lam_use ⟨a2.wt.tabs, fun f2 H3 w3 l3 => ⟨l, _, _, rfl, rfl, w3.ext _ _ a2.hl (fun _ z => nomatch z), (by show 2 < sizeLine; decide), ?_⟩⟩⟩
    have a3 := a2.snoc w3 l3
    generalize upd H3 l (HO.lst (List.map V.ref [f0, f1] ++ [V.ref f2])) = G3 at a3 ⊢
    rw [show ([f0, f1] : List Addr) ++ [f2] = [f0, f1, f2] from rfl] at a3
    refine ⟨_, rfl, .inl ⟨rfl, _, SqL.of a3.hl⟩, lam_use ⟨a3.wt.tabs, fun f3 H4 w4 l4 => ⟨l, _, _, rfl, rfl, w4.ext _ _ a3.hl (fun _ z => nomatch z), (by show 3 < sizeLine; decide), ?_⟩⟩⟩
    have a4 := a3.snoc w4 l4
    generalize upd H4 l (HO.lst (List.map V.ref [f0, f1, f2] ++ [V.ref f3])) = G4 at a4 ⊢
    rw [show ([f0, f1, f2] : List Addr) ++ [f3] = [f0, f1, f2, f3] from rfl] at a4
    refine ⟨_, rfl, .inl ⟨rfl, _, SqL.of a4.hl⟩, lam_use ⟨a4.wt.tabs, fun f4 H5 w5 l5 => ⟨l, _, _, rfl, rfl, w5.ext _ _ a4.hl (fun _ z => nomatch z), (by show 4 < sizeLine; decide), ?_⟩⟩⟩
    have a5 := a4.snoc w5 l5
    generalize upd H5 l (HO.lst (List.map V.ref [f0, f1, f2, f3] ++ [V.ref f4])) = G5 at a5 ⊢
    rw [show ([f0, f1, f2, f3] : List Addr) ++ [f4] = [f0, f1, f2, f3, f4] from rfl] at a5
    refine ⟨_, rfl, .inl ⟨rfl, _, SqL.of a5.hl⟩, lam_use ⟨a5.wt.tabs, fun f5 H6 w6 l6 => ⟨l, _, _, rfl, rfl, w6.ext _ _ a5.hl (fun _ z => nomatch z), (by show 5 < sizeLine; decide), ?_⟩⟩⟩
    have a6 := a5.snoc w6 l6
    generalize upd H6 l (HO.lst (List.map V.ref [f0, f1, f2, f3, f4] ++ [V.ref f5])) = G6 at a6 ⊢
    rw [show ([f0, f1, f2, f3, f4] : List Addr) ++ [f5] = [f0, f1, f2, f3, f4, f5] from rfl] at a6
    refine ⟨_, rfl, .inl ⟨rfl, _, SqL.of a6.hl⟩, lam_use ⟨a6.wt.tabs, fun f6 H7 w7 l7 => ⟨l, _, _, rfl, rfl, w7.ext _ _ a6.hl (fun _ z => nomatch z), (by show 6 < sizeLine; decide), ?_⟩⟩⟩
    have a7 := a6.snoc w7 l7
    generalize upd H7 l (HO.lst (List.map V.ref [f0, f1, f2, f3, f4, f5] ++ [V.ref f6])) = G7 at a7 ⊢
    rw [show ([f0, f1, f2, f3, f4, f5] : List Addr) ++ [f6] = [f0, f1, f2, f3, f4, f5, f6] from rfl] at a7
    refine ⟨_, rfl, .inl ⟨rfl, _, SqL.of a7.hl⟩, lam_use ⟨a7.wt.tabs, fun f7 H8 w8 l8 => ⟨l, _, _, rfl, rfl, w8.ext _ _ a7.hl (fun _ z => nomatch z), (by show 7 < sizeLine; decide), ?_⟩⟩⟩
    have a8 := a7.snoc w8 l8
    generalize upd H8 l (HO.lst (List.map V.ref [f0, f1, f2, f3, f4, f5, f6] ++ [V.ref f7])) = G8 at a8 ⊢
    rw [show ([f0, f1, f2, f3, f4, f5, f6] : List Addr) ++ [f7] = [f0, f1, f2, f3, f4, f5, f6, f7] from rfl] at a8
    refine ⟨_, rfl, fun DD up => ?_⟩
    exact kk _ _ l [f0, f1, f2, f3, f4, f5, f6, f7] _ (a8.wt.same up) (up _ _ a8.hl) rfl rfl fun j fl hj => by
      match j, hj with
      | 0, hj =>
        obtain ⟨c', pm, ctv, q1, q2⟩ := a8.at_ 0 fl hj
        exact ⟨.n0, c', pm, ctv, rfl, rfl, DD, up _ _ q1, up _ _ q2⟩
      | 1, hj =>
        obtain ⟨c', pm, ctv, q1, q2⟩ := a8.at_ 1 fl hj
        exact ⟨.n1, c', pm, ctv, rfl, rfl, DD, up _ _ q1, up _ _ q2⟩
      | 2, hj =>
        obtain ⟨c', pm, ctv, q1, q2⟩ := a8.at_ 2 fl hj
        exact ⟨.n2, c', pm, ctv, rfl, rfl, DD, up _ _ q1, up _ _ q2⟩
      | 3, hj =>
        obtain ⟨c', pm, ctv, q1, q2⟩ := a8.at_ 3 fl hj
        exact ⟨.n3, c', pm, ctv, rfl, rfl, DD, up _ _ q1, up _ _ q2⟩
      | 4, hj =>
        obtain ⟨c', pm, ctv, q1, q2⟩ := a8.at_ 4 fl hj
        exact ⟨.n4, c', pm, ctv, rfl, rfl, DD, up _ _ q1, up _ _ q2⟩
      | 5, hj =>
        obtain ⟨c', pm, ctv, q1, q2⟩ := a8.at_ 5 fl hj
        exact ⟨.n5, c', pm, ctv, rfl, rfl, DD, up _ _ q1, up _ _ q2⟩
      | 6, hj =>
        obtain ⟨c', pm, ctv, q1, q2⟩ := a8.at_ 6 fl hj
        exact ⟨.n6, c', pm, ctv, rfl, rfl, DD, up _ _ q1, up _ _ q2⟩
      | 7, hj =>
        obtain ⟨c', pm, ctv, q1, q2⟩ := a8.at_ 7 fl hj
        exact ⟨.n7, c', pm, ctv, rfl, rfl, DD, up _ _ q1, up _ _ q2⟩
      | j + 8, hj => simp at hj
end
theorem sc_walks : FnScope ["machine", "first", "counters", "showing", "asks"] ["machine", "first", "counters", "showing"] (defScope s_law_walks) := ⟨rfl, rfl, rfl, by decide +kernel, rfl, by decide +kernel, by decide +kernel⟩
def sp_walks (Ts : List (Addr × Str)) : Sp := fun vs H Q _ => ∃ vm v vc u, vs = [vm, v, vc, u] ∧ LamX.Tabs Ts H ∧ ∀ (en : Env) (σd : L2.St) (l : Addr) (fls : List Addr) (H' : Hp), Wt Ts H H' → H' l = some (.lst (fls.map V.ref)) → fls.length = 3 → σd = [some vm, some v, some vc, some u, some (.ref l)] →
  (∀ (j : Nat) (fl : Addr), fls[j]? = some fl → ∃ i : I3, dlW.At en σd i H' fl) → Q (.ref l) H'
section
variable {P : Program} {w : World} {K : PySem.W.Frag} {mg : Str → Option Value} {base : Heap} {f cc Pt : Addr} {fd : FuncData} {Ts : List (Addr × Str)}
theorem ok_walks (F : FnP K "_law_walks" s_law_walks f fd) (hcode : fd.code = .ref cc) (TB : LamX.TabB base mg cc Pt) (mem : (Pt, dlW.qn ++ "<lambda>") ∈ Ts) (only : ∀ p ∈ Ts, p.1 = Pt → p.2 = dlW.qn ++ "<lambda>") : FnOk P w K mg base CX0 1 f fd ["machine", "first", "counters", "showing"] (sp_walks Ts) := by
  refine okD F sc_walks (fun vs H Q E h => ?_) (fun cdv A outer s H vs Q E hcd hcv hr h => ?_)
  · obtain ⟨vm, v, vc, u, rfl, _⟩ := h
    rfl
  · obtain ⟨vm, v, vc, u, rfl, ht, kk⟩ := h
    rw [hcode] at hcv
    subst hcv
    obtain ⟨Z, eZ⟩ : ∃ Z, Z = cxOf CX0 P w K mg base ["machine", "first", "counters", "showing", "asks"] "_law_walks" (defScope s_law_walks) f (.ref cc) A outer s H E := ⟨_, rfl⟩
    refine ⟨_, pr_cons (ps_set (i := 4) sc_walks.nd rfl (by first | exact Or.inl rfl | exact Or.inr rfl) (pe_lst (pa_cons (pe_lamS s_law_walks TB rfl mem only rfl rfl (by decide +kernel)) pa_nil)))
      (pr_cons (ps_expr (pe_bm PySem.F.plainAttrs_list PySem.F.slot_list_append PySem.F.type_list_append mt_append (pv 4) (pa_cons (pe_lamS s_law_walks TB rfl mem only rfl rfl (by decide +kernel)) pa_nil)))
      (pr_cons (ps_expr (pe_bm PySem.F.plainAttrs_list PySem.F.slot_list_append PySem.F.type_list_append mt_append (pv 4) (pa_cons (pe_lamS s_law_walks TB rfl mem only rfl rfl (by decide +kernel)) pa_nil)))
      (pr_ret (pv 4)))), ?_⟩
    refine lam_use ⟨ht, fun f0 H1 w1 l1 => ?_⟩
    refine ⟨(by show 1 ≤ sizeLine; decide), fun l hl => ?_⟩
    have nl : ∀ o, H l = some o → (∀ ps, o ≠ .tbl ps) → False := w1.fresh hl
    have a1 : As (cxOf CX0 P w K mg base ["machine", "first", "counters", "showing", "asks"] "_law_walks" (defScope s_law_walks) f (.ref cc) A outer s H E) s_law_walks Ts H l [f0] (upd H1 l (.lst [.ref f0])) := ⟨w1.same (same_new hl), nl, upd_same, fun j fl hj => by
      cases j with
      | zero =>
        cases hj
        exact l1.ext (ext_ofS (same_new hl))
      | succ j => cases hj⟩
    generalize upd H1 l (.lst [.ref f0]) = G1 at a1
    refine ⟨_, rfl, .inl ⟨rfl, _, SqL.of a1.hl⟩, lam_use ⟨a1.wt.tabs, fun f1 H2 w2 l2 => ⟨l, _, _, rfl, rfl, w2.ext _ _ a1.hl (fun _ z => nomatch z), (by show 1 < sizeLine; decide), ?_⟩⟩⟩
    have a2 := a1.snoc w2 l2
    generalize upd H2 l (HO.lst (List.map V.ref [f0] ++ [V.ref f1])) = G2 at a2 ⊢
    rw [show ([f0] : List Addr) ++ [f1] = [f0, f1] from rfl] at a2
    refine ⟨_, rfl, .inl ⟨rfl, _, SqL.of a2.hl⟩, lam_use ⟨a2.wt.tabs, fun f2 H3 w3 l3 => ⟨l, _, _, rfl, rfl, w3.ext _ _ a2.hl (fun _ z => nomatch z), (by show 2 < sizeLine; decide), ?_⟩⟩⟩
    have a3 := a2.snoc w3 l3
    generalize upd H3 l (HO.lst (List.map V.ref [f0, f1] ++ [V.ref f2])) = G3 at a3 ⊢
    rw [show ([f0, f1] : List Addr) ++ [f2] = [f0, f1, f2] from rfl] at a3
    refine ⟨_, rfl, fun DD up => ?_⟩
    exact kk _ _ l [f0, f1, f2] _ (a3.wt.same up) (up _ _ a3.hl) rfl rfl fun j fl hj => by
      match j, hj with
      | 0, hj =>
        obtain ⟨c', pm, ctv, q1, q2⟩ := a3.at_ 0 fl hj
        exact ⟨.n0, c', pm, ctv, rfl, rfl, DD, up _ _ q1, up _ _ q2⟩
      | 1, hj =>
        obtain ⟨c', pm, ctv, q1, q2⟩ := a3.at_ 1 fl hj
        exact ⟨.n1, c', pm, ctv, rfl, rfl, DD, up _ _ q1, up _ _ q2⟩
      | 2, hj =>
        obtain ⟨c', pm, ctv, q1, q2⟩ := a3.at_ 2 fl hj
        exact ⟨.n2, c', pm, ctv, rfl, rfl, DD, up _ _ q1, up _ _ q2⟩
      | j + 3, hj => simp at hj
end
end KT
/-! a statement leads from one word to the next; exchanges -/
namespace KT
open L2 PySem PySem.Spec PyProof.Rows Kx RZ TL

def HT {ι : Type} (X : Cx) (s : Stmt) (A B : ι → L2.St → Hp → Prop) : Prop := ∃ t : TS, PS X s t ∧ ∀ i (D : Ends) σ H, A i σ H → (∀ σ' H', B i σ' H' → D.nx σ' H') → t D σ H
def HTs {ι : Type} (X : Cx) (ss : List Stmt) (A B : ι → L2.St → Hp → Prop) : Prop := ∃ t : TS, PSs X ss t ∧ ∀ i (D : Ends) σ H, A i σ H → (∀ σ' H', B i σ' H' → D.nx σ' H') → t D σ H
section
variable {ι κ : Type} {X : Cx} {s : Stmt} {ss : List Stmt}
theorem HTs.cons {A B C : ι → L2.St → Hp → Prop} (h : HT X s A B) (g : HTs X ss B C) : HTs X (s :: ss) A C := by
  obtain ⟨t, h1, h2⟩ := h
  obtain ⟨u, g1, g2⟩ := g
  exact ⟨_, pss_cons h1 g1, fun n D σ H a k => h2 n { D with nx := u D } σ H a fun σ' H' b => g2 n D σ' H' b k⟩
theorem HTs.one {A B : ι → L2.St → Hp → Prop} (h : HT X s A B) : HTs X [s] A B := by
  obtain ⟨t, h1, h2⟩ := h
  exact ⟨_, pss_one h1, h2⟩
/-- the words told by other indices -/
theorem HT.by {A B : ι → L2.St → Hp → Prop} {A' B' : κ → L2.St → Hp → Prop} (h : HT X s A B) (k : ∀ j σ H, A' j σ H → ∃ i, A i σ H ∧ ∀ σ' H', B i σ' H' → B' j σ' H') : HT X s A' B' := by
  obtain ⟨t, h1, h2⟩ := h
  exact ⟨t, h1, fun j D σ H a kk => by
    obtain ⟨i, ai, bi⟩ := k j σ H a
    exact h2 i D σ H ai fun σ' H' b => kk σ' H' (bi σ' H' b)⟩
theorem HTs.by {A B : ι → L2.St → Hp → Prop} {A' B' : κ → L2.St → Hp → Prop} (h : HTs X ss A B) (k : ∀ j σ H, A' j σ H → ∃ i, A i σ H ∧ ∀ σ' H', B i σ' H' → B' j σ' H') : HTs X ss A' B' := by
  obtain ⟨t, h1, h2⟩ := h
  exact ⟨t, h1, fun j D σ H a kk => by
    obtain ⟨i, ai, bi⟩ := k j σ H a
    exact h2 i D σ H ai fun σ' H' b => kk σ' H' (bi σ' H' b)⟩
end
def nthS : List Stmt → Nat → Stmt
  | s :: _, 0 => s
  | _ :: r, n + 1 => nthS r n
  | [], _ => .Pass ⟨0, 0, 0, 0⟩
def inS : Stmt → List Stmt
  | .For _ _ b _ _ => b
  | _ => []
def valS : Stmt → Option Expr
  | .Assign _ e _ => some e
  | _ => none
def scopeS : Option Expr → Scope → Scope
  | some (.ListComp _ _ s _), _ => s
  | _, d => d
theorem iteF_ {b : Bool} {A B : Prop} (e : b = false) (h : B) : if b = true then A else B := by
  rw [e]
  exact iteF h
/-- a statement that may go back out of the def -/
def HTr {ι : Type} (X : Cx) (s : Stmt) (A B : ι → L2.St → Hp → Prop) (R : ι → V → Hp → Prop) : Prop := ∃ t : TS, PS X s t ∧ ∀ i (D : Ends) σ H, A i σ H → (∀ σ' H', B i σ' H' → D.nx σ' H') → (∀ v H', R i v H' → D.rt v H') → t D σ H
def HTrs {ι : Type} (X : Cx) (ss : List Stmt) (A B : ι → L2.St → Hp → Prop) (R : ι → V → Hp → Prop) : Prop := ∃ t : TS, PSs X ss t ∧ ∀ i (D : Ends) σ H, A i σ H → (∀ σ' H', B i σ' H' → D.nx σ' H') → (∀ v H', R i v H' → D.rt v H') → t D σ H
theorem HTrs.one {ι : Type} {X : Cx} {s : Stmt} {A B : ι → L2.St → Hp → Prop} {R : ι → V → Hp → Prop} (h : HTr X s A B R) : HTrs X [s] A B R := by
  obtain ⟨t, h1, h2⟩ := h
  exact ⟨_, pss_one h1, h2⟩
theorem HTrs.cons {ι : Type} {X : Cx} {s : Stmt} {ss : List Stmt} {A M B : ι → L2.St → Hp → Prop} {R : ι → V → Hp → Prop} (h : HT X s A M) (g : HTrs X ss M B R) : HTrs X (s :: ss) A B R := by
  obtain ⟨t, h1, h2⟩ := h
  obtain ⟨u, g1, g2⟩ := g
  exact ⟨_, pss_cons h1 g1, fun n D σ H a k c => h2 n { D with nx := u D } σ H a fun σ' H' b => g2 n D σ' H' b k c⟩
theorem HTrs.consR {ι : Type} {X : Cx} {s : Stmt} {ss : List Stmt} {A M B : ι → L2.St → Hp → Prop} {R : ι → V → Hp → Prop} (h : HTr X s A M R) (g : HTrs X ss M B R) : HTrs X (s :: ss) A B R := by
  obtain ⟨t, h1, h2⟩ := h
  obtain ⟨u, g1, g2⟩ := g
  exact ⟨_, pss_cons h1 g1, fun n D σ H a k c => h2 n { D with nx := u D } σ H a (fun σ' H' b => g2 n D σ' H' b k c) c⟩
/-- a statement that may go to the next turn, or back out -/
def HTc {ι : Type} (X : Cx) (s : Stmt) (A B C : ι → L2.St → Hp → Prop) : Prop := ∃ t : TS, PS X s t ∧ ∀ i (D : Ends) σ H, A i σ H → (∀ σ' H', B i σ' H' → D.nx σ' H') → (∀ σ' H', C i σ' H' → D.ct σ' H') → t D σ H
def HTcs {ι : Type} (X : Cx) (ss : List Stmt) (A B C : ι → L2.St → Hp → Prop) : Prop := ∃ t : TS, PSs X ss t ∧ ∀ i (D : Ends) σ H, A i σ H → (∀ σ' H', B i σ' H' → D.nx σ' H') → (∀ σ' H', C i σ' H' → D.ct σ' H') → t D σ H
theorem HTcs.of {ι : Type} {X : Cx} {ss : List Stmt} {A B C : ι → L2.St → Hp → Prop} (h : HTs X ss A B) : HTcs X ss A B C := by
  obtain ⟨t, h1, h2⟩ := h
  exact ⟨t, h1, fun i D σ H a k _ => h2 i D σ H a k⟩
theorem HTcs.cons {ι : Type} {X : Cx} {s : Stmt} {ss : List Stmt} {A M B C : ι → L2.St → Hp → Prop} (h : HT X s A M) (g : HTcs X ss M B C) : HTcs X (s :: ss) A B C := by
  obtain ⟨t, h1, h2⟩ := h
  obtain ⟨u, g1, g2⟩ := g
  exact ⟨_, pss_cons h1 g1, fun n D σ H a k c => h2 n { D with nx := u D } σ H a fun σ' H' b => g2 n D σ' H' b k c⟩
theorem HTcs.consC {ι : Type} {X : Cx} {s : Stmt} {ss : List Stmt} {A M B C : ι → L2.St → Hp → Prop} (h : HTc X s A M C) (g : HTcs X ss M B C) : HTcs X (s :: ss) A B C := by
  obtain ⟨t, h1, h2⟩ := h
  obtain ⟨u, g1, g2⟩ := g
  exact ⟨_, pss_cons h1 g1, fun n D σ H a k c => h2 n { D with nx := u D } σ H a (fun σ' H' b => g2 n D σ' H' b k c) c⟩

/-- a statement that may break a loop -/
def HTb {ι : Type} (X : Cx) (s : Stmt) (A B C : ι → L2.St → Hp → Prop) : Prop := ∃ t : TS, PS X s t ∧ ∀ i (D : Ends) σ H, A i σ H → (∀ σ' H', B i σ' H' → D.nx σ' H') → (∀ σ' H', C i σ' H' → D.bk σ' H') → t D σ H
/-- the same index before and behind -/
theorem HT.lift {ι κ : Type} {X : Cx} {s : Stmt} {A B B' : ι → L2.St → Hp → Prop} (f : ι → κ) (h : HT X s A B) (kb : ∀ g σ H, B g σ H → ∃ g1 : ι, f g1 = f g ∧ B' g1 σ H) : HT (ι := κ) X s (fun b σ H => ∃ g : ι, f g = b ∧ A g σ H) (fun b σ H => ∃ g : ι, f g = b ∧ B' g σ H) := by
  obtain ⟨t, h1, h2⟩ := h
  refine ⟨t, h1, ?_⟩
  rintro b D σ H ⟨g, rfl, a⟩ k
  exact h2 g D σ H a fun σ' H' q => k σ' H' (kb g σ' H' q)
theorem HTr.lift {ι κ : Type} {X : Cx} {s : Stmt} {A B B' : ι → L2.St → Hp → Prop} (f : ι → κ) {R : κ → V → Hp → Prop} (h : HTr X s A B fun g => R (f g)) (kb : ∀ g σ H, B g σ H → ∃ g1 : ι, f g1 = f g ∧ B' g1 σ H) : HTr (ι := κ) X s (fun b σ H => ∃ g : ι, f g = b ∧ A g σ H) (fun b σ H => ∃ g : ι, f g = b ∧ B' g σ H) R := by
  obtain ⟨t, h1, h2⟩ := h
  refine ⟨t, h1, ?_⟩
  rintro b D σ H ⟨g, rfl, a⟩ k r
  exact h2 g D σ H a (fun σ' H' q => k σ' H' (kb g σ' H' q)) r
end KT
/-! the law: its words -/
namespace KT
open L2 PySem PySem.Spec PyProof.Rows Kx RZ TL
section
variable {K : PySem.W.Frag} {Ts : List (Addr × Str)} {b a : Addr} {H H' H2 : Hp} {t : Int × Int} {xs : List V} {C c : Addr} {n : Nat} {ts : List (List Int)}
theorem tabs_put {us vs : List V} (ha : H a = some (.lst us)) (h : LamX.Tabs Ts H) : LamX.Tabs Ts (upd H a (.lst vs)) := fun p hp => by
  obtain ⟨ps, h1, h2, h3⟩ := h p hp
  refine ⟨ps, by rw [upd_ne (ne_of h1 ha fun z => nomatch z)]; exact h1, h2, fun pos cv hcv => ?_⟩
  obtain ⟨c, e1, e2⟩ := h3 pos cv hcv
  refine ⟨c, e1, ?_⟩
  rw [upd_ne (ne_of e2 ha fun z => ?_)]
  · exact e2
  · unfold LamX.CodeO at z
    cases z
end
section
variable {K : PySem.W.Frag} {Ts : List (Addr × Str)} {b a : Addr} {H H' H2 : Hp} {t : Int × Int} {xs : List V} {C c : Addr} {n : Nat} {ts : List (List Int)}
theorem tabs_mv (m : Mv b H H') (hb : H b = some (bx t)) (h : LamX.Tabs Ts H) : LamX.Tabs Ts H' := fun p hp => by
  obtain ⟨ps, h1, h2, h3⟩ := h p hp
  refine ⟨ps, m.1 _ _ (ne_of h1 hb (fun z => nomatch z)) h1, h2, fun pos cv hcv => ?_⟩
  obtain ⟨c, e1, e2⟩ := h3 pos cv hcv
  refine ⟨c, e1, m.1 _ _ (ne_of e2 hb (fun z => ?_)) e2⟩
  unfold LamX.CodeO bx at z
  cases z
theorem ext_mc (e : LamX.ExtN H H') (h : McAt K C H c n ts) : McAt K C H' c n ts := by
  obtain ⟨ok, dx, p, ps, h1, h2, h3⟩ := h
  exact ⟨ok, dx, p, ps, e _ _ h1 (fun _ z => nomatch z), ext_sqT e h2, h3.imp fun _ _ q => ext_sqT e q⟩
theorem ext_lst {us : List V} (e : LamX.ExtN H H') (h : H a = some (.lst us)) : H' a = some (.lst us) := e _ _ h fun _ z => nomatch z
end
theorem ext_cn {K : PySem.W.Frag} {C c : Addr} {H H' : Hp} {rs es : List Int} (e : LamX.ExtN H H') (h : CnAt K C H c rs es) : CnAt K C H' c rs es := by
  obtain ⟨ok, dx, p, q, h1, h2, h3⟩ := h
  exact ⟨ok, dx, p, q, e _ _ h1 (fun _ z => nomatch z), ext_sqT e h2, ext_sqT e h3⟩
theorem mv_cn {K : PySem.W.Frag} {b C c : Addr} {H H' : Hp} {t : Int × Int} {rs es : List Int} (m : Mv b H H') (hb : H b = some (bx t)) (h : CnAt K C H c rs es) : CnAt K C H' c rs es := by
  obtain ⟨ok, dx, p, q, h1, h2, h3⟩ := h
  exact ⟨ok, dx, p, q, m.1 _ _ (ne_of h1 hb fun z => nomatch z) h1, m.sqT hb h2, m.sqT hb h3⟩
theorem sclaw : FnScope ["script", "k", "box", "states", "tables", "machine", "first", "deeds", "rounds", "good", "other", "bad", "ask", "due", "rests", "counters", "at", "showing", "value", "spot", "odd", "deed", "state"] ["script"] (defScope s_law) := ⟨rfl, rfl, rfl, by decide +kernel, rfl, by decide +kernel, by decide +kernel⟩
abbrev XL (P : Program) (w : World) (K : PySem.W.Frag) (mg : Str → Option Value) (base : Heap) (f : Addr) (cdv : Value) (A : Around) (outer : List Env) (st : Shared) (H : Hp) (E : XK) : Cx := (cxOf CX0 P w K mg base ["script", "k", "box", "states", "tables", "machine", "first", "deeds", "rounds", "good", "other", "bad", "ask", "due", "rests", "counters", "at", "showing", "value", "spot", "odd", "deed", "state"] "law" (defScope s_law) f cdv A outer st H E).nox
abbrev lawS : List Stmt := inS (nthS (defBody s_law) 0)
structure FnL (P : Program) (w : World) (K : PySem.W.Frag) (mg : Str → Option Value) (base : Heap) (Ts : List (Addr × Str)) : Prop where
  box : Cal P w K mg base CX0 1 "_law_box" ["script", "k"] (spBox K)
  take : Cal P w K mg base CX0 1 "_law_take" ["box", "many"] spTake
  pick : Cal P w K mg base CX0 2 "_law_pick" ["box", "some"] (spPick K)
  tables : Cal P w K mg base CX0 4 "_law_tables" ["box", "most", "deeds"] (spTables K)
  forgets : Cal P w K mg base CX0 2 "_law_forgets" ["tables", "first"] (spLForg K)
  asks : Cal P w K mg base CX0 1 "_law_asks" ["machine", "first", "counters", "showing", "value"] (sp_asks Ts)
  walks : Cal P w K mg base CX0 1 "_law_walks" ["machine", "first", "counters", "showing"] (sp_walks Ts)
structure Lz (P : Program) (w : World) (K : PySem.W.Frag) (mg : Str → Option Value) (base : Heap) (f cc : Addr) (A : Around) (outer : List Env) (st : Shared) (H0 : Hp) (E : XK) (a : Ad) (C CM cW t0 : Addr) (Ts : List (Addr × Str)) (Pt : Addr) (scn : List Int) : Prop where
  T : Mg mg
  TC : ClsC K mg C
  TM : ClsM K mg CM
  M : Mks P w K mg base a C CM t0
  D : Hd K mg a C CM cW
  F : FnS P w K mg base a C CM
  O : FnL P w K mg base Ts
  hear : CalG P w K mg base CX0 14 "_law_heard" ["ask"] (fun vs H Q E => spHear K a C dlA (tbA K a C CM) vs H Q E ∨ spHear K a C dlW (tbW K a C CM) vs H Q E)
  hf : ∃ (gH : Addr) (fdH : FuncData), FnP K "_law_heard" s_law_heard gH fdH ∧ mg "_law_heard" = some (.ref gH) ∧ Binds K fdH ["ask"] []
  lone : Lone (A.deeper (envOfC "law" (defScope s_law) st.heap.objs.size f (.ref cc)))
  hr : Room 16 (A.deeper (envOfC "law" (defScope s_law) st.heap.objs.size f (.ref cc)))
  hl : scn.length ≤ 63
  TB : LamX.TabB base mg cc Pt
  mem : (Pt, (Str.ofString "law" ++ ".<locals>.") ++ "<lambda>") ∈ Ts
  only : ∀ p ∈ Ts, p.1 = Pt → p.2 = (Str.ofString "law" ++ ".<locals>.") ++ "<lambda>"
structure Gl where
  b : Addr
  n : Nat
  ta : Addr
  ps : List V
  ts : List (List Int)
  s : Int
  m : Addr
  ro : Addr
  rs : List Int
  cg : Addr
  co : Addr
  qs : List Int
  bd : V
/-- what is no state -/
def BadV (K : PySem.W.Frag) (H : Hp) (n : Nat) (v : V) : Prop := v ∈ ([V.int (n : Nat), .int (-1), .non, .bl true, .str "0"] : List V) ∨ ∃ p, v = .ref p ∧ SqT K H p [.int 0]
theorem BadV.same {K : PySem.W.Frag} {H H' : Hp} {n : Nat} {v : V} (h : BadV K H n v) (e : Same H H') : BadV K H' n v := h.imp id fun ⟨p, q, r⟩ => ⟨p, q, sqT_same e r⟩
theorem BadV.ext {K : PySem.W.Frag} {H H' : Hp} {n : Nat} {v : V} (h : BadV K H n v) (e : LamX.ExtN H H') : BadV K H' n v := h.imp id fun ⟨p, q, r⟩ => ⟨p, q, ext_sqT e r⟩
theorem BadV.mv {K : PySem.W.Frag} {b : Addr} {H H' : Hp} {n : Nat} {v : V} {t : Int × Int} (h : BadV K H n v) (m : Mv b H H') (hb : H b = some (bx t)) : BadV K H' n v := h.imp id fun ⟨p, q, r⟩ => ⟨p, q, m.sqT hb r⟩
theorem hs_mv {K : PySem.W.Frag} {sc b : Addr} {H H' : Hp} {xs : List V} (m : Mv b H H') (h : SqL K H sc xs) (sb : sc = b → ∀ H' : Hp, SqL K H' sc xs) : SqL K H' sc xs := by
  by_cases e : sc = b
  · exact sb e _
  · exact m.sqL e h
theorem sc_not {K : PySem.W.Frag} {sc b : Addr} {H : Hp} {xs : List V} (h : SqL K H sc xs) (nb : H b = none) : sc = b → ∀ H' : Hp, SqL K H' sc xs := fun z => by
  subst z
  rcases h with (h | ⟨z, h⟩) | h
  · rw [nb] at h
    cases h
  · rw [nb] at h
    cases h
  · exact fun H' => .inr h
structure E0 (K : PySem.W.Frag) (C CM : Addr) (Ts : List (Addr × Str)) (sc : Addr) (scn : List Int) (H : Hp) : Prop where
  tabs : LamX.Tabs Ts H
  hs : SqL K H sc (scn.map V.int)
theorem E0.same {K : PySem.W.Frag} {C CM : Addr} {Ts : List (Addr × Str)} {sc : Addr} {scn : List Int} {H H' : Hp} (h : E0 K C CM Ts sc scn H) (e : Same H H') : E0 K C CM Ts sc scn H' where
  tabs := h.tabs.ext e
  hs := sqL_same e h.hs
structure E1 (K : PySem.W.Frag) (C CM : Addr) (Ts : List (Addr × Str)) (sc : Addr) (scn : List Int) (g : Gl) (H : Hp) : Prop where
  tabs : LamX.Tabs Ts H
  hs : SqL K H sc (scn.map V.int)
  box : ∃ t, H g.b = some (bx t)
  sb : sc = g.b → ∀ H' : Hp, SqL K H' sc (scn.map V.int)
theorem E1.same {K : PySem.W.Frag} {C CM : Addr} {Ts : List (Addr × Str)} {sc : Addr} {scn : List Int} {H H' : Hp} {g : Gl} (h : E1 K C CM Ts sc scn g H) (e : Same H H') : E1 K C CM Ts sc scn g H' where
  tabs := h.tabs.ext e
  hs := sqL_same e h.hs
  box := h.box.elim fun t q => ⟨t, e _ _ q⟩
  sb := h.sb
theorem E1.mv {K : PySem.W.Frag} {C CM : Addr} {Ts : List (Addr × Str)} {sc : Addr} {scn : List Int} {H H' : Hp} {g : Gl} (h : E1 K C CM Ts sc scn g H) (m : Mv g.b H H') : E1 K C CM Ts sc scn g H' := by
  obtain ⟨t, hb⟩ := h.box
  exact {
    tabs := tabs_mv m hb h.tabs,
    hs := hs_mv m h.hs h.sb,
    box := m.2,
    sb := h.sb }
structure E2 (K : PySem.W.Frag) (C CM : Addr) (Ts : List (Addr × Str)) (sc : Addr) (scn : List Int) (g : Gl) (H : Hp) : Prop where
  tabs : LamX.Tabs Ts H
  hs : SqL K H sc (scn.map V.int)
  box : ∃ t, H g.b = some (bx t)
  sb : sc = g.b → ∀ H' : Hp, SqL K H' sc (scn.map V.int)
  n2 : 2 ≤ g.n
  n6 : g.n ≤ 6
theorem E2.same {K : PySem.W.Frag} {C CM : Addr} {Ts : List (Addr × Str)} {sc : Addr} {scn : List Int} {H H' : Hp} {g : Gl} (h : E2 K C CM Ts sc scn g H) (e : Same H H') : E2 K C CM Ts sc scn g H' where
  tabs := h.tabs.ext e
  hs := sqL_same e h.hs
  box := h.box.elim fun t q => ⟨t, e _ _ q⟩
  sb := h.sb
  n2 := h.n2
  n6 := h.n6
theorem E2.mv {K : PySem.W.Frag} {C CM : Addr} {Ts : List (Addr × Str)} {sc : Addr} {scn : List Int} {H H' : Hp} {g : Gl} (h : E2 K C CM Ts sc scn g H) (m : Mv g.b H H') : E2 K C CM Ts sc scn g H' := by
  obtain ⟨t, hb⟩ := h.box
  exact {
    tabs := tabs_mv m hb h.tabs,
    hs := hs_mv m h.hs h.sb,
    box := m.2,
    sb := h.sb,
    n2 := h.n2,
    n6 := h.n6 }
structure E3 (K : PySem.W.Frag) (C CM : Addr) (Ts : List (Addr × Str)) (sc : Addr) (scn : List Int) (g : Gl) (H : Hp) : Prop where
  tabs : LamX.Tabs Ts H
  hs : SqL K H sc (scn.map V.int)
  box : ∃ t, H g.b = some (bx t)
  sb : sc = g.b → ∀ H' : Hp, SqL K H' sc (scn.map V.int)
  n2 : 2 ≤ g.n
  n6 : g.n ≤ 6
  ta : SqT K H g.ta g.ps
  rows : RowsBy (SqT K H) g.ps g.ts
  ok : Mok g.n g.ts
theorem E3.same {K : PySem.W.Frag} {C CM : Addr} {Ts : List (Addr × Str)} {sc : Addr} {scn : List Int} {H H' : Hp} {g : Gl} (h : E3 K C CM Ts sc scn g H) (e : Same H H') : E3 K C CM Ts sc scn g H' where
  tabs := h.tabs.ext e
  hs := sqL_same e h.hs
  box := h.box.elim fun t q => ⟨t, e _ _ q⟩
  sb := h.sb
  n2 := h.n2
  n6 := h.n6
  ta := sqT_same e h.ta
  rows := h.rows.imp fun _ _ z => sqT_same e z
  ok := h.ok
theorem E3.mv {K : PySem.W.Frag} {C CM : Addr} {Ts : List (Addr × Str)} {sc : Addr} {scn : List Int} {H H' : Hp} {g : Gl} (h : E3 K C CM Ts sc scn g H) (m : Mv g.b H H') : E3 K C CM Ts sc scn g H' := by
  obtain ⟨t, hb⟩ := h.box
  exact {
    tabs := tabs_mv m hb h.tabs,
    hs := hs_mv m h.hs h.sb,
    box := m.2,
    sb := h.sb,
    n2 := h.n2,
    n6 := h.n6,
    ta := m.sqT hb h.ta,
    rows := h.rows.imp fun _ _ z => m.sqT hb z,
    ok := h.ok }
structure E4 (K : PySem.W.Frag) (C CM : Addr) (Ts : List (Addr × Str)) (sc : Addr) (scn : List Int) (g : Gl) (H : Hp) : Prop where
  tabs : LamX.Tabs Ts H
  hs : SqL K H sc (scn.map V.int)
  box : ∃ t, H g.b = some (bx t)
  sb : sc = g.b → ∀ H' : Hp, SqL K H' sc (scn.map V.int)
  n2 : 2 ≤ g.n
  n6 : g.n ≤ 6
  ta : SqT K H g.ta g.ps
  rows : RowsBy (SqT K H) g.ps g.ts
  ok : Mok g.n g.ts
  mac : McAt K CM H g.m g.n g.ts
  s0 : 0 ≤ g.s
  s1 : g.s < (g.n : Int)
theorem E4.same {K : PySem.W.Frag} {C CM : Addr} {Ts : List (Addr × Str)} {sc : Addr} {scn : List Int} {H H' : Hp} {g : Gl} (h : E4 K C CM Ts sc scn g H) (e : Same H H') : E4 K C CM Ts sc scn g H' where
  tabs := h.tabs.ext e
  hs := sqL_same e h.hs
  box := h.box.elim fun t q => ⟨t, e _ _ q⟩
  sb := h.sb
  n2 := h.n2
  n6 := h.n6
  ta := sqT_same e h.ta
  rows := h.rows.imp fun _ _ z => sqT_same e z
  ok := h.ok
  mac := h.mac.same e
  s0 := h.s0
  s1 := h.s1
theorem E4.mv {K : PySem.W.Frag} {C CM : Addr} {Ts : List (Addr × Str)} {sc : Addr} {scn : List Int} {H H' : Hp} {g : Gl} (h : E4 K C CM Ts sc scn g H) (m : Mv g.b H H') : E4 K C CM Ts sc scn g H' := by
  obtain ⟨t, hb⟩ := h.box
  exact {
    tabs := tabs_mv m hb h.tabs,
    hs := hs_mv m h.hs h.sb,
    box := m.2,
    sb := h.sb,
    n2 := h.n2,
    n6 := h.n6,
    ta := m.sqT hb h.ta,
    rows := h.rows.imp fun _ _ z => m.sqT hb z,
    ok := h.ok,
    mac := m.mc hb h.mac,
    s0 := h.s0,
    s1 := h.s1 }
structure E5 (K : PySem.W.Frag) (C CM : Addr) (Ts : List (Addr × Str)) (sc : Addr) (scn : List Int) (g : Gl) (H : Hp) : Prop where
  tabs : LamX.Tabs Ts H
  hs : SqL K H sc (scn.map V.int)
  box : ∃ t, H g.b = some (bx t)
  sb : sc = g.b → ∀ H' : Hp, SqL K H' sc (scn.map V.int)
  n2 : 2 ≤ g.n
  n6 : g.n ≤ 6
  ta : SqT K H g.ta g.ps
  rows : RowsBy (SqT K H) g.ps g.ts
  ok : Mok g.n g.ts
  mac : McAt K CM H g.m g.n g.ts
  s0 : 0 ≤ g.s
  s1 : g.s < (g.n : Int)
  rob : g.ro ≠ g.b
  ro : H g.ro = some (.lst (g.rs.map V.int))
  lr : g.rs.length = g.ts.length
  r0 : ∀ r ∈ g.rs, 0 ≤ r ∧ r ≤ 4
theorem E5.same {K : PySem.W.Frag} {C CM : Addr} {Ts : List (Addr × Str)} {sc : Addr} {scn : List Int} {H H' : Hp} {g : Gl} (h : E5 K C CM Ts sc scn g H) (e : Same H H') : E5 K C CM Ts sc scn g H' where
  tabs := h.tabs.ext e
  hs := sqL_same e h.hs
  box := h.box.elim fun t q => ⟨t, e _ _ q⟩
  sb := h.sb
  n2 := h.n2
  n6 := h.n6
  ta := sqT_same e h.ta
  rows := h.rows.imp fun _ _ z => sqT_same e z
  ok := h.ok
  mac := h.mac.same e
  s0 := h.s0
  s1 := h.s1
  rob := h.rob
  ro := e _ _ h.ro
  lr := h.lr
  r0 := h.r0
theorem E5.mv {K : PySem.W.Frag} {C CM : Addr} {Ts : List (Addr × Str)} {sc : Addr} {scn : List Int} {H H' : Hp} {g : Gl} (h : E5 K C CM Ts sc scn g H) (m : Mv g.b H H') : E5 K C CM Ts sc scn g H' := by
  obtain ⟨t, hb⟩ := h.box
  exact {
    tabs := tabs_mv m hb h.tabs,
    hs := hs_mv m h.hs h.sb,
    box := m.2,
    sb := h.sb,
    n2 := h.n2,
    n6 := h.n6,
    ta := m.sqT hb h.ta,
    rows := h.rows.imp fun _ _ z => m.sqT hb z,
    ok := h.ok,
    mac := m.mc hb h.mac,
    s0 := h.s0,
    s1 := h.s1,
    rob := h.rob,
    ro := m.1 _ _ h.rob h.ro,
    lr := h.lr,
    r0 := h.r0 }
structure E6 (K : PySem.W.Frag) (C CM : Addr) (Ts : List (Addr × Str)) (sc : Addr) (scn : List Int) (g : Gl) (H : Hp) : Prop where
  tabs : LamX.Tabs Ts H
  hs : SqL K H sc (scn.map V.int)
  box : ∃ t, H g.b = some (bx t)
  sb : sc = g.b → ∀ H' : Hp, SqL K H' sc (scn.map V.int)
  n2 : 2 ≤ g.n
  n6 : g.n ≤ 6
  ta : SqT K H g.ta g.ps
  rows : RowsBy (SqT K H) g.ps g.ts
  ok : Mok g.n g.ts
  mac : McAt K CM H g.m g.n g.ts
  s0 : 0 ≤ g.s
  s1 : g.s < (g.n : Int)
  rob : g.ro ≠ g.b
  ro : H g.ro = some (.lst (g.rs.map V.int))
  lr : g.rs.length = g.ts.length
  r0 : ∀ r ∈ g.rs, 0 ≤ r ∧ r ≤ 4
  cg : CnAt K C H g.cg g.rs (List.replicate g.rs.length 0)
  co : CnAt K C H g.co g.qs (List.replicate g.qs.length 0)
  ne : g.qs.length ≠ g.ts.length
theorem E6.same {K : PySem.W.Frag} {C CM : Addr} {Ts : List (Addr × Str)} {sc : Addr} {scn : List Int} {H H' : Hp} {g : Gl} (h : E6 K C CM Ts sc scn g H) (e : Same H H') : E6 K C CM Ts sc scn g H' where
  tabs := h.tabs.ext e
  hs := sqL_same e h.hs
  box := h.box.elim fun t q => ⟨t, e _ _ q⟩
  sb := h.sb
  n2 := h.n2
  n6 := h.n6
  ta := sqT_same e h.ta
  rows := h.rows.imp fun _ _ z => sqT_same e z
  ok := h.ok
  mac := h.mac.same e
  s0 := h.s0
  s1 := h.s1
  rob := h.rob
  ro := e _ _ h.ro
  lr := h.lr
  r0 := h.r0
  cg := h.cg.same e
  co := h.co.same e
  ne := h.ne
theorem E6.mv {K : PySem.W.Frag} {C CM : Addr} {Ts : List (Addr × Str)} {sc : Addr} {scn : List Int} {H H' : Hp} {g : Gl} (h : E6 K C CM Ts sc scn g H) (m : Mv g.b H H') : E6 K C CM Ts sc scn g H' := by
  obtain ⟨t, hb⟩ := h.box
  exact {
    tabs := tabs_mv m hb h.tabs,
    hs := hs_mv m h.hs h.sb,
    box := m.2,
    sb := h.sb,
    n2 := h.n2,
    n6 := h.n6,
    ta := m.sqT hb h.ta,
    rows := h.rows.imp fun _ _ z => m.sqT hb z,
    ok := h.ok,
    mac := m.mc hb h.mac,
    s0 := h.s0,
    s1 := h.s1,
    rob := h.rob,
    ro := m.1 _ _ h.rob h.ro,
    lr := h.lr,
    r0 := h.r0,
    cg := mv_cn m hb h.cg,
    co := mv_cn m hb h.co,
    ne := h.ne }
structure E7 (K : PySem.W.Frag) (C CM : Addr) (Ts : List (Addr × Str)) (sc : Addr) (scn : List Int) (g : Gl) (H : Hp) : Prop where
  tabs : LamX.Tabs Ts H
  hs : SqL K H sc (scn.map V.int)
  box : ∃ t, H g.b = some (bx t)
  sb : sc = g.b → ∀ H' : Hp, SqL K H' sc (scn.map V.int)
  n2 : 2 ≤ g.n
  n6 : g.n ≤ 6
  ta : SqT K H g.ta g.ps
  rows : RowsBy (SqT K H) g.ps g.ts
  ok : Mok g.n g.ts
  mac : McAt K CM H g.m g.n g.ts
  s0 : 0 ≤ g.s
  s1 : g.s < (g.n : Int)
  rob : g.ro ≠ g.b
  ro : H g.ro = some (.lst (g.rs.map V.int))
  lr : g.rs.length = g.ts.length
  r0 : ∀ r ∈ g.rs, 0 ≤ r ∧ r ≤ 4
  cg : CnAt K C H g.cg g.rs (List.replicate g.rs.length 0)
  co : CnAt K C H g.co g.qs (List.replicate g.qs.length 0)
  ne : g.qs.length ≠ g.ts.length
  bd : BadV K H g.n g.bd
theorem E7.same {K : PySem.W.Frag} {C CM : Addr} {Ts : List (Addr × Str)} {sc : Addr} {scn : List Int} {H H' : Hp} {g : Gl} (h : E7 K C CM Ts sc scn g H) (e : Same H H') : E7 K C CM Ts sc scn g H' where
  tabs := h.tabs.ext e
  hs := sqL_same e h.hs
  box := h.box.elim fun t q => ⟨t, e _ _ q⟩
  sb := h.sb
  n2 := h.n2
  n6 := h.n6
  ta := sqT_same e h.ta
  rows := h.rows.imp fun _ _ z => sqT_same e z
  ok := h.ok
  mac := h.mac.same e
  s0 := h.s0
  s1 := h.s1
  rob := h.rob
  ro := e _ _ h.ro
  lr := h.lr
  r0 := h.r0
  cg := h.cg.same e
  co := h.co.same e
  ne := h.ne
  bd := h.bd.same e
theorem E7.mv {K : PySem.W.Frag} {C CM : Addr} {Ts : List (Addr × Str)} {sc : Addr} {scn : List Int} {H H' : Hp} {g : Gl} (h : E7 K C CM Ts sc scn g H) (m : Mv g.b H H') : E7 K C CM Ts sc scn g H' := by
  obtain ⟨t, hb⟩ := h.box
  exact {
    tabs := tabs_mv m hb h.tabs,
    hs := hs_mv m h.hs h.sb,
    box := m.2,
    sb := h.sb,
    n2 := h.n2,
    n6 := h.n6,
    ta := m.sqT hb h.ta,
    rows := h.rows.imp fun _ _ z => m.sqT hb z,
    ok := h.ok,
    mac := m.mc hb h.mac,
    s0 := h.s0,
    s1 := h.s1,
    rob := h.rob,
    ro := m.1 _ _ h.rob h.ro,
    lr := h.lr,
    r0 := h.r0,
    cg := mv_cn m hb h.cg,
    co := mv_cn m hb h.co,
    ne := h.ne,
    bd := h.bd.mv m hb }
theorem E7.ext {K : PySem.W.Frag} {C CM : Addr} {Ts : List (Addr × Str)} {sc : Addr} {scn : List Int} {H H' : Hp} {g : Gl} (h : E7 K C CM Ts sc scn g H) (e : LamX.ExtN H H') (tb : LamX.Tabs Ts H') : E7 K C CM Ts sc scn g H' where
  tabs := tb
  hs := ext_sqL e h.hs
  box := h.box.elim fun t q => ⟨t, ext_lst e q⟩
  sb := h.sb
  n2 := h.n2
  n6 := h.n6
  ta := ext_sqT e h.ta
  rows := h.rows.imp fun _ _ z => ext_sqT e z
  ok := h.ok
  mac := ext_mc e h.mac
  s0 := h.s0
  s1 := h.s1
  rob := h.rob
  ro := ext_lst e h.ro
  lr := h.lr
  r0 := h.r0
  cg := ext_cn e h.cg
  co := ext_cn e h.co
  ne := h.ne
  bd := h.bd.ext e
end KT
/-! the law, to counters -/
namespace KT
open L2 PySem PySem.Spec PyProof.Rows Kx RZ TL
theorem call_tupleK {X : Cx} {K : PySem.W.Frag} (hK : X.K = K := by rfl) : CallR X (.type "tuple") (fun xs H Q => ∃ p ys, xs = [.ref p] ∧ ((SqL K H p ys ∧ ∀ l, H l = none → Q (.ref l) (upd H l (.tup ys))) ∨ (SqT K H p ys ∧ Q (.ref p) H))) := by
  subst hK
  exact call_tuple_of
theorem snoc_rng {n : Nat} {zs : List Int} {x : Int} (h : ∀ y ∈ zs, 0 ≤ y ∧ y < (n : Int)) (x0 : 0 ≤ x) (x1 : x < (n : Int)) : ∀ y ∈ zs ++ [x], 0 ≤ y ∧ y < (n : Int) := fun y hy => by
  rcases List.mem_append.mp hy with h' | h'
  · exact h y h'
  · rw [List.mem_singleton.mp h']
    exact ⟨x0, x1⟩
theorem cok_z {rs : List Int} (l1 : 1 ≤ rs.length) (l4 : rs.length ≤ 4) (h : ∀ r ∈ rs, 0 ≤ r ∧ r ≤ 60) : Cok rs (List.replicate rs.length 0) := ⟨l1, l4, by rw [List.length_replicate], h, fun e he => by
  rw [(List.mem_replicate.mp he).2]
  omega⟩
section
variable {P : Program} {w : World} {K : PySem.W.Frag} {mg : Str → Option Value} {base : Heap} {f cc : Addr} {A : Around} {outer : List Env} {st : Shared} {H0 : Hp} {E : XK} {a : Ad} {C CM cW t0 Pt : Addr} {Ts : List (Addr × Str)} {sc : Addr} {scn : List Int}
variable (Z : Lz P w K mg base f cc A outer st H0 E a C CM cW t0 Ts Pt scn)
include Z
theorem q0 : HT (ι := Nat) (XL P w K mg base f (.ref cc) A outer st H0 E) (nthS lawS 0) (fun k σ H => ∃ (x2 x3 x4 x5 x6 x7 x8 x9 x10 x11 x12 x13 x14 x15 x16 x17 x18 x19 x20 : Option V), σ = [some (.ref sc), some (.int (k : Nat)), x2, x3, x4, x5, x6, x7, x8, x9, x10, x11, x12, x13, x14, x15, x16, x17, x18, x19, x20, none, none] ∧ E0 K C CM Ts sc scn H) (fun k σ H => ∃ (g : Gl) (x3 x4 x5 x6 x7 x8 x9 x10 x11 x12 x13 x14 x15 x16 x17 x18 x19 x20 : Option V), σ = [some (.ref sc), some (.int (k : Nat)), some (.ref g.b), x3, x4, x5, x6, x7, x8, x9, x10, x11, x12, x13, x14, x15, x16, x17, x18, x19, x20, none, none] ∧ E1 K C CM Ts sc scn g H) := by
  obtain ⟨T, TC, TM, M, D, F, O, hear, hf, lone, hr, hl, TB, mem, only⟩ := Z
  refine ⟨_, (ps_set (i := 2) sclaw.nd rfl (by first | exact Or.inl rfl | exact Or.inr rfl) (pe_callC O.box hr pass0 (pa_cons (pv 0) (pa_cons (pv 1) pa_nil)))), ?_⟩
  rintro k Dd σ H ⟨x2, x3, x4, x5, x6, x7, x8, x9, x10, x11, x12, x13, x14, x15, x16, x17, x18, x19, x20, rfl, j⟩ kk
  refine ⟨_, rfl, _, rfl, sc, scn, k, rfl, j.hs, hl, fun H1 b t e1 nb hb => ?_⟩
  have j1 := j.same e1
  exact kk _ _ ⟨⟨b, 0, b, [], [], 0, b, b, [], b, b, [], .non⟩, _, _, _, _, _, _, _, _, _, _, _, _, _, _, _, _, _, _, rfl, { tabs := j1.tabs, hs := j1.hs, box := ⟨t, hb⟩, sb := sc_not j.hs nb }⟩
theorem q1 : HT (ι := Nat) (XL P w K mg base f (.ref cc) A outer st H0 E) (nthS lawS 1) (fun k σ H => ∃ (g : Gl) (x3 x4 x5 x6 x7 x8 x9 x10 x11 x12 x13 x14 x15 x16 x17 x18 x19 x20 : Option V), σ = [some (.ref sc), some (.int (k : Nat)), some (.ref g.b), x3, x4, x5, x6, x7, x8, x9, x10, x11, x12, x13, x14, x15, x16, x17, x18, x19, x20, none, none] ∧ E1 K C CM Ts sc scn g H) (fun k σ H => ∃ (g : Gl) (x4 x5 x6 x7 x8 x9 x10 x11 x12 x13 x14 x15 x16 x17 x18 x19 x20 : Option V), σ = [some (.ref sc), some (.int (k : Nat)), some (.ref g.b), some (.int (g.n : Nat)), x4, x5, x6, x7, x8, x9, x10, x11, x12, x13, x14, x15, x16, x17, x18, x19, x20, none, none] ∧ E2 K C CM Ts sc scn g H) := by
  obtain ⟨T, TC, TM, M, D, F, O, hear, hf, lone, hr, hl, TB, mem, only⟩ := Z
  refine ⟨_, (ps_set (i := 3) sclaw.nd rfl (by first | exact Or.inl rfl | exact Or.inr rfl) (pe_op op_add pe_int (pe_callC O.take hr pass0 (pa_cons (pv 2) (pa_cons pe_int pa_nil))))), ?_⟩
  rintro k Dd σ H ⟨g, x3, x4, x5, x6, x7, x8, x9, x10, x11, x12, x13, x14, x15, x16, x17, x18, x19, x20, rfl, j⟩ kk
  obtain ⟨t, hb⟩ := j.box
  refine ⟨_, rfl, g.b, t, 5, rfl, hb, by decide, by decide, fun r H1 r0 r1 m1 => ?_⟩
  have j1 := j.mv m1
  obtain ⟨r, rfl⟩ : ∃ x : Nat, r = (x : Int) := ⟨r.toNat, by omega⟩
  refine ⟨_, _, rfl, rfl, ?_⟩
  show gName 3 (V.int ((2 : Int) + ((r : Nat) : Int))) _ _ _
  rw [show (2 : Int) + (r : Nat) = ((2 + r : Nat) : Int) from by omega]
  exact kk _ _ ⟨{ g with n := 2 + r }, _, _, _, _, _, _, _, _, _, _, _, _, _, _, _, _, _, rfl, { tabs := j1.tabs, hs := j1.hs, box := j1.box, sb := j1.sb, n2 := (show 2 ≤ 2 + r by omega), n6 := (show 2 + r ≤ 6 by omega) }⟩
theorem q2 : HT (ι := Nat) (XL P w K mg base f (.ref cc) A outer st H0 E) (nthS lawS 2) (fun k σ H => ∃ (g : Gl) (x4 x5 x6 x7 x8 x9 x10 x11 x12 x13 x14 x15 x16 x17 x18 x19 x20 : Option V), σ = [some (.ref sc), some (.int (k : Nat)), some (.ref g.b), some (.int (g.n : Nat)), x4, x5, x6, x7, x8, x9, x10, x11, x12, x13, x14, x15, x16, x17, x18, x19, x20, none, none] ∧ E2 K C CM Ts sc scn g H) (fun k σ H => ∃ (g : Gl) (x5 x6 x7 x8 x9 x10 x11 x12 x13 x14 x15 x16 x17 x18 x19 x20 : Option V), σ = [some (.ref sc), some (.int (k : Nat)), some (.ref g.b), some (.int (g.n : Nat)), some (.ref g.ta), x5, x6, x7, x8, x9, x10, x11, x12, x13, x14, x15, x16, x17, x18, x19, x20, none, none] ∧ E3 K C CM Ts sc scn g H) := by
  obtain ⟨T, TC, TM, M, D, F, O, hear, hf, lone, hr, hl, TB, mem, only⟩ := Z
  refine ⟨_, (ps_set (i := 4) sclaw.nd rfl (by first | exact Or.inl rfl | exact Or.inr rfl) (pe_callTy (call_tupleK (K := K)) (by rfl) T.z_tuple (by decide +kernel) (pa_cons (pe_lc (own := [("deed", 21)]) (by rfl) sclaw.nd (pi_range1 (by rfl) T.z_range (pa_cons (pe_op op_add pe_int (pe_callC O.take hr pass0 (pa_cons (pv 2) (pa_cons pe_int pa_nil)))) pa_nil)) (blkOk_by (own := [("deed", 21)]) (N := ["script", "k", "box", "states", "tables", "machine", "first", "deeds", "rounds", "good", "other", "bad", "ask", "due", "rests", "counters", "at", "showing", "value", "spot", "odd", "deed", "state"]) (sc := defScope s_law) (by decide +kernel)) (fun _ _ _ _ _ => (pg_name (i := 21) sclaw.nd rfl (by first | exact Or.inl rfl | exact Or.inr rfl))) (fun _ _ _ _ _ => pts_nil) (fun _ _ _ _ _ => (pe_callTy (call_tupleK (K := K)) (by rfl) T.z_tuple (by decide +kernel) (pa_cons (pe_lc (own := [("state", 22)]) (by rfl) sclaw.nd (pi_range1 (by rfl) T.z_range (pa_cons (pv 3) pa_nil)) (by refine blkOk_by ?_; rfl) (fun _ _ _ _ _ => (pg_name (i := 22) sclaw.nd rfl (by first | exact Or.inl rfl | exact Or.inr rfl))) (fun _ _ _ _ _ => pts_nil) (fun _ _ _ _ _ => (pe_callC O.take hr pass0 (pa_cons (pv 2) (pa_cons (pv 3) pa_nil))))) pa_nil)))) pa_nil))), ?_⟩
  rintro k Dd σ H ⟨g, x4, x5, x6, x7, x8, x9, x10, x11, x12, x13, x14, x15, x16, x17, x18, x19, x20, rfl, j⟩ kk
  have n2 := j.n2
  have n6 := j.n6
  obtain ⟨t, hb⟩ := j.box
  refine ⟨_, rfl, g.b, t, 4, rfl, hb, by decide, by decide, fun r H1 r0 r1 m1 => ?_⟩
  have j1 := j.mv m1
  obtain ⟨r, rfl⟩ : ∃ x : Nat, r = (x : Int) := ⟨r.toNat, by omega⟩
  refine ⟨_, _, rfl, rfl, ?_⟩
  refine ⟨((1 + r : Nat) : Int), (show [V.int ((1 : Int) + ((r : Nat) : Int))] = [V.int ((1 + r : Nat) : Int)] from by rw [show (1 : Int) + ((r : Nat) : Int) = ((1 + r : Nat) : Int) from by omega]), by omega, by omega, fun D1 hD1 => ?_⟩
  obtain ⟨tb, hb1⟩ := j1.box
  have Db1 : D1 ≠ g.b := fun z => by rw [z, hb1] at hD1; cases hD1
  have m0 := Mv.refl hb1
  refine lc_range (lo := 0) (n := 1 + r) (fun i H' => ∃ (us : List V) (tss : List (List Int)), tss.length = i ∧ RowsBy (SqT K H') us tss ∧ (∀ t ∈ tss, t.length = g.n ∧ ∀ y ∈ t, 0 ≤ y ∧ y < (g.n : Int)) ∧ H' D1 = some (.lst us) ∧ Mv g.b H1 H') ⟨[], [], rfl, trivial, (fun _ h => nomatch h), upd_same, m0.put hD1 Db1⟩ ?_ ?_
  · rintro i H3 hi ⟨us, tss, lt, rows, ent, hz, m3⟩
    refine ⟨rfl, yes ((if_pos rfl).mpr ?_)⟩
    refine ⟨_, rfl, g.n, rfl, by omega, by omega, fun D0 hD => ?_⟩
    obtain ⟨tb3, hb3⟩ := m3.2
    have Db : D0 ≠ g.b := fun z => by rw [z, hb3] at hD; cases hD
    have mm := Mv.refl hb3
    refine lc_range (lo := 0) (n := g.n) (fun i H' => ∃ zs : List Int, zs.length = i ∧ (∀ y ∈ zs, 0 ≤ y ∧ y < (g.n : Int)) ∧ H' D0 = some (.lst (zs.map V.int)) ∧ Mv g.b H3 H') ⟨[], rfl, (fun _ h => nomatch h), upd_same, mm.put hD Db⟩ ?_ ?_
    · rintro i2 H4 hi2 ⟨zs, lz, rz, hz4, m4⟩
      have hi2 : i2 < g.n := hi2
      obtain ⟨t4, hb4⟩ := m4.2
      refine ⟨rfl, yes ((if_pos rfl).mpr ?_)⟩
      refine ⟨_, rfl, _, rfl, g.b, t4, (g.n : Nat), rfl, hb4, by omega, by omega, fun x H5 x0 x1 m5 => ?_⟩
      exact ⟨_, m5.1 _ _ Db hz4, by rw [List.length_map, lz, sizeLine_eq]; omega, zs ++ [x], by rw [List.length_append, lz]; rfl, snoc_rng rz x0 x1, by rw [upd_same, List.map_append]; rfl, (m4.trans m5).put hD Db⟩
    · rintro H4 ⟨zs, lz, rz, hz4, m4⟩
      refine ⟨D0, _, rfl, .inl ⟨SqL.of hz4, fun q hq => ?_⟩⟩
      have e4 := same_new (o := HO.tup (zs.map V.int)) hq
      have u4 : SqT K (upd H4 q (HO.tup (zs.map V.int))) q (zs.map V.int) := SqT.of upd_same
      generalize upd H4 q (HO.tup (zs.map V.int)) = H5 at e4 u4 ⊢
      have hz5 := e4 _ _ (m4.1 _ _ Db1 hz)
      have m5 := (m3.trans m4).same e4
      have rows5 : RowsBy (SqT K H5) us tss := rows.imp fun _ _ z => sqT_same e4 (m4.sqT hb3 z)
      have lr := rows.length
      obtain ⟨tb5, hb5⟩ := m5.2
      refine ⟨_, hz5, by rw [sizeLine_eq]; omega, us ++ [.ref q], tss ++ [zs], by rw [List.length_append, lt]; rfl, ?_, ?_, upd_same, m5.put hD1 Db1⟩
      · exact (RowsBy.snoc u4 rows5).imp fun _ _ z => sqT_lst hz5 z
      · intro t ht
        rcases List.mem_append.mp ht with h' | h'
        · exact ent t h'
        · rw [List.mem_singleton.mp h']
          exact ⟨lz, rz⟩
  · rintro H3 ⟨us, tss, lt, rows, ent, hz, m3⟩
    refine ⟨D1, _, rfl, .inl ⟨SqL.of hz, fun q hq => ?_⟩⟩
    have e4 := same_new (o := HO.tup us) hq
    have u4 : SqT K (upd H3 q (HO.tup us)) q us := SqT.of upd_same
    generalize upd H3 q (HO.tup us) = H5 at e4 u4 ⊢
    have j5 := (j1.mv m3).same e4
    have ok : Mok g.n tss := ⟨by omega, by omega, by omega, by omega, fun t ht => (ent t ht).1, fun t ht => (ent t ht).2⟩
    exact kk _ _ ⟨{ g with ta := q, ps := us, ts := tss }, _, _, _, _, _, _, _, _, _, _, _, _, _, _, _, _, rfl, { tabs := j5.tabs, hs := j5.hs, box := j5.box, sb := j5.sb, n2 := j5.n2, n6 := j5.n6, ta := u4, rows := rows.imp fun _ _ z => sqT_same e4 z, ok := ok }⟩
theorem q3 : HT (ι := Nat) (XL P w K mg base f (.ref cc) A outer st H0 E) (nthS lawS 3) (fun k σ H => ∃ (g : Gl) (x5 x6 x7 x8 x9 x10 x11 x12 x13 x14 x15 x16 x17 x18 x19 x20 : Option V), σ = [some (.ref sc), some (.int (k : Nat)), some (.ref g.b), some (.int (g.n : Nat)), some (.ref g.ta), x5, x6, x7, x8, x9, x10, x11, x12, x13, x14, x15, x16, x17, x18, x19, x20, none, none] ∧ E3 K C CM Ts sc scn g H) (fun k σ H => ∃ (g : Gl) (x8 x9 x10 x11 x12 x13 x14 x15 x16 x17 x18 x19 x20 : Option V), σ = [some (.ref sc), some (.int (k : Nat)), some (.ref g.b), some (.int (g.n : Nat)), some (.ref g.ta), some (.ref g.m), some (.int g.s), some (.int (g.ts.length : Nat)), x8, x9, x10, x11, x12, x13, x14, x15, x16, x17, x18, x19, x20, none, none] ∧ E4 K C CM Ts sc scn g H) := by
  obtain ⟨T, TC, TM, M, D, F, O, hear, hf, lone, hr, hl, TB, mem, only⟩ := Z
  refine ⟨_, (ps_asg (pe_tup (pa_cons (pe_mac (K := K) M TM hr pzN (pa_cons (pv 4) pa_nil)) (pa_cons (pe_callC O.take hr pass0 (pa_cons (pv 2) (pa_cons (pv 3) pa_nil))) (pa_cons (pe_callB call_len_seq (by rfl) T.z_len PySem.boot_len (pa_cons (pv 4) pa_nil)) pa_nil)))) (pg_tup rfl (pgs_cons (pg_name (i := 5) sclaw.nd rfl (by first | exact Or.inl rfl | exact Or.inr rfl)) (pgs_cons (pg_name (i := 6) sclaw.nd rfl (by first | exact Or.inl rfl | exact Or.inr rfl)) (pgs_cons (pg_name (i := 7) sclaw.nd rfl (by first | exact Or.inl rfl | exact Or.inr rfl)) pgs_nil))))), ?_⟩
  rintro k Dd σ H ⟨g, x5, x6, x7, x8, x9, x10, x11, x12, x13, x14, x15, x16, x17, x18, x19, x20, rfl, j⟩ kk
  have n6 := j.n6
  have n2 := j.n2
  have lps := j.rows.length
  have l4 := j.ok.l4
  refine ⟨_, rfl, fun x dy hx hdy ne => mc_make j.ok (.inr j.ta) (j.rows.imp fun _ _ z => .inr z) hx hdy ne fun H1 e1 mcA => ?_⟩
  have j1 := j.same e1
  obtain ⟨t, hb⟩ := j1.box
  refine ⟨_, rfl, _, rfl, g.b, t, (g.n : Nat), rfl, hb, by omega, by omega, fun s H2 s0 s1 m2 => ?_⟩
  have j2 := j1.mv m2
  have mc2 := m2.mc hb mcA
  refine ⟨_, rfl, _, _, rfl, .inr j2.ta, ?_⟩
  rw [lps]
  refine ⟨(by show 3 ≤ sizeLine; decide), fun q hq => ?_⟩
  have e3 := same_new (o := HO.tup [.ref x, .int s, .int (g.ts.length : Nat)]) hq
  have u3 : SqT K (upd H2 q (HO.tup [.ref x, .int s, .int (g.ts.length : Nat)])) q [.ref x, .int s, .int (g.ts.length : Nat)] := SqT.of upd_same
  generalize upd H2 q (HO.tup [.ref x, .int s, .int (g.ts.length : Nat)]) = H3 at e3 u3 ⊢
  have j3 := j2.same e3
  refine ⟨q, _, rfl, u3, rfl, _, _, rfl, _, _, rfl, _, _, rfl, rfl, ?_⟩
  exact kk _ _ ⟨{ g with m := x, s := s }, _, _, _, _, _, _, _, _, _, _, _, _, _, rfl, { tabs := j3.tabs, hs := j3.hs, box := j3.box, sb := j3.sb, n2 := j3.n2, n6 := j3.n6, ta := j3.ta, rows := j3.rows, ok := j3.ok, mac := mc2.same e3, s0 := s0, s1 := s1 }⟩
theorem q4 : HT (ι := Nat) (XL P w K mg base f (.ref cc) A outer st H0 E) (nthS lawS 4) (fun k σ H => ∃ (g : Gl) (x8 x9 x10 x11 x12 x13 x14 x15 x16 x17 x18 x19 x20 : Option V), σ = [some (.ref sc), some (.int (k : Nat)), some (.ref g.b), some (.int (g.n : Nat)), some (.ref g.ta), some (.ref g.m), some (.int g.s), some (.int (g.ts.length : Nat)), x8, x9, x10, x11, x12, x13, x14, x15, x16, x17, x18, x19, x20, none, none] ∧ E4 K C CM Ts sc scn g H) (fun k σ H => ∃ (g : Gl) (x9 x10 x11 x12 x13 x14 x15 x16 x17 x18 x19 x20 : Option V), σ = [some (.ref sc), some (.int (k : Nat)), some (.ref g.b), some (.int (g.n : Nat)), some (.ref g.ta), some (.ref g.m), some (.int g.s), some (.int (g.ts.length : Nat)), some (.ref g.ro), x9, x10, x11, x12, x13, x14, x15, x16, x17, x18, x19, x20, none, none] ∧ E5 K C CM Ts sc scn g H) := by
  obtain ⟨T, TC, TM, M, D, F, O, hear, hf, lone, hr, hl, TB, mem, only⟩ := Z
  refine ⟨_, (ps_setLc (i := 8) (own := [("deed", 21)]) (by rfl) sclaw.nd rfl rfl (sw_true rfl rfl rfl (by decide +kernel)) (pi_range1 (by rfl) T.z_range (pa_cons (pv 7) pa_nil)) (blkOk_by (own := [("deed", 21)]) (N := ["script", "k", "box", "states", "tables", "machine", "first", "deeds", "rounds", "good", "other", "bad", "ask", "due", "rests", "counters", "at", "showing", "value", "spot", "odd", "deed", "state"]) (sc := defScope s_law) (by decide +kernel)) (fun _ _ _ _ _ => (pg_name (i := 21) sclaw.nd rfl (by first | exact Or.inl rfl | exact Or.inr rfl))) (fun _ _ _ _ _ => pts_nil) (fun _ _ _ _ _ => (pe_callC O.take hr pass0 (pa_cons (pv 2) (pa_cons pe_int pa_nil))))), ?_⟩
  rintro k Dd σ H ⟨g, x8, x9, x10, x11, x12, x13, x14, x15, x16, x17, x18, x19, x20, rfl, j⟩ kk
  have l1 := j.ok.l1
  have l4 := j.ok.l4
  refine ⟨_, rfl, g.ts.length, rfl, by omega, by omega, fun D0 hD => ?_⟩
  obtain ⟨t, hb⟩ := j.box
  have Db : D0 ≠ g.b := fun z => by rw [z, hb] at hD; cases hD
  have mm := Mv.refl hb
  refine lc_range (lo := 0) (n := g.ts.length) (fun i H' => ∃ zs : List Int, zs.length = i ∧ (∀ y ∈ zs, 0 ≤ y ∧ y < ((5 : Nat) : Int)) ∧ H' D0 = some (.lst (zs.map V.int)) ∧ Mv g.b H H') ⟨[], rfl, (fun _ h => nomatch h), upd_same, mm.put hD Db⟩ ?_ ?_
  · rintro i2 H4 hi2 ⟨zs, lz, rz, hz4, m4⟩
    have hi2 : i2 < g.ts.length := hi2
    obtain ⟨t4, hb4⟩ := m4.2
    refine ⟨rfl, yes ((if_pos rfl).mpr ?_)⟩
    refine ⟨_, rfl, g.b, t4, 5, rfl, hb4, by decide, by decide, fun x H5 x0 x1 m5 => ?_⟩
    exact ⟨_, m5.1 _ _ Db hz4, by rw [List.length_map, lz, sizeLine_eq]; omega, zs ++ [x], by rw [List.length_append, lz]; rfl, snoc_rng rz x0 x1, by rw [upd_same, List.map_append]; rfl, (m4.trans m5).put hD Db⟩
  · rintro H4 ⟨zs, lz, rz, hz4, m4⟩
    have j4 := j.mv m4
    exact kk _ _ ⟨{ g with ro := D0, rs := zs }, _, _, _, _, _, _, _, _, _, _, _, _, rfl, { tabs := j4.tabs, hs := j4.hs, box := j4.box, sb := j4.sb, n2 := j4.n2, n6 := j4.n6, ta := j4.ta, rows := j4.rows, ok := j4.ok, mac := j4.mac, s0 := j4.s0, s1 := j4.s1, rob := Db, ro := hz4, lr := lz, r0 := (fun r hr => by have := rz r hr; omega) }⟩
theorem q5 : HT (ι := Nat) (XL P w K mg base f (.ref cc) A outer st H0 E) (nthS lawS 5) (fun k σ H => ∃ (g : Gl) (x9 x10 x11 x12 x13 x14 x15 x16 x17 x18 x19 x20 : Option V), σ = [some (.ref sc), some (.int (k : Nat)), some (.ref g.b), some (.int (g.n : Nat)), some (.ref g.ta), some (.ref g.m), some (.int g.s), some (.int (g.ts.length : Nat)), some (.ref g.ro), x9, x10, x11, x12, x13, x14, x15, x16, x17, x18, x19, x20, none, none] ∧ E5 K C CM Ts sc scn g H) (fun k σ H => ∃ (g : Gl) (x11 x12 x13 x14 x15 x16 x17 x18 x19 x20 : Option V), σ = [some (.ref sc), some (.int (k : Nat)), some (.ref g.b), some (.int (g.n : Nat)), some (.ref g.ta), some (.ref g.m), some (.int g.s), some (.int (g.ts.length : Nat)), some (.ref g.ro), some (.ref g.cg), some (.ref g.co), x11, x12, x13, x14, x15, x16, x17, x18, x19, x20, none, none] ∧ E6 K C CM Ts sc scn g H) := by
  obtain ⟨T, TC, TM, M, D, F, O, hear, hf, lone, hr, hl, TB, mem, only⟩ := Z
  refine ⟨_, (ps_par (i := 9) (j := 10) (by rfl) sclaw.nd rfl rfl (by decide) rfl rfl (pa_cons (pe_cnt1 (K := K) M TC hr pzN (pa_cons (pv 8) pa_nil)) (pa_cons (pe_cnt1 (K := K) M TC hr pzN (pa_cons (pe_ifExp (pt_cmpR op_lt (pv 7) pe_int (nomark _)) (pe_op op_cat (pv 8) (pe_lst (pa_cons pe_int pa_nil))) (pe_slice sl_list (pv 8) (po_some pe_int) po_none)) pa_nil)) pa_nil)) (by rfl)), ?_⟩
  rintro k Dd σ H ⟨g, x9, x10, x11, x12, x13, x14, x15, x16, x17, x18, x19, x20, rfl, j⟩ kk
  have l1 := j.ok.l1
  have l4 := j.ok.l4
  have lr := j.lr
  have z60 : ∀ r ∈ g.rs, 0 ≤ r ∧ r ≤ 60 := fun r hr => by
    have := j.r0 r hr
    omega
  have nil0 : ∀ H : Hp, Long K H (.ref t0) (some []) := fun H => .seq (.inr (M.nil H))
  refine ⟨_, rfl, fun x dy hx hdy ne => make_good (cok_z (by omega) (by omega) z60) (.seq (.inl (SqL.of j.ro))) (.inl ⟨nil0 _, rfl⟩) hx hdy ne fun H1 e1 cg => ?_⟩
  have j1 := j.same e1
  refine ⟨_, rfl, _, _, rfl, rfl, _, rfl, ite2 (fun lt => ?_) (fun ge => ?_)⟩
  · have lt : g.ts.length < 4 := by have := of_decide_eq_true lt; omega
    refine ⟨_, rfl, (by show 1 ≤ sizeLine; decide), fun l hl => ?_⟩
    have e2 := same_new (o := HO.lst [V.int 2]) hl
    have u2 : upd H1 l (HO.lst [V.int 2]) l = some (.lst [V.int 2]) := upd_same
    generalize upd H1 l (HO.lst [V.int 2]) = H2 at e2 u2 ⊢
    refine ⟨g.ro, l, _, _, rfl, rfl, e2 _ _ j1.ro, u2, (by rw [List.length_map, lr, sizeLine_eq]; show _ + 1 ≤ _; omega), fun l2 hl2 => ?_⟩
    have e3 := same_new (o := HO.lst (g.rs.map V.int ++ [V.int 2])) hl2
    have u3 : upd H2 l2 (HO.lst (g.rs.map V.int ++ [V.int 2])) l2 = some (.lst ((g.rs ++ [2]).map V.int)) := by
      rw [upd_same, List.map_append]
      rfl
    generalize upd H2 l2 (HO.lst (g.rs.map V.int ++ [V.int 2])) = H3 at e3 u3 ⊢
    have ln : (g.rs ++ [2]).length = g.ts.length + 1 := by rw [List.length_append, lr]; rfl
    have q60 : ∀ r ∈ g.rs ++ [2], 0 ≤ r ∧ r ≤ 60 := fun r hr => by
      rcases List.mem_append.mp hr with h' | h'
      · exact z60 r h'
      · rw [List.mem_singleton.mp h']
        omega
    refine fun x2 dz hx2 hdz nx => make_good (cok_z (by omega) (by omega) q60) (.seq (.inl (SqL.of u3))) (.inl ⟨nil0 _, rfl⟩) hx2 hdz nx fun H4 e4 co => ?_
    have neq : (g.rs ++ [2]).length ≠ g.ts.length := by omega
    have e24 := e2.trans (e3.trans e4)
    have j4 := j1.same e24
    exact ⟨_, _, rfl, kk _ _ ⟨{ g with cg := x, co := x2, qs := g.rs ++ [2] }, _, _, _, _, _, _, _, _, _, _, rfl, { tabs := j4.tabs, hs := j4.hs, box := j4.box, sb := j4.sb, n2 := j4.n2, n6 := j4.n6, ta := j4.ta, rows := j4.rows, ok := j4.ok, mac := j4.mac, s0 := j4.s0, s1 := j4.s1, rob := j4.rob, ro := j4.ro, lr := j4.lr, r0 := j4.r0, cg := cg.same e24, co := co, ne := neq }⟩⟩
  · have ge : g.ts.length = 4 := by
      have : ¬ ((g.ts.length : Nat) : Int) < 4 := fun z => ge (decide_eq_true z)
      omega
    refine ⟨_, rfl, 1, rfl, g.ro, _, rfl, SqL.of j1.ro, fun l2 hl2 => ?_⟩
    have cut : cutV (g.rs.map V.int) (some 1) none = (g.rs.drop 1).map V.int := by
      have l4 : g.rs.length = 4 := by omega
      match hz : g.rs, l4 with
      | [r1, r2, r3, r4], _ => rfl
    rw [cut]
    have e3 := same_new (o := HO.lst ((g.rs.drop 1).map V.int)) hl2
    have u3 : upd H1 l2 (HO.lst ((g.rs.drop 1).map V.int)) l2 = some (.lst ((g.rs.drop 1).map V.int)) := upd_same
    generalize upd H1 l2 (HO.lst ((g.rs.drop 1).map V.int)) = H3 at e3 u3 ⊢
    have ln : (g.rs.drop 1).length = 3 := by rw [List.length_drop]; omega
    refine fun x2 dz hx2 hdz nx => make_good (cok_z (by omega) (by omega) (fun r hr => z60 r (List.mem_of_mem_drop hr))) (.seq (.inl (SqL.of u3))) (.inl ⟨nil0 _, rfl⟩) hx2 hdz nx fun H4 e4 co => ?_
    have neq : (g.rs.drop 1).length ≠ g.ts.length := by omega
    have e24 := e3.trans e4
    have j4 := j1.same e24
    exact ⟨_, _, rfl, kk _ _ ⟨{ g with cg := x, co := x2, qs := g.rs.drop 1 }, _, _, _, _, _, _, _, _, _, _, rfl, { tabs := j4.tabs, hs := j4.hs, box := j4.box, sb := j4.sb, n2 := j4.n2, n6 := j4.n6, ta := j4.ta, rows := j4.rows, ok := j4.ok, mac := j4.mac, s0 := j4.s0, s1 := j4.s1, rob := j4.rob, ro := j4.ro, lr := j4.lr, r0 := j4.r0, cg := cg.same e24, co := co, ne := neq }⟩⟩
theorem q6 : HT (ι := Nat) (XL P w K mg base f (.ref cc) A outer st H0 E) (nthS lawS 6) (fun k σ H => ∃ (g : Gl) (x11 x12 x13 x14 x15 x16 x17 x18 x19 x20 : Option V), σ = [some (.ref sc), some (.int (k : Nat)), some (.ref g.b), some (.int (g.n : Nat)), some (.ref g.ta), some (.ref g.m), some (.int g.s), some (.int (g.ts.length : Nat)), some (.ref g.ro), some (.ref g.cg), some (.ref g.co), x11, x12, x13, x14, x15, x16, x17, x18, x19, x20, none, none] ∧ E6 K C CM Ts sc scn g H) (fun k σ H => ∃ (g : Gl) (x12 x13 x14 x15 x16 x17 x18 x19 x20 : Option V), σ = [some (.ref sc), some (.int (k : Nat)), some (.ref g.b), some (.int (g.n : Nat)), some (.ref g.ta), some (.ref g.m), some (.int g.s), some (.int (g.ts.length : Nat)), some (.ref g.ro), some (.ref g.cg), some (.ref g.co), some g.bd, x12, x13, x14, x15, x16, x17, x18, x19, x20, none, none] ∧ E7 K C CM Ts sc scn g H) := by
  obtain ⟨T, TC, TM, M, D, F, O, hear, hf, lone, hr, hl, TB, mem, only⟩ := Z
  refine ⟨_, (ps_set (i := 11) sclaw.nd rfl (by first | exact Or.inl rfl | exact Or.inr rfl) (pe_callC O.pick hr pass0 (pa_cons (pv 2) (pa_cons (pe_lst (pa_cons (pv 3) (pa_cons (pe_op op_sub pe_int pe_int) (pa_cons pe_non (pa_cons pe_bl (pa_cons pe_str (pa_cons (pe_tup (pa_cons pe_int pa_nil)) pa_nil))))))) pa_nil)))), ?_⟩
  rintro k Dd σ H ⟨g, x11, x12, x13, x14, x15, x16, x17, x18, x19, x20, rfl, j⟩ kk
  obtain ⟨t, hb⟩ := j.box
  have n6 := j.n6
  refine ⟨_, rfl, _, rfl, _, _, rfl, rfl, (by show 1 ≤ sizeLine; decide), fun q hq => ?_⟩
  have e1 := same_new (o := HO.tup [.int 0]) hq
  have u1 : SqT K (upd H q (HO.tup [.int 0])) q [.int 0] := SqT.of upd_same
  generalize upd H q (HO.tup [.int 0]) = H1 at e1 u1 ⊢
  refine ⟨(by show 6 ≤ sizeLine; decide), fun l hl => ?_⟩
  have hb1 := e1 _ _ hb
  have lb : l ≠ g.b := fun z => by rw [z, hb1] at hl; cases hl
  have e2 := same_new (o := HO.lst [.int (g.n : Nat), .int (0 - 1), .non, .bl true, .str "0", .ref q]) hl
  have u2 : upd H1 l (HO.lst [.int (g.n : Nat), .int (0 - 1), .non, .bl true, .str "0", .ref q]) l = some (.lst [.int (g.n : Nat), .int (0 - 1), .non, .bl true, .str "0", .ref q]) := upd_same
  generalize upd H1 l (HO.lst [.int (g.n : Nat), .int (0 - 1), .non, .bl true, .str "0", .ref q]) = H2 at e2 u2 ⊢
  have hb2 := e2 _ _ hb1
  have j2 := (j.same e1).same e2
  refine ⟨g.b, l, t, _, rfl, hb2, lb, SqL.of u2, (by show 0 < 6; decide), (by show 6 < 1073741824; decide), fun v H3 hv m3 => ?_⟩
  have j3 := j2.mv m3
  have bd : BadV K H3 g.n v := by
    have hv : v ∈ ([V.int (g.n : Nat), .int (-1), .non, .bl true, .str "0"] ++ [V.ref q] : List V) := hv
    rcases List.mem_append.mp hv with h' | h'
    · exact .inl h'
    · exact .inr ⟨q, List.mem_singleton.mp h', m3.sqT hb2 (sqT_same e2 u1)⟩
  exact kk _ _ ⟨{ g with bd := v }, _, _, _, _, _, _, _, _, _, rfl, { tabs := j3.tabs, hs := j3.hs, box := j3.box, sb := j3.sb, n2 := j3.n2, n6 := j3.n6, ta := j3.ta, rows := j3.rows, ok := j3.ok, mac := j3.mac, s0 := j3.s0, s1 := j3.s1, rob := j3.rob, ro := j3.ro, lr := j3.lr, r0 := j3.r0, cg := j3.cg, co := j3.co, ne := j3.ne, bd := bd }⟩
end
end KT
/-! the law: askings of lambdas whose def is gone -/
namespace KT
open L2 PySem PySem.Spec PyProof.Rows Kx RZ TL
theorem op_neSameK {X : Cx} {K : PySem.W.Frag} (hu : X.A.units + 64 < cLine) (hK : X.K = K := by rfl) : OpR X (compareOp .NotEq) (rSame K false) := by
  subst hK
  exact op_neSame hu
section
variable {N : List Str} {en : Env} {σ : L2.St} {H H' H2 : Hp} {K : PySem.W.Frag} {a : Ad} {C CM : Addr}
theorem sqT_drop {p : Addr} {xs : List V} (D : Dead N en σ H) (h : SqT K H p xs) : SqT K (dropD en H) p xs := h.imp (fun h => h.imp (fun h => D.drop h fun φ => nofun) fun ⟨z, h⟩ => ⟨z, D.drop h fun φ => nofun⟩) id
theorem sqL_drop {p : Addr} {xs : List V} (D : Dead N en σ H) (h : SqL K H p xs) : SqL K (dropD en H) p xs := h.imp (fun h => h.imp (fun h => D.drop h fun φ => nofun) fun ⟨z, h⟩ => ⟨z, D.drop h fun φ => nofun⟩) id
theorem mc_drop {m : Addr} {n : Nat} {ts : List (List Int)} (D : Dead N en σ H) (h : McAt K CM H m n ts) : McAt K CM (dropD en H) m n ts := by
  obtain ⟨ok, dx, p, ps, h1, h2, h3⟩ := h
  exact ⟨ok, dx, p, ps, D.drop h1 fun φ => nofun, sqT_drop D h2, h3.imp fun _ _ q => sqT_drop D q⟩
theorem cn_drop {c : Addr} {rs es : List Int} (D : Dead N en σ H) (h : CnAt K C H c rs es) : CnAt K C (dropD en H) c rs es := by
  obtain ⟨ok, dx, p, q, h1, h2, h3⟩ := h
  exact ⟨ok, dx, p, q, D.drop h1 fun φ => nofun, sqT_drop D h2, sqT_drop D h3⟩
theorem kn_drop {v : V} (D : Dead N en σ H) (h : Kn K H v) : Kn K (dropD en H) v := by
  cases h with
  | int i => exact .int i
  | non => exact .non
  | bl b => exact .bl b
  | str x => exact .str x
  | seq q =>
    rcases q with q | q
    · exact .seq (.inl (sqL_drop D q))
    · exact .seq (.inr (sqT_drop D q))
/-- what is done behind is done beside the cells -/
theorem same_put2 (D : Dead N en σ H) (e : Same (dropD en H) H2) : Same H (putD N en σ H2) := fun b o h => by
  by_cases c : isCel en b = true
  · rw [putD_cel c, ← D.cel c, h]
  · rw [putD_not c]
    exact e b o (by rw [dropD_not c, h])
theorem put_at {b : Addr} {o : HO} (free : ∀ b, isCel en b = true → H2 b = none) (h : H2 b = some o) : putD N en σ H2 b = some o := by
  have nc : ¬ isCel en b = true := fun z => by
    rw [free b z] at h
    cases h
  rw [putD_not nc, h]
/-- why an asking is refused, and what is heard of it -/
def Why (K : PySem.W.Frag) (a : Ad) (C CM : Addr) (H : Hp) (vm v vc : V) (Q : VK) : Prop := ∃ (m c : Addr) (n : Nat) (ts : List (List Int)) (rs es : List Int), vm = .ref m ∧ vc = .ref c ∧ McAt K CM H m n ts ∧ Kn K H v ∧ CnAt K C H c rs es ∧
  ((isBel n v = false ∧ ∃ dt, (∀ H2, Same H H2 → ShowD K H2 v dt) ∧ ∀ p H2, Same H H2 → SqT K H2 p [.str "state", .str dt.shown, .bl true] → Q (.ref p) H2) ∨
   ∃ s, v = .int s ∧ 0 ≤ s ∧ s < (n : Int) ∧ rs.length ≠ ts.length ∧ ∀ p H2, Same H H2 → SqT K H2 p [.str "refused", .ref c, .bl true] → Q (.ref p) H2)
def WhyF (K : PySem.W.Frag) (a : Ad) (C CM : Addr) (H : Hp) (vm v vc : V) (Q : VK) : Prop := ∃ (m c : Addr) (n : Nat) (ts : List (List Int)) (s : Int) (rs es : List Int) (d : Nat) (x y : Int), vm = .ref m ∧ v = .int s ∧ vc = .ref c ∧ McAt K CM H m n ts ∧ CnAt K C H c rs es ∧ 0 ≤ s ∧ s < (n : Int) ∧ rs.length = ts.length ∧ FgAt ts s d x y ∧
  ∀ p H2, Same H H2 → SqT K H2 p [.str "forgets", .int (d : Nat), .int x, .int y, .bl true] → Q (.ref p) H2
theorem Why.early {vm v vc : V} {Q : VK} (D : Dead N en σ H) (h : Why K a C CM H vm v vc Q) : EarlyW K a C CM (dropD en H) vm v vc (fun cls dd H2 => (∀ b, isCel en b = true → H2 b = none) → Out K a C cls dd (putD N en σ H2) Q) := by
  obtain ⟨m, c, n, ts, rs, es, rfl, rfl, hm, hv, hc, h⟩ := h
  refine ⟨m, c, n, ts, rs, es, rfl, rfl, mc_drop D hm, kn_drop D hv, cn_drop D hc, ?_⟩
  rcases h with ⟨b, dt, sd, k⟩ | ⟨s, rfl, z0, z1, ne, k⟩
  · refine .inl ⟨b, fun d H2 e hd free => ⟨d, rfl, .inr (.inr (.inr (.inr ⟨rfl, v, dt, put_at free hd, sd _ (same_put2 D e), fun p H3 e3 hp => k p H3 ((same_put2 D e).trans e3) hp⟩)))⟩⟩
  · exact .inr ⟨s, rfl, z0, z1, ne, fun d H2 e hd free => ⟨d, rfl, .inr (.inr (.inl ⟨rfl, c, rs, es, put_at free hd, hc.same (same_put2 D e), fun p H3 e3 hp => k p H3 ((same_put2 D e).trans e3) hp⟩))⟩⟩
theorem WhyF.early {vm v vc : V} {Q : VK} (D : Dead N en σ H) (h : WhyF K a C CM H vm v vc Q) : Forg K a C CM (dropD en H) vm v vc (fun cls dd H2 => (∀ b, isCel en b = true → H2 b = none) → Out K a C cls dd (putD N en σ H2) Q) := by
  obtain ⟨m, c, n, ts, s, rs, es, d, x, y, rfl, rfl, rfl, hm, hc, z0, z1, lr, fg, k⟩ := h
  exact ⟨m, c, n, ts, s, rs, es, d, x, y, rfl, rfl, rfl, mc_drop D hm, cn_drop D hc, z0, z1, lr, fg, fun dd H2 e hd free => ⟨dd, rfl, .inl ⟨rfl, d, x, y, put_at free hd, fun p H3 e3 hp => k p H3 ((same_put2 D e).trans e3) hp⟩⟩⟩
/-- one of the askings, made by either def -/
def Ask (vm v vc : V) (H : Hp) (fl : Addr) : Prop := (∃ (i : I8) (en : Env) (σd : L2.St) (u x : V), dlA.At en σd i H fl ∧ σd[0]? = some (some vm) ∧ σd[1]? = some (some v) ∧ σd[2]? = some (some vc) ∧ σd[3]? = some (some u) ∧ σd[4]? = some (some x)) ∨
  ∃ (i : I3) (en : Env) (σd : L2.St) (u : V), dlW.At en σd i H fl ∧ σd[0]? = some (some vm) ∧ σd[1]? = some (some v) ∧ σd[2]? = some (some vc) ∧ σd[3]? = some (some u)
theorem Dl.At.ext {ι : Type} {d : Dl ι} {en : Env} {σd : L2.St} {i : ι} {fl : Addr} (h : d.At en σd i H fl) (e : LamX.ExtN H H') : d.At en σd i H' fl := by
  obtain ⟨c', pm, ctv, h1, h2, h3, h4, h5⟩ := h
  exact ⟨c', pm, ctv, h1, h2, h3.ext e, e _ _ h4 (fun _ z => nomatch z), e _ _ h5 LamX.codeO_ne⟩
theorem Ask.ext {vm v vc : V} {fl : Addr} (h : Ask vm v vc H fl) (e : LamX.ExtN H H') : Ask vm v vc H' fl := by
  rcases h with ⟨i, en, σd, u, x, h, r⟩ | ⟨i, en, σd, u, h, r⟩
  · exact .inl ⟨i, en, σd, u, x, h.ext e, r⟩
  · exact .inr ⟨i, en, σd, u, h.ext e, r⟩
theorem Ask.hear {vm v vc : V} {fl : Addr} {Q : VK} {E : XK} (h : Ask vm v vc H fl) (y : Why K a C CM H vm v vc Q) : spHear K a C dlA (tbA K a C CM) [.ref fl] H Q E ∨ spHear K a C dlW (tbW K a C CM) [.ref fl] H Q E := by
  rcases h with ⟨i, en, σd, u, x, h, h0, h1, h2, h3, h4⟩ | ⟨i, en, σd, u, h, h0, h1, h2, h3⟩
  · have D := h.choose_spec.choose_spec.choose_spec.2.2.1
    exact .inl ⟨fl, rfl, i, en, σd, h, vm, v, vc, u, x, h0, h1, h2, h3, h4, .inl (y.early D)⟩
  · have D := h.choose_spec.choose_spec.choose_spec.2.2.1
    exact .inr ⟨fl, rfl, i, en, σd, h, vm, v, vc, u, h0, h1, h2, h3, y.early D⟩
theorem Ask.hearF {vm v vc : V} {fl : Addr} {Q : VK} {E : XK} (h : ∃ (i : I8) (en : Env) (σd : L2.St) (u x : V), dlA.At en σd i H fl ∧ σd[0]? = some (some vm) ∧ σd[1]? = some (some v) ∧ σd[2]? = some (some vc) ∧ σd[3]? = some (some u) ∧ σd[4]? = some (some x)) (y : WhyF K a C CM H vm v vc Q) : spHear K a C dlA (tbA K a C CM) [.ref fl] H Q E ∨ spHear K a C dlW (tbW K a C CM) [.ref fl] H Q E := by
  obtain ⟨i, en, σd, u, x, h, h0, h1, h2, h3, h4⟩ := h
  have D := h.choose_spec.choose_spec.choose_spec.2.2.1
  exact .inl ⟨fl, rfl, i, en, σd, h, vm, v, vc, u, x, h0, h1, h2, h3, h4, .inr (y.early D)⟩
theorem showOf {v : V} {dt : PyData} {m L : Nat} (dp : Dp K H v dt) (od : OkD m L dt) (hm : m ≤ 60 := by decide) (hL : L ≤ sizeLine := by decide) : ShowD K H v dt := ⟨dp, od.sh, od.nd, Nat.le_trans od.deep hm, Nat.le_trans od.fit hL⟩
theorem bel_neg {n : Nat} {i : Int} (h : ¬ (0 ≤ i ∧ i < (n : Int))) : isBel n (.int i) = false := by
  cases z : isBel n (.int i) with
  | false => rfl
  | true => exact absurd (isBel_iff.mp z) h
/-- a value that is none: known, no state, shown -/
theorem BadV.kn {n : Nat} {v : V} (n6 : n ≤ 6) (h : BadV K H n v) : Kn K H v ∧ isBel n v = false ∧ ∃ dt, ∀ H2, Same H H2 → ShowD K H2 v dt := by
  rcases h with h | ⟨p, rfl, hp⟩
  · simp only [List.mem_cons, List.not_mem_nil, or_false] at h
    rcases h with rfl | rfl | rfl | rfl | rfl
    · exact ⟨.int _, bel_neg (by omega), .int (n : Nat), fun H2 _ => showOf (.int _) (okD_small (by omega))⟩
    · exact ⟨.int _, bel_neg (by omega), .int (-1), fun H2 _ => showOf (.int _) (okD_small (by omega))⟩
    · exact ⟨.non, rfl, .none, fun H2 _ => showOf .non okD_non⟩
    · exact ⟨.bl true, rfl, .bool true, fun H2 _ => showOf (.bl true) (okD_bl true)⟩
    · exact ⟨.str _, rfl, .str "0", fun H2 _ => showOf (.str _) (okD_str (L := 100) (by decide +kernel))⟩
  · exact ⟨.seq (.inr hp), rfl, dNums [0], fun H2 e => showOf (dp_nums (ns := [0]) (sqT_same e hp)) (okD_nums (by decide) (by decide))⟩
end
end KT
/-! the law: askings of states that are none, of counters of other kinds -/
namespace KT
open L2 PySem PySem.Spec PyProof.Rows Kx RZ TL
section
variable {P : Program} {w : World} {K : PySem.W.Frag} {mg : Str → Option Value} {base : Heap} {f cc : Addr} {A : Around} {outer : List Env} {st : Shared} {H0 : Hp} {E : XK} {a : Ad} {C CM cW t0 Pt : Addr} {Ts : List (Addr × Str)} {sc : Addr} {scn : List Int}
variable (Z : Lz P w K mg base f cc A outer st H0 E a C CM cW t0 Ts Pt scn)
include Z
theorem q7 : HT (ι := Nat) (XL P w K mg base f (.ref cc) A outer st H0 E) (nthS lawS 7) (fun k σ H => ∃ (g : Gl) (x12 x13 x14 x15 x16 x17 x18 x19 x20 : Option V), σ = [some (.ref sc), some (.int (k : Nat)), some (.ref g.b), some (.int (g.n : Nat)), some (.ref g.ta), some (.ref g.m), some (.int g.s), some (.int (g.ts.length : Nat)), some (.ref g.ro), some (.ref g.cg), some (.ref g.co), some g.bd, x12, x13, x14, x15, x16, x17, x18, x19, x20, none, none] ∧ E7 K C CM Ts sc scn g H) (fun k σ H => ∃ (g : Gl) (x12 x13 x14 x15 x16 x17 x18 x19 x20 : Option V), σ = [some (.ref sc), some (.int (k : Nat)), some (.ref g.b), some (.int (g.n : Nat)), some (.ref g.ta), some (.ref g.m), some (.int g.s), some (.int (g.ts.length : Nat)), some (.ref g.ro), some (.ref g.cg), some (.ref g.co), some g.bd, x12, x13, x14, x15, x16, x17, x18, x19, x20, none, none] ∧ E7 K C CM Ts sc scn g H) := by
  obtain ⟨T, TC, TM, M, D, F, O, hear, hf, lone, hr, hl, TB, mem, only⟩ := Z
  have cs : CallR (XL P w K mg base f (.ref cc) A outer st H0 E) (.builtin "repr") (rShow K) := call_show lone (r64 hr)
  refine ⟨_, (ps_for PassesOwn.never rfl (pi_list (pe_op op_cat (pe_callC O.asks hr pass0 (pa_cons (pv 5) (pa_cons (pv 11) (pa_cons (pv 10) (pa_cons pe_non (pa_cons pe_non pa_nil)))))) (pe_callC O.walks hr pass0 (pa_cons (pv 5) (pa_cons (pv 11) (pa_cons (pv 10) (pa_cons pe_non pa_nil))))))) (pg_name (i := 12) sclaw.nd rfl (by first | exact Or.inl rfl | exact Or.inr rfl))
  (pss_one (ps_if (pt_cmpR (op_neSameK (K := K) (r64 hr)) (pe_callG hear hr lone pass0 (pa_cons (pv 12) pa_nil)) (pe_tup (pa_cons pe_str (pa_cons (pe_callB cs (by rfl) T.z_repr (by decide +kernel) (pa_cons (pv 11) pa_nil)) (pa_cons pe_bl pa_nil)))) (nomark _))
  (pss_one (ps_ret pe_bl))
  pss_nil))), ?_⟩
  rintro k Dd σ H ⟨g, x12, x13, x14, x15, x16, x17, x18, x19, x20, rfl, j⟩ kk
  have n6 := j.n6
  refine ⟨_, rfl, _, rfl, _, rfl, _, _, _, _, _, rfl, j.tabs, fun en σd l fls H1 w1 hl ln hσ at1 => ?_⟩
  have j1 := j.ext w1.ext w1.tabs
  refine ⟨_, rfl, _, rfl, _, rfl, _, _, _, _, rfl, j1.tabs, fun en2 σd2 l2 fls2 H2 w2 hl2 ln2 hσ2 at2 => ?_⟩
  have j2 := j1.ext w2.ext w2.tabs
  refine ⟨l, l2, _, _, rfl, rfl, ext_lst w2.ext hl, hl2, (by rw [List.length_map, List.length_map, ln, ln2]; decide), fun l3 hl3 => ?_⟩
  have e3 := same_new (o := HO.lst (fls.map V.ref ++ fls2.map V.ref)) hl3
  have u3 : upd H2 l3 (HO.lst (fls.map V.ref ++ fls2.map V.ref)) l3 = some (.lst ((fls ++ fls2).map V.ref)) := by rw [upd_same, List.map_append]
  generalize upd H2 l3 (HO.lst (fls.map V.ref ++ fls2.map V.ref)) = H3 at e3 u3 ⊢
  have j3 := j2.same e3
  have all : ∀ fl ∈ fls ++ fls2, Ask (.ref g.m) (g.bd) (.ref g.co) H3 fl := fun fl hfl => by
    subst hσ hσ2
    rcases List.mem_append.mp hfl with h' | h'
    · obtain ⟨q, hq⟩ := List.getElem?_of_mem h'
      obtain ⟨i, hi⟩ := at1 q fl hq
      exact .inl ⟨i, _, _, _, _, hi.ext (w2.ext.trans (ext_ofS e3)), rfl, rfl, rfl, rfl, rfl⟩
    · obtain ⟨q, hq⟩ := List.getElem?_of_mem h'
      obtain ⟨i, hi⟩ := at2 q fl hq
      exact .inr ⟨i, _, _, _, hi.ext (ext_ofS e3), rfl, rfl, rfl, rfl⟩
  refine ⟨l3, rfl, ⟨_, SqL.of u3⟩, for_list (K := K) (xs := (fls ++ fls2).map V.ref) (fun i σ' H' => ∃ x12 : Option V, σ' = [some (.ref sc), some (.int (k : Nat)), some (.ref g.b), some (.int (g.n : Nat)), some (.ref g.ta), some (.ref g.m), some (.int g.s), some (.int (g.ts.length : Nat)), some (.ref g.ro), some (.ref g.cg), some (.ref g.co), some g.bd, x12, x13, x14, x15, x16, x17, x18, x19, x20, none, none] ∧ Wt Ts H3 H') ⟨_, rfl, Wt.refl j3.tabs⟩ (fun i σ' H' _ ⟨_, _, w⟩ => SqL.of (ext_lst w.ext u3)) ?_ ?_⟩
  · rintro i z σ' H' hz ⟨x12, rfl, w⟩
    obtain ⟨fl, hfl, rfl⟩ : ∃ fl ∈ fls ++ fls2, V.ref fl = z := List.mem_map.mp (List.mem_of_getElem? hz)
    have j4 := j3.ext w.ext w.tabs
    have as := (all fl hfl).ext w.ext
    refine ⟨_, rfl, ?_⟩
    show tNil _ _ _
    unfold tNil
    obtain ⟨kb, bb, dt, sd⟩ := j4.bd.kn n6
    refine as.hear ⟨g.m, g.co, g.n, g.ts, _, _, rfl, rfl, j4.mac, kb, j4.co, .inl ⟨bb, dt, sd, fun p H5 e5 hp => ?_⟩⟩
    have s5 := sd _ e5
    refine ⟨_, rfl, _, dt, rfl, s5.dp, s5.sh, s5.nd, s5.deep, s5.fit, ?_⟩
    refine ⟨(by show 3 ≤ sizeLine; decide), fun q hq => ?_⟩
    have e6 := same_new (o := HO.tup [.str "state", .str dt.shown, .bl true]) hq
    have u6 : SqT K (upd H5 q (HO.tup [.str "state", .str dt.shown, .bl true])) q [.str "state", .str dt.shown, .bl true] := SqT.of upd_same
    generalize upd H5 q (HO.tup [.str "state", .str dt.shown, .bl true]) = H6 at e6 u6 ⊢
    refine ⟨p, q, _, rfl, rfl, sqT_same e6 hp, u6, fun v hv => ?_, ?_⟩
    · simp only [List.mem_cons, List.not_mem_nil, or_false] at hv
      rcases hv with rfl | rfl | rfl
      · exact .inl rfl
      · exact .inl rfl
      · exact .inl rfl
    exact ⟨_, rfl, iteF ⟨_, rfl, w.same (e5.trans e6)⟩⟩
  · rintro σ' H' ⟨x12, rfl, w⟩
    exact kk _ _ ⟨g, _, _, _, _, _, _, _, _, _, rfl, j3.ext w.ext w.tabs⟩
theorem q8 : HT (ι := Nat) (XL P w K mg base f (.ref cc) A outer st H0 E) (nthS lawS 8) (fun k σ H => ∃ (g : Gl) (x12 x13 x14 x15 x16 x17 x18 x19 x20 : Option V), σ = [some (.ref sc), some (.int (k : Nat)), some (.ref g.b), some (.int (g.n : Nat)), some (.ref g.ta), some (.ref g.m), some (.int g.s), some (.int (g.ts.length : Nat)), some (.ref g.ro), some (.ref g.cg), some (.ref g.co), some g.bd, x12, x13, x14, x15, x16, x17, x18, x19, x20, none, none] ∧ E7 K C CM Ts sc scn g H) (fun k σ H => ∃ (g : Gl) (x12 x13 x14 x15 x16 x17 x18 x19 x20 : Option V), σ = [some (.ref sc), some (.int (k : Nat)), some (.ref g.b), some (.int (g.n : Nat)), some (.ref g.ta), some (.ref g.m), some (.int g.s), some (.int (g.ts.length : Nat)), some (.ref g.ro), some (.ref g.cg), some (.ref g.co), some g.bd, x12, x13, x14, x15, x16, x17, x18, x19, x20, none, none] ∧ E7 K C CM Ts sc scn g H) := by
  obtain ⟨T, TC, TM, M, D, F, O, hear, hf, lone, hr, hl, TB, mem, only⟩ := Z
  have cs : CallR (XL P w K mg base f (.ref cc) A outer st H0 E) (.builtin "repr") (rShow K) := call_show lone (r64 hr)
  refine ⟨_, (ps_for PassesOwn.never rfl (pi_list (pe_op op_cat (pe_callC O.asks hr pass0 (pa_cons (pv 5) (pa_cons (pv 6) (pa_cons (pv 10) (pa_cons pe_non (pa_cons pe_non pa_nil)))))) (pe_callC O.walks hr pass0 (pa_cons (pv 5) (pa_cons (pv 6) (pa_cons (pv 10) (pa_cons pe_non pa_nil))))))) (pg_name (i := 12) sclaw.nd rfl (by first | exact Or.inl rfl | exact Or.inr rfl))
  (pss_one (ps_if (pt_cmpR (op_neSameK (K := K) (r64 hr)) (pe_callG hear hr lone pass0 (pa_cons (pv 12) pa_nil)) (pe_tup (pa_cons pe_str (pa_cons (pv 10) (pa_cons pe_bl pa_nil)))) (nomark _))
  (pss_one (ps_ret pe_bl))
  pss_nil))), ?_⟩
  rintro k Dd σ H ⟨g, x12, x13, x14, x15, x16, x17, x18, x19, x20, rfl, j⟩ kk
  have n6 := j.n6
  refine ⟨_, rfl, _, rfl, _, rfl, _, _, _, _, _, rfl, j.tabs, fun en σd l fls H1 w1 hl ln hσ at1 => ?_⟩
  have j1 := j.ext w1.ext w1.tabs
  refine ⟨_, rfl, _, rfl, _, rfl, _, _, _, _, rfl, j1.tabs, fun en2 σd2 l2 fls2 H2 w2 hl2 ln2 hσ2 at2 => ?_⟩
  have j2 := j1.ext w2.ext w2.tabs
  refine ⟨l, l2, _, _, rfl, rfl, ext_lst w2.ext hl, hl2, (by rw [List.length_map, List.length_map, ln, ln2]; decide), fun l3 hl3 => ?_⟩
  have e3 := same_new (o := HO.lst (fls.map V.ref ++ fls2.map V.ref)) hl3
  have u3 : upd H2 l3 (HO.lst (fls.map V.ref ++ fls2.map V.ref)) l3 = some (.lst ((fls ++ fls2).map V.ref)) := by rw [upd_same, List.map_append]
  generalize upd H2 l3 (HO.lst (fls.map V.ref ++ fls2.map V.ref)) = H3 at e3 u3 ⊢
  have j3 := j2.same e3
  have all : ∀ fl ∈ fls ++ fls2, Ask (.ref g.m) (.int g.s) (.ref g.co) H3 fl := fun fl hfl => by
    subst hσ hσ2
    rcases List.mem_append.mp hfl with h' | h'
    · obtain ⟨q, hq⟩ := List.getElem?_of_mem h'
      obtain ⟨i, hi⟩ := at1 q fl hq
      exact .inl ⟨i, _, _, _, _, hi.ext (w2.ext.trans (ext_ofS e3)), rfl, rfl, rfl, rfl, rfl⟩
    · obtain ⟨q, hq⟩ := List.getElem?_of_mem h'
      obtain ⟨i, hi⟩ := at2 q fl hq
      exact .inr ⟨i, _, _, _, hi.ext (ext_ofS e3), rfl, rfl, rfl, rfl⟩
  refine ⟨l3, rfl, ⟨_, SqL.of u3⟩, for_list (K := K) (xs := (fls ++ fls2).map V.ref) (fun i σ' H' => ∃ x12 : Option V, σ' = [some (.ref sc), some (.int (k : Nat)), some (.ref g.b), some (.int (g.n : Nat)), some (.ref g.ta), some (.ref g.m), some (.int g.s), some (.int (g.ts.length : Nat)), some (.ref g.ro), some (.ref g.cg), some (.ref g.co), some g.bd, x12, x13, x14, x15, x16, x17, x18, x19, x20, none, none] ∧ Wt Ts H3 H') ⟨_, rfl, Wt.refl j3.tabs⟩ (fun i σ' H' _ ⟨_, _, w⟩ => SqL.of (ext_lst w.ext u3)) ?_ ?_⟩
  · rintro i z σ' H' hz ⟨x12, rfl, w⟩
    obtain ⟨fl, hfl, rfl⟩ : ∃ fl ∈ fls ++ fls2, V.ref fl = z := List.mem_map.mp (List.mem_of_getElem? hz)
    have j4 := j3.ext w.ext w.tabs
    have as := (all fl hfl).ext w.ext
    refine ⟨_, rfl, ?_⟩
    show tNil _ _ _
    unfold tNil
    refine as.hear ⟨g.m, g.co, g.n, g.ts, _, _, rfl, rfl, j4.mac, .int _, j4.co, .inr ⟨g.s, rfl, j4.s0, j4.s1, j4.ne, fun p H5 e5 hp => ?_⟩⟩
    refine ⟨_, rfl, ?_⟩
    refine ⟨(by show 3 ≤ sizeLine; decide), fun q hq => ?_⟩
    have e6 := same_new (o := HO.tup [.str "refused", .ref g.co, .bl true]) hq
    have u6 : SqT K (upd H5 q (HO.tup [.str "refused", .ref g.co, .bl true])) q [.str "refused", .ref g.co, .bl true] := SqT.of upd_same
    generalize upd H5 q (HO.tup [.str "refused", .ref g.co, .bl true]) = H6 at e6 u6 ⊢
    refine ⟨p, q, _, rfl, rfl, sqT_same e6 hp, u6, fun v hv => ?_, ?_⟩
    · simp only [List.mem_cons, List.not_mem_nil, or_false] at hv
      rcases hv with rfl | rfl | rfl
      · exact .inl rfl
      · exact .inr ⟨_, rfl⟩
      · exact .inl rfl
    exact ⟨_, rfl, iteF ⟨_, rfl, w.same (e5.trans e6)⟩⟩
  · rintro σ' H' ⟨x12, rfl, w⟩
    exact kk _ _ ⟨g, _, _, _, _, _, _, _, _, _, rfl, j3.ext w.ext w.tabs⟩
end
end KT
/-! the law: what a machine forgets -/
namespace KT
open L2 PySem PySem.Spec PyProof.Rows Kx RZ TL
theorem op_timesK {X : Cx} {K : PySem.W.Frag} (hK : X.K = K := by rfl) : OpR X (binaryOp .Mult) (rTimes K) := by
  subst hK
  exact op_times
theorem flat_one {k : Nat} : (List.replicate k [V.int 0]).flatten = (List.replicate k 0).map fun c : Nat => V.int (c : Nat) := by
  rw [List.flatten_replicate_singleton, List.map_replicate]
  rfl
def inIf : Stmt → List Stmt
  | .If _ b _ _ => b
  | _ => []
/-- what is due of a machine -/
def Due (K : PySem.W.Frag) (H : Hp) (ts : List (List Int)) (s : Int) (v : V) : Prop := (v = .non ∧ Exch ts s) ∨ ∃ (p : Addr) (d : Nat) (x y : Int), v = .ref p ∧ SqT K H p [.int (d : Nat), .int x, .int y] ∧ FgAt ts s d x y
theorem Due.ext {K : PySem.W.Frag} {H H' : Hp} {ts : List (List Int)} {s : Int} {v : V} (h : Due K H ts s v) (e : LamX.ExtN H H') : Due K H' ts s v := h.imp id fun ⟨p, d, x, y, h1, h2, h3⟩ => ⟨p, d, x, y, h1, ext_sqT e h2, h3⟩
section
variable {P : Program} {w : World} {K : PySem.W.Frag} {mg : Str → Option Value} {base : Heap} {f cc : Addr} {A : Around} {outer : List Env} {st : Shared} {H0 : Hp} {E : XK} {a : Ad} {C CM cW t0 Pt : Addr} {Ts : List (Addr × Str)} {sc : Addr} {scn : List Int}
variable (Z : Lz P w K mg base f cc A outer st H0 E a C CM cW t0 Ts Pt scn)
include Z
theorem q9 : HT (ι := Nat) (XL P w K mg base f (.ref cc) A outer st H0 E) (nthS lawS 9) (fun k σ H => ∃ (g : Gl) (x12 x13 x14 x15 x16 x17 x18 x19 x20 : Option V), σ = [some (.ref sc), some (.int (k : Nat)), some (.ref g.b), some (.int (g.n : Nat)), some (.ref g.ta), some (.ref g.m), some (.int g.s), some (.int (g.ts.length : Nat)), some (.ref g.ro), some (.ref g.cg), some (.ref g.co), some g.bd, x12, x13, x14, x15, x16, x17, x18, x19, x20, none, none] ∧ E7 K C CM Ts sc scn g H) (fun k σ H => ∃ (g : Gl) (du : V) (x12 x14 x15 x16 x17 x18 x19 x20 : Option V), σ = [some (.ref sc), some (.int (k : Nat)), some (.ref g.b), some (.int (g.n : Nat)), some (.ref g.ta), some (.ref g.m), some (.int g.s), some (.int (g.ts.length : Nat)), some (.ref g.ro), some (.ref g.cg), some (.ref g.co), some g.bd, x12, some du, x14, x15, x16, x17, x18, x19, x20, none, none] ∧ E7 K C CM Ts sc scn g H ∧ Due K H g.ts g.s du) := by
  obtain ⟨T, TC, TM, M, D, F, O, hear, hf, lone, hr, hl, TB, mem, only⟩ := Z
  refine ⟨_, (ps_set (i := 13) sclaw.nd rfl (by first | exact Or.inl rfl | exact Or.inr rfl) (pe_callC O.forgets hr pass0 (pa_cons (pv 4) (pa_cons (pv 6) pa_nil)))), ?_⟩
  rintro k Dd σ H ⟨g, x12, x13, x14, x15, x16, x17, x18, x19, x20, rfl, j⟩ kk
  refine ⟨_, rfl, _, rfl, g.ta, g.ps, g.n, g.ts, g.s, rfl, j.ta, j.rows, j.ok, j.s0, j.s1, fun ex H1 e1 => ?_, fun d x y p H1 fg e1 hp => ?_⟩
  · exact kk _ _ ⟨g, .non, _, _, _, _, _, _, _, _, rfl, j.same e1, .inl ⟨rfl, ex⟩⟩
  · exact kk _ _ ⟨g, .ref p, _, _, _, _, _, _, _, _, rfl, j.same e1, .inr ⟨p, d, x, y, rfl, hp, fg⟩⟩
theorem q10a : HT (ι := Nat) (XL P w K mg base f (.ref cc) A outer st H0 E) (nthS (inIf (nthS lawS 10)) 0) (fun k σ H => ∃ (g : Gl) (p : Addr) (d : Nat) (x y : Int) (x12 x14 x15 x16 x17 x18 x19 x20 : Option V), σ = [some (.ref sc), some (.int (k : Nat)), some (.ref g.b), some (.int (g.n : Nat)), some (.ref g.ta), some (.ref g.m), some (.int g.s), some (.int (g.ts.length : Nat)), some (.ref g.ro), some (.ref g.cg), some (.ref g.co), some g.bd, x12, some (.ref p), x14, x15, x16, x17, x18, x19, x20, none, none] ∧ E7 K C CM Ts sc scn g H ∧ SqT K H p [.int (d : Nat), .int x, .int y] ∧ FgAt g.ts g.s d x y) (fun k σ H => ∃ (g : Gl) (p : Addr) (d : Nat) (x y : Int) (x12 x14 x15 x16 x17 x18 x19 x20 : Option V), σ = [some (.ref sc), some (.int (k : Nat)), some (.ref g.b), some (.int (g.n : Nat)), some (.ref g.ta), some (.ref g.m), some (.int g.s), some (.int (g.ts.length : Nat)), some (.ref g.ro), some (.ref g.cg), some (.ref g.co), some g.bd, x12, some (.ref p), x14, x15, x16, x17, x18, x19, x20, none, none] ∧ E7 K C CM Ts sc scn g H ∧ SqT K H p [.int (d : Nat), .int x, .int y] ∧ FgAt g.ts g.s d x y) := by
  obtain ⟨T, TC, TM, M, D, F, O, hear, hf, lone, hr, hl, TB, mem, only⟩ := Z
  have cs : CallR (XL P w K mg base f (.ref cc) A outer st H0 E) (.builtin "repr") (rShow K) := call_show lone (r64 hr)
  refine ⟨_, (ps_for PassesOwn.never rfl (pi_list (pe_callC O.asks hr pass0 (pa_cons (pv 5) (pa_cons (pv 6) (pa_cons (pv 9) (pa_cons pe_non (pa_cons pe_non pa_nil))))))) (pg_name (i := 12) sclaw.nd rfl (by first | exact Or.inl rfl | exact Or.inr rfl))
  (pss_one (ps_if (pt_cmpR (op_neSameK (K := K) (r64 hr)) (pe_callG hear hr lone pass0 (pa_cons (pv 12) pa_nil)) (pe_tup (pa_cons pe_str (pa_cons (pe_ix ix_tup (pv 13) pe_int (fun _ _ => rfl)) (pa_cons (pe_ix ix_tup (pv 13) pe_int (fun _ _ => rfl)) (pa_cons (pe_ix ix_tup (pv 13) pe_int (fun _ _ => rfl)) (pa_cons pe_bl pa_nil)))))) (nomark _))
  (pss_one (ps_ret pe_bl))
  pss_nil))), ?_⟩
  rintro k Dd σ H ⟨g, p, d, x, y, x12, x14, x15, x16, x17, x18, x19, x20, rfl, j, hd, fg⟩ kk
  refine ⟨_, rfl, _, rfl, _, rfl, _, _, _, _, _, rfl, j.tabs, fun en σd l fls H1 w1 hl ln hσ at1 => ?_⟩
  have j1 := j.ext w1.ext w1.tabs
  have hd1 := ext_sqT w1.ext hd
  refine ⟨l, rfl, ⟨_, SqL.of hl⟩, for_list (K := K) (xs := fls.map V.ref) (fun i σ' H' => ∃ x12 : Option V, σ' = [some (.ref sc), some (.int (k : Nat)), some (.ref g.b), some (.int (g.n : Nat)), some (.ref g.ta), some (.ref g.m), some (.int g.s), some (.int (g.ts.length : Nat)), some (.ref g.ro), some (.ref g.cg), some (.ref g.co), some g.bd, x12, some (.ref p), x14, x15, x16, x17, x18, x19, x20, none, none] ∧ Wt Ts H1 H') ⟨_, rfl, Wt.refl j1.tabs⟩ (fun i σ' H' _ ⟨_, _, w⟩ => SqL.of (ext_lst w.ext hl)) ?_ ?_⟩
  · rintro i z σ' H' hz ⟨x12, rfl, w⟩
    obtain ⟨fl, hfl, rfl⟩ : ∃ fl ∈ fls, V.ref fl = z := List.mem_map.mp (List.mem_of_getElem? hz)
    have j4 := j1.ext w.ext w.tabs
    subst hσ
    obtain ⟨q0, hq0⟩ := List.getElem?_of_mem hfl
    obtain ⟨i0, hi⟩ := at1 q0 fl hq0
    refine ⟨_, rfl, ?_⟩
    show tNil _ _ _
    unfold tNil
    refine Ask.hearF ⟨i0, _, _, _, _, hi.ext w.ext, rfl, rfl, rfl, rfl, rfl⟩ ⟨g.m, g.cg, g.n, g.ts, g.s, g.rs, _, d, x, y, rfl, rfl, rfl, j4.mac, j4.cg, j4.s0, j4.s1, j4.lr, fg, fun ph H5 e5 hp => ?_⟩
    have hd5 := sqT_same e5 (ext_sqT w.ext hd1)
    have w5 := w.same e5
    refine ⟨_, rfl, p, _, 0, _, rfl, rfl, hd5, rfl, _, rfl, p, _, 1, _, rfl, rfl, hd5, rfl, _, rfl, p, _, 2, _, rfl, rfl, hd5, rfl, ?_⟩
    refine ⟨(by show 5 ≤ sizeLine; decide), fun q hq => ?_⟩
    have e6 := same_new (o := HO.tup [.str "forgets", .int (d : Nat), .int x, .int y, .bl true]) hq
    have u6 : SqT K (upd H5 q (HO.tup [.str "forgets", .int (d : Nat), .int x, .int y, .bl true])) q [.str "forgets", .int (d : Nat), .int x, .int y, .bl true] := SqT.of upd_same
    generalize upd H5 q (HO.tup [.str "forgets", .int (d : Nat), .int x, .int y, .bl true]) = H6 at e6 u6 ⊢
    have flat : ∀ v ∈ [V.str "forgets", .int (d : Nat), .int x, .int y, .bl true], flatB v = true ∨ ∃ c, v = .ref c := fun v hv => by
      simp only [List.mem_cons, List.not_mem_nil, or_false] at hv
      rcases hv with rfl | rfl | rfl | rfl | rfl
      all_goals exact .inl rfl
    refine ⟨ph, q, _, rfl, rfl, sqT_same e6 hp, u6, flat, ?_⟩
    exact ⟨_, rfl, iteF ⟨_, rfl, w5.same e6⟩⟩
  · rintro σ' H' ⟨x12, rfl, w⟩
    exact kk _ _ ⟨g, p, d, x, y, _, _, _, _, _, _, _, _, rfl, j1.ext w.ext w.tabs, ext_sqT w.ext hd1, fg⟩
theorem q10b : HT (ι := Nat) (XL P w K mg base f (.ref cc) A outer st H0 E) (nthS (inIf (nthS lawS 10)) 1) (fun k σ H => ∃ (g : Gl) (p : Addr) (d : Nat) (x y : Int) (x12 x14 x15 x16 x17 x18 x19 x20 : Option V), σ = [some (.ref sc), some (.int (k : Nat)), some (.ref g.b), some (.int (g.n : Nat)), some (.ref g.ta), some (.ref g.m), some (.int g.s), some (.int (g.ts.length : Nat)), some (.ref g.ro), some (.ref g.cg), some (.ref g.co), some g.bd, x12, some (.ref p), x14, x15, x16, x17, x18, x19, x20, none, none] ∧ E7 K C CM Ts sc scn g H ∧ SqT K H p [.int (d : Nat), .int x, .int y] ∧ FgAt g.ts g.s d x y) (fun k σ H => ∃ (g : Gl) (p : Addr) (d : Nat) (x y : Int) (x12 x14 x15 x16 x17 x18 x19 x20 : Option V), σ = [some (.ref sc), some (.int (k : Nat)), some (.ref g.b), some (.int (g.n : Nat)), some (.ref g.ta), some (.ref g.m), some (.int g.s), some (.int (g.ts.length : Nat)), some (.ref g.ro), some (.ref g.cg), some (.ref g.co), some g.bd, x12, some (.ref p), x14, x15, x16, x17, x18, x19, x20, none, none] ∧ E7 K C CM Ts sc scn g H ∧ SqT K H p [.int (d : Nat), .int x, .int y] ∧ FgAt g.ts g.s d x y) := by
  obtain ⟨T, TC, TM, M, D, F, O, hear, hf, lone, hr, hl, TB, mem, only⟩ := Z
  have cs : CallR (XL P w K mg base f (.ref cc) A outer st H0 E) (.builtin "repr") (rShow K) := call_show lone (r64 hr)
  obtain ⟨gH, fdH, FH, mH, bH⟩ := hf
  have hfx : HF (XL P w K mg base f (.ref cc) A outer st H0 E) a C CM cW Ts gH fdH cc Pt s_law := ⟨FH, mH, bH, T, TC, TM, D, lone, TB, rfl, rfl, mem, only⟩
  refine ⟨_, (ps_if (pt_cmpR (op_neSameK (K := K) (r64 hr)) (pe_heard (k := 14) hfx hr (fun A2 o2 s2 H2 E2 f2 c2 hr' => pe_callC F.settled hr' passL (pa_cons (pv 5) (pa_cons (pv 6) (pa_cons (pe_tup pa_nil) (pa_cons (pe_op (op_timesK (K := K)) (pe_tup (pa_cons pe_int pa_nil)) (pv 7)) pa_nil)))))) (pe_tup (pa_cons pe_str (pa_cons (pe_ix ix_tup (pv 13) pe_int (fun _ _ => rfl)) (pa_cons (pe_ix ix_tup (pv 13) pe_int (fun _ _ => rfl)) (pa_cons (pe_ix ix_tup (pv 13) pe_int (fun _ _ => rfl)) (pa_cons pe_bl pa_nil)))))) (nomark _)) (pss_one (ps_ret pe_bl)) pss_nil), ?_⟩
  rintro k Dd σ H ⟨g, p, d, x, y, x12, x14, x15, x16, x17, x18, x19, x20, rfl, j, hd, fg⟩ kk
  refine ⟨j.tabs, fun H1 x1 tb1 => ?_⟩
  have j1 := j.ext x1 tb1
  refine ⟨_, rfl, _, rfl, (by show 0 ≤ sizeLine; decide), fun t1 ht1 => ?_⟩
  have e1 := same_new (o := HO.tup []) ht1
  have u1 : SqT K (upd H1 t1 (HO.tup [])) t1 [] := SqT.of upd_same
  generalize upd H1 t1 (HO.tup []) = H2 at e1 u1 ⊢
  refine ⟨(by show 1 ≤ sizeLine; decide), fun t2 ht2 => ?_⟩
  have e2 := same_new (o := HO.tup [.int 0]) ht2
  have u2 : SqT K (upd H2 t2 (HO.tup [.int 0])) t2 [.int 0] := SqT.of upd_same
  generalize upd H2 t2 (HO.tup [.int 0]) = H3 at e2 u2 ⊢
  have l4 := j.ok.l4
  refine ⟨_, rfl, t2, g.ts.length, _, rfl, rfl, u2, by simp, by omega, by decide, fun t3 H4 e3 hz => ?_⟩
  rw [flat_one] at hz
  have e13 := e1.trans (e2.trans e3)
  have j4 := j1.same e13
  refine .inl ⟨g.m, t1, t3, [], g.n, g.ts, [], g.s, List.replicate g.ts.length 0, rfl, j4.mac, j4.s0, j4.s1, .inr (sqT_same (e2.trans e3) u1), trivial, ⟨(fun pr h => nomatch h), by decide⟩, .inr hz, by rw [List.length_replicate], fun d' x' y' fg' dd H5 e5 hdd => ?_, fun L l H5 qs cl mc => (fg.no mc.ex).elim⟩
  obtain ⟨rfl, rfl, rfl⟩ := fg.one fg'
  refine ⟨dd, rfl, .inl ⟨rfl, d, x, y, hdd, fun ph H6 e6 hp => ?_⟩⟩
  have hd5 := sqT_same (e13.trans (e5.trans e6)) (ext_sqT x1 hd)
  have j6 := j4.same (e5.trans e6)
  refine ⟨_, rfl, p, _, 0, _, rfl, rfl, hd5, rfl, _, rfl, p, _, 1, _, rfl, rfl, hd5, rfl, _, rfl, p, _, 2, _, rfl, rfl, hd5, rfl, ?_⟩
  refine ⟨(by show 5 ≤ sizeLine; decide), fun q hq => ?_⟩
  have e7 := same_new (o := HO.tup [.str "forgets", .int (d : Nat), .int x, .int y, .bl true]) hq
  have u7 : SqT K (upd H6 q (HO.tup [.str "forgets", .int (d : Nat), .int x, .int y, .bl true])) q [.str "forgets", .int (d : Nat), .int x, .int y, .bl true] := SqT.of upd_same
  generalize upd H6 q (HO.tup [.str "forgets", .int (d : Nat), .int x, .int y, .bl true]) = H7 at e7 u7 ⊢
  have flat : ∀ v ∈ [V.str "forgets", .int (d : Nat), .int x, .int y, .bl true], flatB v = true ∨ ∃ c, v = .ref c := fun v hv => by
    simp only [List.mem_cons, List.not_mem_nil, or_false] at hv
    rcases hv with rfl | rfl | rfl | rfl | rfl
    all_goals exact .inl rfl
  refine ⟨ph, q, _, rfl, rfl, sqT_same e7 hp, u7, flat, ?_⟩
  exact ⟨_, rfl, iteF (kk _ _ ⟨g, p, d, x, y, _, _, _, _, _, _, _, _, rfl, j6.same e7, sqT_same e7 hd5, fg⟩)⟩
theorem q10 : HT (ι := Nat) (XL P w K mg base f (.ref cc) A outer st H0 E) (nthS lawS 10) (fun k σ H => ∃ (g : Gl) (du : V) (x12 x14 x15 x16 x17 x18 x19 x20 : Option V), σ = [some (.ref sc), some (.int (k : Nat)), some (.ref g.b), some (.int (g.n : Nat)), some (.ref g.ta), some (.ref g.m), some (.int g.s), some (.int (g.ts.length : Nat)), some (.ref g.ro), some (.ref g.cg), some (.ref g.co), some g.bd, x12, some du, x14, x15, x16, x17, x18, x19, x20, none, none] ∧ E7 K C CM Ts sc scn g H ∧ Due K H g.ts g.s du) (fun k σ H => ∃ (g : Gl) (x12 x13 x14 x15 x16 x17 x18 x19 x20 : Option V), σ = [some (.ref sc), some (.int (k : Nat)), some (.ref g.b), some (.int (g.n : Nat)), some (.ref g.ta), some (.ref g.m), some (.int g.s), some (.int (g.ts.length : Nat)), some (.ref g.ro), some (.ref g.cg), some (.ref g.co), some g.bd, x12, x13, x14, x15, x16, x17, x18, x19, x20, none, none] ∧ E7 K C CM Ts sc scn g H) := by
  obtain ⟨ta, pa, ka⟩ := q10a Z
  obtain ⟨tb, pb, kb⟩ := q10b Z
  refine ⟨_, (ps_if (pt_cmpR op_notN (pv 13) pe_non (nomark _)) (pss_cons pa (pss_one pb)) pss_nil), ?_⟩
  rintro k Dd σ H ⟨g, du, x12, x14, x15, x16, x17, x18, x19, x20, rfl, j, hdu⟩ kk
  refine ⟨_, rfl, rfl, _, rfl, ?_⟩
  rcases hdu with ⟨rfl, ex⟩ | ⟨p, d, x, y, rfl, hd, fg⟩
  · exact iteF (kk _ _ ⟨g, _, _, _, _, _, _, _, _, _, rfl, j⟩)
  · refine iteT (ka k _ _ _ ⟨g, p, d, x, y, _, _, _, _, _, _, _, _, rfl, j, hd, fg⟩ fun σ1 H1 h1 => kb k _ _ _ h1 fun σ2 H2 h2 => ?_)
    obtain ⟨g, p, d, x, y, x12, x14, x15, x16, x17, x18, x19, x20, rfl, j, hd, fg⟩ := h2
    exact kk _ _ ⟨g, _, _, _, _, _, _, _, _, _, rfl, j⟩
theorem q11 : HT (ι := Nat) (XL P w K mg base f (.ref cc) A outer st H0 E) (nthS lawS 11) (fun k σ H => ∃ (g : Gl) (x12 x13 x14 x15 x16 x17 x18 x19 x20 : Option V), σ = [some (.ref sc), some (.int (k : Nat)), some (.ref g.b), some (.int (g.n : Nat)), some (.ref g.ta), some (.ref g.m), some (.int g.s), some (.int (g.ts.length : Nat)), some (.ref g.ro), some (.ref g.cg), some (.ref g.co), some g.bd, x12, x13, x14, x15, x16, x17, x18, x19, x20, none, none] ∧ E7 K C CM Ts sc scn g H) (fun k σ H => ∃ (g : Gl) (x12 x13 x14 x15 x16 x17 x18 x19 x20 : Option V), σ = [some (.ref sc), some (.int (k : Nat)), some (.ref g.b), some (.int (g.n : Nat)), some (.ref g.ta), some (.ref g.m), some (.int g.s), some (.int (g.ts.length : Nat)), some (.ref g.ro), some (.ref g.cg), some (.ref g.co), some g.bd, x12, x13, x14, x15, x16, x17, x18, x19, x20, none, none] ∧ E7 K C CM Ts sc scn g H) := by
  obtain ⟨T, TC, TM, M, D, F, O, hear, hf, lone, hr, hl, TB, mem, only⟩ := Z
  have cs : CallR (XL P w K mg base f (.ref cc) A outer st H0 E) (.builtin "repr") (rShow K) := call_show lone (r64 hr)
  obtain ⟨gH, fdH, FH, mH, bH⟩ := hf
  have hfx : HF (XL P w K mg base f (.ref cc) A outer st H0 E) a C CM cW Ts gH fdH cc Pt s_law := ⟨FH, mH, bH, T, TC, TM, D, lone, TB, rfl, rfl, mem, only⟩
  refine ⟨_, (ps_if (pt_cmpR (op_neSameK (K := K) (r64 hr)) (pe_heard (k := 14) hfx hr (fun A2 o2 s2 H2 E2 f2 c2 hr' => pe_callC F.settled hr' passL (pa_cons (pv 5) (pa_cons (pv 11) (pa_cons (pe_tup pa_nil) (pa_cons (pe_op (op_timesK (K := K)) (pe_tup (pa_cons pe_int pa_nil)) (pv 7)) pa_nil)))))) (pe_tup (pa_cons pe_str (pa_cons (pe_callB cs (by rfl) T.z_repr (by decide +kernel) (pa_cons (pv 11) pa_nil)) (pa_cons pe_bl pa_nil)))) (nomark _)) (pss_one (ps_ret pe_bl)) pss_nil), ?_⟩
  rintro k Dd σ H ⟨g, x12, x13, x14, x15, x16, x17, x18, x19, x20, rfl, j⟩ kk
  have n6 := j.n6
  refine ⟨j.tabs, fun H1 x1 tb1 => ?_⟩
  have j1 := j.ext x1 tb1
  refine ⟨_, rfl, _, rfl, (by show 0 ≤ sizeLine; decide), fun t1 ht1 => ?_⟩
  have e1 := same_new (o := HO.tup []) ht1
  have u1 : SqT K (upd H1 t1 (HO.tup [])) t1 [] := SqT.of upd_same
  generalize upd H1 t1 (HO.tup []) = H2 at e1 u1 ⊢
  refine ⟨(by show 1 ≤ sizeLine; decide), fun t2 ht2 => ?_⟩
  have e2 := same_new (o := HO.tup [.int 0]) ht2
  have u2 : SqT K (upd H2 t2 (HO.tup [.int 0])) t2 [.int 0] := SqT.of upd_same
  generalize upd H2 t2 (HO.tup [.int 0]) = H3 at e2 u2 ⊢
  have l4 := j.ok.l4
  refine ⟨_, rfl, t2, g.ts.length, _, rfl, rfl, u2, by simp, by omega, by decide, fun t3 H4 e3 hz => ?_⟩
  rw [flat_one] at hz
  have e13 := e1.trans (e2.trans e3)
  have j4 := j1.same e13
  obtain ⟨kb, bb, dt, sd⟩ := j4.bd.kn n6
  refine .inr ⟨.ref g.m, g.bd, [.ref t1, .ref t3], rfl, rfl, g.m, g.n, g.ts, rfl, j4.mac, kb, bb, fun dd H5 e5 hdd => ?_⟩
  refine ⟨dd, rfl, .inr (.inr (.inr (.inr ⟨rfl, g.bd, dt, hdd, sd _ e5, fun ph H6 e6 hp => ?_⟩)))⟩
  have s5 := sd _ (e5.trans e6)
  refine ⟨_, rfl, _, dt, rfl, s5.dp, s5.sh, s5.nd, s5.deep, s5.fit, ?_⟩
  refine ⟨(by show 3 ≤ sizeLine; decide), fun q hq => ?_⟩
  have e7 := same_new (o := HO.tup [.str "state", .str dt.shown, .bl true]) hq
  have u7 : SqT K (upd H6 q (HO.tup [.str "state", .str dt.shown, .bl true])) q [.str "state", .str dt.shown, .bl true] := SqT.of upd_same
  generalize upd H6 q (HO.tup [.str "state", .str dt.shown, .bl true]) = H7 at e7 u7 ⊢
  refine ⟨ph, q, _, rfl, rfl, sqT_same e7 hp, u7, fun v hv => ?_, ?_⟩
  · simp only [List.mem_cons, List.not_mem_nil, or_false] at hv
    rcases hv with rfl | rfl | rfl
    all_goals exact .inl rfl
  exact ⟨_, rfl, iteF (kk _ _ ⟨g, _, _, _, _, _, _, _, _, _, rfl, j4.same (e5.trans (e6.trans e7))⟩)⟩
end
end KT
/-! the law, the other half: its words -/
namespace KT
open L2 PySem PySem.Spec PyProof.Rows Kx RZ TL
structure Gm where
  b : Addr
  ta : Addr
  ps : List V
  n : Nat
  ts : List (List Int)
  s : Int
  m : Addr
  ro : Addr
  rs : List Int
  re : Addr
  es : List Int
  c : Addr
  ak : Nat
  sh : Addr
  xs : List V
structure U0 (K : PySem.W.Frag) (C CM : Addr) (Ts : List (Addr × Str)) (sc : Addr) (scn : List Int) (H : Hp) : Prop where
  tabs : LamX.Tabs Ts H
  hs : SqL K H sc (scn.map V.int)
theorem U0.same {K : PySem.W.Frag} {C CM : Addr} {Ts : List (Addr × Str)} {sc : Addr} {scn : List Int} {H H' : Hp} (h : U0 K C CM Ts sc scn H) (e : Same H H') : U0 K C CM Ts sc scn H' where
  tabs := h.tabs.ext e
  hs := sqL_same e h.hs
structure U1 (K : PySem.W.Frag) (C CM : Addr) (Ts : List (Addr × Str)) (sc : Addr) (scn : List Int) (g : Gm) (H : Hp) : Prop where
  tabs : LamX.Tabs Ts H
  hs : SqL K H sc (scn.map V.int)
  box : ∃ t, H g.b = some (bx t)
  sb : sc = g.b → ∀ H' : Hp, SqL K H' sc (scn.map V.int)
theorem U1.same {K : PySem.W.Frag} {C CM : Addr} {Ts : List (Addr × Str)} {sc : Addr} {scn : List Int} {H H' : Hp} {g : Gm} (h : U1 K C CM Ts sc scn g H) (e : Same H H') : U1 K C CM Ts sc scn g H' where
  tabs := h.tabs.ext e
  hs := sqL_same e h.hs
  box := h.box.elim fun t q => ⟨t, e _ _ q⟩
  sb := h.sb
theorem U1.mv {K : PySem.W.Frag} {C CM : Addr} {Ts : List (Addr × Str)} {sc : Addr} {scn : List Int} {H H' : Hp} {g : Gm} (h : U1 K C CM Ts sc scn g H) (m : Mv g.b H H') : U1 K C CM Ts sc scn g H' := by
  obtain ⟨t, hb⟩ := h.box
  exact {
    tabs := tabs_mv m hb h.tabs,
    hs := hs_mv m h.hs h.sb,
    box := m.2,
    sb := h.sb }
structure U2 (K : PySem.W.Frag) (C CM : Addr) (Ts : List (Addr × Str)) (sc : Addr) (scn : List Int) (g : Gm) (H : Hp) : Prop where
  tabs : LamX.Tabs Ts H
  hs : SqL K H sc (scn.map V.int)
  box : ∃ t, H g.b = some (bx t)
  sb : sc = g.b → ∀ H' : Hp, SqL K H' sc (scn.map V.int)
  ta : SqT K H g.ta g.ps
  rows : RowsBy (SqT K H) g.ps g.ts
  ok : Mok g.n g.ts
  mx : Mx g.n g.ts g.s
theorem U2.same {K : PySem.W.Frag} {C CM : Addr} {Ts : List (Addr × Str)} {sc : Addr} {scn : List Int} {H H' : Hp} {g : Gm} (h : U2 K C CM Ts sc scn g H) (e : Same H H') : U2 K C CM Ts sc scn g H' where
  tabs := h.tabs.ext e
  hs := sqL_same e h.hs
  box := h.box.elim fun t q => ⟨t, e _ _ q⟩
  sb := h.sb
  ta := sqT_same e h.ta
  rows := h.rows.imp fun _ _ z => sqT_same e z
  ok := h.ok
  mx := h.mx
theorem U2.mv {K : PySem.W.Frag} {C CM : Addr} {Ts : List (Addr × Str)} {sc : Addr} {scn : List Int} {H H' : Hp} {g : Gm} (h : U2 K C CM Ts sc scn g H) (m : Mv g.b H H') : U2 K C CM Ts sc scn g H' := by
  obtain ⟨t, hb⟩ := h.box
  exact {
    tabs := tabs_mv m hb h.tabs,
    hs := hs_mv m h.hs h.sb,
    box := m.2,
    sb := h.sb,
    ta := m.sqT hb h.ta,
    rows := h.rows.imp fun _ _ z => m.sqT hb z,
    ok := h.ok,
    mx := h.mx }
structure U3 (K : PySem.W.Frag) (C CM : Addr) (Ts : List (Addr × Str)) (sc : Addr) (scn : List Int) (g : Gm) (H : Hp) : Prop where
  tabs : LamX.Tabs Ts H
  hs : SqL K H sc (scn.map V.int)
  box : ∃ t, H g.b = some (bx t)
  sb : sc = g.b → ∀ H' : Hp, SqL K H' sc (scn.map V.int)
  ta : SqT K H g.ta g.ps
  rows : RowsBy (SqT K H) g.ps g.ts
  ok : Mok g.n g.ts
  mx : Mx g.n g.ts g.s
  mac : McAt K CM H g.m g.n g.ts
theorem U3.same {K : PySem.W.Frag} {C CM : Addr} {Ts : List (Addr × Str)} {sc : Addr} {scn : List Int} {H H' : Hp} {g : Gm} (h : U3 K C CM Ts sc scn g H) (e : Same H H') : U3 K C CM Ts sc scn g H' where
  tabs := h.tabs.ext e
  hs := sqL_same e h.hs
  box := h.box.elim fun t q => ⟨t, e _ _ q⟩
  sb := h.sb
  ta := sqT_same e h.ta
  rows := h.rows.imp fun _ _ z => sqT_same e z
  ok := h.ok
  mx := h.mx
  mac := h.mac.same e
theorem U3.mv {K : PySem.W.Frag} {C CM : Addr} {Ts : List (Addr × Str)} {sc : Addr} {scn : List Int} {H H' : Hp} {g : Gm} (h : U3 K C CM Ts sc scn g H) (m : Mv g.b H H') : U3 K C CM Ts sc scn g H' := by
  obtain ⟨t, hb⟩ := h.box
  exact {
    tabs := tabs_mv m hb h.tabs,
    hs := hs_mv m h.hs h.sb,
    box := m.2,
    sb := h.sb,
    ta := m.sqT hb h.ta,
    rows := h.rows.imp fun _ _ z => m.sqT hb z,
    ok := h.ok,
    mx := h.mx,
    mac := m.mc hb h.mac }
structure U4 (K : PySem.W.Frag) (C CM : Addr) (Ts : List (Addr × Str)) (sc : Addr) (scn : List Int) (g : Gm) (H : Hp) : Prop where
  tabs : LamX.Tabs Ts H
  hs : SqL K H sc (scn.map V.int)
  box : ∃ t, H g.b = some (bx t)
  sb : sc = g.b → ∀ H' : Hp, SqL K H' sc (scn.map V.int)
  ta : SqT K H g.ta g.ps
  rows : RowsBy (SqT K H) g.ps g.ts
  ok : Mok g.n g.ts
  mx : Mx g.n g.ts g.s
  mac : McAt K CM H g.m g.n g.ts
  rob : g.ro ≠ g.b
  ro : H g.ro = some (.lst (g.rs.map V.int))
  lr : g.rs.length = g.ts.length
  r0 : ∀ r ∈ g.rs, 0 ≤ r ∧ r ≤ 4
  reb : g.re ≠ g.b
  re : H g.re = some (.lst (g.es.map V.int))
  le : g.es.length = g.ts.length
  e0 : ∀ r ∈ g.es, 0 ≤ r ∧ r ≤ 3
theorem U4.same {K : PySem.W.Frag} {C CM : Addr} {Ts : List (Addr × Str)} {sc : Addr} {scn : List Int} {H H' : Hp} {g : Gm} (h : U4 K C CM Ts sc scn g H) (e : Same H H') : U4 K C CM Ts sc scn g H' where
  tabs := h.tabs.ext e
  hs := sqL_same e h.hs
  box := h.box.elim fun t q => ⟨t, e _ _ q⟩
  sb := h.sb
  ta := sqT_same e h.ta
  rows := h.rows.imp fun _ _ z => sqT_same e z
  ok := h.ok
  mx := h.mx
  mac := h.mac.same e
  rob := h.rob
  ro := e _ _ h.ro
  lr := h.lr
  r0 := h.r0
  reb := h.reb
  re := e _ _ h.re
  le := h.le
  e0 := h.e0
theorem U4.mv {K : PySem.W.Frag} {C CM : Addr} {Ts : List (Addr × Str)} {sc : Addr} {scn : List Int} {H H' : Hp} {g : Gm} (h : U4 K C CM Ts sc scn g H) (m : Mv g.b H H') : U4 K C CM Ts sc scn g H' := by
  obtain ⟨t, hb⟩ := h.box
  exact {
    tabs := tabs_mv m hb h.tabs,
    hs := hs_mv m h.hs h.sb,
    box := m.2,
    sb := h.sb,
    ta := m.sqT hb h.ta,
    rows := h.rows.imp fun _ _ z => m.sqT hb z,
    ok := h.ok,
    mx := h.mx,
    mac := m.mc hb h.mac,
    rob := h.rob,
    ro := m.1 _ _ h.rob h.ro,
    lr := h.lr,
    r0 := h.r0,
    reb := h.reb,
    re := m.1 _ _ h.reb h.re,
    le := h.le,
    e0 := h.e0 }
structure U5 (K : PySem.W.Frag) (C CM : Addr) (Ts : List (Addr × Str)) (sc : Addr) (scn : List Int) (g : Gm) (H : Hp) : Prop where
  tabs : LamX.Tabs Ts H
  hs : SqL K H sc (scn.map V.int)
  box : ∃ t, H g.b = some (bx t)
  sb : sc = g.b → ∀ H' : Hp, SqL K H' sc (scn.map V.int)
  ta : SqT K H g.ta g.ps
  rows : RowsBy (SqT K H) g.ps g.ts
  ok : Mok g.n g.ts
  mx : Mx g.n g.ts g.s
  mac : McAt K CM H g.m g.n g.ts
  rob : g.ro ≠ g.b
  ro : H g.ro = some (.lst (g.rs.map V.int))
  lr : g.rs.length = g.ts.length
  r0 : ∀ r ∈ g.rs, 0 ≤ r ∧ r ≤ 4
  reb : g.re ≠ g.b
  re : H g.re = some (.lst (g.es.map V.int))
  le : g.es.length = g.ts.length
  e0 : ∀ r ∈ g.es, 0 ≤ r ∧ r ≤ 3
  cn : CnAt K C H g.c g.rs g.es
  ak : g.ak < g.ts.length
theorem U5.same {K : PySem.W.Frag} {C CM : Addr} {Ts : List (Addr × Str)} {sc : Addr} {scn : List Int} {H H' : Hp} {g : Gm} (h : U5 K C CM Ts sc scn g H) (e : Same H H') : U5 K C CM Ts sc scn g H' where
  tabs := h.tabs.ext e
  hs := sqL_same e h.hs
  box := h.box.elim fun t q => ⟨t, e _ _ q⟩
  sb := h.sb
  ta := sqT_same e h.ta
  rows := h.rows.imp fun _ _ z => sqT_same e z
  ok := h.ok
  mx := h.mx
  mac := h.mac.same e
  rob := h.rob
  ro := e _ _ h.ro
  lr := h.lr
  r0 := h.r0
  reb := h.reb
  re := e _ _ h.re
  le := h.le
  e0 := h.e0
  cn := h.cn.same e
  ak := h.ak
theorem U5.mv {K : PySem.W.Frag} {C CM : Addr} {Ts : List (Addr × Str)} {sc : Addr} {scn : List Int} {H H' : Hp} {g : Gm} (h : U5 K C CM Ts sc scn g H) (m : Mv g.b H H') : U5 K C CM Ts sc scn g H' := by
  obtain ⟨t, hb⟩ := h.box
  exact {
    tabs := tabs_mv m hb h.tabs,
    hs := hs_mv m h.hs h.sb,
    box := m.2,
    sb := h.sb,
    ta := m.sqT hb h.ta,
    rows := h.rows.imp fun _ _ z => m.sqT hb z,
    ok := h.ok,
    mx := h.mx,
    mac := m.mc hb h.mac,
    rob := h.rob,
    ro := m.1 _ _ h.rob h.ro,
    lr := h.lr,
    r0 := h.r0,
    reb := h.reb,
    re := m.1 _ _ h.reb h.re,
    le := h.le,
    e0 := h.e0,
    cn := mv_cn m hb h.cn,
    ak := h.ak }
structure U6 (K : PySem.W.Frag) (C CM : Addr) (Ts : List (Addr × Str)) (sc : Addr) (scn : List Int) (g : Gm) (H : Hp) : Prop where
  tabs : LamX.Tabs Ts H
  hs : SqL K H sc (scn.map V.int)
  box : ∃ t, H g.b = some (bx t)
  sb : sc = g.b → ∀ H' : Hp, SqL K H' sc (scn.map V.int)
  ta : SqT K H g.ta g.ps
  rows : RowsBy (SqT K H) g.ps g.ts
  ok : Mok g.n g.ts
  mx : Mx g.n g.ts g.s
  mac : McAt K CM H g.m g.n g.ts
  rob : g.ro ≠ g.b
  ro : H g.ro = some (.lst (g.rs.map V.int))
  lr : g.rs.length = g.ts.length
  r0 : ∀ r ∈ g.rs, 0 ≤ r ∧ r ≤ 4
  reb : g.re ≠ g.b
  re : H g.re = some (.lst (g.es.map V.int))
  le : g.es.length = g.ts.length
  e0 : ∀ r ∈ g.es, 0 ≤ r ∧ r ≤ 3
  cn : CnAt K C H g.c g.rs g.es
  ak : g.ak < g.ts.length
  shb : g.sh ≠ g.b
  shl : H g.sh = some (.lst g.xs)
  ss : sc = g.sh → ∀ H' : Hp, SqL K H' sc (scn.map V.int)
  xz : g.xs = List.replicate g.ts.length (V.int 0)
theorem U6.same {K : PySem.W.Frag} {C CM : Addr} {Ts : List (Addr × Str)} {sc : Addr} {scn : List Int} {H H' : Hp} {g : Gm} (h : U6 K C CM Ts sc scn g H) (e : Same H H') : U6 K C CM Ts sc scn g H' where
  tabs := h.tabs.ext e
  hs := sqL_same e h.hs
  box := h.box.elim fun t q => ⟨t, e _ _ q⟩
  sb := h.sb
  ta := sqT_same e h.ta
  rows := h.rows.imp fun _ _ z => sqT_same e z
  ok := h.ok
  mx := h.mx
  mac := h.mac.same e
  rob := h.rob
  ro := e _ _ h.ro
  lr := h.lr
  r0 := h.r0
  reb := h.reb
  re := e _ _ h.re
  le := h.le
  e0 := h.e0
  cn := h.cn.same e
  ak := h.ak
  shb := h.shb
  shl := e _ _ h.shl
  ss := h.ss
  xz := h.xz
theorem U6.mv {K : PySem.W.Frag} {C CM : Addr} {Ts : List (Addr × Str)} {sc : Addr} {scn : List Int} {H H' : Hp} {g : Gm} (h : U6 K C CM Ts sc scn g H) (m : Mv g.b H H') : U6 K C CM Ts sc scn g H' := by
  obtain ⟨t, hb⟩ := h.box
  exact {
    tabs := tabs_mv m hb h.tabs,
    hs := hs_mv m h.hs h.sb,
    box := m.2,
    sb := h.sb,
    ta := m.sqT hb h.ta,
    rows := h.rows.imp fun _ _ z => m.sqT hb z,
    ok := h.ok,
    mx := h.mx,
    mac := m.mc hb h.mac,
    rob := h.rob,
    ro := m.1 _ _ h.rob h.ro,
    lr := h.lr,
    r0 := h.r0,
    reb := h.reb,
    re := m.1 _ _ h.reb h.re,
    le := h.le,
    e0 := h.e0,
    cn := mv_cn m hb h.cn,
    ak := h.ak,
    shb := h.shb,
    shl := m.1 _ _ h.shb h.shl,
    ss := h.ss,
    xz := h.xz }
theorem U6.ext {K : PySem.W.Frag} {C CM : Addr} {Ts : List (Addr × Str)} {sc : Addr} {scn : List Int} {H H' : Hp} {g : Gm} (h : U6 K C CM Ts sc scn g H) (e : LamX.ExtN H H') (tb : LamX.Tabs Ts H') : U6 K C CM Ts sc scn g H' where
  tabs := tb
  hs := ext_sqL e h.hs
  box := h.box.elim fun t q => ⟨t, ext_lst e q⟩
  sb := h.sb
  ta := ext_sqT e h.ta
  rows := h.rows.imp fun _ _ z => ext_sqT e z
  ok := h.ok
  mx := h.mx
  mac := ext_mc e h.mac
  rob := h.rob
  ro := ext_lst e h.ro
  lr := h.lr
  r0 := h.r0
  reb := h.reb
  re := ext_lst e h.re
  le := h.le
  e0 := h.e0
  cn := ext_cn e h.cn
  ak := h.ak
  shb := h.shb
  shl := ext_lst e h.shl
  ss := h.ss
  xz := h.xz
end KT
/-! the law, the other half -/
namespace KT
open L2 PySem PySem.Spec PyProof.Rows Kx RZ TL
section
variable {P : Program} {w : World} {K : PySem.W.Frag} {mg : Str → Option Value} {base : Heap} {f cc : Addr} {A : Around} {outer : List Env} {st : Shared} {H0 : Hp} {E : XK} {a : Ad} {C CM cW t0 Pt : Addr} {Ts : List (Addr × Str)} {sc : Addr} {scn : List Int}
variable (Z : Lz P w K mg base f cc A outer st H0 E a C CM cW t0 Ts Pt scn)
include Z
theorem q12 : HT (ι := Nat) (XL P w K mg base f (.ref cc) A outer st H0 E) (nthS lawS 12) (fun k σ H => ∃ (g : Gm) (x3 x4 x5 x6 x7 x8 x9 x10 x11 x12 x13 x14 x15 x16 x17 x18 x19 x20 : Option V), σ = [some (.ref sc), some (.int (k : Nat)), some (.ref g.b), x3, x4, x5, x6, x7, x8, x9, x10, x11, x12, x13, x14, x15, x16, x17, x18, x19, x20, none, none] ∧ U1 K C CM Ts sc scn g H) (fun k σ H => ∃ (g : Gm) (x3 x5 x7 x8 x9 x10 x11 x12 x13 x14 x15 x16 x17 x18 x19 x20 : Option V), σ = [some (.ref sc), some (.int (k : Nat)), some (.ref g.b), x3, some (.ref g.ta), x5, some (.int g.s), x7, x8, x9, x10, x11, x12, x13, x14, x15, x16, x17, x18, x19, x20, none, none] ∧ U2 K C CM Ts sc scn g H) := by
  obtain ⟨T, TC, TM, M, D, F, O, hear, hf, lone, hr, hl, TB, mem, only⟩ := Z
  refine ⟨_, (ps_asg (pe_callC O.tables hr pass0 (pa_cons (pv 2) (pa_cons pe_int (pa_cons pe_int pa_nil)))) (pg_tup rfl (pgs_cons (pg_name (i := 4) sclaw.nd rfl (by first | exact Or.inl rfl | exact Or.inr rfl)) (pgs_cons (pg_name (i := 6) sclaw.nd rfl (by first | exact Or.inl rfl | exact Or.inr rfl)) pgs_nil)))), ?_⟩
  rintro k Dd σ H ⟨g, x3, x4, x5, x6, x7, x8, x9, x10, x11, x12, x13, x14, x15, x16, x17, x18, x19, x20, rfl, j⟩ kk
  obtain ⟨t, hb⟩ := j.box
  refine ⟨_, rfl, g.b, t, 5, 3, rfl, hb, by decide, by decide, by decide, by decide, fun p tt ps n ts s H1 m1 hp ht rows ok s0 s1 ex => ?_⟩
  have j1 := j.mv m1
  refine ⟨p, _, rfl, hp, rfl, _, _, rfl, _, _, rfl, rfl, ?_⟩
  exact kk _ _ ⟨{ g with ta := tt, ps := ps, n := n, ts := ts, s := s }, _, _, _, _, _, _, _, _, _, _, _, _, _, _, _, _, rfl, { tabs := j1.tabs, hs := j1.hs, box := j1.box, sb := j1.sb, ta := ht, rows := rows, ok := ok, mx := ⟨s0, s1, ex⟩ }⟩
theorem q13 : HT (ι := Nat) (XL P w K mg base f (.ref cc) A outer st H0 E) (nthS lawS 13) (fun k σ H => ∃ (g : Gm) (x3 x5 x7 x8 x9 x10 x11 x12 x13 x14 x15 x16 x17 x18 x19 x20 : Option V), σ = [some (.ref sc), some (.int (k : Nat)), some (.ref g.b), x3, some (.ref g.ta), x5, some (.int g.s), x7, x8, x9, x10, x11, x12, x13, x14, x15, x16, x17, x18, x19, x20, none, none] ∧ U2 K C CM Ts sc scn g H) (fun k σ H => ∃ (g : Gm) (x3 x8 x9 x10 x11 x12 x13 x14 x15 x16 x17 x18 x19 x20 : Option V), σ = [some (.ref sc), some (.int (k : Nat)), some (.ref g.b), x3, some (.ref g.ta), some (.ref g.m), some (.int g.s), some (.int (g.ts.length : Nat)), x8, x9, x10, x11, x12, x13, x14, x15, x16, x17, x18, x19, x20, none, none] ∧ U3 K C CM Ts sc scn g H) := by
  obtain ⟨T, TC, TM, M, D, F, O, hear, hf, lone, hr, hl, TB, mem, only⟩ := Z
  refine ⟨_, (ps_asg (pe_tup (pa_cons (pe_mac (K := K) M TM hr pzN (pa_cons (pv 4) pa_nil)) (pa_cons (pe_callB call_len_seq (by rfl) T.z_len PySem.boot_len (pa_cons (pv 4) pa_nil)) pa_nil))) (pg_tup rfl (pgs_cons (pg_name (i := 5) sclaw.nd rfl (by first | exact Or.inl rfl | exact Or.inr rfl)) (pgs_cons (pg_name (i := 7) sclaw.nd rfl (by first | exact Or.inl rfl | exact Or.inr rfl)) pgs_nil)))), ?_⟩
  rintro k Dd σ H ⟨g, x3, x5, x7, x8, x9, x10, x11, x12, x13, x14, x15, x16, x17, x18, x19, x20, rfl, j⟩ kk
  have lps := j.rows.length
  have l4 := j.ok.l4
  refine ⟨_, rfl, fun x dy hx hdy ne => mc_make j.ok (.inr j.ta) (j.rows.imp fun _ _ z => .inr z) hx hdy ne fun H1 e1 mcA => ?_⟩
  have j1 := j.same e1
  refine ⟨_, rfl, _, _, rfl, .inr j1.ta, ?_⟩
  rw [lps]
  refine ⟨(by show 2 ≤ sizeLine; decide), fun q hq => ?_⟩
  have e3 := same_new (o := HO.tup [.ref x, .int (g.ts.length : Nat)]) hq
  have u3 : SqT K (upd H1 q (HO.tup [.ref x, .int (g.ts.length : Nat)])) q [.ref x, .int (g.ts.length : Nat)] := SqT.of upd_same
  generalize upd H1 q (HO.tup [.ref x, .int (g.ts.length : Nat)]) = H3 at e3 u3 ⊢
  have j3 := j1.same e3
  refine ⟨q, _, rfl, u3, rfl, _, _, rfl, _, _, rfl, rfl, ?_⟩
  exact kk _ _ ⟨{ g with m := x }, _, _, _, _, _, _, _, _, _, _, _, _, _, _, rfl, { tabs := j3.tabs, hs := j3.hs, box := j3.box, sb := j3.sb, ta := j3.ta, rows := j3.rows, ok := j3.ok, mx := j3.mx, mac := mcA.same e3 }⟩
theorem q14 : HT (ι := Nat) (XL P w K mg base f (.ref cc) A outer st H0 E) (nthS lawS 14) (fun k σ H => ∃ (g : Gm) (x3 x8 x9 x10 x11 x12 x13 x14 x15 x16 x17 x18 x19 x20 : Option V), σ = [some (.ref sc), some (.int (k : Nat)), some (.ref g.b), x3, some (.ref g.ta), some (.ref g.m), some (.int g.s), some (.int (g.ts.length : Nat)), x8, x9, x10, x11, x12, x13, x14, x15, x16, x17, x18, x19, x20, none, none] ∧ U3 K C CM Ts sc scn g H) (fun k σ H => ∃ (g : Gm) (x3 x9 x10 x11 x12 x13 x15 x16 x17 x18 x19 x20 : Option V), σ = [some (.ref sc), some (.int (k : Nat)), some (.ref g.b), x3, some (.ref g.ta), some (.ref g.m), some (.int g.s), some (.int (g.ts.length : Nat)), some (.ref g.ro), x9, x10, x11, x12, x13, some (.ref g.re), x15, x16, x17, x18, x19, x20, none, none] ∧ U4 K C CM Ts sc scn g H) := by
  obtain ⟨T, TC, TM, M, D, F, O, hear, hf, lone, hr, hl, TB, mem, only⟩ := Z
  refine ⟨_, (ps_par (i := 8) (j := 14) (by rfl) sclaw.nd rfl rfl (by decide) rfl rfl (pa_cons (pe_lc (own := [("deed", 21)]) (by rfl) sclaw.nd (pi_range1 (by rfl) T.z_range (pa_cons (pv 7) pa_nil)) (blkOk_by (own := [("deed", 21)]) (N := ["script", "k", "box", "states", "tables", "machine", "first", "deeds", "rounds", "good", "other", "bad", "ask", "due", "rests", "counters", "at", "showing", "value", "spot", "odd", "deed", "state"]) (sc := defScope s_law) (by decide +kernel)) (fun _ _ _ _ _ => (pg_name (i := 21) sclaw.nd rfl (by first | exact Or.inl rfl | exact Or.inr rfl))) (fun _ _ _ _ _ => pts_nil) (fun _ _ _ _ _ => (pe_callC O.take hr pass0 (pa_cons (pv 2) (pa_cons pe_int pa_nil))))) (pa_cons (pe_lc (own := [("deed", 21)]) (by rfl) sclaw.nd (pi_range1 (by rfl) T.z_range (pa_cons (pv 7) pa_nil)) (blkOk_by (own := [("deed", 21)]) (N := ["script", "k", "box", "states", "tables", "machine", "first", "deeds", "rounds", "good", "other", "bad", "ask", "due", "rests", "counters", "at", "showing", "value", "spot", "odd", "deed", "state"]) (sc := defScope s_law) (by decide +kernel)) (fun _ _ _ _ _ => (pg_name (i := 21) sclaw.nd rfl (by first | exact Or.inl rfl | exact Or.inr rfl))) (fun _ _ _ _ _ => pts_nil) (fun _ _ _ _ _ => (pe_callC O.take hr pass0 (pa_cons (pv 2) (pa_cons pe_int pa_nil))))) pa_nil)) (by rfl)), ?_⟩
  rintro k Dd σ H ⟨g, x3, x8, x9, x10, x11, x12, x13, x14, x15, x16, x17, x18, x19, x20, rfl, j⟩ kk
  have l1 := j.ok.l1
  have l4 := j.ok.l4
  obtain ⟨t, hb⟩ := j.box
  refine ⟨_, rfl, g.ts.length, rfl, by omega, by omega, fun D0 hD => ?_⟩
  have D0b : D0 ≠ g.b := fun z => by rw [z, hb] at hD; cases hD
  refine lc_range (lo := 0) (n := g.ts.length) (fun i H' => ∃ zs : List Int, zs.length = i ∧ (∀ y ∈ zs, 0 ≤ y ∧ y < ((4 : Nat) : Int)) ∧ H' D0 = some (.lst (zs.map V.int)) ∧ Mv g.b H H') ⟨[], rfl, (fun _ h => nomatch h), upd_same, (Mv.refl hb).put hD D0b⟩ ?_ ?_
  · rintro i2 H4 hi2 ⟨zs, lz, rz, hz4, m4⟩
    have hi2 : i2 < g.ts.length := hi2
    obtain ⟨t4, hb4⟩ := m4.2
    refine ⟨rfl, yes ((if_pos rfl).mpr ?_)⟩
    refine ⟨_, rfl, g.b, t4, 4, rfl, hb4, by decide, by decide, fun x H5 x0 x1 m5 => ?_⟩
    exact ⟨_, m5.1 _ _ D0b hz4, by rw [List.length_map, lz, sizeLine_eq]; omega, zs ++ [x], by rw [List.length_append, lz]; rfl, snoc_rng rz x0 x1, by rw [upd_same, List.map_append]; rfl, (m4.trans m5).put hD D0b⟩
  rintro G1 ⟨ps, lp, rp, hp, mp⟩
  obtain ⟨t1, hb1⟩ := mp.2
  refine ⟨_, rfl, g.ts.length, rfl, by omega, by omega, fun D1 hD1 => ?_⟩
  have D1b : D1 ≠ g.b := fun z => by rw [z, hb1] at hD1; cases hD1
  have D10 : D0 ≠ D1 := fun z => by rw [← z, hp] at hD1; cases hD1
  refine lc_range (lo := 0) (n := g.ts.length) (fun i H' => ∃ zs : List Int, zs.length = i ∧ (∀ y ∈ zs, 0 ≤ y ∧ y < ((3 : Nat) : Int)) ∧ H' D1 = some (.lst (zs.map V.int)) ∧ Mv g.b G1 H') ⟨[], rfl, (fun _ h => nomatch h), upd_same, (Mv.refl hb1).put hD1 D1b⟩ ?_ ?_
  · rintro i2 H4 hi2 ⟨zs, lz, rz, hz4, m4⟩
    have hi2 : i2 < g.ts.length := hi2
    obtain ⟨t4, hb4⟩ := m4.2
    refine ⟨rfl, yes ((if_pos rfl).mpr ?_)⟩
    refine ⟨_, rfl, g.b, t4, 3, rfl, hb4, by decide, by decide, fun x H5 x0 x1 m5 => ?_⟩
    exact ⟨_, m5.1 _ _ D1b hz4, by rw [List.length_map, lz, sizeLine_eq]; omega, zs ++ [x], by rw [List.length_append, lz]; rfl, snoc_rng rz x0 x1, by rw [upd_same, List.map_append]; rfl, (m4.trans m5).put hD1 D1b⟩
  rintro G2 ⟨qs, lq, rq, hq, mq⟩
  have j2 := (j.mv mp).mv mq
  exact ⟨_, _, rfl, kk _ _ ⟨{ g with ro := D0, rs := ps, re := D1, es := qs }, _, _, _, _, _, _, _, _, _, _, _, _, rfl, { tabs := j2.tabs, hs := j2.hs, box := j2.box, sb := j2.sb, ta := j2.ta, rows := j2.rows, ok := j2.ok, mx := j2.mx, mac := j2.mac, rob := D0b, ro := (mq.1 _ _ D0b hp), lr := lp, r0 := (fun r hr => by have := rp r hr; omega), reb := D1b, re := hq, le := lq, e0 := (fun r hr => by have := rq r hr; omega) }⟩⟩
theorem q15 : HT (ι := Nat) (XL P w K mg base f (.ref cc) A outer st H0 E) (nthS lawS 15) (fun k σ H => ∃ (g : Gm) (x3 x9 x10 x11 x12 x13 x15 x16 x17 x18 x19 x20 : Option V), σ = [some (.ref sc), some (.int (k : Nat)), some (.ref g.b), x3, some (.ref g.ta), some (.ref g.m), some (.int g.s), some (.int (g.ts.length : Nat)), some (.ref g.ro), x9, x10, x11, x12, x13, some (.ref g.re), x15, x16, x17, x18, x19, x20, none, none] ∧ U4 K C CM Ts sc scn g H) (fun k σ H => ∃ (g : Gm) (x3 x9 x10 x11 x12 x13 x17 x18 x19 x20 : Option V), σ = [some (.ref sc), some (.int (k : Nat)), some (.ref g.b), x3, some (.ref g.ta), some (.ref g.m), some (.int g.s), some (.int (g.ts.length : Nat)), some (.ref g.ro), x9, x10, x11, x12, x13, some (.ref g.re), some (.ref g.c), some (.int (g.ak : Nat)), x17, x18, x19, x20, none, none] ∧ U5 K C CM Ts sc scn g H) := by
  obtain ⟨T, TC, TM, M, D, F, O, hear, hf, lone, hr, hl, TB, mem, only⟩ := Z
  refine ⟨_, (ps_asg (pe_tup (pa_cons (pe_cnt2 (K := K) M TC hr pzN (pa_cons (pv 8) (pa_cons (pv 14) pa_nil))) (pa_cons (pe_callC O.take hr pass0 (pa_cons (pv 2) (pa_cons (pv 7) pa_nil))) pa_nil))) (pg_tup rfl (pgs_cons (pg_name (i := 15) sclaw.nd rfl (by first | exact Or.inl rfl | exact Or.inr rfl)) (pgs_cons (pg_name (i := 16) sclaw.nd rfl (by first | exact Or.inl rfl | exact Or.inr rfl)) pgs_nil)))), ?_⟩
  rintro k Dd σ H ⟨g, x3, x9, x10, x11, x12, x13, x15, x16, x17, x18, x19, x20, rfl, j⟩ kk
  have l1 := j.ok.l1
  have l4 := j.ok.l4
  have lr := j.lr
  have le := j.le
  have ok : Cok g.rs g.es := ⟨by omega, by omega, by omega, fun r hr => by have := j.r0 r hr; omega, fun r hr => by have := j.e0 r hr; omega⟩
  refine ⟨_, rfl, _, rfl, fun x2 dz hx2 hdz nx => make_good ok (.seq (.inl (SqL.of j.ro))) (.inr (.seq (.inl (SqL.of j.re)))) hx2 hdz nx fun H1 e1 cn => ?_⟩
  have j1 := j.same e1
  obtain ⟨t, hb⟩ := j1.box
  refine ⟨_, rfl, _, rfl, g.b, t, (g.ts.length : Nat), rfl, hb, by omega, by omega, fun s H2 s0 s1 m2 => ?_⟩
  obtain ⟨s, rfl⟩ : ∃ x : Nat, s = (x : Int) := ⟨s.toNat, by omega⟩
  have j2 := j1.mv m2
  have cn2 := mv_cn m2 hb cn
  refine ⟨(by show 2 ≤ sizeLine; decide), fun q hq => ?_⟩
  have e3 := same_new (o := HO.tup [.ref x2, .int (s : Nat)]) hq
  have u3 : SqT K (upd H2 q (HO.tup [.ref x2, .int (s : Nat)])) q [.ref x2, .int (s : Nat)] := SqT.of upd_same
  generalize upd H2 q (HO.tup [.ref x2, .int (s : Nat)]) = H3 at e3 u3 ⊢
  have j3 := j2.same e3
  have ak : s < g.ts.length := by omega
  refine ⟨q, _, rfl, u3, rfl, _, _, rfl, _, _, rfl, rfl, ?_⟩
  exact kk _ _ ⟨{ g with c := x2, ak := s }, _, _, _, _, _, _, _, _, _, _, rfl, { tabs := j3.tabs, hs := j3.hs, box := j3.box, sb := j3.sb, ta := j3.ta, rows := j3.rows, ok := j3.ok, mx := j3.mx, mac := j3.mac, rob := j3.rob, ro := j3.ro, lr := j3.lr, r0 := j3.r0, reb := j3.reb, re := j3.re, le := j3.le, e0 := j3.e0, cn := cn2.same e3, ak := ak }⟩
theorem q16 : HT (ι := Nat) (XL P w K mg base f (.ref cc) A outer st H0 E) (nthS lawS 16) (fun k σ H => ∃ (g : Gm) (x3 x9 x10 x11 x12 x13 x17 x18 x19 x20 : Option V), σ = [some (.ref sc), some (.int (k : Nat)), some (.ref g.b), x3, some (.ref g.ta), some (.ref g.m), some (.int g.s), some (.int (g.ts.length : Nat)), some (.ref g.ro), x9, x10, x11, x12, x13, some (.ref g.re), some (.ref g.c), some (.int (g.ak : Nat)), x17, x18, x19, x20, none, none] ∧ U5 K C CM Ts sc scn g H) (fun k σ H => ∃ (g : Gm) (x3 x9 x10 x11 x12 x13 x18 x19 x20 : Option V), σ = [some (.ref sc), some (.int (k : Nat)), some (.ref g.b), x3, some (.ref g.ta), some (.ref g.m), some (.int g.s), some (.int (g.ts.length : Nat)), some (.ref g.ro), x9, x10, x11, x12, x13, some (.ref g.re), some (.ref g.c), some (.int (g.ak : Nat)), some (.ref g.sh), x18, x19, x20, none, none] ∧ U6 K C CM Ts sc scn g H) := by
  obtain ⟨T, TC, TM, M, D, F, O, hear, hf, lone, hr, hl, TB, mem, only⟩ := Z
  refine ⟨_, (ps_set (i := 17) sclaw.nd rfl (by first | exact Or.inl rfl | exact Or.inr rfl) (pe_op op_rep (pe_lst (pa_cons pe_int pa_nil)) (pv 7))), ?_⟩
  rintro k Dd σ H ⟨g, x3, x9, x10, x11, x12, x13, x17, x18, x19, x20, rfl, j⟩ kk
  have l4 := j.ok.l4
  refine ⟨(by show 1 ≤ sizeLine; decide), fun l hl => ?_⟩
  have e1 := same_new (o := HO.lst [V.int 0]) hl
  have u1 := upd_same (H := H) (a := l) (o := HO.lst [V.int 0])
  generalize upd H l (HO.lst [V.int 0]) = H1 at e1 u1 ⊢
  refine ⟨_, rfl, l, (g.ts.length : Nat), _, rfl, rfl, u1, by omega, by omega, (by show 1 * _ ≤ sizeLine; rw [sizeLine_eq]; omega), fun v hv => ?_⟩
  rw [Int.toNat_natCast, List.flatten_replicate_singleton]
  obtain ⟨t, hb⟩ := j.box
  have hb1 := e1 _ _ hb
  have vb : v ≠ g.b := fun z => by rw [z, hb1] at hv; cases hv
  have e2 := same_new (o := HO.lst (List.replicate g.ts.length (V.int 0))) hv
  have u2 : upd H1 v (HO.lst (List.replicate g.ts.length (V.int 0))) v = some (.lst (List.replicate g.ts.length (V.int 0))) := upd_same
  generalize upd H1 v (HO.lst (List.replicate g.ts.length (V.int 0))) = H2 at e2 u2 ⊢
  have j2 := (j.same e1).same e2
  exact kk _ _ ⟨{ g with sh := v, xs := List.replicate g.ts.length (V.int 0) }, _, _, _, _, _, _, _, _, _, rfl, { tabs := j2.tabs, hs := j2.hs, box := j2.box, sb := j2.sb, ta := j2.ta, rows := j2.rows, ok := j2.ok, mx := j2.mx, mac := j2.mac, rob := j2.rob, ro := j2.ro, lr := j2.lr, r0 := j2.r0, reb := j2.reb, re := j2.re, le := j2.le, e0 := j2.e0, cn := j2.cn, ak := j2.ak, shb := vb, shl := u2, ss := sc_not (j.same e1).hs hv, xz := rfl }⟩
end
end KT
/-! the law: a showing that is none -/
namespace KT
open L2 PySem PySem.Spec PyProof.Rows Kx RZ TL
structure W0 (K : PySem.W.Frag) (C CM : Addr) (Ts : List (Addr × Str)) (sc : Addr) (scn : List Int) (H : Hp) : Prop where
  tabs : LamX.Tabs Ts H
  hs : SqL K H sc (scn.map V.int)
theorem W0.same {K : PySem.W.Frag} {C CM : Addr} {Ts : List (Addr × Str)} {sc : Addr} {scn : List Int} {H H' : Hp} (h : W0 K C CM Ts sc scn H) (e : Same H H') : W0 K C CM Ts sc scn H' where
  tabs := h.tabs.ext e
  hs := sqL_same e h.hs
structure W1 (K : PySem.W.Frag) (C CM : Addr) (Ts : List (Addr × Str)) (sc : Addr) (scn : List Int) (g : Gm) (H : Hp) : Prop where
  tabs : LamX.Tabs Ts H
  hs : SqL K H sc (scn.map V.int)
  box : ∃ t, H g.b = some (bx t)
  sb : sc = g.b → ∀ H' : Hp, SqL K H' sc (scn.map V.int)
  ok : Mok g.n g.ts
  mx : Mx g.n g.ts g.s
  mac : McAt K CM H g.m g.n g.ts
  lr : g.rs.length = g.ts.length
  r0 : ∀ r ∈ g.rs, 0 ≤ r ∧ r ≤ 4
  le : g.es.length = g.ts.length
  e0 : ∀ r ∈ g.es, 0 ≤ r ∧ r ≤ 3
  cn : CnAt K C H g.c g.rs g.es
  ak : g.ak < g.ts.length
  shb : g.sh ≠ g.b
  shl : H g.sh = some (.lst g.xs)
  lx : g.xs.length = g.ts.length
  kx : ∀ (K : PySem.W.Frag) (H : Hp), ∀ x ∈ g.xs, Kn K H x
  fw : FirstWrong g.rs g.es g.xs g.ak
theorem W1.same {K : PySem.W.Frag} {C CM : Addr} {Ts : List (Addr × Str)} {sc : Addr} {scn : List Int} {H H' : Hp} {g : Gm} (h : W1 K C CM Ts sc scn g H) (e : Same H H') : W1 K C CM Ts sc scn g H' where
  tabs := h.tabs.ext e
  hs := sqL_same e h.hs
  box := h.box.elim fun t q => ⟨t, e _ _ q⟩
  sb := h.sb
  ok := h.ok
  mx := h.mx
  mac := h.mac.same e
  lr := h.lr
  r0 := h.r0
  le := h.le
  e0 := h.e0
  cn := h.cn.same e
  ak := h.ak
  shb := h.shb
  shl := e _ _ h.shl
  lx := h.lx
  kx := h.kx
  fw := h.fw
theorem W1.mv {K : PySem.W.Frag} {C CM : Addr} {Ts : List (Addr × Str)} {sc : Addr} {scn : List Int} {H H' : Hp} {g : Gm} (h : W1 K C CM Ts sc scn g H) (m : Mv g.b H H') : W1 K C CM Ts sc scn g H' := by
  obtain ⟨t, hb⟩ := h.box
  exact {
    tabs := tabs_mv m hb h.tabs,
    hs := hs_mv m h.hs h.sb,
    box := m.2,
    sb := h.sb,
    ok := h.ok,
    mx := h.mx,
    mac := m.mc hb h.mac,
    lr := h.lr,
    r0 := h.r0,
    le := h.le,
    e0 := h.e0,
    cn := mv_cn m hb h.cn,
    ak := h.ak,
    shb := h.shb,
    shl := m.1 _ _ h.shb h.shl,
    lx := h.lx,
    kx := h.kx,
    fw := h.fw }
theorem W1.ext {K : PySem.W.Frag} {C CM : Addr} {Ts : List (Addr × Str)} {sc : Addr} {scn : List Int} {H H' : Hp} {g : Gm} (h : W1 K C CM Ts sc scn g H) (e : LamX.ExtN H H') (tb : LamX.Tabs Ts H') : W1 K C CM Ts sc scn g H' where
  tabs := tb
  hs := ext_sqL e h.hs
  box := h.box.elim fun t q => ⟨t, ext_lst e q⟩
  sb := h.sb
  ok := h.ok
  mx := h.mx
  mac := ext_mc e h.mac
  lr := h.lr
  r0 := h.r0
  le := h.le
  e0 := h.e0
  cn := ext_cn e h.cn
  ak := h.ak
  shb := h.shb
  shl := ext_lst e h.shl
  lx := h.lx
  kx := h.kx
  fw := h.fw
theorem ixN_at {n j : Nat} (hj : j < n) : ixN n (j : Int) = some j := by
  unfold ixN
  rw [if_pos (by omega), if_pos (by omega)]
  simp
theorem fw_set {rs es : List Int} {k ak : Nat} {v : V} (lr : rs.length = k) (le : es.length = k) (h : ak < k) (r0 : ∀ r ∈ rs, 0 ≤ r) (e0 : ∀ e ∈ es, 0 ≤ e) (bad : canShow (rs.getD ak 0) (es.getD ak 0) v = false) : FirstWrong rs es ((List.replicate k (V.int 0)).set ak v) ak := by
  refine ⟨fun j x hj hx => ?_, v, by rw [List.getElem?_set_self (by rw [List.length_replicate]; exact h)], bad⟩
  rw [List.getElem?_set_ne (by omega), List.getElem?_replicate] at hx
  split at hx
  · cases hx
    rename_i jk
    have a1 : rs[j]? = some (rs.getD j 0) := by rw [List.getD_eq_getElem?_getD, List.getElem?_eq_getElem (by omega)] <;> rfl
    have a2 : es[j]? = some (es.getD j 0) := by rw [List.getD_eq_getElem?_getD, List.getElem?_eq_getElem (by omega)] <;> rfl
    have b1 := r0 _ (List.mem_of_getElem? a1)
    have b2 := e0 _ (List.mem_of_getElem? a2)
    unfold canShow
    split
    · rfl
    · rename_i ne
      show (decide ((0 : Int) ≤ 0) && decide ((0 : Int) < es.getD j 0 + rs.getD j 0)) = true
      rw [decide_eq_true (by omega), decide_eq_true (by omega)]
      rfl
  · cases hx
theorem belZ {l i : Int} (h : ¬ (0 ≤ i ∧ i < l)) : isBel l (.int i) = false := by
  cases z : isBel l (.int i) with
  | false => rfl
  | true => exact absurd (isBel_iff.mp z) h
section
variable {P : Program} {w : World} {K : PySem.W.Frag} {mg : Str → Option Value} {base : Heap} {f cc : Addr} {A : Around} {outer : List Env} {st : Shared} {H0 : Hp} {E : XK} {a : Ad} {C CM cW t0 Pt : Addr} {Ts : List (Addr × Str)} {sc : Addr} {scn : List Int}
theorem w1_of {g : Gm} {H : Hp} {v : V} (j : U6 K C CM Ts sc scn g H) (kv : ∀ (K : PySem.W.Frag) (H : Hp), Kn K H v) (bad : canShow (g.rs.getD g.ak 0) (g.es.getD g.ak 0) v = false) : W1 K C CM Ts sc scn { g with xs := g.xs.set g.ak v } (upd H g.sh (.lst (g.xs.set g.ak v))) := by
  have hA := j.shl
  have ak := j.ak
  obtain ⟨t, hb⟩ := j.box
  refine { tabs := tabs_put hA j.tabs, hs := ?_, box := ⟨t, by rw [upd_ne (Ne.symm j.shb)]; exact hb⟩, sb := j.sb, ok := j.ok, mx := j.mx, mac := ?_, lr := j.lr, r0 := j.r0, le := j.le, e0 := j.e0, cn := ?_, ak := j.ak, shb := j.shb, shl := upd_same, lx := ?_, kx := ?_, fw := ?_ }
  · by_cases z : sc = g.sh
    · exact j.ss z _
    · rcases j.hs with (h1 | ⟨y, h1⟩) | h1
      · exact .inl (.inl (by rw [upd_ne z]; exact h1))
      · exact .inl (.inr ⟨y, by rw [upd_ne z]; exact h1⟩)
      · exact .inr h1
  · obtain ⟨ok, dx, p, ps, h1, h2, h3⟩ := j.mac
    exact ⟨ok, dx, p, ps, by rw [upd_ne (ne_of h1 hA fun z => nomatch z)]; exact h1, sqT_lst hA h2, h3.imp fun _ _ z => sqT_lst hA z⟩
  · obtain ⟨ok, dx, p, q, h1, h2, h3⟩ := j.cn
    exact ⟨ok, dx, p, q, by rw [upd_ne (ne_of h1 hA fun z => nomatch z)]; exact h1, sqT_lst hA h2, sqT_lst hA h3⟩
  · show (g.xs.set g.ak v).length = _
    rw [List.length_set, j.xz, List.length_replicate]
  · intro K H x hx
    have hx : x ∈ g.xs.set g.ak v := hx
    rcases List.mem_or_eq_of_mem_set hx with h' | rfl
    · rw [j.xz] at h'
      rw [(List.mem_replicate.mp h').2]
      exact .int 0
    · exact kv K H
  · show FirstWrong g.rs g.es (g.xs.set g.ak v) g.ak
    rw [j.xz]
    exact fw_set j.lr j.le ak (fun r hr => (j.r0 r hr).1) (fun r hr => (j.e0 r hr).1) bad
variable (Z : Lz P w K mg base f cc A outer st H0 E a C CM cW t0 Ts Pt scn)
include Z
theorem q17 : HT (ι := Nat) (XL P w K mg base f (.ref cc) A outer st H0 E) (nthS lawS 17) (fun k σ H => ∃ (g : Gm) (x3 x9 x10 x11 x12 x13 x18 x19 x20 : Option V), σ = [some (.ref sc), some (.int (k : Nat)), some (.ref g.b), x3, some (.ref g.ta), some (.ref g.m), some (.int g.s), some (.int (g.ts.length : Nat)), some (.ref g.ro), x9, x10, x11, x12, x13, some (.ref g.re), some (.ref g.c), some (.int (g.ak : Nat)), some (.ref g.sh), x18, x19, x20, none, none] ∧ U6 K C CM Ts sc scn g H) (fun k σ H => ∃ (g : Gm) (x3 x9 x10 x11 x12 x13 x18 x19 x20 : Option V), σ = [some (.ref sc), some (.int (k : Nat)), some (.ref g.b), x3, some (.ref g.ta), some (.ref g.m), some (.int g.s), some (.int (g.ts.length : Nat)), some (.ref g.ro), x9, x10, x11, x12, x13, some (.ref g.re), some (.ref g.c), some (.int (g.ak : Nat)), some (.ref g.sh), x18, x19, x20, none, none] ∧ W1 K C CM Ts sc scn g H) := by
  obtain ⟨T, TC, TM, M, D, F, O, hear, hf, lone, hr, hl, TB, mem, only⟩ := Z
  refine ⟨_, (ps_asg (pe_callC O.pick hr pass0 (pa_cons (pv 2) (pa_cons (pe_op op_cat (pe_lst (pa_cons (pe_op op_sub pe_int pe_int) (pa_cons pe_non (pa_cons pe_bl (pa_cons pe_str pa_nil))))) (pe_ifExp (pt_cmpR op_gt (pe_ix ix_list (pv 8) (pv 16) (fun _ _ => rfl)) pe_int (nomark _)) (pe_lst (pa_cons (pe_op op_add (pe_ix ix_list (pv 8) (pv 16) (fun _ _ => rfl)) (pe_ix ix_list (pv 14) (pv 16) (fun _ _ => rfl))) pa_nil)) (pe_lst pa_nil))) pa_nil))) (pg_sub (pv 17) (pv 16) set_list)), ?_⟩
  rintro k Dd σ H ⟨g, x3, x9, x10, x11, x12, x13, x18, x19, x20, rfl, j⟩ kk
  have ak := j.ak
  have lr := j.lr
  have le := j.le
  obtain ⟨t, hb⟩ := j.box
  have a1 : g.rs[g.ak]? = some (g.rs.getD g.ak 0) := by rw [List.getD_eq_getElem?_getD, List.getElem?_eq_getElem (by omega)] <;> rfl
  have a2 : g.es[g.ak]? = some (g.es.getD g.ak 0) := by rw [List.getD_eq_getElem?_getD, List.getElem?_eq_getElem (by omega)] <;> rfl
  have b1 : (g.rs.map V.int)[g.ak]? = some (.int (g.rs.getD g.ak 0)) := by rw [List.getElem?_map, a1]; rfl
  have b2 : (g.es.map V.int)[g.ak]? = some (.int (g.es.getD g.ak 0)) := by rw [List.getElem?_map, a2]; rfl
  refine ⟨_, rfl, _, _, rfl, rfl, (by show 4 ≤ sizeLine; decide), fun l hl => ?_⟩
  have e1 := same_new (o := HO.lst [V.int (0 - 1), .non, .bl true, .str "0"]) hl
  have u1 : upd H l (HO.lst [V.int (0 - 1), .non, .bl true, .str "0"]) l = some (.lst [V.int (0 - 1), .non, .bl true, .str "0"]) := upd_same
  generalize upd H l (HO.lst [V.int (0 - 1), .non, .bl true, .str "0"]) = H1 at e1 u1 ⊢
  have hro := e1 _ _ j.ro
  have hre := e1 _ _ j.re
  refine ⟨_, rfl, _, rfl, g.ro, _, _, _, rfl, rfl, SqL.of hro, atI_nat (j := g.ak) b1, _, _, rfl, rfl, _, rfl, ite2 (fun gt => ?_) (fun _ => ?_)⟩
  · refine ⟨_, rfl, _, rfl, g.ro, _, _, _, rfl, rfl, SqL.of hro, atI_nat (j := g.ak) b1, _, rfl, _, rfl, g.re, _, _, _, rfl, rfl, SqL.of hre, atI_nat (j := g.ak) b2, _, _, rfl, rfl, (by show 1 ≤ sizeLine; decide), fun l2 hl2 => ?_⟩
    have e2 := same_new (o := HO.lst [V.int (g.rs.getD g.ak 0 + g.es.getD g.ak 0)]) hl2
    have u2 : upd H1 l2 (HO.lst [V.int (g.rs.getD g.ak 0 + g.es.getD g.ak 0)]) l2 = some (.lst [V.int (g.rs.getD g.ak 0 + g.es.getD g.ak 0)]) := upd_same
    generalize upd H1 l2 (HO.lst [V.int (g.rs.getD g.ak 0 + g.es.getD g.ak 0)]) = H2 at e2 u2 ⊢
    refine ⟨l, l2, _, _, rfl, rfl, e2 _ _ u1, u2, (by show 4 + 1 ≤ sizeLine; decide), fun l3 hl3 => ?_⟩
    have hb2 := e2 _ _ (e1 _ _ hb)
    have l3b : l3 ≠ g.b := fun z => by rw [z, hb2] at hl3; cases hl3
    have e3 := same_new (o := HO.lst ([V.int (0 - 1), .non, .bl true, .str "0"] ++ [V.int (g.rs.getD g.ak 0 + g.es.getD g.ak 0)])) hl3
    have u3 : upd H2 l3 (HO.lst ([V.int (0 - 1), .non, .bl true, .str "0"] ++ [V.int (g.rs.getD g.ak 0 + g.es.getD g.ak 0)])) l3 = some (.lst ([V.int (0 - 1), .non, .bl true, .str "0"] ++ [V.int (g.rs.getD g.ak 0 + g.es.getD g.ak 0)])) := upd_same
    generalize upd H2 l3 (HO.lst ([V.int (0 - 1), .non, .bl true, .str "0"] ++ [V.int (g.rs.getD g.ak 0 + g.es.getD g.ak 0)])) = H3 at e3 u3 ⊢
    refine ⟨g.b, l3, t, _, rfl, e3 _ _ hb2, l3b, SqL.of u3, (by show 0 < 5; decide), (by show 5 < 1073741824; decide), fun v H4 hv m4 => ?_⟩
    have j4 := ((((j.same e1).same e2).same e3).mv m4)
    refine ⟨_, rfl, _, rfl, g.sh, _, (g.ak : Nat), g.ak, rfl, rfl, j4.shl, ?_, ?_⟩
    · rw [j4.xz, List.length_replicate]
      exact ixN_at j.ak
    have kb : (∀ (K : PySem.W.Frag) (H : Hp), Kn K H v) ∧ canShow (g.rs.getD g.ak 0) (g.es.getD g.ak 0) v = false := by
      simp only [List.cons_append, List.nil_append, List.mem_cons, List.not_mem_nil, or_false] at hv
      rcases hv with rfl | rfl | rfl | rfl | rfl
      · refine ⟨fun _ _ => .int _, ?_⟩
        unfold canShow
        split
        · rfl
        · exact belZ (by omega)
      · exact ⟨fun _ _ => .non, by unfold canShow; split <;> rfl⟩
      · exact ⟨fun _ _ => .bl _, by unfold canShow; split <;> rfl⟩
      · exact ⟨fun _ _ => .str _, by unfold canShow; split <;> rfl⟩
      · refine ⟨fun _ _ => .int _, ?_⟩
        have gt := of_decide_eq_true gt
        unfold canShow
        split
        · omega
        · exact belZ (by omega)
    exact kk _ _ ⟨{ g with xs := g.xs.set g.ak v }, _, _, _, _, _, _, _, _, _, rfl, w1_of j4 kb.1 kb.2⟩
  · refine ⟨(by show 0 ≤ sizeLine; decide), fun l2 hl2 => ?_⟩
    have e2 := same_new (o := HO.lst []) hl2
    have u2 : upd H1 l2 (HO.lst []) l2 = some (.lst []) := upd_same
    generalize upd H1 l2 (HO.lst []) = H2 at e2 u2 ⊢
    refine ⟨l, l2, _, _, rfl, rfl, e2 _ _ u1, u2, (by show 4 + 0 ≤ sizeLine; decide), fun l3 hl3 => ?_⟩
    have hb2 := e2 _ _ (e1 _ _ hb)
    have l3b : l3 ≠ g.b := fun z => by rw [z, hb2] at hl3; cases hl3
    have e3 := same_new (o := HO.lst ([V.int (0 - 1), .non, .bl true, .str "0"] ++ [])) hl3
    have u3 : upd H2 l3 (HO.lst ([V.int (0 - 1), .non, .bl true, .str "0"] ++ [])) l3 = some (.lst ([V.int (0 - 1), .non, .bl true, .str "0"] ++ [])) := upd_same
    generalize upd H2 l3 (HO.lst ([V.int (0 - 1), .non, .bl true, .str "0"] ++ [])) = H3 at e3 u3 ⊢
    refine ⟨g.b, l3, t, _, rfl, e3 _ _ hb2, l3b, SqL.of u3, (by show 0 < 4; decide), (by show 4 < 1073741824; decide), fun v H4 hv m4 => ?_⟩
    have j4 := ((((j.same e1).same e2).same e3).mv m4)
    refine ⟨_, rfl, _, rfl, g.sh, _, (g.ak : Nat), g.ak, rfl, rfl, j4.shl, ?_, ?_⟩
    · rw [j4.xz, List.length_replicate]
      exact ixN_at j.ak
    have kb : (∀ (K : PySem.W.Frag) (H : Hp), Kn K H v) ∧ canShow (g.rs.getD g.ak 0) (g.es.getD g.ak 0) v = false := by
      simp only [List.cons_append, List.nil_append, List.mem_cons, List.not_mem_nil, or_false] at hv
      rcases hv with rfl | rfl | rfl | rfl
      · refine ⟨fun _ _ => .int _, ?_⟩
        unfold canShow
        split
        · rfl
        · exact belZ (by omega)
      · exact ⟨fun _ _ => .non, by unfold canShow; split <;> rfl⟩
      · exact ⟨fun _ _ => .bl _, by unfold canShow; split <;> rfl⟩
      · exact ⟨fun _ _ => .str _, by unfold canShow; split <;> rfl⟩
    exact kk _ _ ⟨{ g with xs := g.xs.set g.ak v }, _, _, _, _, _, _, _, _, _, rfl, w1_of j4 kb.1 kb.2⟩
end
end KT
/-! a text times a number -/
namespace Kx
open L2 PySem PySem.Spec PyProof.Rows
theorem rep_size (c : Array Nat) : ∀ (k : Nat) (b : Array Nat), ((List.replicate k c).foldl (· ++ ·) b).size = b.size + k * c.size
  | 0, b => by simp
  | k + 1, b => by
    rw [List.replicate_succ, List.foldl_cons, rep_size c k, Array.size_append, Nat.succ_mul]
    omega
def rMulStr : R2 := fun x y H Q => ∃ (a : Str) (k : Nat), x = .str a ∧ y = .int (k : Int) ∧ 1 ≤ k ∧ k ≤ 100 ∧ a.length ≤ 100 ∧ ∀ z : Str, Q (.str z) H
theorem op_mulStr {X : Cx} : OpR X (binaryOp .Mult) rMulStr := by
  intro pins s σ H x y v u Q I rx ry h
  obtain ⟨a, k, rfl, rfl, k1, k100, la, q⟩ := h
  obtain ⟨t, rfl⟩ := rx
  obtain ⟨t', rfl⟩ := ry
  have div : (100 : Int) ≤ (2 ^ 63 - 1) / (k : Int) := (Int.le_ediv_iff_mul_le (by omega)).mpr (by omega)
  refine P.mul_str ?_ (fun _ _ => by omega) (fun _ _ => ?_) ?_
  · rw [decide_eq_false (by omega), decide_eq_false (by omega)]
    rfl
  · have : a.length * (k : Int).toNat ≤ sizeLine := by
      rw [Int.toNat_natCast]
      have h1 : a.length * k ≤ 100 * 100 := Nat.mul_le_mul la k100
      have h2 : (100 * 100 : Nat) ≤ sizeLine := by decide
      omega
    exact decide_eq_false (by omega)
  · rw [if_neg (by omega)]
    split
    · exact ⟨.str a, H, I, ⟨_, rfl⟩, q a⟩
    · refine ⟨?_, ⟨.str _, H, I.tok _, ⟨_, rfl⟩, q _⟩⟩
      have h1 : a.length * k ≤ 100 * 100 := Nat.mul_le_mul la k100
      have h2 : (100 * 100 : Nat) ≤ sizeLine := by decide
      show Str.length _ ≤ sizeLine
      unfold Str.length at *
      rw [rep_size, Int.toNat_natCast]
      have : (#[] : Array Nat).size = 0 := rfl
      rw [this, Nat.zero_add, Nat.mul_comm]
      omega
end Kx
/-! the law: showings that are none -/
namespace KT
open L2 PySem PySem.Spec PyProof.Rows Kx RZ TL
theorem fw_one {rs es : List Int} {xs : List V} {i k : Nat} (h : FirstWrong rs es xs i) (g : FirstWrong rs es xs k) : i = k := by
  obtain ⟨a1, x, a2, a3⟩ := h
  obtain ⟨b1, y, b2, b3⟩ := g
  rcases Nat.lt_trichotomy i k with l | l | l
  · rw [b1 i x l a2] at a3
    cases a3
  · exact l
  · rw [a1 k y l b2] at b3
    cases b3
theorem Long.ext {K : PySem.W.Frag} {H H' : Hp} {v : V} {o : Option (List V)} (h : Long K H v o) (e : LamX.ExtN H H') : Long K H' v o := by
  cases h with
  | seq q =>
    rcases q with q | q
    · exact .seq (.inl (ext_sqL e q))
    · exact .seq (.inr (ext_sqT e q))
  | non => exact .non
  | bl b => exact .bl b
  | int i => exact .int i
  | str x => exact .str x
/-- a value that is no showing: what is wrong with it -/
def WrV (K : PySem.W.Frag) (H : Hp) (rs es : List Int) (v : V) (i : Int) : Prop := ∃ o, Long K H v o ∧ (∀ xs, o = some xs → ∀ (K : PySem.W.Frag) (H : Hp), ∀ x ∈ xs, Kn K H x) ∧
  ((i = -1 ∧ (o = none ∨ ∃ xs, o = some xs ∧ xs.length ≠ rs.length)) ∨ ∃ (xs : List V) (k : Nat), o = some xs ∧ xs.length = rs.length ∧ FirstWrong rs es xs k ∧ i = (k : Int))
theorem WrV.ext {K : PySem.W.Frag} {H H' : Hp} {rs es : List Int} {v : V} {i : Int} (h : WrV K H rs es v i) (e : LamX.ExtN H H') : WrV K H' rs es v i := by
  obtain ⟨o, h1, h2, h3⟩ := h
  exact ⟨o, h1.ext e, h2, h3⟩
theorem WrV.bad {K : PySem.W.Frag} {a : Ad} {H : Hp} {rs es : List Int} {v : V} {i : Int} {E : XK} (h : WrV K H rs es v i) (k : ∀ dd H2, Same H H2 → H2 dd = some (.xd [("at", .int i)]) → E (.ref a.cS) (some dd) H2) : ShBad K a H rs es v E := by
  obtain ⟨o, lo, kn, h⟩ := h
  refine ⟨o, ⟨lo, fun xs eo _ x hx => kn xs eo K H x hx, fun far => ?_, fun xs j eo ln fw => ?_⟩, fun xs eo ln all => ?_⟩
  · rcases h with ⟨rfl, _⟩ | ⟨xs, j, rfl, ln, _, _⟩
    · exact k
    · rcases far with z | ⟨ys, z, ne⟩
      · cases z
      · cases z
        exact absurd ln ne
  · rcases h with ⟨_, z | ⟨ys, z, ne⟩⟩ | ⟨ys, j', z, _, fw', rfl⟩
    · rw [eo] at z
      cases z
    · rw [eo] at z
      cases z
      exact absurd ln ne
    · rw [eo] at z
      cases z
      rw [fw_one fw fw']
      exact k
  · rcases h with ⟨_, z | ⟨ys, z, ne⟩⟩ | ⟨ys, j', z, _, ⟨_, x, hx, hb⟩, rfl⟩
    · rw [eo] at z
      cases z
    · rw [eo] at z
      cases z
      exact absurd ln ne
    · rw [eo] at z
      cases z
      rw [all j' x hx] at hb
      cases hb
section
variable {P : Program} {w : World} {K : PySem.W.Frag} {mg : Str → Option Value} {base : Heap} {f cc : Addr} {A : Around} {outer : List Env} {st : Shared} {H0 : Hp} {E : XK} {a : Ad} {C CM cW t0 Pt : Addr} {Ts : List (Addr × Str)} {sc : Addr} {scn : List Int}
variable (Z : Lz P w K mg base f cc A outer st H0 E a C CM cW t0 Ts Pt scn)
include Z
theorem q18 : HT (ι := Nat) (XL P w K mg base f (.ref cc) A outer st H0 E) (nthS lawS 18) (fun k σ H => ∃ (g : Gm) (x3 x9 x10 x11 x12 x13 x18 x19 x20 : Option V), σ = [some (.ref sc), some (.int (k : Nat)), some (.ref g.b), x3, some (.ref g.ta), some (.ref g.m), some (.int g.s), some (.int (g.ts.length : Nat)), some (.ref g.ro), x9, x10, x11, x12, x13, some (.ref g.re), some (.ref g.c), some (.int (g.ak : Nat)), some (.ref g.sh), x18, x19, x20, none, none] ∧ W1 K C CM Ts sc scn g H) (fun k σ H => ∃ (g : Gm) (x3 x9 x10 x11 x12 x13 x18 x19 x20 : Option V), σ = [some (.ref sc), some (.int (k : Nat)), some (.ref g.b), x3, some (.ref g.ta), some (.ref g.m), some (.int g.s), some (.int (g.ts.length : Nat)), some (.ref g.ro), x9, x10, x11, x12, x13, some (.ref g.re), some (.ref g.c), some (.int (g.ak : Nat)), some (.ref g.sh), x18, x19, x20, none, none] ∧ W1 K C CM Ts sc scn g H) := by
  obtain ⟨T, TC, TM, M, D, F, O, hear, hf, lone, hr, hl, TB, mem, only⟩ := Z
  have cs : CallR (XL P w K mg base f (.ref cc) A outer st H0 E) (.builtin "repr") (rShow K) := call_show lone (r64 hr)
  obtain ⟨gH, fdH, FH, mH, bH⟩ := hf
  have hfx : HF (XL P w K mg base f (.ref cc) A outer st H0 E) a C CM cW Ts gH fdH cc Pt s_law := ⟨FH, mH, bH, T, TC, TM, D, lone, TB, rfl, rfl, mem, only⟩
  refine ⟨_, (ps_for PassesOwn.never rfl (pi_tup (pe_tup (pa_cons (pe_tup (pa_cons (pv 17) (pa_cons (pv 16) pa_nil))) (pa_cons (pe_tup (pa_cons pe_non (pa_cons (pe_op op_sub pe_int pe_int) pa_nil))) (pa_cons (pe_tup (pa_cons (pe_op op_rep (pe_lst (pa_cons pe_int pa_nil)) (pe_op op_add (pv 7) pe_int)) (pa_cons (pe_op op_sub pe_int pe_int) pa_nil))) (pa_cons (pe_tup (pa_cons (pe_op op_mulStr pe_str (pv 7)) (pa_cons (pe_op op_sub pe_int pe_int) pa_nil))) pa_nil)))))) (pg_tup rfl (pgs_cons (pg_name (i := 18) sclaw.nd rfl (by first | exact Or.inl rfl | exact Or.inr rfl)) (pgs_cons (pg_name (i := 19) sclaw.nd rfl (by first | exact Or.inl rfl | exact Or.inr rfl)) pgs_nil))) (pss_cons (ps_if (pt_cmpR (op_neSameK (K := K) (r64 hr)) (pe_heard (k := 14) hfx hr (fun A2 o2 s2 H2 E2 f2 c2 hr' => pe_callC F.shown hr' passL (pa_cons (pv 5) (pa_cons (pv 6) (pa_cons (pv 15) (pa_cons (pv 18) pa_nil)))))) (pe_tup (pa_cons pe_str (pa_cons (pv 19) (pa_cons pe_bl pa_nil)))) (nomark _)) (pss_one (ps_ret pe_bl)) pss_nil) (pss_cons (ps_if (pt_cmpR (op_neSameK (K := K) (r64 hr)) (pe_heard (k := 14) hfx hr (fun A2 o2 s2 H2 E2 f2 c2 hr' => pe_callC F.told hr' passL (pa_cons (pv 5) (pa_cons (pv 6) (pa_cons (pv 15) (pa_cons (pv 18) (pa_cons pe_non pa_nil))))))) (pe_tup (pa_cons pe_str (pa_cons (pv 19) (pa_cons pe_bl pa_nil)))) (nomark _)) (pss_one (ps_ret pe_bl)) pss_nil) (pss_one (ps_if (pt_cmpR (op_neSameK (K := K) (r64 hr)) (pe_heard (k := 14) hfx hr (fun A2 o2 s2 H2 E2 f2 c2 hr' => pe_callNn F.olot hr' passL (pa_cons (pv 5) (pa_cons (pv 6) (pa_cons (pv 15) (pa_cons (pv 18) pa_nil)))) (pk_cons pe_int pk_nil))) (pe_tup (pa_cons pe_str (pa_cons (pv 19) (pa_cons pe_bl pa_nil)))) (nomark _)) (pss_one (ps_ret pe_bl)) pss_nil))))), ?_⟩
  rintro k Dd σ H ⟨g, x3, x9, x10, x11, x12, x13, x18, x19, x20, rfl, j⟩ kk
  have l4 := j.ok.l4
  have lr := j.lr
  refine ⟨_, rfl, _, rfl, (by show 2 ≤ sizeLine; decide), fun a1 ha1 => ?_⟩
  have ea1 := same_new (o := HO.tup [.ref g.sh, .int (g.ak : Nat)]) ha1
  have ua1 : upd H a1 (HO.tup [.ref g.sh, .int (g.ak : Nat)]) a1 = some (.tup [.ref g.sh, .int (g.ak : Nat)]) := upd_same
  generalize upd H a1 (HO.tup [.ref g.sh, .int (g.ak : Nat)]) = C1 at ea1 ua1 ⊢
  refine ⟨_, _, rfl, rfl, (by show 2 ≤ sizeLine; decide), fun a2 ha2 => ?_⟩
  have ea2 := same_new (o := HO.tup [.non, .int (0 - 1)]) ha2
  have ua2 : upd C1 a2 (HO.tup [.non, .int (0 - 1)]) a2 = some (.tup [.non, .int (0 - 1)]) := upd_same
  generalize upd C1 a2 (HO.tup [.non, .int (0 - 1)]) = C2 at ea2 ua2 ⊢
  refine ⟨(by show 1 ≤ sizeLine; decide), fun l hl => ?_⟩
  have el := same_new (o := HO.lst [.int 0]) hl
  have ul : upd C2 l (HO.lst [.int 0]) l = some (.lst [.int 0]) := upd_same
  generalize upd C2 l (HO.lst [.int 0]) = C3 at el ul ⊢
  refine ⟨_, rfl, _, _, rfl, rfl, l, ((g.ts.length : Nat) : Int) + 1, _, rfl, rfl, ul, by omega, by omega, (by show 1 * _ ≤ sizeLine; rw [sizeLine_eq]; omega), fun z hz => ?_⟩
  rw [show (((g.ts.length : Nat) : Int) + 1).toNat = g.ts.length + 1 from by omega, List.flatten_replicate_singleton]
  have ez := same_new (o := HO.lst (List.replicate (g.ts.length + 1) (V.int 0))) hz
  have uz : upd C3 z (HO.lst (List.replicate (g.ts.length + 1) (V.int 0))) z = some (.lst (List.replicate (g.ts.length + 1) (V.int 0))) := upd_same
  generalize upd C3 z (HO.lst (List.replicate (g.ts.length + 1) (V.int 0))) = C4 at ez uz ⊢
  refine ⟨_, _, rfl, rfl, (by show 2 ≤ sizeLine; decide), fun a3 ha3 => ?_⟩
  have ea3 := same_new (o := HO.tup [.ref z, .int (0 - 1)]) ha3
  have ua3 : upd C4 a3 (HO.tup [.ref z, .int (0 - 1)]) a3 = some (.tup [.ref z, .int (0 - 1)]) := upd_same
  generalize upd C4 a3 (HO.tup [.ref z, .int (0 - 1)]) = C5 at ea3 ua3 ⊢
  refine ⟨_, rfl, "0", g.ts.length, rfl, rfl, j.ok.l1, by omega, by decide, fun tx => ?_⟩
  refine ⟨_, _, rfl, rfl, (by show 2 ≤ sizeLine; decide), fun a4 ha4 => ?_⟩
  have ea4 := same_new (o := HO.tup [.str tx, .int (0 - 1)]) ha4
  have ua4 : upd C5 a4 (HO.tup [.str tx, .int (0 - 1)]) a4 = some (.tup [.str tx, .int (0 - 1)]) := upd_same
  generalize upd C5 a4 (HO.tup [.str tx, .int (0 - 1)]) = C6 at ea4 ua4 ⊢
  refine ⟨(by show 4 ≤ sizeLine; decide), fun tt htt => ?_⟩
  have ett := same_new (o := HO.tup [.ref a1, .ref a2, .ref a3, .ref a4]) htt
  have utt : upd C6 tt (HO.tup [.ref a1, .ref a2, .ref a3, .ref a4]) tt = some (.tup [.ref a1, .ref a2, .ref a3, .ref a4]) := upd_same
  generalize upd C6 tt (HO.tup [.ref a1, .ref a2, .ref a3, .ref a4]) = C7 at ett utt ⊢
  have s1 := ea2.trans (el.trans (ez.trans (ea3.trans (ea4.trans ett))))
  have jC := j.same (ea1.trans s1)
  have vals : ∀ x ∈ ([.ref a1, .ref a2, .ref a3, .ref a4] : List V), ∃ (q : Addr) (v : V) (i : Int), x = .ref q ∧ SqT K C7 q [v, .int i] ∧ WrV K C7 g.rs g.es v i := by
    intro x hx
    simp only [List.mem_cons, List.not_mem_nil, or_false] at hx
    rcases hx with rfl | rfl | rfl | rfl
    · exact ⟨a1, .ref g.sh, (g.ak : Nat), rfl, SqT.of (s1 _ _ ua1), some g.xs, .seq (.inl (SqL.of jC.shl)), (fun xs e K H x hx => by cases e; exact j.kx K H x hx), .inr ⟨g.xs, g.ak, rfl, by rw [j.lx, lr], j.fw, rfl⟩⟩
    · exact ⟨a2, .non, 0 - 1, rfl, SqT.of ((el.trans (ez.trans (ea3.trans (ea4.trans ett)))) _ _ ua2), none, .non, (fun xs e => nomatch e), .inl ⟨by decide, .inl rfl⟩⟩
    · exact ⟨a3, .ref z, 0 - 1, rfl, SqT.of ((ea4.trans ett) _ _ ua3), some _, .seq (.inl (SqL.of ((ea3.trans (ea4.trans ett)) _ _ uz))), (fun xs e K H x hx => by cases e; rw [(List.mem_replicate.mp hx).2]; exact .int 0), .inl ⟨by decide, .inr ⟨_, rfl, by rw [List.length_replicate]; omega⟩⟩⟩
    · exact ⟨a4, .str tx, 0 - 1, rfl, SqT.of (ett _ _ ua4), none, .str tx, (fun xs e => nomatch e), .inl ⟨by decide, .inl rfl⟩⟩
  refine ⟨tt, rfl, ⟨_, SqT.of utt⟩, for_tup (K := K) (xs := [.ref a1, .ref a2, .ref a3, .ref a4]) (fun i σ' H' => ∃ (x18 x19 : Option V), σ' = [some (.ref sc), some (.int (k : Nat)), some (.ref g.b), x3, some (.ref g.ta), some (.ref g.m), some (.int g.s), some (.int (g.ts.length : Nat)), some (.ref g.ro), x9, x10, x11, x12, x13, some (.ref g.re), some (.ref g.c), some (.int (g.ak : Nat)), some (.ref g.sh), x18, x19, x20, none, none] ∧ Wt Ts C7 H') ⟨_, _, rfl, Wt.refl jC.tabs⟩ (fun i σ' H' _ ⟨_, _, _, w⟩ => ext_sqT w.ext (SqT.of utt)) ?_ ?_⟩
  · rintro i z1 σ' H' hz1 ⟨x18, x19, rfl, w⟩
    obtain ⟨q1, v1, i2, rfl, hq1, wr⟩ := vals _ (List.mem_of_getElem? hz1)
    have j0 := jC.ext w.ext w.tabs
    have w0 := wr.ext w.ext
    refine ⟨q1, _, rfl, ext_sqT w.ext hq1, rfl, _, _, rfl, _, _, rfl, rfl, ?_⟩
    refine ⟨j0.tabs, fun A1 y1 tb1 => ?_⟩
    have ja1 := j0.ext y1 tb1
    have wa1 := w0.ext y1
    refine ⟨_, rfl, _, rfl, _, rfl, _, rfl, _, _, _, _, rfl, .inr ⟨g.m, g.c, g.n, g.ts, g.s, g.rs, g.es, rfl, rfl, rfl, ja1.mac, ja1.cn, ja1.lr, ja1.mx, .inl (wa1.bad fun dd G1 g1 hdd => ?_)⟩⟩
    refine ⟨dd, rfl, .inr (.inl ⟨rfl, i2, hdd, fun ph B1 f1 hp => ?_⟩)⟩
    refine ⟨_, rfl, (by show 3 ≤ sizeLine; decide), fun q hq => ?_⟩
    have h1 := same_new (o := HO.tup [.str "showing", .int i2, .bl true]) hq
    have v1 : SqT K (upd B1 q (HO.tup [.str "showing", .int i2, .bl true])) q [.str "showing", .int i2, .bl true] := SqT.of upd_same
    generalize upd B1 q (HO.tup [.str "showing", .int i2, .bl true]) = D1 at h1 v1 ⊢
    refine ⟨ph, q, _, rfl, rfl, sqT_same h1 hp, v1, fun v hv => ?_, ?_⟩
    · simp only [List.mem_cons, List.not_mem_nil, or_false] at hv
      rcases hv with rfl | rfl | rfl
      all_goals exact .inl rfl
    have jb1 := ja1.same (g1.trans (f1.trans h1))
    have wb1 := wa1.ext (ext_ofS (g1.trans (f1.trans h1)))
    refine ⟨_, rfl, iteF ?_⟩
    refine ⟨jb1.tabs, fun A2 y2 tb2 => ?_⟩
    have ja2 := jb1.ext y2 tb2
    have wa2 := wb1.ext y2
    refine ⟨_, rfl, _, rfl, _, rfl, _, rfl, _, _, _, _, _, rfl, .inr ⟨g.m, g.c, g.n, g.ts, g.s, g.rs, g.es, rfl, rfl, rfl, ja2.mac, ja2.cn, ja2.lr, ja2.mx, .inl (wa2.bad fun dd G2 g2 hdd => ?_)⟩⟩
    refine ⟨dd, rfl, .inr (.inl ⟨rfl, i2, hdd, fun ph B2 f2 hp => ?_⟩)⟩
    refine ⟨_, rfl, (by show 3 ≤ sizeLine; decide), fun q hq => ?_⟩
    have h2 := same_new (o := HO.tup [.str "showing", .int i2, .bl true]) hq
    have v2 : SqT K (upd B2 q (HO.tup [.str "showing", .int i2, .bl true])) q [.str "showing", .int i2, .bl true] := SqT.of upd_same
    generalize upd B2 q (HO.tup [.str "showing", .int i2, .bl true]) = D2 at h2 v2 ⊢
    refine ⟨ph, q, _, rfl, rfl, sqT_same h2 hp, v2, fun v hv => ?_, ?_⟩
    · simp only [List.mem_cons, List.not_mem_nil, or_false] at hv
      rcases hv with rfl | rfl | rfl
      all_goals exact .inl rfl
    have jb2 := ja2.same (g2.trans (f2.trans h2))
    have wb2 := wa2.ext (ext_ofS (g2.trans (f2.trans h2)))
    refine ⟨_, rfl, iteF ?_⟩
    refine ⟨jb2.tabs, fun A3 y3 tb3 => ?_⟩
    have ja3 := jb2.ext y3 tb3
    have wa3 := wb2.ext y3
    refine ⟨_, rfl, _, rfl, _, rfl, _, rfl, rfl, rfl, _, _, _, _, _, rfl, .inr ⟨g.m, g.c, g.n, g.ts, g.s, g.rs, g.es, rfl, rfl, rfl, ja3.mac, ja3.cn, ja3.mx.s0, ja3.mx.s1, ja3.lr, wa3.bad fun dd G3 g3 hdd => ?_⟩⟩
    refine ⟨dd, rfl, .inr (.inl ⟨rfl, i2, hdd, fun ph B3 f3 hp => ?_⟩)⟩
    refine ⟨_, rfl, (by show 3 ≤ sizeLine; decide), fun q hq => ?_⟩
    have h3 := same_new (o := HO.tup [.str "showing", .int i2, .bl true]) hq
    have v3 : SqT K (upd B3 q (HO.tup [.str "showing", .int i2, .bl true])) q [.str "showing", .int i2, .bl true] := SqT.of upd_same
    generalize upd B3 q (HO.tup [.str "showing", .int i2, .bl true]) = D3 at h3 v3 ⊢
    refine ⟨ph, q, _, rfl, rfl, sqT_same h3 hp, v3, fun v hv => ?_, ?_⟩
    · simp only [List.mem_cons, List.not_mem_nil, or_false] at hv
      rcases hv with rfl | rfl | rfl
      all_goals exact .inl rfl
    have jb3 := ja3.same (g3.trans (f3.trans h3))
    have wb3 := wa3.ext (ext_ofS (g3.trans (f3.trans h3)))
    refine ⟨_, rfl, iteF ?_⟩
    have x1 := y1.trans (ext_ofS (g1.trans (f1.trans h1)))
    have x2 := y2.trans (ext_ofS (g2.trans (f2.trans h2)))
    have x3 := y3.trans (ext_ofS (g3.trans (f3.trans h3)))
    exact ⟨_, _, rfl, w.ext2 (x1.trans (x2.trans x3)) jb3.tabs⟩
  · rintro σ' H' ⟨x18, x19, rfl, w⟩
    exact kk _ _ ⟨g, _, _, _, _, _, _, _, _, _, rfl, jC.ext w.ext w.tabs⟩
end
end KT
/-! the law: odd values; the law whole -/
namespace KT
open L2 PySem PySem.Spec PyProof.Rows Kx RZ TL
section
variable {K : PySem.W.Frag}
theorem odd_kn {H : Hp} {od : V} (h : od ∈ ([V.int 8, .int (-1), .non, .bl true, .str "0"] : List V)) : Kn K H od ∧ (∀ k : Nat, k ≤ 8 → isBel k od = false) ∧ ∃ dt, (∀ H2 : Hp, ShowD K H2 od dt) ∧ ((∃ i, od = .int i) ∨ od = .non ∨ (∃ b, od = .bl b) ∨ ∃ x, od = .str x) := by
  simp only [List.mem_cons, List.not_mem_nil, or_false] at h
  rcases h with rfl | rfl | rfl | rfl | rfl
  · exact ⟨.int _, fun k hk => belZ (by omega), .int 8, fun H2 => showOf (.int _) (okD_small (by omega)), .inl ⟨_, rfl⟩⟩
  · exact ⟨.int _, fun k hk => belZ (by omega), .int (-1), fun H2 => showOf (.int _) (okD_small (by omega)), .inl ⟨_, rfl⟩⟩
  · exact ⟨.non, fun _ _ => rfl, .none, fun H2 => showOf .non okD_non, .inr (.inl rfl)⟩
  · exact ⟨.bl true, fun _ _ => rfl, .bool true, fun H2 => showOf (.bl true) (okD_bl true), .inr (.inr (.inl ⟨_, rfl⟩))⟩
  · exact ⟨.str _, fun _ _ => rfl, .str "0", fun H2 => showOf (.str _) (okD_str (L := 100) (by decide +kernel)), .inr (.inr (.inr ⟨_, rfl⟩))⟩
end
section
variable {P : Program} {w : World} {K : PySem.W.Frag} {mg : Str → Option Value} {base : Heap} {f cc : Addr} {A : Around} {outer : List Env} {st : Shared} {H0 : Hp} {E : XK} {a : Ad} {C CM cW t0 Pt : Addr} {Ts : List (Addr × Str)} {sc : Addr} {scn : List Int}
variable (Z : Lz P w K mg base f cc A outer st H0 E a C CM cW t0 Ts Pt scn)
include Z
theorem q19 : HT (ι := Nat) (XL P w K mg base f (.ref cc) A outer st H0 E) (nthS lawS 19) (fun k σ H => ∃ (g : Gm) (x3 x9 x10 x11 x12 x13 x18 x19 x20 : Option V), σ = [some (.ref sc), some (.int (k : Nat)), some (.ref g.b), x3, some (.ref g.ta), some (.ref g.m), some (.int g.s), some (.int (g.ts.length : Nat)), some (.ref g.ro), x9, x10, x11, x12, x13, some (.ref g.re), some (.ref g.c), some (.int (g.ak : Nat)), some (.ref g.sh), x18, x19, x20, none, none] ∧ W1 K C CM Ts sc scn g H) (fun k σ H => ∃ (g : Gm) (od : V) (x3 x9 x10 x11 x12 x13 x18 x19 : Option V), σ = [some (.ref sc), some (.int (k : Nat)), some (.ref g.b), x3, some (.ref g.ta), some (.ref g.m), some (.int g.s), some (.int (g.ts.length : Nat)), some (.ref g.ro), x9, x10, x11, x12, x13, some (.ref g.re), some (.ref g.c), some (.int (g.ak : Nat)), some (.ref g.sh), x18, x19, some od, none, none] ∧ W1 K C CM Ts sc scn g H ∧ od ∈ ([V.int 8, .int (-1), .non, .bl true, .str "0"] : List V)) := by
  obtain ⟨T, TC, TM, M, D, F, O, hear, hf, lone, hr, hl, TB, mem, only⟩ := Z
  refine ⟨_, (ps_set (i := 20) sclaw.nd rfl (by first | exact Or.inl rfl | exact Or.inr rfl) (pe_callC O.pick hr pass0 (pa_cons (pv 2) (pa_cons (pe_lst (pa_cons pe_int (pa_cons (pe_op op_sub pe_int pe_int) (pa_cons pe_non (pa_cons pe_bl (pa_cons pe_str pa_nil)))))) pa_nil)))), ?_⟩
  rintro k Dd σ H ⟨g, x3, x9, x10, x11, x12, x13, x18, x19, x20, rfl, j⟩ kk
  obtain ⟨t, hb⟩ := j.box
  refine ⟨_, rfl, _, _, rfl, rfl, (by show 5 ≤ sizeLine; decide), fun l hl => ?_⟩
  have lb : l ≠ g.b := fun z => by rw [z, hb] at hl; cases hl
  have e2 := same_new (o := HO.lst [.int 8, .int (0 - 1), .non, .bl true, .str "0"]) hl
  have u2 : upd H l (HO.lst [.int 8, .int (0 - 1), .non, .bl true, .str "0"]) l = some (.lst [.int 8, .int (0 - 1), .non, .bl true, .str "0"]) := upd_same
  generalize upd H l (HO.lst [.int 8, .int (0 - 1), .non, .bl true, .str "0"]) = H2 at e2 u2 ⊢
  refine ⟨g.b, l, t, _, rfl, e2 _ _ hb, lb, SqL.of u2, (by show 0 < 5; decide), (by show 5 < 1073741824; decide), fun v H3 hv m3 => ?_⟩
  exact kk _ _ ⟨g, v, _, _, _, _, _, _, _, _, rfl, (j.same e2).mv m3, hv⟩
theorem q20 : HT (ι := Nat) (XL P w K mg base f (.ref cc) A outer st H0 E) (nthS lawS 20) (fun k σ H => ∃ (g : Gm) (od : V) (x3 x9 x10 x11 x12 x13 x18 x19 : Option V), σ = [some (.ref sc), some (.int (k : Nat)), some (.ref g.b), x3, some (.ref g.ta), some (.ref g.m), some (.int g.s), some (.int (g.ts.length : Nat)), some (.ref g.ro), x9, x10, x11, x12, x13, some (.ref g.re), some (.ref g.c), some (.int (g.ak : Nat)), some (.ref g.sh), x18, x19, some od, none, none] ∧ W1 K C CM Ts sc scn g H ∧ od ∈ ([V.int 8, .int (-1), .non, .bl true, .str "0"] : List V)) (fun k σ H => ∃ (g : Gm) (x3 x9 x10 x11 x12 x13 x18 x19 x20 : Option V), σ = [some (.ref sc), some (.int (k : Nat)), some (.ref g.b), x3, some (.ref g.ta), some (.ref g.m), some (.int g.s), some (.int (g.ts.length : Nat)), some (.ref g.ro), x9, x10, x11, x12, x13, some (.ref g.re), some (.ref g.c), some (.int (g.ak : Nat)), some (.ref g.sh), x18, x19, x20, none, none] ∧ W1 K C CM Ts sc scn g H) := by
  obtain ⟨T, TC, TM, M, D, F, O, hear, hf, lone, hr, hl, TB, mem, only⟩ := Z
  have cs : CallR (XL P w K mg base f (.ref cc) A outer st H0 E) (.builtin "repr") (rShow K) := call_show lone (r64 hr)
  obtain ⟨gH, fdH, FH, mH, bH⟩ := hf
  have hfx : HF (XL P w K mg base f (.ref cc) A outer st H0 E) a C CM cW Ts gH fdH cc Pt s_law := ⟨FH, mH, bH, T, TC, TM, D, lone, TB, rfl, rfl, mem, only⟩
  refine ⟨_, (ps_if (pt_cmpR (op_neSameK (K := K) (r64 hr)) (pe_heard (k := 14) hfx hr (fun A2 o2 s2 H2 E2 f2 c2 hr' => pe_callC F.told hr' passL (pa_cons (pv 5) (pa_cons (pv 6) (pa_cons (pv 15) (pa_cons (pe_op op_rep (pe_lst (pa_cons pe_int pa_nil)) (pv 7)) (pa_cons (pv 20) pa_nil))))))) (pe_tup (pa_cons pe_str (pa_cons (pe_callB cs (by rfl) T.z_repr (by decide +kernel) (pa_cons (pv 20) pa_nil)) (pa_cons pe_bl pa_nil)))) (nomark _)) (pss_one (ps_ret pe_bl)) pss_nil), ?_⟩
  rintro k Dd σ H ⟨g, od, x3, x9, x10, x11, x12, x13, x18, x19, rfl, j, ho⟩ kk
  have l4 := j.ok.l4
  have lr := j.lr
  have le := j.le
  refine ⟨j.tabs, fun H1 x1 tb1 => ?_⟩
  have j1 := j.ext x1 tb1
  refine ⟨_, rfl, _, rfl, _, rfl, (by show 1 ≤ sizeLine; decide), fun l hl => ?_⟩
  have el := same_new (o := HO.lst [V.int 0]) hl
  have ul : upd H1 l (HO.lst [V.int 0]) l = some (.lst [V.int 0]) := upd_same
  generalize upd H1 l (HO.lst [V.int 0]) = H2 at el ul ⊢
  refine ⟨_, rfl, l, ((g.ts.length : Nat) : Int), _, rfl, rfl, ul, by omega, by omega, (by show 1 * _ ≤ sizeLine; rw [sizeLine_eq]; omega), fun z hz => ?_⟩
  rw [Int.toNat_natCast, List.flatten_replicate_singleton]
  have ez := same_new (o := HO.lst (List.replicate g.ts.length (V.int 0))) hz
  have uz : upd H2 z (HO.lst (List.replicate g.ts.length (V.int 0))) z = some (.lst (List.replicate g.ts.length (V.int 0))) := upd_same
  generalize upd H2 z (HO.lst (List.replicate g.ts.length (V.int 0))) = H3 at ez uz ⊢
  have j3 := j1.same (el.trans ez)
  obtain ⟨kn, nb, dt, sd, kind⟩ := odd_kn (K := K) (H := H3) ho
  have zer : Zer K H3 (.ref z) g.rs g.es := by
    refine ⟨.seq (.inl (SqL.of (by rw [uz, lr, List.map_replicate]))), fun i x hx => ?_⟩
    rw [List.map_replicate, List.getElem?_replicate] at hx
    split at hx
    · cases hx
      rename_i jk
      have a1 : g.rs[i]? = some (g.rs.getD i 0) := by rw [List.getD_eq_getElem?_getD, List.getElem?_eq_getElem (by omega)] <;> rfl
      have a2 : g.es[i]? = some (g.es.getD i 0) := by rw [List.getD_eq_getElem?_getD, List.getElem?_eq_getElem (by omega)] <;> rfl
      have b1 := j.r0 _ (List.mem_of_getElem? a1)
      have b2 := j.e0 _ (List.mem_of_getElem? a2)
      unfold canShow
      split
      · rfl
      · rename_i ne
        show (decide ((0 : Int) ≤ 0) && decide ((0 : Int) < g.es.getD i 0 + g.rs.getD i 0)) = true
        rw [decide_eq_true (by omega), decide_eq_true (by omega)]
        rfl
    · cases hx
  refine ⟨_, rfl, .ref g.m, .int g.s, .ref g.c, .ref z, od, rfl, .inr ⟨g.m, g.c, g.n, g.ts, g.s, g.rs, g.es, rfl, rfl, rfl, j3.mac, j3.cn, j3.lr, j3.mx, .inr ⟨zer, kn, nb, fun dd H4 e4 hdd => ?_⟩⟩⟩
  refine ⟨dd, rfl, .inr (.inr (.inr (.inl ⟨rfl, od, dt, hdd, sd _, kind, fun ph H5 e5 hp => ?_⟩)))⟩
  have s5 := sd H5
  refine ⟨_, rfl, _, dt, rfl, s5.dp, s5.sh, s5.nd, s5.deep, s5.fit, (by show 3 ≤ sizeLine; decide), fun q hq => ?_⟩
  have e6 := same_new (o := HO.tup [.str "refused", .str dt.shown, .bl true]) hq
  have u6 : SqT K (upd H5 q (HO.tup [.str "refused", .str dt.shown, .bl true])) q [.str "refused", .str dt.shown, .bl true] := SqT.of upd_same
  generalize upd H5 q (HO.tup [.str "refused", .str dt.shown, .bl true]) = H6 at e6 u6 ⊢
  refine ⟨ph, q, _, rfl, rfl, sqT_same e6 hp, u6, fun v hv => ?_, ?_⟩
  · simp only [List.mem_cons, List.not_mem_nil, or_false] at hv
    rcases hv with rfl | rfl | rfl
    all_goals exact .inl rfl
  exact ⟨_, rfl, iteF (kk _ _ ⟨g, _, _, _, _, _, _, _, _, _, rfl, j3.same (e4.trans (e5.trans e6))⟩)⟩
theorem q21 : HT (ι := Nat) (XL P w K mg base f (.ref cc) A outer st H0 E) (nthS lawS 21) (fun k σ H => ∃ (g : Gm) (x3 x9 x10 x11 x12 x13 x18 x19 x20 : Option V), σ = [some (.ref sc), some (.int (k : Nat)), some (.ref g.b), x3, some (.ref g.ta), some (.ref g.m), some (.int g.s), some (.int (g.ts.length : Nat)), some (.ref g.ro), x9, x10, x11, x12, x13, some (.ref g.re), some (.ref g.c), some (.int (g.ak : Nat)), some (.ref g.sh), x18, x19, x20, none, none] ∧ W1 K C CM Ts sc scn g H) (fun k σ H => ∃ (g : Gm) (x3 x9 x10 x11 x12 x13 x18 x19 x20 : Option V), σ = [some (.ref sc), some (.int (k : Nat)), some (.ref g.b), x3, some (.ref g.ta), some (.ref g.m), some (.int g.s), some (.int (g.ts.length : Nat)), some (.ref g.ro), x9, x10, x11, x12, x13, some (.ref g.re), some (.ref g.c), some (.int (g.ak : Nat)), some (.ref g.sh), x18, x19, x20, none, none] ∧ W1 K C CM Ts sc scn g H) := by
  obtain ⟨T, TC, TM, M, D, F, O, hear, hf, lone, hr, hl, TB, mem, only⟩ := Z
  have cs : CallR (XL P w K mg base f (.ref cc) A outer st H0 E) (.builtin "repr") (rShow K) := call_show lone (r64 hr)
  obtain ⟨gH, fdH, FH, mH, bH⟩ := hf
  have hfx : HF (XL P w K mg base f (.ref cc) A outer st H0 E) a C CM cW Ts gH fdH cc Pt s_law := ⟨FH, mH, bH, T, TC, TM, D, lone, TB, rfl, rfl, mem, only⟩
  refine ⟨_, (ps_if (pt_cmpR op_ne (pe_ix ix_tup (pe_heard (k := 14) hfx hr (fun A2 o2 s2 H2 E2 f2 c2 hr' => pe_callC F.lots hr' passL (pa_cons (pv 5) (pa_cons (pv 6) (pa_cons (pv 15) pa_nil))))) pe_int (fun _ _ => rfl)) pe_str (nomark _)) (pss_one (ps_ret pe_bl)) pss_nil), ?_⟩
  rintro k Dd σ H ⟨g, x3, x9, x10, x11, x12, x13, x18, x19, x20, rfl, j⟩ kk
  refine ⟨j.tabs, fun H1 x1 tb1 => ?_⟩
  have j1 := j.ext x1 tb1
  refine ⟨_, rfl, _, rfl, _, rfl, g.m, g.c, g.n, g.ts, .int g.s, g.rs, g.es, rfl, j1.mac, .int _, j1.cn, fun b => (bel_no b rfl j1.mx.s0 j1.mx.s1).elim, fun s' ev _ _ => ?_⟩
  cases ev
  refine ⟨fun z => absurd j1.lr z, fun _ => ⟨fun d x y fg => (fg.no j1.mx.ex).elim, fun L l H2 qs cl mc e2 hl hq hcl => ⟨by decide, fun p hp => ?_⟩⟩⟩
  have e3 := same_new (o := HO.tup [.str "told", .ref l]) hp
  have u3 : SqT K (upd H2 p (HO.tup [.str "told", .ref l])) p [.str "told", .ref l] := SqT.of upd_same
  generalize upd H2 p (HO.tup [.str "told", .ref l]) = H3 at e3 u3 ⊢
  refine ⟨p, _, 0, _, rfl, rfl, u3, rfl, rfl, _, rfl, ?_⟩
  exact iteF (kk _ _ ⟨g, _, _, _, _, _, _, _, _, _, rfl, j1.same (e2.trans e3)⟩)
end
end KT
/-! the law, the whole -/
namespace KT
open L2 PySem PySem.Spec PyProof.Rows Kx RZ TL
section
variable {P : Program} {w : World} {K : PySem.W.Frag} {mg : Str → Option Value} {base : Heap} {f cc : Addr} {A : Around} {outer : List Env} {st : Shared} {H0 : Hp} {E : XK} {a : Ad} {C CM cW t0 Pt : Addr} {Ts : List (Addr × Str)} {sc : Addr} {scn : List Int}
variable (Z : Lz P w K mg base f cc A outer st H0 E a C CM cW t0 Ts Pt scn)
include Z
theorem q11b : HT (ι := Nat) (XL P w K mg base f (.ref cc) A outer st H0 E) (nthS lawS 11) (fun k σ H => ∃ (g : Gl) (x12 x13 x14 x15 x16 x17 x18 x19 x20 : Option V), σ = [some (.ref sc), some (.int (k : Nat)), some (.ref g.b), some (.int (g.n : Nat)), some (.ref g.ta), some (.ref g.m), some (.int g.s), some (.int (g.ts.length : Nat)), some (.ref g.ro), some (.ref g.cg), some (.ref g.co), some g.bd, x12, x13, x14, x15, x16, x17, x18, x19, x20, none, none] ∧ E7 K C CM Ts sc scn g H) (fun k σ H => ∃ (g : Gm) (x3 x4 x5 x6 x7 x8 x9 x10 x11 x12 x13 x14 x15 x16 x17 x18 x19 x20 : Option V), σ = [some (.ref sc), some (.int (k : Nat)), some (.ref g.b), x3, x4, x5, x6, x7, x8, x9, x10, x11, x12, x13, x14, x15, x16, x17, x18, x19, x20, none, none] ∧ U1 K C CM Ts sc scn g H) := by
  obtain ⟨t, p, q⟩ := q11 Z
  refine ⟨t, p, fun k D σ H a kk => q k D σ H a fun σ' H' b => ?_⟩
  obtain ⟨g, x12, x13, x14, x15, x16, x17, x18, x19, x20, rfl, j⟩ := b
  exact kk _ _ ⟨⟨g.b, g.b, [], 0, [], 0, g.b, g.b, [], g.b, [], g.b, 0, g.b, []⟩, _, _, _, _, _, _, _, _, _, _, _, _, _, _, _, _, _, _, rfl, ⟨j.tabs, j.hs, j.box, j.sb⟩⟩
end
def spLaw (K : PySem.W.Frag) (Ts : List (Addr × Str)) : Sp := fun vs H Q _ => ∃ (a : Addr) (ns : List Int), vs = [.ref a] ∧ SqL K H a (ns.map V.int) ∧ ns.length ≤ 63 ∧ LamX.Tabs Ts H ∧ ∀ H', Q (.bl true) H'
section
variable {P : Program} {w : World} {K : PySem.W.Frag} {mg : Str → Option Value} {base : Heap} {f cc : Addr} {fd : FuncData} {a : Ad} {C CM cW t0 Pt : Addr} {Ts : List (Addr × Str)}
theorem ok_law (F : FnP K "law" s_law f fd) (hcode : fd.code = .ref cc) (T : Mg mg) (TC : ClsC K mg C) (TM : ClsM K mg CM) (M : Mks P w K mg base a C CM t0) (D : Hd K mg a C CM cW) (FS : FnS P w K mg base a C CM) (O : FnL P w K mg base Ts)
    (hear : CalG P w K mg base CX0 14 "_law_heard" ["ask"] (fun vs H Q E => spHear K a C dlA (tbA K a C CM) vs H Q E ∨ spHear K a C dlW (tbW K a C CM) vs H Q E)) (hf : ∃ (gH : Addr) (fdH : FuncData), FnP K "_law_heard" s_law_heard gH fdH ∧ mg "_law_heard" = some (.ref gH) ∧ Binds K fdH ["ask"] [])
    (TB : LamX.TabB base mg cc Pt) (mem : (Pt, (Str.ofString "law" ++ ".<locals>.") ++ "<lambda>") ∈ Ts) (only : ∀ p ∈ Ts, p.1 = Pt → p.2 = (Str.ofString "law" ++ ".<locals>.") ++ "<lambda>") :
    FnG P w K mg base CX0 17 f fd ["script"] (spLaw K Ts) := by
  refine okGc F hcode sclaw (fun vs H Q E h => ?_) (fun Ar o0 st H vs Q E lone hr h => ?_)
  · obtain ⟨a, ns, rfl, _⟩ := h
    rfl
  · obtain ⟨sc, scn, rfl, hs, hl, tb, k⟩ := h
    have Z : Lz P w K mg base f cc Ar o0 st H E a C CM cW t0 Ts Pt scn := ⟨T, TC, TM, M, D, FS, O, hear, hf, lone, hr, hl, TB, mem, only⟩
    obtain ⟨tb2, ab, cb⟩ := HTs.cons (q0 (sc := sc) (H0 := H) (E := E) Z) (.cons (q1 Z) (.cons (q2 Z) (.cons (q3 Z) (.cons (q4 Z) (.cons (q5 Z) (.cons (q6 Z) (.cons (q7 Z) (.cons (q8 Z) (.cons (q9 Z) (.cons (q10 Z) (.cons (q11b Z) (.cons (q12 Z) (.cons (q13 Z) (.cons (q14 Z) (.cons (q15 Z) (.cons (q16 Z) (.cons (q17 Z) (.cons (q18 Z) (.cons (q19 Z) (.cons (q20 Z) (.one (q21 Z))))))))))))))))))))))
    refine ⟨_, PSs.nox (pss_cons (ps_for PassesOwn.never rfl (pi_range1 (by rfl) T.z_range (pa_cons pe_int pa_nil)) (pg_name (i := 1) sclaw.nd rfl (by first | exact Or.inl rfl | exact Or.inr rfl)) ab) (pss_one (ps_ret pe_bl))), ?_⟩
    refine ⟨3, rfl, by decide, by decide, for_range (lo := 0) (n := 3) (fun i σ' H' => ∃ x1 x2 x3 x4 x5 x6 x7 x8 x9 x10 x11 x12 x13 x14 x15 x16 x17 x18 x19 x20, σ' = [some (.ref sc), x1, x2, x3, x4, x5, x6, x7, x8, x9, x10, x11, x12, x13, x14, x15, x16, x17, x18, x19, x20, none, none] ∧ E0 K C CM Ts sc scn H') ⟨_, _, _, _, _, _, _, _, _, _, _, _, _, _, _, _, _, _, _, _, rfl, ⟨tb, hs⟩⟩ ?_ ?_⟩
    · rintro i σ' H2 hi ⟨x1, x2, x3, x4, x5, x6, x7, x8, x9, x10, x11, x12, x13, x14, x15, x16, x17, x18, x19, x20, rfl, e⟩
      rw [show (0 : Int) + (i : Int) = (i : Int) from Int.zero_add _]
      refine cb i _ _ _ ⟨x2, x3, x4, x5, x6, x7, x8, x9, x10, x11, x12, x13, x14, x15, x16, x17, x18, x19, x20, rfl, e⟩ ?_
      rintro σ2 H3 ⟨g, x3, x9, x10, x11, x12, x13, x18, x19, x20, rfl, e3⟩
      exact ⟨_, _, _, _, _, _, _, _, _, _, _, _, _, _, _, _, _, _, _, _, rfl, ⟨e3.tabs, e3.hs⟩⟩
    · rintro σ' H2 ⟨x1, x2, x3, x4, x5, x6, x7, x8, x9, x10, x11, x12, x13, x14, x15, x16, x17, x18, x19, x20, rfl, e⟩
      exact k H2
end
theorem FnG.or {P : Program} {w : World} {K : PySem.W.Frag} {mg : Str → Option Value} {base : Heap} {CX : CXT} {k : Nat} {f : Addr} {fd : FuncData} {ps : List Str} {sp sp2 : Sp} (F : FnG P w K mg base CX k f fd ps sp) (G : FnG P w K mg base CX k f fd ps sp2) : FnG P w K mg base CX k f fd ps (fun vs H Q E => sp vs H Q E ∨ sp2 vs H Q E) :=
  ⟨fun vs H Q E h => h.elim (F.len vs H Q E) (G.len vs H Q E), fun A outer s H args us vs Q E hr lo he hb hv h => h.elim (F.run A outer s H args us vs Q E hr lo he hb hv) (G.run A outer s H args us vs Q E hr lo he hb hv)⟩
end KT
/-! the bundles, by what the head tells -/
namespace KT
open PySem PySem.Spec PyProof.Rows L2 Kx RZ
abbrev Says (w : World) (h : Heap) (K : PySem.W.Frag) : Prop := He.SaysX fa fn [] tf ex w h K
section
variable {P : Program} {w : World} {K : PySem.W.Frag} {h : Heap} {mg : Str → Option Value}
theorem mg_of (X : K.In h) (G : h.Ns mainGlobals mg) (c : Says w h K) : Mg mg where
  z_KeyError := He.free_ok X G (c.t.d.fact 56 (f := .free "KeyError") rfl)
  z_ValueError := He.free_ok X G (c.t.d.fact 57 (f := .free "ValueError") rfl)
  z_abs := He.free_ok X G (c.t.d.fact 58 (f := .free "abs") rfl)
  z_all := He.free_ok X G (c.t.d.fact 59 (f := .free "all") rfl)
  z_bool := He.free_ok X G (c.t.d.fact 60 (f := .free "bool") rfl)
  z_enumerate := He.free_ok X G (c.t.d.fact 61 (f := .free "enumerate") rfl)
  z_int := He.free_ok X G (c.t.d.fact 62 (f := .free "int") rfl)
  z_isinstance := He.free_ok X G (c.t.d.fact 63 (f := .free "isinstance") rfl)
  z_len := He.free_ok X G (c.t.d.fact 64 (f := .free "len") rfl)
  z_list := He.free_ok X G (c.t.d.fact 65 (f := .free "list") rfl)
  z_max := He.free_ok X G (c.t.d.fact 66 (f := .free "max") rfl)
  z_range := He.free_ok X G (c.t.d.fact 67 (f := .free "range") rfl)
  z_repr := He.free_ok X G (c.t.d.fact 68 (f := .free "repr") rfl)
  z_reversed := He.free_ok X G (c.t.d.fact 69 (f := .free "reversed") rfl)
  z_sorted := He.free_ok X G (c.t.d.fact 70 (f := .free "sorted") rfl)
  z_tuple := He.free_ok X G (c.t.d.fact 71 (f := .free "tuple") rfl)
  z_zip := He.free_ok X G (c.t.d.fact 72 (f := .free "zip") rfl)
  g_DEEDS_MOST := He.int_ok X G (c.t.d.fact 73 (f := .int "DEEDS_MOST" 4) rfl)
  g_STATES_MOST := He.int_ok X G (c.t.d.fact 74 (f := .int "STATES_MOST" 8) rfl)
  g_ROUND_MOST := He.int_ok X G (c.t.d.fact 75 (f := .int "ROUND_MOST" 60) rfl)
  g_REST_MOST := He.int_ok X G (c.t.d.fact 76 (f := .int "REST_MOST" 6) rfl)
theorem clsC_of (X : K.In h) (G : h.Ns mainGlobals mg) (c : Says w h K) : ClsC K mg (He.ga K "Counters") where
  at_ := (He.glo_ok X G (c.t.d.fact 54 (f := .glo "Counters") rfl))
  cl := He.cls_ok (c.t.d.fact 77 (f := .cls "Counters") rfl)
  n1 := (He.noat_ok (c.t.d.fact 81 (f := .noat "Counters" "rounds") rfl))
  n2 := (He.noat_ok (c.t.d.fact 82 (f := .noat "Counters" "rests") rfl))
  isi := isiB_ok (ex_at c.more 12 rfl)
  yes := kitB_ok (ex_at c.more 13 rfl)
  notT := kitB_ok (ex_at c.more 14 rfl)
  first := (ex_at c.more 15 rfl)
theorem clsM_of (X : K.In h) (G : h.Ns mainGlobals mg) (c : Says w h K) : ClsM K mg (He.ga K "Machine") where
  at_ := (He.glo_ok X G (c.t.d.fact 55 (f := .glo "Machine") rfl))
  cl := He.cls_ok (c.t.d.fact 78 (f := .cls "Machine") rfl)
  n1 := (He.noat_ok (c.t.d.fact 83 (f := .noat "Machine" "deeds") rfl))
  n2 := (He.noat_ok (c.t.d.fact 84 (f := .noat "Machine" "states") rfl))
  n3 := (He.noat_ok (c.t.d.fact 85 (f := .noat "Machine" "tables") rfl))
  isi := isiB_ok (ex_at c.more 16 rfl)
  yes := kitB_ok (ex_at c.more 17 rfl)
  notT := kitB_ok (ex_at c.more 18 rfl)
  first := (ex_at c.more 19 rfl)
end
section
variable {P : Program} {w : World} {K : PySem.W.Frag} {mg : Str → Option Value} {base : Heap} {x f qual : Str} {C : Addr} {fd : FuncData}
theorem errN_of (at_ : mg x = some (.ref C)) (cls : EvC K C) (ini : iniB K C = true) (ok : FnOk P w K mg base CX0 1 (He.ma K C "__init__") fd ["self", f] (spKeep K C f)) (b : Binds K fd ["self", f] [])
    (kb : KBn K fd ["self", f] 1 [f] (fun us ws => us ++ ws) (fun vs zs => vs ++ zs)) : ErrN P w K mg base 1 x f C :=
  ⟨at_, cls, _, fd, (iniB_ok ini).1, (iniB_ok ini).2, b, ok, fun s' a ws X l => kb.to s' [.ref a] ws X rfl l⟩
theorem errF_of {g h : Str} (at_ : mg x = some (.ref C)) (cls : OexC K C) (ini : iniB K C = true) (ok : FnOk P w K mg base CX0 1 (He.ma K C "__init__") fd ["self", f, g, h] (spKeep3 K C f g h)) (b : Binds K fd ["self", f, g, h] [])
    (kb : KBn K fd ["self", f, g, h] 1 [h, f, g] (fun us ws => us ++ [ws.getD 1 .none, ws.getD 2 .none, ws.getD 0 .none]) (fun vs zs => vs ++ [zs.getD 1 .non, zs.getD 2 .non, zs.getD 0 .non])) : ErrF P w K mg base 1 x f g h C :=
  ⟨at_, cls, _, fd, (iniB_ok ini).1, (iniB_ok ini).2, b, ok, fun s' a ws X l => kb.to s' [.ref a] ws X rfl l⟩
end
theorem sc_BadMachine : FnScope ["self", "at"] ["self", "at"] (defScope s_BadMachine_init) := ⟨rfl, rfl, rfl, by decide +kernel, rfl, by decide +kernel, by decide +kernel⟩
theorem err_BadMachine {P : Program} {w w' : World} {K : PySem.W.Frag} {h base : Heap} {mg : Str → Option Value} (X : K.In h) (G : h.Ns mainGlobals mg) (c : Says w' h K) : ErrN P w K mg base 1 "BadMachine" "at" (He.ga K "BadMachine") := by
  obtain ⟨fd, F⟩ := c.t.d.def_ 47 rfl
  exact errN_of (He.glo_ok X G (c.t.d.fact 48 (f := .glo "BadMachine") rfl)) (EvC.of (oexB_ok (ex_at c.more 0 rfl))) (ex_at c.more 6 rfl) (ok_keep F (oexB_ok (ex_at c.more 0 rfl)) (He.noat_ok (c.t.d.fact 86 (f := .noat "BadMachine" "at") rfl)) sc_BadMachine (by decide) (by decide) (by decide +kernel) (by decide +kernel)) (F.bindsN fun _ _ _ _ _ _ us hl => match us, hl with | [_, _], _ => rfl)
    (kbn_of F (fun r1 r2 => r1.append r2) fun _ _ _ _ _ _ us ws hl hm => match us, ws, hl, hm with | [_], [_], _, _ => rfl)
theorem sc_BadShowing : FnScope ["self", "at"] ["self", "at"] (defScope s_BadShowing_init) := ⟨rfl, rfl, rfl, by decide +kernel, rfl, by decide +kernel, by decide +kernel⟩
theorem err_BadShowing {P : Program} {w w' : World} {K : PySem.W.Frag} {h base : Heap} {mg : Str → Option Value} (X : K.In h) (G : h.Ns mainGlobals mg) (c : Says w' h K) : ErrN P w K mg base 1 "BadShowing" "at" (He.ga K "BadShowing") := by
  obtain ⟨fd, F⟩ := c.t.d.def_ 48 rfl
  exact errN_of (He.glo_ok X G (c.t.d.fact 49 (f := .glo "BadShowing") rfl)) (EvC.of (oexB_ok (ex_at c.more 1 rfl))) (ex_at c.more 7 rfl) (ok_keep F (oexB_ok (ex_at c.more 1 rfl)) (He.noat_ok (c.t.d.fact 87 (f := .noat "BadShowing" "at") rfl)) sc_BadShowing (by decide) (by decide) (by decide +kernel) (by decide +kernel)) (F.bindsN fun _ _ _ _ _ _ us hl => match us, hl with | [_, _], _ => rfl)
    (kbn_of F (fun r1 r2 => r1.append r2) fun _ _ _ _ _ _ us ws hl hm => match us, ws, hl, hm with | [_], [_], _, _ => rfl)
theorem sc_Refused : FnScope ["self", "at"] ["self", "at"] (defScope s_Refused_init) := ⟨rfl, rfl, rfl, by decide +kernel, rfl, by decide +kernel, by decide +kernel⟩
theorem err_Refused {P : Program} {w w' : World} {K : PySem.W.Frag} {h base : Heap} {mg : Str → Option Value} (X : K.In h) (G : h.Ns mainGlobals mg) (c : Says w' h K) : ErrN P w K mg base 1 "Refused" "at" (He.ga K "Refused") := by
  obtain ⟨fd, F⟩ := c.t.d.def_ 49 rfl
  exact errN_of (He.glo_ok X G (c.t.d.fact 50 (f := .glo "Refused") rfl)) (EvC.of (oexB_ok (ex_at c.more 2 rfl))) (ex_at c.more 8 rfl) (ok_keep F (oexB_ok (ex_at c.more 2 rfl)) (He.noat_ok (c.t.d.fact 88 (f := .noat "Refused" "at") rfl)) sc_Refused (by decide) (by decide) (by decide +kernel) (by decide +kernel)) (F.bindsN fun _ _ _ _ _ _ us hl => match us, hl with | [_, _], _ => rfl)
    (kbn_of F (fun r1 r2 => r1.append r2) fun _ _ _ _ _ _ us ws hl hm => match us, ws, hl, hm with | [_], [_], _, _ => rfl)
theorem sc_TooGreat : FnScope ["self", "most"] ["self", "most"] (defScope s_TooGreat_init) := ⟨rfl, rfl, rfl, by decide +kernel, rfl, by decide +kernel, by decide +kernel⟩
theorem err_TooGreat {P : Program} {w w' : World} {K : PySem.W.Frag} {h base : Heap} {mg : Str → Option Value} (X : K.In h) (G : h.Ns mainGlobals mg) (c : Says w' h K) : ErrN P w K mg base 1 "TooGreat" "most" (He.ga K "TooGreat") := by
  obtain ⟨fd, F⟩ := c.t.d.def_ 50 rfl
  exact errN_of (He.glo_ok X G (c.t.d.fact 51 (f := .glo "TooGreat") rfl)) (EvC.of (oexB_ok (ex_at c.more 3 rfl))) (ex_at c.more 9 rfl) (ok_keep F (oexB_ok (ex_at c.more 3 rfl)) (He.noat_ok (c.t.d.fact 89 (f := .noat "TooGreat" "most") rfl)) sc_TooGreat (by decide) (by decide) (by decide +kernel) (by decide +kernel)) (F.bindsN fun _ _ _ _ _ _ us hl => match us, hl with | [_, _], _ => rfl)
    (kbn_of F (fun r1 r2 => r1.append r2) fun _ _ _ _ _ _ us ws hl hm => match us, ws, hl, hm with | [_], [_], _, _ => rfl)
theorem sc_Forgets : FnScope ["self", "deed", "one", "other"] ["self", "deed", "one", "other"] (defScope s_Forgets_init) := ⟨rfl, rfl, rfl, by decide +kernel, rfl, by decide +kernel, by decide +kernel⟩
theorem err_Forgets {P : Program} {w w' : World} {K : PySem.W.Frag} {h base : Heap} {mg : Str → Option Value} (X : K.In h) (G : h.Ns mainGlobals mg) (c : Says w' h K) : ErrF P w K mg base 1 "Forgets" "deed" "one" "other" (He.ga K "Forgets") := by
  obtain ⟨fd, F⟩ := c.t.d.def_ 51 rfl
  exact errF_of (He.glo_ok X G (c.t.d.fact 52 (f := .glo "Forgets") rfl)) (oexB_ok (ex_at c.more 4 rfl)) (ex_at c.more 10 rfl) (ok_keep3 F (oexB_ok (ex_at c.more 4 rfl)) (He.noat_ok (c.t.d.fact 90 (f := .noat "Forgets" "deed") rfl)) (He.noat_ok (c.t.d.fact 91 (f := .noat "Forgets" "one") rfl)) (He.noat_ok (c.t.d.fact 92 (f := .noat "Forgets" "other") rfl)) sc_Forgets (by decide) (by decide) (by decide) (by decide) (by decide) (by decide) (by decide +kernel) (by decide +kernel) (by decide +kernel) (by decide +kernel)) (F.bindsN fun _ _ _ _ _ _ us hl => match us, hl with | [_, _, _, _], _ => rfl)
    (kbn_of F (fun r1 r2 => r1.append (.cons (vals_getD 1 r2) (.cons (vals_getD 2 r2) (.cons (vals_getD 0 r2) .nil)))) fun _ _ _ _ _ _ us ws hl hm => match us, ws, hl, hm with | [_], [_, _, _], _, _ => rfl)
theorem sc_NoState : FnScope ["self", "state"] ["self", "state"] (defScope s_NoState_init) := ⟨rfl, rfl, rfl, by decide +kernel, rfl, by decide +kernel, by decide +kernel⟩
theorem err_NoState {P : Program} {w w' : World} {K : PySem.W.Frag} {h base : Heap} {mg : Str → Option Value} (X : K.In h) (G : h.Ns mainGlobals mg) (c : Says w' h K) : ErrN P w K mg base 1 "NoState" "state" (He.ga K "NoState") := by
  obtain ⟨fd, F⟩ := c.t.d.def_ 52 rfl
  exact errN_of (He.glo_ok X G (c.t.d.fact 53 (f := .glo "NoState") rfl)) (EvC.ofKey (keyB_ok (ex_at c.more 5 rfl))) (ex_at c.more 11 rfl) (ok_keepK F (keyB_ok (ex_at c.more 5 rfl)) (He.noat_ok (c.t.d.fact 93 (f := .noat "NoState" "state") rfl)) sc_NoState (by decide) (by decide) (by decide +kernel) (by decide +kernel)) (F.bindsN fun _ _ _ _ _ _ us hl => match us, hl with | [_, _], _ => rfl)
    (kbn_of F (fun r1 r2 => r1.append r2) fun _ _ _ _ _ _ us ws hl hm => match us, ws, hl, hm with | [_], [_], _, _ => rfl)
theorem er_of {P : Program} {w w' : World} {K : PySem.W.Frag} {h base : Heap} {mg : Str → Option Value} (X : K.In h) (G : h.Ns mainGlobals mg) (c : Says w' h K) : Er P w K mg base (adOf K) where
  BadMachine := err_BadMachine X G c
  BadShowing := err_BadShowing X G c
  Refused := err_Refused X G c
  TooGreat := err_TooGreat X G c
  Forgets := err_Forgets X G c
  NoState := err_NoState X G c
section
variable {P : Program} {w : World} {K : PySem.W.Frag} {mg : Str → Option Value} {base : Heap} {x qual : Str} {params : Arguments} {body : List Stmt} {scope : Scope} {f : Addr} {fd : FuncData} {ps ks : List Str} {k n : Nat} {CX : CXT} {sp : Sp}
/-- a def by its name -/
theorem cal_of (at_ : mg x = some (.ref f)) (F : FunD K x qual params body scope [] [] f fd) (ok : FnOk P w K mg base CX k f fd ps sp) (h : ∀ (kV doc pm : Value) (an : Option Addr) (cdv ct : Value) (us : List Value), us.length = ps.length → bindArgs (PySem.W.fnOf x qual params body scope .none kV doc pm an cdv ct) ⟨us, []⟩ = pure (ps.zip us)) :
    Cal P w K mg base CX k x ps sp := ⟨_, _, at_, F.kp, F.bindsN h, ok⟩
theorem calN_of {g : List Value → List Value → List Value} {gV : List V → List V → List V} (at_ : mg x = some (.ref f)) (F : FunD K x qual params body scope [] [] f fd) (ok : FnOk P w K mg base CX k f fd ps sp) (rel : ∀ {vs us zs ws}, Vals vs us → Vals zs ws → Vals (gV vs zs) (g us ws))
    (h : ∀ (kV doc pm : Value) (an : Option Addr) (cdv ct : Value) (us ws : List Value), us.length = n → ws.length = ks.length → bindArgs (PySem.W.fnOf x qual params body scope .none kV doc pm an cdv ct) ⟨us, ks.zip ws⟩ = pure (ps.zip (g us ws))) : CalN P w K mg base CX k n x ps ks gV sp :=
  ⟨_, _, g, at_, F.kp, kbn_of F rel h, ok⟩
end
section
variable {P : Program} {w w' : World} {K : PySem.W.Frag} {h base : Heap} {mg : Str → Option Value}
theorem mks_of (X : K.In h) (G : h.Ns mainGlobals mg) (c : Says w' h K) : Mks P w K mg base (adOf K) (He.ga K "Counters") (He.ga K "Machine") (tZero K) := by
  have T := mg_of X G c
  have TC := clsC_of X G c
  have TM := clsM_of X G c
  have R : Er P w K mg base (adOf K) := er_of X G c
  obtain ⟨fdn, Fn⟩ := c.t.d.def_ 0 (d := dF "is_number" s_is_number) rfl
  have fn : FnOk P w K mg base CX0 1 (He.ga K "is_number") fdn ["value"] (spNumber K) := ok_is_number Fn T
  have cn : Cal P w K mg base CX0 1 "is_number" ["value"] (spNumber K) := cal_of (He.glo_ok X G (c.t.d.fact 0 (f := .glo "is_number") rfl)) Fn fn fun _ _ _ _ _ _ us hl => match us, hl with | [_], _ => rfl
  obtain ⟨fdb, Fb⟩ := c.t.d.def_ 1 (d := dF "is_below" s_is_below) rfl
  have fb : FnOk P w K mg base CX0 2 (He.ga K "is_below") fdb ["value", "limit"] (spBelow K) := ok_is_below Fb T cn
  have cb : Cal P w K mg base CX0 2 "is_below" ["value", "limit"] (spBelow K) := cal_of (He.glo_ok X G (c.t.d.fact 1 (f := .glo "is_below") rfl)) Fb fb fun _ _ _ _ _ _ us hl => match us, hl with | [_, _], _ => rfl
  obtain ⟨fds, Fs⟩ := c.t.d.def_ 2 (d := dF "is_sequence" s_is_sequence) rfl
  have fs : FnOk P w K mg base CX0 1 (He.ga K "is_sequence") fds ["value", "least", "most"] (spSeq K) := ok_is_sequence Fs T
  have cs : Cal P w K mg base CX0 1 "is_sequence" ["value", "least", "most"] (spSeq K) := cal_of (He.glo_ok X G (c.t.d.fact 2 (f := .glo "is_sequence") rfl)) Fs fs fun _ _ _ _ _ _ us hl => match us, hl with | [_, _, _], _ => rfl
  obtain ⟨fdl, Fl⟩ := c.t.d.def_ 3 (d := dF "first_not_below" s_first_not_below) rfl
  have fl : FnOk P w K mg base CX0 3 (He.ga K "first_not_below") fdl ["values", "limit"] (spFnb K) := ok_first_not_below Fl T cb
  have cl : Cal P w K mg base CX0 3 "first_not_below" ["values", "limit"] (spFnb K) := cal_of (He.glo_ok X G (c.t.d.fact 3 (f := .glo "first_not_below") rfl)) Fl fl fun _ _ _ _ _ _ us hl => match us, hl with | [_, _], _ => rfl
  obtain ⟨fde, Fe⟩ := c.t.d.def_ 4 (d := dF "_are_rests" s_are_rests) rfl
  have fe : FnOk P w K mg base CX0 4 (He.ga K "_are_rests") fde ["value", "kinds"] (spRests K) := ok_are_rests Fe T cs cl
  have ce : Cal P w K mg base CX0 4 "_are_rests" ["value", "kinds"] (spRests K) := cal_of (He.glo_ok X G (c.t.d.fact 4 (f := .glo "_are_rests") rfl)) Fe fe fun _ _ _ _ _ _ us hl => match us, hl with | [_, _], _ => rfl
  obtain ⟨fdt, Ft⟩ := c.t.d.def_ 8 (d := dF "_is_table" s_is_table) rfl
  have ft : FnOk P w K mg base CX0 4 (He.ga K "_is_table") fdt ["value", "like"] (spTable K) := ok_is_table Ft T cs cl
  have ct : Cal P w K mg base CX0 4 "_is_table" ["value", "like"] (spTable K) := cal_of (He.glo_ok X G (c.t.d.fact 8 (f := .glo "_is_table") rfl)) Ft ft fun _ _ _ _ _ _ us hl => match us, hl with | [_, _], _ => rfl
  obtain ⟨fdI, FI⟩ := c.t.d.def_ 53 (d := dM "Counters" "__init__" "Counters.__init__" s_Counters_init [.adr tZero]) rfl
  obtain ⟨fdM, FM⟩ := c.t.d.def_ 54 (d := dM "Machine" "__init__" "Machine.__init__" s_Machine_init []) rfl
  have okI : FnOk P w K mg base (L2N.CX P w) 5 (He.ma K (He.ga K "Counters") "__init__") fdI ["self", "rounds", "rests"] (spInit K (adOf K) (He.ga K "Counters")) := ok_init FI T R TC cs cl ce
  have okM : FnOk P w K mg base (L2N.CX P w) 5 (He.ma K (He.ga K "Machine") "__init__") fdM ["self", "tables"] (spMachine K (adOf K) (He.ga K "Machine")) := ok_machine FM T R TM cs ct
  have b1 : Binds K fdI ["self", "rounds", "rests"] [] := by
    obtain ⟨ds, v, b⟩ := FunD.binds1 (ps := ["self", "rounds", "rests"]) FI 3 1 (List.cons_ne_nil _ _) rfl fun _ _ _ _ _ _ _ us its l1 l2 => match us, its, l1, l2 with | [_, _, _], [_], _, _ => ⟨_, rfl, rfl⟩
    cases v
    exact b
  have b2 : Binds K fdI ["self", "rounds", "rests"] [.ref (tZero K)] := by
    obtain ⟨ds, v, b⟩ := FunD.binds1 (ps := ["self", "rounds", "rests"]) FI 2 0 (List.cons_ne_nil _ _) rfl fun _ _ _ _ _ _ _ us its l1 l2 => match us, its, l1, l2 with | [_, _], [_], _, _ => ⟨_, rfl, rfl⟩
    match ds, v, b with
    | [u], .cons r .nil, b =>
      obtain rfl : u = .ref (tZero K) := r
      exact b
  exact {
    cnt := ⟨_, fdI, He.mkr_ok (c.t.d.fact 79 (f := .mkr "Counters") rfl), okI, b1⟩
    cnt1 := ⟨_, fdI, He.mkr_ok (c.t.d.fact 79 (f := .mkr "Counters") rfl), okI, b2⟩
    mac := ⟨_, fdM, He.mkr_ok (c.t.d.fact 80 (f := .mkr "Machine") rfl), okM, FM.bindsN fun _ _ _ _ _ _ us hl => match us, hl with | [_, _], _ => rfl⟩
    nil := nilB_ok (ex_at c.more 20 rfl) }
theorem hd_of (X : K.In h) (G : h.Ns mainGlobals mg) (c : Says w h K) : Hd K mg (adOf K) (He.ga K "Counters") (He.ga K "Machine") (He.ga K "WitnessError") where
  g_W := (He.glo_ok X G (c.t.d.fact 47 (f := .glo "WitnessError") rfl))
  g_S := (He.glo_ok X G (c.t.d.fact 49 (f := .glo "BadShowing") rfl))
  g_N := (He.glo_ok X G (c.t.d.fact 53 (f := .glo "NoState") rfl))
  g_O := (He.glo_ok X G (c.t.d.fact 52 (f := .glo "Forgets") rfl))
  g_G := (He.glo_ok X G (c.t.d.fact 51 (f := .glo "TooGreat") rfl))
  g_F := (He.glo_ok X G (c.t.d.fact 50 (f := .glo "Refused") rfl))
  x_O := excB_xf (ex_at c.more 21 rfl)
  x_S := excB_xf (ex_at c.more 22 rfl)
  x_F := excB_xf (ex_at c.more 23 rfl)
  x_N := excB_xf (ex_at c.more 24 rfl)
  n_O1 := (He.noat_ok (c.t.d.fact 90 (f := .noat "Forgets" "deed") rfl))
  n_O2 := (He.noat_ok (c.t.d.fact 91 (f := .noat "Forgets" "one") rfl))
  n_O3 := (He.noat_ok (c.t.d.fact 92 (f := .noat "Forgets" "other") rfl))
  n_S := (He.noat_ok (c.t.d.fact 87 (f := .noat "BadShowing" "at") rfl))
  n_F := (He.noat_ok (c.t.d.fact 88 (f := .noat "Refused" "at") rfl))
  n_N := (He.noat_ok (c.t.d.fact 93 (f := .noat "NoState" "state") rfl))
  e_O := excB_ok (ex_at c.more 21 rfl)
  e_S := excB_ok (ex_at c.more 22 rfl)
  e_F := excB_ok (ex_at c.more 23 rfl)
  e_N := excB_ok (ex_at c.more 24 rfl)
  k_O := kitB_ok (ex_at c.more 25 rfl)
  k_S := kitB_ok (ex_at c.more 26 rfl)
  k_F := kitB_ok (ex_at c.more 27 rfl)
  k_N := kitB_ok (ex_at c.more 31 rfl)
  b_C := fun n hn => by
    simp only [List.mem_cons, List.not_mem_nil, or_false] at hn
    rcases hn with rfl | rfl | rfl | rfl
    · exact kitB_ok (ex_at c.more 32 rfl)
    · exact kitB_ok (ex_at c.more 33 rfl)
    · exact kitB_ok (ex_at c.more 34 rfl)
    · exact kitB_ok (ex_at c.more 35 rfl)
  b_M := fun n hn => by
    simp only [List.mem_cons, List.not_mem_nil, or_false] at hn
    rcases hn with rfl | rfl | rfl | rfl
    · exact kitB_ok (ex_at c.more 36 rfl)
    · exact kitB_ok (ex_at c.more 37 rfl)
    · exact kitB_ok (ex_at c.more 38 rfl)
    · exact kitB_ok (ex_at c.more 39 rfl)
  m_OO := (He.exm_ok (c.t.d.fact 94 (f := .exm "Forgets" "Forgets" true) rfl))
  m_SO := (He.exm_ok (c.t.d.fact 95 (f := .exm "BadShowing" "Forgets" false) rfl))
  m_SS := (He.exm_ok (c.t.d.fact 96 (f := .exm "BadShowing" "BadShowing" true) rfl))
  m_FO := (He.exm_ok (c.t.d.fact 97 (f := .exm "Refused" "Forgets" false) rfl))
  m_FS := (He.exm_ok (c.t.d.fact 98 (f := .exm "Refused" "BadShowing" false) rfl))
  m_FG := (He.exm_ok (c.t.d.fact 99 (f := .exm "Refused" "TooGreat" false) rfl))
  m_FF := (He.exm_ok (c.t.d.fact 100 (f := .exm "Refused" "Refused" true) rfl))
  m_NO := (He.exm_ok (c.t.d.fact 101 (f := .exm "NoState" "Forgets" false) rfl))
  m_NS := (He.exm_ok (c.t.d.fact 102 (f := .exm "NoState" "BadShowing" false) rfl))
  m_NG := (He.exm_ok (c.t.d.fact 103 (f := .exm "NoState" "TooGreat" false) rfl))
  m_NF := (He.exm_ok (c.t.d.fact 104 (f := .exm "NoState" "Refused" false) rfl))
  m_NN := (He.exm_ok (c.t.d.fact 105 (f := .exm "NoState" "NoState" true) rfl))
theorem prg_of (X : K.In h) (G : h.Ns mainGlobals mg) (c : Says w' h K) : FnS P w K mg base (adOf K) (He.ga K "Counters") (He.ga K "Machine") := by
  have T := mg_of X G c
  have TC := clsC_of X G c
  have TM := clsM_of X G c
  have R : Er P w K mg base (adOf K) := er_of X G c
  obtain ⟨fdn, Fn⟩ := c.t.d.def_ 0 (d := dF "is_number" s_is_number) rfl
  have fn : FnOk P w K mg base CX0 1 (He.ga K "is_number") fdn ["value"] (spNumber K) := ok_is_number Fn T
  have cn : Cal P w K mg base CX0 1 "is_number" ["value"] (spNumber K) := cal_of (He.glo_ok X G (c.t.d.fact 0 (f := .glo "is_number") rfl)) Fn fn fun _ _ _ _ _ _ us hl => match us, hl with | [_], _ => rfl
  obtain ⟨fdb, Fb⟩ := c.t.d.def_ 1 (d := dF "is_below" s_is_below) rfl
  have fb : FnOk P w K mg base CX0 2 (He.ga K "is_below") fdb ["value", "limit"] (spBelow K) := ok_is_below Fb T cn
  have cb : Cal P w K mg base CX0 2 "is_below" ["value", "limit"] (spBelow K) := cal_of (He.glo_ok X G (c.t.d.fact 1 (f := .glo "is_below") rfl)) Fb fb fun _ _ _ _ _ _ us hl => match us, hl with | [_, _], _ => rfl
  obtain ⟨fds, Fs⟩ := c.t.d.def_ 2 (d := dF "is_sequence" s_is_sequence) rfl
  have fs : FnOk P w K mg base CX0 1 (He.ga K "is_sequence") fds ["value", "least", "most"] (spSeq K) := ok_is_sequence Fs T
  have cs : Cal P w K mg base CX0 1 "is_sequence" ["value", "least", "most"] (spSeq K) := cal_of (He.glo_ok X G (c.t.d.fact 2 (f := .glo "is_sequence") rfl)) Fs fs fun _ _ _ _ _ _ us hl => match us, hl with | [_, _, _], _ => rfl
  obtain ⟨fdl, Fl⟩ := c.t.d.def_ 3 (d := dF "first_not_below" s_first_not_below) rfl
  have fl : FnOk P w K mg base CX0 3 (He.ga K "first_not_below") fdl ["values", "limit"] (spFnb K) := ok_first_not_below Fl T cb
  have cl : Cal P w K mg base CX0 3 "first_not_below" ["values", "limit"] (spFnb K) := cal_of (He.glo_ok X G (c.t.d.fact 3 (f := .glo "first_not_below") rfl)) Fl fl fun _ _ _ _ _ _ us hl => match us, hl with | [_, _], _ => rfl
  obtain ⟨fdnf, Fnf⟩ := c.t.d.def_ 5 (d := dF "need_fit" s_need_fit) rfl
  have fnf : FnOk P w K mg base (L2N.CX P w) 3 (He.ga K "need_fit") fdnf ["machine", "counters"] (spNeedFit K (adOf K) (He.ga K "Counters") (He.ga K "Machine")) := ok_need_fit Fnf T R TC
  have cnf : Cal P w K mg base (L2N.CX P w) 3 "need_fit" ["machine", "counters"] (spNeedFit K (adOf K) (He.ga K "Counters") (He.ga K "Machine")) := cal_of (He.glo_ok X G (c.t.d.fact 5 (f := .glo "need_fit") rfl)) Fnf fnf fun _ _ _ _ _ _ us hl => match us, hl with | [_, _], _ => rfl
  obtain ⟨fdns, Fns⟩ := c.t.d.def_ 9 (d := dF "need_state" s_need_state) rfl
  have fns : FnOk P w K mg base (L2N.CX P w) 3 (He.ga K "need_state") fdns ["machine", "state"] (spState K (adOf K) (He.ga K "Machine")) := ok_need_state Fns T R TM cb
  have cns : Cal P w K mg base (L2N.CX P w) 3 "need_state" ["machine", "state"] (spState K (adOf K) (He.ga K "Machine")) := cal_of (He.glo_ok X G (c.t.d.fact 9 (f := .glo "need_state") rfl)) Fns fns fun _ _ _ _ _ _ us hl => match us, hl with | [_, _], _ => rfl
  obtain ⟨fdca, Fca⟩ := c.t.d.def_ 6 (d := dF "_can_show" s_can_show) rfl
  have fca : FnOk P w K mg base CX0 3 (He.ga K "_can_show") fdca ["counters", "kind", "value"] (spCanShow K (He.ga K "Counters")) := ok_can_show Fca T TC cn cb
  have cca : Cal P w K mg base CX0 3 "_can_show" ["counters", "kind", "value"] (spCanShow K (He.ga K "Counters")) := cal_of (He.glo_ok X G (c.t.d.fact 6 (f := .glo "_can_show") rfl)) Fca fca fun _ _ _ _ _ _ us hl => match us, hl with | [_, _, _], _ => rfl
  obtain ⟨fdck, Fck⟩ := c.t.d.def_ 7 (d := dF "check_showing" s_check_showing) rfl
  have fck : FnOk P w K mg base (L2N.CX P w) 4 (He.ga K "check_showing") fdck ["counters", "value"] (spCheck K (adOf K) (He.ga K "Counters")) := ok_check Fck T R TC cs cca
  have cck : Cal P w K mg base (L2N.CX P w) 4 "check_showing" ["counters", "value"] (spCheck K (adOf K) (He.ga K "Counters")) := cal_of (He.glo_ok X G (c.t.d.fact 7 (f := .glo "check_showing") rfl)) Fck fck fun _ _ _ _ _ _ us hl => match us, hl with | [_, _], _ => rfl
  obtain ⟨fdco, Fco⟩ := c.t.d.def_ 10 (d := dF "in_coming_order" s_in_coming_order) rfl
  have fco : FnOk P w K mg base (L2N.CX P w) 5 (He.ga K "in_coming_order") fdco ["machine", "first"] (spComing K (adOf K) (He.ga K "Machine")) := ok_coming Fco T TM cns
  have cco : Cal P w K mg base (L2N.CX P w) 5 "in_coming_order" ["machine", "first"] (spComing K (adOf K) (He.ga K "Machine")) := cal_of (He.glo_ok X G (c.t.d.fact 10 (f := .glo "in_coming_order") rfl)) Fco fco fun _ _ _ _ _ _ us hl => match us, hl with | [_, _], _ => rfl
  obtain ⟨fdrc, Frc⟩ := c.t.d.def_ 11 (d := dF "reached" s_reached) rfl
  have frc : FnOk P w K mg base (L2N.CX P w) 6 (He.ga K "reached") fdrc ["machine", "first"] (spReached K (adOf K) (He.ga K "Machine")) := ok_reached Frc T cco
  have crc : Cal P w K mg base (L2N.CX P w) 6 "reached" ["machine", "first"] (spReached K (adOf K) (He.ga K "Machine")) := cal_of (He.glo_ok X G (c.t.d.fact 11 (f := .glo "reached") rfl)) Frc frc fun _ _ _ _ _ _ us hl => match us, hl with | [_, _], _ => rfl
  obtain ⟨fdfo, Ffo⟩ := c.t.d.def_ 12 (d := dF "forgotten" s_forgotten) rfl
  have ffo : FnOk P w K mg base (L2N.CX P w) 7 (He.ga K "forgotten") fdfo ["machine", "first"] (spForgot K (He.ga K "Machine")) := ok_forgotten Ffo T TM crc
  have cfo : Cal P w K mg base (L2N.CX P w) 7 "forgotten" ["machine", "first"] (spForgot K (He.ga K "Machine")) := cal_of (He.glo_ok X G (c.t.d.fact 12 (f := .glo "forgotten") rfl)) Ffo ffo fun _ _ _ _ _ _ us hl => match us, hl with | [_, _], _ => rfl
  obtain ⟨fdne, Fne⟩ := c.t.d.def_ 13 (d := dF "need_exchanges" s_need_exchanges) rfl
  have fne : FnOk P w K mg base (L2N.CX P w) 8 (He.ga K "need_exchanges") fdne ["machine", "first"] (spExch K (adOf K) (He.ga K "Machine")) := ok_exch Fne T R cfo
  have cne : Cal P w K mg base (L2N.CX P w) 8 "need_exchanges" ["machine", "first"] (spExch K (adOf K) (He.ga K "Machine")) := cal_of (He.glo_ok X G (c.t.d.fact 13 (f := .glo "need_exchanges") rfl)) Fne fne fun _ _ _ _ _ _ us hl => match us, hl with | [_, _], _ => rfl
  obtain ⟨fdfx, Ffx⟩ := c.t.d.def_ 12 (d := dF "forgotten" s_forgotten) rfl
  have ffx : FnOk P w K mg base (L2N.CX P w) 7 (He.ga K "forgotten") fdfx ["machine", "first"] (spFgS K (adOf K) (He.ga K "Machine") 2) := ok_forgottenS Ffx crc
  have cfx : Cal P w K mg base (L2N.CX P w) 7 "forgotten" ["machine", "first"] (spFgS K (adOf K) (He.ga K "Machine") 2) := cal_of (He.glo_ok X G (c.t.d.fact 12 (f := .glo "forgotten") rfl)) Ffx ffx fun _ _ _ _ _ _ us hl => match us, hl with | [_, _], _ => rfl
  obtain ⟨fdnx, Fnx⟩ := c.t.d.def_ 13 (d := dF "need_exchanges" s_need_exchanges) rfl
  have fnx : FnOk P w K mg base (L2N.CX P w) 8 (He.ga K "need_exchanges") fdnx ["machine", "first"] (spFgS K (adOf K) (He.ga K "Machine") 2) := ok_exchS Fnx cfx
  have cnx : Cal P w K mg base (L2N.CX P w) 8 "need_exchanges" ["machine", "first"] (spFgS K (adOf K) (He.ga K "Machine") 2) := cal_of (He.glo_ok X G (c.t.d.fact 13 (f := .glo "need_exchanges") rfl)) Fnx fnx fun _ _ _ _ _ _ us hl => match us, hl with | [_, _], _ => rfl
  obtain ⟨fdci, Fci⟩ := c.t.d.def_ 14 (d := dF "circle" s_circle) rfl
  have fci : FnOk P w K mg base CX0 1 (He.ga K "circle") fdci ["table", "place"] (spCircle K) := ok_circle Fci T
  have cci : Cal P w K mg base CX0 1 "circle" ["table", "place"] (spCircle K) := cal_of (He.glo_ok X G (c.t.d.fact 14 (f := .glo "circle") rfl)) Fci fci fun _ _ _ _ _ _ us hl => match us, hl with | [_, _], _ => rfl
  obtain ⟨fddp, Fdp⟩ := c.t.d.def_ 17 (d := dF "deed_pairs" s_deed_pairs) rfl
  have fdp : FnOk P w K mg base CX0 1 (He.ga K "deed_pairs") fddp ["deeds"] (spPairs K) := ok_pairs Fdp T
  have cdp : Cal P w K mg base CX0 1 "deed_pairs" ["deeds"] (spPairs K) := cal_of (He.glo_ok X G (c.t.d.fact 17 (f := .glo "deed_pairs") rfl)) Fdp fdp fun _ _ _ _ _ _ us hl => match us, hl with | [_], _ => rfl
  obtain ⟨fdam, Fam⟩ := c.t.d.def_ 21 (d := dF "_all_moved" s_all_moved) rfl
  have fam : FnOk P w K mg base CX0 2 (He.ga K "_all_moved") fdam ["table", "places", "many"] (spAllMoved K) := ok_all_moved Fam T cci
  have cam : Cal P w K mg base CX0 2 "_all_moved" ["table", "places", "many"] (spAllMoved K) := cal_of (He.glo_ok X G (c.t.d.fact 21 (f := .glo "_all_moved") rfl)) Fam fam fun _ _ _ _ _ _ us hl => match us, hl with | [_, _, _], _ => rfl
  obtain ⟨fdft, Fft⟩ := c.t.d.def_ 20 (d := dF "_first_together" s_first_together) rfl
  have fft : FnOk P w K mg base CX0 3 (He.ga K "_first_together") fdft ["tables", "places", "pairs", "rounds"] (spFirst K) := ok_first Fft T cam
  have cft : Cal P w K mg base CX0 3 "_first_together" ["tables", "places", "pairs", "rounds"] (spFirst K) := cal_of (He.glo_ok X G (c.t.d.fact 20 (f := .glo "_first_together") rfl)) Fft fft fun _ _ _ _ _ _ us hl => match us, hl with | [_, _, _, _], _ => rfl
  obtain ⟨fdtp, Ftp⟩ := c.t.d.def_ 19 (d := dF "_top" s_top) rfl
  have ftp : FnOk P w K mg base CX0 1 (He.ga K "_top") fdtp ["above", "place"] spTop := ok_top Ftp T
  have ctp : Cal P w K mg base CX0 1 "_top" ["above", "place"] spTop := cal_of (He.glo_ok X G (c.t.d.fact 19 (f := .glo "_top") rfl)) Ftp ftp fun _ _ _ _ _ _ us hl => match us, hl with | [_, _], _ => rfl
  obtain ⟨fdlp, Flp⟩ := c.t.d.def_ 18 (d := dF "least_parting" s_least_parting) rfl
  have flp : FnOk P w K mg base CX0 4 (He.ga K "least_parting") fdlp ["tables", "places", "pairs", "rounds"] (spLeast K) := ok_least Flp T cft ctp
  have clp : Cal P w K mg base CX0 4 "least_parting" ["tables", "places", "pairs", "rounds"] (spLeast K) := cal_of (He.glo_ok X G (c.t.d.fact 18 (f := .glo "least_parting") rfl)) Flp flp fun _ _ _ _ _ _ us hl => match us, hl with | [_, _, _, _], _ => rfl
  obtain ⟨fdse, Fse⟩ := c.t.d.def_ 22 (d := dF "settled" s_settled) rfl
  have fse : FnOk P w K mg base (L2N.CX P w) 9 (He.ga K "settled") fdse ["machine", "first", "pairs", "rounds"] (spSettled K (adOf K) (He.ga K "Machine")) := ok_settled Fse T TM cne clp crc
  have cse : Cal P w K mg base (L2N.CX P w) 9 "settled" ["machine", "first", "pairs", "rounds"] (spSettled K (adOf K) (He.ga K "Machine")) := cal_of (He.glo_ok X G (c.t.d.fact 22 (f := .glo "settled") rfl)) Fse fse fun _ _ _ _ _ _ us hl => match us, hl with | [_, _, _, _], _ => rfl
  obtain ⟨fdsx, Fsx⟩ := c.t.d.def_ 22 (d := dF "settled" s_settled) rfl
  have fsx : FnOk P w K mg base (L2N.CX P w) 9 (He.ga K "settled") fdsx ["machine", "first", "pairs", "rounds"] (fun vs H Q E => spSettled K (adOf K) (He.ga K "Machine") vs H Q E ∨ spFgS K (adOf K) (He.ga K "Machine") 4 vs H Q E) := FnOk.or (ok_settled Fsx T TM cne clp crc) (ok_settledS Fsx cnx)
  have csx : Cal P w K mg base (L2N.CX P w) 9 "settled" ["machine", "first", "pairs", "rounds"] (fun vs H Q E => spSettled K (adOf K) (He.ga K "Machine") vs H Q E ∨ spFgS K (adOf K) (He.ga K "Machine") 4 vs H Q E) := cal_of (He.glo_ok X G (c.t.d.fact 22 (f := .glo "settled") rfl)) Fsx fsx fun _ _ _ _ _ _ us hl => match us, hl with | [_, _, _, _], _ => rfl
  obtain ⟨fdlo, Flo⟩ := c.t.d.def_ 23 (d := dF "lots_of" s_lots_of) rfl
  have flo : FnOk P w K mg base (L2N.CX P w) 10 (He.ga K "lots_of") fdlo ["machine", "first", "counters"] (spLots K (adOf K) (He.ga K "Counters") (He.ga K "Machine")) := ok_lots Flo T TM TC cns cnf cse cdp
  have clo : Cal P w K mg base (L2N.CX P w) 10 "lots_of" ["machine", "first", "counters"] (spLots K (adOf K) (He.ga K "Counters") (He.ga K "Machine")) := cal_of (He.glo_ok X G (c.t.d.fact 23 (f := .glo "lots_of") rfl)) Flo flo fun _ _ _ _ _ _ us hl => match us, hl with | [_, _, _], _ => rfl
  obtain ⟨fdmo, Fmo⟩ := c.t.d.def_ 15 (d := dF "moved" s_moved) rfl
  have fmo : FnOk P w K mg base CX0 2 (He.ga K "moved") fdmo ["table", "place", "many"] (spMoved K) := ok_moved Fmo T cci
  have cmo : Cal P w K mg base CX0 2 "moved" ["table", "place", "many"] (spMoved K) := cal_of (He.glo_ok X G (c.t.d.fact 15 (f := .glo "moved") rfl)) Fmo fmo fun _ _ _ _ _ _ us hl => match us, hl with | [_, _, _], _ => rfl
  obtain ⟨fdmb, Fmb⟩ := c.t.d.def_ 16 (d := dF "moved_by" s_moved_by) rfl
  have fmb : FnOk P w K mg base CX0 3 (He.ga K "moved_by") fdmb ["tables", "place", "counts"] (spMovedBy K) := ok_moved_by Fmb T cmo
  have cmb : Cal P w K mg base CX0 3 "moved_by" ["tables", "place", "counts"] (spMovedBy K) := cal_of (He.glo_ok X G (c.t.d.fact 16 (f := .glo "moved_by") rfl)) Fmb fmb fun _ _ _ _ _ _ us hl => match us, hl with | [_, _, _], _ => rfl
  obtain ⟨fdlw, Flw⟩ := c.t.d.def_ 24 (d := dF "lot_with" s_lot_with) rfl
  have flw : FnOk P w K mg base CX0 1 (He.ga K "lot_with") fdlw ["lots", "state"] (spLotWith K) := ok_lot_with Flw T
  have clw : Cal P w K mg base CX0 1 "lot_with" ["lots", "state"] (spLotWith K) := cal_of (He.glo_ok X G (c.t.d.fact 24 (f := .glo "lot_with") rfl)) Flw flw fun _ _ _ _ _ _ us hl => match us, hl with | [_, _], _ => rfl
  obtain ⟨fdfs, Ffs⟩ := c.t.d.def_ 25 (d := dF "fold_size" s_fold_size) rfl
  have ffs : FnOk P w K mg base (L2N.CX P w) 11 (He.ga K "fold_size") fdfs ["machine", "first", "counters"] (spL3 K (adOf K) (He.ga K "Counters") (He.ga K "Machine")) := ok_fold_size Ffs T clo
  have cfs : Cal P w K mg base (L2N.CX P w) 11 "fold_size" ["machine", "first", "counters"] (spL3 K (adOf K) (He.ga K "Counters") (He.ga K "Machine")) := cal_of (He.glo_ok X G (c.t.d.fact 25 (f := .glo "fold_size") rfl)) Ffs ffs fun _ _ _ _ _ _ us hl => match us, hl with | [_, _, _], _ => rfl
  obtain ⟨fdfv, Ffv⟩ := c.t.d.def_ 26 (d := dF "fold_values" s_fold_values) rfl
  have ffv : FnOk P w K mg base (L2N.CX P w) 11 (He.ga K "fold_values") fdfv ["machine", "first", "counters"] (spL3 K (adOf K) (He.ga K "Counters") (He.ga K "Machine")) := ok_values Ffv T TM clo
  have cfv : Cal P w K mg base (L2N.CX P w) 11 "fold_values" ["machine", "first", "counters"] (spL3 K (adOf K) (He.ga K "Counters") (He.ga K "Machine")) := cal_of (He.glo_ok X G (c.t.d.fact 26 (f := .glo "fold_values") rfl)) Ffv ffv fun _ _ _ _ _ _ us hl => match us, hl with | [_, _, _], _ => rfl
  obtain ⟨fdsh, Fsh⟩ := c.t.d.def_ 27 (d := dF "lot_shown" s_lot_shown) rfl
  have fsh : FnOk P w K mg base (L2N.CX P w) 11 (He.ga K "lot_shown") fdsh ["machine", "first", "counters", "showing"] (spShown K (adOf K) (He.ga K "Counters") (He.ga K "Machine")) := ok_shown Fsh T TM clo clw cmb cck
  have csh : Cal P w K mg base (L2N.CX P w) 11 "lot_shown" ["machine", "first", "counters", "showing"] (spShown K (adOf K) (He.ga K "Counters") (He.ga K "Machine")) := cal_of (He.glo_ok X G (c.t.d.fact 27 (f := .glo "lot_shown") rfl)) Fsh fsh fun _ _ _ _ _ _ us hl => match us, hl with | [_, _, _, _], _ => rfl
  obtain ⟨fdto, Fto⟩ := c.t.d.def_ 28 (d := dF "told_state" s_told_state) rfl
  have fto : FnOk P w K mg base (L2N.CX P w) 12 (He.ga K "told_state") fdto ["machine", "first", "counters", "showing", "value"] (spTold K (adOf K) (He.ga K "Counters") (He.ga K "Machine")) := ok_told Fto T R csh cb
  have cto : Cal P w K mg base (L2N.CX P w) 12 "told_state" ["machine", "first", "counters", "showing", "value"] (spTold K (adOf K) (He.ga K "Counters") (He.ga K "Machine")) := cal_of (He.glo_ok X G (c.t.d.fact 28 (f := .glo "told_state") rfl)) Fto fto fun _ _ _ _ _ _ us hl => match us, hl with | [_, _, _, _, _], _ => rfl
  obtain ⟨fdlr, Flr⟩ := c.t.d.def_ 32 (d := dF "lot_rows" s_lot_rows) rfl
  have flr : FnOk P w K mg base (L2N.CX P w) 12 (He.ga K "lot_rows") fdlr ["machine", "first", "counters", "most"] (spL4 K (adOf K) (He.ga K "Counters") (He.ga K "Machine")) := ok_lot_rows Flr cfs
  have clrM : CalN P w K mg base (L2N.CX P w) 12 3 "lot_rows" ["machine", "first", "counters", "most"] ["most"] kwM (spL4 K (adOf K) (He.ga K "Counters") (He.ga K "Machine")) := calN_of (g := fun us ws => us ++ [ws.getD 0 .none]) (He.glo_ok X G (c.t.d.fact 32 (f := .glo "lot_rows") rfl)) Flr flr (fun r1 r2 => r1.append (.cons (vals_getD 0 r2) .nil)) fun _ _ _ _ _ _ us ws hl hm => match us, ws, hl, hm with | [_, _, _], [_], _, _ => rfl
  obtain ⟨fdrh, Frh⟩ := c.t.d.def_ 33 (d := dF "rows_hold" s_rows_hold) rfl
  have frh : FnOk P w K mg base (L2N.CX P w) 12 (He.ga K "rows_hold") fdrh ["machine", "first", "counters", "value"] (spL4 K (adOf K) (He.ga K "Counters") (He.ga K "Machine")) := ok_rows_hold Frh cfs
  have crh : Cal P w K mg base (L2N.CX P w) 12 "rows_hold" ["machine", "first", "counters", "value"] (spL4 K (adOf K) (He.ga K "Counters") (He.ga K "Machine")) := cal_of (He.glo_ok X G (c.t.d.fact 33 (f := .glo "rows_hold") rfl)) Frh frh fun _ _ _ _ _ _ us hl => match us, hl with | [_, _, _, _], _ => rfl
  obtain ⟨fdvh, Fvh⟩ := c.t.d.def_ 34 (d := dF "values_hold" s_values_hold) rfl
  have fvh : FnOk P w K mg base (L2N.CX P w) 11 (He.ga K "values_hold") fdvh ["machine", "first", "counters", "value"] (spL4 K (adOf K) (He.ga K "Counters") (He.ga K "Machine")) := ok_values_hold Fvh clo
  have cvh : Cal P w K mg base (L2N.CX P w) 11 "values_hold" ["machine", "first", "counters", "value"] (spL4 K (adOf K) (He.ga K "Counters") (He.ga K "Machine")) := cal_of (He.glo_ok X G (c.t.d.fact 34 (f := .glo "values_hold") rfl)) Fvh fvh fun _ _ _ _ _ _ us hl => match us, hl with | [_, _, _, _], _ => rfl
  obtain ⟨fdol, Fol⟩ := c.t.d.def_ 29 (d := dF "open_lots" s_open_lots) rfl
  have fol : FnOk P w K mg base (L2N.CX P w) 4 (He.ga K "open_lots") fdol ["machine", "first", "counters", "most"] (spW4 K (adOf K) (He.ga K "Counters") (He.ga K "Machine")) := ok_open_lots Fol TM cns cnf
  have colM : CalN P w K mg base (L2N.CX P w) 4 3 "open_lots" ["machine", "first", "counters", "most"] ["most"] kwM (spW4 K (adOf K) (He.ga K "Counters") (He.ga K "Machine")) := calN_of (g := fun us ws => us ++ [ws.getD 0 .none]) (He.glo_ok X G (c.t.d.fact 29 (f := .glo "open_lots") rfl)) Fol fol (fun r1 r2 => r1.append (.cons (vals_getD 0 r2) .nil)) fun _ _ _ _ _ _ us ws hl hm => match us, ws, hl, hm with | [_, _, _], [_], _, _ => rfl
  obtain ⟨fdnv, Fnv⟩ := c.t.d.def_ 31 (d := dF "needed_values" s_needed_values) rfl
  have fnv : FnOk P w K mg base (L2N.CX P w) 5 (He.ga K "needed_values") fdnv ["machine", "first", "counters", "most"] (spW4 K (adOf K) (He.ga K "Counters") (He.ga K "Machine")) := ok_needed Fnv T colM
  have cnvM : CalN P w K mg base (L2N.CX P w) 5 3 "needed_values" ["machine", "first", "counters", "most"] ["most"] kwM (spW4 K (adOf K) (He.ga K "Counters") (He.ga K "Machine")) := calN_of (g := fun us ws => us ++ [ws.getD 0 .none]) (He.glo_ok X G (c.t.d.fact 31 (f := .glo "needed_values") rfl)) Fnv fnv (fun r1 r2 => r1.append (.cons (vals_getD 0 r2) .nil)) fun _ _ _ _ _ _ us ws hl hm => match us, ws, hl, hm with | [_, _, _], [_], _, _ => rfl
  obtain ⟨fdop, Fop⟩ := c.t.d.def_ 30 (d := dF "open_lot" s_open_lot) rfl
  have fop : FnOk P w K mg base (L2N.CX P w) 5 (He.ga K "open_lot") fdop ["machine", "first", "counters", "showing", "most"] (spOpen5 K (adOf K) (He.ga K "Counters") (He.ga K "Machine")) := ok_open_lot Fop TM cns cnf cck
  have copM : CalN P w K mg base (L2N.CX P w) 5 4 "open_lot" ["machine", "first", "counters", "showing", "most"] ["most"] kwM (spOpen5 K (adOf K) (He.ga K "Counters") (He.ga K "Machine")) := calN_of (g := fun us ws => us ++ [ws.getD 0 .none]) (He.glo_ok X G (c.t.d.fact 30 (f := .glo "open_lot") rfl)) Fop fop (fun r1 r2 => r1.append (.cons (vals_getD 0 r2) .nil)) fun _ _ _ _ _ _ us ws hl hm => match us, ws, hl, hm with | [_, _, _, _], [_], _, _ => rfl
  exact ⟨clo, cfs, cfv, csh, cto, clrM, crh, cvh, colM, cnvM, copM, csx⟩
end
end KT
/-! the end -/
namespace KT
open PySem PySem.Spec PyProof.Rows L2 Kx RZ
/-- the lambdas' tables and their names -/
def tabsOf (K : PySem.W.Frag) : List (Addr × Str) := [((He.cT K dN0).2, (Str.ofString "_law_asks" ++ ".<locals>.") ++ "<lambda>"), ((He.cT K dN1).2, (Str.ofString "_law_walks" ++ ".<locals>.") ++ "<lambda>"), ((He.cT K dN2).2, (Str.ofString "law" ++ ".<locals>.") ++ "<lambda>")]
theorem ref_same {m : Option Value} {a b : Addr} (h : m = some (.ref a)) (h' : m = some (.ref b)) : a = b := by
  rw [h] at h'
  injection h' with h'
  injection h'
theorem law_told {P : Program} {w : World} {K : PySem.W.Frag} {h : Heap} {mg : Str → Option Value} (X : K.In h) (G : h.Ns mainGlobals mg) (c : Says w h K) :
    ∃ fd : FuncData, (∀ (s : Shared) (u : Value), BindsTo s fd ⟨[u], []⟩ [("script", u)]) ∧ ∀ base : Heap, K.In base → base.Ns mainGlobals mg → (∀ p ∈ tf.map (He.cT K), LamX.TabB base mg p.1 p.2) → FnG P w K mg base CX0 17 (He.ga K "law") fd ["script"] (spLaw K (tabsOf K)) := by
  obtain ⟨fdlb, Flb⟩ := c.t.d.def_ 35 (d := dF "_law_box" s_law_box) rfl
  obtain ⟨fdlt, Flt⟩ := c.t.d.def_ 36 (d := dF "_law_take" s_law_take) rfl
  obtain ⟨fdlp, Flp⟩ := c.t.d.def_ 37 (d := dF "_law_pick" s_law_pick) rfl
  obtain ⟨fdlm, Flm⟩ := c.t.d.def_ 38 (d := dF "_law_mixed" s_law_mixed) rfl
  obtain ⟨fdlx, Flx⟩ := c.t.d.def_ 39 (d := dF "_law_exchange" s_law_exchange) rfl
  obtain ⟨fdlu, Flu⟩ := c.t.d.def_ 40 (d := dF "_law_tables" s_law_tables) rfl
  obtain ⟨fdlc, Flc⟩ := c.t.d.def_ 41 (d := dF "_law_come" s_law_come) rfl
  obtain ⟨fdlf, Flf⟩ := c.t.d.def_ 43 (d := dF "_law_forgets" s_law_forgets) rfl
  obtain ⟨fdla, Fla⟩ := c.t.d.def_ 44 (d := dF "_law_asks" s_law_asks) rfl
  obtain ⟨fdlw, Flw⟩ := c.t.d.def_ 45 (d := dF "_law_walks" s_law_walks) rfl
  obtain ⟨fdH, FH⟩ := c.t.d.def_ 42 (d := dF "_law_heard" s_law_heard) rfl
  obtain ⟨fdL, FL⟩ := c.t.d.def_ 46 (d := dF "law" s_law) rfl
  have bL := FunD.bindsA (ps := ["script"]) FL fun _ _ _ _ _ _ us hl => match us, hl with | [_], _ => rfl
  refine ⟨fdL, fun s u => bL s [u] rfl, fun base _ _ TB => ?_⟩
  have T := mg_of X G c
  have TC := clsC_of X G c
  have TM := clsM_of X G c
  have M : Mks P w K mg base (adOf K) (He.ga K "Counters") (He.ga K "Machine") (tZero K) := mks_of X G c
  have a_dN0_dN1 : (He.cT K dN0).2 ≠ (He.cT K dN1).2 := of_decide_eq_true (ex_at c.more 28 rfl)
  have a_dN0_dN2 : (He.cT K dN0).2 ≠ (He.cT K dN2).2 := of_decide_eq_true (ex_at c.more 29 rfl)
  have a_dN1_dN2 : (He.cT K dN1).2 ≠ (He.cT K dN2).2 := of_decide_eq_true (ex_at c.more 30 rfl)
  have t_dN0 : LamX.TabB base mg (He.cT K dN0).1 (He.cT K dN0).2 := TB _ (List.mem_cons_self ..)
  have m_dN0 : ((He.cT K dN0).2, (Str.ofString "_law_asks" ++ ".<locals>.") ++ "<lambda>") ∈ tabsOf K := List.mem_cons_self ..
  have o_dN0 : ∀ p ∈ tabsOf K, p.1 = (He.cT K dN0).2 → p.2 = (Str.ofString "_law_asks" ++ ".<locals>.") ++ "<lambda>" := fun p hp e => by
    rcases List.mem_cons.mp hp with rfl | hp
    · rfl
    rcases List.mem_cons.mp hp with rfl | hp
    · exact absurd e.symm a_dN0_dN1
    rcases List.mem_singleton.mp hp with rfl
    exact absurd e.symm a_dN0_dN2
  have t_dN1 : LamX.TabB base mg (He.cT K dN1).1 (He.cT K dN1).2 := TB _ (List.mem_cons_of_mem _ (List.mem_cons_self ..))
  have m_dN1 : ((He.cT K dN1).2, (Str.ofString "_law_walks" ++ ".<locals>.") ++ "<lambda>") ∈ tabsOf K := List.mem_cons_of_mem _ (List.mem_cons_self ..)
  have o_dN1 : ∀ p ∈ tabsOf K, p.1 = (He.cT K dN1).2 → p.2 = (Str.ofString "_law_walks" ++ ".<locals>.") ++ "<lambda>" := fun p hp e => by
    rcases List.mem_cons.mp hp with rfl | hp
    · exact absurd e a_dN0_dN1
    rcases List.mem_cons.mp hp with rfl | hp
    · rfl
    rcases List.mem_singleton.mp hp with rfl
    exact absurd e.symm a_dN1_dN2
  have t_dN2 : LamX.TabB base mg (He.cT K dN2).1 (He.cT K dN2).2 := TB _ (List.mem_cons_of_mem _ (List.mem_cons_of_mem _ (List.mem_cons_self ..)))
  have m_dN2 : ((He.cT K dN2).2, (Str.ofString "law" ++ ".<locals>.") ++ "<lambda>") ∈ tabsOf K := List.mem_cons_of_mem _ (List.mem_cons_of_mem _ (List.mem_cons_self ..))
  have o_dN2 : ∀ p ∈ tabsOf K, p.1 = (He.cT K dN2).2 → p.2 = (Str.ofString "law" ++ ".<locals>.") ++ "<lambda>" := fun p hp e => by
    rcases List.mem_cons.mp hp with rfl | hp
    · exact absurd e a_dN0_dN2
    rcases List.mem_cons.mp hp with rfl | hp
    · exact absurd e a_dN1_dN2
    rcases List.mem_singleton.mp hp with rfl
    rfl
  have FS : FnS P w K mg base (adOf K) (He.ga K "Counters") (He.ga K "Machine") := prg_of X G c
  have D := hd_of X G c
  have clb : Cal P w K mg base CX0 1 "_law_box" ["script", "k"] (spBox K) := cal_of (He.glo_ok X G (c.t.d.fact 35 (f := .glo "_law_box") rfl)) Flb (ok_box Flb T) fun _ _ _ _ _ _ us hl => match us, hl with | [_, _], _ => rfl
  have clt : Cal P w K mg base CX0 1 "_law_take" ["box", "many"] spTake := cal_of (He.glo_ok X G (c.t.d.fact 36 (f := .glo "_law_take") rfl)) Flt (ok_take Flt T) fun _ _ _ _ _ _ us hl => match us, hl with | [_, _], _ => rfl
  have clp : Cal P w K mg base CX0 2 "_law_pick" ["box", "some"] (spPick K) := cal_of (He.glo_ok X G (c.t.d.fact 37 (f := .glo "_law_pick") rfl)) Flp (ok_pick Flp T clt) fun _ _ _ _ _ _ us hl => match us, hl with | [_, _], _ => rfl
  have clm : Cal P w K mg base CX0 2 "_law_mixed" ["box", "many"] (spMixed K) := cal_of (He.glo_ok X G (c.t.d.fact 38 (f := .glo "_law_mixed") rfl)) Flm (ok_mixed Flm T clt) fun _ _ _ _ _ _ us hl => match us, hl with | [_, _], _ => rfl
  have clx : Cal P w K mg base CX0 3 "_law_exchange" ["box", "many"] (spExchange K) := cal_of (He.glo_ok X G (c.t.d.fact 39 (f := .glo "_law_exchange") rfl)) Flx (ok_exchange Flx T clt clm) fun _ _ _ _ _ _ us hl => match us, hl with | [_, _], _ => rfl
  have clu : Cal P w K mg base CX0 4 "_law_tables" ["box", "most", "deeds"] (spTables K) := cal_of (He.glo_ok X G (c.t.d.fact 40 (f := .glo "_law_tables") rfl)) Flu (ok_tables Flu T clt clm clx) fun _ _ _ _ _ _ us hl => match us, hl with | [_, _, _], _ => rfl
  have clc : Cal P w K mg base CX0 1 "_law_come" ["tables", "first"] (spCome K) := cal_of (He.glo_ok X G (c.t.d.fact 41 (f := .glo "_law_come") rfl)) Flc (ok_come Flc T) fun _ _ _ _ _ _ us hl => match us, hl with | [_, _], _ => rfl
  have clf : Cal P w K mg base CX0 2 "_law_forgets" ["tables", "first"] (spLForg K) := cal_of (He.glo_ok X G (c.t.d.fact 43 (f := .glo "_law_forgets") rfl)) Flf (ok_lforg Flf T clc) fun _ _ _ _ _ _ us hl => match us, hl with | [_, _], _ => rfl
  have cla : Cal P w K mg base CX0 1 "_law_asks" ["machine", "first", "counters", "showing", "value"] (sp_asks (tabsOf K)) := cal_of (He.glo_ok X G (c.t.d.fact 44 (f := .glo "_law_asks") rfl)) Fla (ok_asks Fla (code_of (p := dN0) (z := "_law_asks") (st := s_law_asks) Fla) t_dN0 m_dN0 o_dN0) fun _ _ _ _ _ _ us hl => match us, hl with | [_, _, _, _, _], _ => rfl
  have clw : Cal P w K mg base CX0 1 "_law_walks" ["machine", "first", "counters", "showing"] (sp_walks (tabsOf K)) := cal_of (He.glo_ok X G (c.t.d.fact 45 (f := .glo "_law_walks") rfl)) Flw (ok_walks Flw (code_of (p := dN1) (z := "_law_walks") (st := s_law_walks) Flw) t_dN1 m_dN1 o_dN1) fun _ _ _ _ _ _ us hl => match us, hl with | [_, _, _, _], _ => rfl
  exact ok_law FL (code_of (p := dN2) (z := "law") (st := s_law) FL) T TC TM M D FS ⟨clb, clt, clp, clu, clf, cla, clw⟩ ⟨_, _, (He.glo_ok X G (c.t.d.fact 42 (f := .glo "_law_heard") rfl)), FH.kp, FH.bindsN fun _ _ _ _ _ _ us hl => match us, hl with | [_], _ => rfl, FnG.or (ok_hearA FH T TC TM D FS) (ok_hearW FH T TC TM D FS)⟩ ⟨_, _, FH, (He.glo_ok X G (c.t.d.fact 42 (f := .glo "_law_heard") rfl)), FH.bindsN fun _ _ _ _ _ _ us hl => match us, hl with | [_], _ => rfl⟩ t_dN2 m_dN2 o_dN2
end KT
open PyProof.Rows PySem PySem.W PySem.Calls
theorem PySem.Challenge.cw_onewitness_k10_machines_that_forget_and_holds : PySem.Challenge.rw_onewitness_k10_machines_that_forget_and.Holds := by
  w_on; o_law
  refine HandSHeadRun.head_any (r := KT.Rw) (q := view KT.Rw.prog [73]) (H := KT.hk) (ob := KT.ob) (M := 8000) (loose := KT.others) (d := HandSHeadRun.topDef KT.Rw.prog 73) (kwd := []) KT.ob_eq
    (by kernel_rfl) (fun s => by kernel_rfl) KT.top_runs (by kernel_rfl) (by kernel_rfl) (by kernel_rfl) (by rfl) (by first | assumption | decide +kernel) (by decide +kernel) ⟨rfl, rfl, rfl, rfl, rfl, by decide +kernel⟩ ?hw ?hc
  case hw => w_witness2
  case hc =>
    refine Kx.lone_walk (l := PySem.Challenge.rw_onewitness_k10_machines_that_forget_and) (n := 63) (k := 17) (x := "script") rfl (by decide) (by kernel_rfl) ⟨rfl, by decide, by decide⟩ ?F
    intro w mg fa h Y G hmg
    obtain ⟨K, X, c⟩ := Y
    have en : (HandSHeadRun.topDef KT.Rw.prog 73).name = ("law" : PySem.Str) := by kernel_rfl
    rw [en] at hmg
    have at_ := He.glo_ok X G (c.t.d.fact 46 (f := .glo "law") rfl)
    have ea := KT.ref_same hmg at_
    subst ea
    obtain ⟨fd, b, F⟩ := KT.law_told (P := (PySem.Challenge.rw_onewitness_k10_machines_that_forget_and).prog) X G c
    refine ⟨K, fd, KT.tf.map (He.cT K), KT.spLaw K (KT.tabsOf K), X, fun p hp => ?_, fun p hp => ?_, fun p hp => ?_, b, fun H a ns l hT hS => ⟨a, ns, rfl, hS, l, fun p hp => ?_, fun _ => rfl⟩, F⟩
    · obtain ⟨q, hq, rfl⟩ := List.mem_map.mp hp
      exact c.empty q hq
    · obtain ⟨q, hq, rfl⟩ := List.mem_map.mp hp
      exact c.out q hq
    · obtain ⟨q, hq, rfl⟩ := List.mem_map.mp hp
      exact PySem.W.codeHd_of_K X (c.hd q hq)
    · rcases List.mem_cons.mp hp with rfl | hp
      · exact LamX.TabS.nil (hT _ (List.mem_cons_self ..))
      rcases List.mem_cons.mp hp with rfl | hp
      · exact LamX.TabS.nil (hT _ (List.mem_cons_of_mem _ (List.mem_cons_self ..)))
      rewrite [List.mem_singleton.mp hp]
      exact LamX.TabS.nil (hT _ (List.mem_cons_of_mem _ (List.mem_cons_of_mem _ (List.mem_cons_self ..))))
