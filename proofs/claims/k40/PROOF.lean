import PyProof.Rows.All
import Wide.All
import OpenK.AllK
import Wide.FinOn
import HandS.ForMost
import KE.GoesMore
import PyProof.EnumMake
import HandS.ForExc
import HandS.More
import HandS.Defaults
import HandS.IsInst
import HandS.TupAny
import HandS.TupMul
import HandS.Lambda
import HandS.ExcInit
import HandS.ExcField
import PyProof.ExcAttrAll.LookupError
import HandS.MakeKwOnly
import HandS.OwnEq
import HandS.ExcIs
import KE.KExcIs
import PyProof.NeKinds
import PyProof.EqKinds
import PyProof.StrOps2
import HandS.ExcCtx
import HandS.ExcInitHot
import HandS.HotCalls
import KE.KTryMore
import HandS.HeadHook4
import HandS.Flow
import HandS.MakeKw
import HandS.Zip
import HandS.SetFor
import PyProof.InstNe
import HandS.List
import HandS.SlotsOwn
import KE.DataAny
import PyProof.Rows.RegStrFacts
import HandS.SuiteRaise
import HandS.RaiseFrom
import HandS.CallSlots
import HandS.Rev
import HandS.MapJoin
import PyProof.JoinWalk
import HandS.Head0
import HandS.Head1
import HandS.Head2
import HandS.HeadEnd
import HandS.HeadHook1
import HandS.HeadHook2
import HandS.HeadHook3
import HandS.EndTab
import HandS.HeadWalk
import KE.KStateDown
import PySem.Challenge.RW_onewitness_k40_whole_counters_of_several
set_option Elab.async false
set_option linter.all false
set_option maxRecDepth 100000
set_option maxHeartbeats 0
/-! enumerate(t), t a tuple; for i, x in enumerate(xs), xs a list or a tuple. -/
namespace Kx
open PySem PySem.AutoSeq1
/-- the record of a new enumerate over the iterator at j -/
abbrev enumRec (j : Addr) : Obj := { cls := .type "enumerate", data := .fields #[.none, .bool false, .ref j, rawInt 0, .none, .none] }
abbrev tupIter (t : Addr) : Obj := { cls := .type "tuple_iterator", data := .fields #[.ref t, .int 0 0] }
theorem makes_enum (t : Addr) (o : Obj) (items : Array Value) (n : Nat) (hc : o.cls = .type "tuple") (hd : o.data = .seq items n) :
    Meets (Builtin.«enumerate.__new__» ⟨[.type "enumerate", .ref t], []⟩) (fun _ R s => s.heap.get? t = some o ∧
      R (.ok (.ret (.ref (s.heap.push (tupIter t)).objs.size))) { s with heap := (s.heap.push (tupIter t)).push (enumRec s.heap.objs.size) }) := by
  refine .of_wp fun prog w A R s hs => ?_
  obtain ⟨oc, od, odt, os⟩ := o
  have hc' : oc = .type "tuple" := hc
  have hd' : odt = .seq items n := hd
  subst hc' hd'
  obtain ⟨hp, gs, dr, tk, sy⟩ := s
  obtain ⟨ht, hR⟩ := hs
  have subE := sub_enumerate
  have isT : (Shared.heap ⟨hp, gs, dr, tk, sy⟩).IsTuple t items := ⟨_, ht, rfl, n, rfl⟩
  wp_walk using wpAny_loadPart' ht
  refine wpAny_stack_any fun _ => wpAny_pure ?_
  split
  case h_1 c _ _ _ _ _ =>
    cases hq : (c == Value.type "enumerate") <;> (wp_walk using wpAny_loadPart' ht, wpAny_pyIter_tuple isT; exact ⟨_, rfl, hR⟩)
  case h_2 => wp_walk using wpAny_loadPart' ht, wpAny_pyIter_tuple isT; exact ⟨_, rfl, hR⟩
theorem call_enum {prog : Program} {w : World} {A : Around} {E : Value → Shared → Prop} {s : Shared} {t : Addr} {items : Array Value} {Q : Value → Shared → Prop} (hT : s.heap.IsTuple t items)
    (hQ : ∀ g : Heap, IsEnum g (s.heap.objs.size + 1) s.heap.objs.size 0 .none → g.IsTupleIter s.heap.objs.size t 0 → (∀ b o, s.heap.get? b = some o → g.get? b = some o) → Q (.ref (s.heap.objs.size + 1)) { s with heap := g }) :
    wpAny (model prog w) A (call (.type "enumerate") [.ref t]) Q E s := by
  obtain ⟨o, ho, hc, len, hd⟩ := hT
  have two : (s.heap.push (tupIter t)).objs.size = s.heap.objs.size + 1 := Heap.size_push ..
  have atE : ((s.heap.push (tupIter t)).push (enumRec s.heap.objs.size)).get? (s.heap.objs.size + 1) = some (enumRec s.heap.objs.size) := by
    rw [← two]; exact Heap.get?_push_size _ rfl
  have old : ∀ b u, s.heap.get? b = some u → ((s.heap.push (tupIter t)).push (enumRec s.heap.objs.size)).get? b = some u := fun b u z => Heap.get?_push_of_some _ (Heap.get?_push_of_some _ z)
  have it : ((s.heap.push (tupIter t)).push (enumRec s.heap.objs.size)).IsTupleIter s.heap.objs.size t 0 := ⟨_, Heap.get?_push_of_some _ (Heap.get?_push_size _ rfl), rfl, rfl⟩
  refine callType_new F.called_enumerate (by decide) (F.typeCall_enumerate_1 _) (F.newCall_enumerate_1 _) (fun q => F.args_object_init_2 q _) F.entry_enumerate_new (makes_enum t o items len hc hd) ⟨ho, ?_⟩
  show _ ∧ _
  rw [two]
  exact ⟨⟨_, atE, rfl⟩, hQ _ atE it old⟩
end Kx
namespace Kx
open L2 PySem PySem.Spec PyProof.Rows
/-- item i of the tuple at a, with its number, in a new pair -/
def ItPair (K : PySem.W.Frag) (a : Addr) : It where
  go := fun i H => ∃ (xs : List V) (x : V), SqT K H a xs ∧ xs[i]? = some x
  yld := fun i H v H' => ∃ (p : Addr) (x : V), v = .ref p ∧ H p = none ∧ H' = upd H p (.tup [.int (i : Nat), x]) ∧ ∀ xs, SqT K H a xs → xs[i]? = some x
  stop := fun i H => ∃ xs : List V, SqT K H a xs ∧ xs.length ≤ i
theorem one_of {b e j : Addr} (h : b ∈ [e, j]) : b = e ∨ b = j := by simpa using h
theorem turn_pair {P : Program} {w : World} {K : PySem.W.Frag} {es : List Expr} {k0 : Nat} {tp : Pos} (a e j : Addr) (aj : a ≠ j) (ae : a ≠ e) :
    Turn P w K (.Tuple es k0 tp) (ItPair K a) [e, j] e (fun i h => (∃ z, IsEnum h e j ((i : Nat) : Int) z) ∧ h.IsTupleIter j a i ∧ e ≠ j) where
  mem := List.mem_cons_self
  obj := by
    rintro i h ⟨⟨z, hz⟩, ⟨o, ho, _, hd⟩, _⟩ b hb
    rcases one_of hb with q | q <;> rw [q]
    · exact ⟨_, hz, fun _ y => nomatch y⟩
    · exact ⟨o, ho, fun _ y => by rw [hd] at y; cases y⟩
  keep := by
    rintro i h h' ⟨⟨z, hz⟩, hj, ne⟩ k
    exact ⟨⟨z, k e List.mem_cons_self _ hz⟩, hj.at fun o y => k j (by simp) o y, ne⟩
  item := by
    rintro X rfl rfl rfl calm i pins s σ H E I far ⟨⟨z, hz⟩, hj, ne⟩ ⟨xs, x, hx, hi⟩
    obtain ⟨vs, rel, isT, _⟩ := I.tuple hx
    obtain ⟨v, hv, rv⟩ := rel.get hi
    have lt : i < vs.toArray.size := by simpa using (List.getElem?_eq_some_iff.mp hv).1
    have D := Draws.tuple (prog := X.prog) (w := X.w) (A := X.A.in1) (I.ok.hd calm) j a aj vs.toArray
    have e_out : e ∉ [j, a] := by
      simp only [List.mem_cons, List.not_mem_nil, or_false, not_or]
      exact ⟨ne, fun y => ae y.symm⟩
    refine wpAny_pyNext_enum_itemD D hz ⟨hj, isT⟩ lt ne e_out fun y g tk hy out hj' pair _ rest => ?_
    obtain rfl : y = v := by
      have : vs.toArray[i]? = some v := by simpa using hv
      exact Option.some.inj (hy.symm.trans this)
    refine ⟨_, rfl, wpAny_letOwnedTupleGo_enum (s := { s with heap := g, toks := tk + 1 }) out fun g' back but => ?_⟩
    have sz : e < s.heap.objs.size := Heap.lt_size hz
    have szj : j < s.heap.objs.size := let ⟨_, y, _⟩ := hj; Heap.lt_size y
    have pair' : g'.get? s.heap.objs.size = some { cls := .type "tuple", data := .seq #[.int i tk, y] } := (but.2 _ (Nat.ne_of_gt sz)).trans pair
    have laid : ObjOk X.prog X.w (upd H s.heap.objs.size (.tup [.int (i : Nat), x])) g' s.heap.objs.size (.tup [.int (i : Nat), x]) := ⟨(by decide : 2 ≤ sizeLine), [.int i tk, y], .cons ⟨tk, rfl⟩ (.cons rv .nil), _, pair', rfl, _, rfl⟩
    have kept : ∀ b o, b ∉ [e, j] → s.heap.get? b = some o → g'.get? b = some o := fun b o out y => by
      have n1 : b ≠ e := fun q => out (by rw [q]; exact List.mem_cons_self)
      have n2 : b ≠ j := fun q => out (by rw [q]; simp)
      exact (but.2 b n1).trans (rest b o n1 n2 y)
    have J := I.turnedNew (ch := [e, j]) kept far (Nat.le_refl _) laid (t' := tk + 1)
    have num : ((i + 1 : Nat) : Int) = (i : Int) + 1 := by omega
    refine ⟨.ref s.heap.objs.size, _, J, rfl, ⟨_, x, rfl, I.hok.fresh (Nat.le_refl _), rfl, fun ys hys => by rw [I.tuple_inj hys hx]; exact hi⟩, ⟨⟨y, by rw [num]; exact back⟩, hj'.1.at fun o q => (but.2 j ne.symm).trans q, ne⟩, fun b hb => ?_⟩
    have small : b < s.heap.objs.size := by
      rcases one_of hb with q | q <;> rw [q]
      · exact sz
      · exact szj
    rw [upd_ne (Nat.ne_of_lt small)]
    exact (far b hb).1
  done := by
    rintro X rfl rfl rfl calm i pins s σ H E I far ⟨⟨z, hz⟩, hj, ne⟩ ⟨xs, hx, hi⟩
    obtain ⟨vs, rel, isT, _⟩ := I.tuple hx
    obtain ⟨g0, g1, _, g3, g4, g5⟩ := far j (by simp)
    have none_ : vs.toArray[i]? = none := by
      have := rel.length
      simp
      omega
    unfold pyNext
    refine wpAny_bind (wpAny_attempt (wpAny_callSpecial?_slot (s := s) (name := Str.ofString "__next__") ⟨_, hz, rfl⟩ F.slot_enumerate_next (wpAny_call_entry F.slot_enumerate_next ⟨_, hz, rfl⟩ F.entry_enumerate_next ?_ (F.args_enumerate_next_1 _))))
    show wpAny _ _ (field (.ref e) 2 >>= _) _ _ s
    refine wpAny_bind (wpAny_field hz rfl (x := .ref j) rfl (wpAny_bind (wpAny_nextOf_tuple_end (I.ok.hd calm) hj isT none_ fun g x kept stop => ?_)))
    obtain ⟨o, ho, hc⟩ := stop
    exact wpAny_bind (wpAny_isInstance (T := "StopIteration") (b := true) ⟨o, ho, hc⟩ isSubtype_stop (wpAny_pure ⟨rfl, I.turned (t' := s.toks) (fun b o hb y => kept b o hb y) g0 g1 g3 g4 g5⟩))
  self := by
    rintro A i s Q E ⟨⟨z, hz⟩, _⟩ h
    exact wpAny_pyIter_enum hz h
/-- a list or a tuple -/
def Sq (K : PySem.W.Frag) (H : Hp) (a : Addr) (xs : List V) : Prop := SqL K H a xs ∨ SqT K H a xs
def iPairs (K : PySem.W.Frag) (ta : TA) : TI := fun σ H R => ta σ H fun vs H1 => ∃ (a : Addr) (xs : List V), vs = [.ref a] ∧ ((SqL K H1 a xs ∧ R (Ite K a) H1) ∨ (SqT K H1 a xs ∧ R (ItPair K a) H1))
theorem pi_pairs {X : Cx} {e : Expr} {ta : TA} {p pos tp : Pos} {es : List Expr} {k0 : Nat} (hg : Gl X "enumerate") (hm : X.mg "enumerate" = none) (ha : PA X [e] ta) (hs : starEach [e] X.env = [(false, eval e X.env)] := by rfl) :
    PI X (.Tuple es k0 tp) (.Call (.Name "enumerate" p) [e] [] pos) (iPairs X.K ta) := by
  refine ⟨fun pins s σ H R I h => Call_ (ld_blt I hg hm boot_enumerate (PyProof.Rows.callWith_type1 (thn (ha.run pos pins s σ H _ I h) fun us t ⟨vs, H1, J, rel, a, xs, ev, how⟩ => ?_) hs rfl))⟩
  subst ev
  obtain ⟨u, rfl, ru⟩ := vals1 rel
  obtain rfl := (show u = Value.ref a from ru)
  have far : ∀ b ∈ [t.heap.objs.size + 1, t.heap.objs.size], FpOk X pins H1 b := fun b hb => by
    have ge : t.heap.objs.size ≤ b := by
      rcases one_of hb with q | q <;> rw [q]
      · exact Nat.le_succ _
      · exact Nat.le_refl _
    exact J.fpOk ge (J.hok.fresh ge)
  rcases how with ⟨hx, q⟩ | ⟨hx, q⟩
  · obtain ⟨_, _, isL, _⟩ := J.list hx
    refine call_enumerate_list isL.isList fun g hz hj _ k => wpAny_pyIter_enum hz ?_
    exact ⟨_, _, _, _, H1, rfl, J.kept (t' := t.toks) k, turn_enum a _ _, ⟨⟨.none, hz⟩, hj, Nat.succ_ne_self _⟩, far, q⟩
  · obtain ⟨_, _, isT, _⟩ := J.tuple hx
    have lt := isT.lt
    refine call_enum isT fun g hz hj k => wpAny_pyIter_enum hz ?_
    exact ⟨_, _, _, _, H1, rfl, J.kept (t' := t.toks) k, turn_pair a _ _ (Nat.ne_of_lt lt) (Nat.ne_of_lt (Nat.lt_succ_of_lt lt)), ⟨⟨.none, hz⟩, hj, Nat.succ_ne_self _⟩, far, q⟩
end Kx
/-! A try with several clauses «except C as n»: each clause stores what was caught at its own place. -/
namespace Kx
open PySem PyProof.Rows L2 PySem.Spec

/-- an error that came down to this frame and whose flight is over; `old` is the state without it -/
structure Down (X : Cx) (pins : List (Addr × Obj)) (σ : L2.St) (H : Hp) (x : Addr) (cls : Value) (d : Option Addr) (G : Heap) (old now : Shared) : Prop where
  was : Inv X pins σ H old
  low : ∀ b o, old.heap.get? b = some o → b ∉ frs X.stack → G.get? b = some o
  up : old.heap.UpToSlots now.heap
  fly : HandSPX.FlyingZ G (X.env :: X.outer) x (Zc cls d) now.heap
  fresh : H x = none
  sys : now.os = old.os
  bare : AllBare now.gens
section
variable {X : Cx} {pins : List (Addr × Obj)} {σ : L2.St} {H : Hp} {x : Addr} {cls : Value} {d : Option Addr} {G : Heap} {old now : Shared}
theorem Down.inv (D : Down X pins σ H x cls d G old now) : Inv X pins σ H now := D.was.landed D.low D.fly.1 D.up D.sys D.bare
/-- the record, and that it is no frame -/
theorem Down.rec_ (D : Down X pins σ H x cls d G old now) (hf : X.env.frame = some X.env.locals) :
    ∃ (ob : Obj) (vs : Array Value), now.heap.get? x = some ob ∧ Zc cls d ob ∧ ob.data = .fields vs ∧ x ≠ X.env.locals ∧ x ∉ X.fs := by
  obtain ⟨ob, vs, h1, h2, h3⟩ := D.fly.there
  have out : x ∉ frs (X.env :: X.outer) := by
    intro hm
    obtain ⟨_, ob2, h4, h5⟩ := D.fly.2.2.1.mem hm
    rw [h1] at h4
    cases h4
    exact h5 _ h3
  refine ⟨ob, vs, h1, h2, h3, fun z => out ?_, fun hm => out ?_⟩
  · exact List.mem_filterMap.mpr ⟨_, List.mem_cons_self, by rw [hf, z]⟩
  · obtain ⟨e1, h6, h7⟩ := List.mem_filterMap.mp hm
    exact List.mem_filterMap.mpr ⟨e1, List.mem_cons_of_mem _ h6, h7⟩
/-- within a suite -/
theorem Down.held (D : Down X pins σ H x cls d G old now) (hf : X.env.frame = some X.env.locals) :
    ∃ ob : Obj, now.heap.get? x = some ob ∧ Zc cls d ob ∧ (∃ vs, ob.data = .fields vs) ∧ Inv (X.suite x ((x, ob) :: (X.pn ++ pins))) [] σ H now := by
  obtain ⟨ob, vs, h1, h2, h3, h4, h5⟩ := D.rec_ hf
  exact ⟨ob, h1, h2, ⟨vs, h3⟩, D.inv.suite h1 h3 D.fresh h4 h5⟩
/-- no clause takes it: it goes on -/
theorem Down.goes {pos : Pos} {E : Ends} {W : WX} (D : Down X pins σ H x cls d G old now) (hs : X.stack = X.env :: X.outer) (hf : X.env.frame = some X.env.locals) (tk : Takes X W) (hw : W cls d σ H) :
    wpAny (model X.prog X.w) X.A (handleBy (.ref x) X.env []) (SP X pins E) X.xe now := by
  obtain ⟨_, _, _, ob, vs, T, _, _, h1, _, h3, h4, _⟩ := D.fly
  have away : wpAny (model X.prog X.w) X.A (setFlight (.ref x) X.env.frame) (fun _ s => wpAny (model X.prog X.w) X.A (throw (.ref x) : Sem Flow) (SP X pins E) X.xe s) X.xe now := by
    rw [hf]
    refine HandSPX.setFlight_upZ D.fly fun h' held up' => wpAny_throw (tk _ _ ⟨x, G, old, pins, σ, H, cls, d, rfl, D.was, D.low, D.up.trans up', ?_, D.fresh, D.sys, D.bare, hw⟩)
    rw [hs]
    exact .inr (.inr held)
  refine wpAny_handleBy_nil (wpAny_bind (wpAny_field h1 h3 h4 ?_))
  have some_ : ¬ ((Value.ref T == Value.none) = true) := by simp
  rw [if_neg some_]
  first
    | exact wpAny_bind away
    | exact wpAny_bind (wpAny_pure (wpAny_bind away))
end
/-- one clause: the class it names, the place of its name, its suite's reading -/
abbrev Clause : Type := Value × Nat × (Addr → Value → Option Addr → TS)
/-- behind a suite the name at i is gone -/
def bare (E : Ends) (i : Nat) : Ends where
  nx := fun σ H => E.nx (σ.set i none) H
  rt := E.rt
  bk := fun σ H => E.bk (σ.set i none) H
  ct := fun σ H => E.ct (σ.set i none) H
/-- what is asked of an error that the body lets out -/
def asks (K : PySem.W.Frag) (W : WX) (E : Ends) : List Clause → WX
  | [] => W
  | k :: r => fun cls d σ H => ∃ y, PySem.W.exmOne K cls k.1 = some y ∧ (y = true → ∀ x, H x = none → k.2.2 x cls d (bare E k.2.1) (σ.set k.2.1 (some (.ref x))) H) ∧ (y = false → asks K W E r cls d σ H)
inductive Clauses (X : Cx) : List ExceptHandler → List Clause → Prop
  | nil : Clauses X [] []
  | cons {nm n : Str} {i : Nat} {c : Value} {t : Addr → Value → Option Addr → TS} {st : Stmt} {more : List Stmt} {p1 p2 : Pos} {hs : List ExceptHandler} {ks : List Clause} (nd : X.N.Nodup) (at_ : X.N[i]? = some n) (loc : X.env.kindOf n = some .local) (cl : Names X nm c)
      (su : ∀ (x : Addr) (ob : Obj) (cls : Value) (d : Option Addr) (pn : List (Addr × Obj)), Zc cls d ob → (∃ vs, ob.data = .fields vs) → PSs (X.suite x ((x, ob) :: pn)) (st :: more) (t x cls d)) (rest : Clauses X hs ks) :
      Clauses X (.ExceptHandler (some (.Name nm p1)) (some n) (st :: more) p2 :: hs) ((c, i, t) :: ks)
section
variable {X : Cx} {pins : List (Addr × Obj)} {σ : L2.St} {H : Hp} {x : Addr} {cls : Value} {d : Option Addr} {G : Heap} {old now : Shared} {E : Ends} {W : WX}
theorem name_there {nm : Str} {c : Value} {p1 : Pos} {ob : Obj} {Q E' : Value → Shared → Prop} (cl : Names X nm c) (J : Inv (X.suite x ((x, ob) :: (X.pn ++ pins))) [] σ H now) (q : Q c now) :
    wpAny (model X.prog X.w) (X.A.mark (some (.ref x))) (eval (.Name nm p1) X.env) Q E' now := by
  obtain ⟨g, db, m | ⟨m, b, nn⟩⟩ := cl
  · exact ld_glob J g m q db
  · exact ld_blt J g m b q nn db
theorem Down.clauses (D : Down X pins σ H x cls d G old now) (hs : X.stack = X.env :: X.outer) (hf : X.env.frame = some X.env.locals) (tk : Takes X W) {hds : List ExceptHandler} {ks : List Clause} (C : Clauses X hds ks) (w : asks X.K W E ks cls d σ H) :
    wpAny (model X.prog X.w) X.A (handleBy (.ref x) X.env hds) (SP X pins E) X.xe now := by
  induction C with
  | nil => exact D.goes (pos := ⟨0, 0, 0, 0⟩) hs hf tk w
  | @cons nm n i c t st more p1 p2 hs' ks' nd at_ loc cl su rest ih =>
    obtain ⟨y, hy, yes, no⟩ := w
    obtain ⟨ob, h1, h2, h3, J⟩ := D.held hf
    refine wpAny_handleBy_cons (codeAny_handlers_test (name_there cl J ?_)) (fun z => nomatch z)
    have ty : PySem.W.Looks (model X.prog X.w) now.heap (typeOf (.ref x)) cls := fun _ _ _ _ k q => wpAny_typeOf_ref (k _ _ h1) (by rw [h2.1]; exact q)
    refine (PySem.W.exm_one D.inv.kIn ty hy).here ?_
    cases y with
    | false => exact ih (no rfl)
    | true =>
      refine codeAny_handlers_suite_as (HandSPX.lands_againZ D.fly fun h' fl up' => ?_)
      have D' : Down X pins σ H x cls d G old { now with heap := h' } := ⟨D.was, D.low, D.up.trans up', fl, D.fresh, D.sys, D.bare⟩
      obtain ⟨ob', _, g2, g3, J'⟩ := D'.held hf
      refine store_ok (X := X.suite x ((x, ob') :: (X.pn ++ pins))) (v := .ref x) J' nd at_ (.inl loc) rfl (fun s2 J2 => ?_) (.inr loc)
      refine wpAny_mono ((su x ob' cls d (X.pn ++ pins) g2 g3).run [] s2 _ H _ J2 (yes rfl x D.fresh)) (fun f s3 hf3 => ?_) (fun _ _ z => z.elim)
      have gone : ∀ {σ3 : L2.St} {H3 : Hp} {R : Shared → Prop}, Inv (X.suite x ((x, ob') :: (X.pn ++ pins))) [] σ3 H3 s3 → (∀ s4, Inv X pins (σ3.set i none) H3 s4 → R s4) →
          wpAny (model X.prog X.w) X.A (do bindName X.env n .none; unbindBehindTheSuite X.env n p2) (fun _ s4 => R s4) X.xe s3 := fun J3 q => gone_ok (J3.unsuite D.was.ok) nd at_ loc q
      match f, hf3 with
      | .next, ⟨_, _, J3, q⟩ => exact gone J3 fun _ J4 => ⟨_, _, J4, q⟩
      | .brk, ⟨_, _, J3, q⟩ => exact gone J3 fun _ J4 => ⟨_, _, J4, q⟩
      | .cont, ⟨_, _, J3, q⟩ => exact gone J3 fun _ J4 => ⟨_, _, J4, q⟩
      | .ret _, ⟨_, _, _, J3, r, q⟩ => exact gone J3 fun _ J4 => ⟨_, _, _, J4, r, q⟩
end
/-- try: body / except C as n: .. / except D as m: .. -/
theorem ps_tries {X : Cx} {body : List Stmt} {hd : ExceptHandler} {hds : List ExceptHandler} {ks : List Clause} {pos : Pos} {tb : WX → TS} {W : WX} (hs : X.stack = X.env :: X.outer) (hf : X.env.frame = some X.env.locals) (tk : Takes X W)
    (hb : ∀ (U : WX) (pn : List (Addr × Obj)) (xe : Value → Shared → Prop), Takes (X.tr pn xe) U → PassesOwn (model X.prog X.w) X.A X.env xe → PSs (X.tr pn xe) body (tb U)) (C : Clauses X (hd :: hds) ks) :
    PS X (.Try body (hd :: hds) [] [] pos) (fun E σ H => tb (asks X.K W E ks) E σ H) := by
  refine ⟨fun pins s σ H E I h => wpAny_Try_except ?_⟩
  have top : X.A.frames = some (X.env :: X.outer) := by rw [I.ok.frames, hs]
  have inner := hb (asks X.K W E ks) (X.pn ++ pins) (fun e s1 => wpAny (model X.prog X.w) X.A (noteFrame e X.env) (fun _ s2 => wpAny (model X.prog X.w) X.A (setFlight e none)
    (fun _ s3 => wpAny (model X.prog X.w) X.A (handleBy e X.env (hd :: hds)) (SP X pins E) X.xe s3) X.xe s2) X.xe s1) ?_ PassesOwn.looking
  · refine wpAny_mono (inner.run [] s σ H E (I.toTry _) h) (fun f s1 q => ?_) (fun _ _ z => z)
    match f, q with
    | .next, ⟨_, _, J, q⟩ => exact wpAny_execs_nil ⟨_, _, J.ofTry I.ok, q⟩
    | .brk, ⟨_, _, J, q⟩ => exact ⟨_, _, J.ofTry I.ok, q⟩
    | .cont, ⟨_, _, J, q⟩ => exact ⟨_, _, J.ofTry I.ok, q⟩
    | .ret _, ⟨_, _, _, J, r, q⟩ => exact ⟨_, _, _, J.ofTry I.ok, r, q⟩
  · rintro u s1 ⟨x, G, old, _, σ1, H1, cls, d, rfl, J, low, up, sky, fr, sys, bare, w⟩
    rw [show (X.tr (X.pn ++ pins) _).stack = X.env :: X.outer from hs] at sky
    refine Sky.land Zc.steady top hf sky fun h' fl up' => ?_
    exact Down.clauses (now := { s1 with heap := h' }) ⟨J.ofTry I.ok, low, up.trans up', fl, fr, sys, bare⟩ hs hf tk C w
end Kx
/-! Sequences, values of any known kind, calls by a bundle of facts. -/
namespace Kx
open L2 PySem PySem.Spec PyProof.Rows
section
variable {K : PySem.W.Frag} {H H' : Hp} {a b : Addr} {xs ys : List V} {o : HO}
theorem rd_same (e : Same H H') {u : HO} (h : Rd H a u) : Rd H' a u := h.elim (fun q => .inl (e _ _ q)) fun ⟨z, q⟩ => .inr ⟨z, e _ _ q⟩
theorem sqL_same (e : Same H H') (h : SqL K H a xs) : SqL K H' a xs := h.elim (fun q => .inl (rd_same e q)) .inr
theorem sqT_same (e : Same H H') (h : SqT K H a xs) : SqT K H' a xs := h.elim (fun q => .inl (rd_same e q)) .inr
theorem Sq.same (e : Same H H') (h : Sq K H a xs) : Sq K H' a xs := h.elim (fun q => .inl (sqL_same e q)) fun q => .inr (sqT_same e q)
theorem rd_upd (ne : a ≠ b) {u : HO} (h : Rd H a u) : Rd (upd H b o) a u := h.elim (fun q => .inl (by rw [upd_ne ne]; exact q)) fun ⟨z, q⟩ => .inr ⟨z, by rw [upd_ne ne]; exact q⟩
theorem sqL_upd (ne : a ≠ b) (h : SqL K H a xs) : SqL K (upd H b o) a xs := h.elim (fun q => .inl (rd_upd ne q)) .inr
theorem sqT_upd (ne : a ≠ b) (h : SqT K H a xs) : SqT K (upd H b o) a xs := h.elim (fun q => .inl (rd_upd ne q)) .inr
theorem Sq.upd (ne : a ≠ b) (h : Sq K H a xs) : Sq K (L2.upd H b o) a xs := h.elim (fun q => .inl (sqL_upd ne q)) fun q => .inr (sqT_upd ne q)
theorem same_new (h : H b = none) : Same H (upd H b o) := fun c u q => by
  rw [upd_ne (ne_of_none q h)]
  exact q
end
/-! ### loops over a list or a tuple -/
/-- the end of a loop's word: W by a word of the turn -/
theorem for_by {J : It} {n : Nat} {g : TG} {tb : TS} {D : Ends} {σ : L2.St} {H : Hp} (Pv : Nat → L2.St → Hp → Prop) (h0 : Pv 0 σ H)
    (go : ∀ i σ H, i < n → Pv i σ H → J.go i H ∧ ∀ x H', J.yld i H x H' → g x σ H' fun σ2 H2 => tb { D with nx := Pv (i + 1), ct := Pv (i + 1), bk := D.nx } σ2 H2)
    (stop : ∀ σ H, Pv n σ H → J.stop n H ∧ D.nx σ H) :
    ∃ W : Nat → Nat → L2.St → Hp → Prop, (∃ m, W 0 m σ H) ∧ ∀ i m σ H, W i m σ H → (J.stop i H ∧ D.nx σ H) ∨ (J.go i H ∧ ∃ N : L2.St → Hp → Prop, (∀ σ' H', N σ' H' → ∃ m', m' < m ∧ W (i + 1) m' σ' H') ∧ ∀ x H', J.yld i H x H' → g x σ H' fun σ2 H2 => tb { D with nx := N, ct := N, bk := D.nx } σ2 H2) := by
  refine ⟨fun i m σ H => m = n - i ∧ i ≤ n ∧ Pv i σ H, ⟨n, rfl, Nat.zero_le n, h0⟩, ?_⟩
  rintro i m σ H ⟨rfl, le, p⟩
  rcases Nat.lt_or_eq_of_le le with lt | rfl
  · obtain ⟨g1, g2⟩ := go i σ H lt p
    exact .inr ⟨g1, Pv (i + 1), fun σ' H' p' => ⟨n - (i + 1), by omega, rfl, lt, p'⟩, g2⟩
  · exact .inl (stop σ H p)
abbrev forR (g : TG) (tb : TS) (D : Ends) (σ : L2.St) : It → Hp → Prop := fun J H => ∃ W : Nat → Nat → L2.St → Hp → Prop, (∃ m, W 0 m σ H) ∧ ∀ i m σ H, W i m σ H →
  (J.stop i H ∧ D.nx σ H) ∨ (J.go i H ∧ ∃ N : L2.St → Hp → Prop, (∀ σ' H', N σ' H' → ∃ m', m' < m ∧ W (i + 1) m' σ' H') ∧ ∀ x H', J.yld i H x H' → g x σ H' fun σ2 H2 => tb { D with nx := N, ct := N, bk := D.nx } σ2 H2)
/-- for i, x in enumerate(xs) -/
theorem for_pairs {K : PySem.W.Frag} {a : Addr} {xs : List V} {g : TG} {tb : TS} {D : Ends} {σ : L2.St} {H : Hp} (hx : Sq K H a xs) (Pv : Nat → L2.St → Hp → Prop) (h0 : Pv 0 σ H) (hs : ∀ i σ' H', Pv i σ' H' → Same H H')
    (turn : ∀ (i : Nat) (x : V) (p : Addr) σ' H', xs[i]? = some x → Pv i σ' H' → H' p = none → g (.ref p) σ' (upd H' p (.tup [.int (i : Int), x])) fun σ2 H2 => tb { D with nx := Pv (i + 1), ct := Pv (i + 1), bk := D.nx } σ2 H2)
    (hd : ∀ σ' H', Pv xs.length σ' H' → D.nx σ' H') : (SqL K H a xs ∧ forR g tb D σ (Ite K a) H) ∨ (SqT K H a xs ∧ forR g tb D σ (ItPair K a) H) := by
  refine hx.imp (fun q => ⟨q, for_by (n := xs.length) Pv h0 ?_ ?_⟩) fun q => ⟨q, for_by (n := xs.length) Pv h0 ?_ ?_⟩
  · intro i σ' H' lt p
    have q' := sqL_same (hs i σ' H' p) q
    refine ⟨⟨xs, xs[i], q', List.getElem?_eq_getElem lt⟩, ?_⟩
    rintro v H2 ⟨pr, x, rfl, hn, rfl, hx⟩
    exact turn i x pr σ' H' (hx xs q') p hn
  · exact fun σ' H' p => ⟨⟨xs, sqL_same (hs _ σ' H' p) q, Nat.le_refl _⟩, hd σ' H' p⟩
  · intro i σ' H' lt p
    have q' := sqT_same (hs i σ' H' p) q
    refine ⟨⟨xs, xs[i], q', List.getElem?_eq_getElem lt⟩, ?_⟩
    rintro v H2 ⟨pr, x, rfl, hn, rfl, hx⟩
    exact turn i x pr σ' H' (hx xs q') p hn
  · exact fun σ' H' p => ⟨⟨xs, sqT_same (hs _ σ' H' p) q, Nat.le_refl _⟩, hd σ' H' p⟩
/-- for x in xs, xs a list or a tuple -/
def iAny (K : PySem.W.Frag) (tl : TE) : TI := fun σ H R => tl σ H fun x H1 => ∃ (a : Addr) (xs : List V), x = .ref a ∧ ((SqL K H1 a xs ∧ R (Itl K a) H1) ∨ (SqT K H1 a xs ∧ R (Itt K a) H1))
theorem pi_any {X : Cx} {tg e : Expr} {te : TE} (he : PE X e te) : PI X tg e (iAny X.K te) := by
  refine ⟨fun pins s σ H R I h => thn (he.run pins s σ H _ I h) fun u t ⟨x, H1, J, rx, a, xs, ex, how⟩ => ?_⟩
  subst ex
  obtain rfl := (show u = Value.ref a from rx)
  have far : ∀ b ∈ [t.heap.objs.size], FpOk X pins H1 b := fun b hb => by
    obtain rfl := (show b = t.heap.objs.size by simpa using hb)
    exact J.fpOk (Nat.le_refl _) (J.hok.fresh (Nat.le_refl _))
  have kept : ∀ (o : Obj) (b : Addr) (v : Obj), t.heap.get? b = some v → (t.heap.push o).get? b = some v := fun o b v z => Heap.get?_push_of_some _ z
  have new : ∀ (o : Obj), o.isFreed = false → (t.heap.push o).get? t.heap.objs.size = some o := fun o z => Heap.get?_push_size _ z
  rcases how with ⟨hx, q⟩ | ⟨hx, q⟩
  · obtain ⟨_, _, isL, _⟩ := J.list hx
    exact wpAny_pyIter_list isL.isList ⟨_, _, _, _, H1, rfl, J.kept (t' := t.toks) (kept _), turn_list a _, ⟨_, new _ rfl, rfl, rfl⟩, far, q⟩
  · obtain ⟨_, vs, isT, _⟩ := J.tuple hx
    exact wpAny_pyIter_tuple isT ⟨_, _, _, _, H1, rfl, J.kept (t' := t.toks) (kept _), turn_tuple a _, ⟨_, new _ rfl, rfl, rfl⟩, far, q⟩
theorem for_any {K : PySem.W.Frag} {a : Addr} {xs : List V} {g : TG} {tb : TS} {D : Ends} {σ : L2.St} {H : Hp} (hx : Sq K H a xs) (Pv : Nat → L2.St → Hp → Prop) (h0 : Pv 0 σ H)
    (hl : ∀ i σ' H', Pv i σ' H' → SqL K H a xs → SqL K H' a xs) (ht : ∀ i σ' H', Pv i σ' H' → SqT K H a xs → SqT K H' a xs)
    (turn : ∀ (i : Nat) (x : V) σ' H', xs[i]? = some x → Pv i σ' H' → g x σ' H' fun σ2 H2 => tb { D with nx := Pv (i + 1), ct := Pv (i + 1), bk := D.nx } σ2 H2)
    (hd : ∀ σ' H', Pv xs.length σ' H' → D.nx σ' H') : (SqL K H a xs ∧ forR g tb D σ (Itl K a) H) ∨ (SqT K H a xs ∧ forR g tb D σ (Itt K a) H) := by
  refine hx.imp (fun q => ⟨q, for_by (n := xs.length) Pv h0 ?_ ?_⟩) fun q => ⟨q, for_by (n := xs.length) Pv h0 ?_ ?_⟩
  · intro i σ' H' lt p
    have q' := hl i σ' H' p q
    refine ⟨⟨xs, xs[i], q', List.getElem?_eq_getElem lt⟩, ?_⟩
    rintro v H2 ⟨rfl, hv⟩
    exact turn i v σ' _ (hv xs q') p
  · exact fun σ' H' p => ⟨⟨xs, hl _ σ' H' p q, Nat.le_refl _⟩, hd σ' H' p⟩
  · intro i σ' H' lt p
    have q' := ht i σ' H' p q
    refine ⟨⟨xs, xs[i], q', List.getElem?_eq_getElem lt⟩, ?_⟩
    rintro v H2 ⟨rfl, hv⟩
    exact turn i v σ' _ (hv xs q') p
  · exact fun σ' H' p => ⟨⟨xs, ht _ σ' H' p q, Nat.le_refl _⟩, hd σ' H' p⟩
/-! ### values of a known kind -/
/-- v is no object, or a list, or a tuple -/
inductive Kn (K : PySem.W.Frag) (H : Hp) : V → Prop
  | non : Kn K H .non
  | bl (b : Bool) : Kn K H (.bl b)
  | int (i : Int) : Kn K H (.int i)
  | str (x : Str) : Kn K H (.str x)
  | seq {a : Addr} {xs : List V} (h : Sq K H a xs) : Kn K H (.ref a)
theorem Kn.same {K : PySem.W.Frag} {H H' : Hp} {v : V} (e : Same H H') (h : Kn K H v) : Kn K H' v := by
  cases h with
  | non => exact .non
  | bl b => exact .bl b
  | int i => exact .int i
  | str x => exact .str x
  | seq q => exact .seq (q.same e)
theorem tyx_list {K : PySem.W.Frag} {H : Hp} {a : Addr} {xs : List V} (h : SqL K H a xs) : TyX K H (.ref a) (.type "list") := by
  rcases h with (q | ⟨o, q⟩) | q
  · exact .base (.lst q)
  · exact .base (.frz q)
  · obtain ⟨_, _, _, q, r, _⟩ := q
    exact .kList q r
theorem tyx_tuple {K : PySem.W.Frag} {H : Hp} {a : Addr} {xs : List V} (h : SqT K H a xs) : TyX K H (.ref a) (.type "tuple") := by
  rcases h with (q | ⟨o, q⟩) | q
  · exact .base (.tup q)
  · exact .fTuple q
  · obtain ⟨_, _, _, q, r, _⟩ := q
    exact .kTuple q r
/-! ### a def that is known: its name, where it stands, what it takes, what it promises -/
structure Cal (P : Program) (w : World) (K : PySem.W.Frag) (mg : Str → Option Value) (base : Heap) (CX : CXT) (k : Nat) (x : Str) (ps : List Str) (sp : Sp) : Prop where
  ex : ∃ (f : Addr) (fd : FuncData), mg x = some (.ref f) ∧ PySem.W.keepIn K (.ref f) = true ∧ Binds K fd ps [] ∧ FnOk P w K mg base CX k f fd ps sp
section
variable {X : Cx} {CX : CXT} {k j : Nat} {x : Str} {ps : List Str} {sp : Sp} {e : Expr} {es : List Expr} {t : TA} {E : XK} {p pos : Pos}
theorem pe_callC (c : Cal X.prog X.w X.K X.mg X.base CX k x ps sp) (hr : Room j X.A) (hx : Passes CX X E) (ha : PA X (e :: es) t) (hk : k ≤ j := by decide) (hg : Gl X x := by rfl) (hdb : (x == ("__debug__" : Str)) = false := by decide)
    (he : starEach (e :: es) X.env = (false, eval e X.env) :: starEach es X.env := by rfl) (hpl : (backTo pos (starEach es X.env)).any (·.1) = false := by rfl) : PE X (.Call (.Name x p) (e :: es) [] pos) (tCall sp [] E t) := by
  obtain ⟨f, fd, h1, h2, h3, h4⟩ := c.ex
  exact pe_call h4 (hr.mono hk) hg h1 h2 h3 .nil hx ha hdb he hpl
end
end Kx
/-! defs that show a container as a text: their promise holds where no built-in that guards itself runs around. repr of data. -/
namespace Kx
open L2 PySem PySem.Spec PyProof.Rows
/-- nothing that guards itself runs around -/
abbrev Lone (A : Around) : Prop := A.guards = some []
structure FnG (P : Program) (w : World) (K : PySem.W.Frag) (mg : Str → Option Value) (base : Heap) (CX : CXT) (k : Nat) (f : Addr) (fd : FuncData) (ps : List Str) (sp : Sp) : Prop where
  len : ∀ vs H Q E, sp vs H Q E → List.length vs = ps.length
  run : ∀ (A : Around) (outer : List Env) (s : Shared) (H : Hp) (args : Args) (us : List Value) (vs : List V) (Q : VK) (E : XK), Room k A → Lone A → Env0 P w K mg base A outer s H → BindsTo s fd args (ps.zip us) → Vals vs us → sp vs H Q E → codeAny (model P w) A (.call (.ref f) args) (CR CX outer P w H s Q E) s
theorem FnG.of {P : Program} {w : World} {K : PySem.W.Frag} {mg : Str → Option Value} {base : Heap} {CX : CXT} {k : Nat} {f : Addr} {fd : FuncData} {ps : List Str} {sp : Sp} (F : FnOk P w K mg base CX k f fd ps sp) : FnG P w K mg base CX k f fd ps sp :=
  ⟨F.len, fun A outer s H args us vs Q E hr _ he hb hv hs => F.run A outer s H args us vs Q E hr he hb hv hs⟩
section
variable {P : Program} {w : World} {K : PySem.W.Frag} {mg : Str → Option Value} {base : Heap} {f : Addr} {fd : FuncData} {x qual : Str} {params : Arguments} {body : List Stmt} {scope : Scope} {dvs : List V} {kws : List (Str × V)}
/-- a def's body: what stands around is alone -/
theorem okG {CX : CXT} {N ps : List Str} {k : Nat} {sp : Sp} (F : FunD K x qual params body scope dvs kws f fd) (S : FnScope N ps scope) (len : ∀ vs H Q E, sp vs H Q E → vs.length = ps.length)
    (hbody : ∀ (cdv : Value) (A : Around) (outer : List Env) (s : Shared) (H : Hp) (vs : List V) (Q : VK) (E : XK), Lone A → PySem.W.codeIn K cdv qual = true → Room k (A.deeper (envOfC qual scope s.heap.objs.size f cdv)) → sp vs H Q E →
      ∃ t, PSs (cxOf CX P w K mg base N qual scope f cdv A outer s H E) body t ∧ t { nx := fun _ H' => Q .non H', rt := Q } (start N vs) H) : FnG P w K mg base CX (k + 1) f fd ps sp := by
  obtain ⟨oc, od, dV, kV, doc, pm, an, cdv, ct, osl, rfl, lk, hcd, -, -⟩ := F.ex
  exact ⟨len, fun A outer s H args us vs Q E hr lone e0 hb hv hs => LamX.run_ofS lk hcd S hr e0 hb hv (len _ _ _ _ hs) fun hr' => hbody cdv A outer s H vs Q E lone hcd hr' hs⟩
end
structure CalG (P : Program) (w : World) (K : PySem.W.Frag) (mg : Str → Option Value) (base : Heap) (CX : CXT) (k : Nat) (x : Str) (ps : List Str) (sp : Sp) : Prop where
  ex : ∃ (f : Addr) (fd : FuncData), mg x = some (.ref f) ∧ PySem.W.keepIn K (.ref f) = true ∧ Binds K fd ps [] ∧ FnG P w K mg base CX k f fd ps sp
section
variable {X : Cx} {CX : CXT} {k j : Nat} {x : Str} {ps : List Str} {sp : Sp} {e : Expr} {es : List Expr} {t : TA} {E : XK} {p pos : Pos}
theorem pe_callG (c : CalG X.prog X.w X.K X.mg X.base CX k x ps sp) (hr : Room j X.A) (lone : Lone X.A) (hx : Passes CX X E) (ha : PA X (e :: es) t) (hk : k ≤ j := by decide) (hg : Gl X x := by rfl) (hdb : (x == ("__debug__" : Str)) = false := by decide)
    (he : starEach (e :: es) X.env = (false, eval e X.env) :: starEach es X.env := by rfl) (hnp : (backTo pos (starEach es X.env)).any (·.1) = false := by rfl) :
    PE X (.Call (.Name x p) (e :: es) [] pos) (tCall sp [] E t) := by
  obtain ⟨f, fd, at_, keep, binds, F⟩ := c.ex
  refine ⟨fun pins s σ H Q I h => wpAny_Call_Name_kw (ld_glob I hg at_ ?_ hdb)⟩
  refine PySem.W.callWith_K (h₀ := X.base) I.ok.mod.kin keep (thn (ha.run pos pins s σ H _ I h) fun us s1 ⟨vs, H1, J, rel, q⟩ => ⟨J.kIn, ?_⟩) he hnp
  have q : sp (vs ++ []) H1 Q E := q
  rw [List.append_nil] at q
  have n : (us ++ []).length = ps.length := by
    rw [List.append_nil, ← rel.length]
    exact F.len _ _ _ _ q
  have b := binds s1 us J.kIn n
  rw [List.append_nil] at b
  refine wpAny_call (codeAny_mono (F.run X.A X.stack s1 H1 ⟨us, []⟩ us vs Q E (hr.mono hk) lone J.env0 b rel q) fun r s2 z => ?_)
  match r, z with
  | .error _, z => exact hx pins σ H1 s1 _ s2 J z
  | .ok (.ret _), z => exact J.after z
  | .ok .next, z => exact z.elim
  | .ok .brk, z => exact z.elim
  | .ok .cont, z => exact z.elim
end
/-! ### repr of data -/
/-- the text that shows v -/
def rShow (K : PySem.W.Frag) : List V → Hp → VK → Prop := fun vs H Q => ∃ (v : V) (d : PyData), vs = [v] ∧ Dp K H v d ∧ d.showable = true ∧ d.hasDict = false ∧ d.depth ≤ 60 ∧ d.shown.length ≤ sizeLine ∧ Q (.str d.shown) H
theorem call_show {X : Cx} (lone : Lone X.A) (hu : X.A.units + 64 < cLine) : CallR X (.builtin "repr") (rShow X.K) := by
  intro pins s σ H vs us Q I rel h
  obtain ⟨v, d, rfl, data, sh, nd, dep, fit, q⟩ := h
  obtain ⟨u, rfl, ru⟩ := vals1 rel
  obtain ⟨as, reads⟩ := Dp.reads I d v u data ru
  have fin : ∀ (h' : Heap) (z : Tok) (tk : Nat), (∀ b o, s.heap.get? b = some o → h'.get? b = some o) → EP X pins σ Q (.str d.shown z) { s with heap := h', toks := tk } := fun h' z tk keep => ⟨.str d.shown, H, I.kept keep, ⟨z, rfl⟩, q⟩
  cases data with
  | lst hs ha =>
    cases (show u = Value.ref _ from ru)
    exact repr_of_reads' reads sh (PyData.noDict_hsm nd) lone (by omega) (fun _ _ z => z) fin fit
  | tup hs ha =>
    cases (show u = Value.ref _ from ru)
    exact repr_of_reads' reads sh (PyData.noDict_hsm nd) lone (by omega) (fun _ _ z => z) fin fit
  | non =>
    cases (show u = Value.none from ru)
    exact PySem.P.repr_of_none (fin s.heap _ _ fun _ _ z => z)
  | bl b =>
    cases (show u = Value.bool b from ru)
    exact PySem.P.repr_of_bool (fin s.heap _ _ fun _ _ z => z)
  | int i =>
    obtain ⟨z, rfl⟩ := (show ∃ z, u = Value.int i z from ru)
    exact PySem.P.repr_of_int (of_decide_eq_true sh) (fin s.heap _ _ fun _ _ z => z)
  | str y =>
    obtain ⟨z, rfl⟩ := (show ∃ z, u = Value.str y z from ru)
    exact PySem.P.repr_of_str (fin s.heap _ _ fun _ _ z => z) fit
end Kx
/-! own errors of one field, over an own base over ValueError: «self.f = f» alone. -/
namespace Kx
open L2 PySem PySem.Spec PyProof.Rows
/-- __init__ keeps the one thing in f -/
def spKeep (K : PySem.W.Frag) (C : Addr) (f : Str) : Sp := fun vs H Q _ => ∃ (a : Addr) (v : V), vs = [.ref a, v] ∧ H a = some (exo a C none) ∧
  ∀ dx, H dx = none → dx ≠ a → Q .non (upd (upd H dx (exd dx [(f, v)])) a (exo a C (some dx)))
/-- what the module holds of such a class: at C, its __init__ at fI -/
structure ErrC (P : Program) (w : World) (K : PySem.W.Frag) (mg : Str → Option Value) (base : Heap) (k : Nat) (x f : Str) (C : Addr) : Prop where
  at_ : mg x = some (.ref C)
  cls : OexC K C
  no : PySem.W.findIn K (.ref C) f = some none
  ini : ∃ (fI : Addr) (fd : FuncData), PySem.W.findIn K (.ref C) "__init__" = some (some (.ref fI)) ∧ PySem.W.typeIn K (.ref fI) = some (.type "function") ∧ Binds K fd ["self", f] [] ∧ FnOk P w K mg base CX0 k fI fd ["self", f] (spKeep K C f)
theorem heap_made {fs : List (Str × V)} {H : Hp} {a d : Addr} {u v z : HO} (ha : H a = none) (hne : d ≠ a) : upd (del (upd (upd (upd H a u) d v) a z) a) d (.xd fs) = upd H d (.xd fs) := by
  funext b
  by_cases e1 : b = d
  · rw [e1, upd_same, upd_same]
  · rw [upd_ne e1, upd_ne e1]
    by_cases e2 : b = a
    · rw [e2, del_same, ha]
    · rw [del_ne e2, upd_ne e2, upd_ne e1, upd_ne e2]
/-- raise C(e): what is asked behind e -/
theorem thrown {K : PySem.W.Frag} {C : Addr} {f : Str} {v : V} {H : Hp} {R : XK} (h : ∀ d, H d = none → R (.ref C) (some d) (upd H d (.xd [(f, v)]))) :
    [v].length ≤ 1000 ∧ ∀ a, H a = none → spKeep K C f (.ref a :: ([v] ++ [])) (upd H a (exo a C none))
      (fun y H2 => y = .non ∧ ∃ (d : Addr) (fs : List (Str × V)), H2 a = some (exo a C (some d)) ∧ H2 d = some (exd d fs) ∧ H d = none ∧ R (.ref C) (some d) (upd (del H2 a) d (.xd fs))) (fun _ _ _ => False) := by
  refine ⟨Nat.succ_le_of_lt (by simp), fun a ha => ⟨a, v, rfl, upd_same, fun d hd ne => ⟨rfl, d, [(f, v)], upd_same, ?_, ?_, ?_⟩⟩⟩
  · rw [upd_ne ne, upd_same]
  · rwa [upd_ne ne] at hd
  · rw [heap_made ha ne]
    rw [upd_ne ne] at hd
    exact h d hd
section
variable {X : Cx} {k j : Nat} {x f : Str} {C : Addr} {e : Expr} {ta : TA} {W : WX} {p pos p2 : Pos}
theorem ps_throw (T : ErrC X.prog X.w X.K X.mg X.base k x f C) (hc : X.calm = true) (hr : Room j X.A) (tk : Takes X W) (ha : PA X [e] ta) (hk : k + 1 ≤ j := by decide) (hg : Gl X x := by rfl) (hdb : (x == ("__debug__" : Str)) = false := by decide)
    (he : starEach (e :: []) X.env = (false, eval e X.env) :: starEach [] X.env := by rfl) (hpl : (backTo pos (starEach [] X.env)).any (·.1) = false := by rfl) :
    PS X (.Raise (some (.Call (.Name x p) [e] [] pos)) none p2) (fun _ σ H => tMkO C (spKeep X.K C f) [] ta σ H fun cls d H' => W cls d σ H') := by
  obtain ⟨fI, fd, h1, h2, h3, h4⟩ := T.ini
  exact ps_raise (pos := p2) hc tk (pmk_oex (p := p) (pos := pos) (es := []) T.cls h1 h2 h4 (hr.mono hk) h3 .nil pass0 hg T.at_ ha hdb he hpl)
end
/-! ### the init itself -/
theorem ok_keep {P : Program} {w : World} {K : PySem.W.Frag} {mg : Str → Option Value} {base : Heap} {C fI : Addr} {fd : FuncData} {f qual : Str} {params : Arguments} {scope : Scope} {p1 p2 p3 p4 : Pos}
    (F : FunD K "__init__" qual params [.Assign [.Attribute (.Name "self" p1) f p2] (.Name f p3) p4] scope [] [] fI fd) (T : OexC K C) (no : PySem.W.findIn K (.ref C) f = some none)
    (sc : FnScope ["self", f] ["self", f] scope) (hd : (f == ("__debug__" : Str)) = false) (hcd : (f == ("__classdict__" : Str)) = false) (l0 : scope.names.lookup ("self" : Str) = some .local) (l1 : scope.names.lookup f = some .local) :
    FnOk P w K mg base CX0 1 fI fd ["self", f] (spKeep K C f) := by
  refine F.ok sc (fun vs H Q E h => ?_) (fun cdv A outer s H vs Q E hr h => ?_)
  · obtain ⟨a, v, rfl, _⟩ := h
    rfl
  · obtain ⟨a, v, rfl, ha, k⟩ := h
    refine ⟨_, pss_one (ps_ost (pe_var (i := 0) rfl (.inl l0)) (pe_var (i := 1) rfl (.inl l1) hd hcd)), ?_⟩
    exact ⟨_, rfl, _, rfl, a, C, rfl, T, no, .inl ⟨ha, fun dx n1 n2 => k dx n1 n2⟩⟩
end Kx
/-! own errors right over KeyError (made by LookupError's maker), with an own __init__. -/
namespace Kx
open PySem PySem.W PySem.Calls PyProof.Rows PySem.HandSPX
abbrev keyTail : List Value := [.type "KeyError", .type "LookupError", .type "Exception", .type "BaseException", .type "object"]
abbrev keyObj (nm q : Str) (C N : Addr) (bs : List Value) (sn : List Str) (sub : List Value) (ab : Bool) (col : Option Bool) (dd : Option Addr) (k0 k1 k2 k3 k5 : Option Value) : Obj :=
  excClassObj nm q C N bs keyTail true sn sub ab col dd k0 k1 k2 k3 k5 "LookupError.__new__"
theorem in_tail {C : Addr} {n : String} {b : Bool} (h : keyTail.contains (.type n) = b) : (Value.ref C :: keyTail).contains (.type n) = b := by
  rw [List.contains_cons, h]
  rfl
section
variable {h : Heap} {g : Array GenState} {d : Drawn} {t : Nat} {os : OsState} {prog : Program} {w : World} {A : Around} {R : Result → Shared → Prop} {E : Value → Shared → Prop}
variable {nm q : Str} {C N : Addr} {bs : List Value} {sn : List Str} {sub : List Value} {ab : Bool} {col : Option Bool} {dd : Option Addr} {k0 k1 k2 k3 k5 : Option Value} {more : List Value}
theorem key_check {M : Model} {Q : Unit → Shared → Prop} (stands : h.get? C = some (keyObj nm q C N bs sn sub ab col dd k0 k1 k2 k3 k5)) (done : Q () ⟨h, g, d, t, os⟩) :
    wpAny M A (checkBuiltinCall "LookupError.__new__" ⟨.ref C :: more, []⟩) Q E ⟨h, g, d, t, os⟩ := by
  have isB : (Value.ref C :: keyTail).contains (.type "LookupError") = true := in_tail (by decide +kernel)
  have short := PySem.F.excBase_LookupError.noStar
  simp only [checkBuiltinCall, PySem.F.excBase_LookupError.newKind, PySem.F.excBase_LookupError.newSplit, PySem.F.excBase_LookupError.newRow]
  repeat (first
    | refine wpAny_loadPart_at stands ?_
    | (refine wpAny_isSubtype_exc stands ?_; rw [isB])
    | refine wpAny_staticBase_exc stands ?_
    | refine wpAny_madeBy_exc stands ?_
    | simp only [bne_self_eq_false, Bool.false_eq_true, if_false]
    | wp_step)
  exact done
theorem key_new (stands : h.get? C = some (keyObj nm q C N bs sn sub ab col dd k0 k1 k2 k3 k5)) (fits : more.length ≤ sizeLine)
    (done : R (.ok (.ret (.ref (h.objs.size + 1)))) ⟨(h.push (kdv_tup more)).push (excO C h.objs.size), g, d, t, os⟩) : codeAny (model prog w) A (.builtin "LookupError.__new__" ⟨.ref C :: more, []⟩) R ⟨h, g, d, t, os⟩ := by
  have ends := PySem.F.excBase_LookupError.ends
  have isB : (Value.ref C :: keyTail).contains (.type "LookupError") = true := in_tail (by decide +kernel)
  have noA : (Value.ref C :: keyTail).contains (.type "AttributeError") = false := in_tail (by decide +kernel)
  have noN : (Value.ref C :: keyTail).contains (.type "NameError") = false := in_tail (by decide +kernel)
  refine codeAny_builtinAt PySem.F.excBase_LookupError.entry ?_
  unfold Builtin.«BaseException.__new__»; refine PySem.wpAt_bind ?_
  show PySem.wpAt _ _ _ (stack >>= _) _ _ _
  refine PySem.wpAt_bind (PySem.wpAt_stack fun _ _ => PySem.wpAt_of_wpAny ?_)
  wp_walk
  refine PySem.wpAt_of_wpAny ?_
  rw [PySem.F.excBase_LookupError.owner]
  repeat (first
    | with_reducible refine wpAny_madeHere_exc PySem.F.excBase_LookupError.canon stands ?_
    | with_reducible refine wpAny_loadPart_at stands ?_
    | (with_reducible refine wpAny_isSubtype_exc stands ?_; first | rw [isB] | rw [noA] | rw [noN])
    | wp_step)
  show R _ _
  rw [Heap.size_push]
  exact done
theorem key_call {fI : Addr} (stands : h.get? C = some (keyObj nm q C N bs sn sub ab col dd k0 k1 k2 k3 k5)) (hi : Looks (model prog w) h (typeLookup (.ref C) "__init__") (some (.ref fI)))
    (hb : ∀ self, Looks (model prog w) h (bindSpecial (.ref fI) self) (.ref fI, [self])) (fits : more.length ≤ sizeLine)
    (done : codeAny (model prog w) (A.under (.builtin "type.__call__" ⟨.ref C :: more, []⟩)) (.call (.ref fI) ⟨.ref (h.objs.size + 1) :: more, []⟩) (InitBack (h.objs.size + 1) R) ⟨(h.push (kdv_tup more)).push (excO C h.objs.size), g, d, t, os⟩) :
    codeAny (model prog w) A (.call (.ref C) ⟨more, []⟩) R ⟨h, g, d, t, os⟩ := by
  have l1 := tc_lookup
  have l2 := tc_bind (.ref C)
  have isTy : (⟨h, g, d, t, os⟩ : Shared).TypeIs (.ref C) "type" := ⟨_, stands, rfl⟩
  have all : ∀ b o, h.get? b = some o → ((h.push (kdv_tup more)).push (excO C h.objs.size)).get? b = some o := fun b o z => Heap.get?_push_of_some _ (Heap.get?_push_of_some _ z)
  refine codeAny_of_tree ?_
  show wpAny _ _ (callAny (.ref C) _) _ _ _; repeat (any_goals (first | assumption | with_reducible refine wpAny_loadPart_at stands ?_ | wp_step))
  refine ⟨rfl, ?_⟩
  refine codeAny_call_builtin_at (Code.quiet_builtin _ (by decide +kernel)) entry_typeCall (wpAny_check_type_call_sub stands ?_)
  repeat (first | with_reducible refine wpAny_loadPart_at stands ?_ | with_reducible refine wpAny_madeBy_exc stands ?_ | wp_step)
  refine codeAny_call_builtin_code (Code.quiet_builtin _ PySem.F.excBase_LookupError.quiet) (key_check stands (key_new stands fits ?_))
  show wpAny _ _ _ _ _ _
  have hC1 := all _ _ stands
  have made : ((h.push (kdv_tup more)).push (excO C h.objs.size)).get? (h.objs.size + 1) = some (excO C h.objs.size) := by heap_get
  have own : (Value.ref C :: keyTail).contains (.ref C) = true := by simp
  have i1 := hi.keeps all
  have b1 := (hb (.ref (h.objs.size + 1))).keeps all
  unfold isInstance
  repeat (first | with_reducible refine wpAny_loadPart_at made ?_ | wp_step)
  show wpAny _ _ (isSubtype (.ref C) (.ref C)) _ _ ⟨(h.push (kdv_tup more)).push (excO C h.objs.size), g, d, t, os⟩
  refine wpAny_isSubtype_exc hC1 ?_
  rw [own]
  repeat wp_step
  show wpAny _ _ (typeLookup (.ref C) _) _ _ _; refine i1.at (wpAny_holding (wpAny_bind (b1.at (wpAny_bind (wpAny_call (codeAny_mono done fun r s' z => ?_))))))
  match r, z with
  | .error _, z => exact z
  | .ok .next, z => exact z.elim
  | .ok .brk, z => exact z.elim
  | .ok .cont, z => exact z.elim
  | .ok (.ret _), ⟨e1, z⟩ =>
    subst e1
    first | (wp_walk; exact z) | exact wpAny_pure (wpAny_pure z)
end
/-! ### x.name = v on such an error that has no dict yet -/
theorem key_passes (self : Value) : refuseLoop self "__setattr__" keyTail = pure () := by kernel_rfl
/-- what the written part holds of such a class -/
structure KeyC (K : Frag) (C : Addr) : Prop where
  cls : ∃ nm q N bs sn sub ab col dd k0 k1 k2 k3 k5, K.lookup C = some (keyObj nm q C N bs sn sub ab col dd k0 k1 k2 k3 k5)
  sa : findIn K (.ref C) "__setattr__" = some (some (.builtin "object.__setattr__"))
  exC : subIn K (.ref C) (.type "BaseException") = some true
  tyC : typeIn K (.ref C) = some (.type "type")
  kC : keepIn K (.ref C) = true
section
open Builtin.ObjectAttr Builtin
variable {mem : Heap} {g : Array GenState} {d : Drawn} {t : Nat} {os : OsState} {prog : Program} {w : World} {A : Around} {R : Result → Shared → Prop} {E : Value → Shared → Prop}
theorem key_osa {K : Frag} {name : Str} {tk : Tok} {v : Value} {x C : Addr} {fv : Array Value} (T : KeyC K C) (X : K.In mem) (hx : mem.get? x = some { cls := .ref C, data := .fields fv }) (no : findIn K (.ref C) name = some none)
    (done : ∀ (h' : Heap) (tk' : Nat) (dx : Addr), (∀ b o, b ≠ x → mem.get? b = some o → h'.get? b = some o) → mem.objs.size ≤ dx → dx ≠ x → h'.get? x = some { cls := .ref C, dict := some dx, data := .fields fv } → h'.Ns1 dx (fun y => if y = name then some v else none) → R (.ok (.ret .none)) ⟨h', g, d, tk', os⟩) : codeAny (model prog w) A (.call (.builtin "object.__setattr__") ⟨[.ref x, .str name tk, v], []⟩) R ⟨mem, g, d, t, os⟩ := by
  obtain ⟨nm, q, N, bs, sn, sub, ab, col, dd, k0, k1, k2, k3, k5, stands⟩ := T.cls
  have cd : clsIn K C = some { name := nm, bases := bs, mro := .ref C :: keyTail, ns := N, qualname := q, hasDict := true, slotNames := sn, subclasses := sub, abstract := ab, collection := col, hasDel := false } := by
    unfold clsIn
    rw [stands]
  have I : InstAt mem x { cls := .ref C, data := .fields fv } C none := ⟨hx, rfl, rfl, trivial⟩
  have SF := PySem.F.store_object -- the store
  have obj : (Value.ref C :: keyTail).contains (.type "object") = true := in_tail (by decide +kernel)
  have apart : x ≠ mem.objs.size := Nat.ne_of_lt (Heap.lt_size hx)
  have sub' : Looks (model prog w) mem (isInstance (.ref x) (.type "object")) true := I.type.andThen (looks_mroIn X (by
    unfold mroIn
    rw [cd, Option.bind_some]
    show (if (Value.ref C :: keyTail).isEmpty = true then none else some ((Value.ref C :: keyTail).contains (.type "object"))) = some true
    rw [obj]
    rfl))
  refine codeAny_call_builtin SF.slot.plain SF.entry (@check_slot (model prog w) _ _ ⟨mem, g, d, t, os⟩ "object.__setattr__" "object" "__setattr__" (.ref x) [.str name tk, v] [] _ SF.kind SF.split sub' (SF.args (.ref x) (.str name tk) v) ?_)
  have mro : Looks (model prog w) mem (mroOf (.ref C)) (.ref C :: keyTail) := (looks_clsIn X cd).andThen .now
  have taker : Looks (model prog w) mem (storeTaker? none) none := .now
  have data : Looks (model prog w) mem (classData C) _ := looks_clsIn X cd
  rw [osa_eq, refuse_eq]
  refine wpAny_bind (wpAny_bind (I.type.at (wpAny_bind (mro.at ?_))))
  rw [refuseLoop_ref, key_passes]
  refine wpAny_pure (wpAny_bind (I.type.at (wpAny_bind ((looks_findIn X no).at (wpAny_bind (taker.at ?_))))))
  show wpAny _ _ (storeInOwnDict (.ref x) (.ref C) (.str name tk) name v false) _ _ _; unfold storeInOwnDict ownDictForStores
  repeat (first
    | with_reducible refine store_in_new ?_ ?_
    | with_reducible refine wpAny_loadPart_at hx ?_
    | with_reducible refine data.at ?_
    | wp_step)
  · exact ⟨_, #[], _, (Heap.get?_update_ne _ _ _ _ apart.symm).trans (Heap.get?_push_at rfl rfl), rfl, fun e he => absurd he (by simp), fun _ => rfl⟩
  · intro h' tk' ns but
    have here := Heap.get?_push_of_some { cls := .type "dict", data := .dict #[] } hx
    refine done h' tk' mem.objs.size (fun b o ne ho => ?_) (Nat.le_refl _) apart.symm ((but.2 x apart).trans (Heap.get?_update_self _ here rfl)) ns
    exact (but.2 b (Nat.ne_of_lt (Heap.lt_size ho))).trans ((Heap.get?_update_ne _ _ _ _ ne).trans (Heap.get?_push_of_some _ ho))
end
end Kx
/-! NoState and NoDeed: raised with their one thing. -/
namespace PySem
namespace LowZ
open PySem.HandSPX PySem.W PySem.Calls PyProof.Rows
theorem one_fits (v : Value) : [v].length ≤ sizeLine := by
  rw [sizeLine_eq]
  exact (by decide : 1 ≤ 16777216)
theorem ld_here {M : Model} {s : Shared} {name : Str} {scope : Scope} {L a : Addr} {cd : Value} {m : Str → Option Value} {x : Str} {pos : Pos} {v : Value} {Q : Value → Shared → Prop} {A : Around} {E : Value → Shared → Prop} (hn : s.heap.Ns L m) (hv : m x = some v) (h : Q v s)
    (hk : scope.kind = .function := by rfl) (hl : (envOfC name scope L a cd).kindOf x = some .local := by rfl) (hd : (x == ("__debug__" : Str)) = false := by decide) : wpAny M A (eval (.Name x pos) (envOfC name scope L a cd)) Q E s := wpAny_Name (wpAny_loadName_local hk hl hn hv h) hd
end LowZ
end PySem

namespace Kx
namespace KS
open PySem PySem.W PySem.Calls PyProof.Rows PySem.HandSPX PySem.LowZ
/-! __init__(self, state): self.state = state -/
def tArgs (p1 p2 : Pos) : Arguments := { posonlyargs := [], args := [{ arg := "self", annotation := none, pos := p1 }, { arg := "state", annotation := none, pos := p2 }], vararg := none, kwonlyargs := [], kw_defaults := [], kwarg := none, defaults := [] }
def tBody (q1 q2 q3 q4 : Pos) : List Stmt := [.Assign [.Attribute (.Name "self" q1) "state" q2] (.Name "state" q3) q4]
def tScope : Scope := { kind := .function, names := [(Str.ofString "self", .local), (Str.ofString "state", .local)], isGenerator := false, isCoroutine := false, more := [] }
structure Txt (K : Frag) (C fI : Addr) (qual : Str) : Prop where
  key : KeyC K C
  no : findIn K (.ref C) "state" = some none
  ini : findIn K (.ref C) "__init__" = some (some (.ref fI))
  tyI : typeIn K (.ref fI) = some (.type "function")
  fn : ∃ (oc : Value) (od : Option Addr) (dV kV doc pm : Value) (an : Option Addr) (cdv ct : Value) (osl : Array (Option Value)) (p1 p2 q1 q2 q3 q4 : Pos),
    K.lookup fI = some ⟨oc, od, .func (fnOf "__init__" qual (tArgs p1 p2) (tBody q1 q2 q3 q4) tScope dV kV doc pm an cdv ct), osl⟩ ∧ codeIn K cdv qual = true ∧ dV = .none
/-- what a made one is -/
structure Made (h h' : Heap) (e C d : Addr) (v : Value) : Prop where
  keep : ∀ b o, h.get? b = some o → h'.get? b = some o
  new : h.objs.size ≤ e
  obj : ∃ oe vs, h'.get? e = some oe ∧ oe.cls = .ref C ∧ oe.dict = some d ∧ oe.data = .fields vs ∧ vs[1]? = some .none
  dbig : h.objs.size ≤ d
  dne : d ≠ e
  ns : h'.Ns1 d (fun y => if y = "state" then some v else none)
section
variable {prog : Program} {w : World} {A : Around} {R : Result → Shared → Prop} {s : Shared} {K : Frag} {C fI : Addr} {qual : Str}
theorem inits (T : Txt K C fI qual) {x t0 : Addr} {v : Value} (X : K.In s.heap) (lim : s.heap.NoLimit) (hx : s.heap.get? x = some (excO C t0)) (room : A.depth < recursionLimit)
    (done : ∀ (h' : Heap) (tk : Nat) (dx : Addr), (∀ b o, b ≠ x → s.heap.get? b = some o → h'.get? b = some o) → h'.get? x = some { cls := .ref C, dict := some dx, data := .fields #[.ref t0, .none, .none, .none, .bool false, .none] } → s.heap.objs.size ≤ dx → dx ≠ x →
      h'.Ns1 dx (fun y => if y = "state" then some v else none) → R (.ok (.ret .none)) { s with heap := h', toks := tk }) :
    codeAny (model prog w) A (.call (.ref fI) ⟨[.ref x, v], []⟩) R s := by
  obtain ⟨oc, od, dV, kV, doc, pm, an, cdv, ct, osl, p1, p2, q1, q2, q3, q4, lk, hcd, rfl⟩ := T.fn
  refine Att.call_fn (binds := [("self", .ref x), ("state", v)]) X lim lk hcd room (BindsTo.of_eq (by first | rfl | with_unfolding_all rfl)) (by first | rfl | decide | with_unfolding_all rfl) (fun s1 IC => ?_) rfl rfl rfl
  obtain ⟨h1, tk1, rfl⟩ := IC.toInCall.same
  have keep : ∀ b o, s.heap.get? b = some o → h1.get? b = some o := IC.toInCall.keep
  have ns := IC.toInCall.ns
  show wpAny _ _ (execs _ _) _ _ _
  refine wpAny_execs_cons (plainObj_wpAny_Assign_Attribute ?_)
  refine ld_here (v := v) ns (by first | rfl | with_unfolding_all rfl | kernel_rfl) (ld_here (v := .ref x) ns (by first | rfl | with_unfolding_all rfl | kernel_rfl) ?_)
  refine set_plain (X.keeps keep) (ox := excO C t0) (od := none) ⟨keep _ _ hx, rfl, rfl, trivial⟩ T.key.sa ?_
  refine key_osa T.key (X.keeps keep) (keep _ _ hx) T.no (fun h3 tk3 dx k3 dn dne hx3 hn3 => ?_)
  show wpAny _ _ (execs _ _) _ _ _
  have z : s.heap.objs.size < h1.objs.size := ns.lt
  exact wpAny_execs_nil (done h3 tk3 dx (fun b o hb e => k3 b o hb (keep b o e)) hx3 (Nat.le_of_lt (Nat.lt_of_lt_of_le z dn)) dne hn3)
theorem makes (T : Txt K C fI qual) {v : Value} (X : K.In s.heap) (lim : s.heap.NoLimit) (room : A.depth + 1 < recursionLimit)
    (done : ∀ h' tk e d, Made s.heap h' e C d v → R (.ok (.ret (.ref e))) { s with heap := h', toks := tk }) : codeAny (model prog w) A (.call (.ref C) ⟨[v], []⟩) R s := by
  obtain ⟨nm, q, N, bs, sn, sub, ab, col, dd, k0, k1, k2, k3, k5, hC⟩ := T.key.cls
  obtain ⟨hp, gs, dr, tk, os⟩ := s
  have keep : ∀ b o, hp.get? b = some o → ((hp.push (kdv_tup [v])).push (excO C hp.objs.size)).get? b = some o := fun b o e => Heap.get?_push_of_some _ (Heap.get?_push_of_some _ e)
  have here : ((hp.push (kdv_tup [v])).push (excO C hp.objs.size)).get? (hp.objs.size + 1) = some (excO C hp.objs.size) := by heap_get
  refine key_call (X _ _ hC) (looks_findIn X T.ini) (fun self => bind_fn X self T.tyI) (one_fits v) ?_
  refine inits (s := ⟨(hp.push (kdv_tup [v])).push (excO C hp.objs.size), gs, dr, tk, os⟩) T (X.keeps keep) (lim.keeps keep) here ?_ fun h' tk' dx k' hx dn dne hns => ?_
  · show A.depth + 1 < recursionLimit
    exact room
  · have old : ∀ b o, hp.get? b = some o → h'.get? b = some o := fun b o e => k' b o (Nat.ne_of_lt (Nat.lt_succ_of_lt (Heap.lt_size e))) (keep b o e)
    have z : hp.objs.size + 1 + 1 ≤ dx := by
      have q := dn
      simp only [Heap.size_push] at q
      exact q
    exact ⟨rfl, done h' tk' (hp.objs.size + 1) dx ⟨old, Nat.le_succ _, ⟨_, _, hx, rfl, rfl, rfl, rfl⟩, Nat.le_trans (Nat.le_trans (Nat.le_succ _) (Nat.le_succ _)) z, dne, hns⟩⟩
end
end KS
end Kx
namespace Kx
namespace KS
open L2 PySem PySem.Spec PyProof.Rows
theorem rel_one {v : V} {v' : Value} (r : RelV v v') (y : Str) : RelO (List.lookup y [(("state" : Str), v)]) (if y = "state" then some v' else none) := by
  rw [lookup_put]
  by_cases h : y = "state"
  · rw [if_pos h, if_pos h]
    exact r
  · rw [if_neg h, if_neg h]
    trivial
section
variable {X : Cx} {C fI : Addr} {qual x : Str}
/-- C(e) -/
def tMk (C : Addr) (ta : TA) : L2.St → Hp → XK → Prop := fun σ H Q => ta σ H fun vs H1 => ∃ v, vs = [v] ∧ ∀ d, H1 d = none → Q (.ref C) (some d) (upd H1 d (.xd [(("state" : Str), v)]))
theorem pmk {a : Expr} {ta : TA} {p pos : Pos} {k : Nat} (T : Txt X.K C fI qual) (at_ : X.mg x = some (.ref C)) (hr : Room k X.A) (ha : PA X [a] ta) (hg : Gl X x) (hdb : (x == ("__debug__" : Str)) = false)
    (he : starEach (a :: []) X.env = (false, eval a X.env) :: starEach [] X.env) (hpl : (backTo pos (starEach [] X.env)).any (·.1) = false) : PMk X (.Call (.Name x p) [a] [] pos) (tMk C ta) := by
  intro pins s σ H Q I h
  refine wpAny_Call_Name_kw (ld_glob I hg at_ ?_ hdb)
  refine PySem.W.callWith_K (h₀ := X.base) I.ok.mod.kin T.key.kC (thn (ha.run pos pins s σ H _ I h) fun us s1 hh => ?_) he hpl
  obtain ⟨vs, H1, I1, r1, v, ev, q1⟩ := hh
  subst ev
  refine ⟨I1.kIn, ?_⟩
  obtain ⟨v', rfl, rv⟩ := vals1 r1
  show wpAny _ _ (call (.ref C) [v']) _ _ _
  have lim := I1.nolimit
  obtain ⟨hp, gs, dr, tk, os⟩ := s1
  refine wpAny_call (makes T I1.kIn lim (by have := hr.dp; omega) fun h' tk' e d M => ?_)
  show MkP X pins σ Q (.ref e) ⟨h', gs, dr, tk', os⟩
  obtain ⟨oe, fv, hoe, hc, hd, hdat, h1⟩ := M.obj
  have hns := M.ns
  obtain ⟨G, g1, g2⟩ := restrict h' fun b => decide (b ≠ e)
  have gk : ∀ b, b ≠ e → G.get? b = h'.get? b := fun b hb => g1 b (decide_eq_true hb)
  have ge : G.get? e = none := g2 e (by simp)
  have old : ∀ b o, hp.get? b = some o → G.get? b = some o := fun b o q => (gk b (Nat.ne_of_lt (Nat.lt_of_lt_of_le (Heap.lt_size q) M.new))).trans (M.keep b o q)
  have ob : ObjOk X.prog X.w (upd H1 d (.xd [(("state" : Str), v)])) G d (.xd [(("state" : Str), v)]) := ⟨_, hns.at (fun o q => (gk d M.dne).trans q), fun y => rel_one rv y⟩
  have J : Inv X pins σ (upd H1 d (.xd [(("state" : Str), v)])) ⟨G, gs, dr, tk', os⟩ := I1.laid (t' := tk') old M.dbig ob
  refine ⟨e, oe, fv, ⟨G, gs, dr, tk', os⟩, _, .ref C, some d, rfl, J, fun b o q => ?_, ge, hoe, ⟨hc, hd⟩, hdat, h1, ?_, rfl, I1.bare, raises_own T.key.exC T.key.tyC, q1 d (I1.hok.fresh M.dbig)⟩
  · by_cases hb : b = e
    · have q' : G.get? b = some o := q
      rw [hb, ge] at q'
      cases q'
    · exact (gk b hb).symm.trans q
  · rw [upd_ne (Ne.symm M.dne)]
    exact I1.hok.fresh M.new
/-- raise C(e) -/
theorem ps_throw {a : Expr} {ta : TA} {W : WX} {p pos p2 : Pos} {k : Nat} (T : Txt X.K C fI qual) (at_ : X.mg x = some (.ref C)) (hc : X.calm = true) (hr : Room k X.A) (tk : Takes X W) (ha : PA X [a] ta) (hg : Gl X x := by rfl) (hdb : (x == ("__debug__" : Str)) = false := by decide)
    (he : starEach (a :: []) X.env = (false, eval a X.env) :: starEach [] X.env := by rfl) (hpl : (backTo pos (starEach [] X.env)).any (·.1) = false := by rfl) :
    PS X (.Raise (some (.Call (.Name x p) [a] [] pos)) none p2) (fun _ σ H => tMk C ta σ H fun cls d H' => W cls d σ H') := ps_raise hc tk (pmk T at_ hr ha hg hdb he hpl)
end
end KS
end Kx

namespace Kx
namespace KD
open PySem PySem.W PySem.Calls PyProof.Rows PySem.HandSPX PySem.LowZ
/-! __init__(self, deed): self.deed = deed -/
def tArgs (p1 p2 : Pos) : Arguments := { posonlyargs := [], args := [{ arg := "self", annotation := none, pos := p1 }, { arg := "deed", annotation := none, pos := p2 }], vararg := none, kwonlyargs := [], kw_defaults := [], kwarg := none, defaults := [] }
def tBody (q1 q2 q3 q4 : Pos) : List Stmt := [.Assign [.Attribute (.Name "self" q1) "deed" q2] (.Name "deed" q3) q4]
def tScope : Scope := { kind := .function, names := [(Str.ofString "self", .local), (Str.ofString "deed", .local)], isGenerator := false, isCoroutine := false, more := [] }
structure Txt (K : Frag) (C fI : Addr) (qual : Str) : Prop where
  key : KeyC K C
  no : findIn K (.ref C) "deed" = some none
  ini : findIn K (.ref C) "__init__" = some (some (.ref fI))
  tyI : typeIn K (.ref fI) = some (.type "function")
  fn : ∃ (oc : Value) (od : Option Addr) (dV kV doc pm : Value) (an : Option Addr) (cdv ct : Value) (osl : Array (Option Value)) (p1 p2 q1 q2 q3 q4 : Pos),
    K.lookup fI = some ⟨oc, od, .func (fnOf "__init__" qual (tArgs p1 p2) (tBody q1 q2 q3 q4) tScope dV kV doc pm an cdv ct), osl⟩ ∧ codeIn K cdv qual = true ∧ dV = .none
/-- what a made one is -/
structure Made (h h' : Heap) (e C d : Addr) (v : Value) : Prop where
  keep : ∀ b o, h.get? b = some o → h'.get? b = some o
  new : h.objs.size ≤ e
  obj : ∃ oe vs, h'.get? e = some oe ∧ oe.cls = .ref C ∧ oe.dict = some d ∧ oe.data = .fields vs ∧ vs[1]? = some .none
  dbig : h.objs.size ≤ d
  dne : d ≠ e
  ns : h'.Ns1 d (fun y => if y = "deed" then some v else none)
section
variable {prog : Program} {w : World} {A : Around} {R : Result → Shared → Prop} {s : Shared} {K : Frag} {C fI : Addr} {qual : Str}
theorem inits (T : Txt K C fI qual) {x t0 : Addr} {v : Value} (X : K.In s.heap) (lim : s.heap.NoLimit) (hx : s.heap.get? x = some (excO C t0)) (room : A.depth < recursionLimit)
    (done : ∀ (h' : Heap) (tk : Nat) (dx : Addr), (∀ b o, b ≠ x → s.heap.get? b = some o → h'.get? b = some o) → h'.get? x = some { cls := .ref C, dict := some dx, data := .fields #[.ref t0, .none, .none, .none, .bool false, .none] } → s.heap.objs.size ≤ dx → dx ≠ x →
      h'.Ns1 dx (fun y => if y = "deed" then some v else none) → R (.ok (.ret .none)) { s with heap := h', toks := tk }) :
    codeAny (model prog w) A (.call (.ref fI) ⟨[.ref x, v], []⟩) R s := by
  obtain ⟨oc, od, dV, kV, doc, pm, an, cdv, ct, osl, p1, p2, q1, q2, q3, q4, lk, hcd, rfl⟩ := T.fn
  refine Att.call_fn (binds := [("self", .ref x), ("deed", v)]) X lim lk hcd room (BindsTo.of_eq (by first | rfl | with_unfolding_all rfl)) (by first | rfl | decide | with_unfolding_all rfl) (fun s1 IC => ?_) rfl rfl rfl
  obtain ⟨h1, tk1, rfl⟩ := IC.toInCall.same
  have keep : ∀ b o, s.heap.get? b = some o → h1.get? b = some o := IC.toInCall.keep
  have ns := IC.toInCall.ns
  show wpAny _ _ (execs _ _) _ _ _
  refine wpAny_execs_cons (plainObj_wpAny_Assign_Attribute ?_)
  refine ld_here (v := v) ns (by first | rfl | with_unfolding_all rfl | kernel_rfl) (ld_here (v := .ref x) ns (by first | rfl | with_unfolding_all rfl | kernel_rfl) ?_)
  refine set_plain (X.keeps keep) (ox := excO C t0) (od := none) ⟨keep _ _ hx, rfl, rfl, trivial⟩ T.key.sa ?_
  refine key_osa T.key (X.keeps keep) (keep _ _ hx) T.no (fun h3 tk3 dx k3 dn dne hx3 hn3 => ?_)
  show wpAny _ _ (execs _ _) _ _ _
  have z : s.heap.objs.size < h1.objs.size := ns.lt
  exact wpAny_execs_nil (done h3 tk3 dx (fun b o hb e => k3 b o hb (keep b o e)) hx3 (Nat.le_of_lt (Nat.lt_of_lt_of_le z dn)) dne hn3)
theorem makes (T : Txt K C fI qual) {v : Value} (X : K.In s.heap) (lim : s.heap.NoLimit) (room : A.depth + 1 < recursionLimit)
    (done : ∀ h' tk e d, Made s.heap h' e C d v → R (.ok (.ret (.ref e))) { s with heap := h', toks := tk }) : codeAny (model prog w) A (.call (.ref C) ⟨[v], []⟩) R s := by
  obtain ⟨nm, q, N, bs, sn, sub, ab, col, dd, k0, k1, k2, k3, k5, hC⟩ := T.key.cls
  obtain ⟨hp, gs, dr, tk, os⟩ := s
  have keep : ∀ b o, hp.get? b = some o → ((hp.push (kdv_tup [v])).push (excO C hp.objs.size)).get? b = some o := fun b o e => Heap.get?_push_of_some _ (Heap.get?_push_of_some _ e)
  have here : ((hp.push (kdv_tup [v])).push (excO C hp.objs.size)).get? (hp.objs.size + 1) = some (excO C hp.objs.size) := by heap_get
  refine key_call (X _ _ hC) (looks_findIn X T.ini) (fun self => bind_fn X self T.tyI) (one_fits v) ?_
  refine inits (s := ⟨(hp.push (kdv_tup [v])).push (excO C hp.objs.size), gs, dr, tk, os⟩) T (X.keeps keep) (lim.keeps keep) here ?_ fun h' tk' dx k' hx dn dne hns => ?_
  · show A.depth + 1 < recursionLimit
    exact room
  · have old : ∀ b o, hp.get? b = some o → h'.get? b = some o := fun b o e => k' b o (Nat.ne_of_lt (Nat.lt_succ_of_lt (Heap.lt_size e))) (keep b o e)
    have z : hp.objs.size + 1 + 1 ≤ dx := by
      have q := dn
      simp only [Heap.size_push] at q
      exact q
    exact ⟨rfl, done h' tk' (hp.objs.size + 1) dx ⟨old, Nat.le_succ _, ⟨_, _, hx, rfl, rfl, rfl, rfl⟩, Nat.le_trans (Nat.le_trans (Nat.le_succ _) (Nat.le_succ _)) z, dne, hns⟩⟩
end
end KD
end Kx
namespace Kx
namespace KD
open L2 PySem PySem.Spec PyProof.Rows
theorem rel_one {v : V} {v' : Value} (r : RelV v v') (y : Str) : RelO (List.lookup y [(("deed" : Str), v)]) (if y = "deed" then some v' else none) := by
  rw [lookup_put]
  by_cases h : y = "deed"
  · rw [if_pos h, if_pos h]
    exact r
  · rw [if_neg h, if_neg h]
    trivial
section
variable {X : Cx} {C fI : Addr} {qual x : Str}
/-- C(e) -/
def tMk (C : Addr) (ta : TA) : L2.St → Hp → XK → Prop := fun σ H Q => ta σ H fun vs H1 => ∃ v, vs = [v] ∧ ∀ d, H1 d = none → Q (.ref C) (some d) (upd H1 d (.xd [(("deed" : Str), v)]))
theorem pmk {a : Expr} {ta : TA} {p pos : Pos} {k : Nat} (T : Txt X.K C fI qual) (at_ : X.mg x = some (.ref C)) (hr : Room k X.A) (ha : PA X [a] ta) (hg : Gl X x) (hdb : (x == ("__debug__" : Str)) = false)
    (he : starEach (a :: []) X.env = (false, eval a X.env) :: starEach [] X.env) (hpl : (backTo pos (starEach [] X.env)).any (·.1) = false) : PMk X (.Call (.Name x p) [a] [] pos) (tMk C ta) := by
  intro pins s σ H Q I h
  refine wpAny_Call_Name_kw (ld_glob I hg at_ ?_ hdb)
  refine PySem.W.callWith_K (h₀ := X.base) I.ok.mod.kin T.key.kC (thn (ha.run pos pins s σ H _ I h) fun us s1 hh => ?_) he hpl
  obtain ⟨vs, H1, I1, r1, v, ev, q1⟩ := hh
  subst ev
  refine ⟨I1.kIn, ?_⟩
  obtain ⟨v', rfl, rv⟩ := vals1 r1
  show wpAny _ _ (call (.ref C) [v']) _ _ _
  have lim := I1.nolimit
  obtain ⟨hp, gs, dr, tk, os⟩ := s1
  refine wpAny_call (makes T I1.kIn lim (by have := hr.dp; omega) fun h' tk' e d M => ?_)
  show MkP X pins σ Q (.ref e) ⟨h', gs, dr, tk', os⟩
  obtain ⟨oe, fv, hoe, hc, hd, hdat, h1⟩ := M.obj
  have hns := M.ns
  obtain ⟨G, g1, g2⟩ := restrict h' fun b => decide (b ≠ e)
  have gk : ∀ b, b ≠ e → G.get? b = h'.get? b := fun b hb => g1 b (decide_eq_true hb)
  have ge : G.get? e = none := g2 e (by simp)
  have old : ∀ b o, hp.get? b = some o → G.get? b = some o := fun b o q => (gk b (Nat.ne_of_lt (Nat.lt_of_lt_of_le (Heap.lt_size q) M.new))).trans (M.keep b o q)
  have ob : ObjOk X.prog X.w (upd H1 d (.xd [(("deed" : Str), v)])) G d (.xd [(("deed" : Str), v)]) := ⟨_, hns.at (fun o q => (gk d M.dne).trans q), fun y => rel_one rv y⟩
  have J : Inv X pins σ (upd H1 d (.xd [(("deed" : Str), v)])) ⟨G, gs, dr, tk', os⟩ := I1.laid (t' := tk') old M.dbig ob
  refine ⟨e, oe, fv, ⟨G, gs, dr, tk', os⟩, _, .ref C, some d, rfl, J, fun b o q => ?_, ge, hoe, ⟨hc, hd⟩, hdat, h1, ?_, rfl, I1.bare, raises_own T.key.exC T.key.tyC, q1 d (I1.hok.fresh M.dbig)⟩
  · by_cases hb : b = e
    · have q' : G.get? b = some o := q
      rw [hb, ge] at q'
      cases q'
    · exact (gk b hb).symm.trans q
  · rw [upd_ne (Ne.symm M.dne)]
    exact I1.hok.fresh M.new
/-- raise C(e) -/
theorem ps_throw {a : Expr} {ta : TA} {W : WX} {p pos p2 : Pos} {k : Nat} (T : Txt X.K C fI qual) (at_ : X.mg x = some (.ref C)) (hc : X.calm = true) (hr : Room k X.A) (tk : Takes X W) (ha : PA X [a] ta) (hg : Gl X x := by rfl) (hdb : (x == ("__debug__" : Str)) = false := by decide)
    (he : starEach (a :: []) X.env = (false, eval a X.env) :: starEach [] X.env := by rfl) (hpl : (backTo pos (starEach [] X.env)).any (·.1) = false := by rfl) :
    PS X (.Raise (some (.Call (.Name x p) [a] [] pos)) none p2) (fun _ σ H => tMk C ta σ H fun cls d H' => W cls d σ H') := ps_raise hc tk (pmk T at_ hr ha hg hdb he hpl)
end
end KD
end Kx
/-! tuples of the same things compared; isinstance of a caught error that has a field; "0" times a number; calls with keywords alone. -/
namespace Kx
open L2 PySem PySem.Spec PyProof.Rows
/-- two tuples that hold, place by place, the same flat thing or the same object -/
def rSame (K : PySem.W.Frag) (b : Bool) : R2 := fun x y H Q => ∃ (p q : Addr) (xs : List V), x = .ref p ∧ y = .ref q ∧ SqT K H p xs ∧ SqT K H q xs ∧ (∀ v ∈ xs, flatB v = true ∨ ∃ c, v = .ref c) ∧ Q (.bl b) H
theorem same_at {A : Around} {s : Shared} : ∀ {xs : List V} {us ws : List Value}, (∀ v ∈ xs, flatB v = true ∨ ∃ c, v = .ref c) → Vals xs us → Vals xs ws → ∀ j (h1 : j < us.length) (h2 : j < ws.length), SeqAt.EqAt A s us[j] ws[j] true
  | [], _, _, _, .nil, .nil, _, h1, _ => absurd h1 (Nat.not_lt_zero _)
  | x :: xs, _, _, f, .cons r1 k1, .cons r2 k2, 0, _, _ => by
    rcases f x List.mem_cons_self with h | ⟨c, rfl⟩
    · exact eqAt_same r1 r2 h
    · cases r1
      cases r2
      exact SeqAt.EqAt.same _
  | x :: xs, _, _, f, .cons r1 k1, .cons r2 k2, j + 1, h1, h2 => same_at (fun v hv => f v (List.mem_cons_of_mem _ hv)) k1 k2 j (Nat.lt_of_succ_lt_succ h1) (Nat.lt_of_succ_lt_succ h2)
theorem all_range (n : Nat) : ((List.range n).all fun _ => true) = true := List.all_eq_true.mpr fun _ _ => rfl
section
variable {X : Cx}
theorem op_eqSame (hu : X.A.units + 64 < cLine) : OpR X (compareOp .Eq) (rSame X.K true) := by
  intro pins st σ H x y v u Q I rx ry h
  obtain ⟨p, q, xs, rfl, rfl, h1, h2, f, k⟩ := h
  cases rx
  cases ry
  obtain ⟨us, r1, t1, _⟩ := I.tuple h1
  obtain ⟨ws, r2, t2, _⟩ := I.tuple h2
  have e : us.toArray.size = ws.toArray.size := by simp only [List.size_toArray]; rw [← r1.length, ← r2.length]
  refine SeqAt.RcAt.tuples (e := fun _ => true) t1 t2 (by omega) (fun j a1 a2 => ?_) _ _ _ _ ?_
  · simpa using same_at f r1 r2 j (by simpa using a1) (by simpa using a2)
  · rw [all_range, e, beq_self_eq_true]
    exact ⟨.bl true, H, I, rfl, k⟩
theorem op_neSame (hu : X.A.units + 64 < cLine) : OpR X (compareOp .NotEq) (rSame X.K false) := by
  intro pins st σ H x y v u Q I rx ry h
  obtain ⟨p, q, xs, rfl, rfl, h1, h2, f, k⟩ := h
  cases rx
  cases ry
  obtain ⟨us, r1, t1, _⟩ := I.tuple h1
  obtain ⟨ws, r2, t2, _⟩ := I.tuple h2
  have e : us.toArray.size = ws.toArray.size := by simp only [List.size_toArray]; rw [← r1.length, ← r2.length]
  refine SeqAt.RcNeAt.tuples (e := fun _ => true) t1 t2 (by omega) (fun j a1 a2 => ?_) _ _ _ _ ?_
  · simpa using same_at f r1 r2 j (by simpa using a1) (by simpa using a2)
  · rw [all_range, e, beq_self_eq_true]
    exact ⟨.bl false, H, I, rfl, k⟩
/-- isinstance(e, c), e the error that the suite holds, its own dict at d -/
theorem call_isEd {a D d : Addr} {oe : Obj} {pn : List (Addr × Obj)} (C : ExcC X.K D) (hz : Zc (.ref D) (some d) oe) (hf : ∃ vs, oe.data = .fields vs) :
    CallR (X.suite a ((a, oe) :: pn)) (.builtin "isinstance") (fun xs H Q => (∃ fs, H d = some (.xd fs)) ∧ rIsE X.K D a xs H Q) := by
  rintro pins s σ H xs us Q I r h
  obtain ⟨⟨fs, hd⟩, c, cv, b, rfl, hcv, e, q⟩ := h
  cases r with
  | cons rx rr =>
    cases rr with
    | cons rt rr =>
      cases rr
      cases rx
      have ec := hcv _ rt
      subst ec
      obtain ⟨hget, -⟩ := I.pin (a, oe) (List.mem_append.mpr (.inl List.mem_cons_self))
      obtain ⟨vs, hv⟩ := hf
      obtain ⟨mA, hns, _⟩ := (show ObjOk X.prog X.w H s.heap d (.xd fs) from I.hok d _ hd)
      obtain ⟨od, ho, _⟩ := lookIn_ns hns
      have J : PySem.W.InstAt s.heap a oe D (some od) := by
        obtain ⟨oc, od', oda, osl⟩ := oe
        obtain ⟨h1, h2⟩ := hz
        dsimp only at h1 h2 hv
        subst h1 h2 hv
        exact ⟨hget, rfl, rfl, ho⟩
      have cl : (PySem.W.clsIn X.K D).isSome = true := by
        obtain ⟨cd, hc, _⟩ := PySem.W.any_some C.hd
        rw [hc]
        rfl
      exact PySem.W.kia_one (PySem.W.kitx_exc cl C.hg C.hk C.hs C.ha C.hn C.ht C.hm) I.kIn J e (fun z => nomatch z) fun tk => ⟨.bl b, H, I.kept (t' := tk) fun _ _ z => z, rfl, q⟩
/-! ### "0" * k -/
def noughts : Nat → Str
  | 1 => "0"
  | 2 => "00"
  | 3 => "000"
  | _ => "0000"
theorem op_noughts : OpR X (binaryOp .Mult) (fun x y H Q => ∃ k : Nat, x = .str "0" ∧ y = .int (k : Int) ∧ 1 ≤ k ∧ k ≤ 4 ∧ Q (.str (noughts k)) H) := by
  intro pins st σ H x y v u Q I rx ry h
  obtain ⟨k, rfl, rfl, k1, k4, q⟩ := h
  obtain ⟨t, rfl⟩ := (show ∃ t, v = Value.str "0" t from rx)
  obtain ⟨t2, rfl⟩ := (show ∃ t, u = Value.int (k : Int) t from ry)
  have cases_ : k = 1 ∨ k = 2 ∨ k = 3 ∨ k = 4 := by omega
  have fin : ∀ (z : Str) (tk tk2 : Nat), z = noughts k → EP X pins σ Q (.str z tk) { st with toks := tk2 } := fun z tk tk2 e => by
    subst e
    exact ⟨.str (noughts k), H, I.kept (t' := tk2) fun _ _ z => z, ⟨tk, rfl⟩, q⟩
  refine P.mul_str ?_ ?_ ?_ ?_
  · rcases cases_ with rfl | rfl | rfl | rfl <;> decide +kernel
  · rcases cases_ with rfl | rfl | rfl | rfl <;> decide +kernel
  · rcases cases_ with rfl | rfl | rfl | rfl <;> decide +kernel
  · rcases cases_ with rfl | rfl | rfl | rfl
    · rw [if_neg (by decide), if_pos (by decide +kernel)]
      exact ⟨.str (noughts 1), H, I, ⟨t, rfl⟩, q⟩
    · rw [if_neg (by decide), if_neg (by decide +kernel)]
      exact ⟨by decide +kernel, fin _ _ _ (by decide +kernel)⟩
    · rw [if_neg (by decide), if_neg (by decide +kernel)]
      exact ⟨by decide +kernel, fin _ _ _ (by decide +kernel)⟩
    · rw [if_neg (by decide), if_neg (by decide +kernel)]
      exact ⟨by decide +kernel, fin _ _ _ (by decide +kernel)⟩
end
/-! ### calls with keywords -/
structure CalN (P : Program) (w : World) (K : PySem.W.Frag) (mg : Str → Option Value) (base : Heap) (CX : CXT) (k n : Nat) (x : Str) (ps ks : List Str) (gV : List V → List V → List V) (sp : Sp) : Prop where
  ex : ∃ (f : Addr) (fd : FuncData) (g : List Value → List Value → List Value), mg x = some (.ref f) ∧ PySem.W.keepIn K (.ref f) = true ∧ KBn K fd ps n ks g gV ∧ FnOk P w K mg base CX k f fd ps sp
section
variable {X : Cx} {CX : CXT} {k j n : Nat} {x : Str} {ps ks : List Str} {gV : List V → List V → List V} {sp : Sp} {e : Expr} {es : List Expr} {kws : List Keyword} {t tk : TA} {E : XK} {p pos : Pos}
theorem pe_callN0 (c : CalN X.prog X.w X.K X.mg X.base CX k 0 x ps ks gV sp) (hr : Room j X.A) (hx : Passes CX X E) (hkw : PK X kws tk) (hk : k ≤ j := by decide) (hg : Gl X x := by rfl)
    (hal : (backToKw pos (keywordEach kws X.env)).all (·.1.isSome) = true := by rfl) (hky : (backToKw pos (keywordEach kws X.env)).filterMap (·.1) = ks := by rfl) (hdb : (x == ("__debug__" : Str)) = false := by decide)
    (hnp : ((backTo pos (starEach [] X.env)).any (·.1) || (backToKw pos (keywordEach kws X.env)).any (·.1.isNone)) = false := by rfl) :
    PE X (.Call (.Name x p) [] kws pos) (tCallN 0 ks.length sp gV E tNil tk) := by
  obtain ⟨f, fd, g, h1, h2, h3, h4⟩ := c.ex
  refine ⟨fun pins s σ H Q I h => wpAny_Call_Name_kw (ld_glob I hg h1 ?_ hdb)⟩
  refine PySem.W.callWith_KW0 (h₀ := X.base) I.ok.mod.kin h2 hal ?_ hnp
  refine thn (hkw.run pos pins s σ H _ I h) fun ws s2 ⟨zs, H2, I2, rz, _, l2, q2⟩ => ⟨I2.kIn, ?_⟩
  rw [hky]
  exact run_fnN (us := []) (vs := []) h4 (hr.mono hk) h3 hx I2 .nil rz rfl l2 q2
theorem pe_callNn (c : CalN X.prog X.w X.K X.mg X.base CX k n x ps ks gV sp) (hr : Room j X.A) (hx : Passes CX X E) (ha : PA X (e :: es) t) (hkw : PK X kws tk) (hk : k ≤ j := by decide) (hg : Gl X x := by rfl)
    (hal : (backToKw pos (keywordEach kws X.env)).all (·.1.isSome) = true := by rfl) (hky : (backToKw pos (keywordEach kws X.env)).filterMap (·.1) = ks := by rfl) (hdb : (x == ("__debug__" : Str)) = false := by decide)
    (he : starEach (e :: es) X.env = (false, eval e X.env) :: starEach es X.env := by rfl)
    (hnp : ((backTo pos (starEach (e :: es) X.env)).any (·.1) || (backToKw pos (keywordEach kws X.env)).any (·.1.isNone)) = false := by rfl) : PE X (.Call (.Name x p) (e :: es) kws pos) (tCallN n ks.length sp gV E t tk) := by
  obtain ⟨f, fd, g, h1, h2, h3, h4⟩ := c.ex
  exact pe_callN h4 (hr.mono hk) hg h1 h2 h3 hx ha hkw hal hky hdb he hnp
end
end Kx
/-! exceptions held as values: their class asked, their fields read. -/
namespace Kx
open L2 PySem PySem.Spec PyProof.Rows
/-- an exception stands at a: its class C, its dict at d -/
def IsEv (a C d : Addr) (h : Heap) : Prop := ∃ (ob : Obj) (ws : Array Value), h.get? a = some ob ∧ Zc (.ref C) (some d) ob ∧ ob.data = .fields ws
structure EvAt (H : Hp) (a C d : Addr) (fs : List (Str × V)) : Prop where
  ob : ∃ φ : Heap → Prop, H a = some (.ext φ) ∧ ∀ h, φ h → IsEv a C d h
  di : H d = some (.xd fs) ∨ H d = some (exd d fs)
theorem EvAt.same {H H' : Hp} {a C d : Addr} {fs : List (Str × V)} (e : Same H H') (h : EvAt H a C d fs) : EvAt H' a C d fs := by
  obtain ⟨⟨φ, h1, h2⟩, h3⟩ := h
  exact ⟨⟨φ, e _ _ h1, h2⟩, h3.imp (e _ _) (e _ _)⟩
theorem exo_ev {H : Hp} {a C d : Addr} {fs : List (Str × V)} (h1 : H a = some (exo a C (some d))) (h2 : H d = some (exd d fs)) : EvAt H a C d fs :=
  ⟨⟨_, h1, fun h ⟨t, q⟩ => ⟨_, _, q, ⟨rfl, rfl⟩, rfl⟩⟩, .inr h2⟩
section
variable {X : Cx} {pins : List (Addr × Obj)} {σ : L2.St} {H : Hp} {s : Shared} {a C d : Addr} {fs : List (Str × V)}
theorem EvAt.there (E : EvAt H a C d fs) (I : Inv X pins σ H s) : IsEv a C d s.heap ∧ ∃ mA, s.heap.Ns1 d mA ∧ ∀ f, RelO (fs.lookup f) (mA f) := by
  obtain ⟨⟨φ, h1, h2⟩, h3⟩ := E
  refine ⟨h2 _ (show ObjOk X.prog X.w H s.heap a (.ext φ) from I.hok a _ h1).1, ?_⟩
  rcases h3 with h3 | h3
  · obtain ⟨mA, z, r⟩ := (show ObjOk X.prog X.w H s.heap d (.xd fs) from I.hok d _ h3)
    exact ⟨mA, z, r⟩
  · exact exd_at I.hok h3
end
/-- isinstance(e, c) of such a value -/
def rIsV (K : PySem.W.Frag) : List V → Hp → VK → Prop := fun xs H Q => ∃ (a D d : Addr) (fs : List (Str × V)) (c : V) (cv : Value) (b : Bool), xs = [.ref a, c] ∧ EvAt H a D d fs ∧ ExcC K D ∧ (∀ u, RelV c u → u = cv) ∧ PySem.W.kitOne K (.ref D) cv = some b ∧ Q (.bl b) H
theorem call_isV {X : Cx} : CallR X (.builtin "isinstance") (rIsV X.K) := by
  rintro pins s σ H xs us Q I r ⟨a, D, d, fs, c, cv, b, rfl, E, C, hcv, e, q⟩
  obtain ⟨⟨ob, ws, h1, h2, h3⟩, mA, hns, _⟩ := E.there I
  cases r with
  | cons rx rr =>
    cases rr with
    | cons rt rr =>
      cases rr
      cases rx
      obtain rfl := hcv _ rt
      obtain ⟨od, ho, _⟩ := lookIn_ns hns
      have J : PySem.W.InstAt s.heap a ob D (some od) := by
        obtain ⟨c1, c2, c3, c4⟩ := ob
        obtain ⟨z1, z2⟩ := h2
        dsimp only at z1 z2 h3
        subst z1 z2 h3
        exact ⟨h1, rfl, rfl, ho⟩
      have cl : (PySem.W.clsIn X.K D).isSome = true := by
        obtain ⟨cd, hc, _⟩ := PySem.W.any_some C.hd
        rw [hc]
        rfl
      exact PySem.W.kia_one (PySem.W.kitx_exc cl C.hg C.hk C.hs C.ha C.hn C.ht C.hm) I.kIn J e (fun z => nomatch z) fun tk => ⟨.bl b, H, I.kept (t' := tk) fun _ _ z => z, rfl, q⟩
/-- e.f of such a value -/
def tEv (K : PySem.W.Frag) (f : Str) (te : TE) : TE := fun σ H Q => te σ H fun x H1 => ∃ (a D d : Addr) (fs : List (Str × V)) (v : V), x = .ref a ∧ EvAt H1 a D d fs ∧ XfC K D ∧ PySem.W.findIn K (.ref D) f = some none ∧ fs.lookup f = some v ∧ Q v H1
theorem pe_ev {X : Cx} {e : Expr} {te : TE} {pos : Pos} {n : Str} (he : PE X e te) (hb : attributeBase e n X.env (eval e X.env) = eval e X.env := by rfl) : PE X (.Attribute e n pos) (tEv X.K n te) := by
  refine ⟨fun pins s σ H Q I h => attr_of hb (thn (he.run pins s σ H _ I h) fun u s1 hh => ?_)⟩
  obtain ⟨x, H1, I1, rx, a, D, d, fs, v, rfl, E, T, no, l, q⟩ := hh
  obtain rfl := (show u = Value.ref a from rx)
  obtain ⟨⟨ob, ws, h1, h2, h3⟩, mA, hns, hr⟩ := E.there I1
  obtain ⟨od, hod, hlk⟩ := lookIn_ns hns
  obtain ⟨u, hu, ru⟩ := RelO.some_of (v := v) (o := mA n) (l ▸ hr n)
  have J : PySem.W.InstAt s1.heap a ob D (some od) := ⟨h1, h2.1, by unfold PySem.W.notCls; rw [h3] <;> rfl, by rw [h2.2]; exact hod⟩
  exact HandSPX.exc_get I1.kIn J T.ga T.gg T.exC (PySem.W.findObj_own T.hdC no rfl (by rw [hlk, hu])) (handed_of ru) ⟨v, H1, I1.tok _, ru, q⟩
end Kx
/-! own exceptions are made: by place, by name. -/
namespace Kx
open PySem PySem.W PySem.Calls PyProof.Rows PySem.HandSPX
/-- what the written part holds of such a class -/
structure EvC (K : Frag) (C : Addr) : Prop where
  cls : ∃ (B newId initId : String) (up : List Value) (nm q : Str) (N : Addr) (bs bm : List Value) (sn : List Str) (sub : List Value) (ab : Bool) (col : Option Bool) (dd : Option Addr) (k0 k1 k2 k3 k5 : Option Value),
    ExcBaseFacts B newId initId up ∧ K.lookup C = some (excClassObj nm q C N bs bm true sn sub ab col dd k0 k1 k2 k3 k5 newId) ∧ (Value.ref C :: bm).contains (.type B) = true ∧ (Value.ref C :: bm).contains (.type "AttributeError") = false ∧ (Value.ref C :: bm).contains (.type "NameError") = false
  exC : subIn K (.ref C) (.type "BaseException") = some true
  tyC : typeIn K (.ref C) = some (.type "type")
  kC : keepIn K (.ref C) = true
section
variable {h : Heap} {g : Array GenState} {d : Drawn} {t : Nat} {os : OsState} {prog : Program} {w : World} {A : Around} {R : Result → Shared → Prop} {E : Value → Shared → Prop}
variable {B newId initId : String} {up : List Value} {nm q : Str} {C N : Addr} {bs bm : List Value} {sn : List Str} {sub : List Value} {ab : Bool} {col : Option Bool} {dd : Option Addr} {k0 k1 k2 k3 k5 : Option Value} {more : List Value} {kw : List (Str × Value)}
theorem ev_check {M : Model} {Q : Unit → Shared → Prop} (F : ExcBaseFacts B newId initId up) (stands : h.get? C = some (excClassObj nm q C N bs bm true sn sub ab col dd k0 k1 k2 k3 k5 newId)) (isB : (Value.ref C :: bm).contains (.type B) = true) (done : Q () ⟨h, g, d, t, os⟩) :
    wpAny M A (checkBuiltinCall newId ⟨.ref C :: more, kw⟩) Q E ⟨h, g, d, t, os⟩ := by
  have short := F.noStar
  simp only [checkBuiltinCall, F.newSplit, F.newKind, F.newRow]
  repeat (first
    | refine wpAny_loadPart_at stands ?_
    | (refine wpAny_isSubtype_exc stands ?_; rw [isB])
    | refine wpAny_staticBase_exc stands ?_
    | refine wpAny_madeBy_exc stands ?_
    | simp only [bne_self_eq_false, Bool.false_eq_true, if_false]
    | wp_step)
  exact done
theorem ev_new (F : ExcBaseFacts B newId initId up) (stands : h.get? C = some (excClassObj nm q C N bs bm true sn sub ab col dd k0 k1 k2 k3 k5 newId)) (isB : (Value.ref C :: bm).contains (.type B) = true) (noA : (Value.ref C :: bm).contains (.type "AttributeError") = false) (noN : (Value.ref C :: bm).contains (.type "NameError") = false)
    (fits : more.length ≤ sizeLine) (done : R (.ok (.ret (.ref (h.objs.size + 1)))) ⟨(h.push (kdv_tup more)).push (excO C h.objs.size), g, d, t, os⟩) : codeAny (model prog w) A (.builtin newId ⟨.ref C :: more, kw⟩) R ⟨h, g, d, t, os⟩ := by
  have ends := F.ends
  refine codeAny_builtinAt F.entry ?_; unfold Builtin.«BaseException.__new__»; refine PySem.wpAt_bind ?_
  show PySem.wpAt _ _ _ (stack >>= _) _ _ _
  refine PySem.wpAt_bind (PySem.wpAt_stack fun _ _ => PySem.wpAt_of_wpAny ?_)
  wp_walk
  refine PySem.wpAt_of_wpAny ?_
  rw [F.owner]
  repeat (first
    | with_reducible refine wpAny_madeHere_exc F.canon stands ?_
    | with_reducible refine wpAny_loadPart_at stands ?_
    | (with_reducible refine wpAny_isSubtype_exc stands ?_; first | rw [isB] | rw [noA] | rw [noN])
    | wp_step)
  show R _ _
  rw [Heap.size_push]
  exact done
theorem ev_called {fI : Addr} (F : ExcBaseFacts B newId initId up) (stands : h.get? C = some (excClassObj nm q C N bs bm true sn sub ab col dd k0 k1 k2 k3 k5 newId)) (isB : (Value.ref C :: bm).contains (.type B) = true) (noA : (Value.ref C :: bm).contains (.type "AttributeError") = false) (noN : (Value.ref C :: bm).contains (.type "NameError") = false)
    (hi : Looks (model prog w) h (typeLookup (.ref C) "__init__") (some (.ref fI))) (hb : ∀ self, Looks (model prog w) h (bindSpecial (.ref fI) self) (.ref fI, [self])) (fits : more.length ≤ sizeLine)
    (done : codeAny (model prog w) (A.under (.builtin "type.__call__" ⟨.ref C :: more, kw⟩)) (.call (.ref fI) ⟨.ref (h.objs.size + 1) :: more, kw⟩) (InitBack (h.objs.size + 1) R) ⟨(h.push (kdv_tup more)).push (excO C h.objs.size), g, d, t, os⟩) :
    codeAny (model prog w) A (.call (.ref C) ⟨more, kw⟩) R ⟨h, g, d, t, os⟩ := by
  have l1 := tc_lookup
  have l2 := tc_bind (.ref C)
  have isTy : (⟨h, g, d, t, os⟩ : Shared).TypeIs (.ref C) "type" := ⟨_, stands, rfl⟩
  have all : ∀ b o, h.get? b = some o → ((h.push (kdv_tup more)).push (excO C h.objs.size)).get? b = some o := fun b o z => Heap.get?_push_of_some _ (Heap.get?_push_of_some _ z)
  refine codeAny_of_tree ?_
  show wpAny _ _ (callAny (.ref C) _) _ _ _; repeat (any_goals (first | assumption | with_reducible refine wpAny_loadPart_at stands ?_ | wp_step))
  refine ⟨rfl, ?_⟩
  refine codeAny_call_builtin_at (Code.quiet_builtin _ (by decide +kernel)) entry_typeCall (wpAny_check_type_call_sub stands ?_)
  repeat (first | with_reducible refine wpAny_loadPart_at stands ?_ | with_reducible refine wpAny_madeBy_exc stands ?_ | wp_step)
  refine codeAny_call_builtin_code (Code.quiet_builtin _ F.quiet) (ev_check F stands isB (ev_new F stands isB noA noN fits ?_))
  show wpAny _ _ _ _ _ _
  have hC1 := all _ _ stands
  have made : ((h.push (kdv_tup more)).push (excO C h.objs.size)).get? (h.objs.size + 1) = some (excO C h.objs.size) := by heap_get
  have own : (Value.ref C :: bm).contains (.ref C) = true := by simp
  have i1 := hi.keeps all
  have b1 := (hb (.ref (h.objs.size + 1))).keeps all
  unfold isInstance
  repeat (first | with_reducible refine wpAny_loadPart_at made ?_ | wp_step)
  show wpAny _ _ (isSubtype (.ref C) (.ref C)) _ _ ⟨(h.push (kdv_tup more)).push (excO C h.objs.size), g, d, t, os⟩
  refine wpAny_isSubtype_exc hC1 ?_
  rw [own]
  repeat wp_step
  show wpAny _ _ (typeLookup (.ref C) _) _ _ _; refine i1.at (wpAny_holding (wpAny_bind (b1.at (wpAny_bind (wpAny_call (codeAny_mono done fun r s' z => ?_))))))
  match r, z with
  | .error _, z => exact z
  | .ok .next, z => exact z.elim
  | .ok .brk, z => exact z.elim
  | .ok .cont, z => exact z.elim
  | .ok (.ret _), ⟨e1, z⟩ =>
    subst e1
    first | (wp_walk; exact z) | exact wpAny_pure (wpAny_pure z)
end
end Kx
/-! own exceptions as values; raised, their context None. -/
namespace Kx
open L2 PySem PySem.Spec PyProof.Rows
theorem EvC.of {K : PySem.W.Frag} {C : Addr} (T : OexC K C) : EvC K C := by
  obtain ⟨nm, q, N, bs, bm, sn, sub, ab, col, dd, v0, v1, v2, v3, v5, hC, hbm⟩ := T.cls
  have has := fun Y => PySem.HandSPX.refsVE_contains Y bm hbm
  refine ⟨⟨_, _, _, _, nm, q, N, bs, bm, sn, sub, ab, col, dd, v0, v1, v2, v3, v5, F.excBase_ValueError, hC, ?_, ?_, ?_⟩, T.exC, T.tyC, T.kC⟩
  · rw [List.contains_cons, has, F.excBase_ValueError.hasB, Bool.or_true]
  · rw [List.contains_cons, has, F.excBase_ValueError.noAttr]
    rfl
  · rw [List.contains_cons, has, F.excBase_ValueError.noName]
    rfl
theorem EvC.ofKey {K : PySem.W.Frag} {C : Addr} (T : KeyC K C) : EvC K C := by
  obtain ⟨nm, q, N, bs, sn, sub, ab, col, dd, k0, k1, k2, k3, k5, hC⟩ := T.cls
  exact ⟨⟨_, _, _, _, nm, q, N, bs, keyTail, sn, sub, ab, col, dd, k0, k1, k2, k3, k5, F.excBase_LookupError, hC, in_tail (by decide +kernel), in_tail (by decide +kernel), in_tail (by decide +kernel)⟩, T.exC, T.tyC, T.kC⟩
/-- what a made one leaves: the state at the init's start, the init's end -/
def Born (X : Cx) (pins : List (Addr × Obj)) (σ : L2.St) (H : Hp) (C : Addr) (G : Addr → Hp → Prop) (s : Shared) (u : Value) (s' : Shared) : Prop :=
  ∃ (a : Addr) (h2 : Heap), u = .ref a ∧ s.heap.objs.size ≤ a ∧ H a = none ∧ (∀ b o, s.heap.get? b = some o → h2.get? b = some o) ∧ Inv X pins σ (upd H a (exo a C none)) { s with heap := h2 } ∧
    ∃ v, CE X.stack X.prog X.w (upd H a (exo a C none)) { s with heap := h2 } (fun y H2 => y = .non ∧ G a H2) v s'
section
variable {X : Cx} {pins : List (Addr × Obj)} {σ : L2.St} {H : Hp} {s : Shared} {C fI : Addr} {fd : FuncData} {ps ks : List Str} {sp : Sp} {k : Nat} {G : Addr → Hp → Prop}
theorem ev_run {us ws us2 : List Value} {vs2 : List V} (T : EvC X.K C) (iC : PySem.W.findIn X.K (.ref C) "__init__" = some (some (.ref fI))) (tI : PySem.W.typeIn X.K (.ref fI) = some (.type "function")) (F1 : FnOk X.prog X.w X.K X.mg X.base CX0 k fI fd ps sp) (hr : Room (k + 1) X.A) (I : Inv X pins σ H s)
    (hb : ∀ (s' : Shared) (a : Addr), X.K.In s'.heap → BindsTo s' fd ⟨.ref a :: us, ks.zip ws⟩ (ps.zip (.ref a :: us2))) (rel : Vals vs2 us2) (fits : us.length ≤ sizeLine)
    (h : ∀ a, H a = none → sp (.ref a :: vs2) (upd H a (exo a C none)) (fun y H2 => y = .non ∧ G a H2) (fun _ _ _ => False)) :
    wpAny (model X.prog X.w) X.A (call (.ref C) us (ks.zip ws)) (Born X pins σ H C G s) X.xe s := by
  obtain ⟨B, newId, initId, up, nm, q, N, bs, bm, sn, sub, ab, col, dd, k0, k1, k2, k3, k5, F, hC, isB, noA, noN⟩ := T.cls
  obtain ⟨hp, g, dr, tk, os⟩ := (s : Shared)
  have more : hp.objs.size ≤ hp.objs.size + 1 := Nat.le_succ _
  have hn : H (hp.objs.size + 1) = none := I.hok.fresh more
  have all : ∀ b o, hp.get? b = some o → ((hp.push (PySem.W.kdv_tup us)).push (PySem.HandSPX.excO C hp.objs.size)).get? b = some o := fun b o z => Heap.get?_push_of_some _ (Heap.get?_push_of_some _ z)
  have here : ((hp.push (PySem.W.kdv_tup us)).push (PySem.HandSPX.excO C hp.objs.size)).get? (hp.objs.size + 1) = some (PySem.HandSPX.excO C hp.objs.size) := by heap_get
  have J : Inv X pins σ (upd H (hp.objs.size + 1) (exo (hp.objs.size + 1) C none)) ⟨(hp.push (PySem.W.kdv_tup us)).push (PySem.HandSPX.excO C hp.objs.size), g, dr, tk, os⟩ :=
    I.laid (t' := tk) all more (exo_ok here)
  refine wpAny_call (ev_called F (I.kIn _ _ hC) isB noA noN (PySem.W.looks_findIn I.kIn iC) (fun self => PySem.W.bind_fn I.kIn self tI) fits
    (codeAny_mono (F1.run _ X.stack _ _ ⟨Value.ref (hp.objs.size + 1) :: us, ks.zip ws⟩ (Value.ref (hp.objs.size + 1) :: us2) _ _ (fun _ _ _ => False) (hr.make C us (ks.zip ws)) (J.env0.make C us (ks.zip ws)) (hb _ _ J.kIn) (show Vals (V.ref (hp.objs.size + 1) :: vs2) (Value.ref (hp.objs.size + 1) :: us2) from .cons rfl rel) (h _ hn)) fun r s' z => ?_))
  match r, z with
  | .error _, z => exact z.elim
  | .ok .next, z => exact z.elim
  | .ok .brk, z => exact z.elim
  | .ok .cont, z => exact z.elim
  | .ok (.ret u), z =>
    have rv : u = Value.none := by
      obtain ⟨v, H2, _, _, _, _, r, e, _⟩ := z
      subst e
      exact r
    exact ⟨rv, _, _, rfl, more, hn, all, J, _, z⟩
theorem Born.value {Q : VK} {u : Value} {s' : Shared} (b : Born X pins σ H C (fun a H2 => Q (.ref a) H2) s u s') : EP X pins σ Q u s' := by
  obtain ⟨a, h2, rfl, _, _, _, J, v, ce⟩ := b
  obtain ⟨y, H2, J2, _, _, q⟩ := J.after ce
  exact ⟨.ref a, H2, J2, rfl, q⟩
theorem Born.raised {Q : XK} {u : Value} {s' : Shared} (T : EvC X.K C) (I : Inv X pins σ H s)
    (b : Born X pins σ H C (fun a H2 => ∃ (d : Addr) (fs : List (Str × V)), H2 a = some (exo a C (some d)) ∧ H2 d = some (exd d fs) ∧ H d = none ∧ Q (.ref C) (some d) (upd (del H2 a) d (.xd fs))) s u s') : L2N.MkP X pins σ Q u s' := by
  obtain ⟨a, h2, rfl, ha, hn, all, J, v, ce⟩ := b
  obtain ⟨y, H2, os2, bare2, un2, hok2, rv, ev, d, fs, ea, ed, hd1, q⟩ := ce
  obtain ⟨hp, gz, dr, tk, os⟩ := s
  obtain ⟨h3, g3, d3, t3, os3⟩ := s'
  obtain ⟨t0, G, J2, kG, ge, hoe, na⟩ := mk_end0 (d2 := d3) (t2 := t3) I ha all un2 hok2 os2 bare2 ea ed hd1
  refine ⟨a, _, _, ⟨G, g3, d3, t3, os3⟩, _, .ref C, some d, rfl, J2, kG, ge, hoe, ⟨rfl, rfl, fun ws hw => ?_⟩, rfl, rfl, na, rfl, bare2, raises_own T.exC T.tyC, q⟩
  cases hw
  rfl
end
/-- C(e, ..): what the init is asked -/
def tBorn (C : Addr) (sp : Sp) (ta : TA) (P : Hp → Addr → Hp → (V → Hp → Prop) → Prop) : TE := fun σ H Q => ta σ H fun vs H1 => vs.length ≤ 1000 ∧ ∀ a, H1 a = none → sp (.ref a :: vs) (upd H1 a (exo a C none)) (fun y H2 => y = .non ∧ P H1 a H2 Q) (fun _ _ _ => False)
/-- C(e, ..) as a value -/
def tMkV (C : Addr) (sp : Sp) (ta : TA) : TE := fun σ H Q => ta σ H fun vs H1 => vs.length ≤ 1000 ∧ ∀ a, H1 a = none → sp (.ref a :: vs) (upd H1 a (exo a C none)) (fun y H2 => y = .non ∧ Q (.ref a) H2) (fun _ _ _ => False)
/-- C(k = e, ..) as a value -/
def tMkVK (C : Addr) (m : Nat) (sp : Sp) (gV : List V → List V) (tk : TA) : TE := fun σ H Q => tk σ H fun zs H1 => zs.length = m ∧ ∀ a, H1 a = none → sp (.ref a :: gV zs) (upd H1 a (exo a C none)) (fun y H2 => y = .non ∧ Q (.ref a) H2) (fun _ _ _ => False)
/-- C(e, ..), to be raised -/
def tMkN (C : Addr) (sp : Sp) (ta : TA) : L2.St → Hp → XK → Prop := fun σ H Q => ta σ H fun vs H1 => vs.length ≤ 1000 ∧ ∀ a, H1 a = none → sp (.ref a :: vs) (upd H1 a (exo a C none))
  (fun y H2 => y = .non ∧ ∃ (d : Addr) (fs : List (Str × V)), H2 a = some (exo a C (some d)) ∧ H2 d = some (exd d fs) ∧ H1 d = none ∧ Q (.ref C) (some d) (upd (del H2 a) d (.xd fs))) (fun _ _ _ => False)
section
variable {X : Cx} {C fI : Addr} {fd : FuncData} {ps ks : List Str} {sp : Sp} {k : Nat} {x : Str} {e : Expr} {es : List Expr} {kws : List Keyword} {ta tk : TA} {p pos : Pos}
theorem fits_of {vs : List V} {us : List Value} (r : Vals vs us) (h : vs.length ≤ 1000) : us.length ≤ sizeLine := by
  rw [← Paired.length r, sizeLine_eq]
  omega
theorem binds_all (hb : Binds X.K fd ps []) {us : List Value} (n : us.length + 1 = ps.length) (s' : Shared) (a : Addr) (z : X.K.In s'.heap) : BindsTo s' fd ⟨.ref a :: us, ([] : List Str).zip ([] : List Value)⟩ (ps.zip (.ref a :: us)) := by
  have b := hb s' (.ref a :: us) z (by rw [List.append_nil]; exact n)
  rw [List.append_nil] at b
  exact b
theorem pe_mkV (T : EvC X.K C) (iC : PySem.W.findIn X.K (.ref C) "__init__" = some (some (.ref fI))) (tI : PySem.W.typeIn X.K (.ref fI) = some (.type "function")) (F1 : FnOk X.prog X.w X.K X.mg X.base CX0 k fI fd ps sp) (hr : Room (k + 1) X.A) (hb : Binds X.K fd ps []) (hm : X.mg x = some (.ref C)) (ha : PA X (e :: es) ta) (hg : Gl X x := by rfl)
    (hdb : (x == ("__debug__" : Str)) = false := by decide) (he : starEach (e :: es) X.env = (false, eval e X.env) :: starEach es X.env := by rfl) (hpl : (backTo pos (starEach es X.env)).any (·.1) = false := by rfl) : PE X (.Call (.Name x p) (e :: es) [] pos) (tMkV C sp ta) := by
  refine ⟨fun pins s σ H Q I h => wpAny_Call_Name_kw (ld_glob I hg hm ?_ hdb)⟩
  refine PySem.W.callWith_K (h₀ := X.base) I.ok.mod.kin T.kC (thn (ha.run pos pins s σ H _ I h) fun us s1 ⟨vs, H1, I1, r1, hz, q⟩ => ⟨I1.kIn, ?_⟩) he hpl
  have n : us.length + 1 = ps.length := by
    have l1 := F1.len _ _ _ _ (q s1.heap.objs.size (I1.hok.fresh (Nat.le_refl _)))
    have l2 := Paired.length r1
    rw [List.length_cons] at l1
    omega
  exact wpAny_mono (ev_run (ks := []) (ws := []) (G := fun a H2 => Q (.ref a) H2) T iC tI F1 hr I1 (binds_all hb n) r1 (fits_of r1 hz) q) (fun _ _ z => z.value) fun _ _ z => z
theorem pe_mkVK {g : List Value → List Value} {gV : List V → List V} (T : EvC X.K C) (iC : PySem.W.findIn X.K (.ref C) "__init__" = some (some (.ref fI))) (tI : PySem.W.typeIn X.K (.ref fI) = some (.type "function")) (F1 : FnOk X.prog X.w X.K X.mg X.base CX0 k fI fd ps sp) (hr : Room (k + 1) X.A)
    (hb : ∀ (s' : Shared) (a : Addr) (ws : List Value), X.K.In s'.heap → ws.length = ks.length → BindsTo s' fd ⟨[.ref a], ks.zip ws⟩ (ps.zip (.ref a :: g ws))) (rel : ∀ {zs : List V} {ws : List Value}, Vals zs ws → Vals (gV zs) (g ws)) (hm : X.mg x = some (.ref C)) (hkw : PK X kws tk) (hg : Gl X x := by rfl)
    (hal : (backToKw pos (keywordEach kws X.env)).all (·.1.isSome) = true := by rfl) (hky : (backToKw pos (keywordEach kws X.env)).filterMap (·.1) = ks := by rfl) (hdb : (x == ("__debug__" : Str)) = false := by decide)
    (hnp : ((backTo pos (starEach [] X.env)).any (·.1) || (backToKw pos (keywordEach kws X.env)).any (·.1.isNone)) = false := by rfl) : PE X (.Call (.Name x p) [] kws pos) (tMkVK C ks.length sp gV tk) := by
  refine ⟨fun pins s σ H Q I h => wpAny_Call_Name_kw (ld_glob I hg hm ?_ hdb)⟩
  refine PySem.W.callWith_KW0 (h₀ := X.base) I.ok.mod.kin T.kC hal ?_ hnp
  refine thn (hkw.run pos pins s σ H _ I h) fun ws s2 ⟨zs, H2, I2, rz, l2, q⟩ => ⟨I2.kIn, ?_⟩
  rw [hky]
  exact wpAny_mono (ev_run (us := []) (G := fun a H3 => Q (.ref a) H3) T iC tI F1 hr I2 (fun s' a z => hb s' a ws z (rz.length.symm.trans l2)) (rel rz) (Nat.zero_le _) q) (fun _ _ z => z.value) fun _ _ z => z
theorem pmkN (T : EvC X.K C) (iC : PySem.W.findIn X.K (.ref C) "__init__" = some (some (.ref fI))) (tI : PySem.W.typeIn X.K (.ref fI) = some (.type "function")) (F1 : FnOk X.prog X.w X.K X.mg X.base CX0 k fI fd ps sp) (hr : Room (k + 1) X.A) (hb : Binds X.K fd ps []) (hm : X.mg x = some (.ref C)) (ha : PA X (e :: es) ta) (hg : Gl X x := by rfl)
    (hdb : (x == ("__debug__" : Str)) = false := by decide) (he : starEach (e :: es) X.env = (false, eval e X.env) :: starEach es X.env := by rfl) (hpl : (backTo pos (starEach es X.env)).any (·.1) = false := by rfl) : L2N.PMk X (.Call (.Name x p) (e :: es) [] pos) (tMkN C sp ta) := by
  intro pins s σ H Q I h
  refine wpAny_Call_Name_kw (ld_glob (X := X) I hg hm ?_ hdb)
  refine PySem.W.callWith_K (h₀ := X.base) I.ok.mod.kin T.kC (thn (ha.run pos pins s σ H _ I h) fun us s1 ⟨vs, H1, I1, r1, hz, q⟩ => ⟨I1.kIn, ?_⟩) he hpl
  have n : us.length + 1 = ps.length := by
    have l1 := F1.len _ _ _ _ (q s1.heap.objs.size (I1.hok.fresh (Nat.le_refl _)))
    have l2 := Paired.length r1
    rw [List.length_cons] at l1
    omega
  exact wpAny_mono (ev_run (ks := []) (ws := []) T iC tI F1 hr I1 (binds_all hb n) r1 (fits_of r1 hz) q) (fun _ _ z => z.raised T I1) fun _ _ z => z
end
end Kx
/-! own errors raised, their context None: of one field, over ValueError or KeyError; of three. -/
namespace Kx
open L2 PySem PySem.Spec PyProof.Rows
/-! ### self.f = v on an error over KeyError -/
section
variable {X : Cx} {pins : List (Addr × Obj)} {σ : L2.St} {H : Hp} {s : Shared} {a C dx : Addr} {f : Str} {y : V}
theorem inv_dict {h' : Heap} {t1 : Addr} {tk : Nat} {u : Value} (I : Inv X pins σ H s) (ha : H a = some (exo a C none)) (k : ∀ b o, b ≠ a → s.heap.get? b = some o → h'.get? b = some o) (dn : s.heap.objs.size ≤ dx) (dne : dx ≠ a)
    (hx : h'.get? a = some { cls := .ref C, dict := some dx, data := .fields #[.ref t1, .none, .none, .none, .bool false, .none] }) (hn : h'.Ns1 dx (fun z => if z = f then some u else none)) (ry : RelV y u) :
    H dx = none ∧ Inv X pins σ (upd (upd H dx (exd dx [(f, y)])) a (exo a C (some dx))) { s with heap := h', toks := tk } := by
  have free : H dx = none := I.hok.fresh dn
  have nd : ∀ {b : Addr} {o : Obj}, s.heap.get? b = some o → b ≠ dx := fun q => Nat.ne_of_lt (Nat.lt_of_lt_of_le (Heap.lt_size q) dn)
  have na : ∀ {b : Addr}, H b = none → b ≠ a := fun {b} n => by
    rintro rfl
    rw [ha] at n
    exact nomatch n
  have step : Un X.fs [] H (upd (upd H dx (exd dx [(f, y)])) a (exo a C (some dx))) s.heap h' := {
    keep := fun b ob q n _ _ => k b ob (na n) q
    slot := fun b ob q n _ _ => ⟨ob.slots, k b ob (na n) q⟩
    free := fun b ob q n _ => by rw [upd_ne (na n), upd_ne (nd q)]; exact n
    there := fun b o q _ => (Decidable.em (b = a)).elim (fun e => ⟨_, e ▸ hx⟩) fun e => ⟨o, k b o e q⟩
    tups := fun b xs q => by rw [upd_ne (at_ne ha q exo_tup), upd_ne (ne_of_none q free)]; exact q
    frzs := fun b o v q => by rw [upd_ne (at_ne ha q exo_frz), upd_ne (ne_of_none q free)]; exact q
    tbls := fun b ps q => ⟨#[], by rw [upd_ne (at_ne ha q exo_tbl), upd_ne (ne_of_none q free), q, Array.append_empty]⟩ }
  refine ⟨free, I.un (t' := tk) step fun b o q => ?_⟩
  by_cases ea : b = a
  · subst ea
    rw [upd_same] at q
    obtain rfl := Option.some.inj q
    exact exo_ok hx
  rw [upd_ne ea] at q
  by_cases ed : b = dx
  · subst ed
    rw [upd_same] at q
    obtain rfl := Option.some.inj q
    exact exd_ok hn (relO_put (fs := []) ry fun _ => True.intro)
  rw [upd_ne ed] at q
  refine (I.hok b o q).stay (fun c v hc z => k c v (hc.elim (fun e => e ▸ ea) fun hc => at_ne ha hc exo_own) z) (fun c hc => ?_) fun c xs hc => ?_
  · rw [upd_ne (at_ne ha hc exo_own), upd_ne (ne_of_none hc free)]
    exact hc
  · rw [upd_ne (at_ne ha hc exo_tup), upd_ne (ne_of_none hc free)]
    exact hc
end
/-- self.f = e -/
def tOstK (K : PySem.W.Frag) (f : Str) (to te : TE) : TS := fun D σ H => te σ H fun y H1 => to σ H1 fun x H2 => ∃ a C : Addr, x = .ref a ∧ KeyC K C ∧ PySem.W.findIn K (.ref C) f = some none ∧ H2 a = some (exo a C none) ∧
  ∀ dx, H2 dx = none → dx ≠ a → D.nx σ (upd (upd H2 dx (exd dx [(f, y)])) a (exo a C (some dx)))
theorem ps_ostK {X : Cx} {o e : Expr} {to te : TE} {f : Str} {p' pos : Pos} (ho : PE X o to) (he : PE X e te) (hs : swapsWith e (some (.Attribute o f p')) pos.line X.env = pure false := by rfl) : PS X (.Assign [.Attribute o f p'] e pos) (tOstK X.K f to te) := by
  refine ⟨fun pins s σ H D I h => plainObj_wpAny_Assign_Attribute (thn (he.run pins s σ H _ I h) fun v s1 ⟨y, H1, I1, r1, q1⟩ => thn (ho.run pins s1 σ H1 _ I1 q1) fun u s2 ⟨x, H2, I2, r2, a, C, ex, T, no, ha, q⟩ => ?_) hs⟩
  subst ex
  obtain rfl := (show u = Value.ref a from r2)
  obtain ⟨t1, hob⟩ := exo_at I2.hok ha
  obtain ⟨hp, gz, dr, tk, os⟩ := s2
  refine PySem.W.set_plain I2.kIn (ox := { cls := .ref C, dict := none, data := .fields #[.ref t1, .none, .none, .none, .bool false, .none] }) (od := none) ⟨hob, rfl, rfl, trivial⟩ T.sa (key_osa T I2.kIn hob no fun h' tk' dx k dn dne hx hn => ?_)
  obtain ⟨free, J⟩ := inv_dict (tk := tk') I2 ha k dn dne hx hn r1
  exact ⟨σ, _, J, q dx free dne⟩
theorem ok_keepK {P : Program} {w : World} {K : PySem.W.Frag} {mg : Str → Option Value} {base : Heap} {C fI : Addr} {fd : FuncData} {f qual : Str} {params : Arguments} {scope : Scope} {p1 p2 p3 p4 : Pos}
    (F : FunD K "__init__" qual params [.Assign [.Attribute (.Name "self" p1) f p2] (.Name f p3) p4] scope [] [] fI fd) (T : KeyC K C) (no : PySem.W.findIn K (.ref C) f = some none)
    (sc : FnScope ["self", f] ["self", f] scope) (hd : (f == ("__debug__" : Str)) = false) (hcd : (f == ("__classdict__" : Str)) = false) (l0 : scope.names.lookup ("self" : Str) = some .local) (l1 : scope.names.lookup f = some .local) :
    FnOk P w K mg base CX0 1 fI fd ["self", f] (spKeep K C f) := by
  refine F.ok sc (fun vs H Q E h => ?_) (fun cdv A outer s H vs Q E hr h => ?_)
  · obtain ⟨a, v, rfl, _⟩ := h
    rfl
  · obtain ⟨a, v, rfl, ha, k⟩ := h
    exact ⟨_, pss_one (ps_ostK (pe_var (i := 0) rfl (.inl l0)) (pe_var (i := 1) rfl (.inl l1) hd hcd)), _, rfl, _, rfl, a, C, rfl, T, no, ha, fun dx n1 n2 => k dx n1 n2⟩
/-! ### what the module holds of an error of one field, of whatever base -/
structure ErrN (P : Program) (w : World) (K : PySem.W.Frag) (mg : Str → Option Value) (base : Heap) (k : Nat) (x f : Str) (C : Addr) : Prop where
  at_ : mg x = some (.ref C)
  cls : EvC K C
  ini : ∃ (fI : Addr) (fd : FuncData), PySem.W.findIn K (.ref C) "__init__" = some (some (.ref fI)) ∧ PySem.W.typeIn K (.ref fI) = some (.type "function") ∧ Binds K fd ["self", f] [] ∧ FnOk P w K mg base CX0 k fI fd ["self", f] (spKeep K C f) ∧
    ∀ (s' : Shared) (a : Addr) (ws : List Value), K.In s'.heap → ws.length = 1 → BindsTo s' fd ⟨[.ref a], ([f] : List Str).zip ws⟩ ((["self", f] : List Str).zip (.ref a :: ws))
section
variable {X : Cx} {k j : Nat} {x f : Str} {C : Addr} {e : Expr} {ta : TA} {W : WX} {p pos p2 : Pos}
theorem psN (T : ErrN X.prog X.w X.K X.mg X.base k x f C) (hc : X.calm = true) (hr : Room j X.A) (tk : L2N.Takes X W) (ha : PA X [e] ta) (hk : k + 1 ≤ j := by decide) (hg : Gl X x := by rfl) (hdb : (x == ("__debug__" : Str)) = false := by decide)
    (he : starEach (e :: []) X.env = (false, eval e X.env) :: starEach [] X.env := by rfl) (hpl : (backTo pos (starEach [] X.env)).any (·.1) = false := by rfl) :
    PS X (.Raise (some (.Call (.Name x p) [e] [] pos)) none p2) (fun _ σ H => tMkN C (spKeep X.K C f) ta σ H fun cls d H' => W cls d σ H') := by
  obtain ⟨fI, fd, h1, h2, h3, h4, _⟩ := T.ini
  exact L2N.ps_raise hc tk (pmkN T.cls h1 h2 h4 (hr.mono hk) h3 T.at_ ha hg hdb he hpl)
/-- C(e) as a value -/
theorem peV (T : ErrN X.prog X.w X.K X.mg X.base k x f C) (hr : Room j X.A) (ha : PA X [e] ta) (hk : k + 1 ≤ j := by decide) (hg : Gl X x := by rfl) (hdb : (x == ("__debug__" : Str)) = false := by decide)
    (he : starEach (e :: []) X.env = (false, eval e X.env) :: starEach [] X.env := by rfl) (hpl : (backTo pos (starEach [] X.env)).any (·.1) = false := by rfl) : PE X (.Call (.Name x p) [e] [] pos) (tMkV C (spKeep X.K C f) ta) := by
  obtain ⟨fI, fd, h1, h2, h3, h4, _⟩ := T.ini
  exact pe_mkV T.cls h1 h2 h4 (hr.mono hk) h3 T.at_ ha hg hdb he hpl
/-- C(f = e) as a value -/
theorem peVK {kws : List Keyword} {tk : TA} (T : ErrN X.prog X.w X.K X.mg X.base k x f C) (hr : Room j X.A) (hkw : PK X kws tk) (hk : k + 1 ≤ j := by decide) (hg : Gl X x := by rfl)
    (hal : (backToKw pos (keywordEach kws X.env)).all (·.1.isSome) = true := by rfl) (hky : (backToKw pos (keywordEach kws X.env)).filterMap (·.1) = [f] := by rfl) (hdb : (x == ("__debug__" : Str)) = false := by decide)
    (hnp : ((backTo pos (starEach [] X.env)).any (·.1) || (backToKw pos (keywordEach kws X.env)).any (·.1.isNone)) = false := by rfl) : PE X (.Call (.Name x p) [] kws pos) (tMkVK C 1 (spKeep X.K C f) id tk) := by
  obtain ⟨fI, fd, h1, h2, h3, h4, h5⟩ := T.ini
  exact pe_mkVK (g := id) (gV := id) (ks := [f]) T.cls h1 h2 h4 (hr.mono hk) h5 (fun r => r) T.at_ hkw hg hal hky hdb hnp
end
/-- a made value: what stands there -/
theorem made {K : PySem.W.Frag} {C : Addr} {f : Str} {v : V} {H : Hp} {Q : VK} (h : ∀ a d H', Same H H' → EvAt H' a C d [(f, v)] → Q (.ref a) H') :
    [v].length ≤ 1000 ∧ ∀ a, H a = none → spKeep K C f (.ref a :: [v]) (upd H a (exo a C none)) (fun y H2 => y = .non ∧ Q (.ref a) H2) (fun _ _ _ => False) := by
  refine ⟨Nat.succ_le_of_lt (by simp), fun a ha => ⟨a, v, rfl, upd_same, fun d hd ne => ⟨rfl, ?_⟩⟩⟩
  rw [upd_ne ne] at hd
  refine h a d _ (fun b o q => ?_) (exo_ev upd_same (by rw [upd_ne ne, upd_same]))
  have e1 := ne_of_none q ha
  rw [upd_ne e1, upd_ne (ne_of_none q hd), upd_ne e1]
  exact q
theorem madeK {K : PySem.W.Frag} {C : Addr} {f : Str} {v : V} {H : Hp} {Q : VK} (h : ∀ a d H', Same H H' → EvAt H' a C d [(f, v)] → Q (.ref a) H') :
    [v].length = 1 ∧ ∀ a, H a = none → spKeep K C f (.ref a :: id [v]) (upd H a (exo a C none)) (fun y H2 => y = .non ∧ Q (.ref a) H2) (fun _ _ _ => False) := ⟨rfl, (made h).2⟩
/-- raised -/
theorem thrownN {K : PySem.W.Frag} {C : Addr} {f : Str} {v : V} {H : Hp} {R : XK} (h : ∀ d, H d = none → R (.ref C) (some d) (upd H d (.xd [(f, v)]))) :
    [v].length ≤ 1000 ∧ ∀ a, H a = none → spKeep K C f (.ref a :: [v]) (upd H a (exo a C none))
      (fun y H2 => y = .non ∧ ∃ (d : Addr) (fs : List (Str × V)), H2 a = some (exo a C (some d)) ∧ H2 d = some (exd d fs) ∧ H d = none ∧ R (.ref C) (some d) (upd (del H2 a) d (.xd fs))) (fun _ _ _ => False) := thrown h
end Kx
/-! an own error of three fields. -/
namespace Kx
open L2 PySem PySem.Spec PyProof.Rows
def spKeep3 (K : PySem.W.Frag) (C : Addr) (f g h : Str) : Sp := fun vs H Q _ => ∃ (a : Addr) (x y z : V), vs = [.ref a, x, y, z] ∧ H a = some (exo a C none) ∧
  ∀ d H2, H d = none → d ≠ a → (∀ b, b ≠ a → b ≠ d → H2 b = H b) → H2 a = some (exo a C (some d)) → H2 d = some (exd d [(h, z), (g, y), (f, x)]) → Q .non H2
theorem ok_keep3 {P : Program} {w : World} {K : PySem.W.Frag} {mg : Str → Option Value} {base : Heap} {C fI : Addr} {fd : FuncData} {f g h qual : Str} {params : Arguments} {scope : Scope} {p1 p2 p3 p4 q1 q2 q3 q4 r1 r2 r3 r4 : Pos}
    (F : FunD K "__init__" qual params [.Assign [.Attribute (.Name "self" p1) f p2] (.Name f p3) p4, .Assign [.Attribute (.Name "self" q1) g q2] (.Name g q3) q4, .Assign [.Attribute (.Name "self" r1) h r2] (.Name h r3) r4] scope [] [] fI fd)
    (T : OexC K C) (nf : PySem.W.findIn K (.ref C) f = some none) (ng : PySem.W.findIn K (.ref C) g = some none) (nh : PySem.W.findIn K (.ref C) h = some none)
    (sc : FnScope ["self", f, g, h] ["self", f, g, h] scope) (df : (f == ("__debug__" : Str)) = false) (cf : (f == ("__classdict__" : Str)) = false) (dg : (g == ("__debug__" : Str)) = false) (cg : (g == ("__classdict__" : Str)) = false) (dh : (h == ("__debug__" : Str)) = false) (ch : (h == ("__classdict__" : Str)) = false)
    (l0 : scope.names.lookup ("self" : Str) = some .local) (lf : scope.names.lookup f = some .local) (lg : scope.names.lookup g = some .local) (lh : scope.names.lookup h = some .local) : FnOk P w K mg base CX0 1 fI fd ["self", f, g, h] (spKeep3 K C f g h) := by
  refine F.ok sc (fun vs H Q E z => ?_) (fun cdv A outer s H vs Q E hr z => ?_)
  · obtain ⟨a, x, y, z, rfl, _⟩ := z
    rfl
  · obtain ⟨a, x, y, z, rfl, ha, k⟩ := z
    refine ⟨_, pss_cons (ps_ost (pe_var (i := 0) rfl (.inl l0)) (pe_var (i := 1) rfl (.inl lf) df cf)) (pss_cons (ps_ost (pe_var (i := 0) rfl (.inl l0)) (pe_var (i := 2) rfl (.inl lg) dg cg)) (pss_one (ps_ost (pe_var (i := 0) rfl (.inl l0)) (pe_var (i := 3) rfl (.inl lh) dh ch)))), ?_⟩
    refine ⟨_, rfl, _, rfl, a, C, rfl, T, nf, .inl ⟨ha, fun d n1 n2 => ?_⟩⟩
    have a1 : upd (upd H d (exd d [(f, x)])) a (exo a C (some d)) a = some (exo a C (some d)) := upd_same
    have d1 : upd (upd H d (exd d [(f, x)])) a (exo a C (some d)) d = some (exd d [(f, x)]) := by rw [upd_ne n2, upd_same]
    refine ⟨_, rfl, _, rfl, a, C, rfl, T, ng, .inr ⟨d, _, a1, d1, by simp, ?_⟩⟩
    have a2 : upd (upd (upd H d (exd d [(f, x)])) a (exo a C (some d))) d (exd d [(g, y), (f, x)]) a = some (exo a C (some d)) := by rw [upd_ne (Ne.symm n2)]; exact a1
    refine ⟨_, rfl, _, rfl, a, C, rfl, T, nh, .inr ⟨d, _, a2, upd_same, by simp, ?_⟩⟩
    exact k d _ n1 n2 (fun b e1 e2 => by rw [upd_ne e2, upd_ne e2, upd_ne e1, upd_ne e2]) (by rw [upd_ne (Ne.symm n2)]; exact a2) upd_same
structure ErrF (P : Program) (w : World) (K : PySem.W.Frag) (mg : Str → Option Value) (base : Heap) (k : Nat) (x f g h : Str) (C : Addr) : Prop where
  at_ : mg x = some (.ref C)
  cls : OexC K C
  ini : ∃ (fI : Addr) (fd : FuncData), PySem.W.findIn K (.ref C) "__init__" = some (some (.ref fI)) ∧ PySem.W.typeIn K (.ref fI) = some (.type "function") ∧ Binds K fd ["self", f, g, h] [] ∧ FnOk P w K mg base CX0 k fI fd ["self", f, g, h] (spKeep3 K C f g h) ∧
    ∀ (s' : Shared) (a : Addr) (ws : List Value), K.In s'.heap → ws.length = 3 → BindsTo s' fd ⟨[.ref a], ([h, f, g] : List Str).zip ws⟩ ((["self", f, g, h] : List Str).zip (.ref a :: [ws.getD 1 .none, ws.getD 2 .none, ws.getD 0 .none]))
theorem made3 {K : PySem.W.Frag} {C : Addr} {f g h : Str} {x y z : V} {H : Hp} {Q : VK} (q : ∀ a d H', Same H H' → EvAt H' a C d [(h, z), (g, y), (f, x)] → Q (.ref a) H') :
    [x, y, z].length ≤ 1000 ∧ ∀ a, H a = none → spKeep3 K C f g h (.ref a :: [x, y, z]) (upd H a (exo a C none)) (fun u H2 => u = .non ∧ Q (.ref a) H2) (fun _ _ _ => False) := by
  refine ⟨by simp, fun a ha => ⟨a, x, y, z, rfl, upd_same, fun d H2 hd ne keep h1 h2 => ⟨rfl, q a d H2 (fun b o e => ?_) (exo_ev h1 h2)⟩⟩⟩
  rw [upd_ne ne] at hd
  have e1 := ne_of_none e ha
  rw [keep b e1 (ne_of_none e hd), upd_ne e1]
  exact e
theorem made3K {K : PySem.W.Frag} {C : Addr} {f g h : Str} {x y z : V} {H : Hp} {Q : VK} (q : ∀ a d H', Same H H' → EvAt H' a C d [(h, z), (g, y), (f, x)] → Q (.ref a) H') :
    [z, x, y].length = 3 ∧ ∀ a, H a = none → spKeep3 K C f g h (.ref a :: [[z, x, y].getD 1 .non, [z, x, y].getD 2 .non, [z, x, y].getD 0 .non]) (upd H a (exo a C none)) (fun u H2 => u = .non ∧ Q (.ref a) H2) (fun _ _ _ => False) := ⟨rfl, (made3 q).2⟩
theorem thrown3 {K : PySem.W.Frag} {C : Addr} {f g h : Str} {x y z : V} {H : Hp} {R : XK} (q : ∀ d, H d = none → R (.ref C) (some d) (upd H d (.xd [(h, z), (g, y), (f, x)]))) :
    [x, y, z].length ≤ 1000 ∧ ∀ a, H a = none → spKeep3 K C f g h (.ref a :: [x, y, z]) (upd H a (exo a C none))
      (fun u H2 => u = .non ∧ ∃ (d : Addr) (fs : List (Str × V)), H2 a = some (exo a C (some d)) ∧ H2 d = some (exd d fs) ∧ H d = none ∧ R (.ref C) (some d) (upd (del H2 a) d (.xd fs))) (fun _ _ _ => False) := by
  refine ⟨by simp, fun a ha => ⟨a, x, y, z, rfl, upd_same, fun d H2 hd ne keep h1 h2 => ⟨rfl, d, _, h1, h2, ?_, ?_⟩⟩⟩
  · rwa [upd_ne ne] at hd
  · have hd : H d = none := by rwa [upd_ne ne] at hd
    have e : upd (del H2 a) d (.xd [(h, z), (g, y), (f, x)]) = upd H d (.xd [(h, z), (g, y), (f, x)]) := by
      funext b
      by_cases e1 : b = d
      · rw [e1, upd_same, upd_same]
      · rw [upd_ne e1, upd_ne e1]
        by_cases e2 : b = a
        · rw [e2, del_same, ha]
        · rw [del_ne e2, keep b e2 e1, upd_ne e2]
    rw [e]
    exact q d hd
section
variable {X : Cx} {k j : Nat} {x f g h : Str} {C : Addr} {e : Expr} {es : List Expr} {ta : TA} {W : WX} {p pos p2 : Pos}
theorem psF (T : ErrF X.prog X.w X.K X.mg X.base k x f g h C) (hc : X.calm = true) (hr : Room j X.A) (tk : L2N.Takes X W) (ha : PA X (e :: es) ta) (hk : k + 1 ≤ j := by decide) (hg : Gl X x := by rfl) (hdb : (x == ("__debug__" : Str)) = false := by decide)
    (hz : starEach (e :: es) X.env = (false, eval e X.env) :: starEach es X.env := by rfl) (hpl : (backTo pos (starEach es X.env)).any (·.1) = false := by rfl) :
    PS X (.Raise (some (.Call (.Name x p) (e :: es) [] pos)) none p2) (fun _ σ H => tMkN C (spKeep3 X.K C f g h) ta σ H fun cls d H' => W cls d σ H') := by
  obtain ⟨fI, fd, h1, h2, h3, h4, _⟩ := T.ini
  exact L2N.ps_raise hc tk (pmkN (.of T.cls) h1 h2 h4 (hr.mono hk) h3 T.at_ ha hg hdb hz hpl)
theorem peF (T : ErrF X.prog X.w X.K X.mg X.base k x f g h C) (hr : Room j X.A) (ha : PA X (e :: es) ta) (hk : k + 1 ≤ j := by decide) (hg : Gl X x := by rfl) (hdb : (x == ("__debug__" : Str)) = false := by decide)
    (he : starEach (e :: es) X.env = (false, eval e X.env) :: starEach es X.env := by rfl) (hpl : (backTo pos (starEach es X.env)).any (·.1) = false := by rfl) : PE X (.Call (.Name x p) (e :: es) [] pos) (tMkV C (spKeep3 X.K C f g h) ta) := by
  obtain ⟨fI, fd, h1, h2, h3, h4, _⟩ := T.ini
  exact pe_mkV (.of T.cls) h1 h2 h4 (hr.mono hk) h3 T.at_ ha hg hdb he hpl
theorem vals_get {zs : List V} {ws : List Value} (r : Vals zs ws) (i : Nat) : RelV (zs.getD i .non) (ws.getD i .none) := by
  induction r generalizing i with
  | nil => exact rfl
  | cons h _ ih => cases i with
    | zero => exact h
    | succ i => exact ih i
/-- C(h = .., f = .., g = ..) as a value -/
theorem peFK {kws : List Keyword} {tk : TA} (T : ErrF X.prog X.w X.K X.mg X.base k x f g h C) (hr : Room j X.A) (hkw : PK X kws tk) (hk : k + 1 ≤ j := by decide) (hg : Gl X x := by rfl)
    (hal : (backToKw pos (keywordEach kws X.env)).all (·.1.isSome) = true := by rfl) (hky : (backToKw pos (keywordEach kws X.env)).filterMap (·.1) = [h, f, g] := by rfl) (hdb : (x == ("__debug__" : Str)) = false := by decide)
    (hnp : ((backTo pos (starEach [] X.env)).any (·.1) || (backToKw pos (keywordEach kws X.env)).any (·.1.isNone)) = false := by rfl) : PE X (.Call (.Name x p) [] kws pos) (tMkVK C 3 (spKeep3 X.K C f g h) (fun zs => [zs.getD 1 .non, zs.getD 2 .non, zs.getD 0 .non]) tk) := by
  obtain ⟨fI, fd, h1, h2, h3, h4, h5⟩ := T.ini
  exact pe_mkVK (g := fun ws => [ws.getD 1 .none, ws.getD 2 .none, ws.getD 0 .none]) (gV := fun zs => [zs.getD 1 .non, zs.getD 2 .non, zs.getD 0 .non]) (ks := [h, f, g]) (.of T.cls) h1 h2 h4 (hr.mono hk) h5 (fun r => .cons (vals_get r 1) (.cons (vals_get r 2) (.cons (vals_get r 0) .nil))) T.at_ hkw hg hal hky hdb hnp
end
end Kx
/-! lambdas held as values, called where they were made; their errors' context None. -/
namespace Kx
open L2 PySem PySem.Spec PyProof.Rows LamX
/-- the function object at f is ob -/
abbrev LamO (f : Addr) (ob : Obj) : HO := .ext fun h => h.get? f = some ob
theorem lamO_ok {P : Program} {w : World} {H : Hp} {h : Heap} {f : Addr} {ob : Obj} (e : h.get? f = some ob) : ObjOk P w H h f (LamO f ob) := ⟨e, ⟨ob, e⟩, fun h1 h2 z k => k _ z⟩
abbrev lamOb (X : Cx) (params : Arguments) (body : Expr) (scope : Scope) (pm : Value) (c' : Addr) (ctv : Value) : Obj := PySem.W.kla_obj "<lambda>" (X.env.qual ++ "<lambda>") params body scope (cloFrom X.env.cells scope.names []) pm c' ctv
/-- lambda: body, as a value -/
def tLamV (X : Cx) (T : List (Addr × Str)) (params : Arguments) (body : Expr) (scope : Scope) : TE := fun σ H Q => Tabs T H ∧ ∀ (f c' : Addr) (pm ctv : Value) (H1 : Hp), ExtN H H1 → Tabs T H1 → H f = none → H1 f = none → H1 c' = some (CodeO c' (X.env.qual ++ "<lambda>")) →
  Q (.ref f) (upd H1 f (LamO f (lamOb X params body scope pm c' ctv)))
section
variable {X : Cx}
theorem pe_lamV {T : List (Addr × Str)} {c P : Addr} {params : Arguments} {body : Expr} {scope : Scope} {pos : Pos} (TB : TabB X.base X.mg c P) (code : X.env.code = .ref c) (mem : (P, X.env.qual ++ "<lambda>") ∈ T) (only : ∀ p ∈ T, p.1 = P → p.2 = X.env.qual ++ "<lambda>")
    (hdef : defaultsOf params X.env = ([], [])) (L : LamS X.env.scope scope) : PE X (.Lambda params body scope pos) (tLamV X T params body scope) := by
  refine ⟨fun pins s σ H Q I asked => ?_⟩
  obtain ⟨hT, h⟩ := asked
  obtain ⟨ps, hP, trip, among⟩ := hT _ mem
  have free := L.has I.ok
  have here : s.heap.get? P = some { cls := .none, data := .fields ps } := I.hok P _ hP
  refine PySem.W.kla_eval hdef ?_; cases hc : codeAmong pos ps.toList with
  | some cv =>
    obtain ⟨c', rfl, old⟩ := among pos cv hc
    refine PySem.W.kla_makeFunctionHit (mg := X.mg) (c := c) (P := P) (ps := ps) (closure_ok free) I.ok.glob (I.mod.glob.keeps I.bk) code (TB.code.keeps I.bk) here trip hc (TB.bm.keeps I.bk) fun ctv h' tk all wide => ?_
    have J : Inv X pins σ H { s with heap := h', toks := tk } := I.kept all
    have J2 := J.laid (t' := tk) (a := h'.objs.size) (o := LamO h'.objs.size (lamOb X params body scope ((X.mg "__name__").getD .none) c' ctv)) (h' := h'.push (lamOb X params body scope ((X.mg "__name__").getD .none) c' ctv)) (fun b o e => Heap.get?_push_of_some _ e) (Nat.le_refl _) (lamO_ok (Heap.get?_push_size _ rfl))
    exact ⟨V.ref h'.objs.size, _, J2, rfl, h h'.objs.size c' _ ctv H (ExtN.refl H) hT (I.hok.fresh wide) (I.hok.fresh wide) old⟩
  | none =>
    refine PySem.W.kla_makeFunction (mg := X.mg) (c := c) (P := P) (ps := ps) (closure_ok free) I.ok.glob (I.mod.glob.keeps I.bk) code (TB.code.keeps I.bk) here trip hc TB.gP (TB.bm.keeps I.bk) fun c' ctv h' tk all ge lt rec_ tb => ?_
    obtain ⟨c2, oc, vs, t, e2, hoc, hd, hv⟩ := rec_
    cases e2
    have wide : s.heap.objs.size ≤ h'.objs.size := Nat.le_trans ge (Nat.le_of_lt lt)
    have nC : H c' = none := I.hok.fresh ge
    have J := inv_table (t' := tk) (more := #[rawInt pos.line, rawInt pos.col, .ref c']) I hP all tb ge ⟨oc, vs, t, hoc, hd, hv⟩
    have J2 := J.laid (t' := tk) (a := h'.objs.size) (o := LamO h'.objs.size (lamOb X params body scope ((X.mg "__name__").getD .none) c' ctv)) (h' := h'.push (lamOb X params body scope ((X.mg "__name__").getD .none) c' ctv)) (fun b o e => Heap.get?_push_of_some _ e) (Nat.le_refl _) (lamO_ok (Heap.get?_push_size _ rfl))
    have ext : ExtN H (upd (upd H P (.tbl (ps ++ #[rawInt pos.line, rawInt pos.col, .ref c']))) c' (CodeO c' (X.env.qual ++ "<lambda>"))) := fun b o e n => by
      have ne : b ≠ P := fun z => n ps (Option.some.inj (e.symm.trans (z ▸ hP)))
      rw [upd_ne (ne_of_none e nC), upd_ne ne]
      exact e
    have eL : (ps ++ #[rawInt pos.line, rawInt pos.col, Value.ref c']).toList = ps.toList ++ [rawInt pos.line, rawInt pos.col, Value.ref c'] := by simp
    refine ⟨V.ref h'.objs.size, _, J2, rfl, h h'.objs.size c' _ ctv _ ext (fun p hp => ?_) (I.hok.fresh wide) (J.hok.fresh (Nat.le_refl _)) upd_same⟩
    by_cases hb : p.1 = P
    · rw [only p hp hb, hb]
      refine ⟨_, (upd_ne (ne_of_none hP nC)).trans upd_same, eL ▸ PySem.TriplesOk_snoc _ _ _ _ trip, fun p' cv hcv => ?_⟩
      rw [eL] at hcv
      rcases among_app _ trip hcv with z | z
      · obtain ⟨c0, e1, e2⟩ := among p' cv z
        exact ⟨c0, e1, ext _ _ e2 codeO_ne⟩
      · exact ⟨c', z, upd_same⟩
    · obtain ⟨qs, a1, a2, a3⟩ := hT p hp
      refine ⟨qs, ((upd_ne (ne_of_none a1 nC)).trans (upd_ne hb)).trans a1, a2, fun p' cv hcv => ?_⟩
      obtain ⟨c0, e1, e2⟩ := (a3 p' cv hcv)
      exact ⟨c0, e1, ext _ _ e2 codeO_ne⟩
/-- the context of a lambda's body: errors' context None -/
abbrev lamCxN (X : Cx) (A : Around) (outer : List Env) (s : Shared) (H : Hp) (E : XK) (scope : Scope) (f c' : Addr) : Cx :=
  { lamCx X A outer s H E scope f c' with xe := fun e s' => wpAny (model X.prog X.w) (A.deeper (lamEnv X scope s.heap.objs.size f c')) (leaving (lamEnv X scope s.heap.objs.size f c') e) (fun _ s'' => L2N.CX X.prog X.w outer H s E e s'') (fun e' s'' => L2N.CX X.prog X.w outer H s E e' s'') s' }
/-- g() with g one of several lambdas -/
theorem pe_lamGo {ι : Type} {e : Expr} {te : TE} {pos : Pos} {k : Nat} {E : XK} (ps : ι → Arguments) (bs : ι → Expr) (ss : ι → Scope) (tb : ι → TE) (he : PE X e te) (hr : Room (k + 1) X.A) (hL : ∀ i, LamS X.env.scope (ss i)) (hx : Passes (L2N.CX X.prog X.w) X E)
    (hbind : ∀ i (q : Str) (cl : List (Str × Addr)) (pm cv ctv : Value), bindArgs (PySem.W.kla_fn "<lambda>" q (ps i) (bs i) (ss i) cl pm cv ctv) ⟨[], []⟩ = pure [])
    (hbody : ∀ i (A : Around) (outer : List Env) (s : Shared) (H : Hp) (f c' : Addr), Room k (A.deeper (lamEnv X (ss i) s.heap.objs.size f c')) → PE (lamCxN X A outer s H E (ss i) f c') (bs i) (tb i))
    (hc : eval (.Call e [] [] pos) X.env = (do callWith pos (← eval e X.env) [] (backTo pos (starEach [] X.env)) (backToKw pos (keywordEach [] X.env))) := by rfl) :
    PE X (.Call e [] [] pos) (fun σ H Q => te σ H fun v H1 => ∃ (i : ι) (f c' : Addr) (pm ctv : Value), v = .ref f ∧ H1 f = some (LamO f (lamOb X (ps i) (bs i) (ss i) pm c' ctv)) ∧ H1 c' = some (CodeO c' (X.env.qual ++ "<lambda>")) ∧ tb i σ H1 Q) := by
  refine ⟨fun pins s σ H Q I asked => ?_⟩
  rw [hc]
  refine wpAny_bind (thn (he.run pins s σ H _ I asked) fun u s1 ⟨v, H1, J, rv, i, f, c', pm, ctv, ev, hf, hco, q⟩ => ?_)
  subst ev
  obtain rfl := (show u = Value.ref f from rv)
  have here : s1.heap.get? f = some (lamOb X (ps i) (bs i) (ss i) pm c' ctv) := (show ObjOk X.prog X.w H1 s1.heap f (LamO f _) from J.hok f _ hf).1
  refine PySem.W.callWith_F0 ⟨_, _, _, _, here⟩ ?_
  obtain ⟨⟨oc, vs, t, hoc, hdc, hvc⟩, -, -⟩ := (show ObjOk X.prog X.w H1 s1.heap c' (CodeO c' (X.env.qual ++ "<lambda>")) from J.hok c' _ hco)
  have L := hL i
  have rc : codeAny (model X.prog X.w) X.A (.call (.ref f) ⟨[], []⟩) (CR (L2N.CX X.prog X.w) X.stack X.prog X.w H1 s1 Q E) s1 := by
    refine PySem.W.kla_callFunE hr.depth here rfl L.co L.gen rfl ⟨c', oc, vs, t, rfl, hoc, hdc, hvc⟩ ?_
    rw [hbind]
    refine wpAny_pure (wpAny_newFunctionEnv (fun y hy => (L.own y hy).2) (fun y hy => absurd hy (by simp)) (fun h1 ns but => ⟨J.nolimit.fresh _ but, ?_⟩) L.kind)
    show codeAny _ _ (.expr (bs i) (lamEnv X (ss i) s1.heap.objs.size f c')) _ _
    have kp : ∀ b o, s1.heap.get? b = some o → h1.get? b = some o := fun b o z => but.extBut b o (Nat.ne_of_lt (Heap.lt_size z)) (Heap.get?_push_of_some _ z)
    have K0 : Inv (lamCx X X.A X.stack s1 H1 E (ss i) f c') [] σ H1 { s1 with heap := h1, toks := s1.toks + ([] : List (Str × Value)).length } := lam_start2 J L J.env0 hr.hd Un.refl ns kp
    have K1 : Inv (lamCxN X X.A X.stack s1 H1 E (ss i) f c') [] σ H1 { s1 with heap := h1, toks := s1.toks + ([] : List (Str × Value)).length } :=
      ⟨⟨K0.ok.mod, K0.ok.kind, K0.ok.glob, K0.ok.blt, K0.ok.above, K0.ok.inj, K0.ok.has, K0.ok.cab, K0.ok.hd, K0.ok.frames, K0.ok.stk, K0.ok.exf, K0.ok.bs, K0.ok.bsz, K0.ok.noex, K0.ok.exfs, K0.ok.funs, K0.ok.frf⟩, K0.os, K0.bare, K0.base, K0.loc, K0.cell, K0.free, K0.freeC, K0.pin, K0.hok, K0.len⟩
    refine PySem.W.kla_codeExpr (wpAny_mono ((hbody i _ _ s1 H1 f c' (hr.deeper _)).run [] _ _ H1 Q K1 q) (fun v s2 z => ?_) fun _ _ z => z)
    obtain ⟨y, H2, K2, ry, q2⟩ := z
    exact ⟨y, H2, K2.os, K2.bare, K2.base, K2.hok, ry, q2⟩
  refine wpAny_call (codeAny_mono rc fun r s2 z => ?_)
  match r, z with
  | .error _, z => exact hx pins σ H1 s1 _ s2 J z
  | .ok (.ret _), z => exact J.after z
  | .ok .next, z => exact z.elim
  | .ok .brk, z => exact z.elim
  | .ok .cont, z => exact z.elim
end
end Kx
/-! where an error is handled: lists walked, tuples unpacked, a def that gets the error. -/
namespace Kx.Hot
open PySem PySem.Spec PyProof.Rows HotX
section
variable {prog : Program} {w : World} {A : Around} {E : Value → Shared → Prop} {s : Shared} {z l : Addr} {i : Nat} {xs : Array Value}
theorem hot_ne {x : Addr} {oz : Obj} {a b : Value} (hot : HotAt A x s.heap) (h : s.heap.get? z = some oz) (d : oz.data = .fields #[a, b]) : x ≠ z := by
  obtain ⟨_, o, vs, h1, d1, c1⟩ := hot
  rintro rfl
  rw [h1] at h
  cases h
  rw [d1] at d
  cases d
  cases c1
/-- the end of a list's walk -/
theorem list_end {x : Addr} {Q : Option Value → Shared → Prop} (hot : HotAt A x s.heap) (st : s.heap.IsListIter z l i) (isL : s.heap.IsList l xs) (out : xs[i]? = none) (q : ∀ h', Heap.ExtBut z s.heap h' → Q none { s with heap := h' }) : wpAny (model prog w) A (pyNext (.ref z)) Q E s := by
  obtain ⟨oz, hz, cz, dz⟩ := id st
  obtain ⟨ol, hl, _, nl, dl⟩ := isL
  have ne := hot_ne hot hz dz
  obtain ⟨hh, o1, v1, e1, d1, c1⟩ := hot
  unfold pyNext; refine wpAny_bind (wpAny_attempt (wpAny_callSpecial?_slot (name := Str.ofString "__next__") st.typeIs slot_listiter_next (wpAny_call_entry slot_listiter_next st.typeIs entry_listiter_next ?_ (args_listiter_next _))))
  show wpAny _ _ (field (.ref z) 0 >>= _) _ _ s; refine wpAny_bind (wpAny_field hz dz (x := .ref l) rfl ?_)
  show wpAny _ _ (if (Value.ref l == Value.none) = true then _ else _) _ _ s; rw [if_neg (show ¬ ((Value.ref l == Value.none) = true) from Bool.false_ne_true)]
  show wpAny _ _ (field (.ref z) 1 >>= _) _ _ s; refine wpAny_bind (wpAny_field hz dz (x := .int i 0) rfl ?_)
  show wpAny _ _ (seqItems? (.ref l) >>= _) _ _ s; refine wpAny_bind (wpAny_seqItems hl dl ?_)
  simp only [Int.toNat_natCast, out]
  refine wpAny_bind (wpAny_rule (wpAny_bind (wpAny_setField hz dz (by simp) ?_)))
  show wpAny _ _ (newExc (.type "StopIteration") [] >>= _) _ _ _; refine wpAny_bind ?_
  simp only [newExc, newTuple]; refine wpAny_bind (wpAny_newObj_type ?_ (by size_fits))
  refine wpAny_bind (m := firstArgMember _ _) (wpAny_of_eq (a := Value.none) (by first | rfl | (simp only [firstArgMember]; rfl)) ?_); refine wpAny_newObj_type ?_ (by size_fits)
  have e2 : ∀ b o, b ≠ z → s.heap.get? b = some o → (s.heap.update z (Obj.mapFields (·.setIfInBounds 0 Value.none))).get? b = some o := fun b o nb h => by
    rw [Heap.get?_update_other _ _ (Ne.symm nb)]
    exact h
  refine raiseNew_hot ⟨hh, o1, v1, Heap.get?_push_of_some _ (Heap.get?_push_of_some _ (e2 _ _ ne e1)), d1, c1⟩ (Nat.ne_of_lt (Heap.lt_size (Heap.get?_push_of_some _ (e2 _ _ ne e1)))) (Heap.get?_push_size _ rfl) rfl (by first | (simp; done) | (simp; omega) | (simp only [Array.size_append]; simp; omega)) ?_
  refine wpAny_bind (wpAny_isInstance (b := true) (T := "StopIteration") ⟨_, Heap.get?_update_self _ (Heap.get?_push_size _ rfl) rfl, rfl⟩ isSubtype_stop ?_)
  refine wpAny_pure (q _ fun b o nb h => ?_)
  rw [Heap.get?_update_other _ _ (Nat.ne_of_gt (Heap.lt_size (Heap.get?_push_of_some _ (e2 _ _ nb h))))]
  exact Heap.get?_push_of_some _ (Heap.get?_push_of_some _ (e2 _ _ nb h))
/-- the end of a tuple's walk -/
theorem tup_end {x : Addr} {Q : Option Value → Shared → Prop} (hot : HotAt A x s.heap) (st : IsTupIter s.heap z l i) (isT : IsTup s.heap l xs) (out : xs[i]? = none) (q : ∀ h', Heap.ExtBut z s.heap h' → Q none { s with heap := h' }) : wpAny (model prog w) A (pyNext (.ref z)) Q E s := by
  obtain ⟨oz, hz, cz, dz⟩ := id st
  obtain ⟨ol, hl, _, nl, dl⟩ := isT
  have ne := hot_ne hot hz dz
  obtain ⟨hh, o1, v1, e1, d1, c1⟩ := hot
  unfold pyNext; refine wpAny_bind (wpAny_attempt (wpAny_callSpecial?_slot (name := Str.ofString "__next__") st.typeIs slot_tupleiter_next (wpAny_call_entry slot_tupleiter_next st.typeIs entry_tupleiter_next ?_ (args_tupleiter_next _))))
  show wpAny _ _ (field (.ref z) 0 >>= _) _ _ s; refine wpAny_bind (wpAny_field hz dz (x := .ref l) rfl ?_)
  show wpAny _ _ (if (Value.ref l == Value.none) = true then _ else _) _ _ s; rw [if_neg (show ¬ ((Value.ref l == Value.none) = true) from Bool.false_ne_true)]
  show wpAny _ _ (field (.ref z) 1 >>= _) _ _ s; refine wpAny_bind (wpAny_field hz dz (x := .int i 0) rfl ?_)
  show wpAny _ _ (seqItems? (.ref l) >>= _) _ _ s; refine wpAny_bind (wpAny_seqItems hl dl ?_)
  simp only [Int.toNat_natCast, out]
  refine wpAny_bind (wpAny_rule (wpAny_bind (wpAny_setField hz dz (by simp) ?_)))
  show wpAny _ _ (newExc (.type "StopIteration") [] >>= _) _ _ _; refine wpAny_bind ?_
  simp only [newExc, newTuple]; refine wpAny_bind (wpAny_newObj_type ?_ (by size_fits))
  refine wpAny_bind (m := firstArgMember _ _) (wpAny_of_eq (a := Value.none) (by first | rfl | (simp only [firstArgMember]; rfl)) ?_); refine wpAny_newObj_type ?_ (by size_fits)
  have e2 : ∀ b o, b ≠ z → s.heap.get? b = some o → (s.heap.update z (Obj.mapFields (·.setIfInBounds 0 Value.none))).get? b = some o := fun b o nb h => by
    rw [Heap.get?_update_other _ _ (Ne.symm nb)]
    exact h
  refine raiseNew_hot ⟨hh, o1, v1, Heap.get?_push_of_some _ (Heap.get?_push_of_some _ (e2 _ _ ne e1)), d1, c1⟩ (Nat.ne_of_lt (Heap.lt_size (Heap.get?_push_of_some _ (e2 _ _ ne e1)))) (Heap.get?_push_size _ rfl) rfl (by first | (simp; done) | (simp; omega) | (simp only [Array.size_append]; simp; omega)) ?_
  refine wpAny_bind (wpAny_isInstance (b := true) (T := "StopIteration") ⟨_, Heap.get?_update_self _ (Heap.get?_push_size _ rfl) rfl, rfl⟩ isSubtype_stop ?_)
  refine wpAny_pure (q _ fun b o nb h => ?_)
  rw [Heap.get?_update_other _ _ (Nat.ne_of_gt (Heap.lt_size (Heap.get?_push_of_some _ (e2 _ _ nb h))))]
  exact Heap.get?_push_of_some _ (Heap.get?_push_of_some _ (e2 _ _ nb h))
/-- (a, b, ..) = a tuple -/
theorem tup_stored {x : Addr} {env : Env} {es : List Expr} {k} {pos : Pos} {Q : Unit → Shared → Prop} (hot : HotAt A x s.heap) (isT : IsTup s.heap l xs) (n : (assignEach es env).length = xs.size) (star : (assignEach es env).findIdx? (·.1) = none)
    (go : ∀ h', Heap.ExtBut s.heap.objs.size s.heap h' → wpAny (model prog w) A (assignInOrder ((assignEach es env).map (·.2)) xs.toList) Q E { s with heap := h' }) : wpAny (model prog w) A (assign (.Tuple es k pos) env (.ref l)) Q E s := by
  rw [assign_Tuple]; refine wpAny_bind (wpAny_standAt ?_)
  unfold unpack
  rw [n, star]; refine wpAny_bind (wpAny_holding ?_)
  have apart : l ≠ s.heap.objs.size := by obtain ⟨o, h, _⟩ := isT; exact Nat.ne_of_lt (Heap.lt_size h)
  obtain ⟨hh, o1, v1, e1, d1, c1⟩ := hot
  have ax : x ≠ s.heap.objs.size := Nat.ne_of_lt (Heap.lt_size e1)
  unfold unpackItems; refine wpAny_bind ?_
  unfold notIterableAtAll; refine wpAny_bind (wpAny_specialOf isT.typeIs slot_tuple_iter.lookup ?_)
  refine wpAny_pure ?_; simp only [Bool.false_eq_true, if_false]
  refine wpAny_bind (wpAny_holding (iter_tuple isT ?_)); refine wpAny_bind (wpAny_holding (draw_tuple apart xs.size 0 _ _ ⟨_, Heap.get?_push_size _ rfl, rfl, rfl⟩ (isT.push _) (by omega) fun h1 st1 but1 => ?_))
  have whole : List.take xs.size (List.drop 0 xs.toList) = xs.toList := by rw [List.drop_zero]; exact List.take_of_length_le (by simp)
  rw [whole]; rw [if_neg (by simp)]
  have isT1 : IsTup h1 l xs := (isT.push _).extBut but1.extBut apart
  have hot1 : HotAt A x h1 := ⟨hh, o1, v1, (but1.2 x ax).trans (Heap.get?_push_of_some _ e1), d1, c1⟩
  refine wpAny_bind (wpAny_holding (tup_end hot1 st1 isT1 (by simp) fun h2 ext2 => ?_)); simp only [Option.isSome_none, Bool.false_eq_true, if_false]
  exact wpAny_pure (go h2 fun b o nb e => ext2 b o nb (but1.extBut b o nb (Heap.get?_push_of_some _ e)))
end
end Kx.Hot
/-! A try with several clauses, of one class or of five; the context of what is caught is None. -/
namespace Kx.N
open PySem PyProof.Rows L2 PySem.Spec

section
variable {M : Model} {K : PySem.W.Frag}
open PySem.W PySem.Calls
/-- a tuple of five classes is asked -/
theorem exm5 {a1 a2 a3 a4 a5 cls : Value} {tp x : Addr} {y : Bool} {h : Heap} (inK : K.In h) (ty : Looks M h (typeOf (.ref x)) cls) (here : h.get? tp = some { cls := .type "tuple", data := .seq [a1, a2, a3, a4, a5].toArray }) (hx : exmAny K cls [a1, a2, a3, a4, a5] = some y) :
    Looks M h (excMatches (.ref x) (.ref tp)) y := by
  intro A Q E s k0 q
  obtain ⟨hh, gz, d, tk, os⟩ := s
  have k : ∀ b o, h.get? b = some o → hh.get? b = some o := k0
  have isT : Looks M h (isInstance (.ref tp) (.type "tuple")) true := ((Looks.ld here).andThen .now).andThen (Looks.of_pure isSubtype_tuple_tuple)
  obtain ⟨b1, r1, o1, hx, z1⟩ := exmAny_cons hx
  obtain ⟨b2, r2, o2, hx, z2⟩ := exmAny_cons hx
  obtain ⟨b3, r3, o3, hx, z3⟩ := exmAny_cons hx
  obtain ⟨b4, r4, o4, hx, z4⟩ := exmAny_cons hx
  obtain ⟨b5, r5, o5, hx, z5⟩ := exmAny_cons hx
  obtain rfl : false = r5 := Option.some.inj hx
  have both : ∀ {c : Value} {v : Bool}, exmOne K cls c = some v → Looks M hh (isExcClass c) true ∧ Looks M hh (isSubtype cls c) v := fun o => ⟨(exm_cls (M := M) inK o).1.keeps k, (exm_cls (M := M) inK o).2.keeps k⟩
  obtain ⟨u1, w1⟩ := both o1
  obtain ⟨u2, w2⟩ := both o2
  obtain ⟨u3, w3⟩ := both o3
  obtain ⟨u4, w4⟩ := both o4
  obtain ⟨u5, w5⟩ := both o5
  have ty := ty.keeps k
  have isT := isT.keeps k
  have at_ := k _ _ here
  subst z1 z2 z3 z4 z5
  unfold excMatches; refine wpAny_bind (isT.at ?_)
  dsimp only; rw [if_pos rfl]
  first
    | exact wpAny_bind (wpAny_seqItems at_ rfl (by dsimp only [Option.getD_some, Option.getD]; cases b1 <;> cases b2 <;> cases b3 <;> cases b4 <;> cases b5 <;> ((repeat (first | simp only [List.forIn_cons, List.forIn_nil, Bool.not_true, Bool.false_eq_true, if_false, if_true] | lk)); exact q)))
    | exact wpAny_bind (wpAny_bind (wpAny_seqItems at_ rfl (wpAny_pure (by dsimp only [Option.getD_some, Option.getD]; cases b1 <;> cases b2 <;> cases b3 <;> cases b4 <;> cases b5 <;> ((repeat (first | simp only [List.forIn_cons, List.forIn_nil, Bool.not_true, Bool.false_eq_true, if_false, if_true] | lk)); exact q)))))
theorem exm_single {cls c : Value} {y : Bool} (h : exmAny K cls [c] = some y) : exmOne K cls c = some y := by
  obtain ⟨b, r, o, hx, z⟩ := exmAny_cons h
  obtain rfl : false = r := Option.some.inj hx
  rw [z, Bool.or_false]
  exact o
end
theorem fly_keeps {G : Heap} {l : List Env} {x : Addr} {Z : Obj → Prop} {h h' : Heap} (f : HandSPX.FlyingZ G l x Z h) (k : ∀ b o, h.get? b = some o → h'.get? b = some o) : HandSPX.FlyingZ G l x Z h' := by
  obtain ⟨f1, f2, f3, ob, ws, T, ot, ts, e1, e2, e3, e4, e5, e6, e7, e8, e9⟩ := f
  exact ⟨fun b o q => k b o (f1 b o q), f2, f3.of_keeps fun b o q _ => ⟨o, k b o q, rfl⟩, ob, ws, T, ot, ts, k _ _ e1, e2, e3, e4, e5, e6, k _ _ e7, e8, e9⟩
/-- an error that came down to this frame and whose flight is over; `old` is the state without it -/
structure Down (X : Cx) (pins : List (Addr × Obj)) (σ : L2.St) (H : Hp) (x : Addr) (cls : Value) (d : Option Addr) (G : Heap) (old now : Shared) : Prop where
  was : Inv X pins σ H old
  low : ∀ b o, old.heap.get? b = some o → b ∉ frs X.stack → G.get? b = some o
  up : old.heap.UpToSlots now.heap
  fly : HandSPX.FlyingZ G (X.env :: X.outer) x (L2N.Zn cls d) now.heap
  fresh : H x = none
  sys : now.os = old.os
  bare : AllBare now.gens
section
variable {X : Cx} {pins : List (Addr × Obj)} {σ : L2.St} {H : Hp} {x : Addr} {cls : Value} {d : Option Addr} {G : Heap} {old now : Shared}
theorem Down.inv (D : Down X pins σ H x cls d G old now) : Inv X pins σ H now := D.was.landed D.low D.fly.1 D.up D.sys D.bare
/-- the record, and that it is no frame -/
theorem Down.rec_ (D : Down X pins σ H x cls d G old now) (hf : X.env.frame = some X.env.locals) :
    ∃ (ob : Obj) (vs : Array Value), now.heap.get? x = some ob ∧ L2N.Zn cls d ob ∧ ob.data = .fields vs ∧ x ≠ X.env.locals ∧ x ∉ X.fs := by
  obtain ⟨ob, vs, h1, h2, h3⟩ := D.fly.there
  have out : x ∉ frs (X.env :: X.outer) := by
    intro hm
    obtain ⟨_, ob2, h4, h5⟩ := D.fly.2.2.1.mem hm
    rw [h1] at h4
    cases h4
    exact h5 _ h3
  refine ⟨ob, vs, h1, h2, h3, fun z => out ?_, fun hm => out ?_⟩
  · exact List.mem_filterMap.mpr ⟨_, List.mem_cons_self, by rw [hf, z]⟩
  · obtain ⟨e1, h6, h7⟩ := List.mem_filterMap.mp hm
    exact List.mem_filterMap.mpr ⟨e1, List.mem_cons_of_mem _ h6, h7⟩
/-- within a suite -/
theorem Down.held (D : Down X pins σ H x cls d G old now) (hf : X.env.frame = some X.env.locals) :
    ∃ ob : Obj, now.heap.get? x = some ob ∧ L2N.Zn cls d ob ∧ (∃ vs, ob.data = .fields vs) ∧ Inv (X.suite x ((x, ob) :: (X.pn ++ pins))) [] σ H now := by
  obtain ⟨ob, vs, h1, h2, h3, h4, h5⟩ := D.rec_ hf
  exact ⟨ob, h1, h2, ⟨vs, h3⟩, D.inv.suite h1 h3 D.fresh h4 h5⟩
/-- no clause takes it: it goes on -/
theorem Down.goes {pos : Pos} {E : Ends} {W : WX} (D : Down X pins σ H x cls d G old now) (hs : X.stack = X.env :: X.outer) (hf : X.env.frame = some X.env.locals) (tk : L2N.Takes X W) (hw : W cls d σ H) :
    wpAny (model X.prog X.w) X.A (handleBy (.ref x) X.env []) (SP X pins E) X.xe now := by
  obtain ⟨_, _, _, ob, vs, T, _, _, h1, _, h3, h4, _⟩ := D.fly
  have away : wpAny (model X.prog X.w) X.A (setFlight (.ref x) X.env.frame) (fun _ s => wpAny (model X.prog X.w) X.A (throw (.ref x) : Sem Flow) (SP X pins E) X.xe s) X.xe now := by
    rw [hf]
    refine HandSPX.setFlight_upZ D.fly fun h' held up' => wpAny_throw (tk _ _ ⟨x, G, old, pins, σ, H, cls, d, rfl, D.was, D.low, D.up.trans up', ?_, D.fresh, D.sys, D.bare, hw⟩)
    rw [hs]
    exact .inr (.inr held)
  refine wpAny_handleBy_nil (wpAny_bind (wpAny_field h1 h3 h4 ?_))
  have some_ : ¬ ((Value.ref T == Value.none) = true) := by simp
  rw [if_neg some_]
  first
    | exact wpAny_bind away
    | exact wpAny_bind (wpAny_pure (wpAny_bind away))
end
/-- one clause: the class it names, the place of its name, its suite's reading -/
abbrev Clause : Type := List Value × Nat × (Addr → Value → Option Addr → TS)
/-- behind a suite the name at i is gone -/
def bare (E : Ends) (i : Nat) : Ends where
  nx := fun σ H => E.nx (σ.set i none) H
  rt := E.rt
  bk := fun σ H => E.bk (σ.set i none) H
  ct := fun σ H => E.ct (σ.set i none) H
/-- what is asked of an error that the body lets out -/
def asks (K : PySem.W.Frag) (W : WX) (E : Ends) : List Clause → WX
  | [] => W
  | k :: r => fun cls d σ H => ∃ y, PySem.W.exmAny K cls k.1 = some y ∧ (y = true → ∀ x, H x = none → k.2.2 x cls d (bare E k.2.1) (σ.set k.2.1 (some (.ref x))) H) ∧ (y = false → asks K W E r cls d σ H)
inductive Clauses (X : Cx) : List ExceptHandler → List Clause → Prop
  | nil : Clauses X [] []
  | cons {nm n : Str} {i : Nat} {c : Value} {t : Addr → Value → Option Addr → TS} {st : Stmt} {more : List Stmt} {p1 p2 : Pos} {hs : List ExceptHandler} {ks : List Clause} (nd : X.N.Nodup) (at_ : X.N[i]? = some n) (loc : X.env.kindOf n = some .local) (cl : Names X nm c)
      (su : ∀ (x : Addr) (ob : Obj) (cls : Value) (d : Option Addr) (pn : List (Addr × Obj)), L2N.Zn cls d ob → (∃ vs, ob.data = .fields vs) → PSs (X.suite x ((x, ob) :: pn)) (st :: more) (t x cls d)) (rest : Clauses X hs ks) :
      Clauses X (.ExceptHandler (some (.Name nm p1)) (some n) (st :: more) p2 :: hs) (([c], i, t) :: ks)
  | five {m1 m2 m3 m4 m5 n : Str} {i kk : Nat} {c1 c2 c3 c4 c5 : Value} {t : Addr → Value → Option Addr → TS} {st : Stmt} {more : List Stmt} {p1 p2 p3 p4 p5 p6 p7 : Pos} {hs : List ExceptHandler} {ks : List Clause} (nd : X.N.Nodup) (at_ : X.N[i]? = some n) (loc : X.env.kindOf n = some .local)
      (l1 : Names X m1 c1) (l2 : Names X m2 c2) (l3 : Names X m3 c3) (l4 : Names X m4 c4) (l5 : Names X m5 c5)
      (su : ∀ (x : Addr) (ob : Obj) (cls : Value) (d : Option Addr) (pn : List (Addr × Obj)), L2N.Zn cls d ob → (∃ vs, ob.data = .fields vs) → PSs (X.suite x ((x, ob) :: pn)) (st :: more) (t x cls d)) (rest : Clauses X hs ks) :
      Clauses X (.ExceptHandler (some (.Tuple [.Name m1 p1, .Name m2 p2, .Name m3 p3, .Name m4 p4, .Name m5 p5] kk p6)) (some n) (st :: more) p7 :: hs) (([c1, c2, c3, c4, c5], i, t) :: ks)
section
variable {X : Cx} {pins : List (Addr × Obj)} {σ : L2.St} {H : Hp} {x : Addr} {cls : Value} {d : Option Addr} {G : Heap} {old now : Shared} {E : Ends} {W : WX}
theorem name_there {nm : Str} {c : Value} {p1 : Pos} {ob : Obj} {Q E' : Value → Shared → Prop} (cl : Names X nm c) (J : Inv (X.suite x ((x, ob) :: (X.pn ++ pins))) [] σ H now) (q : Q c now) :
    wpAny (model X.prog X.w) (X.A.mark (some (.ref x))) (eval (.Name nm p1) X.env) Q E' now := by
  obtain ⟨g, db, m | ⟨m, b, nn⟩⟩ := cl
  · exact ld_glob J g m q db
  · exact ld_blt J g m b q nn db
theorem Down.clauses (D : Down X pins σ H x cls d G old now) (hs : X.stack = X.env :: X.outer) (hf : X.env.frame = some X.env.locals) (tk : L2N.Takes X W) {hds : List ExceptHandler} {ks : List Clause} (C : Clauses X hds ks) (w : asks X.K W E ks cls d σ H) :
    wpAny (model X.prog X.w) X.A (handleBy (.ref x) X.env hds) (SP X pins E) X.xe now := by
  induction C generalizing now with
  | nil => exact D.goes (pos := ⟨0, 0, 0, 0⟩) hs hf tk w
  | @cons nm n i c t st more p1 p2 hs' ks' nd at_ loc cl su rest ih =>
    obtain ⟨y, hy, yes, no⟩ := w
    obtain ⟨ob, h1, h2, h3, J⟩ := D.held hf
    refine wpAny_handleBy_cons (codeAny_handlers_test (name_there cl J ?_)) (fun z => nomatch z)
    have ty : PySem.W.Looks (model X.prog X.w) now.heap (typeOf (.ref x)) cls := fun _ _ _ _ k q => wpAny_typeOf_ref (k _ _ h1) (by rw [h2.1]; exact q)
    refine (PySem.W.exm_one D.inv.kIn ty (exm_single hy)).here ?_
    cases y with
    | false => exact ih D (no rfl)
    | true =>
      refine codeAny_handlers_suite_as (HandSPX.lands_againZ D.fly fun h' fl up' => ?_)
      have D' : Down X pins σ H x cls d G old { now with heap := h' } := ⟨D.was, D.low, D.up.trans up', fl, D.fresh, D.sys, D.bare⟩
      obtain ⟨ob', _, g2, g3, J'⟩ := D'.held hf
      refine store_ok (X := X.suite x ((x, ob') :: (X.pn ++ pins))) (v := .ref x) J' nd at_ (.inl loc) rfl (fun s2 J2 => ?_) (.inr loc)
      refine wpAny_mono ((su x ob' cls d (X.pn ++ pins) g2 g3).run [] s2 _ H _ J2 (yes rfl x D.fresh)) (fun f s3 hf3 => ?_) (fun _ _ z => z.elim)
      have gone : ∀ {σ3 : L2.St} {H3 : Hp} {R : Shared → Prop}, Inv (X.suite x ((x, ob') :: (X.pn ++ pins))) [] σ3 H3 s3 → (∀ s4, Inv X pins (σ3.set i none) H3 s4 → R s4) →
          wpAny (model X.prog X.w) X.A (do bindName X.env n .none; unbindBehindTheSuite X.env n p2) (fun _ s4 => R s4) X.xe s3 := fun J3 q => gone_ok (J3.unsuite D.was.ok) nd at_ loc q
      match f, hf3 with
      | .next, ⟨_, _, J3, q⟩ => exact gone J3 fun _ J4 => ⟨_, _, J4, q⟩
      | .brk, ⟨_, _, J3, q⟩ => exact gone J3 fun _ J4 => ⟨_, _, J4, q⟩
      | .cont, ⟨_, _, J3, q⟩ => exact gone J3 fun _ J4 => ⟨_, _, J4, q⟩
      | .ret _, ⟨_, _, _, J3, r, q⟩ => exact gone J3 fun _ J4 => ⟨_, _, _, J4, r, q⟩
  | @five m1 m2 m3 m4 m5 n i kk c1 c2 c3 c4 c5 t st more p1 p2 p3 p4 p5 p6 p7 hs' ks' nd at_ loc l1 l2 l3 l4 l5 su rest ih =>
    obtain ⟨y, hy, yes, no⟩ := w
    obtain ⟨ob, h1, h2, h3, J⟩ := D.held hf
    refine wpAny_handleBy_cons (codeAny_handlers_test ?_) (fun z => nomatch z)
    refine wpAny_Tuple (wpAny_items_cons (name_there l1 J (wpAny_items_cons (name_there l2 J (wpAny_items_cons (name_there l3 J (wpAny_items_cons (name_there l4 J (wpAny_items_cons (name_there l5 J (wpAny_items_nil ⟨by size_fits, ?_⟩)))))))))))
    have kp : ∀ b o, now.heap.get? b = some o → (now.heap.push { cls := .type "tuple", data := .seq [c1, c2, c3, c4, c5].toArray }).get? b = some o := fun _ _ z => Heap.get?_push_of_some _ z
    have ty : PySem.W.Looks (model X.prog X.w) (now.heap.push { cls := .type "tuple", data := .seq [c1, c2, c3, c4, c5].toArray }) (typeOf (.ref x)) cls := fun _ _ _ _ k q => wpAny_typeOf_ref (k _ _ (kp _ _ h1)) (by rw [h2.1]; exact q)
    refine (exm5 (D.inv.kIn.keeps kp) ty (Heap.get?_push_size now.heap rfl) hy).here ?_
    have D5 : Down X pins σ H x cls d G old { now with heap := now.heap.push { cls := .type "tuple", data := .seq [c1, c2, c3, c4, c5].toArray } } := ⟨D.was, D.low, D.up.trans (Heap.UpToSlots.of_keeps kp), fly_keeps D.fly kp, D.fresh, D.sys, D.bare⟩
    cases y with
    | false => exact ih D5 (no rfl)
    | true =>
      refine codeAny_handlers_suite_as (HandSPX.lands_againZ D5.fly fun h' fl up' => ?_)
      have D' : Down X pins σ H x cls d G old { now with heap := h' } := ⟨D.was, D.low, D5.up.trans up', fl, D.fresh, D.sys, D.bare⟩
      obtain ⟨ob', _, g2, g3, J'⟩ := D'.held hf
      refine store_ok (X := X.suite x ((x, ob') :: (X.pn ++ pins))) (v := .ref x) J' nd at_ (.inl loc) rfl (fun s2 J2 => ?_) (.inr loc)
      refine wpAny_mono ((su x ob' cls d (X.pn ++ pins) g2 g3).run [] s2 _ H _ J2 (yes rfl x D.fresh)) (fun f s3 hf3 => ?_) (fun _ _ z => z.elim)
      have gone : ∀ {σ3 : L2.St} {H3 : Hp} {R : Shared → Prop}, Inv (X.suite x ((x, ob') :: (X.pn ++ pins))) [] σ3 H3 s3 → (∀ s4, Inv X pins (σ3.set i none) H3 s4 → R s4) →
          wpAny (model X.prog X.w) X.A (do bindName X.env n .none; unbindBehindTheSuite X.env n p7) (fun _ s4 => R s4) X.xe s3 := fun J3 q => gone_ok (J3.unsuite D.was.ok) nd at_ loc q
      match f, hf3 with
      | .next, ⟨_, _, J3, q⟩ => exact gone J3 fun _ J4 => ⟨_, _, J4, q⟩
      | .brk, ⟨_, _, J3, q⟩ => exact gone J3 fun _ J4 => ⟨_, _, J4, q⟩
      | .cont, ⟨_, _, J3, q⟩ => exact gone J3 fun _ J4 => ⟨_, _, J4, q⟩
      | .ret _, ⟨_, _, _, J3, r, q⟩ => exact gone J3 fun _ J4 => ⟨_, _, _, J4, r, q⟩
end
/-- try: body / except C as n: .. / except D as m: .. -/
theorem ps_tries {X : Cx} {body : List Stmt} {hd : ExceptHandler} {hds : List ExceptHandler} {ks : List Clause} {pos : Pos} {tb : WX → TS} {W : WX} (hs : X.stack = X.env :: X.outer) (hf : X.env.frame = some X.env.locals) (tk : L2N.Takes X W)
    (hb : ∀ (U : WX) (pn : List (Addr × Obj)) (xe : Value → Shared → Prop), L2N.Takes (X.tr pn xe) U → PassesOwn (model X.prog X.w) X.A X.env xe → PSs (X.tr pn xe) body (tb U)) (C : Clauses X (hd :: hds) ks) :
    PS X (.Try body (hd :: hds) [] [] pos) (fun E σ H => tb (asks X.K W E ks) E σ H) := by
  refine ⟨fun pins s σ H E I h => wpAny_Try_except ?_⟩
  have top : X.A.frames = some (X.env :: X.outer) := by rw [I.ok.frames, hs]
  have inner := hb (asks X.K W E ks) (X.pn ++ pins) (fun e s1 => wpAny (model X.prog X.w) X.A (noteFrame e X.env) (fun _ s2 => wpAny (model X.prog X.w) X.A (setFlight e none)
    (fun _ s3 => wpAny (model X.prog X.w) X.A (handleBy e X.env (hd :: hds)) (SP X pins E) X.xe s3) X.xe s2) X.xe s1) ?_ PassesOwn.looking
  · refine wpAny_mono (inner.run [] s σ H E (I.toTry _) h) (fun f s1 q => ?_) (fun _ _ z => z)
    match f, q with
    | .next, ⟨_, _, J, q⟩ => exact wpAny_execs_nil ⟨_, _, J.ofTry I.ok, q⟩
    | .brk, ⟨_, _, J, q⟩ => exact ⟨_, _, J.ofTry I.ok, q⟩
    | .cont, ⟨_, _, J, q⟩ => exact ⟨_, _, J.ofTry I.ok, q⟩
    | .ret _, ⟨_, _, _, J, r, q⟩ => exact ⟨_, _, _, J.ofTry I.ok, r, q⟩
  · rintro u s1 ⟨x, G, old, _, σ1, H1, cls, d, rfl, J, low, up, sky, fr, sys, bare, w⟩
    rw [show (X.tr (X.pn ++ pins) _).stack = X.env :: X.outer from hs] at sky
    refine L2N.Sky.land L2N.Zn.steady top hf sky fun h' fl up' => ?_
    exact Down.clauses (now := { s1 with heap := h' }) ⟨J.ofTry I.ok, low, up.trans up', fl, fr, sys, bare⟩ hs hf tk C w
end Kx.N
namespace Kx.Hot
open L2 L2H PySem PySem.Spec PyProof.Rows HotX
/-- a list walked where an error is handled -/
theorem turnL {P : Program} {w : World} {K : PySem.W.Frag} {tg : Expr} (a z : Addr) : TurnH P w K tg (Itl K a) [z] z (fun i h => h.IsListIter z a i) where
  mem := List.mem_singleton.mpr rfl
  obj := fun i h st b hb => by
    obtain rfl := List.mem_singleton.mp hb
    obtain ⟨o, e, c, d⟩ := st
    exact ⟨o, e, fun v q => by rw [d] at q; cases q⟩
  keep := fun i h h' st k => st.at fun o e => k z (List.mem_singleton.mpr rfl) o e
  item := fun X hP hw hK hc i pins s σ H E I hf st hg => by
    subst hP hw hK
    obtain ⟨xs, x, hq, hx⟩ := hg
    obtain ⟨us, rv, isL, _⟩ := I.list hq
    obtain ⟨u, hu, rz⟩ := rv.get hx
    obtain ⟨f0, f1, f2, f3, f4, f5⟩ := hf z (List.mem_singleton.mpr rfl)
    refine wpAny_pyNext_list_item st isL.isList (x := u) (by simpa using hu) fun h' st' but => ?_
    have J : Inv X pins σ H { s with heap := h' } := I.turned (t' := s.toks) (fun b o hb e => (but.2 b hb).trans e) f0 f1 f3 f4 f5
    obtain ⟨o, e, c, d⟩ := id st'
    exact ⟨u, rfl, go_of (s := { s with heap := h' }) e c d (by decide) ⟨x, H, J, rz, ⟨rfl, fun ys hy => (I.list_inj hy hq) ▸ hx⟩, st', fun b hb => (hf b hb).1⟩⟩
  done := fun X hP hw hK hc i pins s σ H E I hf st hg => by
    subst hP hw hK
    obtain ⟨xs, hq, hx⟩ := hg
    obtain ⟨us, rv, isL, _⟩ := I.list hq
    obtain ⟨f0, f1, f2, f3, f4, f5⟩ := hf z (List.mem_singleton.mpr rfl)
    have n := rv.length
    obtain ⟨x1, hot⟩ := hc.at I
    exact list_end hot st isL.isList (by simp; omega) fun h' eb => ⟨rfl, I.turned (t' := s.toks) (fun b o hb e => eb b o hb e) f0 f1 f3 f4 f5⟩
  self := fun _ _ _ _ _ st q => wpAny_pyIter_listiter st q
section
variable {X : Cx} {tg e : Expr} {te : TE}
theorem pi_listH (he : PE X e te) : PIH X tg e (iList X.K te) := by
  refine ⟨fun pins s σ H R I h => thn (he.run pins s σ H _ I h) fun u t ⟨x, H1, J, rx, a, ex, ⟨xs, hx⟩, q⟩ => ?_⟩
  subst ex
  obtain rfl := (show u = Value.ref a from rx)
  obtain ⟨_, _, isL, _⟩ := J.list hx
  refine wpAny_pyIter_list isL.isList ⟨_, [t.heap.objs.size], _, _, H1, rfl, J.kept (t' := t.toks) fun b v z => Heap.get?_push_of_some _ z, turnL a _, ⟨_, Heap.get?_push_size _ rfl, rfl, rfl⟩, fun b hb => ?_, q⟩
  obtain rfl := List.mem_singleton.mp hb
  exact J.fpOk (Nat.le_refl _) (J.hok.fresh (Nat.le_refl _))
theorem pg_tupH {es : List Expr} {k : Nat} {t : TGs} {n : Nat} {pos : Pos} (hc : HotC X) (h : PGs X es t) (hn : (assignEach es X.env).length = n := by rfl) (hst : (assignEach es X.env).findIdx? (·.1) = none := by rfl) : PG X (.Tuple es k pos) (gTup X.K n t) := by
  refine ⟨fun pins s σ H v u Q I r asked => ?_⟩
  obtain ⟨a, xs, rfl, hq, hl, hw⟩ := asked
  cases r
  obtain ⟨us, rv, isT, _⟩ := I.tuple hq
  obtain ⟨x1, hot⟩ := hc.at I
  refine tup_stored hot isT (by simp [hn, ← hl, rv.length]) hst fun h' but => ?_
  exact h.run pins _ σ H xs _ Q (I.kept (t' := s.toks) fun b o e => but b o (Nat.ne_of_lt (Heap.lt_size e)) e) (by simpa using rv) hw
end
/-! ### a def that gets the error that is handled -/
/-- what such a def promises of the error p -/
structure FnE (P : Program) (w : World) (K : PySem.W.Frag) (mg : Str → Option Value) (base : Heap) (k : Nat) (f : Addr) (fd : FuncData) (ps : List Str) (sp : Addr × Obj → Sp) : Prop where
  len : ∀ p vs H Q E, sp p vs H Q E → vs.length = ps.length
  run : ∀ (A : Around) (outer : List Env) (s : Shared) (H : Hp) (args : Args) (us : List Value) (vs : List V) (Q : VK) (p : Addr × Obj), RoomH k A → Hot1 A p → PinOk outer H s p → Env0 P w K mg base A outer s H → BindsTo s fd args (ps.zip us) → Vals vs us → sp p vs H Q (fun _ _ _ => False) →
    codeAny (model P w) A (.call (.ref f) args) (CR CX0 outer P w H s Q (fun _ _ _ => False)) s
theorem FnE.of {P : Program} {w : World} {K : PySem.W.Frag} {mg : Str → Option Value} {base : Heap} {k : Nat} {f : Addr} {fd : FuncData} {x qual : Str} {params : Arguments} {body : List Stmt} {scope : Scope} {N ps : List Str} {sp : Addr × Obj → Sp} (F : FunD K x qual params body scope [] [] f fd) (S : FnScope N ps scope)
    (len : ∀ p vs H Q E, sp p vs H Q E → vs.length = ps.length)
    (hbody : ∀ (cdv : Value) (A : Around) (outer : List Env) (s : Shared) (H : Hp) (vs : List V) (Q : VK) (p : Addr × Obj), Hot1 A p → RoomH k (A.deeper (envOfC qual scope s.heap.objs.size f cdv)) → sp p vs H Q (fun _ _ _ => False) →
      ∃ t, PSs (cxH CX0 P w K mg base N qual scope f cdv A outer s H (fun _ _ _ => False) p) body t ∧ t { nx := fun _ H' => Q .non H', rt := Q } (L2.start N vs) H) : FnE P w K mg base (k + 1) f fd ps sp := by
  obtain ⟨oc, od, dV, kV, doc, pm, an, cdv, ct, osl, rfl, lk, hcd, -, -⟩ := F.ex
  refine ⟨len, fun A outer s H args us vs Q p hr hot pin e0 hb rel asked => ?_⟩
  have n := len _ _ _ _ _ asked
  have inK : K.In s.heap := e0.mod.kin.keeps fun b o e => (e0.bs b o e).1
  have wide : s.heap.NoLimit := e0.mod.nolimit.keeps fun b o e => (e0.bs b o e).1
  have kinds : ∀ y ∈ ps.zip us, scope.names.lookup y.1 = some .local ∨ (scope.names.lookup y.1 = some .cell ∧ ((cellsFrom (s.heap.objs.size + 1) scope.names []).lookup y.1).isSome = true) := by
    rintro ⟨m, v⟩ hy
    exact (S.par m (List.of_mem_zip hy).1).imp id fun q => ⟨q, PySem.W.cellsFrom_some _ _ _ (.inl q)⟩
  refine codeAny_call_function hr.depth (inK _ _ lk) rfl S.co S.gen rfl (PySem.W.codeRec_of inK hcd) (hb _ _ _ _ ?_)
  refine wpAny_newFunctionEnv_cells S.kind kinds fun env here s1 x => ?_
  subst here
  refine ⟨wide.keeps x.toInCall.keep, codeAny_func ?_⟩
  obtain ⟨t, ht, go⟩ := hbody cdv A outer s H vs Q p hot (hr.deeper _) asked
  have I : Inv (cxH CX0 P w K mg base N qual scope f cdv A outer s H (fun _ _ _ => False) p) [] (L2.start N vs) H s1 := inv_startH S pin e0 n rel x
  refine wpAny_mono (ht.run [] s1 (L2.start N vs) H _ I go) (fun fl s' z => ?_) fun _ _ z => z
  match fl, z with
  | .ret u, ⟨v, σ', H', J, rv, q⟩ => exact ⟨v, H', J.os, J.bare, J.base, J.hok, rv, q⟩
  | .next, ⟨σ', H', J, q⟩ => exact ⟨.non, H', J.os, J.bare, J.base, J.hok, rfl, q⟩
  | .brk, ⟨_, _, _, q⟩ => exact q.elim
  | .cont, ⟨_, _, _, q⟩ => exact q.elim
structure CalE (P : Program) (w : World) (K : PySem.W.Frag) (mg : Str → Option Value) (base : Heap) (k : Nat) (x : Str) (ps : List Str) (sp : Addr × Obj → Sp) : Prop where
  ex : ∃ (f : Addr) (fd : FuncData), mg x = some (.ref f) ∧ PySem.W.keepIn K (.ref f) = true ∧ Binds K fd ps [] ∧ FnE P w K mg base k f fd ps sp
/-- f(e) in the suite that holds the error -/
theorem pe_callE {X : Cx} {k j : Nat} {x : Str} {ps : List Str} {sp : Addr × Obj → Sp} {e : Expr} {es : List Expr} {t : TA} {p pos : Pos} {a : Addr} {ob : Obj} {cls : Value} {d : Option Addr} {pn : List (Addr × Obj)} (c : CalE X.prog X.w X.K X.mg X.base k x ps sp) (hr : Room j X.A) (hz : L2N.Zn cls d ob) (hf : ∃ vs, ob.data = .fields vs)
    (ha : PA (X.suite a ((a, ob) :: pn)) (e :: es) t) (hk : k ≤ j := by decide) (hg : Gl X x := by rfl) (hdb : (x == ("__debug__" : Str)) = false := by decide)
    (hz2 : starEach (e :: es) X.env = (false, eval e X.env) :: starEach es X.env := by rfl) (hpl : (backTo pos (starEach es X.env)).any (·.1) = false := by rfl) :
    PE (X.suite a ((a, ob) :: pn)) (.Call (.Name x p) (e :: es) [] pos) (fun σ H Q => t σ H fun vs H1 => sp (a, ob) vs H1 Q (fun _ _ _ => False)) := by
  obtain ⟨f, fd, c1, c2, c3, F⟩ := c.ex
  refine ⟨fun pins s σ H Q I h => wpAny_Call_Name_kw (ld_glob (X := X.suite a ((a, ob) :: pn)) I hg c1 ?_ hdb)⟩
  refine PySem.W.callWith_K (h₀ := X.base) I.ok.mod.kin c2 (thn (ha.run pos pins s σ H _ I h) fun us s1 ⟨vs, H1, J, rel, q⟩ => ⟨J.kIn, ?_⟩) hz2 hpl
  obtain ⟨g0, n0, nL, nF, nc⟩ := J.pin (a, ob) (List.mem_append_left _ List.mem_cons_self)
  have pin : PinOk X.stack H1 s1 (a, ob) := ⟨g0, n0, fun m => (List.mem_cons.mp (J.stkSub a m)).elim nL nF, nc⟩
  have hot : Hot1 (X.suite a ((a, ob) :: pn)).A (a, ob) := ⟨rfl, hf.elim fun vs z => ⟨vs, z, hz.2.2 vs z⟩⟩
  have n : (us ++ []).length = ps.length := by rw [List.append_nil, ← rel.length]; exact F.len _ _ _ _ _ q
  have b := c3 s1 us J.kIn n
  rw [List.append_nil] at b
  have room : RoomH k (X.suite a ((a, ob) :: pn)).A := ⟨(hr.mono hk).dp, (hr.mono hk).un⟩
  refine wpAny_call (codeAny_mono (F.run _ X.stack s1 H1 ⟨us, []⟩ us vs Q (a, ob) room hot pin J.env0 b rel q) fun r s2 z => ?_)
  match r, z with
  | .error _, z => exact z.elim
  | .ok (.ret _), z => exact J.after z
  | .ok .next, z => exact z.elim
  | .ok .brk, z => exact z.elim
  | .ok .cont, z => exact z.elim
/-- isinstance(e, c), e the error that a def got -/
theorem call_isH {X : Cx} {a D d : Addr} {ob : Obj} (C : ExcC X.K D) (hp : (a, ob) ∈ X.pn) (hz : Zc (.ref D) (some d) ob) (hf : ∃ vs, ob.data = .fields vs) :
    CallR X (.builtin "isinstance") (fun xs H Q => (∃ fs, H d = some (.xd fs)) ∧ rIsE X.K D a xs H Q) := by
  rintro pins s σ H xs us Q I r ⟨⟨fs, hd⟩, c, cv, b, rfl, hcv, e, q⟩
  cases r with
  | cons rx rr =>
    cases rr with
    | cons rt rr =>
      cases rr
      cases rx
      obtain rfl := hcv _ rt
      obtain ⟨g0, -⟩ := I.pin (a, ob) (List.mem_append_left _ hp)
      obtain ⟨vs, hv⟩ := hf
      obtain ⟨mA, hns, _⟩ := (show ObjOk X.prog X.w H s.heap d (.xd fs) from I.hok d _ hd)
      obtain ⟨od, hod, _⟩ := lookIn_ns hns
      have J : PySem.W.InstAt s.heap a ob D (some od) := by
        obtain ⟨c1, c2, c3, c4⟩ := ob
        obtain ⟨z1, z2⟩ := hz
        dsimp only at z1 z2 hv
        subst z1 z2 hv
        exact ⟨g0, rfl, rfl, hod⟩
      have cl : (PySem.W.clsIn X.K D).isSome = true := by
        obtain ⟨cd, hc, _⟩ := PySem.W.any_some C.hd
        rw [hc]
        rfl
      exact PySem.W.kia_one (PySem.W.kitx_exc cl C.hg C.hk C.hs C.ha C.hn C.ht C.hm) I.kIn J e (fun z => nomatch z) fun tk => ⟨.bl b, H, I.kept (t' := tk) fun _ _ z => z, rfl, q⟩
end Kx.Hot
/-! the text by places -/
namespace K5
open L2 PySem PySem.Spec PyProof.Rows Kx
def top (i : Nat) : Stmt := PySem.Challenge.pw_onewitness_k40_whole_counters_of_several.main.body.getD i (.Pass ⟨0, 0, 0, 0⟩)
abbrev s_BadMachine_init : Stmt := inClass (top 2) 0
abbrev s_BadRow_init : Stmt := inClass (top 3) 0
abbrev s_BadShowing_init : Stmt := inClass (top 4) 0
abbrev s_Refused_init : Stmt := inClass (top 5) 0
abbrev s_TooGreat_init : Stmt := inClass (top 6) 0
abbrev s_Forgets_init : Stmt := inClass (top 7) 0
abbrev s_NoState_init : Stmt := inClass (top 8) 0
abbrev s_is_number : Stmt := top 13
abbrev s_is_below : Stmt := top 14
abbrev s_is_sequence : Stmt := top 15
abbrev s_are_ascending : Stmt := top 16
abbrev s_first_not_below : Stmt := top 17
abbrev s_row_of : Stmt := top 18
abbrev s_Counters_init : Stmt := inClass (top 22) 0
abbrev s_Counters_eq : Stmt := inClass (top 22) 1
abbrev s_are_rests : Stmt := top 23
abbrev s_shows : Stmt := top 24
abbrev s_showing_of : Stmt := top 25
abbrev s_shown_of : Stmt := top 26
abbrev s_shown : Stmt := top 27
abbrev s_can_show : Stmt := top 28
abbrev s_check_showing : Stmt := top 29
abbrev s_merged : Stmt := top 31
abbrev s_checked : Stmt := top 32
abbrev s_need_kinds : Stmt := top 33
abbrev s_without_kinds : Stmt := top 34
abbrev s_left_showing : Stmt := top 35
abbrev s_Machine_init : Stmt := inClass (top 37) 0
abbrev s_Machine_eq : Stmt := inClass (top 37) 1
abbrev s_is_table : Stmt := top 38
abbrev s_law_box : Stmt := top 40
abbrev s_law_take : Stmt := top 41
abbrev s_law_pick : Stmt := top 42
abbrev s_law_mixed : Stmt := top 43
abbrev s_law_show : Stmt := top 44
abbrev s_law_numbers : Stmt := top 45
abbrev s_law_heard : Stmt := top 46
abbrev s_law : Stmt := top 47
abbrev FnP (K : PySem.W.Frag) (x : Str) (st : Stmt) (f : Addr) (fd : FuncData) : Prop := FunD K x x (defArgs st) (defBody st) (defScope st) [] [] f fd
/-- the built-in names that the module leaves alone, its numbers -/
structure Mg (mg : Str → Option Value) : Prop where
  z_KeyError : mg "KeyError" = none
  z_ValueError : mg "ValueError" = none
  z_abs : mg "abs" = none
  z_all : mg "all" = none
  z_bool : mg "bool" = none
  z_enumerate : mg "enumerate" = none
  z_int : mg "int" = none
  z_isinstance : mg "isinstance" = none
  z_len : mg "len" = none
  z_list : mg "list" = none
  z_max : mg "max" = none
  z_min : mg "min" = none
  z_range : mg "range" = none
  z_repr : mg "repr" = none
  z_tuple : mg "tuple" = none
  z_zip : mg "zip" = none
  g_DEEDS_MOST : ∃ t, mg "DEEDS_MOST" = some (.int 4 t)
  g_STATES_MOST : ∃ t, mg "STATES_MOST" = some (.int 8 t)
  g_ROW_MOST : ∃ t, mg "ROW_MOST" = some (.int 400 t)
  g_ROUND_MOST : ∃ t, mg "ROUND_MOST" = some (.int 60 t)
  g_REST_MOST : ∃ t, mg "REST_MOST" = some (.int 6 t)
theorem pe_constI {X : Cx} {x : Str} {i : Int} {pos : Pos} (h : ∃ t, X.mg x = some (.int i t)) (hg : Gl X x := by rfl) (hd : (x == ("__debug__" : Str)) = false := by decide) : PE X (.Name x pos) (tC (.int i)) := by
  obtain ⟨t, ht⟩ := h
  exact pe_glob hg ht ⟨t, rfl⟩ hd
theorem pe_ty {X : Cx} {x : Str} {n : String} {pos : Pos} (hm : X.mg x = none) (hv : bootBuiltins x = some (.type n)) (hg : Gl X x := by rfl) (hn : x ≠ "__name__" := by decide) (hd : (x == ("__debug__" : Str)) = false := by decide) : PE X (.Name x pos) (tC (.ty n)) :=
  pe_bltn hg hm hv rfl hn hd
theorem bt_int : bootBuiltins "int" = some (.type "int") := by decide +kernel
theorem bt_bool : bootBuiltins "bool" = some (.type "bool") := by decide +kernel
theorem bt_list : bootBuiltins "list" = some (.type "list") := by decide +kernel
theorem bt_tuple : bootBuiltins "tuple" = some (.type "tuple") := by decide +kernel
end K5
/-! t.count(k): a tuple known to have no attributes of its own; tuple(xs) makes such a one. -/
namespace Kx
open L2 PySem PySem.Spec PyProof.Rows
/-- a tuple without attributes -/
def TupD (H : Hp) (a : Addr) (xs : List V) : Prop := ∃ o : Obj, H a = some (.frz o (.tup xs)) ∧ o.dict = none
def SqD (K : PySem.W.Frag) (H : Hp) (a : Addr) (xs : List V) : Prop := SqL K H a xs ∨ TupD H a xs
section
variable {K : PySem.W.Frag} {H H' : Hp} {a : Addr} {xs : List V}
theorem TupD.sqT (h : TupD H a xs) : SqT K H a xs := h.elim fun o h => .inl (.inr ⟨o, h.1⟩)
theorem TupD.same (e : Same H H') (h : TupD H a xs) : TupD H' a xs := h.elim fun o h => ⟨o, e _ _ h.1, h.2⟩
theorem SqD.sq (h : SqD K H a xs) : Sq K H a xs := h.imp id TupD.sqT
theorem SqD.same (e : Same H H') (h : SqD K H a xs) : SqD K H' a xs := h.imp (sqL_same e) (TupD.same e)
end
section
variable {X : Cx}
/-- tuple(xs) -/
theorem call_tupD : CallR X (.type "tuple") (fun xs H Q => ∃ p ys, xs = [.ref p] ∧ SqD X.K H p ys ∧ ∀ q H', Same H H' → TupD H' q ys → Q (.ref q) H') := by
  intro pins st σ H xs us Q I r h
  obtain ⟨p, ys, rfl, h, q⟩ := h
  rcases h with hq | hq
  · obtain ⟨u, rfl, rx⟩ := vals1 r
    obtain rfl : u = .ref p := rx
    obtain ⟨its, rv, pl, fits⟩ := I.list hq
    have len := rv.length
    refine call_tuple_list pl.isList (fun mem kp => ?_) (by simp only [List.size_toArray]; omega)
    have J : Inv X pins σ H { st with heap := mem } := I.kept (t' := st.toks) kp
    have here := Heap.get?_push_size (h := mem) (o := { cls := .type "tuple", data := .seq its.toArray }) rfl
    have J2 : Inv X pins σ (upd H mem.objs.size (.frz { cls := .type "tuple", data := .seq its.toArray } (.tup ys))) { st with heap := mem.push { cls := .type "tuple", data := .seq its.toArray } } :=
      J.laid (t' := st.toks) (fun b o e => Heap.get?_push_of_some _ e) (Nat.le_refl _) ⟨here, fits, its, rv, IsTup.new _ _⟩
    exact ⟨.ref mem.objs.size, _, J2, rfl, q _ _ (same_new (J.hok.fresh (Nat.le_refl _))) ⟨_, upd_same, rfl⟩⟩
  · exact call_tuple_of pins st σ H _ us Q I r ⟨p, ys, rfl, .inr ⟨hq.sqT, q p H (Same.refl H) hq⟩⟩
/-- t.count(k) -/
def tCount (to : TE) (t : TA) : TE := fun σ H Q => to σ H fun x H1 => ∃ (p : Addr) (ns : List Int), x = .ref p ∧ TupD H1 p (ns.map V.int) ∧ t σ H1 fun ks H2 => ∃ k : Int, ks = [.int k] ∧ Same H1 H2 ∧ Q (.int (ns.count k : Nat)) H2
theorem pe_count {o e : Expr} {to : TE} {t : TA} {apos cpos : Pos} (ho : PE X o to) (ha : PA X [e] t)
    (hbase : attributeBase o "count" X.env (eval o X.env) = eval o X.env := by rfl)
    (hfew : ((backTo cpos (starEach [e] X.env)).all (fun x => !x.1) && (backToKw cpos (keywordEach [] X.env)).all (fun x => x.1.isSome) && decide ([e].length + ([] : List Keyword).length + (if ([] : List Keyword).isEmpty then 0 else 1) < 30)) = true := by rfl)
    (hline : (apos.endLine == cpos.line) = true := by exact rfl)
    (hs : starEach [e] X.env = (false, eval e X.env) :: starEach [] X.env := by rfl) (hplain : (backTo cpos (starEach [] X.env)).any (·.1) = false := by rfl) :
    PE X (.Call (.Attribute o "count" apos) [e] [] cpos) (tCount to t) := by
  refine ⟨fun pins st σ H Q I h => ?_⟩
  refine wpAny_Call_method_late hbase hfew hline rfl (thn (ho.run pins st σ H _ I h) fun v s1 ⟨x, H1, I1, r1, p, ns, ex, ⟨o, hp, od⟩, q1⟩ => ?_)
  subst ex
  obtain rfl : v = .ref p := r1
  obtain ⟨at_, _, its, rv, ⟨ot, ot1, ot2, _⟩⟩ := (show ObjOk X.prog X.w H1 s1.heap p (.frz o (.tup (ns.map V.int))) from I1.hok p _ hp)
  rw [at_] at ot1
  cases ot1
  refine ⟨"tuple", "tuple.count", PySem.F.plainAttrs_tuple, PySem.F.slot_tuple_count, PySem.F.type_tuple_count, ⟨o, at_, ot2⟩, fun a ea => ?_, ?_⟩
  · cases ea
    exact ⟨o, at_, od⟩
  have arg := ha.run cpos pins s1 σ H1 _ I1 q1
  rw [hs] at arg ⊢
  have plain : (false || (backTo cpos (starEach [] X.env)).any (·.1)) = false := by rw [hplain] <;> rfl
  refine Calls.callWith_builtin plain (Calls.evalArgs_plain ?_)
  refine thn arg fun us s2 ⟨ks, H2, I2, r2, k, ek, sm, q2⟩ => ?_
  subst ek
  obtain ⟨u, rfl, ru⟩ := r2.one
  obtain ⟨tk, rfl⟩ := ru
  obtain ⟨o2, hp2, od2⟩ := TupD.same sm (show TupD H1 p (ns.map V.int) from ⟨o, hp, od⟩)
  obtain ⟨at2, _, its2, rv2, ⟨ot2', ot3, ot4, n2, ot5⟩⟩ := (show ObjOk X.prog X.w H2 s2.heap p (.frz o2 (.tup (ns.map V.int))) from I2.hok p _ hp2)
  rw [at2] at ot3
  cases ot3
  obtain ⟨cls, dct, data, slo⟩ := o2
  simp only at ot4 ot5
  subst ot4 ot5
  have hi := ints_of_vals rv2
  refine call_meets PySem.F.slot_tuple_count ⟨_, at2, rfl⟩ PySem.F.entry_tuple_count (PySem.F.args_tuple_count_2 _ _)
    (SeqAt.tuple_countAt p its2.toArray n2 dct slo (.int k tk) (eqk k)) ⟨at2, fun y hy => (eqk_gives hi y (by simpa using hy)).at _ _, ?_⟩
  have ec : its2.toArray.toList.countP (eqk k) = ns.count k := eqk_count hi
  refine ⟨.int (ns.count k : Nat), H2, I2.tok _, ⟨s2.toks, ?_⟩, q2⟩
  rw [ec]
end
end Kx
/-! a tuple, that is not empty, times 0, 1, more -/
namespace Kx
open L2 PySem PySem.Spec PyProof.Rows
theorem times_one (t : Addr) (its : Array Value) (n : Nat) (dct : Option Addr) (slo : Array (Option Value)) (tk : Tok) :
    Meets (Builtin.«tuple.__mul__» ⟨[.ref t, .int 1 tk], []⟩) (fun _ R s => s.heap.get? t = some { cls := .type "tuple", dict := dct, data := .seq its n, slots := slo } ∧ R (.ok (.ret (.ref t))) s) :=
  .of_wp fun prog wo A R s h => by
    obtain ⟨mem, g, d, k, os⟩ := s
    obtain ⟨here, h⟩ := h
    have idx := AutoSeq1.idx_int
    have yes : (its.isEmpty || (1 : Int) == 1) = true := by rw [Bool.or_eq_true]; exact .inr rfl
    wp_walk using wpAny_loadPart' here
    repeat (first
      | (refine wpAny_ite_false (by decide) ?_; wp_walk using wpAny_loadPart' here)
      | (refine wpAny_ite_true (decide_eq_true yes) ?_; wp_walk using wpAny_loadPart' here))
    exact ⟨_, rfl, h⟩
theorem times_nought (t : Addr) (its : Array Value) (n : Nat) (dct : Option Addr) (slo : Array (Option Value)) (tk : Tok) (some_ : its.isEmpty = false) :
    Meets (Builtin.«tuple.__mul__» ⟨[.ref t, .int 0 tk], []⟩) (fun _ R s => s.heap.get? t = some { cls := .type "tuple", dict := dct, data := .seq its n, slots := slo } ∧ R (.ok (.ret (.ref s.heap.objs.size))) { s with heap := s.heap.push { cls := .type "tuple", data := .seq #[] } }) :=
  .of_wp fun prog wo A R s h => by
    obtain ⟨mem, g, d, k, os⟩ := s
    obtain ⟨here, h⟩ := h
    have idx := AutoSeq1.idx_int
    have no : (its.isEmpty || (0 : Int) == 1) = false := by rw [some_]; rfl
    have yes : (decide ((0 : Int) ≤ 0) || its.isEmpty) = true := rfl
    wp_walk using wpAny_loadPart' here
    repeat (first
      | (refine wpAny_ite_false (by decide) ?_; wp_walk using wpAny_loadPart' here)
      | (refine wpAny_ite_false (decide_eq_false (by rw [no]; exact Bool.false_ne_true)) ?_; wp_walk using wpAny_loadPart' here)
      | (refine wpAny_ite_true (decide_eq_true yes) ?_; wp_walk using wpAny_loadPart' here))
    exact ⟨_, rfl, h⟩
/-- t * k, t not empty -/
def rTimes (K : PySem.W.Frag) : R2 := fun x y H Q => ∃ (t : Addr) (k : Nat) (xs : List V), x = .ref t ∧ y = .int (k : Int) ∧ SqT K H t xs ∧ xs ≠ [] ∧ k ≤ 1000 ∧ xs.length ≤ 1000 ∧
  ∀ p H', Same H H' → SqT K H' p (List.replicate k xs).flatten → Q (.ref p) H'
theorem op_times {X : Cx} : OpR X (binaryOp .Mult) (rTimes X.K) := by
  intro pins st σ H x y v u Q I rx ry h
  obtain ⟨t, k, xs, rfl, rfl, hT, ne, hk, hz, q⟩ := h
  match k with
  | k + 2 =>
    refine op_repT pins st σ H _ _ v u Q I rx ry ⟨t, _, xs, rfl, rfl, hT, ne, by omega, by omega, hz, fun p hp => ?_⟩
    exact q p _ (same_new hp) (SqT.of upd_same)
  | 1 =>
    cases rx
    obtain ⟨tk, rfl⟩ := ry
    obtain ⟨its, r, ⟨⟨cls, dct, data, slo⟩, ho, hc, n, hd⟩, hs⟩ := I.tuple hT
    simp only at hc hd
    subst hc hd
    refine wpAny_binaryOp_repeat_ref (T := "tuple") (U := "int") (by decide) ⟨_, ho, rfl⟩ (fun s' => typeIs_int s' 1 tk) noFill_tuple_mul F.fills_int_mul F.slot_int_rmul repeat_tuple F.slot_int_index.lookup
      (call_meets F.slot_int_rmul (typeIs_int st 1 tk) F.entry_int_rmul (F.args_int_rmul_2 _ _) (int_rmul_tuple 1 tk t its.toArray n dct slo)
        ⟨ho, rfl, ⟨_, ho, rfl⟩, call_meets F.slot_tuple_mul ⟨_, ho, rfl⟩ F.entry_tuple_mul (F.args_tuple_mul_2 _ _) (times_one t its.toArray n dct slo tk) ⟨ho, ?_⟩⟩)
    have e : (List.replicate 1 xs).flatten = xs := by simp
    rw [e] at q
    exact ⟨.ref t, H, I, rfl, q t H (Same.refl H) hT⟩
  | 0 =>
    cases rx
    obtain ⟨tk, rfl⟩ := ry
    obtain ⟨its, r, ⟨⟨cls, dct, data, slo⟩, ho, hc, n, hd⟩, hs⟩ := I.tuple hT
    simp only at hc hd
    subst hc hd
    have full : its.toArray.isEmpty = false := by
      cases its with
      | nil =>
        cases r
        exact absurd rfl ne
      | cons a b => rfl
    refine wpAny_binaryOp_repeat_ref (T := "tuple") (U := "int") (by decide) ⟨_, ho, rfl⟩ (fun s' => typeIs_int s' 0 tk) noFill_tuple_mul F.fills_int_mul F.slot_int_rmul repeat_tuple F.slot_int_index.lookup
      (call_meets F.slot_int_rmul (typeIs_int st 0 tk) F.entry_int_rmul (F.args_int_rmul_2 _ _) (int_rmul_tuple 0 tk t its.toArray n dct slo)
        ⟨ho, rfl, ⟨_, ho, rfl⟩, call_meets F.slot_tuple_mul ⟨_, ho, rfl⟩ F.entry_tuple_mul (F.args_tuple_mul_2 _ _) (times_nought t its.toArray n dct slo tk full) ⟨ho, ?_⟩⟩)
    refine ⟨.ref st.heap.objs.size, _, I.laid (t' := st.toks) (o := .tup []) (fun b ob q => Heap.get?_push_of_some _ q) (Nat.le_refl _) ?_, rfl, q _ _ (same_new (I.hok.fresh (Nat.le_refl _))) (SqT.of upd_same)⟩
    exact ⟨Nat.zero_le _, _, .nil, IsTup.new _ _⟩
end Kx
/-! an own ==, and the != that comes of it: both answers. -/
namespace Kx
open L2 PySem PySem.Spec PyProof.Rows
/-- x == y (x != y), x an instance of the class at C, y another one or a tuple: what its own == promises, by k the answer -/
def rOwnAsk (K : PySem.W.Frag) (C : Addr) (sp : Sp) (E : XK) (neg : Bool) : R2 := fun x y H Q => ∃ (a b dx : Addr) (fs : List (Str × V)), x = .ref a ∧ y = .ref b ∧ H a = some (.ins C dx fs) ∧
  ((∃ (dy : Addr) (gs : List (Str × V)), H b = some (.ins C dy gs)) ∨ (neg = false ∧ (∃ ys, SqT K H b ys) ∧ PySem.W.notFirst K C (.type "tuple") = true)) ∧
  sp [x, y] H (fun v H' => ∃ k, v = .bl k ∧ Q (.bl (neg != k)) H') E
/-- what ==, != ask of the class at C, whose own == is at f -/
structure EqC (K : PySem.W.Frag) (C f : Addr) : Prop where
  eq : PySem.W.findIn K (.ref C) "__eq__" = some (some (.ref f))
  isFn : PySem.W.isFn K (.ref f) = true
  ne : ∃ (nm q : Str) (N : Addr) (bs : List Value) (hdct : Bool) (sn : List Str) (sub : List Value) (ab : Bool) (col : Option Bool) (dd : Option Addr) (k0 k1 k2 k3 k5 : Option Value) (newId : String) (oN oF : Obj) (es : Array DictEntry) (ep : Nat),
    K.lookup C = some (excClassObj nm q C N bs [.type "object"] hdct sn sub ab col dd k0 k1 k2 k3 k5 newId) ∧ K.lookup N = some oN ∧ oN.data = .dict es ep ∧ StrKeys es ∧ nsFind es "__eq__" = some (.ref f) ∧ nsFind es "__ne__" = none ∧ K.lookup f = some oF ∧ oF.cls = .type "function"
section
variable {X : Cx} {CX : CXT} {C f : Addr} {fd : FuncData} {ps : List Str} {n : Nat} {sp : Sp} {E : XK}
theorem own_eq (F : FnOk X.prog X.w X.K X.mg X.base CX n f fd ps sp) (T : EqC X.K C f) (hb : Binds X.K fd ps []) (hr : Room n X.A) (hx : Passes CX X E) : OpR X (compareOp .Eq) (rOwnAsk X.K C sp E false) := by
  intro pins st σ H x y v u Q I rx ry h
  obtain ⟨a, b, dx, fs, rfl, rfl, ha, hy, q⟩ := h
  obtain rfl : v = .ref a := rx
  obtain rfl : u = .ref b := ry
  obtain ⟨m1, J, _⟩ := ins_get I.hok ha
  obtain ⟨od, J, _⟩ := J.look
  obtain ⟨m, hF⟩ := I.fr
  have go : wpAny (model X.prog X.w) X.A (call (.ref f) [.ref a, .ref b]) (PySem.W.CmpBack (EP X pins σ Q)) X.xe st := by
    have hl := F.len _ _ _ _ q
    have both : Vals [V.ref a, V.ref b] [.ref a, .ref b] := .cons rfl (.cons rfl .nil)
    refine wpAny_call (codeAny_mono (F.run X.A X.stack st H ⟨[.ref a, .ref b], []⟩ [.ref a, .ref b] [.ref a, .ref b] _ E hr I.env0 (by
      have := hb st [.ref a, .ref b] I.kIn (by simpa using hl)
      simpa using this) both q) fun r s' z => ?_)
    match r, z with
    | .error e, z => exact hx pins σ H st e s' I z
    | .ok (.ret w), z =>
      obtain ⟨z', H', I', rz, k, ez, qz⟩ := I.after z
      subst ez
      cases rz
      refine (show EP X pins σ Q (.bool k) s' from ⟨.bl k, H', I', rfl, ?_⟩)
      have e : (false != k) = k := by cases k <;> rfl
      rw [e] at qz
      exact qz
    | .ok .next, z => exact z.elim
    | .ok .brk, z => exact z.elim
    | .ok .cont, z => exact z.elim
  show wpAny (model X.prog X.w) X.A (richCompare .Eq (.ref a) (.ref b)) (EP X pins σ Q) X.xe st
  rcases hy with ⟨dy, gs, hb'⟩ | ⟨_, ⟨ys, hT⟩, nf⟩
  · obtain ⟨m2, J2, _⟩ := ins_get I.hok hb'
    obtain ⟨od2, J2, _⟩ := J2.look
    exact PySem.W.cmp_K (op := .Eq) (tb := .ref C) hr.units0 hF I.ok.mod.kin J J2.type (by simp [PySem.W.notFirst]) T.eq T.isFn go
  · obtain ⟨its, _, ⟨o, ho, hc, _⟩, _⟩ := I.tuple hT
    exact PySem.W.cmp_K (op := .Eq) (tb := .type "tuple") hr.units0 hF I.ok.mod.kin J (fun A' Q' E' s' kp q' => wpAny_typeOf_ref (kp _ _ ho) (by rw [hc]; exact q')) nf T.eq T.isFn go
theorem own_ne (F : FnOk X.prog X.w X.K X.mg X.base CX n f fd ps sp) (T : EqC X.K C f) (hb : Binds X.K fd ps []) (hr : Room (n + 1) X.A) (hx : Passes CX X E) : OpR X (compareOp .NotEq) (rOwnAsk X.K C sp E true) := by
  intro pins st σ H x y v u Q I rx ry h
  obtain ⟨a, b, dx, fs, rfl, rfl, ha, hy, q⟩ := h
  obtain rfl : v = .ref a := rx
  obtain rfl : u = .ref b := ry
  obtain ⟨dy, gs, hb'⟩ : ∃ (dy : Addr) (gs : List (Str × V)), H b = some (.ins C dy gs) := hy.elim id fun z => nomatch z.1
  obtain ⟨m1, J, _⟩ := ins_get I.hok ha
  obtain ⟨m2, J2, _⟩ := ins_get I.hok hb'
  obtain ⟨od, J, _⟩ := J.look
  obtain ⟨od2, J2, _⟩ := J2.look
  obtain ⟨nm, qn, N, bs, hdct, sn, sub, ab, col, dd, k0, k1, k2, k3, k5, newId, oN, oF, es, ep, hC, hN, dN, sk, e1, e2, hF, cF⟩ := T.ne
  have O : st.heap.OwnEqNoNe a C f "object" [.type "object"] := ⟨_, oF, nm, qn, N, bs, hdct, sn, sub, ab, col, dd, k0, k1, k2, k3, k5, newId, fun y => nsFind es y, _, J.at_, J.cls, I.kIn _ _ hC, ⟨oN, es, ep, I.kIn _ _ hN, dN, sk, fun _ => rfl⟩, e1, I.kIn _ _ hF, cF, PySem.F.cmp_object.mro, PySem.F.cmp_object.eq.lookup, e2⟩
  obtain ⟨hp, g, d, t, os⟩ := st
  refine compareOp_ne_ownEq PySem.F.cmp_object O J2.at_ J2.cls (by have := hr.un; omega) ?_
  have hl := F.len _ _ _ _ q
  have both : Vals [V.ref a, V.ref b] [.ref a, .ref b] := .cons rfl (.cons rfl .nil)
  refine wpAny_call (codeAny_mono (F.run X.A.in1 X.stack _ H ⟨[.ref a, .ref b], []⟩ [.ref a, .ref b] [.ref a, .ref b] _ E hr.in1 I.env0.in1 (by
    have := hb ⟨hp, g, d, t, os⟩ [.ref a, .ref b] I.kIn (by simpa using hl)
    simpa using this) both q) fun r s' z => ?_)
  match r, z with
  | .error e, z => exact hx pins σ H _ e s' I z
  | .ok (.ret w), z =>
    obtain ⟨z', H', I', rz, k, ez, qz⟩ := I.after z
    subst ez
    cases rz
    refine ⟨k, rfl, .bl (!k), H', I', rfl, ?_⟩
    have e : (true != k) = !k := by cases k <;> rfl
    rw [e] at qz
    exact qz
  | .ok .next, z => exact z.elim
  | .ok .brk, z => exact z.elim
  | .ok .cont, z => exact z.elim
end
end Kx
/-! tuples of whole numbers, and tuples of such: as data, ==, != -/
namespace Kx
open L2 PySem PySem.Spec PyProof.Rows
abbrev dNums (ns : List Int) : PyData := .tuple (ns.map PyData.int)
abbrev dRows (rs : List (List Int)) : PyData := .tuple (rs.map dNums)
theorem dpAll_nums {K : PySem.W.Frag} {H : Hp} : ∀ (ns : List Int), DpAll K H (ns.map V.int) (ns.map PyData.int)
  | [] => .nil
  | n :: ns => .cons (.int n) (dpAll_nums ns)
theorem dp_nums {K : PySem.W.Frag} {H : Hp} {a : Addr} {ns : List Int} (h : SqT K H a (ns.map V.int)) : Dp K H (.ref a) (dNums ns) := .tup h (dpAll_nums ns)
theorem lay_nums : ∀ (ns : List Int), PyData.canLayAll0 (ns.map PyData.int) = true
  | [] => by simp only [List.map_nil, PyData.canLayAll0]
  | n :: ns => by simp only [List.map_cons, PyData.canLayAll0, PyData.canLay0, lay_nums ns, Bool.and_self]
theorem deep_nums : ∀ (ns : List Int), PyData.depthAll (ns.map PyData.int) = 0
  | [] => by simp only [List.map_nil, PyData.depthAll]
  | n :: ns => by simp only [List.map_cons, PyData.depthAll, PyData.depth, deep_nums ns, Nat.max_self]
theorem shaped_nums (ns : List Int) : SeqAt.shaped (dNums ns) = true := by
  unfold SeqAt.shaped
  simp only [PyData.canLay0, PyData.depth, lay_nums, deep_nums]
  decide
theorem eqv_nums : ∀ (xs ys : List Int), PyData.eqvAll (xs.map PyData.int) (ys.map PyData.int) = decide (xs = ys)
  | [], ys => by cases ys <;> simp [PyData.eqvAll]
  | n :: ns, [] => by simp [PyData.eqvAll]
  | x :: xs, y :: ys => by
    simp only [List.map_cons, PyData.eqvAll, PyData.eqv, eqv_nums xs ys]
    rw [Bool.eq_iff_iff]
    simp
theorem lay_rows : ∀ (rs : List (List Int)), PyData.canLayAll0 (rs.map dNums) = true
  | [] => by simp only [List.map_nil, PyData.canLayAll0]
  | n :: ns => by simp only [List.map_cons, PyData.canLayAll0, PyData.canLay0, lay_nums, lay_rows ns, Bool.and_self]
theorem deep_rows : ∀ (rs : List (List Int)), PyData.depthAll (rs.map dNums) ≤ 1
  | [] => by simp only [List.map_nil, PyData.depthAll]; decide
  | n :: ns => by
    have := deep_rows ns
    simp only [List.map_cons, PyData.depthAll, PyData.depth, deep_nums]
    omega
theorem shaped_rows (rs : List (List Int)) : SeqAt.shaped (dRows rs) = true := by
  unfold SeqAt.shaped
  have := deep_rows rs
  simp only [PyData.canLay0, PyData.depth, lay_rows, Bool.true_and]
  exact decide_eq_true (show _ ≤ 64 by omega)
theorem eqv_rows : ∀ (xs ys : List (List Int)), PyData.eqvAll (xs.map dNums) (ys.map dNums) = decide (xs = ys)
  | [], ys => by cases ys <;> simp [PyData.eqvAll]
  | n :: ns, [] => by simp [PyData.eqvAll]
  | x :: xs, y :: ys => by
    simp only [List.map_cons, PyData.eqvAll, PyData.eqv, eqv_nums x y, eqv_rows xs ys]
    rw [Bool.eq_iff_iff]
    simp
/-- t == u, t != u: tuples of whole numbers -/
def rNumsEq (K : PySem.W.Frag) (neg : Bool) : R2 := fun x y H Q => ∃ (a b : Addr) (xs ys : List Int), x = .ref a ∧ y = .ref b ∧ SqT K H a (xs.map V.int) ∧ SqT K H b (ys.map V.int) ∧ Q (.bl (neg != decide (xs = ys))) H
theorem op_eqNums {X : Cx} (hu : X.A.units + 64 < cLine) : OpR X (compareOp .Eq) (rNumsEq X.K false) := by
  intro pins st σ H x y v u Q I rx ry h
  obtain ⟨a, b, xs, ys, rfl, rfl, h1, h2, q⟩ := h
  refine op_eqD hu pins st σ H _ _ v u Q I rx ry ⟨_, _, dp_nums h1, dp_nums h2, shaped_nums xs, shaped_nums ys, ?_⟩
  simp only [PyData.eqv, eqv_nums]
  rwa [Bool.false_bne] at q
theorem op_neNums {X : Cx} (hu : X.A.units + 64 < cLine) : OpR X (compareOp .NotEq) (rNumsEq X.K true) := by
  intro pins st σ H x y v u Q I rx ry h
  obtain ⟨a, b, xs, ys, rfl, rfl, h1, h2, q⟩ := h
  refine op_neD hu pins st σ H _ _ v u Q I rx ry ⟨_, _, dp_nums h1, dp_nums h2, shaped_nums xs, shaped_nums ys, ?_⟩
  simp only [PyData.eqv, eqv_nums]
  rwa [Bool.true_bne] at q
end Kx
/-! numbers, sequences, rows -/
namespace K5
open PySem PySem.Spec PyProof.Rows L2 Kx
def isNum : V → Bool
  | .int i => decide (0 ≤ i)
  | _ => false
def isBel (l : Int) : V → Bool
  | .int i => decide (0 ≤ i) && decide (i < l)
  | _ => false
/-- what a value of known kind is as a sequence: its items, none where it is none -/
inductive Long (K : PySem.W.Frag) (H : Hp) : V → Option (List V) → Prop
  | seq {a : Addr} {xs : List V} (h : Sq K H a xs) : Long K H (.ref a) (some xs)
  | non : Long K H .non none
  | bl (b : Bool) : Long K H (.bl b) none
  | int (i : Int) : Long K H (.int i) none
  | str (x : Str) : Long K H (.str x) none
def inLen (l m : Int) : Option (List V) → Bool
  | some xs => decide (l ≤ (xs.length : Int)) && decide ((xs.length : Int) ≤ m)
  | none => false
theorem Long.same {K : PySem.W.Frag} {H H' : Hp} {v : V} {o : Option (List V)} (e : Same H H') (h : Long K H v o) : Long K H' v o := by
  cases h with
  | seq q => exact .seq (q.same e)
  | non => exact .non
  | bl b => exact .bl b
  | int i => exact .int i
  | str x => exact .str x
theorem Kn.long {K : PySem.W.Frag} {H : Hp} {v : V} (h : Kn K H v) : ∃ o, Long K H v o := by
  cases h with
  | seq q => exact ⟨_, .seq q⟩
  | non => exact ⟨_, .non⟩
  | bl b => exact ⟨_, .bl b⟩
  | int i => exact ⟨_, .int i⟩
  | str x => exact ⟨_, .str x⟩
theorem Long.kn {K : PySem.W.Frag} {H : Hp} {v : V} {o : Option (List V)} (h : Long K H v o) : Kn K H v := by
  cases h with
  | seq q => exact .seq q
  | non => exact .non
  | bl b => exact .bl b
  | int i => exact .int i
  | str x => exact .str x
/-- the first item that is not below l -/
def fnb (l : Int) : List V → Option Nat
  | [] => none
  | x :: xs => if isBel l x = true then (fnb l xs).map (· + 1) else some 0
def optV : Option Nat → V
  | some n => .int n
  | none => .non
/-- none: a row of deeds below n; else where it is wrong -/
def rowAt (n : Int) : Option (List V) → Option Int
  | some xs => if xs.length ≤ 400 then (fnb n xs).map (fun (i : Nat) => (i : Int)) else some (-1)
  | none => some (-1)
/-- every item is of a known kind, where the sequence is no longer than m -/
def Kns (K : PySem.W.Frag) (H : Hp) (o : Option (List V)) (m : Nat) : Prop := ∀ xs, o = some xs → xs.length ≤ m → ∀ x ∈ xs, Kn K H x
theorem Kns.same {K : PySem.W.Frag} {H H' : Hp} {o : Option (List V)} {m : Nat} (e : Same H H') (h : Kns K H o m) : Kns K H' o m := fun xs q l x hx => (h xs q l x hx).same e
/-- an error C of the one field f is raised -/
def Thrown (E : XK) (H : Hp) (C : Addr) (f : Str) (v : V) : Prop := ∀ d H', Same H H' → H' d = some (.xd [(f, v)]) → E (.ref C) (some d) H'
theorem Thrown.same {E : XK} {H H' : Hp} {C : Addr} {f : Str} {v : V} (e : Same H H') (h : Thrown E H C f v) : Thrown E H' C f v := fun d H2 e2 q => h d H2 (e.trans e2) q
theorem Thrown.at_ {E : XK} {H : Hp} {C : Addr} {f : Str} {v : V} (h : Thrown E H C f v) : ∀ d, H d = none → E (.ref C) (some d) (upd H d (.xd [(f, v)])) := fun d q => h d _ (same_new q) upd_same
theorem fnb_none {l : Int} : ∀ {xs : List V}, fnb l xs = none ↔ ∀ x ∈ xs, isBel l x = true
  | [] => by simp [fnb]
  | x :: xs => by
    unfold fnb
    by_cases h : isBel l x = true
    · rw [if_pos h, Option.map_eq_none_iff, fnb_none]
      exact ⟨fun q y hy => (List.mem_cons.mp hy).elim (fun e => e ▸ h) (q y), fun q y hy => q y (List.mem_cons_of_mem _ hy)⟩
    · rw [if_neg h]
      exact ⟨fun q => (nomatch q), fun q => absurd (q x (List.mem_cons_self ..)) h⟩
theorem fnb_some {l : Int} : ∀ {xs : List V} {i : Nat}, (∀ j x, j < i → xs[j]? = some x → isBel l x = true) → (∃ x, xs[i]? = some x ∧ isBel l x = false) → fnb l xs = some i
  | [], i, _, h => by obtain ⟨x, h, _⟩ := h; simp at h
  | x :: xs, 0, _, h => by
    obtain ⟨y, h1, h2⟩ := h
    have e : x = y := by simpa using h1
    unfold fnb
    rw [e, if_neg (by rw [h2]; exact Bool.false_ne_true)]
  | x :: xs, i + 1, hl, h => by
    unfold fnb
    rw [if_pos (hl 0 x (Nat.succ_pos i) rfl), fnb_some (i := i) (fun j y hj hy => hl (j + 1) y (Nat.succ_lt_succ hj) (by simpa using hy)) (by simpa using h)]
    rfl
/-- the errors' classes -/
structure Ad where
  cM : Addr
  cR : Addr
  cS : Addr
  cF : Addr
  cG : Addr
  cO : Addr
  cN : Addr
/-- what the module holds of its errors -/
structure Er (P : Program) (w : World) (K : PySem.W.Frag) (mg : Str → Option Value) (base : Heap) (a : Ad) : Prop where
  BadMachine : ErrN P w K mg base 1 "BadMachine" "at" a.cM
  BadRow : ErrN P w K mg base 1 "BadRow" "at" a.cR
  BadShowing : ErrN P w K mg base 1 "BadShowing" "at" a.cS
  Refused : ErrN P w K mg base 1 "Refused" "at" a.cF
def spNumber (K : PySem.W.Frag) : Sp := fun vs H Q _ => ∃ v, vs = [v] ∧ Kn K H v ∧ Q (.bl (isNum v)) H
def spBelow (K : PySem.W.Frag) : Sp := fun vs H Q _ => ∃ v l, vs = [v, .int l] ∧ Kn K H v ∧ Q (.bl (isBel l v)) H
def spSeq (K : PySem.W.Frag) : Sp := fun vs H Q _ => ∃ v l m o, vs = [v, .int l, .int m] ∧ Long K H v o ∧ ∀ H', Same H H' → Q (.bl (inLen l m o)) H'
def spFnb (K : PySem.W.Frag) : Sp := fun vs H Q _ => ∃ a xs l, vs = [.ref a, .int l] ∧ Sq K H a xs ∧ (∀ x ∈ xs, Kn K H x) ∧ ∀ H', Same H H' → Q (optV (fnb l xs)) H'
def spRowOf (K : PySem.W.Frag) (a : Ad) : Sp := fun vs H Q E => ∃ v o n, vs = [v, .int n] ∧ Long K H v o ∧ Kns K H o 400 ∧ (∀ i, rowAt n o = some i → Thrown E H a.cR "at" (.int i)) ∧
  (rowAt n o = none → ∃ b xs, v = .ref b ∧ o = some xs ∧ SqD K H b xs ∧ ∀ p H', Same H H' → TupD H' p xs → Q (.ref p) H')
/-- the type's name of such a value, where it is no int -/
theorem kn_ty {K : PySem.W.Frag} {H : Hp} {v : V} (h : Kn K H v) : (∃ i, v = .int i) ∨ ∃ n : String, TyX K H v (.type n) ∧ (n = "NoneType" ∨ n = "bool" ∨ n = "str" ∨ n = "list" ∨ n = "tuple") ∧ isNum v = false ∧ ∀ l, isBel l v = false := by
  cases h with
  | int i => exact .inl ⟨i, rfl⟩
  | non => exact .inr ⟨_, .base .non, by simp, rfl, fun _ => rfl⟩
  | bl b => exact .inr ⟨_, .base (.bl b), by simp, rfl, fun _ => rfl⟩
  | str x => exact .inr ⟨_, .base (.str x), by simp, rfl, fun _ => rfl⟩
  | seq q =>
    rcases q with q | q
    · exact .inr ⟨_, tyx_list q, by simp, rfl, fun _ => rfl⟩
    · exact .inr ⟨_, tyx_tuple q, by simp, rfl, fun _ => rfl⟩
theorem kit_int {K : PySem.W.Frag} {n : String} (h : n = "NoneType" ∨ n = "bool" ∨ n = "str" ∨ n = "list" ∨ n = "tuple") : ∃ b, PySem.W.kitOne K (.type n) (.type "int") = some b ∧ (b = true → PySem.W.kitOne K (.type n) (.type "bool") = some true) := by
  rcases h with rfl | rfl | rfl | rfl | rfl
  · exact ⟨false, kit_ty (by decide +kernel), fun z => nomatch z⟩
  · exact ⟨true, kit_ty (by decide +kernel), fun _ => kit_ty (by decide +kernel)⟩
  · exact ⟨false, kit_ty (by decide +kernel), fun z => nomatch z⟩
  · exact ⟨false, kit_ty (by decide +kernel), fun z => nomatch z⟩
  · exact ⟨false, kit_ty (by decide +kernel), fun z => nomatch z⟩
section
variable {P : Program} {w : World} {K : PySem.W.Frag} {mg : Str → Option Value} {base : Heap} {f : Addr} {fd : FuncData} {a : Ad}
theorem scis_number : FnScope ["value"] ["value"] (defScope s_is_number) := ⟨rfl, rfl, rfl, by decide +kernel, rfl, by decide +kernel, by decide +kernel⟩
theorem ok_is_number (F : FnP K "is_number" s_is_number f fd) (T : Mg mg) : FnOk P w K mg base CX0 1 f fd ["value"] (spNumber K) := by
  refine F.ok scis_number (fun vs H Q E h => ?_) (fun cdv A outer s H vs Q E hr h => ?_)
  · obtain ⟨v, rfl, _⟩ := h
    rfl
  · obtain ⟨v, rfl, hv, k⟩ := h
    refine ⟨_, PSs.nox (pss_one (ps_ret (pe_and (pe_callB call_isi (by rfl) T.z_isinstance (by decide +kernel) (pa_cons (pv 0) (pa_cons (pe_ty T.z_int bt_int) pa_nil))) (pe_and (pe_not (pe_callB call_isi (by rfl) T.z_isinstance (by decide +kernel) (pa_cons (pv 0) (pa_cons (pe_ty T.z_bool bt_bool) pa_nil)))) (pe_one (pe_cmpR op_ge (pv 0) pe_int (nomark _))))))), ?_⟩
    rcases kn_ty hv with ⟨i, rfl⟩ | ⟨n, ht, hn, e, _⟩
    · refine ⟨_, rfl, _, .ty "int", _, _, true, rfl, .ty _, .base (.int i), kit_ty (by decide +kernel), true, rfl, iteT ?_⟩
      refine ⟨_, rfl, _, .ty "bool", _, _, false, rfl, .ty _, .base (.int i), kit_ty (by decide +kernel), false, rfl, true, rfl, iteT ⟨_, rfl, _, _, rfl, rfl, ?_⟩⟩
      exact k
    · obtain ⟨b, hb, hb2⟩ := kit_int (K := K) hn
      rw [e] at k
      refine ⟨_, rfl, _, .ty "int", _, _, b, rfl, .ty _, ht, hb, b, rfl, ?_⟩
      cases b with
      | false => exact iteF k
      | true => exact iteT ⟨_, rfl, _, .ty "bool", _, _, true, rfl, .ty _, ht, hb2 rfl, true, rfl, false, rfl, iteF k⟩
theorem sc_is_below : FnScope ["value", "limit"] ["value", "limit"] (defScope s_is_below) := ⟨rfl, rfl, rfl, by decide +kernel, rfl, by decide +kernel, by decide +kernel⟩
theorem ok_is_below (F : FnP K "is_below" s_is_below f fd) (T : Mg mg) (c_is_number : Cal P w K mg base CX0 1 "is_number" ["value"] (spNumber K)) : FnOk P w K mg base CX0 2 f fd ["value", "limit"] (spBelow K) := by
  refine F.ok sc_is_below (fun vs H Q E h => ?_) (fun cdv A outer s H vs Q E hr h => ?_)
  · obtain ⟨v, l, rfl, _⟩ := h
    rfl
  · obtain ⟨v, l, rfl, hv, k⟩ := h
    refine ⟨_, PSs.nox (pss_one (ps_ret (pe_and (pe_callC c_is_number hr pass0 (pa_cons (pv 0) pa_nil)) (pe_one (pe_cmpR op_lt (pv 0) (pv 1) (nomark _)))))), ?_⟩
    refine ⟨_, rfl, v, rfl, hv, isNum v, rfl, ?_⟩
    cases e : isNum v with
    | false =>
      refine iteF ?_
      have e2 : isBel l v = false := by
        cases v <;> first | rfl | (have e' : decide _ = false := e; show (decide _ && decide _) = false; rw [e']; rfl)
      rw [e2] at k
      exact k
    | true =>
      refine iteT ?_
      obtain ⟨i, rfl⟩ : ∃ i, v = .int i := by
        cases v with
        | int i => exact ⟨i, rfl⟩
        | _ => cases e
      refine ⟨_, rfl, _, rfl, _, _, rfl, rfl, ?_⟩
      have e2 : isBel l (.int i) = decide (i < l) := by
        show (decide _ && decide _) = _
        rw [show decide (0 ≤ i) = true from e]
        rfl
      rw [e2] at k
      exact k
theorem sc_is_sequence : FnScope ["value", "least", "most"] ["value", "least", "most"] (defScope s_is_sequence) := ⟨rfl, rfl, rfl, by decide +kernel, rfl, by decide +kernel, by decide +kernel⟩
theorem kit_seq {K : PySem.W.Frag} {n : String} {b : Bool} (h1 : n = "list" ∨ n = "tuple" → b = true) (h2 : n = "NoneType" ∨ n = "bool" ∨ n = "str" ∨ n = "int" → b = false) (hn : (n = "list" ∨ n = "tuple") ∨ n = "NoneType" ∨ n = "bool" ∨ n = "str" ∨ n = "int") :
    PySem.W.kitAny K (.type n) [.type "list", .type "tuple"] = some b := by
  rcases hn with hn | hn
  · obtain rfl := h1 hn
    rcases hn with rfl | rfl
    · exact kitAny_cons (b := true) (kit_ty (by decide +kernel)) (fun z => nomatch z) (fun _ => rfl)
    · exact kitAny_cons (b := false) (kit_ty (by decide +kernel)) (fun _ => kitAny_cons (b := true) (kit_ty (by decide +kernel)) (fun z => nomatch z) (fun _ => rfl)) (fun z => nomatch z)
  · obtain rfl := h2 hn
    rcases hn with rfl | rfl | rfl | rfl
    · exact kitAny_cons (b := false) (kit_ty (by decide +kernel)) (fun _ => kitAny_cons (b := false) (kit_ty (by decide +kernel)) (fun _ => kitAny_nil) (fun z => nomatch z)) (fun z => nomatch z)
    · exact kitAny_cons (b := false) (kit_ty (by decide +kernel)) (fun _ => kitAny_cons (b := false) (kit_ty (by decide +kernel)) (fun _ => kitAny_nil) (fun z => nomatch z)) (fun z => nomatch z)
    · exact kitAny_cons (b := false) (kit_ty (by decide +kernel)) (fun _ => kitAny_cons (b := false) (kit_ty (by decide +kernel)) (fun _ => kitAny_nil) (fun z => nomatch z)) (fun z => nomatch z)
    · exact kitAny_cons (b := false) (kit_ty (by decide +kernel)) (fun _ => kitAny_cons (b := false) (kit_ty (by decide +kernel)) (fun _ => kitAny_nil) (fun z => nomatch z)) (fun z => nomatch z)
theorem long_ty {H : Hp} {v : V} {o : Option (List V)} (h : Long K H v o) : ∃ n : String, TyX K H v (.type n) ∧ PySem.W.kitAny K (.type n) [.type "list", .type "tuple"] = some o.isSome := by
  cases h with
  | non => exact ⟨_, .base .non, kit_seq (by simp) (by simp) (by simp)⟩
  | bl b => exact ⟨_, .base (.bl b), kit_seq (by simp) (by simp) (by simp)⟩
  | int i => exact ⟨_, .base (.int i), kit_seq (by simp) (by simp) (by simp)⟩
  | str x => exact ⟨_, .base (.str x), kit_seq (by simp) (by simp) (by simp)⟩
  | seq q =>
    rcases q with q | q
    · exact ⟨_, tyx_list q, kit_seq (by simp) (by simp) (by simp)⟩
    · exact ⟨_, tyx_tuple q, kit_seq (by simp) (by simp) (by simp)⟩
theorem ok_is_sequence (F : FnP K "is_sequence" s_is_sequence f fd) (T : Mg mg) : FnOk P w K mg base CX0 1 f fd ["value", "least", "most"] (spSeq K) := by
  refine F.ok sc_is_sequence (fun vs H Q E h => ?_) (fun cdv A outer s H vs Q E hr h => ?_)
  · obtain ⟨v, l, m, o, rfl, _⟩ := h
    rfl
  · obtain ⟨v, l, m, o, rfl, hv, k⟩ := h
    refine ⟨_, PSs.nox (pss_one (ps_ret (pe_and (pe_callB call_isiT (by rfl) T.z_isinstance (by decide +kernel) (pa_cons (pv 0) (pa_cons (pe_tup (pa_cons (pe_ty T.z_list bt_list) (pa_cons (pe_ty T.z_tuple bt_tuple) pa_nil))) pa_nil))) (pe_one (pe_chain op_le op_le (pv 1) (pe_callB call_len_seq (by rfl) T.z_len PySem.boot_len (pa_cons (pv 0) pa_nil)) (pv 2)))))), ?_⟩
    refine ⟨_, rfl, (by show 2 ≤ sizeLine; decide), fun p hp => ?_⟩
    have e := same_new (o := HO.tup [.ty "list", .ty "tuple"]) hp
    obtain ⟨n, ht, hk⟩ := long_ty (hv.same e)
    refine ⟨v, p, _, .type n, _, o.isSome, rfl, upd_same, .cons (.ty _) (.cons (.ty _) .nil), ht, hk, _, rfl, ?_⟩
    cases o with
    | none => exact iteF (k _ e)
    | some xs =>
      refine iteT ?_
      cases hv with
      | seq q =>
        have q' := q.same e
        refine ⟨_, rfl, _, rfl, _, _, rfl, q', _, _, rfl, rfl, decide (l ≤ (xs.length : Int)), rfl, ?_⟩
        refine ite2 (fun h1 => ?_) (fun h1 => ?_)
        · refine ⟨_, rfl, _, _, rfl, rfl, ?_⟩
          have k2 := k _ e
          rw [show inLen l m (some xs) = decide ((xs.length : Int) ≤ m) from by show (decide _ && _) = _; rw [h1]; rfl] at k2
          exact k2
        · have k2 := k _ e
          rw [show inLen l m (some xs) = false from by show (decide _ && _) = _; rw [Bool.eq_false_iff.mpr h1]; rfl] at k2
          exact k2
end
end K5
namespace K5
open PySem PySem.Spec PyProof.Rows L2 Kx
section
variable {P : Program} {w : World} {K : PySem.W.Frag} {mg : Str → Option Value} {base : Heap} {f : Addr} {fd : FuncData} {a : Ad}
theorem passC {X : Cx} {W : WX} {E : XK} (tk : L2N.Takes X W) (h : ∀ cls d σ H, E cls d H → W cls d σ H) : Passes (L2N.CX X.prog X.w) X E := L2N.passes_call tk h
theorem inLen_some {l m : Int} {xs : List V} : inLen l m (some xs) = (decide (l ≤ (xs.length : Int)) && decide ((xs.length : Int) ≤ m)) := rfl
theorem optV_non {o : Option Nat} : decide (optV o = V.non) = o.isNone := by
  cases o with
  | none => rfl
  | some n => exact decide_eq_false (fun z => nomatch z)
theorem sc_first_not_below : FnScope ["values", "limit", "at", "value"] ["values", "limit"] (defScope s_first_not_below) := ⟨rfl, rfl, rfl, by decide +kernel, rfl, by decide +kernel, by decide +kernel⟩
theorem ok_first_not_below (F : FnP K "first_not_below" s_first_not_below f fd) (T : Mg mg) (c_is_below : Cal P w K mg base CX0 2 "is_below" ["value", "limit"] (spBelow K)) : FnOk P w K mg base CX0 3 f fd ["values", "limit"] (spFnb K) := by
  refine F.ok sc_first_not_below (fun vs H Q E h => ?_) (fun cdv A outer s H vs Q E hr h => ?_)
  · obtain ⟨a, xs, l, rfl, _⟩ := h
    rfl
  · obtain ⟨a, xs, l, rfl, hx, hk, k⟩ := h
    refine ⟨_, PSs.nox (pss_cons (ps_for PassesOwn.never rfl (pi_pairs (by rfl) T.z_enumerate (pa_cons (pv 0) pa_nil)) (pg_tup rfl (pgs_cons (pg_name (i := 2) sc_first_not_below.nd rfl (by first | exact Or.inl rfl | exact Or.inr rfl)) (pgs_cons (pg_name (i := 3) sc_first_not_below.nd rfl (by first | exact Or.inl rfl | exact Or.inr rfl)) pgs_nil)))
        (pss_one (ps_if (pt_not (pt_val (pe_callC c_is_below hr pass0 (pa_cons (pv 3) (pa_cons (pv 1) pa_nil)))))
          (pss_one (ps_ret (pv 2)))
          pss_nil)))
      (pss_one (ps_ret pe_non))), ?_⟩
    refine ⟨_, rfl, a, xs, rfl, for_pairs hx (fun i σ' H' => ∃ x y, σ' = [some (.ref a), some (.int l), x, y] ∧ Same H H' ∧ ∀ j z, j < i → xs[j]? = some z → isBel l z = true) ⟨_, _, rfl, Same.refl H, fun j z hj => absurd hj (Nat.not_lt_zero j)⟩ (fun i σ' H' q => q.elim fun _ q => q.elim fun _ q => q.2.1) ?_ ?_⟩
    · rintro i x p σ' H' hx' ⟨_, _, rfl, e, hl⟩ hp
      refine ⟨p, _, rfl, SqT.of upd_same, rfl, ?_⟩
      refine ⟨_, _, rfl, _, _, rfl, rfl, ?_⟩
      refine ⟨x, rfl, _, rfl, x, l, rfl, ((hk x (List.mem_of_getElem? hx')).same e).same (same_new hp), isBel l x, rfl, ?_⟩
      cases eb : isBel l x with
      | true =>
        refine iteF ⟨_, _, rfl, e.trans (same_new hp), fun j z hj hz => ?_⟩
        rcases Nat.lt_or_eq_of_le (Nat.le_of_lt_succ hj) with h | rfl
        · exact hl j z h hz
        · rw [hx'] at hz
          cases hz
          exact eb
      | false =>
        refine iteT ⟨_, rfl, ?_⟩
        rw [fnb_some (i := i) hl ⟨x, hx', eb⟩] at k
        exact k _ (e.trans (same_new hp))
    · rintro σ' H' ⟨_, _, rfl, e, hl⟩
      have := k _ e
      rw [fnb_none.mpr fun x hx => by
        obtain ⟨j, hj⟩ := List.getElem?_of_mem (hx : x ∈ xs)
        exact hl j x (List.getElem?_eq_some_iff.mp hj).1 hj] at this
      exact this
theorem sc_row_of : FnScope ["value", "deeds", "at"] ["value", "deeds"] (defScope s_row_of) := ⟨rfl, rfl, rfl, by decide +kernel, rfl, by decide +kernel, by decide +kernel⟩
theorem ok_row_of (F : FnP K "row_of" s_row_of f fd) (T : Mg mg) (R : Er P w K mg base a) (c_is_sequence : Cal P w K mg base CX0 1 "is_sequence" ["value", "least", "most"] (spSeq K)) (c_first_not_below : Cal P w K mg base CX0 3 "first_not_below" ["values", "limit"] (spFnb K)) :
    FnOk P w K mg base (L2N.CX P w) 4 f fd ["value", "deeds"] (spRowOf K a) := by
  refine F.ok sc_row_of (fun vs H Q E h => ?_) (fun cdv A outer s H vs Q E hr h => ?_)
  · obtain ⟨v, o, n, rfl, _⟩ := h
    rfl
  · obtain ⟨v, o, n, rfl, hv, hk, bad, good⟩ := h
    refine ⟨_, (pss_cons (ps_if (pt_not (pt_val (pe_callC c_is_sequence hr pass0 (pa_cons (pv 0) (pa_cons pe_int (pa_cons (pe_constI T.g_ROW_MOST) pa_nil))))))
        (pss_one (psN R.BadRow rfl hr (L2N.takes_of rfl rfl rfl rfl) (pa_cons (pe_un un_neg pe_int) pa_nil)))
        pss_nil)
      (pss_cons (ps_set (i := 2) sc_row_of.nd rfl (by first | exact Or.inl rfl | exact Or.inr rfl) (pe_callC c_first_not_below hr pass0 (pa_cons (pv 0) (pa_cons (pv 1) pa_nil))))
      (pss_cons (ps_if (pt_cmpR op_notN (pv 2) pe_non (nomark _))
        (pss_one (psN R.BadRow rfl hr (L2N.takes_of rfl rfl rfl rfl) (pa_cons (pv 2) pa_nil)))
        pss_nil)
      (pss_one (ps_ret (pe_callTy call_tupD (by rfl) T.z_tuple (by decide +kernel) (pa_cons (pv 0) pa_nil))))))), ?_⟩
    refine ⟨_, rfl, _, 0, 400, o, rfl, hv, fun H1 e1 => ⟨inLen 0 400 o, rfl, ?_⟩⟩
    cases ei : inLen 0 400 o with
    | false =>
      have far : rowAt n o = some (-1) := by
        cases o with
        | none => rfl
        | some xs =>
          refine if_neg fun z => ?_
          rw [inLen_some, decide_eq_true (by omega), decide_eq_true (by omega)] at ei
          cases ei
      exact iteT ⟨1, rfl, thrownN ((bad _ far).same e1).at_⟩
    | true =>
      refine iteF ?_
      cases o with
      | none => cases ei
      | some xs =>
      cases hv with
      | @seq b _ hv =>
      have hl : xs.length ≤ 400 := by
        have z := ei
        rw [inLen_some, Bool.and_eq_true] at z
        have := of_decide_eq_true z.2
        omega
      have ra : rowAt n (some xs) = (fnb n xs).map (fun (i : Nat) => (i : Int)) := if_pos hl
      rw [ra] at bad good
      refine ⟨_, rfl, _, rfl, b, xs, n, rfl, hv.same e1, fun x hx => (hk _ rfl hl x hx).same e1, fun H2 e2 => ?_⟩
      have e3 := e1.trans e2
      refine ⟨optV (fnb n xs), rfl, rfl, ?_⟩
      cases ef : fnb n xs with
      | some i =>
        rw [ef] at bad
        refine ⟨true, rfl, iteT ?_⟩
        exact ⟨_, rfl, thrownN ((bad _ rfl).same e3).at_⟩
      | none =>
        rw [ef] at good
        obtain ⟨b', xs', q1, q2, hd, good⟩ := good rfl
        cases q1
        cases q2
        refine ⟨false, rfl, iteF ?_⟩
        exact ⟨_, rfl, b, xs, rfl, hd.same e3, fun p H4 e4 hp => good p H4 (e3.trans e4) hp⟩
end
end K5
/-! comprehensions whose list is known ahead, item by item -/
namespace Kx
open L2 PySem PySem.Spec PyProof.Rows
/-- i items of out are made, at D -/
def Part (H1 : Hp) (D : Addr) (out : List V) (i : Nat) (H : Hp) : Prop := H D = some (.lst (out.take i)) ∧ Same H1 H
section
variable {H1 H H' : Hp} {D : Addr} {out : List V} {i : Nat} {y : V}
theorem Part.zero (hD : H1 D = none) : Part H1 D out 0 (upd H1 D (.lst [])) := ⟨upd_same, same_new hD⟩
theorem Part.step (p : Part H1 D out i H) (hD : H1 D = none) (e : Same H H') (hy : out[i]? = some y) (fits : out.length ≤ sizeLine) :
    ∃ acc, H' D = some (.lst acc) ∧ acc.length < sizeLine ∧ Part H1 D out (i + 1) (upd H' D (.lst (acc ++ [y]))) := by
  have lt := (List.getElem?_eq_some_iff.mp hy).1
  refine ⟨_, e _ _ p.1, by rw [List.length_take]; omega, ?_, fun b o hb => ?_⟩
  · rw [upd_same, List.take_add_one, hy] <;> rfl
  · rw [upd_ne (ne_of_none hb hD)]
    exact e _ _ (p.2 _ _ hb)
theorem Part.done {n : Nat} (p : Part H1 D out n H) (h : out.length ≤ n) : H D = some (.lst out) ∧ Same H1 H := by
  have q := p.1
  rw [List.take_of_length_le h] at q
  exact ⟨q, p.2⟩
end
theorem yes {σ : L2.St} {H : Hp} {Q : Bool → Hp → Prop} (h : Q true H) : tYes σ H Q := h
/-- a comprehension's W by a word of the turn -/
theorem lc_by {J : It} {n : Nat} {g : TG} {tt : TT} {te : TE} {vs : List Nat} {σ : L2.St} {Q : VK} {D : Addr} {H0 : Hp} (Pv : Nat → Hp → Prop) (h0 : Pv 0 H0)
    (go : ∀ i H, i < n → Pv i H → J.go i H ∧ ∀ x H', J.yld i H x H' → g x (wipe σ vs) H' fun σ2 H2 => wipe σ2 vs = wipe σ vs ∧ tt σ2 H2 fun b H3 =>
      if b = true then te σ2 H3 fun y H4 => ∃ acc, H4 D = some (.lst acc) ∧ acc.length < sizeLine ∧ Pv (i + 1) (upd H4 D (.lst (acc ++ [y]))) else Pv (i + 1) H3)
    (stop : ∀ H, Pv n H → J.stop n H ∧ Q (.ref D) H) :
    ∃ W : Nat → Nat → Hp → Prop, (∃ m, W 0 m H0) ∧ ∀ i m H, W i m H → (J.stop i H ∧ Q (.ref D) H) ∨ (J.go i H ∧ ∃ Nx : Hp → Prop, (∀ H', Nx H' → ∃ m', m' < m ∧ W (i + 1) m' H') ∧ ∀ x H', J.yld i H x H' → g x (wipe σ vs) H' fun σ2 H2 => wipe σ2 vs = wipe σ vs ∧ tt σ2 H2 fun b H3 =>
      if b = true then te σ2 H3 (fun y H4 => ∃ acc, H4 D = some (.lst acc) ∧ acc.length < sizeLine ∧ Nx (upd H4 D (.lst (acc ++ [y])))) else Nx H3) := by
  refine ⟨fun i m H => m = n - i ∧ i ≤ n ∧ Pv i H, ⟨n, rfl, Nat.zero_le n, h0⟩, ?_⟩
  rintro i m H ⟨rfl, le, p⟩
  rcases Nat.lt_or_eq_of_le le with lt | rfl
  · obtain ⟨g1, g2⟩ := go i H lt p
    exact .inr ⟨g1, Pv (i + 1), fun H' p' => ⟨n - (i + 1), by omega, rfl, lt, p'⟩, g2⟩
  · exact .inl (stop H p)
/-- the same for any body of the turn -/
theorem turns {J : It} {n : Nat} {Z : Hp → Prop} {H0 : Hp} {B : (Hp → Prop) → V → Hp → Prop} (Pv : Nat → Hp → Prop) (h0 : Pv 0 H0) (go : ∀ i H, i < n → Pv i H → J.go i H ∧ ∀ x H', J.yld i H x H' → B (Pv (i + 1)) x H') (stop : ∀ H, Pv n H → J.stop n H ∧ Z H) :
    ∃ W : Nat → Nat → Hp → Prop, (∃ m, W 0 m H0) ∧ ∀ i m H, W i m H → (J.stop i H ∧ Z H) ∨ (J.go i H ∧ ∃ Nx : Hp → Prop, (∀ H', Nx H' → ∃ m', m' < m ∧ W (i + 1) m' H') ∧ ∀ x H', J.yld i H x H' → B Nx x H') := by
  refine ⟨fun i m H => m = n - i ∧ i ≤ n ∧ Pv i H, ⟨n, rfl, Nat.zero_le n, h0⟩, ?_⟩
  rintro i m H ⟨rfl, le, p⟩
  rcases Nat.lt_or_eq_of_le le with lt | rfl
  · obtain ⟨g1, g2⟩ := go i H lt p
    exact .inr ⟨g1, Pv (i + 1), fun H' p' => ⟨n - (i + 1), by omega, rfl, lt, p'⟩, g2⟩
  · exact .inl (stop H p)
/-- t + u, any tuples -/
def rCatS (K : PySem.W.Frag) : R2 := fun x y H Q => ∃ (a b : Addr) (xs ys : List V), x = .ref a ∧ y = .ref b ∧ SqT K H a xs ∧ SqT K H b ys ∧ xs.length + ys.length ≤ sizeLine ∧ ∀ p H', Same H H' → SqT K H' p (xs ++ ys) → Q (.ref p) H'
theorem op_catS {X : Cx} {K : PySem.W.Frag} (hK : X.K = K := by rfl) : OpR X (binaryOp .Add) (rCatS K) := by
  subst hK
  intro pins st σ H x y v u Q I rx ry h
  obtain ⟨a, b, xs, ys, rfl, rfl, h1, h2, fits, key⟩ := h
  refine op_catA pins st σ H _ _ v u Q I rx ry ⟨a, b, xs, ys, rfl, rfl, h1, h2, fits, fun e => ?_, fun _ e => ?_, fun _ _ p hp => key p _ (same_new hp) (SqT.of upd_same)⟩
  · subst e
    exact key b H (Same.refl H) h2
  · subst e
    exact key a H (Same.refl H) (by rw [List.append_nil]; exact h1)
end Kx
/-! machines are made, compared -/
namespace K5
open PySem PySem.Spec PyProof.Rows L2 Kx
theorem r64 {k : Nat} {A : Around} (r : Room k A) : A.units + 64 < cLine := by have := r.un; omega
theorem fnb_ints {l : Int} : ∀ {xs : List V}, fnb l xs = none → ∃ ns : List Int, xs = ns.map V.int ∧ ∀ n ∈ ns, 0 ≤ n ∧ n < l
  | [], _ => ⟨[], rfl, fun _ h => nomatch h⟩
  | x :: xs, h => by
    have h' := fnb_none.mp h
    obtain ⟨ns, rfl, hn⟩ := fnb_ints (xs := xs) (fnb_none.mpr fun y hy => h' y (List.mem_cons_of_mem _ hy))
    have hx := h' x (List.mem_cons_self ..)
    cases x with
    | int i =>
      have hx : (decide (0 ≤ i) && decide (i < l)) = true := hx
      rw [Bool.and_eq_true] at hx
      refine ⟨i :: ns, rfl, fun n hn' => (List.mem_cons.mp hn').elim (fun e => ?_) (hn n)⟩
      subst e
      exact ⟨of_decide_eq_true hx.1, of_decide_eq_true hx.2⟩
    | _ => exact absurd hx Bool.false_ne_true
theorem fnb_of {l : Int} {ns : List Int} (h : ∀ n ∈ ns, 0 ≤ n ∧ n < l) : fnb l (ns.map V.int) = none := fnb_none.mpr fun x hx => by
  obtain ⟨n, hn, rfl⟩ := List.mem_map.mp hx
  show (decide (0 ≤ n) && decide (n < l)) = true
  rw [decide_eq_true (h n hn).1, decide_eq_true (h n hn).2]
  rfl
theorem tup_of {K : PySem.W.Frag} {H : Hp} {a : Addr} {xs : List V} {Q : VK} (q : Sq K H a xs) (key : ∀ p H', Same H H' → SqT K H' p xs → Q (.ref p) H') : (SqL K H a xs ∧ ∀ l, H l = none → Q (.ref l) (upd H l (.tup xs))) ∨ (SqT K H a xs ∧ Q (.ref a) H) :=
  q.imp (fun q => ⟨q, fun l hl => key l _ (same_new hl) (SqT.of upd_same)⟩) fun q => ⟨q, key a H (Same.refl H) q⟩
theorem call_tup {X : Cx} : CallR X (.type "tuple") (fun xs H Q => ∃ p ys, xs = [.ref p] ∧ Sq X.K H p ys ∧ ∀ q H', Same H H' → SqT X.K H' q ys → Q (.ref q) H') := fun pins s σ H vs us Q I r ⟨p, ys, e, q, key⟩ =>
  call_tuple_of pins s σ H vs us Q I r ⟨p, ys, e, tup_of q key⟩
theorem rd_ins {H : Hp} {x a C dx : Addr} {fs gs : List (Str × V)} {u : HO} (hx : H x = some (.ins C dx fs)) (n1 : ∀ C dx fs, u ≠ .ins C dx fs) (q : Rd H a u) : Rd (upd H x (.ins C dx gs)) a u :=
  q.elim (fun q => .inl (by rw [upd_ne (ne_of q hx (n1 _ _ _))]; exact q)) fun ⟨z, q⟩ => .inr ⟨z, by rw [upd_ne (ne_of q hx (fun z => nomatch z))]; exact q⟩
theorem sqL_ins {K : PySem.W.Frag} {H : Hp} {x a C dx : Addr} {fs gs : List (Str × V)} {xs : List V} (hx : H x = some (.ins C dx fs)) (h : SqL K H a xs) : SqL K (upd H x (.ins C dx gs)) a xs := h.imp (rd_ins hx fun _ _ _ z => nomatch z) id
theorem sqT_ins {K : PySem.W.Frag} {H : Hp} {x a C dx : Addr} {fs gs : List (Str × V)} {xs : List V} (hx : H x = some (.ins C dx fs)) (h : SqT K H a xs) : SqT K (upd H x (.ins C dx gs)) a xs := h.imp (rd_ins hx fun _ _ _ z => nomatch z) id
theorem sq_ins {K : PySem.W.Frag} {H : Hp} {x a C dx : Addr} {fs gs : List (Str × V)} {xs : List V} (hx : H x = some (.ins C dx fs)) (h : Sq K H a xs) : Sq K (upd H x (.ins C dx gs)) a xs := h.imp (sqL_ins hx) (sqT_ins hx)
theorem tru_sq {K : PySem.W.Frag} {H : Hp} {b : Addr} {xs : List V} (h : Sq K H b xs) : TruV K (.ref b) H (!xs.isEmpty) := h.elim (fun h => .inl ⟨xs, h, rfl⟩) fun h => .inr (.inl ⟨xs, h, rfl⟩)
theorem sqT_lst {K : PySem.W.Frag} {H : Hp} {D : Addr} {u u' : List V} {q : Addr} {xs : List V} (hD : H D = some (.lst u)) (h : SqT K H q xs) : SqT K (upd H D (.lst u')) q xs := by
  refine h.imp (fun h => ?_) id
  rcases h with h | ⟨z, h⟩
  · exact .inl (by rw [upd_ne (ne_of h hD (fun z => nomatch z))]; exact h)
  · exact .inr ⟨z, by rw [upd_ne (ne_of h hD (fun z => nomatch z))]; exact h⟩
/-- tables that a machine may have: n states -/
structure Mok (n : Nat) (ts : List (List Int)) : Prop where
  l1 : 1 ≤ ts.length
  l4 : ts.length ≤ 4
  n1 : 1 ≤ n
  n8 : n ≤ 8
  len : ∀ t ∈ ts, t.length = n
  ent : ∀ t ∈ ts, ∀ x ∈ t, 0 ≤ x ∧ x < (n : Int)
/-- rows stand at these places -/
def RowsBy (R : Addr → List V → Prop) : List V → List (List Int) → Prop
  | [], [] => True
  | v :: vs, t :: ts => (∃ q, v = .ref q ∧ R q (t.map V.int)) ∧ RowsBy R vs ts
  | _, _ => False
theorem RowsBy.imp {R S : Addr → List V → Prop} (e : ∀ q xs, R q xs → S q xs) : ∀ {vs : List V} {ts : List (List Int)}, RowsBy R vs ts → RowsBy S vs ts
  | [], [], _ => trivial
  | _ :: _, _ :: _, ⟨⟨q, h1, h2⟩, h⟩ => ⟨⟨q, h1, e _ _ h2⟩, RowsBy.imp e h⟩
  | [], _ :: _, h => h.elim
  | _ :: _, [], h => h.elim
theorem RowsBy.length {R : Addr → List V → Prop} : ∀ {vs : List V} {ts : List (List Int)}, RowsBy R vs ts → vs.length = ts.length
  | [], [], _ => rfl
  | _ :: _, _ :: _, ⟨_, h⟩ => congrArg Nat.succ (RowsBy.length h)
  | [], _ :: _, h => h.elim
  | _ :: _, [], h => h.elim
theorem RowsBy.at_ {R : Addr → List V → Prop} : ∀ {vs : List V} {ts : List (List Int)} {i : Nat} {t : List Int}, RowsBy R vs ts → ts[i]? = some t → ∃ q, vs[i]? = some (.ref q) ∧ R q (t.map V.int)
  | _ :: _, _ :: _, 0, t, ⟨⟨q, h1, h2⟩, _⟩, e => by
    simp at e
    subst e
    exact ⟨q, by simp [h1], h2⟩
  | _ :: _, _ :: _, i + 1, t, ⟨_, h⟩, e => by
    obtain ⟨q, h1, h2⟩ := RowsBy.at_ (i := i) h (by simpa using e)
    exact ⟨q, by simpa using h1, h2⟩
  | [], [], _, _, _, e => by simp at e
  | [], _ :: _, _, _, h, _ => h.elim
  | _ :: _, [], _, _, h, _ => h.elim
theorem RowsBy.snoc {R : Addr → List V → Prop} {q : Addr} {t : List Int} (hq : R q (t.map V.int)) : ∀ {vs : List V} {ts : List (List Int)}, RowsBy R vs ts → RowsBy R (vs ++ [.ref q]) (ts ++ [t])
  | [], [], _ => ⟨⟨q, rfl, hq⟩, trivial⟩
  | _ :: _, _ :: _, ⟨h1, h⟩ => ⟨h1, RowsBy.snoc hq h⟩
  | [], _ :: _, h => h.elim
  | _ :: _, [], h => h.elim
structure McAt (K : PySem.W.Frag) (CM : Addr) (H : Hp) (m : Addr) (n : Nat) (ts : List (List Int)) : Prop where
  ok : Mok n ts
  ex : ∃ dx t ps, H m = some (.ins CM dx [("deeds", .int (ts.length : Int)), ("states", .int (n : Int)), ("tables", .ref t)]) ∧ SqT K H t ps ∧ RowsBy (SqT K H) ps ts
theorem McAt.same {K : PySem.W.Frag} {CM : Addr} {H H' : Hp} {m : Addr} {n : Nat} {ts : List (List Int)} (e : Same H H') (h : McAt K CM H m n ts) : McAt K CM H' m n ts := by
  obtain ⟨ok, dx, t, ps, h1, h2, h3⟩ := h
  exact ⟨ok, dx, t, ps, e _ _ h1, sqT_same e h2, h3.imp fun _ _ q => sqT_same e q⟩
structure ClsM (K : PySem.W.Frag) (mg : Str → Option Value) (CM : Addr) : Prop where
  at_ : mg "Machine" = some (.ref CM)
  cl : Cls K CM
  n1 : NoAttr K CM "deeds"
  n2 : NoAttr K CM "states"
  n3 : NoAttr K CM "tables"
  isi : SlX.SIsi K CM
  yes : PySem.W.kitOne K (.ref CM) (.ref CM) = some true
  notT : PySem.W.kitOne K (.type "tuple") (.ref CM) = some false
  first : PySem.W.notFirst K CM (.type "tuple") = true
/-- a table of n states -/
def isTab (n : Nat) : Option (List V) → Bool
  | some ys => inLen 1 8 (some ys) && (decide (ys.length = n) && (fnb ys.length ys).isNone)
  | none => false
theorem isTab_some {n : Nat} {ys : List V} : isTab n (some ys) = (inLen 1 8 (some ys) && (decide (ys.length = n) && (fnb ys.length ys).isNone)) := rfl
def spTable (K : PySem.W.Frag) : Sp := fun vs H Q _ => ∃ (v like : V) (o : Option (List V)) (n : Nat), vs = [v, like] ∧ Long K H v o ∧ Kns K H o 8 ∧ (inLen 1 8 o = true → ∃ c zs, like = .ref c ∧ Sq K H c zs ∧ zs.length = n) ∧ ∀ H', Same H H' → Q (.bl (isTab n o)) H'
/-- the first that is no table -/
def badTab (n : Nat) : List (Option (List V)) → Option Nat
  | [] => none
  | o :: os => if isTab n o = true then (badTab n os).map (· + 1) else some 0
theorem badTab_none {n : Nat} : ∀ {os : List (Option (List V))}, badTab n os = none ↔ ∀ o ∈ os, isTab n o = true
  | [] => by simp [badTab]
  | o :: os => by
    unfold badTab
    by_cases h : isTab n o = true
    · rw [if_pos h, Option.map_eq_none_iff, badTab_none]
      exact ⟨fun q y hy => (List.mem_cons.mp hy).elim (fun e => e ▸ h) (q y), fun q y hy => q y (List.mem_cons_of_mem _ hy)⟩
    · rw [if_neg h]
      exact ⟨fun q => (nomatch q), fun q => absurd (q o (List.mem_cons_self ..)) h⟩
theorem badTab_some {n : Nat} : ∀ {os : List (Option (List V))} {i : Nat}, (∀ j o, j < i → os[j]? = some o → isTab n o = true) → (∃ o, os[i]? = some o ∧ isTab n o = false) → badTab n os = some i
  | [], i, _, h => by obtain ⟨x, h, _⟩ := h; simp at h
  | x :: xs, 0, _, h => by
    obtain ⟨y, h1, h2⟩ := h
    have e : x = y := by simpa using h1
    unfold badTab
    rw [e, if_neg (by rw [h2]; exact Bool.false_ne_true)]
  | x :: xs, i + 1, hl, h => by
    unfold badTab
    rw [if_pos (hl 0 x (Nat.succ_pos i) rfl), badTab_some (i := i) (fun j y hj hy => hl (j + 1) y (Nat.succ_lt_succ hj) (by simpa using hy)) (by simpa using h)]
    rfl
/-- what the items are as sequences -/
def Items (K : PySem.W.Frag) (H : Hp) : List V → List (Option (List V)) → Prop
  | [], [] => True
  | v :: vs, o :: os => (Long K H v o ∧ Kns K H o 8) ∧ Items K H vs os
  | _, _ => False
theorem Items.at_ {K : PySem.W.Frag} {H : Hp} : ∀ {vs : List V} {os : List (Option (List V))} {i : Nat} {v : V}, Items K H vs os → vs[i]? = some v → ∃ o, os[i]? = some o ∧ Long K H v o ∧ Kns K H o 8
  | _ :: _, _ :: _, 0, v, ⟨h1, _⟩, e => by
    simp at e
    subst e
    exact ⟨_, rfl, h1⟩
  | _ :: _, _ :: _, i + 1, v, ⟨_, h⟩, e => by
    obtain ⟨o, h1, h2⟩ := Items.at_ (i := i) h (by simpa using e)
    exact ⟨o, by simpa using h1, h2⟩
  | [], [], _, _, _, e => by simp at e
  | [], _ :: _, _, _, h, _ => h.elim
  | _ :: _, [], _, _, h, _ => h.elim
/-- the number of the first's items -/
def lenAt (os : List (Option (List V))) : Nat := match os[0]? with
  | some (some ys) => ys.length
  | _ => 0
theorem tabs_of {K : PySem.W.Frag} {H : Hp} {n : Nat} : ∀ {vs : List V} {os : List (Option (List V))}, Items K H vs os → (∀ o ∈ os, isTab n o = true) → ∃ ts : List (List Int), os = ts.map (fun t => some (t.map V.int)) ∧ RowsBy (Sq K H) vs ts ∧ (∀ t ∈ ts, t.length = n) ∧ ∀ t ∈ ts, ∀ x ∈ t, 0 ≤ x ∧ x < (n : Int)
  | [], [], _, _ => ⟨[], rfl, trivial, (fun t h => nomatch h), (fun t h => nomatch h)⟩
  | v :: vs, o :: os, ⟨⟨h1, _⟩, h⟩, all => by
    obtain ⟨ts, e, r, l, b⟩ := tabs_of h fun o ho => all o (List.mem_cons_of_mem _ ho)
    have z := all o (List.mem_cons_self ..)
    cases h1 with
    | @seq a ys q =>
      rw [isTab_some, Bool.and_eq_true, Bool.and_eq_true] at z
      have len := of_decide_eq_true z.2.1
      obtain ⟨ns, en, hn⟩ := fnb_ints (Option.isNone_iff_eq_none.mp z.2.2)
      subst en
      refine ⟨ns :: ts, by rw [e]; rfl, ⟨⟨a, rfl, q⟩, r⟩, fun t ht => ?_, fun t ht => ?_⟩
      · rcases List.mem_cons.mp ht with rfl | ht
        · rw [← len, List.length_map]
        · exact l t ht
      · rcases List.mem_cons.mp ht with rfl | ht
        · intro x hx
          have := hn x hx
          rw [len] at this
          exact this
        · exact b t ht
    | _ => cases z
  | [], _ :: _, h, _ => h.elim
  | _ :: _, [], h, _ => h.elim
section
variable {P : Program} {w : World} {K : PySem.W.Frag} {mg : Str → Option Value} {base : Heap} {f : Addr} {fd : FuncData} {a : Ad} {CM : Addr}
theorem sc_is_table : FnScope ["value", "like"] ["value", "like"] (defScope s_is_table) := ⟨rfl, rfl, rfl, by decide +kernel, rfl, by decide +kernel, by decide +kernel⟩
theorem ok_is_table (F : FnP K "_is_table" s_is_table f fd) (T : Mg mg) (c_is_sequence : Cal P w K mg base CX0 1 "is_sequence" ["value", "least", "most"] (spSeq K)) (c_first_not_below : Cal P w K mg base CX0 3 "first_not_below" ["values", "limit"] (spFnb K)) : FnOk P w K mg base CX0 4 f fd ["value", "like"] (spTable K) := by
  refine F.ok sc_is_table (fun vs H Q E h => ?_) (fun cdv A outer s H vs Q E hr h => ?_)
  · obtain ⟨v, like, o, n, rfl, _⟩ := h
    rfl
  · obtain ⟨v, like, o, n, rfl, hv, hk, hl, k⟩ := h
    refine ⟨_, PSs.nox (pss_cons (ps_if (pt_not (pt_val (pe_callC c_is_sequence hr pass0 (pa_cons (pv 0) (pa_cons pe_int (pa_cons (pe_constI T.g_STATES_MOST) pa_nil))))))
        (pss_one (ps_ret pe_bl))
        pss_nil)
      (pss_one (ps_ret (pe_and (pe_cmpR op_eq (pe_callB call_len_seq (by rfl) T.z_len PySem.boot_len (pa_cons (pv 0) pa_nil)) (pe_callB call_len_seq (by rfl) T.z_len PySem.boot_len (pa_cons (pv 1) pa_nil)) (nomark _)) (pe_one (pe_cmpR op_isN (pe_callC c_first_not_below hr pass0 (pa_cons (pv 0) (pa_cons (pe_callB call_len_seq (by rfl) T.z_len PySem.boot_len (pa_cons (pv 0) pa_nil)) pa_nil))) pe_non (nomark _))))))), ?_⟩
    refine ⟨_, rfl, v, 1, 8, o, rfl, hv, fun H1 e1 => ⟨inLen 1 8 o, rfl, ?_⟩⟩
    cases i1 : inLen 1 8 o with
    | false =>
      have z : isTab n o = false := by
        cases o with
        | none => rfl
        | some ys => rw [isTab_some, i1] <;> rfl
      rw [z] at k
      exact iteT (k H1 e1)
    | true =>
      refine iteF ?_
      obtain ⟨c, zs, rfl, hc, hn⟩ := hl i1
      cases hv with
      | @seq b ys hb =>
        rw [isTab_some, i1] at k
        have l8 : ys.length ≤ 8 := by
          rw [inLen_some, Bool.and_eq_true] at i1
          have := of_decide_eq_true i1.2
          omega
        refine ⟨_, rfl, b, ys, rfl, hb.same e1, _, rfl, c, zs, rfl, hc.same e1, rfl, ?_⟩
        have ed : decide (V.int (ys.length : Int) = V.int (zs.length : Int)) = decide (ys.length = n) := by
          rw [hn, Bool.eq_iff_iff, decide_eq_true_eq, decide_eq_true_eq]
          exact ⟨fun z => by injection z with z; omega, fun z => by rw [z]⟩
        rw [ed]
        refine ⟨_, rfl, ?_⟩
        cases en : decide (ys.length = n) with
        | false =>
          rw [en] at k
          exact iteF (k H1 e1)
        | true =>
          rw [en] at k
          refine iteT ?_
          refine ⟨_, rfl, _, rfl, b, ys, rfl, hb.same e1, b, ys, _, rfl, hb.same e1, fun x hx => (hk _ rfl l8 x hx).same e1, fun H2 e2 => ⟨rfl, ?_⟩⟩
          have k2 := k _ (e1.trans e2)
          rw [← optV_non] at k2
          exact k2
      | _ => cases i1
end
end K5
/-! machines are made, compared -/
namespace K5
open L2 PySem PySem.Spec PyProof.Rows Kx
def spMachine (K : PySem.W.Frag) (a : Ad) (CM : Addr) : Sp := fun vs H Q E => ∃ (x dx : Addr) (v : V) (o : Option (List V)), vs = [.ref x, v] ∧ H x = some (.ins CM dx []) ∧ Long K H v o ∧ (inLen 1 4 o = false → Thrown E H a.cM "at" (.int (-1))) ∧
  ∀ xs, o = some xs → inLen 1 4 o = true → ∃ os, Items K H xs os ∧ (∀ i, badTab (lenAt os) os = some i → Thrown E H a.cM "at" (.int (i : Int))) ∧
    (badTab (lenAt os) os = none → ∀ n ts, Mok n ts → os = ts.map (fun t => some (t.map V.int)) → ∀ H', (∀ b o, b ≠ x → H b = some o → H' b = some o) → McAt K CM H' x n ts → Q .non H')
/-- tuple(xs) in a comprehension -/
theorem call_tupK {X : Cx} {K : PySem.W.Frag} (hK : X.K = K := by rfl) : CallR X (.type "tuple") (fun xs H Q => ∃ p ys, xs = [.ref p] ∧ Sq K H p ys ∧ ∀ q H', Same H H' → SqT K H' q ys → Q (.ref q) H') := by
  subst hK
  exact call_tup
theorem Items.length {K : PySem.W.Frag} {H : Hp} : ∀ {vs : List V} {os : List (Option (List V))}, Items K H vs os → vs.length = os.length
  | [], [], _ => rfl
  | _ :: _, _ :: _, ⟨_, h⟩ => congrArg Nat.succ (Items.length h)
  | [], _ :: _, h => h.elim
  | _ :: _, [], h => h.elim
theorem ints_map {xs ys : List (List Int)} (h : xs.map (fun t => some (t.map V.int)) = ys.map (fun t => some (t.map V.int))) : xs = ys := by
  have inj : ∀ {a b : List Int}, a.map V.int = b.map V.int → a = b := fun {a b} h => by
    have := congrArg (List.map fun v => match v with | V.int i => i | _ => 0) h
    simpa [Function.comp_def] using this
  induction xs generalizing ys with
  | nil => cases ys with
    | nil => rfl
    | cons _ _ => cases h
  | cons x xs ih => cases ys with
    | nil => cases h
    | cons y ys =>
      rw [List.map_cons, List.map_cons] at h
      injection h with h1 h2
      rw [inj (Option.some.inj h1), ih h2]
section
variable {P : Program} {w : World} {K : PySem.W.Frag} {mg : Str → Option Value} {base : Heap} {f : Addr} {fd : FuncData} {a : Ad} {CM : Addr}
theorem sc_machine : FnScope ["self", "tables", "at", "table"] ["self", "tables"] (defScope s_Machine_init) := ⟨rfl, rfl, rfl, by decide +kernel, rfl, by decide +kernel, by decide +kernel⟩
theorem ok_machine (F : FunD K "__init__" "Machine.__init__" (defArgs s_Machine_init) (defBody s_Machine_init) (defScope s_Machine_init) [] [] f fd) (T : Mg mg) (R : Er P w K mg base a) (TM : ClsM K mg CM)
    (c_is_sequence : Cal P w K mg base CX0 1 "is_sequence" ["value", "least", "most"] (spSeq K)) (c__is_table : Cal P w K mg base CX0 4 "_is_table" ["value", "like"] (spTable K)) : FnOk P w K mg base (L2N.CX P w) 5 f fd ["self", "tables"] (spMachine K a CM) := by
  refine F.ok sc_machine (fun vs H Q E h => ?_) (fun cdv A outer s H vs Q E hr h => ?_)
  · obtain ⟨x, dx, v, o, rfl, _⟩ := h
    rfl
  · obtain ⟨x, dx, v, o, rfl, hx, hv, far, near⟩ := h
    refine ⟨_, (pss_cons (ps_if (pt_not (pt_val (pe_callC c_is_sequence hr pass0 (pa_cons (pv 1) (pa_cons pe_int (pa_cons (pe_constI T.g_DEEDS_MOST) pa_nil))))))
        (pss_one (psN R.BadMachine rfl hr (L2N.takes_of rfl rfl rfl rfl) (pa_cons (pe_un un_neg pe_int) pa_nil)))
        pss_nil)
      (pss_cons (ps_for (passes_of rfl) rfl (pi_pairs (by rfl) T.z_enumerate (pa_cons (pv 1) pa_nil)) (pg_tup rfl (pgs_cons (pg_name (i := 2) sc_machine.nd rfl (by first | exact Or.inl rfl | exact Or.inr rfl)) (pgs_cons (pg_name (i := 3) sc_machine.nd rfl (by first | exact Or.inl rfl | exact Or.inr rfl)) pgs_nil)))
        (pss_one (ps_if (pt_not (pt_val (pe_callC c__is_table hr pass0 (pa_cons (pv 3) (pa_cons (pe_ix ix_seq (pv 1) pe_int (fun _ _ => rfl)) pa_nil)))))
          (pss_one (psN R.BadMachine rfl hr (L2N.takes_of rfl rfl rfl rfl) (pa_cons (pv 2) pa_nil)))
          pss_nil)))
      (PSs.nox (pss_cons (ps_fld (pv 0) (pe_callB call_len_seq (by rfl) T.z_len PySem.boot_len (pa_cons (pv 1) pa_nil)) rfl)
      (pss_cons (ps_fld (pv 0) (pe_callB call_len_seq (by rfl) T.z_len PySem.boot_len (pa_cons (pe_ix ix_seq (pv 1) pe_int (fun _ _ => rfl)) pa_nil)) rfl)
      (pss_one (ps_fld (pv 0) (pe_callTy call_tup (by rfl) T.z_tuple (by decide +kernel) (pa_cons (pe_lc (own := [("table", 3)]) (by rfl) sc_machine.nd (pi_any (pv 1)) (blkOk_by (own := [("table", 3)]) (N := ["self", "tables", "at", "table"]) (sc := defScope s_Machine_init) (by decide +kernel))
        (fun _ _ _ _ _ => pg_name (i := 3) sc_machine.nd rfl (by first | exact Or.inl rfl | exact Or.inr rfl)) (fun _ _ _ _ _ => pts_nil) (fun _ _ _ _ _ => pe_callTy (call_tupK (K := K)) (by rfl) T.z_tuple bt_tuple (pa_cons (pv 3) pa_nil))) pa_nil)) rfl))))))), ?_⟩
    refine ⟨_, rfl, v, 1, 4, o, rfl, hv, fun H1 e1 => ⟨inLen 1 4 o, rfl, ?_⟩⟩
    cases i1 : inLen 1 4 o with
    | false => exact iteT ⟨1, rfl, thrownN ((far i1).same e1).at_⟩
    | true =>
      refine iteF ?_
      cases hv with
      | @seq b xs hb =>
        obtain ⟨os, it, bad, good⟩ := near xs rfl i1
        have len := it.length
        have l4 : 1 ≤ xs.length ∧ xs.length ≤ 4 := by
          have z := i1
          rw [inLen_some, Bool.and_eq_true] at z
          have := of_decide_eq_true z.1
          have := of_decide_eq_true z.2
          omega
        obtain ⟨x0, hx0⟩ : ∃ x0, xs[0]? = some x0 := ⟨xs[0], List.getElem?_eq_getElem (by omega)⟩
        obtain ⟨o0, ho0, long0, kns0⟩ := it.at_ hx0
        have ix0 : ∀ {H' : Hp} {Q : VK}, Same H H' → Q x0 H' → rIx K (.ref b) (.int 0) H' Q := fun e q => by
          rcases hb.same e with z | z
          · exact .inl ⟨b, xs, 0, x0, rfl, rfl, z, atI_nat hx0, q⟩
          · exact .inr (.inl ⟨b, xs, 0, x0, rfl, rfl, z, atI_nat hx0, q⟩)
        refine ⟨_, rfl, b, xs, rfl, for_pairs (hb.same e1) (fun i σ' H' => ∃ y z, σ' = [some (.ref x), some (.ref b), y, z] ∧ Same H H' ∧ Same H1 H' ∧ ∀ j o, j < i → os[j]? = some o → isTab (lenAt os) o = true) ⟨_, _, rfl, e1, Same.refl _, fun j z hj => absurd hj (Nat.not_lt_zero j)⟩ (fun i σ' H' q => q.elim fun _ q => q.elim fun _ q => q.2.2.1) ?_ ?_⟩
        · rintro i y t σ' H' hy ⟨_, _, rfl, e, e', hs⟩ ht
          refine ⟨t, _, rfl, SqT.of upd_same, rfl, ?_⟩
          refine ⟨_, _, rfl, _, _, rfl, rfl, ?_⟩
          have e2 := e.trans (same_new (o := HO.tup [.int (i : Int), y]) ht)
          obtain ⟨oi, hoi, longi, knsi⟩ := it.at_ hy
          refine ⟨_, rfl, _, rfl, ix0 e2 ?_⟩
          refine ⟨y, x0, oi, lenAt os, rfl, longi.same e2, knsi.same e2, fun z => ?_, fun H3 e3 => ⟨isTab (lenAt os) oi, rfl, ?_⟩⟩
          · have z0 : isTab (lenAt os) o0 = true ∨ (i = 0 ∧ oi = o0) := by
              rcases Nat.eq_zero_or_pos i with h | h
              · subst h
                rw [ho0] at hoi
                exact .inr ⟨rfl, (Option.some.inj hoi).symm⟩
              · exact .inl (hs 0 o0 h ho0)
            have some0 : ∃ zs, o0 = some zs := by
              rcases z0 with h | ⟨_, h⟩
              · cases o0 with
                | none => cases h
                | some zs => exact ⟨zs, rfl⟩
              · subst h
                cases oi with
                | none => cases z
                | some zs => exact ⟨zs, rfl⟩
            obtain ⟨zs, rfl⟩ := some0
            cases long0 with
            | @seq c _ hc => exact ⟨c, zs, rfl, hc.same e2, by unfold lenAt; rw [ho0]⟩
          · cases eb : isTab (lenAt os) oi with
            | false => exact iteT ⟨_, rfl, thrownN ((bad i (badTab_some hs ⟨oi, hoi, eb⟩)).same (e2.trans e3)).at_⟩
            | true =>
              refine iteF ⟨_, _, rfl, e2.trans e3, (e'.trans (same_new ht)).trans e3, fun j z hj hz => ?_⟩
              rcases Nat.lt_or_eq_of_le (Nat.le_of_lt_succ hj) with h | rfl
              · exact hs j z h hz
              · rw [hoi] at hz
                cases hz
                exact eb
        · rintro σ' H' ⟨_, _, rfl, e, e', hs⟩
          have allT : ∀ o ∈ os, isTab (lenAt os) o = true := fun o ho => by
            obtain ⟨j, hj⟩ := List.getElem?_of_mem ho
            exact hs j o (by rw [len]; exact (List.getElem?_eq_some_iff.mp hj).1) hj
          obtain ⟨ts, eo, rows, tl, tb⟩ := tabs_of it allT
          have lts : ts.length = xs.length := by rw [len, eo, List.length_map]
          obtain ⟨t0, ht0⟩ : ∃ t0, ts[0]? = some t0 := ⟨ts[0], List.getElem?_eq_getElem (by omega)⟩
          have mt0 := List.mem_of_getElem? ht0
          have n0 : lenAt os = t0.length := (tl t0 mt0).symm
          have mok : Mok (lenAt os) ts := by
            have z := allT o0 (List.mem_of_getElem? ho0)
            refine ⟨by omega, by omega, ?_, ?_, tl, tb⟩
            · cases o0 with
              | none => cases z
              | some ys =>
                rw [isTab_some, Bool.and_eq_true, Bool.and_eq_true, inLen_some, Bool.and_eq_true] at z
                have := of_decide_eq_true z.1.1
                have := of_decide_eq_true z.2.1
                omega
            · cases o0 with
              | none => cases z
              | some ys =>
                rw [isTab_some, Bool.and_eq_true, Bool.and_eq_true, inLen_some, Bool.and_eq_true] at z
                have := of_decide_eq_true z.1.2
                have := of_decide_eq_true z.2.1
                omega
          have good := good (badTab_none.mpr allT) _ ts mok eo
          obtain ⟨c0, hc0, sc0⟩ := rows.at_ ht0
          rw [hx0] at hc0
          obtain rfl := Option.some.inj hc0
          have hx1 := e _ _ hx
          have hb1 := hb.same e
          refine ⟨_, rfl, b, xs, rfl, hb1, _, rfl, x, CM, dx, _, rfl, hx1, TM.cl, TM.n1, (by decide), ?_⟩
          generalize hH2 : upd H' x (.ins CM dx (putF "deeds" (.int (xs.length : Int)) [])) = H2
          have hx2 : H2 x = some (.ins CM dx [("deeds", .int (xs.length : Int))]) := by rw [← hH2]; exact upd_same
          have sq2 : ∀ {p : Addr} {zs : List V}, Sq K H p zs → Sq K H2 p zs := fun z => by rw [← hH2]; exact sq_ins hx1 (z.same e)
          have hb2 : Sq K H2 b xs := sq2 hb
          have keep2 : ∀ c o, c ≠ x → H c = some o → H2 c = some o := fun c o ne hc => by rw [← hH2, upd_ne ne]; exact e _ _ hc
          have ix2 : ∀ {Q : VK}, Q (.ref c0) H2 → rIx K (.ref b) (.int 0) H2 Q := fun q => by
            rcases hb2 with z | z
            · exact .inl ⟨b, xs, 0, _, rfl, rfl, z, atI_nat hx0, q⟩
            · exact .inr (.inl ⟨b, xs, 0, _, rfl, rfl, z, atI_nat hx0, q⟩)
          refine ⟨_, rfl, ix2 ?_⟩
          refine ⟨c0, _, rfl, sq2 sc0, _, rfl, x, CM, dx, _, rfl, hx2, TM.cl, TM.n2, (Nat.lt_of_succ_lt (by show 2 < 1000; decide)), ?_⟩
          rw [List.length_map, ← n0]
          generalize hH3 : upd H2 x (.ins CM dx (putF "states" (.int (lenAt os : Int)) [("deeds", .int (xs.length : Int))])) = H3
          have hx3 : H3 x = some (.ins CM dx [("deeds", .int (xs.length : Int)), ("states", .int (lenAt os : Int))]) := by rw [← hH3]; exact upd_same
          have sq3 : ∀ {p : Addr} {zs : List V}, Sq K H p zs → Sq K H3 p zs := fun z => by rw [← hH3]; exact sq_ins hx2 (sq2 z)
          have hb3 : Sq K H3 b xs := sq3 hb
          have keep3 : ∀ c o, c ≠ x → H c = some o → H3 c = some o := fun c o ne hc => by rw [← hH3, upd_ne ne]; exact keep2 _ _ ne hc
          have inp3 : RowsBy (Sq K H3) xs ts := rows.imp fun _ _ q => sq3 q
          have last : ∀ (H4 : Hp) (D : Addr) (ps : List V), Same H3 H4 → H4 D = some (.lst ps) → RowsBy (SqT K H4) ps ts → ∀ t H5, Same H4 H5 → SqT K H5 t ps → Q .non (upd H5 x (.ins CM dx [("deeds", .int (xs.length : Int)), ("states", .int (lenAt os : Int)), ("tables", .ref t)])) := fun H4 D ps e4 hD rw4 t H5 e5 ht => by
            have hx5 := e5 _ _ (e4 _ _ hx3)
            refine good _ (fun c o ne hc => by rw [upd_ne ne]; exact e5 _ _ (e4 _ _ (keep3 _ _ ne hc))) ⟨mok, dx, t, ps, by rw [upd_same, lts], sqT_ins hx5 ht, rw4.imp fun _ _ q => sqT_ins hx5 (sqT_same e5 q)⟩
          have go : ∀ (D : Addr), H3 D = .none → ∀ i y H4, xs[i]? = some y → (∃ ps, RowsBy (SqT K H4) ps (ts.take i) ∧ H4 D = some (.lst ps) ∧ Same H3 H4) → ∃ q ys, y = .ref q ∧ Sq K H4 q ys ∧ ∀ q' H5, Same H4 H5 → SqT K H5 q' ys →
              ∃ acc, H5 D = some (.lst acc) ∧ acc.length < sizeLine ∧ ∃ ps, RowsBy (SqT K (L2.upd H5 D (.lst (acc ++ [.ref q'])))) ps (ts.take (i + 1)) ∧ L2.upd H5 D (.lst (acc ++ [.ref q'])) D = some (.lst ps) ∧ Same H3 (L2.upd H5 D (.lst (acc ++ [.ref q']))) := fun D hD i y H4 hy ⟨ps, rw4, hD4, e4⟩ => by
            have hi : i < ts.length := by rw [lts]; exact (List.getElem?_eq_some_iff.mp hy).1
            have ht : ts[i]? = some ts[i] := List.getElem?_eq_getElem hi
            obtain ⟨q, hq, sq⟩ := inp3.at_ ht
            rw [hy] at hq
            refine ⟨q, _, Option.some.inj hq, sq.same e4, fun q' H5 e5 ht5 => ?_⟩
            have hD5 := e5 _ _ hD4
            have lps := rw4.length
            rw [List.length_take] at lps
            refine ⟨ps, hD5, by rw [sizeLine_eq]; omega, ps ++ [.ref q'], ?_, upd_same, fun c o hc => ?_⟩
            · rw [List.take_add_one, ht]
              exact RowsBy.snoc (sqT_lst hD5 ht5) (rw4.imp fun _ _ z => sqT_lst hD5 (sqT_same e5 z))
            · rw [upd_ne (ne_of_none hc hD)]
              exact e5 _ _ (e4 _ _ hc)
          have fin : ∀ (D : Addr) H4, (∃ ps, RowsBy (SqT K H4) ps (ts.take xs.length) ∧ H4 D = some (.lst ps) ∧ Same H3 H4) → ∃ ps, H4 D = some (.lst ps) ∧ RowsBy (SqT K H4) ps ts ∧ Same H3 H4 := fun D H4 ⟨ps, h1, h2, h3⟩ => by
            rw [← lts, List.take_length] at h1
            exact ⟨ps, h2, h1, h3⟩
          have zero : ∀ (D : Addr), H3 D = .none → ∃ ps, RowsBy (SqT K (L2.upd H3 D (.lst []))) ps (ts.take 0) ∧ L2.upd H3 D (.lst []) D = some (.lst ps) ∧ Same H3 (L2.upd H3 D (.lst [])) := fun D hD => ⟨[], trivial, upd_same, same_new hD⟩
          refine ⟨_, rfl, b, xs, rfl, ?_⟩
          rcases hb3 with hb3 | hb3
          · refine .inl ⟨hb3, fun D hD => lc_list (xs := xs) (fun i H4 => ∃ ps, RowsBy (SqT K H4) ps (ts.take i) ∧ H4 D = some (.lst ps) ∧ Same H3 H4) (zero D hD) (fun i H4 _ p => p.elim fun _ p => sqL_same p.2.2 hb3) (fun i y H4 hy p => ⟨rfl, yes ((if_pos rfl).mpr ?_)⟩) fun H4 p => ?_⟩
            · obtain ⟨q, ys, rfl, sq, k⟩ := go D hD i y H4 hy p
              exact ⟨_, rfl, q, ys, rfl, sq, k⟩
            · obtain ⟨ps, h1, h2, h3⟩ := fin D H4 p
              exact ⟨D, _, rfl, .inl (SqL.of h1), fun t H5 e5 ht => ⟨_, rfl, x, CM, dx, _, rfl, e5 _ _ (h3 _ _ hx3), TM.cl, TM.n3, (Nat.lt_of_succ_lt (by show 3 < 1000; decide)), last H4 D ps h3 h1 h2 t H5 e5 ht⟩⟩
          · refine .inr ⟨hb3, fun D hD => lc_tup (xs := xs) (fun i H4 => ∃ ps, RowsBy (SqT K H4) ps (ts.take i) ∧ H4 D = some (.lst ps) ∧ Same H3 H4) (zero D hD) (fun i H4 _ p => p.elim fun _ p => sqT_same p.2.2 hb3) (fun i y H4 hy p => ⟨rfl, yes ((if_pos rfl).mpr ?_)⟩) fun H4 p => ?_⟩
            · obtain ⟨q, ys, rfl, sq, k⟩ := go D hD i y H4 hy p
              exact ⟨_, rfl, q, ys, rfl, sq, k⟩
            · obtain ⟨ps, h1, h2, h3⟩ := fin D H4 p
              exact ⟨D, _, rfl, .inl (SqL.of h1), fun t H5 e5 ht => ⟨_, rfl, x, CM, dx, _, rfl, e5 _ _ (h3 _ _ hx3), TM.cl, TM.n3, (Nat.lt_of_succ_lt (by show 3 < 1000; decide)), last H4 D ps h3 h1 h2 t H5 e5 ht⟩⟩
      | _ => cases i1
end
end K5
/-! machines compared; states, deeds, rows -/
namespace K5
open L2 PySem PySem.Spec PyProof.Rows Kx
theorem dp_rows {K : PySem.W.Frag} {H : Hp} {p : Addr} {vs : List V} {rs : List (List Int)} (hp : SqT K H p vs) (h : RowsBy (SqT K H) vs rs) : Dp K H (.ref p) (dRows rs) := .tup hp (go h) where
  go : ∀ {vs : List V} {rs : List (List Int)}, RowsBy (SqT K H) vs rs → DpAll K H vs (rs.map dNums)
    | [], [], _ => .nil
    | _ :: _, _ :: _, ⟨⟨q, h1, h2⟩, h⟩ => .cons (by rw [h1]; exact dp_nums h2) (go h)
    | [], _ :: _, h => h.elim
    | _ :: _, [], h => h.elim
/-- t == u, tuples of rows -/
def rRowsEq (K : PySem.W.Frag) : R2 := fun x y H Q => ∃ (a b : Addr) (ps qs : List V) (xs ys : List (List Int)), x = .ref a ∧ y = .ref b ∧ SqT K H a ps ∧ SqT K H b qs ∧ RowsBy (SqT K H) ps xs ∧ RowsBy (SqT K H) qs ys ∧ Q (.bl (decide (xs = ys))) H
theorem op_eqRows {X : Cx} (hu : X.A.units + 64 < cLine) : OpR X (compareOp .Eq) (rRowsEq X.K) := by
  intro pins st σ H x y v u Q I rx ry h
  obtain ⟨a, b, ps, qs, xs, ys, rfl, rfl, h1, h2, r1, r2, q⟩ := h
  refine op_eqD hu pins st σ H _ _ v u Q I rx ry ⟨_, _, dp_rows h1 r1, dp_rows h2 r2, shaped_rows xs, shaped_rows ys, ?_⟩
  simp only [PyData.eqv, eqv_rows]
  exact q
def spEqM (K : PySem.W.Frag) (CM : Addr) : Sp := fun vs H Q _ => ∃ m n ts d, vs = [.ref m, .ref d] ∧ McAt K CM H m n ts ∧
  ((∃ n' ts', McAt K CM H d n' ts' ∧ ∀ H', Same H H' → Q (.bl (decide (ts = ts'))) H') ∨ ((∃ xs, SqT K H d xs) ∧ ∀ H', Same H H' → Q (.bl false) H'))
section
variable {P : Program} {w : World} {K : PySem.W.Frag} {mg : Str → Option Value} {base : Heap} {f : Addr} {fd : FuncData} {a : Ad} {CM : Addr}
theorem ty_mc {H : Hp} {m : Addr} {n : Nat} {ts : List (List Int)} (TM : ClsM K mg CM) (h : McAt K CM H m n ts) : TyX K H (.ref m) (.ref CM) := by
  obtain ⟨_, dx, t, ps, e, _⟩ := h
  exact .base (.ins e TM.cl TM.isi.ca TM.isi.cn TM.isi.ct TM.isi.cm)
theorem sc_eq : FnScope ["self", "other"] ["self", "other"] (defScope s_Machine_eq) := ⟨rfl, rfl, rfl, by decide +kernel, rfl, by decide +kernel, by decide +kernel⟩
theorem ok_eq (F : FunD K "__eq__" "Machine.__eq__" (defArgs s_Machine_eq) (defBody s_Machine_eq) (defScope s_Machine_eq) [] [] f fd) (T : Mg mg) (TM : ClsM K mg CM) : FnOk P w K mg base CX0 1 f fd ["self", "other"] (spEqM K CM) := by
  refine F.ok sc_eq (fun vs H Q E h => ?_) (fun cdv A outer s H vs Q E hr h => ?_)
  · obtain ⟨m, n, ts, d, rfl, _⟩ := h
    rfl
  · obtain ⟨m, n, ts, d, rfl, hm, how⟩ := h
    refine ⟨_, PSs.nox (pss_one (ps_ret (pe_and (pe_callB call_isi (by rfl) T.z_isinstance (by decide +kernel) (pa_cons (pv 1) (pa_cons (pe_glob (v := V.ref CM) rfl TM.at_ rfl) pa_nil))) (pe_one (pe_cmpR (op_eqRows (r64 hr)) (pe_fld (pv 0) rfl) (pe_fld (pv 1) rfl) (nomark _)))))), ?_⟩
    rcases how with ⟨n', ts', hd, k⟩ | ⟨⟨xs, hd⟩, k⟩
    · refine ⟨_, rfl, _, .ref CM, _, _, true, rfl, .own CM, ty_mc TM hd, TM.yes, true, rfl, iteT ?_⟩
      obtain ⟨_, dx, t, ps, c1, c2, c3⟩ := hm
      obtain ⟨_, dx', t', ps', d1, d2, d3⟩ := hd
      exact ⟨_, rfl, m, CM, dx, _, _, rfl, c1, TM.cl, TM.n3, rfl, _, rfl, d, CM, dx', _, _, rfl, d1, TM.cl, TM.n3, rfl, t, t', ps, ps', ts, ts', rfl, rfl, c2, d2, c3, d3, k H (Same.refl H)⟩
    · exact ⟨_, rfl, _, .ref CM, _, _, false, rfl, .own CM, tyx_tuple hd, TM.notT, false, rfl, iteF (k H (Same.refl H))⟩
end
end K5
/-! counters are made, compared -/
namespace K5
open PySem PySem.Spec PyProof.Rows L2 Kx
/-- rounds and rests that counters may have -/
structure Cok (rs es : List Int) : Prop where
  l1 : 1 ≤ rs.length
  l4 : rs.length ≤ 4
  le : es.length = rs.length
  r : ∀ x ∈ rs, 0 ≤ x ∧ x ≤ 60
  e : ∀ x ∈ es, 0 ≤ x ∧ x ≤ 6
structure CnAt (K : PySem.W.Frag) (C : Addr) (H : Hp) (c : Addr) (rs es : List Int) : Prop where
  ok : Cok rs es
  ex : ∃ dx p q, H c = some (.ins C dx [("rounds", .ref p), ("rests", .ref q)]) ∧ SqT K H p (rs.map V.int) ∧ SqT K H q (es.map V.int)
theorem CnAt.same {K : PySem.W.Frag} {C : Addr} {H H' : Hp} {c : Addr} {rs es : List Int} (e : Same H H') (h : CnAt K C H c rs es) : CnAt K C H' c rs es := by
  obtain ⟨ok, dx, p, q, h1, h2, h3⟩ := h
  exact ⟨ok, dx, p, q, e _ _ h1, sqT_same e h2, sqT_same e h3⟩
/-- what the module holds of such a class -/
structure ClsC (K : PySem.W.Frag) (mg : Str → Option Value) (C : Addr) : Prop where
  at_ : mg "Counters" = some (.ref C)
  cl : Cls K C
  n1 : NoAttr K C "rounds"
  n2 : NoAttr K C "rests"
  isi : SlX.SIsi K C
  yes : PySem.W.kitOne K (.ref C) (.ref C) = some true
  notT : PySem.W.kitOne K (.type "tuple") (.ref C) = some false
  first : PySem.W.notFirst K C (.type "tuple") = true
def roundsOk : Option (List V) → Bool
  | some xs => inLen 1 4 (some xs) && (fnb 61 xs).isNone
  | none => false
theorem roundsOk_some {xs : List V} : roundsOk (some xs) = (inLen 1 4 (some xs) && (fnb 61 xs).isNone) := rfl
def restsOk (k : Nat) : Option (List V) → Bool
  | some ys => ys.isEmpty || (decide (ys.length = k) && (fnb 7 ys).isNone)
  | none => false
theorem restsOk_some {k : Nat} {ys : List V} : restsOk k (some ys) = (ys.isEmpty || (decide (ys.length = k) && (fnb 7 ys).isNone)) := rfl
def spRests (K : PySem.W.Frag) : Sp := fun vs H Q _ => ∃ (v : V) (k : Nat) (o : Option (List V)), vs = [v, .int (k : Int)] ∧ k ≤ 4 ∧ Long K H v o ∧ Kns K H o 4 ∧ ∀ H', Same H H' → Q (.bl (restsOk k o)) H'
def spInit (K : PySem.W.Frag) (a : Ad) (C : Addr) : Sp := fun vs H Q E => ∃ (x dx : Addr) (v1 v2 : V) (o1 o2 : Option (List V)), vs = [.ref x, v1, v2] ∧ H x = some (.ins C dx []) ∧ Long K H v1 o1 ∧ Kns K H o1 4 ∧ Long K H v2 o2 ∧ Kns K H o2 4 ∧
  (roundsOk o1 = false → Thrown E H a.cF "at" v1) ∧ (∀ xs, o1 = some xs → roundsOk o1 = true → restsOk xs.length o2 = false → Thrown E H a.cF "at" v2) ∧
  (∀ rs es, Cok rs es → o1 = some (rs.map V.int) → (o2 = some [] ∧ es = List.replicate rs.length 0 ∨ o2 = some (es.map V.int)) → ∀ H', (∀ b o, b ≠ x → H b = some o → H' b = some o) → CnAt K C H' x rs es → Q .non H')
theorem restsOk_true {k : Nat} {o : Option (List V)} (h : restsOk k o = true) : o = some [] ∨ ∃ es : List Int, o = some (es.map V.int) ∧ es.length = k ∧ ∀ x ∈ es, 0 ≤ x ∧ x ≤ 6 := by
  cases o with
  | none => cases h
  | some ys =>
    rw [restsOk_some, Bool.or_eq_true, Bool.and_eq_true] at h
    rcases h with h | ⟨h1, h2⟩
    · rw [List.isEmpty_iff.mp h]
      exact .inl rfl
    · obtain ⟨es, rfl, he⟩ := fnb_ints (Option.isNone_iff_eq_none.mp h2)
      refine .inr ⟨es, rfl, ?_, fun x hx => ⟨(he x hx).1, by have := (he x hx).2; omega⟩⟩
      have := of_decide_eq_true h1
      rwa [List.length_map] at this
section
variable {P : Program} {w : World} {K : PySem.W.Frag} {mg : Str → Option Value} {base : Heap} {f : Addr} {fd : FuncData} {a : Ad} {C : Addr}
theorem sc__are_rests : FnScope ["value", "kinds"] ["value", "kinds"] (defScope s_are_rests) := ⟨rfl, rfl, rfl, by decide +kernel, rfl, by decide +kernel, by decide +kernel⟩
theorem optV_isN {o : Option Nat} : decide (optV o = V.non) = o.isNone := optV_non
theorem inLen_00 {xs : List V} : inLen 0 0 (some xs) = xs.isEmpty := by
  cases xs with
  | nil => rfl
  | cons x xs =>
    rw [inLen_some, decide_eq_true (by omega), decide_eq_false (by simp only [List.length_cons]; omega)]
    rfl
theorem inLen_kk {k : Nat} {xs : List V} : inLen (k : Int) (k : Int) (some xs) = decide (xs.length = k) := by
  rw [inLen_some, Bool.eq_iff_iff, Bool.and_eq_true, decide_eq_true_eq, decide_eq_true_eq, decide_eq_true_eq]
  omega
theorem ok_are_rests (F : FnP K "_are_rests" s_are_rests f fd) (T : Mg mg) (c_is_sequence : Cal P w K mg base CX0 1 "is_sequence" ["value", "least", "most"] (spSeq K)) (c_first_not_below : Cal P w K mg base CX0 3 "first_not_below" ["values", "limit"] (spFnb K)) :
    FnOk P w K mg base CX0 4 f fd ["value", "kinds"] (spRests K) := by
  refine F.ok sc__are_rests (fun vs H Q E h => ?_) (fun cdv A outer s H vs Q E hr h => ?_)
  · obtain ⟨v, k, o, rfl, _⟩ := h
    rfl
  · obtain ⟨v, k, o, rfl, hk, hv, kn, q⟩ := h
    refine ⟨_, PSs.nox (pss_cons (ps_if (pt_val (pe_callC c_is_sequence hr pass0 (pa_cons (pv 0) (pa_cons pe_int (pa_cons pe_int pa_nil)))))
        (pss_one (ps_ret pe_bl))
        pss_nil)
      (pss_one (ps_ret (pe_and (pe_callC c_is_sequence hr pass0 (pa_cons (pv 0) (pa_cons (pv 1) (pa_cons (pv 1) pa_nil)))) (pe_one (pe_cmpR op_isN (pe_callC c_first_not_below hr pass0 (pa_cons (pv 0) (pa_cons (pe_op op_add (pe_constI T.g_REST_MOST) pe_int) pa_nil))) pe_non (nomark _))))))), ?_⟩
    refine ⟨v, rfl, v, 0, 0, o, rfl, hv, fun H1 e1 => ⟨inLen 0 0 o, rfl, ?_⟩⟩
    cases o with
    | none =>
      refine iteF ?_
      exact ⟨v, rfl, _, rfl, _, rfl, v, _, _, none, rfl, hv.same e1, fun H2 e2 => ⟨_, rfl, iteF (q _ (e1.trans e2))⟩⟩
    | some xs =>
      rw [inLen_00]
      cases hz : xs.isEmpty with
      | true =>
        refine iteT ?_
        have e : restsOk k (some xs) = true := by rw [restsOk_some, hz] <;> rfl
        rw [e] at q
        exact q _ e1
      | false =>
        refine iteF ?_
        have e : restsOk k (some xs) = (decide (xs.length = k) && (fnb 7 xs).isNone) := by rw [restsOk_some, hz] <;> rfl
        rw [e] at q
        refine ⟨v, rfl, _, rfl, _, rfl, v, _, _, some xs, rfl, hv.same e1, fun H2 e2 => ⟨_, rfl, ?_⟩⟩
        rw [inLen_kk]
        cases hl : decide (xs.length = k) with
        | false =>
          rw [hl] at q
          exact iteF (q _ (e1.trans e2))
        | true =>
          rw [hl] at q
          refine iteT ?_
          have e12 := e1.trans e2
          cases hv with
          | seq qs =>
            refine ⟨_, rfl, _, _, rfl, rfl, _, xs, 7, rfl, qs.same e12, fun x hx => (kn _ rfl (by have := of_decide_eq_true hl; omega) x hx).same e12, fun H3 e3 => ⟨rfl, ?_⟩⟩
            have q3 := q _ (e12.trans e3)
            rw [← optV_non] at q3
            exact q3
theorem sc_init : FnScope ["self", "rounds", "rests"] ["self", "rounds", "rests"] (defScope s_Counters_init) := ⟨rfl, rfl, rfl, by decide +kernel, rfl, by decide +kernel, by decide +kernel⟩
theorem ok_init {dvs : List V} (F : FunD K "__init__" "Counters.__init__" (defArgs s_Counters_init) (defBody s_Counters_init) (defScope s_Counters_init) dvs [] f fd) (T : Mg mg) (R : Er P w K mg base a) (TC : ClsC K mg C)
    (c_is_sequence : Cal P w K mg base CX0 1 "is_sequence" ["value", "least", "most"] (spSeq K)) (c_first_not_below : Cal P w K mg base CX0 3 "first_not_below" ["values", "limit"] (spFnb K))
    (c__are_rests : Cal P w K mg base CX0 4 "_are_rests" ["value", "kinds"] (spRests K)) : FnOk P w K mg base (L2N.CX P w) 5 f fd ["self", "rounds", "rests"] (spInit K a C) := by
  refine F.ok sc_init (fun vs H Q E h => ?_) (fun cdv A outer s H vs Q E hr h => ?_)
  · obtain ⟨x, dx, v1, v2, o1, o2, rfl, _⟩ := h
    rfl
  · obtain ⟨x, dx, v1, v2, o1, o2, rfl, hx, h1, k1, h2, k2, bad1, bad2, good⟩ := h
    refine ⟨_, (pss_cons (ps_if (PW.pt (pw_or (pt_not (pt_val (pe_callC c_is_sequence hr pass0 (pa_cons (pv 1) (pa_cons pe_int (pa_cons (pe_constI T.g_DEEDS_MOST) pa_nil)))))) (pw_or1 (pt_cmpR op_notN (pe_callC c_first_not_below hr pass0 (pa_cons (pv 1) (pa_cons (pe_op op_add (pe_constI T.g_ROUND_MOST) pe_int) pa_nil))) pe_non (nomark _)))))
        (pss_one (psN R.Refused rfl hr (L2N.takes_of rfl rfl rfl rfl) (pa_cons (pv 1) pa_nil)))
        pss_nil)
      (pss_cons (ps_if (pt_not (pt_val (pe_callC c__are_rests hr pass0 (pa_cons (pv 2) (pa_cons (pe_callB call_len_seq (by rfl) T.z_len PySem.boot_len (pa_cons (pv 1) pa_nil)) pa_nil)))))
        (pss_one (psN R.Refused rfl hr (L2N.takes_of rfl rfl rfl rfl) (pa_cons (pv 2) pa_nil)))
        pss_nil)
      (PSs.nox (pss_cons (ps_fld (pv 0) (pe_callTy call_tup (by rfl) T.z_tuple (by decide +kernel) (pa_cons (pv 1) pa_nil)) rfl)
      (pss_one (ps_fld (pv 0) (pe_ifExp (pt_truth (pv 2) (by intro _; rfl)) (pe_callTy call_tup (by rfl) T.z_tuple (by decide +kernel) (pa_cons (pv 2) pa_nil)) (pe_op op_times (pe_tup (pa_cons pe_int pa_nil)) (pe_callB call_len_seq (by rfl) T.z_len PySem.boot_len (pa_cons (pv 1) pa_nil)))) rfl)))))), ?_⟩
    refine ⟨v1, rfl, v1, 1, 4, o1, rfl, h1, fun H1 e1 => ⟨inLen 1 4 o1, rfl, ?_⟩⟩
    cases i1 : inLen 1 4 o1 with
    | false =>
      have r1 : roundsOk o1 = false := by
        cases o1 with
        | none => rfl
        | some xs => rw [roundsOk_some, i1] <;> rfl
      exact iteT ⟨v1, rfl, thrownN ((bad1 r1).same e1).at_⟩
    | true =>
      refine iteF ?_
      cases h1 with
      | seq q1 =>
        rename_i b1 xs
        have len : 1 ≤ xs.length ∧ xs.length ≤ 4 := by
          have z := i1
          rw [inLen_some, Bool.and_eq_true] at z
          have := of_decide_eq_true z.1
          have := of_decide_eq_true z.2
          omega
        refine ⟨_, rfl, _, _, rfl, rfl, b1, xs, 61, rfl, q1.same e1, fun x hx => (k1 _ rfl len.2 x hx).same e1, fun H2 e2 => ⟨rfl, !(fnb 61 xs).isNone, ?_, ?_⟩⟩
        · rw [← optV_non]
        · have e12 := e1.trans e2
          cases ef : (fnb 61 xs).isNone with
          | false =>
            have r1 : roundsOk (some xs) = false := by rw [roundsOk_some, i1, ef] <;> rfl
            exact iteT ⟨_, rfl, thrownN ((bad1 r1).same e12).at_⟩
          | true =>
            have r1 : roundsOk (some xs) = true := by rw [roundsOk_some, i1, ef] <;> rfl
            refine iteF ?_
            refine ⟨v2, rfl, _, rfl, _, xs, rfl, q1.same e12, v2, xs.length, o2, rfl, len.2, h2.same e12, fun ys q l x hx => (k2 ys q l x hx).same e12, fun H3 e3 => ⟨restsOk xs.length o2, rfl, ?_⟩⟩
            have e13 := e12.trans e3
            cases r2 : restsOk xs.length o2 with
            | false => exact iteT ⟨v2, rfl, thrownN ((bad2 xs rfl r1 r2).same e13).at_⟩
            | true =>
              refine iteF ?_
              obtain ⟨rs, rfl, hrs⟩ := fnb_ints (Option.isNone_iff_eq_none.mp ef)
              have q1' := q1.same e13
              have hx' := e13 _ _ hx
              have fin : ∀ (p q : Addr) (es : List Int) (Hz : Hp), Cok rs es → (o2 = some [] ∧ es = List.replicate rs.length 0 ∨ o2 = some (es.map V.int)) → (∀ b o, b ≠ x → H b = some o → Hz b = some o) → SqT K Hz p (rs.map V.int) → SqT K Hz q (es.map V.int) → Hz x = some (.ins C dx [("rounds", .ref p), ("rests", .ref q)]) → Q .non Hz := fun p q es Hz ok2 ho keep hp hq hz =>
                good rs es ok2 rfl ho Hz keep ⟨ok2, dx, p, q, hz, hp, hq⟩
              refine ⟨_, rfl, b1, _, rfl, q1', fun p H4 e4 hp => ?_⟩
              have e14 := e13.trans e4
              refine ⟨_, rfl, x, C, dx, _, rfl, e14 _ _ hx, TC.cl, TC.n1, (by decide), ?_⟩
              have hx4 := e14 _ _ hx
              generalize eH : upd H4 x (.ins C dx (putF "rounds" (.ref p) [])) = H5
              have hx5 : H5 x = some (.ins C dx [("rounds", .ref p)]) := by rw [← eH]; exact upd_same
              have q15 : Sq K H5 b1 (rs.map V.int) := by rw [← eH]; exact sq_ins hx4 (q1.same e14)
              have p5 : SqT K H5 p (rs.map V.int) := by rw [← eH]; exact sqT_ins hx4 hp
              have keep5 : ∀ b o, b ≠ x → H b = some o → H5 b = some o := fun b o ne hb => by rw [← eH, upd_ne ne]; exact e14 _ _ hb
              obtain ⟨b2, ys, rfl, rfl, q2⟩ : ∃ b2 ys, v2 = .ref b2 ∧ o2 = some ys ∧ Sq K H b2 ys := by
                cases h2 with
                | seq q => exact ⟨_, _, rfl, rfl, q⟩
                | _ => cases r2
              have q25 : Sq K H5 b2 ys := by rw [← eH]; exact sq_ins hx4 (q2.same e14)
              have last : ∀ (q : Addr) (es : List Int) (H7 : Hp), Same H5 H7 → SqT K H7 q (es.map V.int) → Cok rs es → (some ys = some [] ∧ es = List.replicate rs.length 0 ∨ some ys = some (es.map V.int)) → Q .non (upd H7 x (.ins C dx (putF "rests" (.ref q) [("rounds", .ref p)]))) := fun q es H7 e7 hq ok2 ho =>
                fin p q es _ ok2 ho (fun b o ne hb => by rw [upd_ne ne]; exact e7 _ _ (keep5 b o ne hb)) (sqT_ins (e7 _ _ hx5) (sqT_same e7 p5)) (sqT_ins (e7 _ _ hx5) hq) upd_same
              have lrs : 1 ≤ rs.length ∧ rs.length ≤ 4 := by rw [List.length_map] at len; exact len
              have brs : ∀ n ∈ rs, 0 ≤ n ∧ n ≤ 60 := fun n hn => ⟨(hrs n hn).1, by have := (hrs n hn).2; omega⟩
              refine ⟨_, rfl, _, tru_sq q25, ?_⟩
              rcases restsOk_true r2 with e | ⟨es, e, le, be⟩
              · cases e
                refine iteF ⟨(by show 1 ≤ sizeLine; decide), fun t ht => ?_⟩
                have e6 := same_new (o := HO.tup [.int 0]) ht
                refine ⟨_, rfl, b1, _, rfl, q15.same e6, ?_⟩
                refine ⟨t, rs.length, [.int 0], rfl, by rw [List.length_map], SqT.of upd_same, (by simp), by omega, (by decide), fun q H7 e7 hq => ?_⟩
                have e57 := e6.trans e7
                refine ⟨_, rfl, x, C, dx, _, rfl, e57 _ _ hx5, TC.cl, TC.n2, (Nat.lt_of_succ_lt (by show 2 < 1000; decide)), ?_⟩
                refine last q (List.replicate rs.length 0) H7 e57 ?_ ⟨lrs.1, lrs.2, List.length_replicate, brs, fun n hn => by rw [List.eq_of_mem_replicate hn]; decide⟩ (.inl ⟨rfl, rfl⟩)
                have e8 : (List.replicate rs.length [V.int 0]).flatten = (List.replicate rs.length (0 : Int)).map V.int := by rw [List.map_replicate, List.flatten_replicate_singleton]
                rw [e8] at hq
                exact hq
              · cases e
                have ne : (!(es.map V.int).isEmpty) = true := by
                  cases es with
                  | nil => simp at le; omega
                  | cons _ _ => rfl
                rw [ne]
                refine iteT ⟨_, rfl, b2, _, rfl, q25, fun q H7 e7 hq => ?_⟩
                refine ⟨_, rfl, x, C, dx, _, rfl, e7 _ _ hx5, TC.cl, TC.n2, (Nat.lt_of_succ_lt (by show 2 < 1000; decide)), ?_⟩
                rw [List.length_map] at le
                exact last q es H7 e7 hq ⟨lrs.1, lrs.2, le, brs, be⟩ (.inr rfl)
      | non => cases i1
      | bl _ => cases i1
      | int _ => cases i1
      | str _ => cases i1
/-- own ==: of other counters, of a tuple -/
def spEqC (K : PySem.W.Frag) (C : Addr) : Sp := fun vs H Q _ => ∃ c rs es d, vs = [.ref c, .ref d] ∧ CnAt K C H c rs es ∧
  ((∃ rs' es', CnAt K C H d rs' es' ∧ ∀ H', Same H H' → Q (.bl (decide (rs = rs' ∧ es = es'))) H') ∨ ((∃ xs, SqT K H d xs) ∧ ∀ H', Same H H' → Q (.bl false) H'))
theorem ty_cn {H : Hp} {c : Addr} {rs es : List Int} (TC : ClsC K mg C) (h : CnAt K C H c rs es) : TyX K H (.ref c) (.ref C) := by
  obtain ⟨_, dx, p, q, e, _⟩ := h
  exact .base (.ins e TC.cl TC.isi.ca TC.isi.cn TC.isi.ct TC.isi.cm)
theorem sc_eqC : FnScope ["self", "other"] ["self", "other"] (defScope s_Counters_eq) := ⟨rfl, rfl, rfl, by decide +kernel, rfl, by decide +kernel, by decide +kernel⟩
theorem ok_eqC (F : FunD K "__eq__" "Counters.__eq__" (defArgs s_Counters_eq) (defBody s_Counters_eq) (defScope s_Counters_eq) [] [] f fd) (T : Mg mg) (TC : ClsC K mg C) : FnOk P w K mg base CX0 1 f fd ["self", "other"] (spEqC K C) := by
  refine F.ok sc_eqC (fun vs H Q E h => ?_) (fun cdv A outer s H vs Q E hr h => ?_)
  · obtain ⟨c, rs, es, d, rfl, _⟩ := h
    rfl
  · obtain ⟨c, rs, es, d, rfl, hc, how⟩ := h
    refine ⟨_, PSs.nox (pss_one (ps_ret (pe_and (pe_callB call_isi (by rfl) T.z_isinstance (by decide +kernel) (pa_cons (pv 1) (pa_cons (pe_glob (v := V.ref C) rfl TC.at_ rfl) pa_nil))) (pe_and (pe_cmpR (op_eqNums (r64 hr)) (pe_fld (pv 0) rfl) (pe_fld (pv 1) rfl) (nomark _)) (pe_one (pe_cmpR (op_eqNums (r64 hr)) (pe_fld (pv 0) rfl) (pe_fld (pv 1) rfl) (nomark _))))))), ?_⟩
    rcases how with ⟨rs', es', hd, k⟩ | ⟨⟨xs, hd⟩, k⟩
    · refine ⟨_, rfl, _, .ref C, _, _, true, rfl, .own C, ty_cn TC hd, TC.yes, true, rfl, iteT ?_⟩
      obtain ⟨_, dx, p, q, c1, c2, c3⟩ := hc
      obtain ⟨_, dx', p', q', d1, d2, d3⟩ := hd
      refine ⟨_, rfl, c, C, dx, _, _, rfl, c1, TC.cl, TC.n1, rfl, _, rfl, d, C, dx', _, _, rfl, d1, TC.cl, TC.n1, rfl, p, p', rs, rs', rfl, rfl, c2, d2, _, rfl, ?_⟩
      have k := k H (Same.refl H)
      refine ite2 (fun h => ?_) (fun h => ?_)
      · have e : rs = rs' := by simpa using h
        refine ⟨_, rfl, c, C, dx, _, _, rfl, c1, TC.cl, TC.n2, rfl, _, rfl, d, C, dx', _, _, rfl, d1, TC.cl, TC.n2, rfl, q, q', es, es', rfl, rfl, c3, d3, ?_⟩
        have e2 : (false != decide (es = es')) = decide (rs = rs' ∧ es = es') := by rw [Bool.false_bne, Bool.eq_iff_iff]; simp [e]
        rw [← e2] at k
        exact k
      · have e : ¬ rs = rs' := by simpa using h
        have e2 : decide (rs = rs' ∧ es = es') = false := decide_eq_false fun z => e z.1
        rw [e2] at k
        exact k
    · exact ⟨_, rfl, _, .ref C, _, _, false, rfl, .own C, tyx_tuple hd, TC.notT, false, rfl, iteF (k H (Same.refl H))⟩
end
end K5
/-! showings of any value, the showing one deed later -/
namespace K5
open PySem PySem.Spec PyProof.Rows L2 Kx
theorem Cok.at_ {rs es : List Int} (h : Cok rs es) {i : Nat} (hi : i < rs.length) : rs[i]? = some (rs.getD i 0) ∧ es[i]? = some (es.getD i 0) ∧ 0 ≤ rs.getD i 0 ∧ rs.getD i 0 ≤ 60 ∧ 0 ≤ es.getD i 0 ∧ es.getD i 0 ≤ 6 := by
  have he : i < es.length := by rw [h.le]; exact hi
  have a1 : rs[i]? = some (rs.getD i 0) := by rw [List.getD_eq_getElem?_getD, List.getElem?_eq_getElem hi] <;> rfl
  have a2 : es[i]? = some (es.getD i 0) := by rw [List.getD_eq_getElem?_getD, List.getElem?_eq_getElem he] <;> rfl
  have b1 := h.r _ (List.mem_of_getElem? a1)
  have b2 := h.e _ (List.mem_of_getElem? a2)
  exact ⟨a1, a2, b1.1, b1.2, b2.1, b2.2⟩
def canShow (r e : Int) (v : V) : Bool := if r = 0 then isNum v else isBel (e + r) v
def spCanShow (K : PySem.W.Frag) (C : Addr) : Sp := fun vs H Q _ => ∃ c rs es, ∃ i : Nat, ∃ v r e, vs = [.ref c, .int (i : Int), v] ∧ CnAt K C H c rs es ∧ Kn K H v ∧ rs[i]? = some r ∧ es[i]? = some e ∧ Q (.bl (canShow r e v)) H
/-- all items can be shown -/
def AllShow (rs es : List Int) (xs : List V) : Prop := ∀ j x, xs[j]? = some x → canShow (rs.getD j 0) (es.getD j 0) x = true
/-- item i is the first that can't be shown -/
def FirstWrong (rs es : List Int) (xs : List V) (i : Nat) : Prop := (∀ j x, j < i → xs[j]? = some x → canShow (rs.getD j 0) (es.getD j 0) x = true) ∧ ∃ x, xs[i]? = some x ∧ canShow (rs.getD i 0) (es.getD i 0) x = false
/-- what is asked of a value that is to be a showing -/
structure ShowArg (K : PySem.W.Frag) (a : Ad) (H : Hp) (E : XK) (rs es : List Int) (v : V) (o : Option (List V)) : Prop where
  long : Long K H v o
  kn : ∀ xs, o = some xs → xs.length = rs.length → ∀ x ∈ xs, Kn K H x
  far : (o = none ∨ ∃ xs, o = some xs ∧ xs.length ≠ rs.length) → Thrown E H a.cS "at" (.int (-1))
  near : ∀ xs i, o = some xs → xs.length = rs.length → FirstWrong rs es xs i → Thrown E H a.cS "at" (.int (i : Int))
def spCheck (K : PySem.W.Frag) (a : Ad) (C : Addr) : Sp := fun vs H Q E => ∃ c rs es v o, vs = [.ref c, v] ∧ CnAt K C H c rs es ∧ ShowArg K a H E rs es v o ∧
  ∀ xs, o = some xs → xs.length = rs.length → AllShow rs es xs → ∀ p H', Same H H' → SqT K H' p xs → Q (.ref p) H'
theorem canShow_int {r e : Int} {v : V} (h : canShow r e v = true) : ∃ n, v = .int n ∧ 0 ≤ n := by
  unfold canShow at h
  by_cases z : r = 0
  · rw [if_pos z] at h
    cases v with
    | int n => exact ⟨n, rfl, of_decide_eq_true h⟩
    | _ => cases h
  · rw [if_neg z] at h
    cases v with
    | int n =>
      have h : (decide (0 ≤ n) && decide (n < e + r)) = true := h
      rw [Bool.and_eq_true] at h
      exact ⟨n, rfl, of_decide_eq_true h.1⟩
    | _ => cases h
theorem all_ints : ∀ {xs : List V}, (∀ (j : Nat) (x : V), xs[j]? = some x → ∃ n, x = V.int n ∧ 0 ≤ n) → ∃ ns : List Int, xs = ns.map V.int ∧ ∀ n ∈ ns, 0 ≤ n
  | [], _ => ⟨[], rfl, fun _ h => nomatch h⟩
  | x :: xs, h => by
    obtain ⟨n, rfl, hn⟩ := h 0 x rfl
    obtain ⟨ns, rfl, hns⟩ := all_ints (xs := xs) fun j y hy => h (j + 1) y (by simpa using hy)
    exact ⟨n :: ns, rfl, fun m hm => (List.mem_cons.mp hm).elim (fun e => e ▸ hn) (hns m)⟩
section
variable {P : Program} {w : World} {K : PySem.W.Frag} {mg : Str → Option Value} {base : Heap} {f : Addr} {fd : FuncData} {a : Ad} {C CM : Addr}
theorem sc_can_show : FnScope ["counters", "kind", "value", "turn"] ["counters", "kind", "value"] (defScope s_can_show) := ⟨rfl, rfl, rfl, by decide +kernel, rfl, by decide +kernel, by decide +kernel⟩
theorem ok_can_show (F : FnP K "_can_show" s_can_show f fd) (T : Mg mg) (TC : ClsC K mg C) (c_is_number : Cal P w K mg base CX0 1 "is_number" ["value"] (spNumber K)) (c_is_below : Cal P w K mg base CX0 2 "is_below" ["value", "limit"] (spBelow K)) :
    FnOk P w K mg base CX0 3 f fd ["counters", "kind", "value"] (spCanShow K C) := by
  refine F.ok sc_can_show (fun vs H Q E h => ?_) (fun cdv A outer s H vs Q E hr h => ?_)
  · obtain ⟨c, rs, es, i, v, r, e, rfl, _⟩ := h
    rfl
  · obtain ⟨c, rs, es, i, v, r, e, rfl, ⟨ok, dx, p, q, h1, h2, h3⟩, hv, hr', he, k⟩ := h
    refine ⟨_, PSs.nox (pss_cons (ps_set (i := 3) sc_can_show.nd rfl (by first | exact Or.inl rfl | exact Or.inr rfl) (pe_ix ix_tup (pe_fld (pv 0) rfl) (pv 1) (fun _ _ => rfl)))
      (pss_cons (ps_if (pt_cmpR op_eq (pv 3) pe_int (nomark _))
        (pss_one (ps_ret (pe_callC c_is_number hr pass0 (pa_cons (pv 2) pa_nil))))
        pss_nil)
      (pss_one (ps_ret (pe_callC c_is_below hr pass0 (pa_cons (pv 2) (pa_cons (pe_op op_add (pe_ix ix_tup (pe_fld (pv 0) rfl) (pv 1) (fun _ _ => rfl)) (pv 3)) pa_nil))))))), ?_⟩
    have hr2 : (rs.map V.int)[i]? = some (.int r) := by rw [List.getElem?_map, hr']; rfl
    have he2 : (es.map V.int)[i]? = some (.int e) := by rw [List.getElem?_map, he]; rfl
    refine ⟨_, rfl, c, C, dx, _, _, rfl, h1, TC.cl, TC.n1, rfl, _, rfl, p, _, _, _, rfl, rfl, h2, atI_nat hr2, ?_⟩
    refine ⟨_, rfl, rfl, _, rfl, ?_⟩
    refine ite2 (fun h => ?_) (fun h => ?_)
    · have z : canShow r e v = isNum v := if_pos (by simpa using h)
      rw [z] at k
      exact ⟨v, rfl, v, rfl, hv, k⟩
    · have z : canShow r e v = isBel (e + r) v := if_neg (by simpa using h)
      rw [z] at k
      exact ⟨v, rfl, _, rfl, c, C, dx, _, _, rfl, h1, TC.cl, TC.n2, rfl, _, rfl, q, _, _, _, rfl, rfl, h3, atI_nat he2, _, rfl, _, _, rfl, rfl, v, _, rfl, hv, k⟩
theorem sc_check : FnScope ["counters", "value", "kinds", "kind", "item"] ["counters", "value"] (defScope s_check_showing) := ⟨rfl, rfl, rfl, by decide +kernel, rfl, by decide +kernel, by decide +kernel⟩
theorem ok_check (F : FnP K "check_showing" s_check_showing f fd) (T : Mg mg) (R : Er P w K mg base a) (TC : ClsC K mg C) (c_is_sequence : Cal P w K mg base CX0 1 "is_sequence" ["value", "least", "most"] (spSeq K))
    (c__can_show : Cal P w K mg base CX0 3 "_can_show" ["counters", "kind", "value"] (spCanShow K C)) : FnOk P w K mg base (L2N.CX P w) 4 f fd ["counters", "value"] (spCheck K a C) := by
  refine F.ok sc_check (fun vs H Q E h => ?_) (fun cdv A outer s H vs Q E hr h => ?_)
  · obtain ⟨c, rs, es, v, o, rfl, _⟩ := h
    rfl
  · obtain ⟨c, rs, es, v, o, rfl, hc, sa, good⟩ := h
    obtain ⟨ok, dx, p, q, h1, h2, h3⟩ := id hc
    refine ⟨_, (pss_cons (ps_set (i := 2) sc_check.nd rfl (by first | exact Or.inl rfl | exact Or.inr rfl) (pe_callB call_len_seq (by rfl) T.z_len PySem.boot_len (pa_cons (pe_fld (pv 0) rfl) pa_nil)))
      (pss_cons (ps_if (pt_not (pt_val (pe_callC c_is_sequence hr pass0 (pa_cons (pv 1) (pa_cons (pv 2) (pa_cons (pv 2) pa_nil))))))
        (pss_one (psN R.BadShowing rfl hr (L2N.takes_of rfl rfl rfl rfl) (pa_cons (pe_un un_neg pe_int) pa_nil)))
        pss_nil)
      (pss_cons (ps_for (passes_of rfl) rfl (pi_pairs (by rfl) T.z_enumerate (pa_cons (pv 1) pa_nil)) (pg_tup rfl (pgs_cons (pg_name (i := 3) sc_check.nd rfl (by first | exact Or.inl rfl | exact Or.inr rfl)) (pgs_cons (pg_name (i := 4) sc_check.nd rfl (by first | exact Or.inl rfl | exact Or.inr rfl)) pgs_nil)))
        (pss_one (ps_if (pt_not (pt_val (pe_callC c__can_show hr pass0 (pa_cons (pv 0) (pa_cons (pv 3) (pa_cons (pv 4) pa_nil))))))
          (pss_one (psN R.BadShowing rfl hr (L2N.takes_of rfl rfl rfl rfl) (pa_cons (pv 3) pa_nil)))
          pss_nil)))
      (pss_one (ps_ret (pe_callTy call_tup (by rfl) T.z_tuple (by decide +kernel) (pa_cons (pv 1) pa_nil))))))), ?_⟩
    refine ⟨_, rfl, c, C, dx, _, _, rfl, h1, TC.cl, TC.n1, rfl, p, _, rfl, .inr h2, ?_⟩
    rw [List.length_map]
    refine ⟨v, rfl, _, rfl, _, rfl, v, _, _, o, rfl, sa.long, fun H1 e1 => ⟨inLen rs.length rs.length o, rfl, ?_⟩⟩
    cases ei : inLen rs.length rs.length o with
    | false =>
      refine iteT ⟨1, rfl, thrownN ((sa.far ?_).same e1).at_⟩
      cases o with
      | none => exact .inl rfl
      | some xs =>
        rw [inLen_kk] at ei
        exact .inr ⟨xs, rfl, of_decide_eq_false ei⟩
    | true =>
      refine iteF ?_
      obtain ⟨long, kn, far, near⟩ := sa
      cases long with
      | seq hx =>
        rename_i b xs
        rw [inLen_kk] at ei
        have hl := of_decide_eq_true ei
        refine ⟨_, rfl, b, xs, rfl, for_pairs (hx.same e1) (fun i σ' H' => ∃ x y, σ' = [some (.ref c), some (.ref b), some (.int rs.length), x, y] ∧ Same H H' ∧ Same H1 H' ∧ ∀ j z, j < i → xs[j]? = some z → canShow (rs.getD j 0) (es.getD j 0) z = true) ⟨_, _, rfl, e1, Same.refl _, fun j z hj => absurd hj (Nat.not_lt_zero j)⟩ (fun i σ' H' q => q.elim fun _ q => q.elim fun _ q => q.2.2.1) ?_ ?_⟩
        · rintro i x t σ' H' hx' ⟨_, _, rfl, e, e', hs⟩ ht
          have hi : i < rs.length := by have := (List.getElem?_eq_some_iff.mp hx').1; omega
          obtain ⟨a1, a2, _⟩ := ok.at_ hi
          refine ⟨t, _, rfl, SqT.of upd_same, rfl, ?_⟩
          refine ⟨_, _, rfl, _, _, rfl, rfl, ?_⟩
          have e2 := e.trans (same_new (o := HO.tup [.int (i : Int), x]) ht)
          refine ⟨_, rfl, _, rfl, x, rfl, c, rs, es, i, x, _, _, rfl, hc.same e2, (kn xs rfl hl x (List.mem_of_getElem? hx')).same e2, a1, a2, _, rfl, ?_⟩
          cases eb : canShow (rs.getD i 0) (es.getD i 0) x with
          | false => exact iteT ⟨_, rfl, thrownN ((near xs i rfl hl ⟨hs, x, hx', eb⟩).same e2).at_⟩
          | true =>
            refine iteF ⟨_, _, rfl, e2, e'.trans (same_new ht), fun j z hj hz => ?_⟩
            rcases Nat.lt_or_eq_of_le (Nat.le_of_lt_succ hj) with h | rfl
            · exact hs j z h hz
            · rw [hx'] at hz
              cases hz
              exact eb
        · rintro σ' H' ⟨_, _, rfl, e, e', hs⟩
          exact ⟨_, rfl, b, xs, rfl, hx.same e, fun t H4 e4 ht => good xs rfl hl (fun j z hz => hs j z (List.getElem?_eq_some_iff.mp hz).1 hz) t H4 (e.trans e4) ht⟩
      | non => cases ei
      | bl _ => cases ei
      | int _ => cases ei
      | str _ => cases ei
end
end K5
/-! what counters show -/
namespace K5
open PySem PySem.Spec PyProof.Rows L2 Kx RZ
/-- what a counter of round r and rest e shows of n -/
def shows (r e n : Int) : Int := if r = 0 ∨ n < e then n else e + (n - e) % r
def showOf (rs es : List Int) (row : List Int) : List Int := (List.range rs.length).map fun i => shows (rs.getD i 0) (es.getD i 0) (row.count (i : Int) : Nat)
def spShows (K : PySem.W.Frag) (C : Addr) : Sp := fun vs H Q _ => ∃ c rs es, ∃ i : Nat, ∃ n r e : Int, vs = [.ref c, .int (i : Int), .int n] ∧ CnAt K C H c rs es ∧ rs[i]? = some r ∧ es[i]? = some e ∧ Q (.int (shows r e n)) H
theorem showOf_at {rs es row : List Int} {i : Nat} (hi : i < rs.length) : ((showOf rs es row).map V.int)[i]? = some (.int (shows (rs.getD i 0) (es.getD i 0) (row.count (i : Int) : Nat))) := by
  unfold showOf
  rw [List.getElem?_map, List.getElem?_map, List.getElem?_range hi]
  rfl
theorem showOf_length {rs es row : List Int} : (showOf rs es row).length = rs.length := by unfold showOf; rw [List.length_map, List.length_range]
section
variable {P : Program} {w : World} {K : PySem.W.Frag} {mg : Str → Option Value} {base : Heap} {f : Addr} {fd : FuncData} {a : Ad} {C CM : Addr}
theorem sc_shows : FnScope ["counters", "kind", "many", "turn", "rest"] ["counters", "kind", "many"] (defScope s_shows) := ⟨rfl, rfl, rfl, by decide +kernel, rfl, by decide +kernel, by decide +kernel⟩
theorem ok_shows (F : FnP K "_shows" s_shows f fd) (T : Mg mg) (TC : ClsC K mg C) : FnOk P w K mg base CX0 1 f fd ["counters", "kind", "many"] (spShows K C) := by
  refine F.ok sc_shows (fun vs H Q E h => ?_) (fun cdv A outer s H vs Q E hr h => ?_)
  · obtain ⟨c, rs, es, i, n, r, e, rfl, _⟩ := h
    rfl
  · obtain ⟨c, rs, es, i, n, r, e, rfl, ⟨ok, dy, p, q, h1, h2, h3⟩, hr', he, k⟩ := h
    refine ⟨_, PSs.nox (pss_cons (ps_par (i := 3) (j := 4) (by rfl) sc_shows.nd rfl rfl (by decide) rfl rfl (pa_cons (pe_ix ix_tup (pe_fld (pv 0) rfl) (pv 1) (fun _ _ => rfl)) (pa_cons (pe_ix ix_tup (pe_fld (pv 0) rfl) (pv 1) (fun _ _ => rfl)) pa_nil)) (by rfl))
      (pss_cons (ps_if (PW.pt (pw_or (pt_cmpR op_eq (pv 3) pe_int (nomark _)) (pw_or1 (pt_cmpR op_lt (pv 2) (pv 4) (nomark _)))))
        (pss_one (ps_ret (pv 2)))
        pss_nil)
      (pss_one (ps_ret (pe_op op_add (pv 4) (pe_op op_mod (pe_op op_sub (pv 2) (pv 4)) (pv 3))))))), ?_⟩
    have hi : i < rs.length := (List.getElem?_eq_some_iff.mp hr').1
    have hr2 : (rs.map V.int)[i]? = some (.int r) := by rw [List.getElem?_map, hr']; rfl
    have he2 : (es.map V.int)[i]? = some (.int e) := by rw [List.getElem?_map, he]; rfl
    refine ⟨_, rfl, c, C, dy, _, _, rfl, h1, TC.cl, TC.n1, rfl, _, rfl, p, _, _, _, rfl, rfl, h2, atI_nat hr2, _, rfl, c, C, dy, _, _, rfl, h1, TC.cl, TC.n2, rfl, _, rfl, q, _, _, _, rfl, rfl, h3, atI_nat he2, _, _, rfl, ?_⟩
    have br := ok.r r (List.mem_of_getElem? hr')
    refine ⟨_, rfl, rfl, _, rfl, ?_⟩
    refine ite2 (fun h => ?_) (fun h => ?_)
    · have e0 : r = 0 := by simpa using h
      have z : shows r e n = n := if_pos (.inl e0)
      rw [z] at k
      exact ⟨_, rfl, k⟩
    · have n0 : r ≠ 0 := by simpa using h
      refine ⟨_, rfl, _, rfl, _, _, rfl, rfl, _, rfl, ?_⟩
      refine ite2 (fun h => ?_) (fun h => ?_)
      · have z : shows r e n = n := if_pos (.inr (of_decide_eq_true h))
        rw [z] at k
        exact ⟨_, rfl, k⟩
      · have z : shows r e n = e + (n - e) % r := if_neg fun z => z.elim n0 fun z => h (decide_eq_true z)
        rw [z] at k
        exact ⟨_, rfl, _, rfl, _, rfl, _, _, rfl, rfl, _, rfl, _, _, rfl, rfl, (by show (0 : Int) < r; omega), _, _, rfl, rfl, k⟩
end
/-- what counters show of the numbers ns -/
def showNs (rs es ns : List Int) : List Int := (List.range ns.length).map fun i => shows (rs.getD i 0) (es.getD i 0) (ns.getD i 0)
theorem showNs_length {rs es ns : List Int} : (showNs rs es ns).length = ns.length := by unfold showNs; rw [List.length_map, List.length_range]
theorem showNs_at {rs es ns : List Int} {i : Nat} {n : Int} (h : ns[i]? = some n) : ((showNs rs es ns).map V.int)[i]? = some (.int (shows (rs.getD i 0) (es.getD i 0) n)) := by
  have lt := (List.getElem?_eq_some_iff.mp h).1
  unfold showNs
  rw [List.getElem?_map, List.getElem?_map, List.getElem?_range lt]
  show some (V.int (shows _ _ (ns.getD i 0))) = _
  rw [List.getD_eq_getElem?_getD (l := ns), h]
  rfl
def countsOf (k : Nat) (row : List Int) : List Int := (List.range k).map fun (i : Nat) => ((row.count (i : Int) : Nat) : Int)
theorem countsOf_length {k : Nat} {row : List Int} : (countsOf k row).length = k := by unfold countsOf; rw [List.length_map, List.length_range]
theorem countsOf_at {k i : Nat} {row : List Int} (h : i < k) : (countsOf k row)[i]? = some ((row.count (i : Int) : Nat) : Int) := by
  unfold countsOf
  rw [List.getElem?_map, List.getElem?_range h]
  rfl
theorem showNs_counts {rs es row : List Int} : showNs rs es (countsOf rs.length row) = showOf rs es row := by
  unfold showNs showOf
  rw [countsOf_length]
  refine List.map_congr_left fun i hi => ?_
  rw [List.getD_eq_getElem?_getD (l := countsOf _ _), countsOf_at (List.mem_range.mp hi)]
  rfl
section
variable {P : Program} {w : World} {K : PySem.W.Frag} {mg : Str → Option Value} {base : Heap} {f : Addr} {fd : FuncData} {a : Ad} {C CM : Addr}
def spShowingOf (K : PySem.W.Frag) (C : Addr) : Sp := fun vs H Q _ => ∃ (c t : Addr) (rs es ns : List Int), vs = [.ref c, .ref t] ∧ CnAt K C H c rs es ∧ Sq K H t (ns.map V.int) ∧ ns.length = rs.length ∧ ∀ r H', Same H H' → SqT K H' r ((showNs rs es ns).map V.int) → Q (.ref r) H'
theorem sc_showing_of : FnScope ["counters", "counts", "kind", "many"] ["counters", "counts"] (defScope s_showing_of) := ⟨rfl, rfl, rfl, by decide +kernel, rfl, by decide +kernel, by decide +kernel⟩
theorem ok_showing_of (F : FnP K "showing_of" s_showing_of f fd) (T : Mg mg) (TC : ClsC K mg C) (c__shows : Cal P w K mg base CX0 1 "_shows" ["counters", "kind", "many"] (spShows K C)) : FnOk P w K mg base CX0 2 f fd ["counters", "counts"] (spShowingOf K C) := by
  refine F.ok sc_showing_of (fun vs H Q E h => ?_) (fun cdv A outer s H vs Q E hr h => ?_)
  · obtain ⟨c, t, rs, es, ns, rfl, _⟩ := h
    rfl
  · obtain ⟨c, t, rs, es, ns, rfl, hc, ht, ln, good⟩ := h
    refine ⟨_, PSs.nox (pss_one (ps_ret (pe_callTy call_tup (by rfl) T.z_tuple (by decide +kernel) (pa_cons (pe_lc (own := [("kind", 2), ("many", 3)]) (g := gTup K 2 (gCons (gName 2) (gCons (gName 3) gNil))) (by rfl) sc_showing_of.nd (pi_pairs (by rfl) T.z_enumerate (pa_cons (pv 1) pa_nil)) (blkOk_by (own := [("kind", 2), ("many", 3)]) (N := ["counters", "counts", "kind", "many"]) (sc := defScope s_showing_of) (by decide +kernel))
        (fun _ _ _ _ _ => pg_tup rfl (pgs_cons (pg_name (i := 2) sc_showing_of.nd rfl (by first | exact Or.inl rfl | exact Or.inr rfl)) (pgs_cons (pg_name (i := 3) sc_showing_of.nd rfl (by first | exact Or.inl rfl | exact Or.inr rfl)) pgs_nil))) (fun _ _ _ _ _ => pts_nil)
        (fun _ _ _ _ _ => pe_callC c__shows hr pass0 (pa_cons (pv 0) (pa_cons (pv 2) (pa_cons (pv 3) pa_nil))))) pa_nil)))), ?_⟩
    have ok := hc.ok
    have l4 := ok.l4
    have fin : ∀ (D : Addr) (H2 : Hp), H D = none → Part H D ((showNs rs es ns).map V.int) ns.length H2 → ∃ p ys, [V.ref D] = [V.ref p] ∧ Sq K H2 p ys ∧ ∀ q H', Same H2 H' → SqT K H' q ys → Q (.ref q) H' := fun D H2 hD pt => by
      obtain ⟨hl, e2⟩ := pt.done (by rw [List.length_map, showNs_length]; exact Nat.le_refl _)
      exact ⟨D, _, rfl, .inl (SqL.of hl), fun r H3 e3 hr3 => good r H3 (e2.trans e3) hr3⟩
    have turn : ∀ (i : Nat) (n : Int) (D : Addr) (H2 H3 : Hp), H D = none → ns[i]? = some n → Part H D ((showNs rs es ns).map V.int) i H2 → Same H2 H3 →
        ∃ (c' : Addr) (rs' es' : List Int) (i' : Nat) (m r e : Int), [V.ref c, V.int (i : Nat), V.int n] = [V.ref c', .int (i' : Int), .int m] ∧ CnAt K C H3 c' rs' es' ∧ rs'[i']? = some r ∧ es'[i']? = some e ∧ (∃ acc, H3 D = some (.lst acc) ∧ acc.length < sizeLine ∧ Part H D ((showNs rs es ns).map V.int) (i + 1) (upd H3 D (.lst (acc ++ [.int (shows r e m)])))) :=
      fun i n D H2 H3 hD hn pt e3 => by
        have lt : i < rs.length := by rw [← ln]; exact (List.getElem?_eq_some_iff.mp hn).1
        obtain ⟨a1, a2, _⟩ := ok.at_ lt
        exact ⟨c, rs, es, i, n, _, _, rfl, (hc.same pt.2).same e3, a1, a2, pt.step hD e3 (showNs_at hn) (by rw [List.length_map, showNs_length, sizeLine_eq]; omega)⟩
    refine ⟨_, rfl, t, ns.map V.int, rfl, ?_⟩
    rcases ht with ht | ht
    · refine .inl ⟨ht, fun D hD => turns (n := ns.length) (Part H D ((showNs rs es ns).map V.int)) (Part.zero hD) ?_ ?_⟩
      · intro i H2 hi pt
        have b1 : (ns.map V.int)[i]? = some (.int (ns.getD i 0)) := by rw [List.getElem?_map, List.getD_eq_getElem?_getD, List.getElem?_eq_getElem hi]; rfl
        have b0 : ns[i]? = some (ns.getD i 0) := by rw [List.getD_eq_getElem?_getD, List.getElem?_eq_getElem hi]; rfl
        have q2 := sqL_same pt.2 ht
        refine ⟨⟨_, _, q2, b1⟩, ?_⟩
        rintro v H3 ⟨p, x, rfl, hp, rfl, hx⟩
        have ex := hx _ q2
        rw [b1] at ex
        cases ex
        refine ⟨p, _, rfl, SqT.of upd_same, rfl, ?_⟩
        refine ⟨_, _, rfl, _, _, rfl, rfl, rfl, yes ((if_pos rfl).mpr ?_)⟩
        exact ⟨_, rfl, _, rfl, _, rfl, turn i _ D H2 _ hD b0 pt (same_new hp)⟩
      · intro H2 pt
        exact ⟨⟨_, sqL_same pt.2 ht, by rw [List.length_map]; exact Nat.le_refl _⟩, fin D H2 hD pt⟩
    · refine .inr ⟨ht, fun D hD => turns (n := ns.length) (Part H D ((showNs rs es ns).map V.int)) (Part.zero hD) ?_ ?_⟩
      · intro i H2 hi pt
        have b1 : (ns.map V.int)[i]? = some (.int (ns.getD i 0)) := by rw [List.getElem?_map, List.getD_eq_getElem?_getD, List.getElem?_eq_getElem hi]; rfl
        have b0 : ns[i]? = some (ns.getD i 0) := by rw [List.getD_eq_getElem?_getD, List.getElem?_eq_getElem hi]; rfl
        have q2 := sqT_same pt.2 ht
        refine ⟨⟨_, _, q2, b1⟩, ?_⟩
        rintro v H3 ⟨p, x, rfl, hp, rfl, hx⟩
        have ex := hx _ q2
        rw [b1] at ex
        cases ex
        refine ⟨p, _, rfl, SqT.of upd_same, rfl, ?_⟩
        refine ⟨_, _, rfl, _, _, rfl, rfl, rfl, yes ((if_pos rfl).mpr ?_)⟩
        exact ⟨_, rfl, _, rfl, _, rfl, turn i _ D H2 _ hD b0 pt (same_new hp)⟩
      · intro H2 pt
        exact ⟨⟨_, sqT_same pt.2 ht, by rw [List.length_map]; exact Nat.le_refl _⟩, fin D H2 hD pt⟩
def spShownOf (K : PySem.W.Frag) (C : Addr) : Sp := fun vs H Q _ => ∃ (c t : Addr) (rs es row : List Int), vs = [.ref c, .ref t] ∧ CnAt K C H c rs es ∧ TupD H t (row.map V.int) ∧ ∀ r H', Same H H' → SqT K H' r ((showOf rs es row).map V.int) → Q (.ref r) H'
theorem sc_shown_of : FnScope ["counters", "deeds", "kind"] ["counters", "deeds"] (defScope s_shown_of) := ⟨rfl, rfl, rfl, by decide +kernel, rfl, by decide +kernel, by decide +kernel⟩
theorem ok_shown_of (F : FnP K "shown_of" s_shown_of f fd) (T : Mg mg) (TC : ClsC K mg C) (c_showing_of : Cal P w K mg base CX0 2 "showing_of" ["counters", "counts"] (spShowingOf K C)) : FnOk P w K mg base CX0 3 f fd ["counters", "deeds"] (spShownOf K C) := by
  refine F.ok sc_shown_of (fun vs H Q E h => ?_) (fun cdv A outer s H vs Q E hr h => ?_)
  · obtain ⟨c, t, rs, es, row, rfl, _⟩ := h
    rfl
  · obtain ⟨c, t, rs, es, row, rfl, hc, ht, good⟩ := h
    refine ⟨_, PSs.nox (pss_one (ps_ret (pe_callC c_showing_of hr pass0 (pa_cons (pv 0) (pa_cons (pe_lc (own := [("kind", 2)]) (by rfl) sc_shown_of.nd (pi_range1 (by rfl) T.z_range (pa_cons (pe_callB call_len_seq (by rfl) T.z_len PySem.boot_len (pa_cons (pe_fld (pv 0) rfl) pa_nil)) pa_nil)) (blkOk_by (own := [("kind", 2)]) (N := ["counters", "deeds", "kind"]) (sc := defScope s_shown_of) (by decide +kernel))
        (fun _ _ _ _ _ => pg_name (i := 2) sc_shown_of.nd rfl (by first | exact Or.inl rfl | exact Or.inr rfl)) (fun _ _ _ _ _ => pts_nil)
        (fun _ _ _ _ _ => pe_count (pv 1) (pa_cons (pv 2) pa_nil))) pa_nil))))), ?_⟩
    obtain ⟨ok, dx, p, q, h1, h2, h3⟩ := id hc
    refine ⟨_, rfl, _, rfl, c, C, dx, _, _, rfl, h1, TC.cl, TC.n1, rfl, p, _, rfl, .inr h2, ?_⟩
    rw [List.length_map]
    have l4 := ok.l4
    refine ⟨_, rfl, by omega, by omega, fun D hD => lc_range (lo := 0) (n := rs.length) (Part H D ((countsOf rs.length row).map V.int)) (Part.zero hD) ?_ ?_⟩
    · intro i H2 hi pt
      refine ⟨rfl, yes ?_⟩
      refine (if_pos rfl).mpr ?_
      refine ⟨_, rfl, t, row, rfl, ht.same pt.2, _, rfl, _, rfl, Same.refl _, ?_⟩
      rw [Int.zero_add]
      exact pt.step hD (Same.refl H2) (by rw [List.getElem?_map, countsOf_at hi]; rfl) (by rw [List.length_map, countsOf_length, sizeLine_eq]; omega)
    · intro H2 pt
      obtain ⟨hl, e2⟩ := pt.done (by rw [List.length_map, countsOf_length]; exact Nat.le_refl _)
      exact ⟨c, D, rs, es, countsOf rs.length row, rfl, hc.same e2, .inl (SqL.of hl), countsOf_length, fun r H3 e3 hr3 => good r H3 (e2.trans e3) (by rw [← showNs_counts]; exact hr3)⟩
theorem sc_shown : FnScope ["counters", "row"] ["counters", "row"] (defScope s_shown) := ⟨rfl, rfl, rfl, by decide +kernel, rfl, by decide +kernel, by decide +kernel⟩
/-- a right row is shown -/
def spShown (K : PySem.W.Frag) (C : Addr) : Sp := fun vs H Q _ => ∃ c rs es b row, vs = [.ref c, .ref b] ∧ CnAt K C H c rs es ∧ SqD K H b (row.map V.int) ∧ row.length ≤ 400 ∧ (∀ n ∈ row, 0 ≤ n ∧ n < (rs.length : Int)) ∧ ∀ p H', Same H H' → SqT K H' p ((showOf rs es row).map V.int) → Q (.ref p) H'
theorem ok_shown (F : FnP K "shown" s_shown f fd) (T : Mg mg) (TC : ClsC K mg C) (c_row_of : Cal P w K mg base (L2N.CX P w) 4 "row_of" ["value", "deeds"] (spRowOf K a))
    (c_of : Cal P w K mg base CX0 3 "shown_of" ["counters", "deeds"] (spShownOf K C)) : FnOk P w K mg base (L2N.CX P w) 5 f fd ["counters", "row"] (spShown K C) := by
  refine F.ok sc_shown (fun vs H Q E h => ?_) (fun cdv A outer s H vs Q E hr h => ?_)
  · obtain ⟨c, rs, es, b, row, rfl, _⟩ := h
    rfl
  · obtain ⟨c, rs, es, b, row, rfl, hc, hx, l400, lt, good⟩ := h
    refine ⟨_, (pss_one (ps_ret (pe_callC c_of hr pass0 (pa_cons (pv 0) (pa_cons (pe_callC c_row_of hr (L2N.passes_call (L2N.takes_of rfl rfl rfl rfl) (fun _ _ _ _ z => z)) (pa_cons (pv 1) (pa_cons (pe_callB call_len_seq (by rfl) T.z_len PySem.boot_len (pa_cons (pe_fld (pv 0) rfl) pa_nil)) pa_nil))) pa_nil))))), ?_⟩
    obtain ⟨ok, dx, p, q, h1, h2, h3⟩ := id hc
    refine ⟨_, rfl, _, rfl, _, rfl, c, C, dx, _, _, rfl, h1, TC.cl, TC.n1, rfl, p, _, rfl, .inr h2, ?_⟩
    rw [List.length_map]
    have ra : rowAt rs.length (some (row.map V.int)) = none := by
      rw [show rowAt rs.length (some (row.map V.int)) = (fnb rs.length (row.map V.int)).map (fun (i : Nat) => (i : Int)) from if_pos (by rw [List.length_map]; exact l400), fnb_of lt]
      rfl
    refine ⟨.ref b, some (row.map V.int), rs.length, rfl, .seq hx.sq, fun xs q _ x hx => by cases q; obtain ⟨n, _, rfl⟩ := List.mem_map.mp hx; exact .int n, (fun i z => by rw [ra] at z; cases z), fun _ => ?_⟩
    exact ⟨b, _, rfl, rfl, hx, fun t H1 e1 ht => ⟨c, t, rs, es, row, rfl, hc.same e1, ht, fun r H3 e3 hr3 => good r H3 (e1.trans e3) hr3⟩⟩
end
end K5
/-! all(a list of bools) -/
namespace Kx
open L2 PySem PySem.Spec PyProof.Rows
theorem dp_bls {K : PySem.W.Frag} {H : Hp} : ∀ (bs : List Bool), DpAll K H (bs.map V.bl) (bs.map PyData.bool)
  | [] => .nil
  | b :: bs => .cons (.bl b) (dp_bls bs)
theorem plain_bls : ∀ (bs : List Bool), PyData.plainAll (bs.map PyData.bool) = true
  | [] => by simp [PyData.plainAll]
  | b :: bs => by
    have := plain_bls bs
    simp [PyData.plainAll, PyData.plain, this]
theorem call_allL {X : Cx} (hc : X.calm = true) : CallR X (.builtin "all") (fun xs H Q => ∃ (p : Addr) (bs : List Bool), xs = [.ref p] ∧ SqL X.K H p (bs.map V.bl) ∧ Q (.bl (bs.all id)) H) := by
  intro pins s σ H xs us Q I r h
  obtain ⟨p, bs, rfl, hq, q⟩ := h
  obtain ⟨u, rfl, rx⟩ := vals1 r
  cases rx
  obtain ⟨its, rv, pl, hz⟩ := I.list hq
  obtain ⟨as, ra⟩ := Dp.readsAll I _ _ _ (dp_bls bs) rv
  refine PySem.W.all_list_data (I.ok.hd hc) pl.isList (by simpa using ra) (plain_bls bs) (fun x hx => ?_) fun h' tk k => ⟨.bl (bs.all id), H, I.kept (t' := tk) k, ?_, q⟩
  · obtain ⟨b, _, rfl⟩ := List.mem_map.mp hx
    simp [PyData.fits63]
  · have e : (bs.map PyData.bool).all PyData.truthy = bs.all id := by
      rw [List.all_map]
      rfl
    rw [e]
    rfl
end Kx
/-! how long the texts of data are; a word between two statements; parts of lists -/
namespace Kx
open L2 PySem PySem.Spec PyProof.Rows
/-- behind a statement a word of one's own -/
theorem ps_mid {X : Cx} {st : Stmt} {t : TS} (h : PS X st t) : PS X st fun E σ H => ∃ N : L2.St → Hp → Prop, t { E with nx := N } σ H ∧ ∀ σ' H', N σ' H' → E.nx σ' H' := by
  refine ⟨fun pins s σ H E I ⟨N, q, k⟩ => wpAny_mono (h.run pins s σ H { E with nx := N } I q) (fun f s' z => ?_) fun _ _ z => z⟩
  match f, z with
  | .next, ⟨σ', H', J, n⟩ => exact ⟨σ', H', J, k σ' H' n⟩
  | .brk, z => exact z
  | .cont, z => exact z
  | .ret _, z => exact z
theorem ends_nx {E : Ends} {N : L2.St → Hp → Prop} : ({ E with nx := N } : Ends).nx = N := rfl
section
variable {xs : List V} {i : Nat}
theorem cut_to (h : i ≤ xs.length) : cutV xs none (some (i : Int)) = xs.take i := by
  unfold cutV
  rw [HT.sIx_none, HT.sIx_nat, List.drop_zero, Nat.sub_zero, Nat.min_eq_left h]
theorem cut_from (h : i ≤ xs.length) : cutV xs (some (i : Int)) none = xs.drop i := by
  unfold cutV
  rw [HT.sIx_none, HT.sIx_nat, Nat.min_eq_left h]
  exact List.take_of_length_le (by rw [List.length_drop]; exact Nat.le_refl _)
end
/-- d shows, within m levels, as a text of at most L signs -/
structure OkD (m L : Nat) (d : PyData) : Prop where
  sh : d.showable = true
  nd : d.hasDict = false
  deep : d.depth ≤ m
  fit : d.shown.length ≤ L
structure OkA (m L : Nat) (ds : List PyData) : Prop where
  sh : PyData.showableAll ds = true
  nd : PyData.hasDictAll ds = false
  deep : PyData.depthAll ds ≤ m
  fit : piled (PyData.shownAll ds) ≤ L
theorem OkD.mono {m n L M : Nat} {d : PyData} (h : OkD m L d) (h1 : m ≤ n) (h2 : L ≤ M) : OkD n M d := ⟨h.sh, h.nd, Nat.le_trans h.deep h1, Nat.le_trans h.fit h2⟩
theorem OkA.mono {m n L M : Nat} {d : List PyData} (h : OkA m L d) (h1 : m ≤ n) (h2 : L ≤ M) : OkA n M d := ⟨h.sh, h.nd, Nat.le_trans h.deep h1, Nat.le_trans h.fit h2⟩
theorem okD_int {i : Int} (h : i.natAbs < 2 ^ 200) : OkD 0 1921 (.int i) := by
  have lg : i.natAbs.log2 < 1920 := by
    by_cases z : i.natAbs = 0
    · rw [z]
      decide
    · exact (Nat.log2_lt z).mpr (Nat.lt_of_lt_of_le h (Nat.pow_le_pow_right (by decide) (by decide)))
  refine ⟨?_, by simp only [PyData.hasDict], by simp only [PyData.depth]; exact Nat.le_refl _, ?_⟩
  · simp only [PyData.showable]
    exact decide_eq_true lg
  · simp only [PyData.shown]
    exact int_text_len_1921 lg
theorem okD_small {i : Int} (h : -1000000 ≤ i ∧ i ≤ 1000000) : OkD 0 1921 (.int i) := okD_int (Nat.lt_of_lt_of_le (show i.natAbs < 2 ^ 20 by omega) (Nat.pow_le_pow_right (by decide) (by decide)))
theorem okD_non : OkD 0 4 .none := ⟨rfl, by simp only [PyData.hasDict], by simp only [PyData.depth]; exact Nat.le_refl _, by decide +kernel⟩
theorem okD_bl (b : Bool) : OkD 0 5 (.bool b) := ⟨rfl, by simp only [PyData.hasDict], by simp only [PyData.depth]; exact Nat.le_refl _, by cases b <;> decide +kernel⟩
theorem okD_str {z : Str} {L : Nat} (h : (reprText z).length ≤ L) : OkD 0 L (.str z) := ⟨rfl, by simp only [PyData.hasDict], by simp only [PyData.depth]; exact Nat.le_refl _, by simp only [PyData.shown]; exact h⟩
theorem okA_nil {m : Nat} : OkA m 0 [] := ⟨by simp only [PyData.showableAll], by simp only [PyData.hasDictAll], by simp only [PyData.depthAll]; exact Nat.zero_le _, by simp only [PyData.shownAll]; exact Nat.le_refl _⟩
theorem okA_cons {m L M : Nat} {d : PyData} {ds : List PyData} (h : OkD m L d) (k : OkA m M ds) : OkA m (L + 2 + M) (d :: ds) := by
  refine ⟨?_, ?_, ?_, ?_⟩
  · simp only [PyData.showableAll, h.sh, k.sh, Bool.and_self]
  · simp only [PyData.hasDictAll, h.nd, k.nd, Bool.or_self]
  · simp only [PyData.depthAll]
    exact Nat.max_le.mpr ⟨h.deep, k.deep⟩
  · simp only [PyData.shownAll]
    rw [piled_cons]
    have := h.fit
    have := k.fit
    omega
theorem textFrom_most : ∀ (ts : List Str) (k : Nat) (acc : Str), (textFrom k acc ts).length ≤ acc.length + piled ts
  | [], k, acc => Nat.le_refl _
  | t :: r, k, acc => by
    have ih := textFrom_most r (k + 1) (acc ++ (if k > 0 then ", " else "" : String) ++ t)
    rw [strLen_append, strLen_append] at ih
    have e : (((if k > 0 then ", " else "" : String) : Str)).length ≤ 2 := by split <;> decide
    rw [piled_cons]
    change (textFrom (k + 1) _ r).length ≤ _
    omega
theorem okD_list {m L : Nat} {ds : List PyData} (h : OkA m L ds) : OkD (m + 1) (L + 4) (.list ds) := by
  refine ⟨by simp only [PyData.showable]; exact h.sh, by simp only [PyData.hasDict]; exact h.nd, by simp only [PyData.depth]; exact Nat.succ_le_succ h.deep, ?_⟩
  simp only [PyData.shown]
  unfold listText
  have := textFrom_most (PyData.shownAll ds) 0 "["
  have e1 : (("[" : String) : Str).length = 1 := rfl
  have e2 : (("]" : String) : Str).length = 1 := rfl
  have := h.fit
  rw [strLen_append, e2]
  have e3 : (Str.ofString "[").length = 1 := rfl
  omega
theorem okD_tuple {m L : Nat} {ds : List PyData} (h : OkA m L ds) : OkD (m + 1) (L + 4) (.tuple ds) := by
  refine ⟨by simp only [PyData.showable]; exact h.sh, by simp only [PyData.hasDict]; exact h.nd, by simp only [PyData.depth]; exact Nat.succ_le_succ h.deep, ?_⟩
  simp only [PyData.shown]
  unfold tupleText
  have e1 : (("(" : String) : Str).length = 1 := rfl
  have e3 : (((if (PyData.shownAll ds).length == 1 then ",)" else ")" : String) : Str)).length ≤ 2 := by split <;> decide
  have := h.fit
  simp only [strLen_append, e1]
  by_cases z : PyData.shownAll ds = []
  · have e4 : (Str.join ", " (PyData.shownAll ds)).length = 0 := by rw [z]; rfl
    omega
  · have := join_length_add _ z
    omega
theorem okA_ints : ∀ {ns : List Int}, (∀ n ∈ ns, -1000000 ≤ n ∧ n ≤ 1000000) → OkA 0 (1923 * ns.length) (ns.map PyData.int)
  | [], _ => okA_nil
  | n :: ns, h => (okA_cons (okD_small (h n List.mem_cons_self)) (okA_ints fun x hx => h x (List.mem_cons_of_mem _ hx))).mono (Nat.le_refl _) (by rw [List.length_cons]; omega)
theorem okD_nums {ns : List Int} (h : ∀ n ∈ ns, -1000000 ≤ n ∧ n ≤ 1000000) (l : ns.length ≤ 8) : OkD 1 15400 (dNums ns) := (okD_tuple (okA_ints h)).mono (Nat.le_refl _) (by omega)
theorem okA_rows : ∀ {rs : List (List Int)}, (∀ r ∈ rs, r.length ≤ 8 ∧ ∀ n ∈ r, -1000000 ≤ n ∧ n ≤ 1000000) → OkA 1 (15402 * rs.length) (rs.map dNums)
  | [], _ => okA_nil
  | r :: rs, h => (okA_cons (okD_nums (h r List.mem_cons_self).2 (h r List.mem_cons_self).1) (okA_rows fun x hx => h x (List.mem_cons_of_mem _ hx))).mono (Nat.le_refl _) (by rw [List.length_cons]; omega)
theorem okD_rows {rs : List (List Int)} (h : ∀ r ∈ rs, r.length ≤ 8 ∧ ∀ n ∈ r, -1000000 ≤ n ∧ n ≤ 1000000) (l : rs.length ≤ 1000) : OkD 2 15402004 (dRows rs) := (okD_tuple (okA_rows h)).mono (Nat.le_refl _) (by omega)
end Kx
/-! ascending kinds -/
namespace K5
open PySem PySem.Spec PyProof.Rows L2 Kx RZ
/-- t[lo:hi] -/
def rCut (K : PySem.W.Frag) : V → Option Int → Option Int → Hp → VK → Prop := fun x lo hi H Q => ∃ a xs, x = .ref a ∧ SqT K H a xs ∧ ∀ p H', Same H H' → SqT K H' p (cutV xs lo hi) → Q (.ref p) H'
theorem sl_cut {X : Cx} {K : PySem.W.Frag} (hK : X.K = K := by rfl) : SlR X (rCut K) := by
  subst hK
  intro pins s σ H x v vl vu lo hi sl Q I rx hs pl pu ⟨a, xs, e, h, q⟩
  refine sl_tupA pins s σ H x v vl vu lo hi sl Q I rx hs pl pu ⟨a, xs, e, h, fun ⟨z1, z2⟩ => q a H (Same.refl H) ?_, fun _ p hp => q p _ (same_new hp) (SqT.of upd_same)⟩
  unfold cutV
  rw [z1, z2, List.drop_zero, Nat.sub_zero, List.take_length]
  exact h
/-- the parts of a list, of a tuple -/
theorem sl_any {X : Cx} {K : PySem.W.Frag} (hK : X.K = K := by rfl) : SlR X (fun x lo hi H Q => rSlL K x lo hi H Q ∨ rCut K x lo hi H Q) := by
  subst hK
  exact SlR.or sl_list sl_cut
/-- each is less than the next -/
def asc : List Int → Bool
  | x :: y :: r => decide (x < y) && asc (y :: r)
  | _ => true
def ascs (ns : List Int) : List Bool := (List.range (ns.length - 1)).map fun i => decide (ns.getD i 0 < ns.getD (i + 1) 0)
theorem ascs_len {ns : List Int} : (ascs ns).length = ns.length - 1 := by unfold ascs; rw [List.length_map, List.length_range]
theorem ascs_at {ns : List Int} {i : Nat} (h : i < ns.length - 1) : ((ascs ns).map V.bl)[i]? = some (.bl (decide (ns.getD i 0 < ns.getD (i + 1) 0))) := by
  unfold ascs
  rw [List.getElem?_map, List.getElem?_map, List.getElem?_range h]
  rfl
def valI : V → Int
  | .int i => i
  | _ => 0
/-- what ascending kinds are: below l, each less than the next -/
def ascOf (l : Nat) : Option (List V) → Bool
  | none => false
  | some xs => inLen 0 l (some xs) && (fnb l xs).isNone && (ascs (xs.map valI)).all id
theorem ascOf_ints {l : Nat} {ns : List Int} (h1 : inLen 0 l (some (ns.map V.int)) = true) (h2 : fnb l (ns.map V.int) = none) : ascOf l (some (ns.map V.int)) = (ascs ns).all id := by
  have e : (ns.map V.int).map valI = ns := by
    rw [List.map_map]
    show ns.map (fun i => i) = ns
    rw [List.map_id']
  show (inLen 0 l (some (ns.map V.int)) && (fnb l (ns.map V.int)).isNone && (ascs ((ns.map V.int).map valI)).all id) = _
  rw [h1, h2, e]
  rfl
def spAsc (K : PySem.W.Frag) : Sp := fun vs H Q _ => ∃ (v : V) (l : Nat) (o : Option (List V)), vs = [v, .int 0, .int (l : Nat)] ∧ l ≤ 4 ∧ Long K H v o ∧ Kns K H o 4 ∧ ∀ H', Same H H' → Q (.bl (ascOf l o)) H'
section
variable {P : Program} {w : World} {K : PySem.W.Frag} {mg : Str → Option Value} {base : Heap} {f : Addr} {fd : FuncData} {a : Ad} {C CM : Addr}
theorem sc_asc : FnScope ["value", "least", "limit", "one", "other"] ["value", "least", "limit"] (defScope s_are_ascending) := ⟨rfl, rfl, rfl, by decide +kernel, rfl, by decide +kernel, by decide +kernel⟩
theorem ok_asc (F : FnP K "are_ascending" s_are_ascending f fd) (T : Mg mg) (c_seq : Cal P w K mg base CX0 1 "is_sequence" ["value", "least", "most"] (spSeq K)) (c_fnb : Cal P w K mg base CX0 3 "first_not_below" ["values", "limit"] (spFnb K)) :
    FnOk P w K mg base CX0 4 f fd ["value", "least", "limit"] (spAsc K) := by
  refine F.ok sc_asc (fun vs H Q E h => ?_) (fun cdv A outer s H vs Q E hr h => ?_)
  · obtain ⟨v, l, o, rfl, _⟩ := h
    rfl
  · obtain ⟨v, l, o, rfl, l4, hv, hk, k⟩ := h
    refine ⟨_, PSs.nox (pss_cons (ps_mid (ps_if (PW.pt (pw_or (pt_not (pt_val (pe_callC c_seq hr pass0 (pa_cons (pv 0) (pa_cons (pv 1) (pa_cons (pv 2) pa_nil)))))) (pw_or1 (pt_cmpR op_notN (pe_callC c_fnb hr pass0 (pa_cons (pv 0) (pa_cons (pv 2) pa_nil))) pe_non (nomark _)))))
        (pss_one (ps_ret pe_bl))
        pss_nil))
      (pss_one (ps_ret (pe_callB (call_allL rfl) (by rfl) T.z_all (by decide +kernel) (pa_cons (pe_lc (own := [("one", 3), ("other", 4)]) (g := gTup K 2 (gCons (gName 3) (gCons (gName 4) gNil))) (by rfl) sc_asc.nd
        (pi_zipA (by rfl) T.z_zip (pa_cons (pv 0) (pa_cons (pe_slice (sl_any (K := K)) (pv 0) (po_some pe_int) po_none) pa_nil))) (blkOk_by (own := [("one", 3), ("other", 4)]) (N := ["value", "least", "limit", "one", "other"]) (sc := defScope s_are_ascending) (by decide +kernel))
        (fun _ _ _ _ _ => pg_tup rfl (pgs_cons (pg_name (i := 3) sc_asc.nd rfl (by first | exact Or.inl rfl | exact Or.inr rfl)) (pgs_cons (pg_name (i := 4) sc_asc.nd rfl (by first | exact Or.inl rfl | exact Or.inr rfl)) pgs_nil))) (fun _ _ _ _ _ => pts_nil)
        (fun _ _ _ _ _ => pe_cmpR op_lt (pv 3) (pv 4) (nomark _))) pa_nil))))), ?_⟩
    refine ⟨fun σ' H' => ∃ (q : Addr) (ns : List Int), σ' = [some v, some (.int 0), some (.int (l : Nat)), none, none] ∧ Same H H' ∧ v = .ref q ∧ Sq K H q (ns.map V.int) ∧ ns.length ≤ 4 ∧ ascOf l o = (ascs ns).all id, ?_, ?_⟩
    · refine ⟨_, rfl, _, rfl, _, rfl, v, 0, l, o, rfl, hv, fun H1 e1 => ⟨_, rfl, ?_⟩⟩
      cases ei : inLen 0 l o with
      | false =>
        have e0 : ascOf l o = false := by
          cases o with
          | none => rfl
          | some xs =>
            show (inLen 0 l (some xs) && _ && _) = false
            rw [ei]
            rfl
        rw [e0] at k
        exact iteT (iteT (k H1 e1))
      | true =>
        refine iteF ?_
        cases o with
        | none => cases ei
        | some xs =>
        cases hv with
        | @seq b _ hv =>
        have hl : xs.length ≤ 4 := by
          have z := ei
          rw [inLen_some, Bool.and_eq_true] at z
          have := of_decide_eq_true z.2
          omega
        refine ⟨_, rfl, _, rfl, b, xs, l, rfl, hv.same e1, fun x hx => (hk _ rfl hl x hx).same e1, fun H2 e2 => ?_⟩
        refine ⟨rfl, ?_⟩
        cases ef : fnb l xs with
        | some i =>
          have e0 : ascOf l (some xs) = false := by
            show (inLen 0 l (some xs) && (fnb l xs).isNone && _) = false
            rw [ef, ei]
            rfl
          rw [e0] at k
          exact ⟨true, rfl, iteT (k H2 (e1.trans e2))⟩
        | none =>
          obtain ⟨ns, rfl, _⟩ := fnb_ints ef
          rw [List.length_map] at hl
          exact ⟨false, rfl, iteF ⟨b, ns, rfl, e1.trans e2, rfl, hv, hl, ascOf_ints ei ef⟩⟩
    rintro σ' H1 ⟨q, ns, rfl, e1, rfl, hq, ln, eo⟩
    rw [eo] at k
    have cut : cutV (ns.map V.int) (some 1) none = (ns.drop 1).map V.int := by
      by_cases h0 : 1 ≤ ns.length
      · rw [List.map_drop]
        exact cut_from (i := 1) (by rw [List.length_map]; exact h0)
      · have : ns = [] := by
          cases ns with
          | nil => rfl
          | cons => simp at h0
        rw [this]
        rfl
    have bat : ∀ {i : Nat}, i < ns.length - 1 → (ns.map V.int)[i]? = some (.int (ns.getD i 0)) ∧ ((ns.drop 1).map V.int)[i]? = some (.int (ns.getD (i + 1) 0)) := fun {i} hi => by
      constructor
      · rw [List.getElem?_map, List.getD_eq_getElem?_getD, List.getElem?_eq_getElem (by omega)]
        rfl
      · rw [List.getElem?_map, List.getElem?_drop, List.getD_eq_getElem?_getD, Nat.add_comm 1 i, List.getElem?_eq_getElem (by omega)]
        rfl
    have fin : ∀ (H0 : Hp) (D : Addr) (H2 : Hp), Same H1 H0 → H0 D = none → Part H0 D ((ascs ns).map V.bl) (ns.length - 1) H2 → ∃ (p : Addr) (bs : List Bool), [V.ref D] = [V.ref p] ∧ SqL K H2 p (bs.map V.bl) ∧ Q (.bl (bs.all id)) H2 := fun H0 D H2 e0 hD pt => by
      obtain ⟨hl, e2⟩ := pt.done (by rw [List.length_map, ascs_len]; exact Nat.le_refl _)
      exact ⟨D, _, rfl, SqL.of hl, k _ (e1.trans (e0.trans e2))⟩
    refine ⟨_, rfl, _, rfl, 1, rfl, ?_⟩
    rcases hq.same e1 with hq | hq
    · refine .inl ⟨q, _, rfl, hq, fun p hp => ?_⟩
      rw [cut]
      have e2 := same_new (o := HO.lst ((ns.drop 1).map V.int)) hp
      have hp2 : SqL K (upd H1 p (.lst ((ns.drop 1).map V.int))) p ((ns.drop 1).map V.int) := SqL.of upd_same
      have hq2 := sqL_same e2 hq
      generalize upd H1 p (.lst ((ns.drop 1).map V.int)) = H0 at e2 hp2 hq2 ⊢
      refine ⟨q, p, _, _, rfl, .inl ⟨hq2, hp2, fun D hD => turns (n := ns.length - 1) (Part H0 D ((ascs ns).map V.bl)) (Part.zero hD) ?_ ?_⟩⟩
      · intro i H2 hi pt
        obtain ⟨c1, c2⟩ := bat hi
        have q2 := sqL_same pt.2 hq2
        have q3 := sqL_same pt.2 hp2
        refine ⟨⟨_, _, _, _, q2, q3, c1, c2⟩, ?_⟩
        rintro v H3 ⟨t, x, y, rfl, ht, rfl, hx, hy⟩
        have ex := hx _ q2
        have ey := hy _ q3
        rw [c1] at ex
        rw [c2] at ey
        cases ex
        cases ey
        refine ⟨t, _, rfl, SqT.of upd_same, rfl, ?_⟩
        refine ⟨_, _, rfl, _, _, rfl, rfl, rfl, yes ((if_pos rfl).mpr ?_)⟩
        refine ⟨_, rfl, _, rfl, _, _, rfl, rfl, pt.step hD (same_new ht) (ascs_at hi) ?_⟩
        rw [List.length_map, ascs_len, sizeLine_eq]
        omega
      · intro H2 pt
        exact ⟨⟨_, _, sqL_same pt.2 hq2, sqL_same pt.2 hp2, .inr (by rw [List.length_map, List.length_drop]; omega)⟩, fin H0 D H2 e2 hD pt⟩
    · refine .inr ⟨q, _, rfl, hq, fun p H0 e2 hp2 => ?_⟩
      rw [cut] at hp2
      have hq2 := sqT_same e2 hq
      refine ⟨q, p, _, _, rfl, .inr ⟨hq2, hp2, fun D hD => turns (n := ns.length - 1) (Part H0 D ((ascs ns).map V.bl)) (Part.zero hD) ?_ ?_⟩⟩
      · intro i H2 hi pt
        obtain ⟨c1, c2⟩ := bat hi
        have q2 := sqT_same pt.2 hq2
        have q3 := sqT_same pt.2 hp2
        refine ⟨⟨_, _, _, _, q2, q3, c1, c2⟩, ?_⟩
        rintro v H3 ⟨t, x, y, rfl, ht, rfl, hx, hy⟩
        have ex := hx _ q2
        have ey := hy _ q3
        rw [c1] at ex
        rw [c2] at ey
        cases ex
        cases ey
        refine ⟨t, _, rfl, SqT.of upd_same, rfl, ?_⟩
        refine ⟨_, _, rfl, _, _, rfl, rfl, rfl, yes ((if_pos rfl).mpr ?_)⟩
        refine ⟨_, rfl, _, rfl, _, _, rfl, rfl, pt.step hD (same_new ht) (ascs_at hi) ?_⟩
        rw [List.length_map, ascs_len, sizeLine_eq]
        omega
      · intro H2 pt
        exact ⟨⟨_, _, sqT_same pt.2 hq2, sqT_same pt.2 hp2, .inr (by rw [List.length_map, List.length_drop]; omega)⟩, fin H0 D H2 e2 hD pt⟩
end
end K5
/-! machines and counters are made -/
namespace K5
open PySem PySem.Spec PyProof.Rows L2 Kx RZ
structure Mks (P : Program) (w : World) (K : PySem.W.Frag) (mg : Str → Option Value) (base : Heap) (a : Ad) (C CM : Addr) : Prop where
  cnt : ∃ (f : Addr) (fd : FuncData), Mk K C f ∧ FnOk P w K mg base (L2N.CX P w) 5 f fd ["self", "rounds", "rests"] (spInit K a C) ∧ Binds K fd ["self", "rounds", "rests"] []
  mac : ∃ (f : Addr) (fd : FuncData), Mk K CM f ∧ FnOk P w K mg base (L2N.CX P w) 5 f fd ["self", "tables"] (spMachine K a CM) ∧ Binds K fd ["self", "tables"] []
  eqC : ∃ (f : Addr) (fd : FuncData), EqC K C f ∧ Binds K fd ["self", "other"] [] ∧ FnOk P w K mg base CX0 1 f fd ["self", "other"] (spEqC K C)
  eqM : ∃ (f : Addr) (fd : FuncData), EqC K CM f ∧ Binds K fd ["self", "other"] [] ∧ FnOk P w K mg base CX0 1 f fd ["self", "other"] (spEqM K CM)
section
variable {X : Cx} {a : Ad} {C CM : Addr} {E : XK} {p pos : Pos} {e e2 : Expr} {t tk : TA} {n : Nat}
theorem pe_cnt2 (M : Mks X.prog X.w X.K X.mg X.base a C CM) (TC : ClsC X.K X.mg C) (hr : Room n X.A) (hx : Passes (L2N.CX X.prog X.w) X E) (ha : PA X [e, e2] t) (hn : 6 ≤ n := by decide) (hg : Gl X "Counters" := by rfl)
    (he : starEach [e, e2] X.env = (false, eval e X.env) :: starEach [e2] X.env := by rfl) (hpl : (backTo pos (starEach [e2] X.env)).any (·.1) = false := by rfl) {K : PySem.W.Frag} (hK : X.K = K := by rfl) : PE X (.Call (.Name "Counters" p) [e, e2] [] pos) (tMake C (spInit K a C) [] E t) := by
  subst hK
  obtain ⟨f, fd, h1, h2, h3⟩ := M.cnt
  exact pe_make h1 h2 (hr.mono hn) hg TC.at_ h3 .nil hx ha (by decide) he hpl
theorem pe_mac (M : Mks X.prog X.w X.K X.mg X.base a C CM) (TM : ClsM X.K X.mg CM) (hr : Room n X.A) (hx : Passes (L2N.CX X.prog X.w) X E) (ha : PA X [e] t) (hn : 6 ≤ n := by decide) (hg : Gl X "Machine" := by rfl)
    (he : starEach [e] X.env = (false, eval e X.env) :: starEach [] X.env := by rfl) (hpl : (backTo pos (starEach [] X.env)).any (·.1) = false := by rfl) {K : PySem.W.Frag} (hK : X.K = K := by rfl) : PE X (.Call (.Name "Machine" p) [e] [] pos) (tMake CM (spMachine K a CM) [] E t) := by
  subst hK
  obtain ⟨f, fd, h1, h2, h3⟩ := M.mac
  exact pe_make h1 h2 (hr.mono hn) hg TM.at_ h3 .nil hx ha (by decide) he hpl
end
theorem pzN {X : Cx} : Passes (L2N.CX X.prog X.w) X fun _ _ _ => False := L2N.passes_call (fun _ _ ⟨_, _, _, _, _, _, _, _, _, _, _, _, _, _, _, _, z⟩ => z.elim) fun _ _ _ _ z => z
theorem kns_ints {K : PySem.W.Frag} {H : Hp} {ns : List Int} {m : Nat} : Kns K H (some (ns.map V.int)) m := fun xs q _ x hx => by
  cases q
  obtain ⟨n, _, rfl⟩ := List.mem_map.mp hx
  exact .int n
theorem items_of {K : PySem.W.Frag} {H : Hp} : ∀ {vs : List V} {ts : List (List Int)}, RowsBy (Sq K H) vs ts → Items K H vs (ts.map fun t => some (t.map V.int))
  | [], [], _ => trivial
  | _ :: _, _ :: _, ⟨⟨q, h1, h2⟩, h⟩ => ⟨⟨by rw [h1]; exact .seq h2, kns_ints⟩, items_of h⟩
  | [], _ :: _, h => h.elim
  | _ :: _, [], h => h.elim
theorem isTab_of {n : Nat} {t : List Int} (n1 : 1 ≤ n) (n8 : n ≤ 8) (l : t.length = n) (b : ∀ x ∈ t, 0 ≤ x ∧ x < (n : Int)) : isTab n (some (t.map V.int)) = true := by
  rw [isTab_some, inLen_some, List.length_map, l, fnb_of b, decide_eq_true (by omega), decide_eq_true (by omega)]
  simp
theorem new_ins {C x dx : Addr} {H : Hp} (hx : H x = none) (hd : H dx = none) (ne : dx ≠ x) : Same H (upd (upd H dx (.own x)) x (.ins C dx [])) := (same_new hd).trans (same_new (by rw [upd_ne (Ne.symm ne)]; exact hx))
theorem mc_make {K : PySem.W.Frag} {a : Ad} {CM x dx b : Addr} {H : Hp} {xs : List V} {n : Nat} {ts : List (List Int)} {E : XK} {Q : Hp → Prop} (ok : Mok n ts) (hb : Sq K H b xs) (rows : RowsBy (Sq K H) xs ts) (hx : H x = none) (hd : H dx = none) (ne : dx ≠ x)
    (q : ∀ H', Same H H' → McAt K CM H' x n ts → Q H') : spMachine K a CM [.ref x, .ref b] (upd (upd H dx (.own x)) x (.ins CM dx [])) (fun v H2 => v = .non ∧ Q H2) E := by
  have e := new_ins (C := CM) hx hd ne
  have len := rows.length
  have l1 := ok.l1
  have l4 := ok.l4
  have it := items_of (rows.imp fun _ _ z => z.same e)
  have l0 : lenAt (ts.map fun t => some (t.map V.int)) = n := by
    obtain ⟨t0, ht0⟩ : ∃ t0, ts[0]? = some t0 := ⟨ts[0], List.getElem?_eq_getElem (by omega)⟩
    unfold lenAt
    rw [List.getElem?_map, ht0]
    show (t0.map V.int).length = n
    rw [List.length_map]
    exact ok.len _ (List.mem_of_getElem? ht0)
  have nb : badTab n (ts.map fun t => some (t.map V.int)) = none := badTab_none.mpr fun o ho => by
    obtain ⟨t, ht, rfl⟩ := List.mem_map.mp ho
    exact isTab_of ok.n1 ok.n8 (ok.len t ht) (ok.ent t ht)
  refine ⟨x, dx, .ref b, some xs, rfl, upd_same, .seq (hb.same e), fun z => ?_, fun ys ey _ => ?_⟩
  · rw [inLen_some, decide_eq_true (by omega), decide_eq_true (by omega)] at z
    cases z
  · cases ey
    refine ⟨_, it, fun i z => ?_, fun _ n' ts' ok' eo H' keep mc => ?_⟩
    · rw [l0, nb] at z
      cases z
    · have et := ints_map eo
      subst et
      have en : n' = n := by
        obtain ⟨t0, ht0⟩ : ∃ t0, ts[0]? = some t0 := ⟨ts[0], List.getElem?_eq_getElem (by omega)⟩
        rw [← ok.len _ (List.mem_of_getElem? ht0), ok'.len _ (List.mem_of_getElem? ht0)]
      subst en
      exact ⟨rfl, q H' (fun c o hc => keep c o (ne_of_none hc hx) (e _ _ hc)) mc⟩
theorem ints_inj : ∀ {xs ys : List Int}, xs.map V.int = ys.map V.int → xs = ys
  | [], [], _ => rfl
  | [], _ :: _, h => nomatch h
  | _ :: _, [], h => nomatch h
  | x :: xs, y :: ys, h => by
    rw [List.map_cons] at h
    rw [List.map_cons] at h
    injection h with h1 h2
    cases h1
    rw [ints_inj h2]
section
variable {K : PySem.W.Frag} {a : Ad} {C x dx : Addr} {H : Hp} {v1 v2 : V} {E : XK} {o1 o2 : Option (List V)} {rs es : List Int}
theorem rounds_ok (ok : Cok rs es) : roundsOk (some (rs.map V.int)) = true := by
  rw [roundsOk_some, inLen_some, fnb_of (l := 61) fun n hn => ⟨(ok.r n hn).1, by have := (ok.r n hn).2; omega⟩, List.length_map]
  have := ok.l1
  have := ok.l4
  rw [decide_eq_true (by omega), decide_eq_true (by omega)]
  rfl
theorem rests_ok (ok : Cok rs es) : restsOk rs.length (some (es.map V.int)) = true := by
  rw [restsOk_some, fnb_of (l := 7) fun n hn => ⟨(ok.e n hn).1, by have := (ok.e n hn).2; omega⟩, List.length_map, decide_eq_true ok.le]
  simp
theorem make_good {Q : Hp → Prop} (ok : Cok rs es) (h1 : Long K H v1 (some (rs.map V.int))) (h2 : (Long K H v2 (some []) ∧ es = List.replicate rs.length 0) ∨ Long K H v2 (some (es.map V.int))) (hx : H x = none) (hd : H dx = none) (ne : dx ≠ x)
    (q : ∀ H', Same H H' → CnAt K C H' x rs es → Q H') : spInit K a C [.ref x, v1, v2] (upd (upd H dx (.own x)) x (.ins C dx [])) (fun v H2 => v = .non ∧ Q H2) E := by
  have e := new_ins (C := C) hx hd ne
  have last : ∀ rs' es', some (rs.map V.int) = some (rs'.map V.int) → es' = es → ∀ H', (∀ b o, b ≠ x → upd (upd H dx (.own x)) x (.ins C dx []) b = some o → H' b = some o) → CnAt K C H' x rs' es' → V.non = V.non ∧ Q H' := fun rs' es' er ee H' keep cn => by
    have er := ints_inj (Option.some.inj er)
    subst er ee
    exact ⟨rfl, q H' (fun b o hb => keep b o (ne_of_none hb hx) (e _ _ hb)) cn⟩
  rcases h2 with ⟨h2, ee⟩ | h2
  · refine ⟨x, dx, v1, v2, _, some [], rfl, upd_same, h1.same e, kns_ints, h2.same e, fun xs q _ x hx => by cases q; simp at hx, fun z => ?_, fun xs e1 _ z => ?_, fun rs' es' ok' er how => ?_⟩
    · rw [rounds_ok ok] at z
      cases z
    · cases e1
      rw [restsOk_some] at z
      cases z
    · rcases how with ⟨_, e3⟩ | e3
      · exact last rs' es' er (by rw [e3, ee, ints_inj (Option.some.inj er)])
      · exfalso
        have z : es'.length = 0 := by cases es' with
          | nil => rfl
          | cons _ _ => cases e3
        have := ok'.le
        have := ok'.l1
        omega
  · refine ⟨x, dx, v1, v2, _, _, rfl, upd_same, h1.same e, kns_ints, h2.same e, kns_ints, fun z => ?_, fun xs e1 _ z => ?_, fun rs' es' ok' er how => ?_⟩
    · rw [rounds_ok ok] at z
      cases z
    · cases e1
      rw [List.length_map, rests_ok ok] at z
      cases z
    · rcases how with ⟨e3, _⟩ | e3
      · exfalso
        have z : es.length = 0 := by cases es with
          | nil => rfl
          | cons _ _ => cases e3
        have := ok.le
        have := ok.l1
        omega
      · exact last rs' es' er (ints_inj (Option.some.inj e3)).symm
end
end K5
/-! lost kinds -/
namespace K5
open PySem PySem.Spec PyProof.Rows L2 Kx RZ
/-- the items, d at the kinds -/
def goneOf (d : Int) (ns xs : List Int) : List Int := (List.range xs.length).map fun (i : Nat) => if (i : Int) ∈ ns then d else xs.getD i 0
theorem gone_len {d : Int} {ns xs : List Int} : (goneOf d ns xs).length = xs.length := by unfold goneOf; rw [List.length_map, List.length_range]
theorem gone_at {d : Int} {ns xs : List Int} {i : Nat} (h : i < xs.length) : ((goneOf d ns xs).map V.int)[i]? = some (.int (if (i : Int) ∈ ns then d else xs.getD i 0)) := by
  unfold goneOf
  rw [List.getElem?_map, List.getElem?_map, List.getElem?_range h]
  rfl
theorem gone_mem {d : Int} {ns xs : List Int} {y : Int} (h : y ∈ goneOf d ns xs) : y = d ∨ y ∈ xs := by
  unfold goneOf at h
  obtain ⟨i, hi, rfl⟩ := List.mem_map.mp h
  have lt := List.mem_range.mp hi
  by_cases z : (i : Int) ∈ ns
  · rw [if_pos z]
    exact .inl rfl
  · rw [if_neg z, List.getD_eq_getElem?_getD, List.getElem?_eq_getElem lt]
    exact .inr (List.getElem_mem lt)
theorem gone_ok {rs es ns : List Int} (ok : Cok rs es) : Cok (goneOf 1 ns rs) (goneOf 0 ns es) := by
  refine ⟨by rw [gone_len]; exact ok.l1, by rw [gone_len]; exact ok.l4, by rw [gone_len, gone_len]; exact ok.le, fun x hx => ?_, fun x hx => ?_⟩
  · rcases gone_mem hx with rfl | h
    · decide
    · exact ok.r x h
  · rcases gone_mem hx with rfl | h
    · decide
    · exact ok.e x h
theorem in_nums {xs : List Int} {k : Int} : inV (.int k) (xs.map V.int) = decide (k ∈ xs) := by
  induction xs with
  | nil => rfl
  | cons x xs ih =>
    have e : inV (.int k) ((x :: xs).map V.int) = ((x == k) || inV (.int k) (xs.map V.int)) := rfl
    rw [e, ih, Bool.eq_iff_iff, Bool.or_eq_true, decide_eq_true_eq, decide_eq_true_eq, List.mem_cons, beq_iff_eq]
    exact ⟨fun h => h.imp Eq.symm id, fun h => h.imp Eq.symm id⟩
theorem op_inK {X : Cx} {K : PySem.W.Frag} (hK : X.K = K := by rfl) : OpR X (compareOp .In) (rIn K false) := by
  subst hK
  exact op_in_seq
theorem flat_nums {xs : List Int} : (xs.map V.int).all flatV = true := List.all_eq_true.mpr fun x hx => by
  obtain ⟨n, _, rfl⟩ := List.mem_map.mp hx
  rfl
def spNeedK (K : PySem.W.Frag) (a : Ad) (C : Addr) : Sp := fun vs H Q E => ∃ (c : Addr) (rs es : List Int) (v : V) (o : Option (List V)), vs = [.ref c, v] ∧ CnAt K C H c rs es ∧ Long K H v o ∧ Kns K H o 4 ∧ (ascOf rs.length o = false → Thrown E H a.cF "at" v) ∧ (ascOf rs.length o = true → ∀ H', Same H H' → Q .non H')
def spWithout (K : PySem.W.Frag) (a : Ad) (C : Addr) : Sp := fun vs H Q E => ∃ (c : Addr) (rs es : List Int) (v : V) (o : Option (List V)), vs = [.ref c, v] ∧ CnAt K C H c rs es ∧ Long K H v o ∧ Kns K H o 4 ∧ (ascOf rs.length o = false → Thrown E H a.cF "at" v) ∧
  (∀ ns : List Int, o = some (ns.map V.int) → ascOf rs.length o = true → ∀ x H', Same H H' → CnAt K C H' x (goneOf 1 ns rs) (goneOf 0 ns es) → Q (.ref x) H')
def spLeft (K : PySem.W.Frag) (a : Ad) (C : Addr) : Sp := fun vs H Q E => ∃ (c : Addr) (rs es : List Int) (v u : V) (o p : Option (List V)), vs = [.ref c, v, u] ∧ CnAt K C H c rs es ∧ Long K H v o ∧ Kns K H o 4 ∧ (ascOf rs.length o = false → Thrown E H a.cF "at" v) ∧
  (∀ ns : List Int, o = some (ns.map V.int) → ascOf rs.length o = true → ShowArg K a H E rs es u p ∧ ∀ xs : List Int, p = some (xs.map V.int) → xs.length = rs.length → AllShow rs es (xs.map V.int) → ∀ r H', Same H H' → SqT K H' r ((goneOf 0 ns xs).map V.int) → Q (.ref r) H')
theorem ShowArg.same {K : PySem.W.Frag} {a : Ad} {H H' : Hp} {E : XK} {rs es : List Int} {v : V} {o : Option (List V)} (h : ShowArg K a H E rs es v o) (e : Same H H') : ShowArg K a H' E rs es v o :=
  ⟨h.long.same e, fun xs q l x hx => (h.kn xs q l x hx).same e, fun z => (h.far z).same e, fun xs i q l fw => (h.near xs i q l fw).same e⟩
theorem ascOf_true {l : Nat} {o : Option (List V)} (h : ascOf l o = true) : ∃ ns : List Int, o = some (ns.map V.int) ∧ (∀ n ∈ ns, 0 ≤ n ∧ n < l) ∧ ns.length ≤ l := by
  cases o with
  | none => cases h
  | some xs =>
    have h : (inLen 0 l (some xs) && (fnb l xs).isNone && (ascs (xs.map valI)).all id) = true := h
    rw [Bool.and_eq_true, Bool.and_eq_true, Option.isNone_iff_eq_none] at h
    obtain ⟨⟨h1, h2⟩, _⟩ := h
    obtain ⟨ns, rfl, h3⟩ := fnb_ints h2
    rw [inLen_some, Bool.and_eq_true, decide_eq_true_eq, decide_eq_true_eq, List.length_map] at h1
    exact ⟨ns, rfl, h3, by omega⟩
section
variable {P : Program} {w : World} {K : PySem.W.Frag} {mg : Str → Option Value} {base : Heap} {f : Addr} {fd : FuncData} {a : Ad} {C CM : Addr}
theorem sc_needK : FnScope ["counters", "kinds"] ["counters", "kinds"] (defScope s_need_kinds) := ⟨rfl, rfl, rfl, by decide +kernel, rfl, by decide +kernel, by decide +kernel⟩
theorem ok_needK (F : FnP K "_need_kinds" s_need_kinds f fd) (T : Mg mg) (R : Er P w K mg base a) (TC : ClsC K mg C) (c_asc : Cal P w K mg base CX0 4 "are_ascending" ["value", "least", "limit"] (spAsc K)) : FnOk P w K mg base (L2N.CX P w) 5 f fd ["counters", "kinds"] (spNeedK K a C) := by
  refine F.ok sc_needK (fun vs H Q E h => ?_) (fun cdv A outer s H vs Q E hr h => ?_)
  · obtain ⟨c, rs, es, v, o, rfl, _⟩ := h
    rfl
  · obtain ⟨c, rs, es, v, o, rfl, ⟨ok, dx, p, q, h1, h2, h3⟩, hv, hk, bad, good⟩ := h
    refine ⟨_, (pss_one (ps_if (pt_not (pt_val (pe_callC c_asc hr pass0 (pa_cons (pv 1) (pa_cons pe_int (pa_cons (pe_callB call_len_seq (by rfl) T.z_len PySem.boot_len (pa_cons (pe_fld (pv 0) rfl) pa_nil)) pa_nil))))))
        (pss_one (psN R.Refused rfl hr (L2N.takes_of rfl rfl rfl rfl) (pa_cons (pv 1) pa_nil)))
        pss_nil)), ?_⟩
    refine ⟨v, rfl, _, rfl, c, C, dx, _, _, rfl, h1, TC.cl, TC.n1, rfl, p, _, rfl, .inr h2, ?_⟩
    rw [List.length_map]
    refine ⟨v, rs.length, o, rfl, ok.l4, hv, hk, fun H1 e1 => ⟨_, rfl, ?_⟩⟩
    cases e : ascOf rs.length o with
    | false => exact iteT ⟨v, rfl, thrownN ((bad e).same e1).at_⟩
    | true => exact iteF (good e H1 e1)
theorem sc_without : FnScope ["counters", "kinds", "rounds", "rests", "kind", "turn", "rest"] ["counters", "kinds"] (defScope s_without_kinds) := ⟨rfl, rfl, rfl, by decide +kernel, rfl, by decide +kernel, by decide +kernel⟩
theorem ok_without (F : FnP K "without_kinds" s_without_kinds f fd) (T : Mg mg) (R : Er P w K mg base a) (TC : ClsC K mg C) (M : Mks P w K mg base a C CM) (c_need : Cal P w K mg base (L2N.CX P w) 5 "_need_kinds" ["counters", "kinds"] (spNeedK K a C)) :
    FnOk P w K mg base (L2N.CX P w) 7 f fd ["counters", "kinds"] (spWithout K a C) := by
  refine F.ok sc_without (fun vs H Q E h => ?_) (fun cdv A outer s H vs Q E hr h => ?_)
  · obtain ⟨c, rs, es, v, o, rfl, _⟩ := h
    rfl
  · obtain ⟨c, rs, es, v, o, rfl, cn, hv, hk, bad, good⟩ := h
    refine ⟨_, (pss_cons (ps_expr (pe_callC c_need hr (L2N.passes_call (E := E) (L2N.takes_of rfl rfl rfl rfl) (fun _ _ _ _ z => z)) (pa_cons (pv 0) (pa_cons (pv 1) pa_nil))))
      (PSs.nox (pss_cons (ps_mid (ps_setLc (i := 2) (own := [("kind", 4), ("turn", 5)]) (g := gTup K 2 (gCons (gName 4) (gCons (gName 5) gNil))) (by rfl) sc_without.nd rfl rfl (sw_true rfl rfl rfl (by decide +kernel)) (pi_pairs (by rfl) T.z_enumerate (pa_cons (pe_fld (pv 0) rfl) pa_nil)) (blkOk_by (own := [("kind", 4), ("turn", 5)]) (N := ["counters", "kinds", "rounds", "rests", "kind", "turn", "rest"]) (sc := defScope s_without_kinds) (by decide +kernel))
        (fun _ _ _ _ _ => pg_tup rfl (pgs_cons (pg_name (i := 4) sc_without.nd rfl (by first | exact Or.inl rfl | exact Or.inr rfl)) (pgs_cons (pg_name (i := 5) sc_without.nd rfl (by first | exact Or.inl rfl | exact Or.inr rfl)) pgs_nil))) (fun _ _ _ _ _ => pts_nil) (fun _ _ _ _ _ => pe_ifExp (pt_cmpR (op_inK (K := K)) (pv 4) (pv 1) (by rfl)) pe_int (pv 5))))
      (pss_cons (ps_mid (ps_setLc (i := 3) (own := [("kind", 4), ("rest", 6)]) (g := gTup K 2 (gCons (gName 4) (gCons (gName 6) gNil))) (by rfl) sc_without.nd rfl rfl (sw_true rfl rfl rfl (by decide +kernel)) (pi_pairs (by rfl) T.z_enumerate (pa_cons (pe_fld (pv 0) rfl) pa_nil)) (blkOk_by (own := [("kind", 4), ("rest", 6)]) (N := ["counters", "kinds", "rounds", "rests", "kind", "turn", "rest"]) (sc := defScope s_without_kinds) (by decide +kernel))
        (fun _ _ _ _ _ => pg_tup rfl (pgs_cons (pg_name (i := 4) sc_without.nd rfl (by first | exact Or.inl rfl | exact Or.inr rfl)) (pgs_cons (pg_name (i := 6) sc_without.nd rfl (by first | exact Or.inl rfl | exact Or.inr rfl)) pgs_nil))) (fun _ _ _ _ _ => pts_nil) (fun _ _ _ _ _ => pe_ifExp (pt_cmpR (op_inK (K := K)) (pv 4) (pv 1) (by rfl)) pe_int (pv 6))))
      (pss_one (ps_ret (pe_cnt2 (K := K) M TC hr pzN (pa_cons (pv 2) (pa_cons (pv 3) pa_nil))))))))), ?_⟩
    refine ⟨_, rfl, _, rfl, c, rs, es, v, o, rfl, cn, hv, hk, bad, fun ea H1 e1 => ?_⟩
    obtain ⟨ns, rfl, nlt, nl⟩ := ascOf_true ea
    have k := good ns rfl ea
    obtain ⟨ok, dx, p, q, h1, h2, h3⟩ := id (cn.same e1)
    obtain ⟨b, rfl, hb⟩ : ∃ b, v = .ref b ∧ Sq K H1 b (ns.map V.int) := by
      cases hv with
      | @seq b _ hv => exact ⟨b, rfl, hv.same e1⟩
    refine ⟨fun σ' H' => ∃ (D : Addr) (x4 x5 x6 : Option V), σ' = [some (.ref c), some (.ref b), some (.ref D), none, x4, x5, x6] ∧ Same H1 H' ∧ H' D = some (.lst ((goneOf 1 ns rs).map V.int)), ?_, ?_⟩
    · have hbx := hb
      refine ⟨_, rfl, c, C, dx, _, _, rfl, h1, TC.cl, TC.n1, rfl, p, rs.map V.int, rfl, .inr ⟨h2, fun D hD => turns (n := rs.length) (Part H1 D ((goneOf 1 ns rs).map V.int)) (Part.zero hD) ?_ ?_⟩⟩
      · intro i H2 hi pt
        have b1 : (rs.map V.int)[i]? = some (.int (rs.getD i 0)) := by rw [List.getElem?_map, List.getD_eq_getElem?_getD, List.getElem?_eq_getElem hi]; rfl
        have q2 := sqT_same pt.2 h2
        refine ⟨⟨_, _, q2, b1⟩, ?_⟩
        rintro v H3 ⟨p', x, rfl, hp, rfl, hx'⟩
        have ex := hx' _ q2
        rw [b1] at ex
        cases ex
        have e3 := same_new (o := HO.tup [.int (i : Nat), .int (rs.getD i 0)]) hp
        refine ⟨p', _, rfl, SqT.of upd_same, rfl, ?_⟩
        refine ⟨_, _, rfl, _, _, rfl, rfl, rfl, yes ((if_pos rfl).mpr ?_)⟩
        have stp : ∀ y, y = V.int (if (i : Int) ∈ ns then 1 else rs.getD i 0) → ∃ acc, (upd H2 p' (.tup [.int (i : Nat), .int (rs.getD i 0)])) D = some (.lst acc) ∧ acc.length < sizeLine ∧ Part H1 D ((goneOf 1 ns rs).map V.int) (i + 1) (upd (upd H2 p' (.tup [.int (i : Nat), .int (rs.getD i 0)])) D (.lst (acc ++ [y]))) := fun y ey => by
          rw [ey]
          exact pt.step hD e3 (gone_at hi) (by rw [List.length_map, gone_len, sizeLine_eq]; have := ok.l4; have := ok.le; omega)
        refine ⟨_, rfl, _, rfl, b, ns.map V.int, rfl, (hbx.same pt.2).same e3, rfl, flat_nums, ?_⟩
        rw [if_neg (by decide), in_nums]
        refine ⟨_, rfl, ite2 (fun h => ?_) (fun h => ?_)⟩
        · exact stp _ (by rw [if_pos (of_decide_eq_true h)])
        · exact ⟨_, rfl, stp _ (by rw [if_neg fun z => h (decide_eq_true z)])⟩
      · intro H2 pt
        obtain ⟨hl, e2⟩ := pt.done (by rw [List.length_map, gone_len]; exact Nat.le_refl _)
        exact ⟨⟨_, sqT_same pt.2 h2, by rw [List.length_map]; exact Nat.le_refl _⟩, D, _, _, _, rfl, e2, hl⟩
    rintro σ' H2 ⟨D1, x4, x5, x6, rfl, e2, hD1⟩
    have h3' := sqT_same e2 h3
    refine ⟨fun σ' H' => ∃ (D : Addr) (x4 x5 x6 : Option V), σ' = [some (.ref c), some (.ref b), some (.ref D1), some (.ref D), x4, x5, x6] ∧ Same H2 H' ∧ H' D = some (.lst ((goneOf 0 ns es).map V.int)), ?_, ?_⟩
    · have hbx := hb.same e2
      refine ⟨_, rfl, c, C, dx, _, _, rfl, (e2 _ _ h1), TC.cl, TC.n2, rfl, q, es.map V.int, rfl, .inr ⟨h3', fun D hD => turns (n := es.length) (Part H2 D ((goneOf 0 ns es).map V.int)) (Part.zero hD) ?_ ?_⟩⟩
      · intro i H4 hi pt
        have b1 : (es.map V.int)[i]? = some (.int (es.getD i 0)) := by rw [List.getElem?_map, List.getD_eq_getElem?_getD, List.getElem?_eq_getElem hi]; rfl
        have q2 := sqT_same pt.2 h3'
        refine ⟨⟨_, _, q2, b1⟩, ?_⟩
        rintro v H3 ⟨p', x, rfl, hp, rfl, hx'⟩
        have ex := hx' _ q2
        rw [b1] at ex
        cases ex
        have e3 := same_new (o := HO.tup [.int (i : Nat), .int (es.getD i 0)]) hp
        refine ⟨p', _, rfl, SqT.of upd_same, rfl, ?_⟩
        refine ⟨_, _, rfl, _, _, rfl, rfl, rfl, yes ((if_pos rfl).mpr ?_)⟩
        have stp : ∀ y, y = V.int (if (i : Int) ∈ ns then 0 else es.getD i 0) → ∃ acc, (upd H4 p' (.tup [.int (i : Nat), .int (es.getD i 0)])) D = some (.lst acc) ∧ acc.length < sizeLine ∧ Part H2 D ((goneOf 0 ns es).map V.int) (i + 1) (upd (upd H4 p' (.tup [.int (i : Nat), .int (es.getD i 0)])) D (.lst (acc ++ [y]))) := fun y ey => by
          rw [ey]
          exact pt.step hD e3 (gone_at hi) (by rw [List.length_map, gone_len, sizeLine_eq]; have := ok.l4; have := ok.le; omega)
        refine ⟨_, rfl, _, rfl, b, ns.map V.int, rfl, (hbx.same pt.2).same e3, rfl, flat_nums, ?_⟩
        rw [if_neg (by decide), in_nums]
        refine ⟨_, rfl, ite2 (fun h => ?_) (fun h => ?_)⟩
        · exact stp _ (by rw [if_pos (of_decide_eq_true h)])
        · exact ⟨_, rfl, stp _ (by rw [if_neg fun z => h (decide_eq_true z)])⟩
      · intro H4 pt
        obtain ⟨hl, e4⟩ := pt.done (by rw [List.length_map, gone_len]; exact Nat.le_refl _)
        exact ⟨⟨_, sqT_same pt.2 h3', by rw [List.length_map]; exact Nat.le_refl _⟩, D, _, _, _, rfl, e4, hl⟩
    rintro σ' H3 ⟨D2, y4, y5, y6, rfl, e3, hD2⟩
    refine ⟨_, rfl, _, rfl, fun x dx' hx hdx ne => make_good (gone_ok ok) (.seq (.inl (SqL.of (e3 _ _ hD1)))) (.inr (.seq (.inl (SqL.of hD2)))) hx hdx ne fun H4 e4 cn4 => ?_⟩
    exact k x H4 (e1.trans (e2.trans (e3.trans e4))) cn4
theorem sc_left : FnScope ["counters", "kinds", "showing", "checked", "kind", "many"] ["counters", "kinds", "showing"] (defScope s_left_showing) := ⟨rfl, rfl, rfl, by decide +kernel, rfl, by decide +kernel, by decide +kernel⟩
theorem ok_left (F : FnP K "left_showing" s_left_showing f fd) (T : Mg mg) (TC : ClsC K mg C) (c_need : Cal P w K mg base (L2N.CX P w) 5 "_need_kinds" ["counters", "kinds"] (spNeedK K a C)) (c_chk : Cal P w K mg base (L2N.CX P w) 4 "check_showing" ["counters", "value"] (spCheck K a C)) :
    FnOk P w K mg base (L2N.CX P w) 6 f fd ["counters", "kinds", "showing"] (spLeft K a C) := by
  refine F.ok sc_left (fun vs H Q E h => ?_) (fun cdv A outer s H vs Q E hr h => ?_)
  · obtain ⟨c, rs, es, v, u, o, p, rfl, _⟩ := h
    rfl
  · obtain ⟨c, rs, es, v, u, o, pp, rfl, cn, hv, hk, bad, good⟩ := h
    refine ⟨_, (pss_cons (ps_expr (pe_callC c_need hr (L2N.passes_call (E := E) (L2N.takes_of rfl rfl rfl rfl) (fun _ _ _ _ z => z)) (pa_cons (pv 0) (pa_cons (pv 1) pa_nil))))
      (pss_cons (ps_set (i := 3) sc_left.nd rfl (by first | exact Or.inl rfl | exact Or.inr rfl) (pe_callC c_chk hr (L2N.passes_call (E := E) (L2N.takes_of rfl rfl rfl rfl) (fun _ _ _ _ z => z)) (pa_cons (pv 0) (pa_cons (pv 2) pa_nil))))
      (PSs.nox (pss_one (ps_ret (pe_callTy call_tup (by rfl) T.z_tuple (by decide +kernel) (pa_cons (pe_lc (own := [("kind", 4), ("many", 5)]) (g := gTup K 2 (gCons (gName 4) (gCons (gName 5) gNil))) (by rfl) sc_left.nd (pi_pairs (by rfl) T.z_enumerate (pa_cons (pv 3) pa_nil)) (blkOk_by (own := [("kind", 4), ("many", 5)]) (N := ["counters", "kinds", "showing", "checked", "kind", "many"]) (sc := defScope s_left_showing) (by decide +kernel))
        (fun _ _ _ _ _ => pg_tup rfl (pgs_cons (pg_name (i := 4) sc_left.nd rfl (by first | exact Or.inl rfl | exact Or.inr rfl)) (pgs_cons (pg_name (i := 5) sc_left.nd rfl (by first | exact Or.inl rfl | exact Or.inr rfl)) pgs_nil))) (fun _ _ _ _ _ => pts_nil) (fun _ _ _ _ _ => pe_ifExp (pt_cmpR (op_inK (K := K)) (pv 4) (pv 1) (by rfl)) pe_int (pv 5))) pa_nil))))))), ?_⟩
    refine ⟨_, rfl, _, rfl, c, rs, es, v, o, rfl, cn, hv, hk, bad, fun ea H1 e1 => ?_⟩
    obtain ⟨ns, rfl, nlt, nl⟩ := ascOf_true ea
    obtain ⟨sa, k⟩ := good ns rfl ea
    obtain ⟨b, rfl, hb⟩ : ∃ b, v = .ref b ∧ Sq K H1 b (ns.map V.int) := by
      cases hv with
      | @seq b _ hv => exact ⟨b, rfl, hv.same e1⟩
    have ok := cn.ok
    refine ⟨_, rfl, _, rfl, c, rs, es, u, pp, rfl, cn.same e1, sa.same e1, fun xs ex lx hs q H2 e2 hq => ?_⟩
    obtain ⟨ms, rfl, ms0⟩ : ∃ ms : List Int, xs = ms.map V.int ∧ ∀ n ∈ ms, 0 ≤ n := all_ints fun j x hx => canShow_int (hs j x hx)
    rw [List.length_map] at lx
    have k := k ms ex lx hs
    have hbx := hb.same e2
    refine ⟨_, rfl, q, ms.map V.int, rfl, .inr ⟨hq, fun D hD => turns (n := ms.length) (Part H2 D ((goneOf 0 ns ms).map V.int)) (Part.zero hD) ?_ ?_⟩⟩
    · intro i H4 hi pt
      have b1 : (ms.map V.int)[i]? = some (.int (ms.getD i 0)) := by rw [List.getElem?_map, List.getD_eq_getElem?_getD, List.getElem?_eq_getElem hi]; rfl
      have q2 := sqT_same pt.2 hq
      refine ⟨⟨_, _, q2, b1⟩, ?_⟩
      rintro v H3 ⟨p', x, rfl, hp, rfl, hx'⟩
      have ex := hx' _ q2
      rw [b1] at ex
      cases ex
      have e3 := same_new (o := HO.tup [.int (i : Nat), .int (ms.getD i 0)]) hp
      refine ⟨p', _, rfl, SqT.of upd_same, rfl, ?_⟩
      refine ⟨_, _, rfl, _, _, rfl, rfl, rfl, yes ((if_pos rfl).mpr ?_)⟩
      have stp : ∀ y, y = V.int (if (i : Int) ∈ ns then 0 else ms.getD i 0) → ∃ acc, (upd H4 p' (.tup [.int (i : Nat), .int (ms.getD i 0)])) D = some (.lst acc) ∧ acc.length < sizeLine ∧ Part H2 D ((goneOf 0 ns ms).map V.int) (i + 1) (upd (upd H4 p' (.tup [.int (i : Nat), .int (ms.getD i 0)])) D (.lst (acc ++ [y]))) := fun y ey => by
        rw [ey]
        exact pt.step hD e3 (gone_at hi) (by rw [List.length_map, gone_len, sizeLine_eq]; have := ok.l4; omega)
      refine ⟨_, rfl, _, rfl, b, ns.map V.int, rfl, (hbx.same pt.2).same e3, rfl, flat_nums, ?_⟩
      rw [if_neg (by decide), in_nums]
      refine ⟨_, rfl, ite2 (fun h => ?_) (fun h => ?_)⟩
      · exact stp _ (by rw [if_pos (of_decide_eq_true h)])
      · exact ⟨_, rfl, stp _ (by rw [if_neg fun z => h (decide_eq_true z)])⟩
    · intro H4 pt
      obtain ⟨hl, e4⟩ := pt.done (by rw [List.length_map, gone_len]; exact Nat.le_refl _)
      exact ⟨⟨_, sqT_same pt.2 hq, by rw [List.length_map]; exact Nat.le_refl _⟩, D, _, rfl, .inl (SqL.of hl), fun r H5 e5 hr5 => k r H5 (e1.trans (e2.trans (e4.trans e5))) hr5⟩
end
end K5
/-! an own error raised out of an except suite. -/
namespace Kx
open L2 PySem PySem.Spec PyProof.Rows
theorem sky_imp {B : Heap} {l : List Env} {a : Addr} {Z Z' : Obj → Prop} {L : Addr} {h : Heap} (z : ∀ o, Z o → Z' o) (x : Sky B l a Z L h) : Sky B l a Z' L h := by
  rcases x with ⟨h1, h2, h3, oe, vs, h4, h5, h6⟩ | x | ⟨h1, h2, h3, h4⟩
  · exact .inl ⟨h1, h2, h3, oe, vs, h4, z _ h5, h6⟩
  · exact .inr (.inl (L2H.flyingZ_imp z x))
  · exact .inr (.inr ⟨h1, h2, h3, L2H.tracedZ_imp z h4⟩)
/-- who takes any error takes one whose context is None -/
theorem takesN_of {X : Cx} {W : WX} (t : L2.Takes X W) : L2N.Takes X W := fun u s' ⟨a, B, sI, pins, σ, H, cls, d, e, I, nb, up, sky, na, os, ag, w⟩ =>
  t u s' ⟨a, B, sI, pins, σ, H, cls, d, e, I, nb, up, sky_imp (fun _ z => z.zc) sky, na, os, ag, w⟩
theorem ok_keepH {P : Program} {w : World} {K : PySem.W.Frag} {mg : Str → Option Value} {base : Heap} {C fI : Addr} {fd : FuncData} {f qual : Str} {params : Arguments} {scope : Scope} {p1 p2 p3 p4 : Pos}
    (F : FunD K "__init__" qual params [.Assign [.Attribute (.Name "self" p1) f p2] (.Name f p3) p4] scope [] [] fI fd) (T : OexC K C) (no : PySem.W.findIn K (.ref C) f = some none)
    (sc : FnScope ["self", f] ["self", f] scope) (hd : (f == ("__debug__" : Str)) = false) (hcd : (f == ("__classdict__" : Str)) = false) (l0 : scope.names.lookup ("self" : Str) = some .local) (l1 : scope.names.lookup f = some .local) :
    L2H.FnH P w K mg base CX0 1 fI fd ["self", f] (spKeep K C f) := by
  obtain ⟨oc, od, dV, kV, doc, pm, an, cdv, ct, osl, rfl, lk, hcd2, hD, -⟩ := F.ex
  refine L2H.fn_ofH lk hcd2 sc (fun vs H Q E h => ?_) (fun A outer s H vs Q E p hot hr h => ?_)
  · obtain ⟨a, v, rfl, _⟩ := h
    rfl
  · obtain ⟨a, v, rfl, ha, k⟩ := h
    refine ⟨_, pss_one (ps_ost (pe_var (i := 0) rfl (.inl l0)) (pe_var (i := 1) rfl (.inl l1) hd hcd)), ?_⟩
    exact ⟨_, rfl, _, rfl, a, C, rfl, T, no, .inl ⟨ha, fun dx n1 n2 => k dx n1 n2⟩⟩
/-- what the module holds of an error that a suite raises -/
structure ErrH (P : Program) (w : World) (K : PySem.W.Frag) (mg : Str → Option Value) (base : Heap) (k : Nat) (x f : Str) (C : Addr) : Prop where
  at_ : mg x = some (.ref C)
  cls : OexC K C
  ini : ∃ (fI : Addr) (fd : FuncData), PySem.W.findIn K (.ref C) "__init__" = some (some (.ref fI)) ∧ PySem.W.typeIn K (.ref fI) = some (.type "function") ∧ Binds K fd ["self", f] [] ∧ L2H.FnH P w K mg base CX0 k fI fd ["self", f] (spKeep K C f)
/-- raise C(e) from None, in a suite -/
theorem psHN {X : Cx} {W : WX} {k j jn : Nat} {x f : Str} {C : Addr} {e : Expr} {ta : TA} {p pos p2 cpos : Pos} (T : ErrH X.prog X.w X.K X.mg X.base k x f C) (hc : L2H.HotC X) (hr : L2H.RoomH j X.A) (tk : L2.Takes X W) (ha : PA X [e] ta) (hk : k + 1 ≤ j := by decide) (hg : Gl X x := by rfl)
    (hdb : (x == ("__debug__" : Str)) = false := by decide) (he : starEach (e :: []) X.env = (false, eval e X.env) :: starEach [] X.env := by rfl) (hpl : (backTo pos (starEach [] X.env)).any (·.1) = false := by rfl) :
    PS X (.Raise (some (.Call (.Name x p) [e] [] pos)) (some (.Constant .none jn cpos)) p2) (fun _ σ H => tMkO C (spKeep X.K C f) [] ta σ H fun cls d H' => W cls d σ H') := by
  obtain ⟨fI, fd, h1, h2, h3, h4⟩ := T.ini
  exact L2H.ps_raiseHN hc tk (L2H.pmk5_oexH T.cls h1 h2 h4 (hr.mono hk) hc h3 (fun _ _ _ _ _ _ _ h => h.elim) hg T.at_ ha hdb he hpl)
end Kx
/-! a def whose errors have no context, among such as may have one. -/
namespace Kx
open L2 PySem PySem.Spec PyProof.Rows
theorem cx_to {P : Program} {w : World} {outer : List Env} {H : Hp} {s s' : Shared} {E : XK} {u : Value} (x : L2N.CX P w outer H s E u s') : L2.CX P w outer H s E u s' := by
  obtain ⟨a, B, H', cls, d, e, fl, r⟩ := x
  exact ⟨a, B, H', cls, d, e, L2H.flyingZ_imp (fun _ z => z.zc) fl, r⟩
theorem FnOk.toL2 {P : Program} {w : World} {K : PySem.W.Frag} {mg : Str → Option Value} {base : Heap} {k : Nat} {f : Addr} {fd : FuncData} {ps : List Str} {sp : Sp} (F : FnOk P w K mg base (L2N.CX P w) k f fd ps sp) : FnOk P w K mg base (L2.CX P w) k f fd ps sp :=
  ⟨F.len, fun A outer s H args us vs Q E hr e0 hb r h => codeAny_mono (F.run A outer s H args us vs Q E hr e0 hb r h) fun r s' x => by
    unfold CR at x ⊢
    split at x
    · exact x
    · exact x
    · exact cx_to x⟩
theorem Cal.toL2 {P : Program} {w : World} {K : PySem.W.Frag} {mg : Str → Option Value} {base : Heap} {k : Nat} {x : Str} {ps : List Str} {sp : Sp} (c : Cal P w K mg base (L2N.CX P w) k x ps sp) : Cal P w K mg base (L2.CX P w) k x ps sp := by
  obtain ⟨f, fd, h1, h2, h3, h4⟩ := c
  exact ⟨f, fd, h1, h2, h3, FnOk.toL2 h4⟩
theorem CalN.toL2 {P : Program} {w : World} {K : PySem.W.Frag} {mg : Str → Option Value} {base : Heap} {k n : Nat} {x : Str} {ps ks : List Str} {gV : List V → List V → List V} {sp : Sp} (c : CalN P w K mg base (L2N.CX P w) k n x ps ks gV sp) : CalN P w K mg base (L2.CX P w) k n x ps ks gV sp := by
  obtain ⟨f, fd, g, h1, h2, h3, h4⟩ := c
  exact ⟨f, fd, g, h1, h2, h3, FnOk.toL2 h4⟩
end Kx
/-! showings merged -/
namespace K5
open L2 PySem PySem.Spec PyProof.Rows Kx RZ
/-- x(..) in a try's body -/
theorem pe_callNS {X : Cx} {k j : Nat} {x : Str} {ps : List Str} {sp : Sp} {W : WX} {e : PySem.Expr} {es : List PySem.Expr} {t : TA} {p pos : Pos} (c : Cal X.prog X.w X.K X.mg X.base (L2N.CX X.prog X.w) k x ps sp) (hr : Room j X.A) (tk : L2N.Takes X W) (ha : PA X (e :: es) t) (hk : k ≤ j := by decide) (hg : Gl X x := by rfl) (hdb : (x == ("__debug__" : Str)) = false := by decide)
    (he : starEach (e :: es) X.env = (false, eval e X.env) :: starEach es X.env := by rfl) (hpl : (backTo pos (starEach es X.env)).any (·.1) = false := by rfl) : PE X (.Call (.Name x p) (e :: es) [] pos) (tCallSD sp [] (WE W) t) := by
  obtain ⟨f, fd, h1, h2, h3, h4⟩ := c.ex
  exact pe_callSD (FnOk.mono h4 hk) hr hg h1 h2 h3 .nil (fun σ => L2N.passAt tk σ) ha hdb he hpl
/-- no such value is a showing -/
def BadShow (rs es : List Int) : Option (List V) → Prop
  | none => True
  | some xs => xs.length ≠ rs.length ∨ ∃ i, FirstWrong rs es xs i
def spChecked (K : PySem.W.Frag) (a : Ad) (C : Addr) : Sp := fun vs H Q E => ∃ (c : Addr) (rs es : List Int) (v : V) (o : Option (List V)) (i : Int), vs = [.ref c, v, .int i] ∧ CnAt K C H c rs es ∧ Long K H v o ∧ (∀ xs, o = some xs → xs.length = rs.length → ∀ x ∈ xs, Kn K H x) ∧
  (BadShow rs es o → Thrown E H a.cS "at" (.int i)) ∧ (∀ xs, o = some xs → xs.length = rs.length → AllShow rs es xs → ∀ p H', Same H H' → SqT K H' p xs → Q (.ref p) H')
section
variable {P : Program} {w : World} {K : PySem.W.Frag} {mg : Str → Option Value} {base : Heap} {f : Addr} {fd : FuncData} {a : Ad} {C CM : Addr}
theorem sc_checked : FnScope ["counters", "value", "at"] ["counters", "value", "at"] (defScope s_checked) := ⟨rfl, rfl, rfl, by decide +kernel, rfl, by decide +kernel, by decide +kernel⟩
theorem ok_checked (F : FnP K "_checked" s_checked f fd) (T : Mg mg) (R : Er P w K mg base a) (RH : ErrH P w K mg base 1 "BadShowing" "at" a.cS) (mS : PySem.W.exmOne K (.ref a.cS) (.ref a.cS) = some true) (c_chk : Cal P w K mg base (L2N.CX P w) 4 "check_showing" ["counters", "value"] (spCheck K a C)) :
    FnOk P w K mg base (L2.CX P w) 6 f fd ["counters", "value", "at"] (spChecked K a C) := by
  refine F.ok sc_checked (fun vs H Q E h => ?_) (fun cdv A outer s H vs Q E hr h => ?_)
  · obtain ⟨c, rs, es, v, o, i, rfl, _⟩ := h
    rfl
  · obtain ⟨c, rs, es, v, o, i, rfl, hc, long, kn, bad, good⟩ := h
    refine ⟨_, (pss_one (L2H.ps_try_onlyX (Wout := fun cls d _ H' => E cls d H') (tb := fun W => tRet (tCallSD (spCheck K a C) [] (WE W) (tCons (tVar 0) (tCons (tVar 1) tNil))))
        (ts := fun _ _ _ _ σ H => tMkO a.cS (spKeep K a.cS "at") [] (tCons (tVar 2) tNil) σ H fun cls d H' => E cls d H')
        rfl rfl ⟨rfl, by decide, .inl R.BadShowing.at_⟩ (fun hd => L2H.passesAt_of rfl hd) (L2.takes_of rfl rfl rfl rfl)
        (fun W pn xe tkN tk2 own => pss_one (ps_ret (pe_callNS c_chk hr tkN (pa_cons (pv 0) (pa_cons (pv 1) pa_nil)))))
        (fun x oe cls d pn hz hf tkS hot => pss_one (psHN RH hot (L2H.roomH_mark hr _) tkS (pa_cons (pv 2) pa_nil))))), ?_⟩
    refine ⟨_, rfl, _, rfl, c, rs, es, v, o, rfl, hc, ⟨long, kn, fun z => ?_, fun xs i' ex hl fw => ?_⟩, fun xs ex hl all p H3 e3 hp => ?_⟩
    · intro d H3 e3 hd3
      refine ⟨true, mS, fun _ x hx => ?_, fun z => nomatch z⟩
      have b : BadShow rs es o := by
        rcases z with rfl | ⟨xs, rfl, hl⟩
        · trivial
        · exact .inl hl
      exact ⟨_, rfl, thrown ((bad b).same e3).at_⟩
    · intro d H3 e3 hd3
      refine ⟨true, mS, fun _ x hx => ?_, fun z => nomatch z⟩
      subst ex
      have b : BadShow rs es (some xs) := .inr ⟨i', fw⟩
      exact ⟨_, rfl, thrown ((bad b).same e3).at_⟩
    · exact good xs ex hl all p H3 e3 hp
end
end K5
/-! showings merged -/
namespace K5
open L2 PySem PySem.Spec PyProof.Rows Kx RZ
/-- l[i], i from the front -/
def rGetL : V → V → Hp → VK → Prop := fun o i H Q => ∃ (p : Addr) (xs : List V) (k : Nat) (z : V), o = .ref p ∧ i = .int (k : Int) ∧ H p = some (.lst xs) ∧ xs[k]? = some z ∧ Q z H
theorem get_list {X : Cx} : PGet X rGetL := by
  intro pins s σ H o i ov iv Q I ro ri h
  obtain ⟨p, xs, k, z, rfl, rfl, hp, hz, q⟩ := h
  cases ro
  obtain ⟨t, rfl⟩ := ri
  obtain ⟨its, rv, pl, hl⟩ := I.list (SqL.of hp)
  obtain ⟨w, ew, rw'⟩ := rv.get hz
  have lt := (List.getElem?_eq_some_iff.mp hz).1
  have len := rv.length
  have hn := line63
  exact wpAny_getItem_list pl.isList (by omega) (by omega) (by rw [Int.toNat_natCast]; simpa using ew) ⟨z, H, I, rw', q⟩
/-- a loop over enumerate of a list or a tuple that stays -/
theorem for_pairsS {K : PySem.W.Frag} {a : Addr} {xs : List V} {g : TG} {tb : TS} {D : Ends} {σ : L2.St} {H : Hp} (hx : Sq K H a xs) (Pv : Nat → L2.St → Hp → Prop) (h0 : Pv 0 σ H) (sl : SqL K H a xs → ∀ i σ' H', Pv i σ' H' → SqL K H' a xs) (st : SqT K H a xs → ∀ i σ' H', Pv i σ' H' → SqT K H' a xs)
    (turn : ∀ (i : Nat) (x : V) (p : Addr) σ' H', xs[i]? = some x → Pv i σ' H' → H' p = none → g (.ref p) σ' (upd H' p (.tup [.int (i : Int), x])) fun σ2 H2 => tb { D with nx := Pv (i + 1), ct := Pv (i + 1), bk := D.nx } σ2 H2)
    (fin : ∀ σ' H', Pv xs.length σ' H' → D.nx σ' H') : (SqL K H a xs ∧ forR g tb D σ (Ite K a) H) ∨ (SqT K H a xs ∧ forR g tb D σ (ItPair K a) H) := by
  refine hx.imp (fun q => ⟨q, for_by (n := xs.length) Pv h0 ?_ ?_⟩) fun q => ⟨q, for_by (n := xs.length) Pv h0 ?_ ?_⟩
  · intro i σ' H' lt pv
    have q' := sl q i σ' H' pv
    refine ⟨⟨xs, xs[i], q', List.getElem?_eq_getElem lt⟩, ?_⟩
    rintro v H2 ⟨pr, x, rfl, hn, rfl, hx⟩
    exact turn i x pr σ' H' (hx xs q') pv hn
  · exact fun σ' H' pv => ⟨⟨xs, sl q _ σ' H' pv, Nat.le_refl _⟩, fin σ' H' pv⟩
  · intro i σ' H' lt pv
    have q' := st q i σ' H' pv
    refine ⟨⟨xs, xs[i], q', List.getElem?_eq_getElem lt⟩, ?_⟩
    rintro v H2 ⟨pr, x, rfl, hn, rfl, hx⟩
    exact turn i x pr σ' H' (hx xs q') pv hn
  · exact fun σ' H' pv => ⟨⟨xs, st q _ σ' H' pv, Nat.le_refl _⟩, fin σ' H' pv⟩
/-- a right showing -/
def Right (rs es ns : List Int) : Prop := ns.length = rs.length ∧ AllShow rs es (ns.map V.int)
theorem right_or {rs es : List Int} (o : Option (List V)) : BadShow rs es o ∨ ∃ ns : List Int, o = some (ns.map V.int) ∧ Right rs es ns := by
  cases o with
  | none => exact .inl trivial
  | some xs =>
    by_cases hl : xs.length = rs.length
    · by_cases hs : AllShow rs es xs
      · obtain ⟨ns, rfl, _⟩ := all_ints fun j x hx => canShow_int (hs j x hx)
        exact .inr ⟨ns, rfl, by rw [← hl, List.length_map], hs⟩
      · have : ∃ j, ∃ x, xs[j]? = some x ∧ canShow (rs.getD j 0) (es.getD j 0) x = false := by
          refine Classical.byContradiction fun no => hs fun j x hx => ?_
          cases e : canShow (rs.getD j 0) (es.getD j 0) x with
          | true => rfl
          | false => exact absurd ⟨j, x, hx, e⟩ no
        obtain ⟨j, hj⟩ := this
        have least : ∀ n, (∃ x, xs[n]? = some x ∧ canShow (rs.getD n 0) (es.getD n 0) x = false) → ∃ i, FirstWrong rs es xs i := by
          intro n
          induction n using Nat.strongRecOn with
          | _ n ih =>
            intro hn
            by_cases h : ∃ m, m < n ∧ ∃ x, xs[m]? = some x ∧ canShow (rs.getD m 0) (es.getD m 0) x = false
            · obtain ⟨m, lt, hm⟩ := h
              exact ih m lt hm
            · refine ⟨n, fun j x lt hx => ?_, hn⟩
              cases e : canShow (rs.getD j 0) (es.getD j 0) x with
              | true => rfl
              | false => exact absurd ⟨j, lt, x, hx, e⟩ h
        exact .inl (.inr (least j hj))
    · exact .inl (.inl hl)
/-- numbers by kind, together -/
def sumOf (k : Nat) (nss : List (List Int)) : List Int := (List.range k).map fun (i : Nat) => (nss.map fun ns => ns.getD i 0).sum
theorem sum_len' {k : Nat} {nss : List (List Int)} : (sumOf k nss).length = k := by unfold sumOf; rw [List.length_map, List.length_range]
theorem sum_nil {k : Nat} : sumOf k [] = List.replicate k 0 := by
  unfold sumOf
  refine List.ext_getElem (by simp) fun i h1 h2 => ?_
  simp
theorem sum_at {k i : Nat} {nss : List (List Int)} (h : i < k) : (sumOf k nss)[i]? = some ((nss.map fun ns => ns.getD i 0).sum) := by
  unfold sumOf
  rw [List.getElem?_map, List.getElem?_range h]
  rfl
/-- the first j kinds with one more showing, the others without -/
def sumPart (k j : Nat) (nss : List (List Int)) (ns : List Int) : List Int := (sumOf k (nss ++ [ns])).take j ++ (sumOf k nss).drop j
theorem part_zero {k : Nat} {nss : List (List Int)} {ns : List Int} : sumPart k 0 nss ns = sumOf k nss := by
  unfold sumPart
  simp
theorem part_all {k : Nat} {nss : List (List Int)} {ns : List Int} : sumPart k k nss ns = sumOf k (nss ++ [ns]) := by
  unfold sumPart
  rw [List.take_of_length_le (by rw [sum_len']; exact Nat.le_refl _), List.drop_of_length_le (by rw [sum_len']; exact Nat.le_refl _), List.append_nil]
theorem part_len {k j : Nat} {nss : List (List Int)} {ns : List Int} (h : j ≤ k) : (sumPart k j nss ns).length = k := by
  unfold sumPart
  rw [List.length_append, List.length_take, List.length_drop, sum_len', sum_len']
  omega
theorem part_at {k j : Nat} {nss : List (List Int)} {ns : List Int} (h : j < k) : (sumPart k j nss ns)[j]? = some ((nss.map fun ns => ns.getD j 0).sum) := by
  unfold sumPart
  rw [List.getElem?_append_right (by rw [List.length_take, sum_len']; omega), List.length_take, sum_len', Nat.min_eq_left (by omega), Nat.sub_self, List.getElem?_drop, Nat.add_zero, sum_at h]
theorem part_set {k j : Nat} {nss : List (List Int)} {ns : List Int} (h : j < k) : (sumPart k j nss ns).set j ((nss.map fun ns => ns.getD j 0).sum + ns.getD j 0) = sumPart k (j + 1) nss ns := by
  have e : (sumOf k (nss ++ [ns]))[j]? = some ((nss.map fun ns => ns.getD j 0).sum + ns.getD j 0) := by
    rw [sum_at h, List.map_append, List.sum_append]
    simp
  refine List.ext_getElem? fun i => ?_
  unfold sumPart
  have l1 : ((sumOf k (nss ++ [ns])).take j).length = j := by rw [List.length_take, sum_len']; omega
  have l2 : ((sumOf k (nss ++ [ns])).take (j + 1)).length = j + 1 := by rw [List.length_take, sum_len']; omega
  rcases Nat.lt_trichotomy i j with lt | rfl | gt
  · rw [List.getElem?_set_ne (by omega), List.getElem?_append_left (by omega), List.getElem?_append_left (by omega), List.getElem?_take_of_lt lt, List.getElem?_take_of_lt (by omega)]
  · rw [List.getElem?_set_self (by rw [List.length_append, l1, List.length_drop, sum_len']; omega), List.getElem?_append_left (by omega), List.getElem?_take_of_lt (by omega), e]
  · rw [List.getElem?_set_ne (by omega), List.getElem?_append_right (by omega), List.getElem?_append_right (by omega), l1, l2, List.getElem?_drop, List.getElem?_drop]
    congr 1
    omega
end K5
/-! showings merged -/
namespace K5
open L2 PySem PySem.Spec PyProof.Rows Kx RZ
theorem for_pairsT {K : PySem.W.Frag} {a : Addr} {xs : List V} {g : TG} {tb : TS} {D : Ends} {σ : L2.St} {H : Hp} (q : SqT K H a xs) (Pv : Nat → L2.St → Hp → Prop) (h0 : Pv 0 σ H) (st : ∀ i σ' H', Pv i σ' H' → SqT K H' a xs)
    (turn : ∀ (i : Nat) (x : V) (p : Addr) σ' H', xs[i]? = some x → Pv i σ' H' → H' p = none → g (.ref p) σ' (upd H' p (.tup [.int (i : Int), x])) fun σ2 H2 => tb { D with nx := Pv (i + 1), ct := Pv (i + 1), bk := D.nx } σ2 H2)
    (fin : ∀ σ' H', Pv xs.length σ' H' → D.nx σ' H') : SqT K H a xs ∧ forR g tb D σ (ItPair K a) H := by
  refine ⟨q, for_by (n := xs.length) Pv h0 ?_ ?_⟩
  · intro i σ' H' lt pv
    have q' := st i σ' H' pv
    refine ⟨⟨xs, xs[i], q', List.getElem?_eq_getElem lt⟩, ?_⟩
    rintro v H2 ⟨pr, x, rfl, hn, rfl, hx⟩
    exact turn i x pr σ' H' (hx xs q') pv hn
  · exact fun σ' H' pv => ⟨⟨xs, st _ σ' H' pv, Nat.le_refl _⟩, fin σ' H' pv⟩
theorem for_pairsB {K : PySem.W.Frag} {a : Addr} {xs : List V} {g : TG} {tb : TS} {D : Ends} {σ : L2.St} {H0 H : Hp} (hx : Sq K H0 a xs) (e0 : Same H0 H) (Pv : Nat → L2.St → Hp → Prop) (h0 : Pv 0 σ H) (hs : ∀ i σ' H', Pv i σ' H' → Same H0 H')
    (turn : ∀ (i : Nat) (x : V) (p : Addr) σ' H', xs[i]? = some x → Pv i σ' H' → H' p = none → g (.ref p) σ' (upd H' p (.tup [.int (i : Int), x])) fun σ2 H2 => tb { D with nx := Pv (i + 1), ct := Pv (i + 1), bk := D.nx } σ2 H2)
    (fin : ∀ σ' H', Pv xs.length σ' H' → D.nx σ' H') : (SqL K H a xs ∧ forR g tb D σ (Ite K a) H) ∨ (SqT K H a xs ∧ forR g tb D σ (ItPair K a) H) := by
  refine hx.imp (fun q => ⟨sqL_same e0 q, for_by (n := xs.length) Pv h0 ?_ ?_⟩) fun q => for_pairsT (sqT_same e0 q) Pv h0 (fun i σ' H' pv => sqT_same (hs i σ' H' pv) q) turn fin
  · intro i σ' H' lt pv
    have q' := sqL_same (hs i σ' H' pv) q
    refine ⟨⟨xs, xs[i], q', List.getElem?_eq_getElem lt⟩, ?_⟩
    rintro v H2 ⟨pr, x, rfl, hn, rfl, hx⟩
    exact turn i x pr σ' H' (hx xs q') pv hn
  · exact fun σ' H' pv => ⟨⟨xs, sqL_same (hs _ σ' H' pv) q, Nat.le_refl _⟩, fin σ' H' pv⟩
theorem same_put {H H' : Hp} {S : Addr} {o : HO} (e : Same H H') (n : H S = none) : Same H (upd H' S o) := fun b u hb => by
  rw [upd_ne (fun z => by rw [z, n] at hb; cases hb)]
  exact e b u hb
abbrev someI (ns : List Int) : Option (List V) := some (ns.map V.int)
def spMerged (K : PySem.W.Frag) (a : Ad) (C : Addr) : Sp := fun vs H Q E => ∃ (c : Addr) (rs es : List Int) (v : V) (o : Option (List V)), vs = [.ref c, v] ∧ CnAt K C H c rs es ∧ Long K H v o ∧ (o = none → Thrown E H a.cF "at" v) ∧
  (∀ xs, o = some xs → ∃ os : List (Option (List V)), xs.length = os.length ∧ (∀ (i : Nat) x y, xs[i]? = some x → os[i]? = some y → Long K H x y ∧ (∀ zs, y = some zs → zs.length = rs.length → ∀ z ∈ zs, Kn K H z)) ∧
    (∀ (nss : List (List Int)) y r, os = nss.map someI ++ y :: r → (∀ ns ∈ nss, Right rs es ns) → BadShow rs es y → Thrown E H a.cS "at" (.int (nss.length : Nat))) ∧
    (∀ nss : List (List Int), os = nss.map someI → (∀ ns ∈ nss, Right rs es ns) → ∀ p H', Same H H' → SqT K H' p ((showNs rs es (sumOf rs.length nss)).map V.int) → Q (.ref p) H'))
section
variable {P : Program} {w : World} {K : PySem.W.Frag} {mg : Str → Option Value} {base : Heap} {f : Addr} {fd : FuncData} {a : Ad} {C CM : Addr}
theorem sc_merged : FnScope ["counters", "showings", "sums", "at", "value", "kind", "many"] ["counters", "showings"] (defScope s_merged) := ⟨rfl, rfl, rfl, by decide +kernel, rfl, by decide +kernel, by decide +kernel⟩
theorem ok_merged (F : FnP K "merged" s_merged f fd) (T : Mg mg) (R : Er P w K mg base a) (TC : ClsC K mg C) (c_checked : Cal P w K mg base (L2.CX P w) 6 "_checked" ["counters", "value", "at"] (spChecked K a C)) (c_of : Cal P w K mg base CX0 2 "showing_of" ["counters", "counts"] (spShowingOf K C)) :
    FnOk P w K mg base (L2.CX P w) 7 f fd ["counters", "showings"] (spMerged K a C) := by
  refine F.ok sc_merged (fun vs H Q E h => ?_) (fun cdv A outer s H vs Q E hr h => ?_)
  · obtain ⟨c, rs, es, v, o, rfl, _⟩ := h
    rfl
  · obtain ⟨c, rs, es, v, o, rfl, cn, long, bad, good⟩ := h
    refine ⟨_, (pss_cons (ps_if (pt_not (pt_val (pe_callB call_isiT (by rfl) T.z_isinstance (by decide +kernel) (pa_cons (pv 1) (pa_cons (pe_tup (pa_cons (pe_ty T.z_list bt_list) (pa_cons (pe_ty T.z_tuple bt_tuple) pa_nil))) pa_nil)))))
        (pss_one (psN R.Refused rfl hr (takesN_of (L2.takes_of rfl rfl rfl rfl)) (pa_cons (pv 1) pa_nil)))
        pss_nil)
      (pss_cons (ps_set (i := 2) sc_merged.nd rfl (by first | exact Or.inl rfl | exact Or.inr rfl) (pe_op op_rep (pe_lst (pa_cons pe_int pa_nil)) (pe_callB call_len_seq (by rfl) T.z_len PySem.boot_len (pa_cons (pe_fld (pv 0) rfl) pa_nil))))
      (pss_cons (ps_for (passes_of rfl) rfl (pi_pairs (by rfl) T.z_enumerate (pa_cons (pv 1) pa_nil)) (pg_tup rfl (pgs_cons (pg_name (i := 3) sc_merged.nd rfl (by first | exact Or.inl rfl | exact Or.inr rfl)) (pgs_cons (pg_name (i := 4) sc_merged.nd rfl (by first | exact Or.inl rfl | exact Or.inr rfl)) pgs_nil)))
        (pss_one (ps_for (passes_of rfl) rfl (pi_pairs (by rfl) T.z_enumerate (pa_cons (pe_callC c_checked hr (passes_call (E := E) (takes_of rfl rfl rfl rfl) (fun _ _ _ _ z => z)) (pa_cons (pv 0) (pa_cons (pv 4) (pa_cons (pv 3) pa_nil)))) pa_nil)) (pg_tup rfl (pgs_cons (pg_name (i := 5) sc_merged.nd rfl (by first | exact Or.inl rfl | exact Or.inr rfl)) (pgs_cons (pg_name (i := 6) sc_merged.nd rfl (by first | exact Or.inl rfl | exact Or.inr rfl)) pgs_nil)))
          (pss_one (ps_augS (pv 2) (pv 5) get_list (pv 6) ip_add set_list)))))
      (pss_one (ps_ret (pe_callC c_of hr pass0 (pa_cons (pv 0) (pa_cons (pv 2) pa_nil)))))))), ?_⟩
    refine ⟨_, rfl, (by show 2 ≤ sizeLine; decide), fun t ht => ?_⟩
    have e0 := same_new (o := HO.tup [.ty "list", .ty "tuple"]) ht
    obtain ⟨n, hty, hk⟩ := long_ty (long.same e0)
    refine ⟨v, t, _, .type n, _, o.isSome, rfl, upd_same, .cons (.ty _) (.cons (.ty _) .nil), hty, hk, _, rfl, ?_⟩
    generalize upd H t (HO.tup [.ty "list", .ty "tuple"]) = H0 at e0 hty ⊢
    cases o with
    | none => exact iteT ⟨_, rfl, thrownN ((bad rfl).same e0).at_⟩
    | some xs =>
    refine iteF ?_
    obtain ⟨ok, dx, p, q, h1, h2, h3⟩ := id cn
    have l4 := ok.l4
    cases long with
    | @seq vl _ hv =>
    obtain ⟨os, los, its, wrong, right⟩ := good xs rfl
    refine ⟨(by show 1 ≤ sizeLine; decide), fun l hl => ?_⟩
    have e1 := e0.trans (same_new (o := HO.lst [.int 0]) hl)
    have u1 : upd H0 l (HO.lst [.int 0]) l = some (HO.lst [.int 0]) := upd_same
    generalize upd H0 l (HO.lst [.int 0]) = H1 at e1 u1 ⊢
    refine ⟨_, rfl, c, C, dx, _, _, rfl, e1 _ _ h1, TC.cl, TC.n1, rfl, p, _, rfl, .inr (sqT_same e1 h2), ?_⟩
    rw [List.length_map]
    refine ⟨l, (rs.length : Nat), _, rfl, rfl, u1, by omega, by omega, (by show 1 * _ ≤ sizeLine; rw [sizeLine_eq]; omega), fun S hS => ?_⟩
    have nS : H S = none := by
      cases e : H S with
      | none => rfl
      | some o => rw [e1 _ _ e] at hS; cases hS
    have e2 := e1.trans (same_new (o := HO.lst (List.replicate (rs.length : Int).toNat [V.int 0]).flatten) hS)
    have u2 : upd H1 S (HO.lst (List.replicate (rs.length : Int).toNat [V.int 0]).flatten) S = some (HO.lst ((sumOf rs.length []).map V.int)) := by
      rw [upd_same, Int.toNat_natCast, sum_nil, List.map_replicate, List.flatten_replicate_singleton]
    generalize upd H1 S (HO.lst (List.replicate (rs.length : Int).toNat [V.int 0]).flatten) = H2 at e2 u2 ⊢
    refine ⟨_, rfl, vl, xs, rfl, for_pairsB hv e2 (fun i σ' H' => ∃ (nss : List (List Int)) (x3 x4 x5 x6 : Option V), σ' = [some (.ref c), some (.ref vl), some (.ref S), x3, x4, x5, x6] ∧ Same H H' ∧ H' S = some (.lst ((sumOf rs.length nss).map V.int)) ∧ os.take i = nss.map someI ∧ ∀ ns ∈ nss, Right rs es ns)
      ⟨[], _, _, _, _, rfl, e2, u2, rfl, fun _ z => nomatch z⟩ (fun i σ' H' ⟨_, _, _, _, _, _, e, _⟩ => e) ?_ ?_⟩
    · rintro i x pr σ' H' hx ⟨nss, x3, x4, x5, x6, rfl, e, hS', tk, rg⟩ hpr
      have li : i < os.length := by rw [← los]; exact (List.getElem?_eq_some_iff.mp hx).1
      have hy : os[i]? = some os[i] := List.getElem?_eq_getElem li
      obtain ⟨lx, knx⟩ := its i x _ hx hy
      have ln : nss.length = i := by
        have := congrArg List.length tk
        rw [List.length_take, List.length_map] at this
        omega
      have split : os = nss.map someI ++ os[i] :: os.drop (i + 1) := by
        rw [← tk, ← List.drop_eq_getElem_cons li, List.take_append_drop]
      refine ⟨pr, _, rfl, SqT.of upd_same, rfl, ?_⟩
      refine ⟨_, _, rfl, _, _, rfl, rfl, ?_⟩
      have e3 := e.trans (same_new (o := HO.tup [.int (i : Nat), x]) hpr)
      have hS3 := same_new (o := HO.tup [.int (i : Nat), x]) hpr _ _ hS'
      generalize upd H' pr (HO.tup [.int (i : Nat), x]) = H3 at e3 hS3 ⊢
      refine ⟨_, rfl, _, rfl, _, rfl, c, rs, es, x, os[i], (i : Nat), rfl, cn.same e3, lx.same e3, fun zs q l z hz => (knx zs q l z hz).same e3, fun b => ?_, fun zs ez lz hs p' H4 e4 hp' => ?_⟩
      · have := wrong nss _ _ split rg b
        rw [ln] at this
        exact this.same e3
      obtain ⟨ns, rfl, _⟩ := all_ints fun j x hx => canShow_int (hs j x hx)
      rw [List.length_map] at lz
      have rn : Right rs es ns := ⟨lz, hs⟩
      refine ⟨p', _, rfl, .inr (for_pairsT hp' (fun j σ' H' => ∃ (x5 x6 : Option V), σ' = [some (.ref c), some (.ref vl), some (.ref S), some (.int (i : Nat)), some x, x5, x6] ∧ Same H H' ∧ H' S = some (.lst ((sumPart rs.length j nss ns).map V.int)) ∧ SqT K H' p' (ns.map V.int))
        ⟨_, _, rfl, e3.trans e4, by rw [part_zero]; exact e4 _ _ hS3, hp'⟩ (fun _ _ _ ⟨_, _, _, _, _, z⟩ => z) ?_ ?_)⟩
      · rintro j z pr2 σ2 H5 hz ⟨x5', x6', rfl, e5, hS5, sq5⟩ hpr2
        obtain ⟨m, hm, rfl⟩ : ∃ m, ns[j]? = some m ∧ z = .int m := by
          rw [List.getElem?_map, Option.map_eq_some_iff] at hz
          obtain ⟨n, h1, h2⟩ := hz
          exact ⟨n, h1, h2.symm⟩
        have lj : j < rs.length := by rw [← lz]; exact (List.getElem?_eq_some_iff.mp hm).1
        have gm : ns.getD j 0 = m := by rw [List.getD_eq_getElem?_getD, hm]; rfl
        refine ⟨pr2, _, rfl, SqT.of upd_same, rfl, ?_⟩
        refine ⟨_, _, rfl, _, _, rfl, rfl, ?_⟩
        have e6 := e5.trans (same_new (o := HO.tup [.int (j : Nat), .int m]) hpr2)
        have hS6 := same_new (o := HO.tup [.int (j : Nat), .int m]) hpr2 _ _ hS5
        have sq6 := sqT_same (same_new (o := HO.tup [.int (j : Nat), .int m]) hpr2) sq5
        generalize upd H5 pr2 (HO.tup [.int (j : Nat), .int m]) = H6 at e6 hS6 sq6 ⊢
        have get : ((sumPart rs.length j nss ns).map V.int)[j]? = some (.int ((nss.map fun ns => ns.getD j 0).sum)) := by
          rw [List.getElem?_map, part_at lj]
          rfl
        refine ⟨_, rfl, _, rfl, S, _, j, _, rfl, rfl, hS6, get, _, rfl, _, _, rfl, rfl, S, _, (j : Int), j, rfl, rfl, hS6, ?_, ?_⟩
        · unfold ixN
          rw [if_pos (by omega), if_pos (by rw [List.length_map, part_len (by omega)]; omega), Int.toNat_natCast]
        · refine ⟨_, _, rfl, same_put e6 nS, ?_, sqT_lst hS6 sq6⟩
          rw [upd_same, ← part_set lj, List.map_set, gm]
      · rintro σ2 H5 ⟨x5', x6', rfl, e5, hS5, _⟩
        rw [List.length_map, lz, part_all] at hS5
        refine ⟨nss ++ [ns], _, _, _, _, rfl, e5, hS5, ?_, fun n hn => ?_⟩
        · rw [List.take_add_one, tk, hy, ez, List.map_append]
          rfl
        · rcases List.mem_append.mp hn with h | h
          · exact rg n h
          · rw [List.mem_singleton.mp h]
            exact rn
    · rintro σ' H' ⟨nss, x3, x4, x5, x6, rfl, e, hS', tk, rg⟩
      rw [los, List.take_length] at tk
      refine ⟨_, rfl, _, rfl, c, S, rs, es, sumOf rs.length nss, rfl, cn.same e, .inl (SqL.of hS'), sum_len', fun r H5 e5 hr5 => right nss tk rg r H5 (e.trans e5) hr5⟩
end
end K5
/-! the law's draws -/
namespace K5
open PySem PySem.Spec PyProof.Rows L2 Kx RZ
/-- a source of draws -/
def bx (t : Int × Int) : HO := .lst [.int t.1, .int t.2]
/-- from H to H' only the source at b has moved, things were made -/
def Mv (b : Addr) (H H' : Hp) : Prop := (∀ c o, c ≠ b → H c = some o → H' c = some o) ∧ ∃ t, H' b = some (bx t)
theorem Mv.refl {b : Addr} {H : Hp} {t : Int × Int} (h : H b = some (bx t)) : Mv b H H := ⟨fun _ _ _ h => h, t, h⟩
theorem Mv.trans {b : Addr} {H H1 H2 : Hp} (h : Mv b H H1) (g : Mv b H1 H2) : Mv b H H2 := ⟨fun c o ne q => g.1 c o ne (h.1 c o ne q), g.2⟩
theorem Mv.same {b : Addr} {H H1 H2 : Hp} (h : Mv b H H1) (g : Same H1 H2) : Mv b H H2 := ⟨fun c o ne q => g c o (h.1 c o ne q), h.2.elim fun t q => ⟨t, g _ _ q⟩⟩
theorem Mv.upd {b : Addr} {H : Hp} (t : Int × Int) : Mv b H (L2.upd H b (bx t)) := ⟨fun c o ne q => by rw [upd_ne ne]; exact q, t, upd_same⟩
section
variable {K : PySem.W.Frag} {b a : Addr} {H H' : Hp} {t : Int × Int} {xs : List V}
theorem Mv.rd {u : HO} (m : Mv b H H') (hb : H b = some (bx t)) (n1 : ∀ ys, u ≠ .lst ys) (h : Rd H a u) : Rd H' a u := by
  rcases h with h | ⟨z, h⟩
  · exact .inl (m.1 _ _ (ne_of h hb (n1 _)) h)
  · exact .inr ⟨z, m.1 _ _ (ne_of h hb (fun z => nomatch z)) h⟩
theorem Mv.sqT (m : Mv b H H') (hb : H b = some (bx t)) (h : SqT K H a xs) : SqT K H' a xs := h.imp (m.rd hb fun _ z => nomatch z) id
theorem Mv.sqL (m : Mv b H H') (ne : a ≠ b) (h : SqL K H a xs) : SqL K H' a xs := h.imp (fun h => h.elim (fun h => .inl (m.1 _ _ ne h)) fun ⟨z, h⟩ => .inr ⟨z, m.1 _ _ ne h⟩) id
theorem Mv.tupD (m : Mv b H H') (hb : H b = some (bx t)) (h : TupD H a xs) : TupD H' a xs := h.elim fun o h => ⟨o, m.1 _ _ (ne_of h.1 hb (fun z => nomatch z)) h.1, h.2⟩
theorem Mv.mc {C c : Addr} {n : Nat} {ts : List (List Int)} (m : Mv b H H') (hb : H b = some (bx t)) (h : McAt K C H c n ts) : McAt K C H' c n ts := by
  obtain ⟨ok, dx, p, ps, h1, h2, h3⟩ := h
  exact ⟨ok, dx, p, ps, m.1 _ _ (ne_of h1 hb (fun z => nomatch z)) h1, m.sqT hb h2, h3.imp fun _ _ q => m.sqT hb q⟩
end
def spTake : Sp := fun vs H Q _ => ∃ (b : Addr) (t : Int × Int) (many : Int), vs = [.ref b, .int many] ∧ H b = some (bx t) ∧ 0 < many ∧ many < 1073741824 ∧
  ∀ (r : Int) (H' : Hp), 0 ≤ r → r < many → Mv b H H' → Q (.int r) H'
def spPick (K : PySem.W.Frag) : Sp := fun vs H Q _ => ∃ (b a : Addr) (t : Int × Int) (xs : List V), vs = [.ref b, .ref a] ∧ H b = some (bx t) ∧ a ≠ b ∧ SqL K H a xs ∧ 0 < xs.length ∧ xs.length < 1073741824 ∧
  ∀ (v : V) (H' : Hp), v ∈ xs → Mv b H H' → Q v H'
def spBox (K : PySem.W.Frag) : Sp := fun vs H Q _ => ∃ (a : Addr) (ns : List Int) (k : Nat), vs = [.ref a, .int (k : Int)] ∧ SqL K H a (ns.map V.int) ∧ ns.length ≤ 63 ∧
  ∀ (H' : Hp) (b : Addr) (t : Int × Int), Same H H' → H b = none → H' b = some (bx t) → Q (.ref b) H'
section
variable {P : Program} {w : World} {K : PySem.W.Frag} {mg : Str → Option Value} {base : Heap} {f : Addr} {fd : FuncData} {a : Ad} {C CM : Addr}
theorem sc_law_take : FnScope ["box", "many", "digit", "raw"] ["box", "many"] (defScope s_law_take) := ⟨rfl, rfl, rfl, by decide +kernel, rfl, by decide +kernel, by decide +kernel⟩
theorem ok_take (F : FnP K "_law_take" s_law_take f fd) (T : Mg mg) : FnOk P w K mg base CX0 1 f fd ["box", "many"] spTake := by
  refine F.ok sc_law_take (fun vs H Q E h => ?_) (fun cdv A outer s H vs Q E hr h => ?_)
  · obtain ⟨b, t, many, rfl, _⟩ := h
    rfl
  · obtain ⟨b, ⟨x, y⟩, many, rfl, hb, h0, h1, k⟩ := h
    refine ⟨_, PSs.nox (pss_cons (ps_if (pt_cmpR op_gt (pe_ix ix_list (pv 0) pe_int (fun _ _ => rfl)) pe_int (nomark _))
  (pss_cons (ps_set (i := 2) sc_law_take.nd rfl (by first | exact Or.inl rfl | exact Or.inr rfl) (pe_op op_mod (pe_callTy call_int1 (by rfl) T.z_int (by decide +kernel) (pa_cons (pe_ix ix_list (pv 0) pe_int (fun _ _ => rfl)) pa_nil)) (pv 1)))
  (pss_cons (ps_asg (pe_op op_fdivN (pe_ix ix_list (pv 0) pe_int (fun _ _ => rfl)) (pv 1)) (pg_sub (pv 0) pe_int set_list))
  (pss_one (ps_ret (pv 2)))))
  pss_nil)
  (pss_cons (ps_set (i := 3) sc_law_take.nd rfl (by first | exact Or.inl rfl | exact Or.inr rfl) (pe_op op_mod (pe_callTy call_int1 (by rfl) T.z_int (by decide +kernel) (pa_cons (pe_op op_add (pe_op op_mul (pe_ix ix_list (pv 0) pe_int (fun _ _ => rfl)) pe_int) pe_int) pa_nil)) pe_int))
  (pss_cons (ps_asg (pe_op op_add (pe_op op_mod (pe_callTy call_int1 (by rfl) T.z_int (by decide +kernel) (pa_cons (pe_op op_add (pe_op op_mul (pv 3) pe_int) pe_int) pa_nil)) pe_int) pe_int) (pg_sub (pv 0) pe_int set_list))
  (pss_one (ps_ret (pe_op op_mod (pe_callTy call_int1 (by rfl) T.z_int (by decide +kernel) (pa_cons (pe_op op_fdiv (pe_op op_add (pe_op op_mul (pv 3) pe_int) (pe_ix ix_list (pv 0) pe_int (fun _ _ => rfl))) pe_int) pa_nil)) (pv 1))))))), ?_⟩
    refine ⟨_, rfl, b, _, 0, _, rfl, rfl, SqL.of hb, rfl, _, _, rfl, rfl, _, rfl, ?_⟩
    refine ite2 (fun hx => ?_) (fun hx => ?_)
    · refine ⟨_, rfl, b, _, 0, _, rfl, rfl, SqL.of hb, rfl, .inl ⟨_, rfl, _, rfl, _, _, rfl, rfl, h0, ?_⟩⟩
      refine ⟨_, rfl, b, _, 0, _, rfl, rfl, SqL.of hb, rfl, _, rfl, _, _, rfl, rfl, ⟨by omega, by omega⟩, ?_⟩
      refine ⟨_, rfl, b, _, 0, 0, rfl, rfl, hb, rfl, ?_⟩
      exact ⟨_, rfl, k _ _ (Int.emod_nonneg _ (by omega)) (Int.emod_lt_of_pos _ h0) (Mv.upd (x.fdiv many, y))⟩
    · refine ⟨_, rfl, b, _, 1, _, rfl, rfl, SqL.of hb, rfl, _, _, rfl, rfl, .inr ⟨by decide, by decide⟩, _, _, rfl, rfl, .inl ⟨_, rfl, _, _, rfl, rfl, (by show (0 : Int) < 2147483647; decide), ?_⟩⟩
      refine ⟨_, rfl, _, _, rfl, rfl, .inr ⟨by decide, by decide⟩, _, _, rfl, rfl, .inl ⟨_, rfl, _, _, rfl, rfl, (by show (0 : Int) < 2147483399; decide), _, _, rfl, rfl, ?_⟩⟩
      refine ⟨_, rfl, b, _, 1, 1, rfl, rfl, hb, rfl, ?_⟩
      refine ⟨_, rfl, _, _, rfl, rfl, .inr ⟨by decide, by decide⟩, ?_⟩
      refine ⟨_, rfl, b, _, 1, _, rfl, rfl, SqL.of upd_same, rfl, _, _, rfl, rfl, _, _, rfl, rfl, ⟨by decide, by decide⟩, .inl ⟨_, rfl, _, rfl, _, _, rfl, rfl, h0, ?_⟩⟩
      exact k _ _ (Int.emod_nonneg _ (by omega)) (Int.emod_lt_of_pos _ h0) (Mv.upd (x, ((y * 39373 + 331) % 2147483647 * 40692 + 37) % 2147483399 + 1))
theorem sc_law_pick : FnScope ["box", "some"] ["box", "some"] (defScope s_law_pick) := ⟨rfl, rfl, rfl, by decide +kernel, rfl, by decide +kernel, by decide +kernel⟩
theorem ok_pick (F : FnP K "_law_pick" s_law_pick f fd) (T : Mg mg) (c__law_take : Cal P w K mg base CX0 1 "_law_take" ["box", "many"] spTake) : FnOk P w K mg base CX0 2 f fd ["box", "some"] (spPick K) := by
  refine F.ok sc_law_pick (fun vs H Q E h => ?_) (fun cdv A outer s H vs Q E hr h => ?_)
  · obtain ⟨b, a, t, xs, rfl, _⟩ := h
    rfl
  · obtain ⟨b, a, t, xs, rfl, hb, ne, hs, h0, h1, k⟩ := h
    refine ⟨_, PSs.nox (pss_one (ps_ret (pe_ix ix_list (pv 1) (pe_callC c__law_take hr pass0 (pa_cons (pv 0) (pa_cons (pe_callB call_len_seq (by rfl) T.z_len PySem.boot_len (pa_cons (pv 1) pa_nil)) pa_nil))) (fun _ _ => rfl)))), ?_⟩
    refine ⟨_, rfl, _, rfl, _, rfl, a, xs, rfl, .inl hs, b, t, _, rfl, hb, by omega, by omega, fun r H' r0 r1 m => ?_⟩
    obtain ⟨i, rfl⟩ : ∃ i : Nat, r = (i : Int) := ⟨r.toNat, by omega⟩
    have hx : xs[i]? = some xs[i] := List.getElem?_eq_getElem (by omega)
    exact ⟨a, xs, _, _, rfl, rfl, m.sqL ne hs, atI_nat hx, k _ H' (List.mem_of_getElem? hx) m⟩
theorem sc_law_box : FnScope ["script", "k", "cell", "great"] ["script", "k"] (defScope s_law_box) := ⟨rfl, rfl, rfl, by decide +kernel, rfl, by decide +kernel, by decide +kernel⟩
theorem ok_box (F : FnP K "_law_box" s_law_box f fd) (T : Mg mg) : FnOk P w K mg base CX0 1 f fd ["script", "k"] (spBox K) := by
  refine F.ok sc_law_box (fun vs H Q E h => ?_) (fun cdv A outer s H vs Q E hr h => ?_)
  · obtain ⟨a, ns, kk, rfl, _⟩ := h
    rfl
  · obtain ⟨a, ns, kk, rfl, hs, hl, k⟩ := h
    refine ⟨_, PSs.nox (pss_cons (ps_set (i := 2) sc_law_box.nd rfl (by first | exact Or.inl rfl | exact Or.inr rfl) (pe_op op_add (pe_op op_mul pe_int (pv 1)) pe_int))
  (pss_cons (ps_mid (ps_if (pt_cmpR op_lt (pv 1) (pe_callB call_len_seq (by rfl) T.z_len PySem.boot_len (pa_cons (pv 0) pa_nil)) (nomark _))
  (pss_one (ps_set (i := 2) sc_law_box.nd rfl (by first | exact Or.inl rfl | exact Or.inr rfl) (pe_callB call_abs (by rfl) T.z_abs (by decide +kernel) (pa_cons (pe_callTy call_int1 (by rfl) T.z_int (by decide +kernel) (pa_cons (pe_ix ix_list (pv 0) (pv 1) (fun _ _ => rfl)) pa_nil)) pa_nil))))
  (pss_one (ps_if (pt_cmpR op_gt (pe_callB call_len_seq (by rfl) T.z_len PySem.boot_len (pa_cons (pv 0) pa_nil)) pe_int (nomark _))
  (pss_one (ps_set (i := 2) sc_law_box.nd rfl (by first | exact Or.inl rfl | exact Or.inr rfl) (pe_op op_add (pv 2) (pe_op op_mul (pe_op op_mod (pe_callTy call_int1 (by rfl) T.z_int (by decide +kernel) (pa_cons (pe_callB call_abs (by rfl) T.z_abs (by decide +kernel) (pa_cons (pe_callTy call_int1 (by rfl) T.z_int (by decide +kernel) (pa_cons (pe_ix ix_list (pv 0) (pe_op op_mod (pe_callTy call_int1 (by rfl) T.z_int (by decide +kernel) (pa_cons (pv 1) pa_nil)) (pe_callB call_len_seq (by rfl) T.z_len PySem.boot_len (pa_cons (pv 0) pa_nil))) (fun _ _ => rfl)) pa_nil)) pa_nil)) pa_nil)) pe_int) pe_int))))
  pss_nil))))
  (pss_cons (ps_mid (ps_set (i := 3) sc_law_box.nd rfl (by first | exact Or.inl rfl | exact Or.inr rfl) (pe_ifExp (pt_cmpR op_ge (pv 2) (pe_op op_pow pe_int pe_int) (nomark _)) (pv 2) pe_int)))
  (pss_one (ps_ret (pe_lst (pa_cons (pv 3) (pa_cons (pe_op op_add (pe_op op_mod (pe_callTy call_int1 (by rfl) T.z_int (by decide +kernel) (pa_cons (pe_op op_add (pe_op op_mul (pe_op op_mod (pe_callTy call_int1 (by rfl) T.z_int (by decide +kernel) (pa_cons (pv 2) pa_nil)) pe_int) pe_int) (pe_op op_mul pe_int (pv 1))) pa_nil)) pe_int) pe_int) pa_nil)))))))), ?_⟩
    refine ⟨_, rfl, _, _, rfl, rfl, .inl ⟨by decide, by decide⟩, _, _, rfl, rfl, ?_⟩
    refine ⟨fun σ' H' => ∃ c : Int, σ' = [some (.ref a), some (.int (kk : Nat)), some (.int c), none] ∧ H' = H, ?_, ?_⟩
    · refine ⟨_, rfl, _, rfl, a, _, rfl, .inl hs, _, _, rfl, rfl, _, rfl, ?_⟩
      rw [List.length_map]
      refine ite2 (fun h1 => ?_) (fun h1 => ?_)
      · have hk : kk < ns.length := by simpa using h1
        have hx : (ns.map V.int)[kk]? = some (V.int ns[kk]) := by rw [List.getElem?_map, List.getElem?_eq_getElem hk]; rfl
        exact ⟨_, rfl, _, rfl, a, _, _, _, rfl, rfl, hs, atI_nat hx, .inl ⟨_, rfl, _, rfl, _, rfl, rfl⟩⟩
      · refine ⟨_, rfl, a, _, rfl, .inl hs, _, _, rfl, rfl, _, rfl, ?_⟩
        rw [List.length_map]
        refine ite2 (fun h2 => ?_) (fun h2 => ?_)
        · have hk : 0 < ns.length := by simpa using h2
          have hm : (kk : Int) % (ns.length : Int) = ((kk % ns.length : Nat) : Int) := rfl
          have lt : kk % ns.length < ns.length := Nat.mod_lt _ hk
          have hx : (ns.map V.int)[kk % ns.length]? = some (V.int ns[kk % ns.length]) := by rw [List.getElem?_map, List.getElem?_eq_getElem lt]; rfl
          have hat : atI (ns.map V.int) ((kk : Int) % (((ns.map V.int).length : Nat) : Int)) = some (V.int ns[kk % ns.length]) := by
            rw [List.length_map, hm]
            exact atI_nat hx
          refine ⟨_, rfl, _, rfl, _, rfl, .inl ⟨_, rfl, _, rfl, a, _, rfl, .inl hs, _, _, rfl, rfl, (by rw [List.length_map]; omega), ?_⟩⟩
          exact ⟨a, _, _, _, rfl, rfl, hs, hat, .inl ⟨_, rfl, _, rfl, .inl ⟨_, rfl, _, _, rfl, rfl, (by show (0 : Int) < 2147483563; decide), _, _, rfl, rfl, .inr ⟨by decide, by decide⟩, _, _, rfl, rfl, _, rfl, rfl⟩⟩⟩
        · exact ⟨_, rfl, rfl⟩
    rintro σ' H' ⟨c, rfl, rfl⟩
    refine ⟨fun σ' H2 => ∃ g : Int, σ' = [some (.ref a), some (.int (kk : Nat)), some (.int c), some (.int g)] ∧ H2 = H', ?_, ?_⟩
    · refine ⟨_, rfl, _, _, rfl, rfl, ⟨by decide, by decide, by decide⟩, _, _, rfl, rfl, _, rfl, ite2 (fun _ => ?_) (fun _ => ?_)⟩
      · exact ⟨_, rfl, _, rfl, rfl⟩
      · exact ⟨_, rfl, rfl⟩
    rintro σ' H2 ⟨g, rfl, rfl⟩
    refine ⟨_, rfl, _, rfl, .inl ⟨_, rfl, _, _, rfl, rfl, (by show (0 : Int) < 2147483563; decide), _, _, rfl, rfl, .inr ⟨by decide, by decide⟩, ?_⟩⟩
    refine ⟨_, rfl, _, _, rfl, rfl, .inl ⟨by decide, by decide⟩, _, _, rfl, rfl, .inl ⟨_, rfl, _, _, rfl, rfl, (by show (0 : Int) < 2147483563; decide), _, _, rfl, rfl, ?_⟩⟩
    exact ⟨(by show 2 ≤ sizeLine; decide), fun p hp => k _ p (_, _) (same_new hp) hp upd_same⟩
end
end K5
/-! zip of three lists of one length -/
namespace Kx
open L2 PySem PySem.Spec PyProof.Rows
theorem ad {a b : Nat} (h : a ≠ b) : (show Addr from a) ≠ b := h
abbrev Trip (h : Heap) (T : Addr) (a b c : Value) : Prop := h.get? T = some { cls := .type "tuple", data := .seq #[a, b, c] }
/-- the zip that is made at n: three list iterators, their tuple, the handed tuple, the zip -/
structure Z3 (n l1 l2 l3 k : Nat) (f0 : Value) (h : Heap) : Prop where
  z : IsZip h (n + 5) (n + 3) (n + 4) f0
  t : Trip h (n + 3) (.ref n) (.ref (n + 1)) (.ref (n + 2))
  o : ∃ a b c, Trip h (n + 4) a b c
  a1 : h.IsListIter n l1 k
  a2 : h.IsListIter (n + 1) l2 k
  a3 : h.IsListIter (n + 2) l3 k
/-- what is laid elsewhere stays -/
def But3 (n : Nat) (h h' : Heap) : Prop := ∀ c o, c ≠ n → c ≠ n + 1 → c ≠ n + 2 → c ≠ n + 4 → c ≠ n + 5 → h.get? c = some o → h'.get? c = some o
section
variable {prog : Program} {w : World} {A : Around} {E : Value → Shared → Prop} {s : Shared} {n l1 l2 l3 k : Nat} {xs ys zs : Array Value} {x y u : Value}
theorem upd_trip {T : Addr} {a b c v : Value} {j : Nat} {Q : Unit → Shared → Prop} (hT : Trip s.heap T a b c)
    (q : ∀ h', h'.get? T = some { cls := .type "tuple", data := .seq ((#[a, b, c] : Array Value).setIfInBounds j v) } → Heap.SameBut T s.heap h' → Q () { s with heap := h' }) : wpAny (model prog w) A (updateSeq T (·.setIfInBounds j v)) Q E s := by
  refine wpAny_updateSeq hT rfl (q _ ?_ (Heap.SameBut.update ..))
  rw [Heap.get?_update_self _ hT rfl]
  simp [Obj.mapSeq]
theorem zip3_item {Q : Value → Shared → Prop} (Z : Z3 n l1 l2 l3 k .none s.heap) (b1 : l1 < n) (b2 : l2 < n) (b3 : l3 < n) (hl1 : s.heap.IsList l1 xs) (hl2 : s.heap.IsList l2 ys) (hl3 : s.heap.IsList l3 zs) (hx : xs[k]? = some x) (hy : ys[k]? = some y) (hu : zs[k]? = some u)
    (q : ∀ h', Z3 n l1 l2 l3 (k + 1) (rawInt s.heap.objs.size) h' → Trip h' s.heap.objs.size x y u → But3 n s.heap h' → Q (.ref s.heap.objs.size) { s with heap := h' }) :
    wpAny (model prog w) A (Builtin.«zip.__next__» ⟨[.ref (n + 5)], []⟩) (fun fin s' => ∃ v, fin = .done (.ret v) ∧ Q v s') E s := by
  obtain ⟨hz, ht, ⟨a, b, c, ho⟩, h1, h2, h3⟩ := Z
  show wpAny _ _ (field (.ref (n + 5)) 2 >>= _) _ _ _
  refine wpAny_bind (wpAny_field hz rfl (x := Value.bool false) rfl ?_)
  show wpAny _ _ (field (.ref (n + 5)) 3 >>= _) _ _ _
  refine wpAny_bind (wpAny_field hz rfl (x := Value.ref (n + 3)) rfl ?_)
  refine wpAny_bind (wpAny_seqItems ht rfl ?_)
  show wpAny _ _ (Builtin.SmallTypes.ownedTupleIsFree (.ref (n + 5)) >>= _) _ _ _
  refine wpAny_bind ?_
  unfold Builtin.SmallTypes.ownedTupleIsFree
  refine wpAny_bind (wpAny_field hz rfl (x := Value.none) rfl (wpAny_pure ?_))
  simp only [if_true]
  refine wpAny_bind (wpAny_rule ?_)
  refine wpAny_bind (wpAny_field hz rfl (x := Value.ref (n + 4)) rfl ?_)
  refine wpAny_bind (wpAny_setField_rec hz (by simp) fun g1 hz1 d1 => ?_)
  replace hz1 : IsZip g1 (n + 5) (n + 3) (n + 4) .ellipsis := hz1
  refine wpAny_bind ?_
  simp only [List.zipIdx_cons, List.zipIdx_nil, List.forIn_cons, List.forIn_nil]
  -- the first
  refine wpAny_bind (wpAny_bind (wpAny_onRaise ?_))
  show wpAny _ _ (Builtin.SmallTypes.nextOf (.ref n) >>= _) _ _ _
  refine wpAny_bind (wpAny_nextOf_list_item (h1.extBut d1.extBut (ad (by omega))) (hl1.extBut d1.extBut (ad (by omega))) hx fun g2 e2 d2 => wpAny_pure ?_)
  have ho2 : Trip g2 (n + 4) a b c := d2.extBut _ _ (ad (by omega)) (d1.extBut _ _ (ad (by omega)) ho)
  refine wpAny_bind (wpAny_seqItems ho2 rfl ?_)
  refine wpAny_bind (upd_trip ho2 fun g3 ho3 d3 => ?_)
  replace ho3 : Trip g3 (n + 4) x b c := ho3
  refine wpAny_bind (wpAny_letGo (wpAny_pure ?_))
  -- the second
  refine wpAny_bind (wpAny_bind (wpAny_onRaise ?_))
  show wpAny _ _ (Builtin.SmallTypes.nextOf (.ref (n + 1)) >>= _) _ _ _
  refine wpAny_bind (wpAny_nextOf_list_item (((h2.extBut d1.extBut (ad (by omega))).extBut d2.extBut (ad (by omega))).extBut d3.extBut (ad (by omega))) (((hl2.extBut d1.extBut (ad (by omega))).extBut d2.extBut (ad (by omega))).extBut d3.extBut (ad (by omega))) hy fun g4 e4 d4 => wpAny_pure ?_)
  have ho4 : Trip g4 (n + 4) x b c := d4.extBut _ _ (ad (by omega)) ho3
  refine wpAny_bind (wpAny_seqItems ho4 rfl ?_)
  refine wpAny_bind (upd_trip ho4 fun g5 ho5 d5 => ?_)
  replace ho5 : Trip g5 (n + 4) x y c := ho5
  refine wpAny_bind (wpAny_letGo (wpAny_pure ?_))
  -- the third
  refine wpAny_bind (wpAny_bind (wpAny_onRaise ?_))
  show wpAny _ _ (Builtin.SmallTypes.nextOf (.ref (n + 2)) >>= _) _ _ _
  refine wpAny_bind (wpAny_nextOf_list_item (((((h3.extBut d1.extBut (ad (by omega))).extBut d2.extBut (ad (by omega))).extBut d3.extBut (ad (by omega))).extBut d4.extBut (ad (by omega))).extBut d5.extBut (ad (by omega)))
    (((((hl3.extBut d1.extBut (ad (by omega))).extBut d2.extBut (ad (by omega))).extBut d3.extBut (ad (by omega))).extBut d4.extBut (ad (by omega))).extBut d5.extBut (ad (by omega))) hu fun g6 e6 d6 => wpAny_pure ?_)
  have ho6 : Trip g6 (n + 4) x y c := d6.extBut _ _ (ad (by omega)) ho5
  refine wpAny_bind (wpAny_seqItems ho6 rfl ?_)
  refine wpAny_bind (upd_trip ho6 fun g7 ho7 d7 => ?_)
  replace ho7 : Trip g7 (n + 4) x y u := ho7
  refine wpAny_bind (wpAny_letGo (wpAny_pure (wpAny_pure ?_)))
  refine wpAny_bind (wpAny_seqItems ho7 rfl ?_)
  refine wpAny_bind (wpAny_newTuple ?_)
  have sz : g7.objs.size = s.heap.objs.size := by rw [d7.1, d6.1, d5.1, d4.1, d3.1, d2.1, d1.1]
  have keep7 : ∀ c' o', c' ≠ n → c' ≠ n + 1 → c' ≠ n + 2 → c' ≠ n + 4 → c' ≠ n + 5 → s.heap.get? c' = some o' → g7.get? c' = some o' := fun c' o' n0 n1 n2 n4 n5 e =>
    d7.extBut _ _ n4 (d6.extBut _ _ n2 (d5.extBut _ _ n4 (d4.extBut _ _ n1 (d3.extBut _ _ n4 (d2.extBut _ _ n0 (d1.extBut _ _ n5 e))))))
  have hz7 : IsZip g7 (n + 5) (n + 3) (n + 4) .ellipsis := d7.extBut _ _ (ad (by omega)) (d6.extBut _ _ (ad (by omega)) (d5.extBut _ _ (ad (by omega)) (d4.extBut _ _ (ad (by omega)) (d3.extBut _ _ (ad (by omega)) (d2.extBut _ _ (ad (by omega)) hz1)))))
  have i1 : g7.IsListIter n l1 (k + 1) := ((((e2.extBut d3.extBut (ad (by omega))).extBut d4.extBut (ad (by omega))).extBut d5.extBut (ad (by omega))).extBut d6.extBut (ad (by omega))).extBut d7.extBut (ad (by omega))
  have i2 : g7.IsListIter (n + 1) l2 (k + 1) := ((e4.extBut d5.extBut (ad (by omega))).extBut d6.extBut (ad (by omega))).extBut d7.extBut (ad (by omega))
  have i3 : g7.IsListIter (n + 2) l3 (k + 1) := e6.extBut d7.extBut (ad (by omega))
  have zl : n + 5 < g7.objs.size := Heap.lt_size hz7
  show wpAny _ _ (Builtin.SmallTypes.ownedTupleHandOut (.ref (n + 5)) (.ref g7.objs.size) >>= _) _ _ _
  refine wpAny_bind ?_
  unfold Builtin.SmallTypes.ownedTupleHandOut
  have hz8 : IsZip (g7.push { cls := .type "tuple", data := .seq #[x, y, u] }) (n + 5) (n + 3) (n + 4) .ellipsis := Heap.get?_push_of_some _ hz7
  refine wpAny_bind (wpAny_setField_rec hz8 (by simp) fun g9 hz9 d9 => ?_)
  replace hz9 : IsZip g9 (n + 5) (n + 3) (n + 4) (rawInt g7.objs.size) := hz9
  refine wpAny_setField_rec hz9 (by simp) fun gA hzA dA => ?_
  replace hzA : IsZip gA (n + 5) (n + 3) (n + 4) (rawInt g7.objs.size) := hzA
  have up : ∀ c' o', c' ≠ n + 5 → g7.get? c' = some o' → gA.get? c' = some o' := fun c' o' n5 e => dA.extBut _ _ n5 (d9.extBut _ _ n5 (Heap.get?_push_of_some _ e))
  have hT : Trip gA g7.objs.size x y u := dA.extBut _ _ (Nat.ne_of_gt zl) (d9.extBut _ _ (Nat.ne_of_gt zl) (Heap.get?_push_size _ rfl))
  rw [sz] at hzA hT
  refine wpAny_pure ⟨_, rfl, ?_⟩
  show Q (.ref g7.objs.size) _
  rw [sz]
  exact q gA ⟨hzA, up _ _ (ad (by omega)) (keep7 _ _ (ad (by omega)) (ad (by omega)) (ad (by omega)) (ad (by omega)) (ad (by omega)) ht), ⟨_, _, _, up _ _ (ad (by omega)) ho7⟩, i1.at fun o' e => up _ o' (ad (by omega)) e, i2.at fun o' e => up _ o' (ad (by omega)) e, i3.at fun o' e => up _ o' (ad (by omega)) e⟩ hT
    fun c' o' n0 n1 n2 n4 n5 e => up c' o' n5 (keep7 c' o' n0 n1 n2 n4 n5 e)
theorem zip3_end {Q : Fin → Shared → Prop} (hh : A.handled = none) (Z : Z3 n l1 l2 l3 k .none s.heap) (b1 : l1 < n) (hl1 : s.heap.IsList l1 xs) (hx : xs[k]? = none)
    (hE : ∀ h' e, But3 n s.heap h' → (∃ o, h'.get? e = some o ∧ o.cls = .type "StopIteration") → E (.ref e) { s with heap := h' }) :
    wpAny (model prog w) A (Builtin.«zip.__next__» ⟨[.ref (n + 5)], []⟩) Q E s := by
  obtain ⟨hz, ht, ⟨a, b, c, ho⟩, h1, h2, h3⟩ := Z
  show wpAny _ _ (field (.ref (n + 5)) 2 >>= _) _ _ _
  refine wpAny_bind (wpAny_field hz rfl (x := Value.bool false) rfl ?_)
  show wpAny _ _ (field (.ref (n + 5)) 3 >>= _) _ _ _
  refine wpAny_bind (wpAny_field hz rfl (x := Value.ref (n + 3)) rfl ?_)
  refine wpAny_bind (wpAny_seqItems ht rfl ?_)
  show wpAny _ _ (Builtin.SmallTypes.ownedTupleIsFree (.ref (n + 5)) >>= _) _ _ _
  refine wpAny_bind ?_
  unfold Builtin.SmallTypes.ownedTupleIsFree
  refine wpAny_bind (wpAny_field hz rfl (x := Value.none) rfl (wpAny_pure ?_))
  simp only [if_true]
  refine wpAny_bind (wpAny_rule ?_)
  refine wpAny_bind (wpAny_field hz rfl (x := Value.ref (n + 4)) rfl ?_)
  refine wpAny_bind (wpAny_setField_rec hz (by simp) fun g1 hz1 d1 => ?_)
  replace hz1 : IsZip g1 (n + 5) (n + 3) (n + 4) .ellipsis := hz1
  refine wpAny_bind ?_
  simp only [List.zipIdx_cons, List.zipIdx_nil, List.forIn_cons, List.forIn_nil]
  refine wpAny_bind (wpAny_bind (wpAny_onRaise ?_))
  show wpAny _ _ (Builtin.SmallTypes.nextOf (.ref n) >>= _) _ _ _
  refine wpAny_bind (wpAny_nextOf_list_end hh (h1.extBut d1.extBut (ad (by omega))) (hl1.extBut d1.extBut (ad (by omega))) hx fun g2 e d2 he => ?_)
  obtain ⟨oe, hoe, hce⟩ := he
  have hz2 : IsZip g2 (n + 5) (n + 3) (n + 4) .ellipsis := d2 _ _ (ad (by omega)) hz1
  have ez : e ≠ n + 5 := fun z => by
    subst z
    rw [hz2] at hoe
    cases hoe
    simp at hce
  refine wpAny_setField_rec hz2 (by simp) fun g3 _ d3 => hE g3 e (fun c' o' n0 _ _ _ n5 q => d3.extBut _ _ n5 (d2 _ _ n0 (d1.extBut _ _ n5 q))) ⟨oe, d3.extBut _ _ ez hoe, hce⟩
theorem next3_item {Q : Option Value → Shared → Prop} (Z : Z3 n l1 l2 l3 k .none s.heap) (b1 : l1 < n) (b2 : l2 < n) (b3 : l3 < n) (hl1 : s.heap.IsList l1 xs) (hl2 : s.heap.IsList l2 ys) (hl3 : s.heap.IsList l3 zs) (hx : xs[k]? = some x) (hy : ys[k]? = some y) (hu : zs[k]? = some u)
    (q : ∀ h', Z3 n l1 l2 l3 (k + 1) (rawInt s.heap.objs.size) h' → Trip h' s.heap.objs.size x y u → But3 n s.heap h' → Q (some (.ref s.heap.objs.size)) { s with heap := h' }) : wpAny (model prog w) A (pyNext (.ref (n + 5))) Q E s := by
  have hT : s.TypeIs (.ref (n + 5)) "zip" := ⟨_, Z.z, rfl⟩
  unfold pyNext
  exact wpAny_bind (wpAny_attempt (wpAny_callSpecial?_slot (name := Str.ofString "__next__") hT F.slot_zip_next (wpAny_call_entry F.slot_zip_next hT F.entry_zip_next
    (zip3_item Z b1 b2 b3 hl1 hl2 hl3 hx hy hu fun h' c1 c2 c3 => wpAny_pure (q h' c1 c2 c3)) (F.args_zip_next_1 _))))
theorem next3_end {Q : Option Value → Shared → Prop} (hh : A.handled = none) (Z : Z3 n l1 l2 l3 k .none s.heap) (b1 : l1 < n) (hl1 : s.heap.IsList l1 xs) (hx : xs[k]? = none) (q : ∀ h', But3 n s.heap h' → Q none { s with heap := h' }) :
    wpAny (model prog w) A (pyNext (.ref (n + 5))) Q E s := by
  have hT : s.TypeIs (.ref (n + 5)) "zip" := ⟨_, Z.z, rfl⟩
  unfold pyNext
  refine wpAny_bind (wpAny_attempt (wpAny_callSpecial?_slot (name := Str.ofString "__next__") hT F.slot_zip_next (wpAny_call_entry F.slot_zip_next hT F.entry_zip_next (zip3_end hh Z b1 hl1 hx fun h' e hk he => ?_) (F.args_zip_next_1 _))))
  obtain ⟨o, ho, hc⟩ := he
  refine wpAny_bind (wpAny_isInstance (T := "StopIteration") (b := true) ⟨o, ho, hc⟩ isSubtype_stop ?_)
  exact wpAny_pure (q _ hk)
end
/-- how the zip is made -/
abbrev liOf (l : Addr) : Obj := { cls := .type "list_iterator", data := .fields #[.ref l, .int 0 0] }
abbrev m1 (h : Heap) (l1 : Addr) : Heap := h.push (liOf l1)
abbrev m2 (h : Heap) (l1 l2 : Addr) : Heap := (m1 h l1).push (liOf l2)
abbrev m3 (h : Heap) (l1 l2 l3 : Addr) : Heap := (m2 h l1 l2).push (liOf l3)
abbrev m4 (h : Heap) (l1 l2 l3 : Addr) : Heap := (m3 h l1 l2 l3).push { cls := .type "tuple", data := .seq #[.ref h.objs.size, .ref (m1 h l1).objs.size, .ref (m2 h l1 l2).objs.size] }
abbrev m5 (h : Heap) (l1 l2 l3 : Addr) : Heap := (m4 h l1 l2 l3).push { cls := .type "tuple", data := .seq #[.none, .none, .none] }
abbrev m6 (h : Heap) (l1 l2 l3 : Addr) : Heap := (m5 h l1 l2 l3).push { cls := .type "zip", data := .fields #[.none, .bool false, .bool false, .ref (m3 h l1 l2 l3).objs.size, .ref (m4 h l1 l2 l3).objs.size] }
theorem meets_zip3 (l1 l2 l3 : Addr) (xs ys zs : Array Value) :
    Meets (Builtin.«zip.__new__» ⟨[.type "zip", .ref l1, .ref l2, .ref l3], []⟩) (fun _ R s => s.heap.IsList l1 xs ∧ s.heap.IsList l2 ys ∧ s.heap.IsList l3 zs ∧ R (.ok (.ret (.ref (m5 s.heap l1 l2 l3).objs.size))) { s with heap := m6 s.heap l1 l2 l3 }) :=
  .of_wp fun prog w A R s h => by
    obtain ⟨hp, g, d, tk, os⟩ := s
    obtain ⟨q1, q2, q3, h⟩ := h
    have hsub := sub_zip
    have L1 : Heap.IsList (Shared.heap ⟨hp, g, d, tk, os⟩) l1 xs := q1
    have L2 : Heap.IsList (Shared.heap ⟨hp.push (liOf l1), g, d, tk, os⟩) l2 ys := Heap.IsList.push q2 _
    have L3 : Heap.IsList (Shared.heap ⟨(hp.push (liOf l1)).push (liOf l2), g, d, tk, os⟩) l3 zs := Heap.IsList.push (Heap.IsList.push q3 _) _
    wp_walk using wpAny_pyIter_list L1, wpAny_pyIter_list L2, wpAny_pyIter_list L3
    exact ⟨_, rfl, h⟩
theorem typeCall_zip3 (a b c : Value) : checkTypeCall "zip" ⟨[a, b, c], []⟩ = pure () := by kernel_rfl
theorem newCall_zip3 (a b c : Value) : checkBuiltinCall "zip.__new__" ⟨[.type "zip", a, b, c], []⟩ = pure () := by kernel_rfl
theorem args_init4 (a b c d : Value) : argsOk "object.__init__" ⟨[a, b, c, d], []⟩ := by
  unfold argsOk
  rw [signature?_of (id := "object.__init__") (n := ['_', '_', 't', 'i', 'n', 'i', '_', '_']) (o := ['t', 'c', 'e', 'j', 'b', 'o']) (by kernel_rfl) F.owner_object]
  kernel_rfl
section
variable {prog : Program} {w : World} {A : Around} {E : Value → Shared → Prop} {s : Shared}
theorem call_zip3 {l1 l2 l3 : Addr} {xs ys zs : Array Value} {Q : Value → Shared → Prop} (q1 : s.heap.IsList l1 xs) (q2 : s.heap.IsList l2 ys) (q3 : s.heap.IsList l3 zs)
    (q : ∀ h', Z3 s.heap.objs.size l1 l2 l3 0 .none h' → (∀ c o, s.heap.get? c = some o → h'.get? c = some o) → Q (.ref (s.heap.objs.size + 5)) { s with heap := h' }) :
    wpAny (model prog w) A (call (.type "zip") [.ref l1, .ref l2, .ref l3]) Q E s := by
  refine callType_new F.called_zip (by decide) (typeCall_zip3 _ _ _) (newCall_zip3 _ _ _) (fun obj => args_init4 obj _ _ _) F.entry_zip_new (meets_zip3 l1 l2 l3 xs ys zs) ⟨q1, q2, q3, ?_⟩
  have z1 : (m1 s.heap l1).objs.size = s.heap.objs.size + 1 := Heap.size_push ..
  have z2 : (m2 s.heap l1 l2).objs.size = s.heap.objs.size + 2 := by rw [Heap.size_push, z1]
  have z3 : (m3 s.heap l1 l2 l3).objs.size = s.heap.objs.size + 3 := by rw [Heap.size_push, z2]
  have z4 : (m4 s.heap l1 l2 l3).objs.size = s.heap.objs.size + 4 := by rw [Heap.size_push, z3]
  have z5 : (m5 s.heap l1 l2 l3).objs.size = s.heap.objs.size + 5 := by rw [Heap.size_push, z4]
  have p6 : (m6 s.heap l1 l2 l3).get? (m5 s.heap l1 l2 l3).objs.size = some _ := Heap.get?_push_size _ rfl
  have p5 : (m6 s.heap l1 l2 l3).get? (m4 s.heap l1 l2 l3).objs.size = some _ := Heap.get?_push_of_some _ (Heap.get?_push_size _ rfl)
  have p4 : (m6 s.heap l1 l2 l3).get? (m3 s.heap l1 l2 l3).objs.size = some _ := Heap.get?_push_of_some _ (Heap.get?_push_of_some _ (Heap.get?_push_size _ rfl))
  have p3 : (m6 s.heap l1 l2 l3).get? (m2 s.heap l1 l2).objs.size = some _ := Heap.get?_push_of_some _ (Heap.get?_push_of_some _ (Heap.get?_push_of_some _ (Heap.get?_push_size _ rfl)))
  have p2 : (m6 s.heap l1 l2 l3).get? (m1 s.heap l1).objs.size = some _ := Heap.get?_push_of_some _ (Heap.get?_push_of_some _ (Heap.get?_push_of_some _ (Heap.get?_push_of_some _ (Heap.get?_push_size _ rfl))))
  have p1 : (m6 s.heap l1 l2 l3).get? s.heap.objs.size = some _ := Heap.get?_push_of_some _ (Heap.get?_push_of_some _ (Heap.get?_push_of_some _ (Heap.get?_push_of_some _ (Heap.get?_push_of_some _ (Heap.get?_push_size _ rfl)))))
  show _ ∧ _
  rw [z3, z4, z5] at p6
  rw [z1, z2, z3] at p4
  rw [z4] at p5
  rw [z2] at p3
  rw [z1] at p2
  rw [z5]
  exact ⟨⟨_, p6, rfl⟩, q _ ⟨p6, p4, ⟨_, _, _, p5⟩, ⟨_, p1, rfl, rfl⟩, ⟨_, p2, rfl, rfl⟩, ⟨_, p3, rfl, rfl⟩⟩ fun c o e => Heap.get?_push_of_some _ (Heap.get?_push_of_some _ (Heap.get?_push_of_some _ (Heap.get?_push_of_some _ (Heap.get?_push_of_some _ (Heap.get?_push_of_some _ e)))))⟩
end
end Kx
/-! a loop over zip of three lists -/
namespace Kx
open L2 PySem PySem.Spec PyProof.Rows
/-- the three lists as they stand at each turn, the items in new tuples -/
def It3 (K : PySem.W.Frag) (a b c : Addr) : It :=
  ⟨fun i H => ∃ (xs ys zs : List V) (x y z : V), SqL K H a xs ∧ SqL K H b ys ∧ SqL K H c zs ∧ xs[i]? = some x ∧ ys[i]? = some y ∧ zs[i]? = some z,
    fun i H v H' => ∃ T x y z, v = .ref T ∧ H T = none ∧ H' = upd H T (.tup [x, y, z]) ∧ (∀ l, SqL K H a l → l[i]? = some x) ∧ (∀ l, SqL K H b l → l[i]? = some y) ∧ ∀ l, SqL K H c l → l[i]? = some z,
    fun i H => ∃ xs : List V, SqL K H a xs ∧ xs.length ≤ i⟩
def fp3 (n : Nat) : List Addr := [n + 5, n + 3, n + 4, n, n + 1, n + 2]
theorem mem3 {n c : Nat} (h : c ∈ fp3 n) : c = n + 5 ∨ c = n + 3 ∨ c = n + 4 ∨ c = n ∨ c = n + 1 ∨ c = n + 2 := by simpa [fp3] using h
theorem in3 {n c : Nat} (h : c = n + 5 ∨ c = n + 3 ∨ c = n + 4 ∨ c = n ∨ c = n + 1 ∨ c = n + 2) : c ∈ fp3 n := by simpa [fp3] using h
theorem lt3 {n c m : Nat} (h : c ∈ fp3 n) (l : n + 5 < m) : c < m := by rcases mem3 h with q | q | q | q | q | q <;> omega
theorem le3 {n c : Nat} (h : c ∈ fp3 n) : n ≤ c := by rcases mem3 h with q | q | q | q | q | q <;> omega
theorem But3.out {n : Nat} {h h' : Heap} (k : But3 n h h') {c : Addr} {o : Obj} (no : c ∉ fp3 n) (q : h.get? c = some o) : h'.get? c = some o :=
  k c o (fun e => no (in3 (.inr (.inr (.inr (.inl e)))))) (fun e => no (in3 (.inr (.inr (.inr (.inr (.inl e))))))) (fun e => no (in3 (.inr (.inr (.inr (.inr (.inr e))))))) (fun e => no (in3 (.inr (.inr (.inl e))))) (fun e => no (in3 (.inl e))) q
theorem Z3.lt {n l1 l2 l3 k : Nat} {f0 : Value} {h : Heap} (Z : Z3 n l1 l2 l3 k f0 h) : n + 5 < h.objs.size := Heap.lt_size Z.z
theorem turn_zip3 {P : Program} {w : World} {K : PySem.W.Frag} {elts : List Expr} {kk : Nat} {tpos : Pos} {n l1 l2 l3 : Nat} (b1 : l1 < n) (b2 : l2 < n) (b3 : l3 < n) :
    Turn P w K (.Tuple elts kk tpos) (It3 K l1 l2 l3) (fp3 n) (n + 5) (fun i h => Z3 n l1 l2 l3 i .none h) where
  mem := in3 (.inl rfl)
  obj := fun i h Z c hc => by
    obtain ⟨hz, ht, ⟨x, y, u, ho⟩, ⟨o1, e1, _, d1⟩, ⟨o2, e2, _, d2⟩, ⟨o3, e3, _, d3⟩⟩ := Z
    rcases mem3 hc with q | q | q | q | q | q
    · rw [q]; exact ⟨_, hz, fun v q => nomatch q⟩
    · rw [q]; exact ⟨_, ht, fun v q => nomatch q⟩
    · rw [q]; exact ⟨_, ho, fun v q => nomatch q⟩
    · rw [q]; exact ⟨o1, e1, fun v q => by rw [d1] at q; cases q⟩
    · rw [q]; exact ⟨o2, e2, fun v q => by rw [d2] at q; cases q⟩
    · rw [q]; exact ⟨o3, e3, fun v q => by rw [d3] at q; cases q⟩
  keep := fun i h h' Z k => by
    obtain ⟨hz, ht, ⟨x, y, u, ho⟩, h1, h2, h3⟩ := Z
    exact ⟨k _ (in3 (.inl rfl)) _ hz, k _ (in3 (.inr (.inl rfl))) _ ht, ⟨x, y, u, k _ (in3 (.inr (.inr (.inl rfl)))) _ ho⟩, h1.at fun o q => k _ (in3 (.inr (.inr (.inr (.inl rfl))))) o q, h2.at fun o q => k _ (in3 (.inr (.inr (.inr (.inr (.inl rfl)))))) o q,
      h3.at fun o q => k _ (in3 (.inr (.inr (.inr (.inr (.inr rfl)))))) o q⟩
  item := by
    intro X hP hw hK hc i pins s σ H E I hf Z hg
    subst hP hw hK
    obtain ⟨xs, ys, zs, x, y, z, hqx, hqy, hqz, hx, hy, hz⟩ := hg
    obtain ⟨its, rv, p, _⟩ := I.list hqx
    obtain ⟨its2, rv2, p2, _⟩ := I.list hqy
    obtain ⟨its3, rv3, p3, _⟩ := I.list hqz
    obtain ⟨u, hu, ru⟩ := rv.get hx
    obtain ⟨u2, hu2, ru2⟩ := rv2.get hy
    obtain ⟨u3, hu3, ru3⟩ := rv3.get hz
    have sl := Z.lt
    refine next3_item Z b1 b2 b3 p.isList p2.isList p3.isList (x := u) (y := u2) (u := u3) (by simpa using hu) (by simpa using hu2) (by simpa using hu3) fun h' Z' hT hk => ?_
    refine ⟨_, rfl, wpAny_letOwnedTupleGo_zip (s := { s with heap := h' }) Z'.z fun h2 z2 sb => ?_⟩
    have hT2 : h2.get? s.heap.objs.size = some { cls := .type "tuple", data := .seq #[u, u2, u3] } := (sb.2 _ (Nat.ne_of_gt sl)).trans hT
    have new : ObjOk X.prog X.w (upd H s.heap.objs.size (.tup [x, y, z])) h2 s.heap.objs.size (.tup [x, y, z]) :=
      ⟨by show 3 ≤ sizeLine; decide, [u, u2, u3], .cons ru (.cons ru2 (.cons ru3 .nil)), ⟨_, hT2, rfl, _, rfl⟩⟩
    have kp : ∀ c o, c ∉ fp3 n → s.heap.get? c = some o → h2.get? c = some o := fun c o hb q => (sb.2 c (fun e => hb (in3 (.inl e)))).trans (hk.out hb q)
    have I1 : Inv X pins σ (upd H s.heap.objs.size (.tup [x, y, z])) { s with heap := h2 } := I.turnedNew (t' := s.toks) (ch := fp3 n) kp hf (Nat.le_refl _) new
    refine ⟨.ref s.heap.objs.size, _, I1, rfl, ⟨_, x, y, z, rfl, I.hok.fresh (Nat.le_refl _), rfl, fun l hl => by rw [I.list_inj hl hqx]; exact hx, fun l hl => by rw [I.list_inj hl hqy]; exact hy, fun l hl => by rw [I.list_inj hl hqz]; exact hz⟩, ?_, fun c hcm => ?_⟩
    · obtain ⟨c1, c2, ⟨y1, y2, y3, c3⟩, c4, c5, c6⟩ := Z'
      exact ⟨z2, (sb.2 _ (ad (by omega))).trans c2, ⟨y1, y2, y3, (sb.2 _ (ad (by omega))).trans c3⟩, c4.at fun o q => (sb.2 _ (ad (by omega))).trans q, c5.at fun o q => (sb.2 _ (ad (by omega))).trans q, c6.at fun o q => (sb.2 _ (ad (by omega))).trans q⟩
    · have hlt : c < s.heap.objs.size := lt3 hcm sl
      rw [upd_ne (Nat.ne_of_lt hlt)]
      exact (hf c hcm).1
  done := by
    intro X hP hw hK hc i pins s σ H E I hf Z hg
    subst hP hw hK
    obtain ⟨xs, hqx, hend⟩ := hg
    obtain ⟨its, rv, p, _⟩ := I.list hqx
    have ln := rv.length
    have no : its.toArray[i]? = none := by
      simp
      omega
    refine next3_end (I.ok.hd hc) Z b1 p.isList no fun h' hk => ⟨rfl, ?_⟩
    exact I.turnedL (t' := s.toks) (ch := fp3 n) (fun c o hb q => hk.out hb q) hf
  self := fun A i s Q E Z q => wpAny_pyIter_zip Z.z q
def iZip3 (K : PySem.W.Frag) (ta : TA) : TI := fun σ H R => ta σ H fun vs H1 => ∃ a b c xs ys zs, vs = [.ref a, .ref b, .ref c] ∧ SqL K H1 a xs ∧ SqL K H1 b ys ∧ SqL K H1 c zs ∧ R (It3 K a b c) H1
theorem pi_zip3 {X : Cx} {e e2 e3 : Expr} {ta : TA} {p pos tpos : Pos} {elts : List Expr} {kk : Nat} (hg : Gl X "zip") (hm : X.mg "zip" = none) (ha : PA X [e, e2, e3] ta)
    (hs : starEach [e, e2, e3] X.env = (false, eval e X.env) :: starEach [e2, e3] X.env := by rfl) (hpl : (backTo pos (starEach [e2, e3] X.env)).any (·.1) = false := by rfl) :
    PI X (.Tuple elts kk tpos) (.Call (.Name "zip" p) [e, e2, e3] [] pos) (iZip3 X.K ta) := by
  refine ⟨fun pins s σ H R I h => ?_⟩
  refine Call_ (ld_blt I hg hm PyProof.Rows.boot_zip (PyProof.Rows.callWith_type1 (thn (ha.run pos pins s σ H _ I h) fun us s1 ⟨vs, H1, I1, r1, q1⟩ => ?_) hs hpl))
  obtain ⟨a, b, c, xs, ys, zs, ex, q1, q2, q3, q⟩ := q1
  subst ex
  obtain ⟨v1, us1, rfl, r, t1⟩ : ∃ v us', us = v :: us' ∧ RelV (.ref a) v ∧ Vals [.ref b, .ref c] us' := by
    cases r1 with
    | cons r t => exact ⟨_, _, rfl, r, t⟩
  clear r1
  obtain ⟨v2, us2, rfl, r', t2⟩ : ∃ v us', us1 = v :: us' ∧ RelV (.ref b) v ∧ Vals [.ref c] us' := by
    cases t1 with
    | cons r t => exact ⟨_, _, rfl, r, t⟩
  clear t1
  obtain ⟨v3, rfl, r''⟩ : ∃ v, us2 = [v] ∧ RelV (.ref c) v := by
    cases t2 with
    | cons r t =>
      cases t
      exact ⟨_, rfl, r⟩
  clear t2
  obtain rfl : v1 = .ref a := r
  obtain rfl : v2 = .ref b := r'
  obtain rfl : v3 = .ref c := r''
  · clear h
    obtain ⟨its, rv, p1, _⟩ := I1.list q1
    obtain ⟨its2, rv2, p2, _⟩ := I1.list q2
    obtain ⟨its3, rv3, p3, _⟩ := I1.list q3
    refine call_zip3 p1.isList p2.isList p3.isList fun h' Z hk => wpAny_pyIter_zip Z.z ?_
    have I2 : Inv X pins σ H1 { s1 with heap := h' } := I1.kept (t' := s1.toks) hk
    refine ⟨s1.heap.objs.size + 5, fp3 s1.heap.objs.size, _, _, H1, rfl, I2, turn_zip3 p1.lt p2.lt p3.lt, Z, fun c' hc' => ?_, q⟩
    have hle : s1.heap.objs.size ≤ c' := le3 hc'
    exact I1.fpOk hle (I1.hok.fresh hle)
/-- a loop over zip of three lists of one length -/
theorem for_zip3 {K : PySem.W.Frag} {a b c : Addr} {xs ys zs : List V} {g : TG} {tb : TS} {D : Ends} {σ : L2.St} {H : Hp} (ly : xs.length = ys.length) (lz : xs.length = zs.length) (Pv : Nat → L2.St → Hp → Prop) (h0 : Pv 0 σ H) (hq : ∀ i σ H, Pv i σ H → SqL K H a xs ∧ SqL K H b ys ∧ SqL K H c zs)
    (hs : ∀ (i : Nat) (x y z : V) (T : Addr) (σ : L2.St) (H : Hp), xs[i]? = some x → ys[i]? = some y → zs[i]? = some z → Pv i σ H → H T = none → g (.ref T) σ (upd H T (.tup [x, y, z])) fun σ2 H2 => tb { D with nx := Pv (i + 1), ct := Pv (i + 1), bk := D.nx } σ2 H2) (hd : ∀ σ H, Pv xs.length σ H → D.nx σ H) :
    ∃ W : Nat → Nat → L2.St → Hp → Prop, (∃ m, W 0 m σ H) ∧ ∀ i m σ H, W i m σ H →
      ((It3 K a b c).stop i H ∧ D.nx σ H) ∨ ((It3 K a b c).go i H ∧ ∃ N : L2.St → Hp → Prop, (∀ σ' H', N σ' H' → ∃ m', m' < m ∧ W (i + 1) m' σ' H') ∧ ∀ v H', (It3 K a b c).yld i H v H' → g v σ H' fun σ2 H2 => tb { D with nx := N, ct := N, bk := D.nx } σ2 H2) := by
  refine ⟨fun i m σ H => m = xs.length - i ∧ i ≤ xs.length ∧ Pv i σ H, ⟨xs.length, rfl, Nat.zero_le _, h0⟩, ?_⟩
  rintro i m σ H ⟨rfl, hi, pv⟩
  obtain ⟨q1, q2, q3⟩ := hq i σ H pv
  by_cases lt : i < xs.length
  · refine .inr ⟨⟨xs, ys, zs, _, _, _, q1, q2, q3, List.getElem?_eq_getElem lt, List.getElem?_eq_getElem (by omega : i < ys.length), List.getElem?_eq_getElem (by omega : i < zs.length)⟩, Pv (i + 1), fun σ' H' p' => ⟨xs.length - (i + 1), by omega, rfl, lt, p'⟩, fun v H' r => ?_⟩
    obtain ⟨T, x, y, z, rfl, hT, rfl, f1, f2, f3⟩ := r
    exact hs i x y z T σ H (f1 xs q1) (f2 ys q2) (f3 zs q3) pv hT
  · obtain rfl : i = xs.length := by omega
    exact .inl ⟨⟨xs, q1, Nat.le_refl _⟩, hd σ H pv⟩
end Kx
/-! the law's own showings -/
namespace K5
open PySem PySem.Spec PyProof.Rows L2 Kx RZ
def spLawShow (K : PySem.W.Frag) : Sp := fun vs H Q _ => ∃ (p q n : Addr) (rs es ns : List Int), vs = [.ref p, .ref q, .ref n] ∧ SqL K H p (rs.map V.int) ∧ SqL K H q (es.map V.int) ∧ SqL K H n (ns.map V.int) ∧ es.length = rs.length ∧ ns.length = rs.length ∧ rs.length ≤ 4 ∧ (∀ r ∈ rs, 0 ≤ r) ∧
  ∀ t H', Same H H' → SqT K H' t ((showNs rs es ns).map V.int) → Q (.ref t) H'
section
variable {P : Program} {w : World} {K : PySem.W.Frag} {mg : Str → Option Value} {base : Heap} {f : Addr} {fd : FuncData} {a : Ad} {C CM : Addr}
theorem sc_show : FnScope ["rounds", "rests", "numbers", "found", "turn", "rest", "number"] ["rounds", "rests", "numbers"] (defScope s_law_show) := ⟨rfl, rfl, rfl, by decide +kernel, rfl, by decide +kernel, by decide +kernel⟩
theorem ok_law_show (F : FnP K "_law_show" s_law_show f fd) (T : Mg mg) : FnOk P w K mg base CX0 1 f fd ["rounds", "rests", "numbers"] (spLawShow K) := by
  refine F.ok sc_show (fun vs H Q E h => ?_) (fun cdv A outer s H vs Q E hr h => ?_)
  · obtain ⟨p, q, n, rs, es, ns, rfl, _⟩ := h
    rfl
  · obtain ⟨p, q, n, rs, es, ns, rfl, hp, hq, hn, le, ln, l4, r0, k⟩ := h
    refine ⟨_, PSs.nox (pss_cons (ps_set (i := 3) sc_show.nd rfl (by first | exact Or.inl rfl | exact Or.inr rfl) (pe_lst pa_nil))
      (pss_cons (ps_for PassesOwn.never rfl (pi_zip3 (by rfl) T.z_zip (pa_cons (pv 0) (pa_cons (pv 1) (pa_cons (pv 2) pa_nil)))) (pg_tup rfl (pgs_cons (pg_name (i := 4) sc_show.nd rfl (by first | exact Or.inl rfl | exact Or.inr rfl)) (pgs_cons (pg_name (i := 5) sc_show.nd rfl (by first | exact Or.inl rfl | exact Or.inr rfl)) (pgs_cons (pg_name (i := 6) sc_show.nd rfl (by first | exact Or.inl rfl | exact Or.inr rfl)) pgs_nil))))
        (pss_one (ps_expr (pe_bm PySem.F.plainAttrs_list PySem.F.slot_list_append PySem.F.type_list_append mt_append (pv 3) (pa_cons (pe_ifExp (PW.pt (pw_or (pt_cmpR op_eq (pv 4) pe_int (nomark _)) (pw_or1 (pt_cmpR op_lt (pv 6) (pv 5) (nomark _))))) (pv 6) (pe_op op_add (pv 5) (pe_op op_mod (pe_callTy call_int1 (by rfl) T.z_int (by decide +kernel) (pa_cons (pe_op op_sub (pv 6) (pv 5)) pa_nil)) (pv 4)))) pa_nil)))))
      (pss_one (ps_ret (pe_callTy call_tup (by rfl) T.z_tuple (by decide +kernel) (pa_cons (pv 3) pa_nil)))))), ?_⟩
    refine ⟨(by show 0 ≤ sizeLine; decide), fun S hS => ?_⟩
    have e1 := same_new (o := HO.lst []) hS
    have u1 : upd H S (HO.lst []) S = some (.lst (((showNs rs es ns).take 0).map V.int)) := upd_same
    generalize upd H S (HO.lst []) = H1 at e1 u1 ⊢
    refine ⟨_, rfl, _, rfl, _, rfl, p, q, n, _, _, _, rfl, sqL_same e1 hp, sqL_same e1 hq, sqL_same e1 hn, for_zip3 (xs := rs.map V.int) (ys := es.map V.int) (zs := ns.map V.int) (by rw [List.length_map, List.length_map, le]) (by rw [List.length_map, List.length_map, ln])
      (fun i σ' H' => ∃ (x4 x5 x6 : Option V), σ' = [some (.ref p), some (.ref q), some (.ref n), some (.ref S), x4, x5, x6] ∧ Same H H' ∧ H' S = some (.lst (((showNs rs es ns).take i).map V.int))) ⟨_, _, _, rfl, e1, u1⟩ (fun i σ' H' ⟨_, _, _, _, e, _⟩ => ⟨sqL_same e hp, sqL_same e hq, sqL_same e hn⟩) ?_ ?_⟩
    · rintro i x y z t σ' H' hx hy hz ⟨x4, x5, x6, rfl, e, hS'⟩ ht
      have num : ∀ {xs : List Int} {v : V}, (xs.map V.int)[i]? = some v → ∃ m, xs[i]? = some m ∧ v = .int m := fun {xs v} h => by
        rw [List.getElem?_map, Option.map_eq_some_iff] at h
        obtain ⟨m, h1, h2⟩ := h
        exact ⟨m, h1, h2.symm⟩
      obtain ⟨r, hr', rfl⟩ := num hx
      obtain ⟨e', he', rfl⟩ := num hy
      obtain ⟨m, hm, rfl⟩ := num hz
      refine ⟨t, _, rfl, SqT.of upd_same, rfl, ?_⟩
      refine ⟨_, _, rfl, _, _, rfl, _, _, rfl, rfl, ?_⟩
      have e6 := e.trans (same_new (o := HO.tup [.int r, .int e', .int m]) ht)
      have hS6 := same_new (o := HO.tup [.int r, .int e', .int m]) ht _ _ hS'
      generalize upd H' t (HO.tup [.int r, .int e', .int m]) = H6 at e6 hS6 ⊢
      have lt : i < (showNs rs es ns).length := by rw [showNs_length]; exact (List.getElem?_eq_some_iff.mp hm).1
      have gr : rs.getD i 0 = r := by rw [List.getD_eq_getElem?_getD, hr']; rfl
      have ge : es.getD i 0 = e' := by rw [List.getD_eq_getElem?_getD, he']; rfl
      have sh := showNs_at (rs := rs) (es := es) hm
      rw [gr, ge] at sh
      have nS : H S = none := hS
      have fin : ∀ y : V, y = .int (shows r e' m) → ∃ l xs y', V.ref S = .ref l ∧ [y] = [y'] ∧ H6 l = some (.lst xs) ∧ xs.length < sizeLine ∧ ∃ (x4 x5 x6 : Option V), [some (V.ref p), some (V.ref q), some (V.ref n), some (V.ref S), some (V.int r), some (V.int e'), some (V.int m)] = [some (V.ref p), some (V.ref q), some (V.ref n), some (V.ref S), x4, x5, x6] ∧ Same H (upd H6 l (.lst (xs ++ [y']))) ∧ (upd H6 l (.lst (xs ++ [y']))) S = some (.lst (((showNs rs es ns).take (i + 1)).map V.int)) := fun y ey => by
        refine ⟨S, _, y, rfl, rfl, hS6, ?_, _, _, _, rfl, same_put e6 nS, ?_⟩
        · rw [List.length_map, List.length_take, showNs_length, sizeLine_eq]
          omega
        · rw [upd_same, ey, List.take_add_one, List.map_append]
          have sh2 : (showNs rs es ns)[i]? = some (shows r e' m) := by
            rw [List.getElem?_map, Option.map_eq_some_iff] at sh
            obtain ⟨w, h1, h2⟩ := sh
            cases h2
            exact h1
          rw [sh2]
          rfl
      have rr := r0 r (List.mem_of_getElem? hr')
      refine ⟨_, rfl, .inl ⟨rfl, _, SqL.of hS6⟩, ?_⟩
      refine ⟨_, rfl, rfl, _, rfl, ?_⟩
      refine ite2 (fun h => ?_) (fun h => ?_)
      · have e0 : r = 0 := by simpa using h
        exact ⟨_, rfl, fin _ (by rw [show shows r e' m = m from if_pos (.inl e0)])⟩
      · have n0 : r ≠ 0 := by simpa using h
        refine ⟨_, rfl, _, rfl, _, _, rfl, rfl, _, rfl, ?_⟩
        refine ite2 (fun h => ?_) (fun h => ?_)
        · exact ⟨_, rfl, fin _ (by rw [show shows r e' m = m from if_pos (.inr (of_decide_eq_true h))])⟩
        · refine ⟨_, rfl, _, rfl, _, rfl, _, _, rfl, rfl, .inl ⟨_, rfl, _, rfl, _, _, rfl, rfl, (by show (0 : Int) < r; omega), _, _, rfl, rfl, ?_⟩⟩
          exact fin _ (by rw [show shows r e' m = e' + (m - e') % r from if_neg fun z => z.elim n0 fun z => h (decide_eq_true z)])
    · rintro σ' H' ⟨x4, x5, x6, rfl, e, hS'⟩
      rw [List.length_map, List.take_of_length_le (by rw [showNs_length]; omega)] at hS'
      exact ⟨_, rfl, S, _, rfl, .inl (SqL.of hS'), fun r H5 e5 hr5 => k r H5 (e.trans e5) hr5⟩
end
end K5
/-! numbers of deeds by kind -/
namespace K5
open PySem PySem.Spec PyProof.Rows L2 Kx RZ
theorem call_lenK {X : Cx} {K : PySem.W.Frag} (hK : X.K = K := by rfl) : CallR X (.builtin "len") (fun xs H Q => ∃ p ys, xs = [.ref p] ∧ Sq K H p ys ∧ Q (.int (ys.length : Nat)) H) := by
  subst hK
  intro pins s σ H vs us Q I r ⟨p, ys, e, h, q⟩
  exact call_len_seq pins s σ H vs us Q I r ⟨p, ys, e, h, q⟩
theorem pi_listK {X : Cx} {K : PySem.W.Frag} {tg l : Expr} {tl : TE} (hl : PE X l tl) (hK : X.K = K := by rfl) : PI X tg l (iList K tl) := by
  subst hK
  exact pi_list hl
def spNumbers (K : PySem.W.Frag) : Sp := fun vs H Q _ => ∃ (many : Nat) (b : Addr) (row : List Int), vs = [.int (many : Nat), .ref b] ∧ many ≤ 4 ∧ SqL K H b (row.map V.int) ∧ row.length ≤ 400 ∧ ∀ l H', Same H H' → H l = none → H' l = some (.lst ((countsOf many row).map V.int)) → Q (.ref l) H'
section
variable {P : Program} {w : World} {K : PySem.W.Frag} {mg : Str → Option Value} {base : Heap} {f : Addr} {fd : FuncData} {a : Ad} {C CM : Addr}
theorem sc_numbers : FnScope ["many", "row", "kind", "deed"] ["many", "row"] (defScope s_law_numbers) := ⟨rfl, rfl, rfl, by decide +kernel, rfl, by decide +kernel, by decide +kernel⟩
theorem ok_numbers (F : FnP K "_law_numbers" s_law_numbers f fd) (T : Mg mg) : FnOk P w K mg base CX0 1 f fd ["many", "row"] (spNumbers K) := by
  refine F.ok sc_numbers (fun vs H Q E h => ?_) (fun cdv A outer s H vs Q E hr h => ?_)
  · obtain ⟨many, b, row, rfl, _⟩ := h
    rfl
  · obtain ⟨many, b, row, rfl, m4, hb, l400, k⟩ := h
    refine ⟨_, PSs.nox (pss_one (ps_ret (pe_lc (own := [("kind", 2)]) (by rfl) sc_numbers.nd (pi_range1 (by rfl) T.z_range (pa_cons (pv 0) pa_nil)) (blkOk_by (own := [("kind", 2)]) (N := ["many", "row", "kind", "deed"]) (sc := defScope s_law_numbers) (by decide +kernel))
      (fun _ _ _ _ _ => (pg_name (i := 2) sc_numbers.nd rfl (by first | exact Or.inl rfl | exact Or.inr rfl))) (fun _ _ _ _ _ => pts_nil)
      (fun _ _ _ _ _ => (pe_callB (call_lenK (K := K)) (by rfl) T.z_len PySem.boot_len (pa_cons (pe_lc (own := [("deed", 3)]) (by rfl) sc_numbers.nd (pi_listK (K := K) (pv 1)) (blkOk_by (own := [("deed", 3)]) (N := ["many", "row", "kind", "deed"]) (sc := { kind := .function, names := [(".0", .local), ("kind", .cell), ("len", .globalImplicit), ("row", .cell)], isGenerator := false, isCoroutine := false }) (by decide +kernel))
        (fun _ _ _ _ _ => (pg_name (i := 3) sc_numbers.nd rfl (by first | exact Or.inl rfl | exact Or.inr rfl))) (fun _ _ _ _ _ => (pts_one (pt_cmpR op_eq (pv 3) (pv 2) (nomark _)))) (fun _ _ _ _ _ => (pv 3))) pa_nil)))))), ?_⟩
    refine ⟨_, rfl, many, rfl, by omega, by omega, fun D hD => ?_⟩
    refine lc_range (lo := 0) (n := many) (Part H D ((countsOf many row).map V.int)) (Part.zero hD) ?_ ?_
    · intro i H2 hi pt
      have i0 : (0 : Int) + (i : Int) = (i : Int) := Int.zero_add _
      rw [i0]
      refine ⟨rfl, yes ((if_pos rfl).mpr ?_)⟩
      refine ⟨_, rfl, b, rfl, ⟨_, sqL_same pt.2 hb⟩, fun D2 hD2 => ?_⟩
      refine lc_list (xs := row.map V.int) (fun j H' => Same H2 H' ∧ H' D2 = some (.lst (((row.take j).filter (· == (i : Int))).map V.int))) ⟨same_new hD2, upd_same⟩ (fun j H' _ z => sqL_same z.1 (sqL_same pt.2 hb)) ?_ ?_
      · rintro j y H4 hy ⟨e4, h4⟩
        obtain ⟨m, hm, rfl⟩ : ∃ m, row[j]? = some m ∧ y = .int m := by
          rw [List.getElem?_map, Option.map_eq_some_iff] at hy
          obtain ⟨m, h1, h2⟩ := hy
          exact ⟨m, h1, h2.symm⟩
        have tk : row.take (j + 1) = row.take j ++ [m] := by rw [List.take_add_one, hm]; rfl
        refine ⟨rfl, ?_⟩
        refine ⟨_, rfl, _, rfl, rfl, _, rfl, ?_⟩
        refine ite2 (fun h => ?_) (fun h => ?_)
        · have em : m = (i : Int) := by simpa using h
          refine ⟨_, rfl, _, h4, ?_, same_put e4 hD2, ?_⟩
          · rw [List.length_map]
            have := List.length_filter_le (· == (i : Int)) (row.take j)
            rw [List.length_take] at this
            rw [sizeLine_eq]
            omega
          · rw [upd_same, tk, List.filter_append, List.map_append, em]
            simp
        · have em : ¬ m = (i : Int) := by simpa using h
          refine ⟨e4, ?_⟩
          rw [h4, tk, List.filter_append]
          simp [em]
      · rintro H4 ⟨e4, h4⟩
        rw [List.length_map, List.take_length] at h4
        refine ⟨D2, _, rfl, .inl (SqL.of h4), ?_⟩
        rw [List.length_map, ← List.count_eq_length_filter]
        exact pt.step hD e4 (by rw [List.getElem?_map, countsOf_at hi]; rfl) (by rw [List.length_map, countsOf_length, sizeLine_eq]; omega)
    · intro H2 pt
      obtain ⟨hl, e2⟩ := pt.done (by rw [List.length_map, countsOf_length]; exact Nat.le_refl _)
      exact k D H2 e2 hD hl
end
end K5
/-! the same things in a drawn order -/
namespace K5
open PySem PySem.Spec PyProof.Rows L2 Kx RZ
theorem Mv.free {b D : Addr} {H H' : Hp} (m : Mv b H H') (h : H' D = .none) : H D = .none ∧ D ≠ b := by
  have ne : D ≠ b := fun z => by
    obtain ⟨t, ht⟩ := m.2
    rw [z, ht] at h
    cases h
  refine ⟨?_, ne⟩
  cases e : H D with
  | none => rfl
  | some o => rw [m.1 _ _ ne e] at h; cases h
theorem Mv.put {b D : Addr} {H H' : Hp} {o : HO} (m : Mv b H H') (h1 : H D = .none) (h2 : D ≠ b) : Mv b H (L2.upd H' D o) := by
  refine ⟨fun c u ne q => ?_, ?_⟩
  · rw [upd_ne (fun z => by rw [z, h1] at q; cases q)]
    exact m.1 c u ne q
  · obtain ⟨t, ht⟩ := m.2
    exact ⟨t, by rw [upd_ne (Ne.symm h2)]; exact ht⟩
theorem cut_perm {zs : List V} {j : Nat} (h : j < zs.length) : ([zs[j]] ++ zs.eraseIdx j).Perm zs := by
  have e : zs = zs.take j ++ zs[j] :: zs.drop (j + 1) := by rw [← List.drop_eq_getElem_cons h, List.take_append_drop]
  rw [List.eraseIdx_eq_take_drop_succ]
  conv => rhs; rw [e]
  have := (List.perm_middle (a := zs[j]) (l₁ := zs.take j) (l₂ := zs.drop (j + 1))).symm
  simpa using this
def spMixed (K : PySem.W.Frag) : Sp := fun vs H Q _ => ∃ (b q : Addr) (t : Int × Int) (xs : List V), vs = [.ref b, .ref q] ∧ H b = some (bx t) ∧ q ≠ b ∧ SqL K H q xs ∧ xs.length ≤ 1000 ∧ ∀ l ys H', ys.Perm xs → Mv b H H' → H l = none → l ≠ b → H' l = some (.lst ys) → Q (.ref l) H'
section
variable {P : Program} {w : World} {K : PySem.W.Frag} {mg : Str → Option Value} {base : Heap} {f : Addr} {fd : FuncData} {a : Ad} {C CM : Addr}
theorem sc_mixed : FnScope ["box", "some", "found", "left", "turn"] ["box", "some"] (defScope s_law_mixed) := ⟨rfl, rfl, rfl, by decide +kernel, rfl, by decide +kernel, by decide +kernel⟩
theorem ok_mixed (F : FnP K "_law_mixed" s_law_mixed f fd) (T : Mg mg) (c_take : Cal P w K mg base CX0 1 "_law_take" ["box", "many"] spTake) : FnOk P w K mg base CX0 2 f fd ["box", "some"] (spMixed K) := by
  refine F.ok sc_mixed (fun vs H Q E h => ?_) (fun cdv A outer s H vs Q E hr h => ?_)
  · obtain ⟨b, q, t, xs, rfl, _⟩ := h
    rfl
  · obtain ⟨b, q, t, xs, rfl, hb, qb, hq, few, k⟩ := h
    refine ⟨_, PSs.nox (pss_cons (ps_mid (ps_par (i := 2) (j := 3) (by rfl) sc_mixed.nd rfl rfl (by decide) rfl rfl (pa_cons (pe_lst pa_nil) (pa_cons (pe_callTy call_list_of (by rfl) T.z_list bt_list (pa_cons (pv 1) pa_nil)) pa_nil)) (by rfl)))
      (pss_cons (ps_for PassesOwn.never rfl (pi_range1 (by rfl) T.z_range (pa_cons (pe_callB call_len_seq (by rfl) T.z_len PySem.boot_len (pa_cons (pv 3) pa_nil)) pa_nil)) (pg_name (i := 4) sc_mixed.nd rfl (by first | exact Or.inl rfl | exact Or.inr rfl))
        (pss_one (ps_expr (pe_bm PySem.F.plainAttrs_list PySem.F.slot_list_append PySem.F.type_list_append mt_append (pv 2) (pa_cons (pe_bm PySem.F.plainAttrs_list PySem.F.slot_list_pop PySem.F.type_list_pop mt_popAt (pv 3) (pa_cons (pe_callC c_take hr pass0 (pa_cons (pv 0) (pa_cons (pe_callB call_len_seq (by rfl) T.z_len PySem.boot_len (pa_cons (pv 3) pa_nil)) pa_nil))) pa_nil)) pa_nil)))))
      (pss_one (ps_ret (pv 2))))), ?_⟩
    refine ⟨fun σ' H' => ∃ (S L : Addr), σ' = [some (.ref b), some (.ref q), some (.ref S), some (.ref L), none] ∧ Mv b H H' ∧ H S = none ∧ H L = none ∧ S ≠ b ∧ L ≠ b ∧ S ≠ L ∧ H' S = some (.lst []) ∧ H' L = some (.lst xs), ?_, ?_⟩
    · refine ⟨(by show 0 ≤ sizeLine; decide), fun S hS => ?_⟩
      have e1 := same_new (o := HO.lst []) hS
      refine ⟨_, rfl, q, xs, rfl, .inl (sqL_same e1 hq), fun L hL => ?_⟩
      have m0 := Mv.refl hb
      have SL : S ≠ L := fun z => by rw [← z, upd_same] at hL; cases hL
      have nS := m0.free hS
      have m1 := m0.same e1
      have nL := m1.free hL
      exact ⟨_, _, rfl, S, L, rfl, m1.put nL.1 nL.2, nS.1, nL.1, nS.2, nL.2, SL, by rw [upd_ne SL]; exact upd_same, upd_same⟩
    rintro σ' H1 ⟨S, L, rfl, m1, nS, nL, Sb, Lb, SL, hS1, hL1⟩
    refine ⟨_, rfl, L, xs, rfl, .inl (SqL.of hL1), xs.length, rfl, by omega, by omega, for_range (lo := 0) (n := xs.length) (fun i σ' H' => ∃ (x : Option V) (ys zs : List V), σ' = [some (.ref b), some (.ref q), some (.ref S), some (.ref L), x] ∧ Mv b H H' ∧ H' S = some (.lst ys) ∧ H' L = some (.lst zs) ∧ ys.length = i ∧ (ys ++ zs).Perm xs) ⟨_, [], xs, rfl, m1, hS1, hL1, rfl, List.Perm.refl _⟩ ?_ ?_⟩
    · rintro i σ' H2 hi ⟨x, ys, zs, rfl, m2, hS2, hL2, ly, pm⟩
      obtain ⟨t2, hb2⟩ := m2.2
      have lz : ys.length + zs.length = xs.length := by rw [← List.length_append]; exact pm.length_eq
      refine ⟨_, rfl, .inl ⟨rfl, _, SqL.of hS2⟩, _, rfl, .inl ⟨rfl, _, SqL.of hL2⟩, _, rfl, _, rfl, L, zs, rfl, .inl (SqL.of hL2), b, t2, _, rfl, hb2, by omega, by omega, fun r H3 r0 r1 m3 => ?_⟩
      obtain ⟨j, rfl⟩ : ∃ j : Nat, r = (j : Int) := ⟨r.toNat, by omega⟩
      have hj : j < zs.length := by omega
      have m23 := m2.trans m3
      have hS3 := m3.1 _ _ Sb hS2
      have hL3 := m3.1 _ _ Lb hL2
      refine ⟨L, zs, j, j, zs[j], rfl, rfl, hL3, by omega, by omega, ?_, List.getElem?_eq_getElem hj, ?_⟩
      · rw [seqIndex_of (by omega) (by omega), Int.toNat_natCast]
      · have hS4 : (upd H3 L (.lst (zs.eraseIdx j))) S = some (.lst ys) := by rw [upd_ne SL]; exact hS3
        refine ⟨S, ys, zs[j], rfl, rfl, hS4, by rw [sizeLine_eq]; omega, _, ys ++ [zs[j]], zs.eraseIdx j, rfl, (m23.put nL Lb).put nS Sb, upd_same, by rw [upd_ne (Ne.symm SL)]; exact upd_same, by rw [List.length_append, ly]; rfl, ?_⟩
        rw [List.append_assoc]
        exact (List.Perm.append_left ys (cut_perm hj)).trans pm
    · rintro σ' H2 ⟨x, ys, zs, rfl, m2, hS2, hL2, ly, pm⟩
      have lz : ys.length + zs.length = xs.length := by rw [← List.length_append]; exact pm.length_eq
      obtain rfl : zs = [] := List.length_eq_zero_iff.mp (by omega)
      rw [List.append_nil] at pm
      exact ⟨_, rfl, k S ys H2 pm m2 nS Sb hS2⟩
end
end K5
/-! sep.join(reversed(a list)); what is never run. -/
namespace Kx
open PySem PySem.Spec PyProof.Rows L2 RT MpR
section
variable {prog : Program} {w : World} {A : Around} {E : Value → Shared → Prop} {s : Shared}
theorem join_rev {x : Str} {t : Tok} {it l : Addr} {items : Array Value} {ys : List Str} {Q : Value → Shared → Prop} (hh : A.handled = none) (hit : s.heap.IsRevIter it l ((items.size : Int) - 1)) (hl : s.heap.IsList l items) (hne : l ≠ it) (hn : items.size ≤ sizeLine)
    (hP : ∀ acc : Array Value, ItemsOf (fun i v => items[items.size - 1 - i]? = some v) acc items.size → StrsAre acc.toList ys) (hok : (ys.map (·.length)).sum + ys.length * x.length ≤ 16777216)
    (hq : ∀ h' t' k, (∀ b o, b ≠ it → s.heap.get? b = some o → h'.get? b = some o) → Q (.str (Txt.join x ys) t') { s with heap := h', toks := k }) : wpAny (model prog w) A (call (.builtin "str.join") [.str x t, .ref it]) Q E s := by
  have hh1 : A.in1.handled = none := hh
  refine wpAny_call (codeAny_call_builtin F.slot_str_join.plain F.entry_str_join (F.slot_str_join.check _ _ _ _ _ _ _ _ (typeIs_str _ _ _) (F.args_str_join_2 _ _) ?_))
  rw [join_tree_other]
  refine wpAny_bind (wpAny_typeOf hit.typeIs ?_)
  show wpAny _ A.in1 ((pyIter (.ref it)).tryCatch _ >>= fun it => collect it >>= fun items => joinTail x items) _ _ s
  refine wpAny_bind (wpAny_tryCatch (wpAny_pyIter_revIter hit ?_))
  refine wpAny_bind (collect_rev hh1 hit hl hne hn fun h' tk acc hk hacc => ?_)
  obtain ⟨l2, hl2, ht⟩ := strsAre_values (hP acc hacc)
  subst ht
  rw [hl2]
  have hok' := joinOk_of hok
  unfold JoinOk at hok'
  rw [Bool.not_eq_true'] at hok'
  have g : Gives (joinTail x (strValues l2)) (joinMade x l2) := by
    have g0 := gives_joinTail x l2 hok'
    cases l2 with
    | nil => exact g0
    | cons p r => cases r with
      | nil => exact g0
      | cons q r' => exact g0
  exact g prog w A (wants Q E) _ (post_join l2 ⟨joinFit_length hok', fun t' k => hq h' t' k hk⟩)
end
theorem strs_of : ∀ {ys : List Str} {vs : List Value}, Vals (ys.map V.str) vs → StrsAre vs ys
  | [], [], _ => .nil
  | y :: ys, v :: vs, .cons r rs => by
    obtain ⟨t, rfl⟩ := r
    exact .cons y t (strs_of rs)
section
variable {X : Cx} {o e : Expr} {to te : TE} {apos pos p pos2 : Pos}
/-- sep.join(reversed(xs)), xs a list: sep first -/
def tJoinRev (K : PySem.W.Frag) (to te : TE) : TE := fun σ H Q => to σ H fun x H1 => (∃ a, x = .str a) ∧ te σ H1 fun v H2 => ∃ (a : Str) (q : Addr) (ys : List Str),
  x = .str a ∧ v = .ref q ∧ SqL K H2 q (ys.map V.str) ∧ (ys.reverse.map (·.length)).sum + ys.reverse.length * a.length ≤ 16777216 ∧ Q (.str (Txt.join a ys.reverse)) H2
theorem pe_joinRev (hc : X.calm = true) (ho : PE X o to) (hg : Gl X "reversed") (hm : X.mg "reversed" = none) (he : PE X e te)
    (hs1 : starEach [.Call (.Name "reversed" p) [e] [] pos2] X.env = [(false, eval (.Call (.Name "reversed" p) [e] [] pos2) X.env)] := by rfl)
    (hs : starEach [e] X.env = (false, eval e X.env) :: starEach [] X.env := by rfl)
    (hbase : attributeBase o "join" X.env (eval o X.env) = eval o X.env := by rfl) (hline : (apos.endLine == pos.line) = true := by rfl) :
    PE X (.Call (.Attribute o "join" apos) [.Call (.Name "reversed" p) [e] [] pos2] [] pos) (tJoinRev X.K to te) := by
  refine ⟨fun pins s σ H Q I h => ?_⟩
  refine PySem.Call_method1 hbase hs1 hline (thn (ho.run pins s σ H _ I h) fun v s1 ⟨x, H1, I1, r1, q1⟩ => ?_)
  obtain ⟨⟨a, rfl⟩, q1⟩ := q1
  obtain ⟨t, rfl⟩ := _root_.id r1
  refine ⟨"str", _, F.plainAttrs_str, F.slot_str_join, F.type_str_join, typeIs_str _ _ _, (fun _ e => nomatch e), Calls.callWith_builtin rfl (Calls.evalArgs_plain (Calls.spliced_cons ?_))⟩
  refine Call_ (ld_blt I1 hg hm PyProof.Rows.boot_reversed (PyProof.Rows.callWith_type1 (args_cons (thn (he.run pins s1 σ H1 _ I1 q1) fun u s2 ⟨y, H2, I2, r2, q2⟩ => args_nil ?_) hs) hs rfl))
  obtain ⟨a', q, ys, ea, rfl, hq, hz, q3⟩ := q2
  cases ea
  obtain rfl : u = Value.ref q := r2
  obtain ⟨its, rv, p', hsz⟩ := I2.list hq
  have hl := p'.isList
  obtain ⟨ol, hol, _⟩ := id hl
  have hn : its.toArray.size ≤ sizeLine := by rw [List.size_toArray, ← rv.length]; exact hsz
  have hne : q ≠ s2.heap.objs.size := Nat.ne_of_lt (Heap.lt_size hol)
  refine call_reversed_list hl (Calls.spliced_nil ?_)
  have k0 : ∀ b o, s2.heap.get? b = some o → (s2.heap.push (revObj q ((its.toArray.size : Int) - 1))).get? b = some o := fun b o e => Heap.get?_push_of_some _ e
  have I3 : Inv X pins σ H2 { s2 with heap := s2.heap.push (revObj q ((its.toArray.size : Int) - 1)) } := I2.kept (t' := s2.toks) k0
  obtain ⟨f0, f1, f2, f3, f4, f5⟩ := I2.fpOk (H' := H2) (b := s2.heap.objs.size) (Nat.le_refl _) (I2.hok.fresh (Nat.le_refl _))
  refine join_rev (s := { s2 with heap := s2.heap.push (revObj q ((its.toArray.size : Int) - 1)) }) (ys := ys.reverse) (I2.ok.hd hc) ⟨_, Heap.get?_push_size _ rfl, rfl, rfl⟩ (hl.push _) hne hn (fun acc hacc => strs_of ?_) hz fun h' t' k hk => ?_
  · rw [List.map_reverse]
    exact vals_rev rv hacc
  · exact ⟨.str _, H2, I3.turned (t' := k) (fun b o hb e => hk b o hb e) f0 f1 f3 f4 f5, ⟨t', rfl⟩, q3⟩
end
/-- what is never run -/
theorem ps_dead {X : Cx} {st : Stmt} : PS X st (fun _ _ _ => False) := ⟨fun _ _ _ _ _ _ h => h.elim⟩
theorem pe_dead {X : Cx} {e : Expr} : PE X e (fun _ _ _ => False) := ⟨fun _ _ _ _ _ _ h => h.elim⟩
end Kx
/-! where only tables move; a body whose code object is known -/
namespace Kx
open L2 PySem PySem.Spec PyProof.Rows
section
variable {P : Program} {w : World} {K : PySem.W.Frag} {mg : Str → Option Value} {base : Heap} {x qual : Str} {params : Arguments} {body : List Stmt} {scope : Scope} {dvs : List V} {kws : List (Str × V)} {f c : Addr} {fd : FuncData}
/-- a def's body, its code object known -/
theorem okGc {CX : CXT} {N ps : List Str} {k : Nat} {sp : Sp} (F : FunD K x qual params body scope dvs kws f fd) (hc : fd.code = .ref c) (S : FnScope N ps scope) (len : ∀ vs H Q E, sp vs H Q E → vs.length = ps.length)
    (hbody : ∀ (A : Around) (outer : List Env) (s : Shared) (H : Hp) (vs : List V) (Q : VK) (E : XK), Lone A → Room k (A.deeper (envOfC qual scope s.heap.objs.size f (.ref c))) → sp vs H Q E →
      ∃ t, PSs (cxOf CX P w K mg base N qual scope f (.ref c) A outer s H E) body t ∧ t { nx := fun _ H' => Q .non H', rt := Q } (start N vs) H) : FnG P w K mg base CX (k + 1) f fd ps sp := by
  obtain ⟨oc, od, dV, kV, doc, pm, an, cdv, ct, osl, rfl, lk, hcd, -, -⟩ := F.ex
  have hc : cdv = .ref c := hc
  subst hc
  exact ⟨len, fun A outer s H args us vs Q E hr lone e0 hb hv hs => LamX.run_ofS lk hcd S hr e0 hb hv (len _ _ _ _ hs) fun hr' => hbody A outer s H vs Q E lone hr' hs⟩
end
/-! ### where only tables move -/
section
variable {K : PySem.W.Frag} {H H' : Hp} {a : Addr} {xs : List V}
theorem ext_rd (e : LamX.ExtN H H') {u : HO} (n : ∀ ps, u ≠ .tbl ps) (h : Rd H a u) : Rd H' a u := h.elim (fun q => .inl (e _ _ q n)) fun ⟨z, q⟩ => .inr ⟨z, e _ _ q fun _ z => nomatch z⟩
theorem ext_sqT (e : LamX.ExtN H H') (h : SqT K H a xs) : SqT K H' a xs := h.imp (ext_rd e fun _ z => nomatch z) id
theorem ext_sqL (e : LamX.ExtN H H') (h : SqL K H a xs) : SqL K H' a xs := h.imp (ext_rd e fun _ z => nomatch z) id
theorem ext_sq (e : LamX.ExtN H H') (h : Sq K H a xs) : Sq K H' a xs := h.imp (ext_sqL e) (ext_sqT e)
theorem ext_of (e : Same H H') : LamX.ExtN H H' := fun b o q _ => e b o q
theorem ext_kn {v : V} (e : LamX.ExtN H H') (h : Kn K H v) : Kn K H' v := by
  cases h with
  | non => exact .non
  | bl b => exact .bl b
  | int i => exact .int i
  | str x => exact .str x
  | seq q => exact .seq (ext_sq e q)
theorem tabs_same {T : List (Addr × Str)} (t : LamX.Tabs T H) (e : Same H H') : LamX.Tabs T H' := t.ext e
/-- t == u, t != u: tuples of rows -/
def rRowsEq (K : PySem.W.Frag) (neg : Bool) : R2 := fun x y H Q => ∃ (xs ys : List (List Int)), Dp K H x (dRows xs) ∧ Dp K H y (dRows ys) ∧ Q (.bl (neg != decide (xs = ys))) H
theorem op_eqRows {X : Cx} (hu : X.A.units + 64 < cLine) : OpR X (compareOp .Eq) (rRowsEq X.K false) := by
  intro pins st σ H x y v u Q I rx ry ⟨xs, ys, h1, h2, q⟩
  refine op_eqD hu pins st σ H _ _ v u Q I rx ry ⟨_, _, h1, h2, shaped_rows xs, shaped_rows ys, ?_⟩
  simp only [PyData.eqv, eqv_rows]
  rwa [Bool.false_bne] at q
theorem op_neRows {X : Cx} (hu : X.A.units + 64 < cLine) : OpR X (compareOp .NotEq) (rRowsEq X.K true) := by
  intro pins st σ H x y v u Q I rx ry ⟨xs, ys, h1, h2, q⟩
  refine op_neD hu pins st σ H _ _ v u Q I rx ry ⟨_, _, h1, h2, shaped_rows xs, shaped_rows ys, ?_⟩
  simp only [PyData.eqv, eqv_rows]
  rwa [Bool.true_bne] at q
end
end Kx
/-! what is heard of a call -/
namespace K5
open PySem PySem.Spec PyProof.Rows L2 Kx RZ
theorem takes_len {X : Cx} {W : WX} (t : Takes X W) : Takes X fun c d σ H => σ.length = X.N.length → W c d σ H := fun u s ⟨x, B, o, pins, σ, H, cls, d, e, I, r1, r2, r3, r4, r5, r6, q⟩ => t u s ⟨x, B, o, pins, σ, H, cls, d, e, I, r1, r2, r3, r4, r5, r6, q I.len⟩
/-- v shows as the text of dt -/
structure ShowD (K : PySem.W.Frag) (H : Hp) (v : V) (dt : PyData) : Prop where
  dp : Dp K H v dt
  sh : dt.showable = true
  nd : dt.hasDict = false
  deep : dt.depth ≤ 60
  fit : dt.shown.length ≤ sizeLine
/-- what is heard of an error -/
def Out (K : PySem.W.Frag) (a : Ad) (cls : Value) (d : Option Addr) (H : Hp) (Q : VK) : Prop := ∃ dd, d = some dd ∧
  ((cls = .ref a.cS ∧ ∃ i : Int, H dd = some (.xd [("at", .int i)]) ∧ ∀ p H2, Same H H2 → SqT K H2 p [.str "showing", .int i, .bl true] → Q (.ref p) H2) ∨
  (cls = .ref a.cF ∧ ∃ v dt, H dd = some (.xd [("at", v)]) ∧ Kn K H v ∧ (∀ H', Same H H' → ShowD K H' v dt) ∧ ∀ p H2, Same H H2 → SqT K H2 p [.str "refused", .str dt.shown, .bl true] → Q (.ref p) H2))
/-- what is heard of a call tl -/
def TTh (K : PySem.W.Frag) (a : Ad) : (XK → Hp → VK → Prop) → Hp → VK → Prop := fun tl H Q => tl (fun cls d H' => Out K a cls d H' Q) H (fun v H' => 2 ≤ sizeLine ∧ ∀ p, H' p = none → Q (.ref p) (upd H' p (.tup [.str "told", v])))
/-- the errors as they are caught and asked -/
structure Hd (K : PySem.W.Frag) (mg : Str → Option Value) (a : Ad) (C CM cW : Addr) : Prop where
  g_W : mg "WitnessError" = some (.ref cW)
  g_S : mg "BadShowing" = some (.ref a.cS)
  g_N : mg "NoState" = some (.ref a.cN)
  g_O : mg "Forgets" = some (.ref a.cO)
  g_G : mg "TooGreat" = some (.ref a.cG)
  g_F : mg "Refused" = some (.ref a.cF)
  x_S : XfC K a.cS
  x_F : XfC K a.cF
  n_S : PySem.W.findIn K (.ref a.cS) "at" = some none
  n_F : PySem.W.findIn K (.ref a.cF) "at" = some none
  e_S : ExcC K a.cS
  e_F : ExcC K a.cF
  k_S : PySem.W.kitOne K (.ref a.cS) (.ref cW) = some true
  k_F : PySem.W.kitOne K (.ref a.cF) (.ref cW) = some true
  m_SS : PySem.W.exmOne K (.ref a.cS) (.ref a.cS) = some true
  m_FS : PySem.W.exmOne K (.ref a.cF) (.ref a.cS) = some false
  m_FN : PySem.W.exmOne K (.ref a.cF) (.ref a.cN) = some false
  m_FO : PySem.W.exmOne K (.ref a.cF) (.ref a.cO) = some false
  m_FG : PySem.W.exmOne K (.ref a.cF) (.ref a.cG) = some false
  m_FF : PySem.W.exmOne K (.ref a.cF) (.ref a.cF) = some true
  not_C : ∀ n ∈ ["NoneType", "bool", "int", "str", "list", "tuple"], PySem.W.kitOne K (.type n) (.ref C) = some false
  not_M : ∀ n ∈ ["NoneType", "bool", "int", "str", "list", "tuple"], PySem.W.kitOne K (.type n) (.ref CM) = some false
/-- isinstance(e, c), whatever the error's class is said to be -/
theorem call_isEw {X : Cx} {x D : Addr} {oe : Obj} {cls : Value} {d : Option Addr} {pn : List (Addr × Obj)} (C : ExcC X.K D) (hz : Zc cls d oe) (hf : ∃ vs, oe.data = .fields vs) :
    CallR (X.suite x ((x, oe) :: pn)) (.builtin "isinstance") (fun xs H Q => cls = .ref D ∧ (∃ dd, d = some dd ∧ ∃ fs, H dd = some (.xd fs)) ∧ rIsE X.K D x xs H Q) := by
  rintro pins s σ H xs us Q I r h
  obtain ⟨rfl, ⟨dd, rfl, fs, h1⟩, h2⟩ := h
  exact call_isEd C hz hf pins s σ H xs us Q I r ⟨⟨fs, h1⟩, h2⟩
theorem kn_not {K : PySem.W.Frag} {mg : Str → Option Value} {a : Ad} {C CM cW : Addr} {H : Hp} {v : V} (T : Hd K mg a C CM cW) (h : Kn K H v) : ∃ n : String, TyX K H v (.type n) ∧ PySem.W.kitAny K (.type n) [.ref CM, .ref C] = some false := by
  have go : ∀ n ∈ ["NoneType", "bool", "int", "str", "list", "tuple"], PySem.W.kitAny K (.type n) [.ref CM, .ref C] = some false := fun n hn =>
    kitAny_cons (b := false) (T.not_M n hn) (fun _ => kitAny_cons (b := false) (T.not_C n hn) (fun _ => kitAny_nil) (fun z => nomatch z)) (fun z => nomatch z)
  cases h with
  | non => exact ⟨_, .base .non, go _ (by simp)⟩
  | bl b => exact ⟨_, .base (.bl b), go _ (by simp)⟩
  | int i => exact ⟨_, .base (.int i), go _ (by simp)⟩
  | str x => exact ⟨_, .base (.str x), go _ (by simp)⟩
  | seq q =>
    rcases q with q | q
    · exact ⟨_, tyx_list q, go _ (by simp)⟩
    · exact ⟨_, tyx_tuple q, go _ (by simp)⟩
section
variable {P : Program} {w : World} {K : PySem.W.Frag} {mg : Str → Option Value} {base : Heap} {f : Addr} {fd : FuncData} {a : Ad} {C CM cW : Addr}
theorem sc_law_heard : FnScope ["ask", "fault"] ["ask"] (defScope s_law_heard) := ⟨rfl, rfl, rfl, by decide +kernel, rfl, by decide +kernel, by decide +kernel⟩
theorem heard_gives {X : Cx} {g : Addr} {cdg : Value} {k : Nat} {q : Str} (T : Mg X.mg) (TC : ClsC X.K X.mg C) (TM : ClsM X.K X.mg CM) (D : Hd X.K X.mg a C CM cW) (lone : Lone X.A) (hr : Room (k + 2) X.A) :
    LamX.GivesTo X ["ask", "fault"] "_law_heard" (defScope s_law_heard) g cdg (defBody s_law_heard) "ask" q (TTh X.K a) := by
  intro fl c' s H Q tl act hc h
  have hr1 : Room (k + 1) (X.A.deeper (envOfC "_law_heard" (defScope s_law_heard) s.heap.objs.size g cdg)) := hr.deeper _
  have un := hr1.un
  have cs : ∀ (x : Addr) (ob : Obj) (pn : List (Addr × Obj)), CallR ((cxOf C8.CX0 X.prog X.w X.K X.mg X.base ["ask", "fault"] "_law_heard" (defScope s_law_heard) g cdg X.A X.stack s H C8.E0).nox.suite x ((x, ob) :: pn)) (.builtin "repr") (rShow X.K) :=
    fun x ob pn => call_show lone (by show (X.A.deeper (envOfC "_law_heard" (defScope s_law_heard) s.heap.objs.size g cdg)).units + 64 < _; omega)
  have ci : ∀ (x : Addr) (ob : Obj) (pn : List (Addr × Obj)), CallR ((cxOf C8.CX0 X.prog X.w X.K X.mg X.base ["ask", "fault"] "_law_heard" (defScope s_law_heard) g cdg X.A X.stack s H C8.E0).nox.suite x ((x, ob) :: pn)) (.builtin "isinstance") (rIsiT X.K) := fun x ob pn => call_isiT
  refine ⟨_, pss_one (ps_tries (W := fun _ _ _ _ => False)
      (tb := fun U E σ H => ∃ Ech : XK, (∀ cls d σ' H', Ech cls d H' → σ'.length = 2 → U cls d σ' H') ∧ σ[0]? = some (some (.ref fl)) ∧ H c' = some (LamX.CodeO c' q) ∧ tl Ech H (fun v H' => 2 ≤ sizeLine ∧ ∀ p, H' p = none → E.rt (.ref p) (upd H' p (.tup [.str "told", v]))))
      rfl rfl LamX.takes0 (fun U pn xe tk own => ?_)
      (Clauses.cons (i := 1) sc_law_heard.nd rfl rfl ⟨rfl, by decide, .inl D.g_S⟩
        (fun x ob cls d pn hz hf => pss_one (ps_ret (pe_tup (pa_cons pe_str (pa_cons (pe_xf D.x_S D.n_S hz hf (pv 1)) (pa_cons (pe_callB (call_isEw D.e_S hz hf) (by rfl) T.z_isinstance (by decide +kernel) (pa_cons (pv 1) (pa_cons (pe_glob (v := V.ref cW) rfl D.g_W rfl) pa_nil))) pa_nil))))))
      (Clauses.cons (i := 1) sc_law_heard.nd rfl rfl ⟨rfl, by decide, .inl D.g_N⟩ (fun x ob cls d pn hz hf => pss_one ps_dead)
      (Clauses.cons (i := 1) sc_law_heard.nd rfl rfl ⟨rfl, by decide, .inl D.g_O⟩ (fun x ob cls d pn hz hf => pss_one ps_dead)
      (Clauses.cons (i := 1) sc_law_heard.nd rfl rfl ⟨rfl, by decide, .inl D.g_G⟩ (fun x ob cls d pn hz hf => pss_one ps_dead)
      (Clauses.cons (i := 1) sc_law_heard.nd rfl rfl ⟨rfl, by decide, .inl D.g_F⟩
        (fun x ob cls d pn hz hf => pss_one (ps_ret (pe_tup (pa_cons pe_str (pa_cons (pe_ifExp (pt_not (pt_val (pe_callB (ci x ob pn) (by rfl) T.z_isinstance (by decide +kernel) (pa_cons (pe_xf D.x_F D.n_F hz hf (pv 1)) (pa_cons (pe_tup (pa_cons (pe_glob (v := V.ref CM) rfl TM.at_ rfl) (pa_cons (pe_glob (v := V.ref C) rfl TC.at_ rfl) pa_nil))) pa_nil))))) (pe_callB (cs x ob pn) (by rfl) T.z_repr (by decide +kernel) (pa_cons (pe_xf D.x_F D.n_F hz hf (pv 1)) pa_nil)) pe_str)
          (pa_cons (pe_callB (call_isEw D.e_F hz hf) (by rfl) T.z_isinstance (by decide +kernel) (pa_cons (pv 1) (pa_cons (pe_glob (v := V.ref cW) rfl D.g_W rfl) pa_nil))) pa_nil))))))
      Clauses.nil)))))), ?_⟩
  · refine ⟨fun pins s' σ H' E I h' => ?_⟩
    rcases h' with ⟨Ech, hW, h1, h2, h3⟩
    have hp := fun p1 p2 => act (fun c d σ H => σ.length = _ → U c d σ H) pn xe Ech p1 p2 (takes_len tk) (fun cls d σ' H' he hlen => hW cls d σ' H' he hlen)
    exact (pss_one (ps_ret (pe_tup (pa_cons pe_str (pa_cons (hp _ _) pa_nil))))).run pins s' σ H' E I ⟨h1, h2, h3⟩
  · refine ⟨fun cls d H' => Out X.K a cls d H' Q, ?_, rfl, hc, h⟩
    rintro cls d σ' H' ⟨dd, rfl, o⟩ hlen
    obtain ⟨v0, v1, rfl⟩ : ∃ v0 v1, σ' = [v0, v1] := by
      match σ', hlen with
      | [v0, v1], _ => exact ⟨v0, v1, rfl⟩
    have no : ∀ {P : Prop}, true = false → P := fun z => nomatch z
    have no' : ∀ {P : Prop}, false = true → P := fun z => nomatch z
    rcases o with ⟨rfl, i, hd, k⟩ | ⟨rfl, v, dt, hd, kn, sd, k⟩
    · refine ⟨true, D.m_SS, fun _ x hx => ?_, no⟩
      exact ⟨_, rfl, rfl, rfl, dd, _, _, rfl, hd, rfl, _, rfl, rfl, ⟨dd, rfl, _, hd⟩, _, _, true, rfl, fun u r => r, D.k_S, (by show 3 ≤ sizeLine; decide), fun p hp => k p _ (same_new hp) (SqT.of upd_same)⟩
    · refine ⟨false, D.m_FS, no', fun _ => ⟨false, D.m_FN, no', fun _ => ⟨false, D.m_FO, no', fun _ => ⟨false, D.m_FG, no', fun _ => ⟨true, D.m_FF, fun _ x hx => ?_, no⟩⟩⟩⟩⟩
      refine ⟨_, rfl, rfl, rfl, dd, _, _, rfl, hd, rfl, (by show 2 ≤ sizeLine; decide), fun t ht => ?_⟩
      have e1 := same_new (o := HO.tup [.ref CM, .ref C]) ht
      obtain ⟨n, ty, kt⟩ := kn_not D (kn.same e1)
      have sd1 := sd _ e1
      refine ⟨v, t, _, .type n, _, false, rfl, upd_same, .cons (.own CM) (.cons (.own C) .nil), ty, kt, _, rfl, ?_⟩
      refine iteT ?_
      refine ⟨_, rfl, rfl, rfl, dd, _, _, rfl, e1 _ _ hd, rfl, _, dt, rfl, sd1.dp, sd1.sh, sd1.nd, sd1.deep, sd1.fit, ?_⟩
      exact ⟨_, rfl, rfl, ⟨dd, rfl, _, e1 _ _ hd⟩, _, _, true, rfl, fun u r => r, D.k_F, (by show 3 ≤ sizeLine; decide), fun p hp => k p _ (e1.trans (same_new hp)) (SqT.of upd_same)⟩
/-- what a def that hears lambdas must know: c, Pt its code object and table -/
structure HF (X : Cx) (a : Ad) (C CM cW : Addr) (Ts : List (Addr × Str)) (g : Addr) (fdg : FuncData) (c Pt : Addr) (st : Stmt) : Prop where
  FH : FnP X.K "_law_heard" s_law_heard g fdg
  gH : X.mg "_law_heard" = some (.ref g)
  bH : Binds X.K fdg ["ask"] []
  T : Mg X.mg
  TC : ClsC X.K X.mg C
  TM : ClsM X.K X.mg CM
  D : Hd X.K X.mg a C CM cW
  lone : Lone X.A
  TB : LamX.TabB X.base X.mg c Pt
  code : X.env.code = .ref c
  sc : X.env.scope = defScope st
  mem : (Pt, X.env.qual ++ "<lambda>") ∈ Ts
  only : ∀ p ∈ Ts, p.1 = Pt → p.2 = X.env.qual ++ "<lambda>"
theorem pe_heard {X : Cx} {a : Ad} {C CM cW : Addr} {Ts : List (Addr × Str)} {g : Addr} {fdg : FuncData} {c Pt : Addr} {st : Stmt} {k : Nat} {params : Arguments} {body : Expr} {scope : Scope} {t : XK → TE} {p lpos pos : Pos} (h : HF X a C CM cW Ts g fdg c Pt st) (hr : Room (k + 2) X.A)
    (hbody : ∀ (A : Around) (outer : List Env) (s : Shared) (H : Hp) (E : XK) (f c' : Addr), Room k (A.deeper (LamX.lamEnv X scope s.heap.objs.size f c')) → PE (LamX.lamCx X A outer s H E scope f c') body (t E))
    (hg : Gl X "_law_heard" := by rfl) (hL : LamX.lamSB (defScope st) scope = true := by decide +kernel) (hdef : defaultsOf params X.env = ([], []) := by rfl)
    (hbind : ∀ (q : Str) (cl : List (Str × Addr)) (pm cv ctv : Value), bindArgs (PySem.W.kla_fn "<lambda>" q params body scope cl pm cv ctv) ⟨[], []⟩ = pure [] := by intros; rfl) :
    PE X (.Call (.Name "_law_heard" p) [.Lambda params body scope lpos] [] pos) (LamX.tLam Ts (TTh X.K a) t) := by
  obtain ⟨oc, od, dV, kV, doc, pm, an, cdv, ct, osl, rfl, lk, hcd, -, -⟩ := h.FH.ex
  exact LamX.pe_lamcall (k := k) hg h.gH h.FH.kp lk hcd h.bH sc_law_heard rfl (.inl rfl) (heard_gives h.T h.TC h.TM h.D h.lone hr) h.TB h.code h.mem h.only hr (by rw [h.sc]; exact LamX.lamS_by hL) hdef hbind hbody
/-- an error that is raised is heard -/
theorem passL {X : Cx} {A : Around} {outer : List Env} {s : Shared} {H : Hp} {E : XK} {scope : Scope} {f c' : Addr} : Passes (L2.CX (LamX.lamCx X A outer s H E scope f c').prog (LamX.lamCx X A outer s H E scope f c').w) (LamX.lamCx X A outer s H E scope f c') E :=
  passes_call (takes_of (E := E) rfl rfl rfl rfl) (fun _ _ _ _ z => z)
end
end K5
/-! sums of what is shown -/
namespace K5
open PySem PySem.Spec PyProof.Rows L2 Kx RZ
section
variable {r e n a b x : Int}
theorem shows_zero' (h : n < e) : shows r e n = n := if_pos (.inr h)
theorem shows_none : shows 0 e n = n := if_pos (.inl rfl)
theorem shows_from (hr : r ≠ 0) (h : e ≤ n) : shows r e n = e + (n - e) % r := if_neg fun z => z.elim hr (by omega)
theorem shows_nn (hr : 0 ≤ r) (he : 0 ≤ e) (hn : 0 ≤ n) : 0 ≤ shows r e n := by
  by_cases h0 : r = 0
  · rw [h0, shows_none]
    exact hn
  · by_cases h : n < e
    · rw [shows_zero' h]
      exact hn
    · rw [shows_from h0 (by omega)]
      have := Int.emod_nonneg (n - e) h0
      omega
theorem shows_lt (hr : 0 < r) (he : 0 ≤ e) (hn : 0 ≤ n) : shows r e n < e + r := by
  by_cases h : n < e
  · rw [shows_zero' h]
    omega
  · rw [shows_from (by omega) (by omega)]
    have := Int.emod_lt_of_pos (n - e) hr
    omega
theorem shows_addl (hr : 0 ≤ r) (he : 0 ≤ e) (ha : 0 ≤ a) (hx : 0 ≤ x) : shows r e (shows r e a + x) = shows r e (a + x) := by
  by_cases h0 : r = 0
  · rw [h0, shows_none, shows_none, shows_none]
  · by_cases h : a < e
    · rw [shows_zero' h]
    · have s := shows_from h0 (by omega : e ≤ a)
      have p := Int.emod_nonneg (a - e) h0
      rw [shows_from h0 (by omega : e ≤ a + x), shows_from h0 (by omega : e ≤ shows r e a + x), s]
      have : e + (a - e) % r + x - e = (a - e) % r + x := by omega
      rw [this, Int.emod_add_emod]
      congr 2
      omega
theorem shows_sum (hr : 0 ≤ r) (he : 0 ≤ e) : ∀ {l : List Int} {a : Int}, 0 ≤ a → (∀ z ∈ l, 0 ≤ z) → shows r e (a + (l.map (shows r e)).sum) = shows r e (a + l.sum)
  | [], a, _, _ => rfl
  | b :: l, a, ha, hl => by
    have hb := hl b (List.mem_cons_self ..)
    have hs : 0 ≤ (l.map (shows r e)).sum := by
      have : ∀ (m : List Int), (∀ z ∈ m, 0 ≤ z) → 0 ≤ m.sum := fun m => by
        induction m with
        | nil => intro _; exact Int.le_refl _
        | cons y m ih =>
          intro h
          rw [List.sum_cons]
          have := h y (List.mem_cons_self ..)
          have := ih fun z hz => h z (List.mem_cons_of_mem _ hz)
          omega
      refine this _ fun z hz => ?_
      obtain ⟨w, hw, rfl⟩ := List.mem_map.mp hz
      exact shows_nn hr he (hl w (List.mem_cons_of_mem _ hw))
    rw [List.map_cons, List.sum_cons, List.sum_cons]
    have e1 : a + (shows r e b + (l.map (shows r e)).sum) = shows r e b + (a + (l.map (shows r e)).sum) := by omega
    have e2 : b + (a + (l.map (shows r e)).sum) = (a + b) + (l.map (shows r e)).sum := by omega
    have e3 : a + (b + l.sum) = (a + b) + l.sum := by omega
    rw [e1, shows_addl hr he hb (by omega), e2, shows_sum hr he (by omega) fun z hz => hl z (List.mem_cons_of_mem _ hz), e3]
end
theorem showNs_get {rs es ns : List Int} {i : Nat} (h : i < ns.length) : (showNs rs es ns).getD i 0 = shows (rs.getD i 0) (es.getD i 0) (ns.getD i 0) := by
  unfold showNs
  rw [List.getD_eq_getElem?_getD, List.getElem?_map, List.getElem?_range h]
  rfl
/-- what is shown of sums of what is shown -/
theorem show_merge {rs es : List Int} {nss : List (List Int)} (ok : Cok rs es) (hl : ∀ ns ∈ nss, ns.length = rs.length) (h0 : ∀ ns ∈ nss, ∀ z ∈ ns, 0 ≤ z) : showNs rs es (sumOf rs.length (nss.map (showNs rs es))) = showNs rs es (sumOf rs.length nss) := by
  refine List.ext_getElem? fun i => ?_
  by_cases hi : i < rs.length
  · obtain ⟨_, _, r0, _, e0, _⟩ := ok.at_ hi
    have get : ∀ {mss : List (List Int)}, (showNs rs es (sumOf rs.length mss))[i]? = some (shows (rs.getD i 0) (es.getD i 0) ((mss.map fun ns => ns.getD i 0).sum)) := fun {mss} => by
      unfold showNs
      rw [List.getElem?_map, List.getElem?_range (by rw [sum_len']; exact hi)]
      show some (shows _ _ ((sumOf rs.length mss).getD i 0)) = _
      rw [List.getD_eq_getElem?_getD (l := sumOf _ _), sum_at hi]
      rfl
    rw [get, get, List.map_map]
    have e1 : nss.map ((fun ns => ns.getD i 0) ∘ showNs rs es) = (nss.map fun ns => ns.getD i 0).map (shows (rs.getD i 0) (es.getD i 0)) := by
      rw [List.map_map]
      exact List.map_congr_left fun ns hn => showNs_get (by rw [hl ns hn]; exact hi)
    rw [e1]
    have := shows_sum (r := rs.getD i 0) (e := es.getD i 0) r0 e0 (l := nss.map fun ns => ns.getD i 0) (a := 0) (Int.le_refl _) fun z hz => by
      obtain ⟨ns, hn, rfl⟩ := List.mem_map.mp hz
      have lt : i < ns.length := by rw [hl ns hn]; exact hi
      rw [List.getD_eq_getElem?_getD, List.getElem?_eq_getElem lt]
      exact h0 ns hn _ (List.getElem_mem lt)
    rw [Int.zero_add, Int.zero_add] at this
    rw [this]
  · rw [List.getElem?_eq_none (by rw [showNs_length, sum_len']; omega), List.getElem?_eq_none (by rw [showNs_length, sum_len']; omega)]
theorem perm_sum {l m : List Int} (p : l.Perm m) : l.sum = m.sum := by
  induction p with
  | nil => rfl
  | cons x _ ih => rw [List.sum_cons, List.sum_cons, ih]
  | swap x y l => rw [List.sum_cons, List.sum_cons, List.sum_cons, List.sum_cons]; omega
  | trans _ _ h1 h2 => rw [h1, h2]
theorem sum_perm {k : Nat} {ms ns : List (List Int)} (p : ms.Perm ns) : sumOf k ms = sumOf k ns := by
  unfold sumOf
  exact List.map_congr_left fun i _ => perm_sum (p.map _)
/-- what is shown can be shown -/
theorem right_show {rs es ns : List Int} (ok : Cok rs es) (hl : ns.length = rs.length) (h0 : ∀ z ∈ ns, 0 ≤ z) : Right rs es (showNs rs es ns) := by
  refine ⟨by rw [showNs_length, hl], fun j x hx => ?_⟩
  have hj : j < ns.length := by
    have := (List.getElem?_eq_some_iff.mp hx).1
    rwa [List.length_map, showNs_length] at this
  obtain ⟨_, _, r0, _, e0, _⟩ := ok.at_ (by rw [← hl]; exact hj)
  have hn : ns[j]? = some ns[j] := List.getElem?_eq_getElem hj
  rw [showNs_at hn] at hx
  cases hx
  have n0 := h0 _ (List.getElem_mem hj)
  have s0 := shows_nn r0 e0 n0
  unfold canShow
  by_cases z : rs.getD j 0 = 0
  · rw [if_pos z]
    exact decide_eq_true s0
  · rw [if_neg z]
    show (decide (0 ≤ _) && decide (_ < es.getD j 0 + rs.getD j 0)) = true
    rw [decide_eq_true s0, decide_eq_true (shows_lt (by omega) e0 n0)]
    rfl
/-- what the others show when kinds are lost -/
theorem left_same {rs es ns ks : List Int} (hl : ns.length = rs.length) (le : es.length = rs.length) (h0 : ∀ z ∈ ns, 0 ≤ z) : showNs (goneOf 1 ks rs) (goneOf 0 ks es) ns = goneOf 0 ks (showNs rs es ns) := by
  refine List.ext_getElem? fun i => ?_
  by_cases hi : i < ns.length
  · have g : ∀ {d : Int} {xs : List Int}, i < xs.length → (goneOf d ks xs).getD i 0 = if (i : Int) ∈ ks then d else xs.getD i 0 := fun {d xs} h => by
      unfold goneOf
      rw [List.getD_eq_getElem?_getD, List.getElem?_map, List.getElem?_range h]
      rfl
    have l1 : (showNs (goneOf 1 ks rs) (goneOf 0 ks es) ns)[i]? = some (shows ((goneOf 1 ks rs).getD i 0) ((goneOf 0 ks es).getD i 0) (ns.getD i 0)) := by
      unfold showNs
      rw [List.getElem?_map, List.getElem?_range hi]
      rfl
    have l2 : (goneOf 0 ks (showNs rs es ns))[i]? = some (if (i : Int) ∈ ks then 0 else (showNs rs es ns).getD i 0) := by
      unfold goneOf
      rw [List.getElem?_map, List.getElem?_range (by rw [showNs_length]; exact hi)]
      rfl
    rw [l1, l2, g (by omega), g (by omega), showNs_get hi]
    by_cases z : (i : Int) ∈ ks
    · rw [if_pos z, if_pos z, if_pos z]
      have n0 : 0 ≤ ns.getD i 0 := by
        rw [List.getD_eq_getElem?_getD, List.getElem?_eq_getElem hi]
        exact h0 _ (List.getElem_mem hi)
      rw [shows_from (by decide) n0]
      simp
    · rw [if_neg z, if_neg z, if_neg z]
  · rw [List.getElem?_eq_none (by rw [showNs_length]; omega), List.getElem?_eq_none (by rw [gone_len, showNs_length]; omega)]
end K5
/-! what stays where lambdas are heard, the source moves -/
namespace K5
open L2 PySem PySem.Spec PyProof.Rows Kx RZ
/-- the source moved, tables grew, things were made -/
structure Go (Ts : List (Addr × Str)) (b : Addr) (H H' : Hp) : Prop where
  keep : ∀ c o, c ≠ b → (∀ ps, o ≠ .tbl ps) → H c = some o → H' c = some o
  box : ∃ t, H' b = some (bx t)
  tabs : LamX.Tabs Ts H'
section
variable {K : PySem.W.Frag} {Ts : List (Addr × Str)} {b a : Addr} {H H' H2 : Hp} {t : Int × Int} {xs : List V} {C c : Addr} {n : Nat} {ts : List (List Int)}
theorem tabs_mv (m : Mv b H H') (hb : H b = some (bx t)) (h : LamX.Tabs Ts H) : LamX.Tabs Ts H' := fun p hp => by
  obtain ⟨ps, h1, h2, h3⟩ := h p hp
  refine ⟨ps, m.1 _ _ (ne_of h1 hb (fun z => nomatch z)) h1, h2, fun pos cv hcv => ?_⟩
  obtain ⟨c, e1, e2⟩ := h3 pos cv hcv
  refine ⟨c, e1, m.1 _ _ (ne_of e2 hb (fun z => ?_)) e2⟩
  unfold LamX.CodeO bx at z
  cases z
theorem Go.refl (hb : H b = some (bx t)) (h : LamX.Tabs Ts H) : Go Ts b H H := ⟨fun _ _ _ _ q => q, ⟨t, hb⟩, h⟩
theorem Go.same (g : Go Ts b H H') (e : Same H' H2) : Go Ts b H H2 := ⟨fun c o n1 n2 q => e _ _ (g.keep c o n1 n2 q), g.box.elim fun t q => ⟨t, e _ _ q⟩, g.tabs.ext e⟩
theorem Go.mv (g : Go Ts b H H') (m : Mv b H' H2) : Go Ts b H H2 := ⟨fun c o n1 n2 q => m.1 _ _ n1 (g.keep c o n1 n2 q), m.2, g.box.elim fun t q => tabs_mv m q g.tabs⟩
theorem Go.ext (g : Go Ts b H H') (e : LamX.ExtN H' H2) (h : LamX.Tabs Ts H2) : Go Ts b H H2 := ⟨fun c o n1 n2 q => e _ _ (g.keep c o n1 n2 q) n2, g.box.elim fun t q => ⟨t, e _ _ q (fun _ z => nomatch z)⟩, h⟩
theorem Go.trans (g : Go Ts b H H') (k : Go Ts b H' H2) : Go Ts b H H2 := ⟨fun c o n1 n2 q => k.keep c o n1 n2 (g.keep c o n1 n2 q), k.box, k.tabs⟩
theorem Go.rd {u : HO} (g : Go Ts b H H') (hb : H b = some (bx t)) (n1 : ∀ ys, u ≠ .lst ys) (n2 : ∀ ps, u ≠ .tbl ps) (h : Rd H a u) : Rd H' a u := by
  rcases h with h | ⟨z, h⟩
  · exact .inl (g.keep _ _ (ne_of h hb (n1 _)) n2 h)
  · exact .inr ⟨z, g.keep _ _ (ne_of h hb (fun z => nomatch z)) (fun _ z => nomatch z) h⟩
theorem Go.sqT (g : Go Ts b H H') (hb : H b = some (bx t)) (h : SqT K H a xs) : SqT K H' a xs := h.imp (g.rd hb (fun _ z => nomatch z) fun _ z => nomatch z) id
theorem Go.sqL (g : Go Ts b H H') (ne : a ≠ b) (h : SqL K H a xs) : SqL K H' a xs := h.imp (fun h => h.elim (fun h => .inl (g.keep _ _ ne (fun _ z => nomatch z) h)) fun ⟨z, h⟩ => .inr ⟨z, g.keep _ _ ne (fun _ z => nomatch z) h⟩) id
theorem Go.mc (g : Go Ts b H H') (hb : H b = some (bx t)) (h : McAt K C H c n ts) : McAt K C H' c n ts := by
  obtain ⟨ok, dx, p, ps, h1, h2, h3⟩ := h
  exact ⟨ok, dx, p, ps, g.keep _ _ (ne_of h1 hb (fun z => nomatch z)) (fun _ z => nomatch z) h1, g.sqT hb h2, h3.imp fun _ _ q => g.sqT hb q⟩
theorem Go.rows {ps : List V} (g : Go Ts b H H') (hb : H b = some (bx t)) (h : RowsBy (SqT K H) ps ts) : RowsBy (SqT K H') ps ts := h.imp fun _ _ q => g.sqT hb q
theorem Go.lst {us : List V} (g : Go Ts b H H') (ne : a ≠ b) (h : H a = some (.lst us)) : H' a = some (.lst us) := g.keep _ _ ne (fun _ z => nomatch z) h
theorem ext_mc (e : LamX.ExtN H H') (h : McAt K C H c n ts) : McAt K C H' c n ts := by
  obtain ⟨ok, dx, p, ps, h1, h2, h3⟩ := h
  exact ⟨ok, dx, p, ps, e _ _ h1 (fun _ z => nomatch z), ext_sqT e h2, h3.imp fun _ _ q => ext_sqT e q⟩
theorem ext_cn {rs es : List Int} (e : LamX.ExtN H H') (h : CnAt K C H c rs es) : CnAt K C H' c rs es := by
  obtain ⟨ok, dx, p, q, h1, h2, h3⟩ := h
  exact ⟨ok, dx, p, q, e _ _ h1 (fun _ z => nomatch z), ext_sqT e h2, ext_sqT e h3⟩
theorem Go.cn {rs es : List Int} (g : Go Ts b H H') (hb : H b = some (bx t)) (h : CnAt K C H c rs es) : CnAt K C H' c rs es := by
  obtain ⟨ok, dx, p, q, h1, h2, h3⟩ := h
  exact ⟨ok, dx, p, q, g.keep _ _ (ne_of h1 hb (fun z => nomatch z)) (fun _ z => nomatch z) h1, g.sqT hb h2, g.sqT hb h3⟩
theorem lamO_ne {f : Addr} {ob : Obj} (ps : Array Value) : LamO f ob ≠ .tbl ps := fun z => by
  unfold LamO at z
  cases z
theorem lamO_bx {f : Addr} {ob : Obj} {t : Int × Int} : LamO f ob ≠ bx t := fun z => by
  unfold LamO bx at z
  cases z
theorem codeO_bx {c : Addr} {q : Str} {t : Int × Int} : LamX.CodeO c q ≠ bx t := fun z => by
  unfold LamX.CodeO bx at z
  cases z
theorem ext_lam {f : Addr} {ob : Obj} (e : LamX.ExtN H H') (h : H f = some (LamO f ob)) : H' f = some (LamO f ob) := e _ _ h lamO_ne
theorem Go.lam {f : Addr} {ob : Obj} (g : Go Ts b H H') (hb : H b = some (bx t)) (h : H f = some (LamO f ob)) : H' f = some (LamO f ob) := g.keep _ _ (ne_of h hb lamO_bx) lamO_ne h
theorem Go.code {c : Addr} {q : Str} (g : Go Ts b H H') (hb : H b = some (bx t)) (h : H c = some (LamX.CodeO c q)) : H' c = some (LamX.CodeO c q) := g.keep _ _ (ne_of h hb codeO_bx) LamX.codeO_ne h
theorem ext_code {c : Addr} {q : Str} (e : LamX.ExtN H H') (h : H c = some (LamX.CodeO c q)) : H' c = some (LamX.CodeO c q) := e _ _ h LamX.codeO_ne
theorem ext_lst {us : List V} (e : LamX.ExtN H H') (h : H a = some (.lst us)) : H' a = some (.lst us) := e _ _ h fun _ z => nomatch z
end
end K5
/-! a text times a number -/
namespace Kx
open L2 PySem PySem.Spec PyProof.Rows
theorem rep_size (c : Array Nat) : ∀ (k : Nat) (b : Array Nat), ((List.replicate k c).foldl (· ++ ·) b).size = b.size + k * c.size
  | 0, b => by simp
  | k + 1, b => by
    rw [List.replicate_succ, List.foldl_cons, rep_size c k, Array.size_append, Nat.succ_mul]
    omega
def rMulStr : R2 := fun x y H Q => ∃ (a : Str) (k : Nat), x = .str a ∧ y = .int (k : Int) ∧ 1 ≤ k ∧ k ≤ 100 ∧ a.length ≤ 100 ∧ ∀ z : Str, Q (.str z) H
theorem op_mulStr {X : Cx} : OpR X (binaryOp .Mult) rMulStr := by
  intro pins s σ H x y v u Q I rx ry h
  obtain ⟨a, k, rfl, rfl, k1, k100, la, q⟩ := h
  obtain ⟨t, rfl⟩ := rx
  obtain ⟨t', rfl⟩ := ry
  have div : (100 : Int) ≤ (2 ^ 63 - 1) / (k : Int) := (Int.le_ediv_iff_mul_le (by omega)).mpr (by omega)
  refine P.mul_str ?_ (fun _ _ => by omega) (fun _ _ => ?_) ?_
  · rw [decide_eq_false (by omega), decide_eq_false (by omega)]
    rfl
  · have : a.length * (k : Int).toNat ≤ sizeLine := by
      rw [Int.toNat_natCast]
      have h1 : a.length * k ≤ 100 * 100 := Nat.mul_le_mul la k100
      have h2 : (100 * 100 : Nat) ≤ sizeLine := by decide
      omega
    exact decide_eq_false (by omega)
  · rw [if_neg (by omega)]
    split
    · exact ⟨.str a, H, I, ⟨_, rfl⟩, q a⟩
    · refine ⟨?_, ⟨.str _, H, I.tok _, ⟨_, rfl⟩, q _⟩⟩
      have h1 : a.length * k ≤ 100 * 100 := Nat.mul_le_mul la k100
      have h2 : (100 * 100 : Nat) ≤ sizeLine := by decide
      show Str.length _ ≤ sizeLine
      unfold Str.length at *
      rw [rep_size, Int.toNat_natCast]
      have : (#[] : Array Nat).size = 0 := rfl
      rw [this, Nat.zero_add, Nat.mul_comm]
      omega
end Kx
/-! what stands while the law goes on -/
namespace K5
open PySem PySem.Spec PyProof.Rows L2 Kx RZ
/-- a statement leads from A to B, whatever the number of rows -/
def HT (X : Cx) (s : Stmt) (A B : Nat → L2.St → Hp → Prop) : Prop := ∃ t : TS, PS X s t ∧ ∀ n, 1 ≤ n → n ≤ 30 → ∀ (D : Ends) σ H, A n σ H → (∀ σ' H', B n σ' H' → D.nx σ' H') → t D σ H
def HTs (X : Cx) (ss : List Stmt) (A B : Nat → L2.St → Hp → Prop) : Prop := ∃ t : TS, PSs X ss t ∧ ∀ n, 1 ≤ n → n ≤ 30 → ∀ (D : Ends) σ H, A n σ H → (∀ σ' H', B n σ' H' → D.nx σ' H') → t D σ H
theorem HTs.cons {X : Cx} {s : Stmt} {ss : List Stmt} {A B C : Nat → L2.St → Hp → Prop} (h : HT X s A B) (g : HTs X ss B C) : HTs X (s :: ss) A C := by
  obtain ⟨t, h1, h2⟩ := h
  obtain ⟨u, g1, g2⟩ := g
  exact ⟨_, pss_cons h1 g1, fun n n1 n2 D σ H a k => h2 n n1 n2 { D with nx := u D } σ H a fun σ' H' b => g2 n n1 n2 D σ' H' b k⟩
theorem HTs.one {X : Cx} {s : Stmt} {A B : Nat → L2.St → Hp → Prop} (h : HT X s A B) : HTs X [s] A B := by
  obtain ⟨t, h1, h2⟩ := h
  exact ⟨_, pss_one h1, h2⟩
def nthS : List Stmt → Nat → Stmt
  | s :: _, 0 => s
  | _ :: r, n + 1 => nthS r n
  | [], _ => .Pass ⟨0, 0, 0, 0⟩
def inS : Stmt → List Stmt
  | .For _ _ b _ _ => b
  | _ => []
structure Gh where
  sc : Addr
  ns : List Int
  b : Addr
  pr : Addr
  rs : List Int
  pe : Addr
  es : List Int
  c : Addr
  rw : Addr
  ps : List V
  rows : List (List Int)
/-- x is none of the lists that are kept -/
def Off (K : PySem.W.Frag) (g : Gh) (x : Addr) : Prop := (g.sc ≠ x ∨ ∀ H', SqL K H' g.sc (g.ns.map V.int)) ∧ g.pr ≠ x ∧ g.pe ≠ x ∧ ∀ q, V.ref q ∈ g.ps → q ≠ x
/-- what stands -/
structure Wd (K : PySem.W.Frag) (C : Addr) (Ts : List (Addr × Str)) (g : Gh) (H : Hp) : Prop where
  sc : SqL K H g.sc (g.ns.map V.int)
  len : g.ns.length ≤ 63
  pr : H g.pr = some (.lst (g.rs.map V.int))
  pe : H g.pe = some (.lst (g.es.map V.int))
  cn : CnAt K C H g.c g.rs g.es
  rw : H g.rw = some (.lst g.ps)
  rows : RowsBy (fun q xs => H q = some (.lst xs)) g.ps g.rows
  low : ∀ r ∈ g.rows, r.length ≤ 89 ∧ ∀ x ∈ r, 0 ≤ x ∧ x < (g.rs.length : Int)
  off : Off K g g.rw
  tabs : LamX.Tabs Ts H
/-- and the source -/
structure On (K : PySem.W.Frag) (C : Addr) (Ts : List (Addr × Str)) (g : Gh) (H : Hp) : Prop where
  wd : Wd K C Ts g H
  off : Off K g g.b
  ne : g.rw ≠ g.b
  box : ∃ t, H g.b = some (bx t)
theorem RowsBy.impM {R S : Addr → List V → Prop} : ∀ {vs : List V} {ts : List (List Int)}, (∀ q xs, V.ref q ∈ vs → R q xs → S q xs) → RowsBy R vs ts → RowsBy S vs ts
  | [], [], _, _ => trivial
  | v :: vs, _ :: _, e, ⟨⟨q, h1, h2⟩, h⟩ => ⟨⟨q, h1, e _ _ (by rw [h1]; exact List.mem_cons_self ..) h2⟩, RowsBy.impM (fun q xs z => e q xs (List.mem_cons_of_mem _ z)) h⟩
  | [], _ :: _, _, h => h.elim
  | _ :: _, [], _, h => h.elim
theorem RowsBy.refs {R : Addr → List V → Prop} : ∀ {vs : List V} {ts : List (List Int)}, RowsBy R vs ts → ∀ {q : Addr}, V.ref q ∈ vs → ∃ xs, R q xs
  | [], [], _, _, h => nomatch h
  | _ :: _, _ :: _, ⟨⟨q, h1, h2⟩, h⟩, x, m => by
    rcases List.mem_cons.mp m with z | z
    · rw [h1] at z
      cases z
      exact ⟨_, h2⟩
    · exact RowsBy.refs h z
  | [], _ :: _, h, _, _ => h.elim
  | _ :: _, [], h, _, _ => h.elim
/-- the same things in another order -/
theorem RowsBy.perm {R : Addr → List V → Prop} {us vs : List V} (p : us.Perm vs) : ∀ {ts : List (List Int)}, RowsBy R vs ts → ∃ ss : List (List Int), RowsBy R us ss ∧ ss.Perm ts := by
  induction p with
  | nil => exact fun {ts} h => ⟨ts, h, .refl _⟩
  | cons x _ ih =>
    intro ts h
    match ts, h with
    | t :: ts, ⟨h1, h2⟩ =>
      obtain ⟨ss, a, b⟩ := ih h2
      exact ⟨t :: ss, ⟨h1, a⟩, b.cons _⟩
  | swap x y l =>
    intro ts h
    match ts, h with
    | s :: t :: ts, ⟨h1, h2, h3⟩ => exact ⟨t :: s :: ts, ⟨h2, h1, h3⟩, .swap _ _ _⟩
  | trans _ _ i1 i2 =>
    intro ts h
    obtain ⟨ss, a, b⟩ := i2 h
    obtain ⟨s2, a2, b2⟩ := i1 a
    exact ⟨s2, a2, b2.trans b⟩
section
variable {K : PySem.W.Frag} {C : Addr} {Ts : List (Addr × Str)} {g : Gh} {H H' H2 : Hp} {x : Addr}
theorem keepT {a : Addr} {xs : List V} (k : ∀ c o, c ≠ a → H c = some o → H' c = some o) (ha : H a = some (.lst xs)) (h : LamX.Tabs Ts H) : LamX.Tabs Ts H' := fun p hp => by
  obtain ⟨ps, h1, h2, h3⟩ := h p hp
  refine ⟨ps, k _ _ (ne_of h1 ha (fun z => nomatch z)) h1, h2, fun pos cv hcv => ?_⟩
  obtain ⟨c, e1, e2⟩ := h3 pos cv hcv
  refine ⟨c, e1, k _ _ (ne_of e2 ha (fun z => ?_)) e2⟩
  unfold LamX.CodeO at z
  cases z
theorem ne_free {a : Addr} {o : HO} (h : H a = some o) (n : H x = none) : a ≠ x := fun z => by rw [z, n] at h; cases h
theorem Wd.free (w : Wd K C Ts g H) (n : H x = none) : Off K g x ∧ g.rw ≠ x := by
  refine ⟨⟨?_, ne_free w.pr n, ne_free w.pe n, fun q hq => ?_⟩, ne_free w.rw n⟩
  · rcases w.sc with (h | ⟨z, h⟩) | h
    · exact .inl (ne_free h n)
    · exact .inl (ne_free h n)
    · exact .inr fun _ => .inr h
  · obtain ⟨xs, h⟩ := w.rows.refs hq
    exact ne_free h n
theorem Wd.same (w : Wd K C Ts g H) (e : Same H H') : Wd K C Ts g H' := ⟨sqL_same e w.sc, w.len, e _ _ w.pr, e _ _ w.pe, w.cn.same e, e _ _ w.rw, w.rows.imp fun _ _ h => e _ _ h, w.low, w.off, w.tabs.ext e⟩
theorem On.gr (o : On K C Ts g H) : Go Ts g.b H H := o.box.elim fun t h => Go.refl h o.wd.tabs
theorem On.go (o : On K C Ts g H) (m : Go Ts g.b H H') : On K C Ts g H' := by
  obtain ⟨t, hb⟩ := o.box
  obtain ⟨w, ⟨f1, f2, f3, f4⟩, ne, -⟩ := o
  refine ⟨⟨?_, w.len, m.lst f2 w.pr, m.lst f3 w.pe, m.cn hb w.cn, m.lst ne w.rw, w.rows.impM fun q xs z h => m.lst (f4 q z) h, w.low, w.off, m.tabs⟩, ⟨f1, f2, f3, f4⟩, ne, m.box⟩
  rcases f1 with f1 | f1
  · exact m.sqL f1 w.sc
  · exact f1 _
theorem On.same (o : On K C Ts g H) (e : Same H H') : On K C Ts g H' := o.go (o.gr.same e)
theorem On.mv (o : On K C Ts g H) (m : Mv g.b H H') : On K C Ts g H' := o.go (o.gr.mv m)
theorem On.free (o : On K C Ts g H) (n : H x = none) : x ≠ g.b := o.box.elim fun t h => (ne_free h n).symm
/-- a source is made -/
theorem Wd.on {t : Int × Int} (w : Wd K C Ts g H) (e : Same H H') (n : H x = none) (hb : H' x = some (bx t)) : On K C Ts { g with b := x } H' := by
  have f := w.free n
  have w' := w.same e
  exact ⟨⟨w'.sc, w'.len, w'.pr, w'.pe, w'.cn, w'.rw, w'.rows, w'.low, w'.off, w'.tabs⟩, f.1, f.2, t, hb⟩
/-- a row more -/
theorem On.more {q : Addr} {row : List Int} (o : On K C Ts g H) (hq : H q = some (.lst (row.map V.int))) (n1 : q ≠ g.rw) (n2 : q ≠ g.b) (l : row.length ≤ 89) (lw : ∀ x ∈ row, 0 ≤ x ∧ x < (g.rs.length : Int)) :
    On K C Ts { g with ps := g.ps ++ [.ref q], rows := g.rows ++ [row] } (upd H g.rw (.lst (g.ps ++ [.ref q]))) := by
  obtain ⟨w, ⟨f1, f2, f3, f4⟩, ne, t, hb⟩ := o
  have k : ∀ c o, c ≠ g.rw → H c = some o → (upd H g.rw (.lst (g.ps ++ [.ref q]))) c = some o := fun c o z h => by rw [upd_ne z]; exact h
  obtain ⟨r1, r2, r3, r4⟩ := id w.off
  have mem : ∀ {q' : Addr}, V.ref q' ∈ g.ps ++ [.ref q] → V.ref q' ∈ g.ps ∨ q' = q := fun h => by
    rcases List.mem_append.mp h with h | h
    · exact .inl h
    · have := List.mem_singleton.mp h
      cases this
      exact .inr rfl
  have sqT : ∀ {p : Addr} {xs : List V}, SqT K H p xs → SqT K (upd H g.rw (.lst (g.ps ++ [.ref q]))) p xs := fun {p xs} h => by
    rcases h with (h | ⟨z, h⟩) | h
    · exact .inl (.inl (k _ _ (ne_of h w.rw (fun z => nomatch z)) h))
    · exact .inl (.inr ⟨z, k _ _ (ne_of h w.rw (fun z => nomatch z)) h⟩)
    · exact .inr h
  refine ⟨⟨?_, w.len, k _ _ r2 w.pr, k _ _ r3 w.pe, ?_, upd_same, ?_, fun r hr => ?_, ⟨r1, r2, r3, fun q' hq' => ?_⟩, keepT k w.rw w.tabs⟩, ⟨f1, f2, f3, fun q' hq' => ?_⟩, ne, t, k _ _ (Ne.symm ne) hb⟩
  · rcases r1 with z | z
    · rcases w.sc with (h | ⟨o, h⟩) | h
      · exact .inl (.inl (k _ _ z h))
      · exact .inl (.inr ⟨o, k _ _ z h⟩)
      · exact .inr h
    · exact z _
  · obtain ⟨ok, dx, p1, p2, h1, h2, h3⟩ := w.cn
    exact ⟨ok, dx, p1, p2, k _ _ (ne_of h1 w.rw (fun z => nomatch z)) h1, sqT h2, sqT h3⟩
  · exact RowsBy.snoc (k _ _ n1 hq) (w.rows.impM fun q' xs z h => k _ _ (r4 q' z) h)
  · rcases List.mem_append.mp hr with h | h
    · exact w.low r h
    · rw [List.mem_singleton.mp h]
      exact ⟨l, lw⟩
  · rcases mem hq' with h | h
    · exact r4 q' h
    · rw [h]; exact n1
  · rcases mem hq' with h | h
    · exact f4 q' h
    · rw [h]; exact n2
end
/-- what a row shows -/
def shR (g : Gh) (row : List Int) : List Int := showNs g.rs g.es (countsOf g.rs.length row)
def tot (g : Gh) : List Int := sumOf g.rs.length (g.rows.map (countsOf g.rs.length))
def due (g : Gh) : List Int := showNs g.rs g.es (tot g)
def S1 (K : PySem.W.Frag) (g : Gh) (S : Addr) (H : Hp) : Prop := ∃ ss, S ≠ g.b ∧ H S = some (.lst ss) ∧ RowsBy (SqT K H) ss (g.rows.map (shR g))
def L1 (K : PySem.W.Frag) (g : Gh) (L : Addr) (H : Hp) : Prop := ∃ ls lss, L ≠ g.b ∧ H L = some (.lst ls) ∧ RowsBy (SqT K H) ls lss ∧ lss.Perm (g.rows.map (shR g))
def N1 (g : Gh) (L : Addr) (ms : List Int) (H : Hp) : Prop := L ≠ g.b ∧ H L = some (.lst (ms.map V.int))
section
variable {K : PySem.W.Frag} {C : Addr} {Ts : List (Addr × Str)} {g : Gh} {H H' H2 : Hp} {x : Addr} {ms : List Int} {xs : List V}
theorem On.sqT (o : On K C Ts g H) (m : Go Ts g.b H H') (h : SqT K H x xs) : SqT K H' x xs := o.box.elim fun t hb => m.sqT hb h
theorem On.rowsT {ps : List V} {ts : List (List Int)} (o : On K C Ts g H) (m : Go Ts g.b H H') (h : RowsBy (SqT K H) ps ts) : RowsBy (SqT K H') ps ts := h.imp fun _ _ q => o.sqT m q
theorem On.cn {rs es : List Int} (o : On K C Ts g H) (m : Go Ts g.b H H') (h : CnAt K C H x rs es) : CnAt K C H' x rs es := o.box.elim fun t hb => m.cn hb h
theorem On.s1 (o : On K C Ts g H) (m : Go Ts g.b H H') (h : S1 K g x H) : S1 K g x H' := by
  obtain ⟨ss, h1, h2, h3⟩ := h
  exact ⟨ss, h1, m.lst h1 h2, o.rowsT m h3⟩
theorem On.l1 (o : On K C Ts g H) (m : Go Ts g.b H H') (h : L1 K g x H) : L1 K g x H' := by
  obtain ⟨ls, lss, h1, h2, h3, h4⟩ := h
  exact ⟨ls, lss, h1, m.lst h1 h2, o.rowsT m h3, h4⟩
theorem N1.go (m : Go Ts g.b H H') (h : N1 g x ms H) : N1 g x ms H' := ⟨h.1, m.lst h.1 h.2⟩
end
end K5
/-! what merged is asked -/
namespace K5
open PySem PySem.Spec PyProof.Rows L2 Kx RZ
theorem some_inj {a b : List Int} (h : someI a = someI b) : a = b := ints_inj (Option.some.inj h)
theorem somes_inj : ∀ {a b : List (List Int)}, a.map someI = b.map someI → a = b
  | [], [], _ => rfl
  | x :: a, y :: b, h => by
    rw [List.map_cons, List.map_cons, List.cons.injEq] at h
    rw [some_inj h.1, somes_inj h.2]
  | [], _ :: _, h => nomatch h
  | _ :: _, [], h => nomatch h
section
variable {K : PySem.W.Frag} {a : Ad} {C : Addr} {H : Hp} {E : XK} {Q : VK} {rs es ns : List Int} {c q : Addr} {ls : List V} {lss : List (List Int)} {v : V} {o : Option (List V)}
theorem right_not (r : Right rs es ns) : ¬ BadShow rs es (someI ns) := fun b => by
  rcases b with b | ⟨i, _, x, hx, hf⟩
  · exact b (by rw [List.length_map]; exact r.1)
  · have := r.2 i x hx
    rw [this] at hf
    cases hf
theorem kn_ints {xs : List Int} {z : V} (h : z ∈ xs.map V.int) : Kn K H z := by
  obtain ⟨n, _, rfl⟩ := List.mem_map.mp h
  exact .int n
theorem rows_long : ∀ {ls : List V} {lss : List (List Int)}, RowsBy (Sq K H) ls lss → ∀ (i : Nat) (x : V) (y : Option (List V)), ls[i]? = some x → (lss.map someI)[i]? = some y → Long K H x y ∧ ∀ zs, y = some zs → zs.length = rs.length → ∀ z ∈ zs, Kn K H z
  | v :: ls, t :: lss, ⟨⟨p, h1, h2⟩, h⟩, 0, x, y, hx, hy => by
    rw [List.getElem?_cons_zero, Option.some.injEq] at hx
    rw [List.map_cons, List.getElem?_cons_zero, Option.some.injEq] at hy
    rw [← hx, ← hy, h1]
    exact ⟨.seq h2, fun zs e _ z hz => kn_ints (xs := t) (by rw [Option.some.inj e]; exact hz)⟩
  | v :: ls, t :: lss, ⟨_, h⟩, i + 1, x, y, hx, hy => by
    rw [List.getElem?_cons_succ] at hx
    rw [List.map_cons, List.getElem?_cons_succ] at hy
    exact rows_long h i x y hx hy
  | [], [], _, i, x, y, hx, _ => by simp at hx
  | [], _ :: _, h, _, _, _, _, _ => h.elim
  | _ :: _, [], h, _, _, _, _, _ => h.elim
/-- right showings are merged -/
theorem merged_of (cn : CnAt K C H c rs es) (hv : Sq K H q ls) (rows : RowsBy (Sq K H) ls lss) (rt : ∀ x ∈ lss, Right rs es x)
    (k : ∀ p H', Same H H' → SqT K H' p ((showNs rs es (sumOf rs.length lss)).map V.int) → Q (.ref p) H') : spMerged K a C [.ref c, .ref q] H Q E := by
  refine ⟨c, rs, es, _, _, rfl, cn, .seq hv, (fun z => nomatch z), fun xs ex => ?_⟩
  cases ex
  refine ⟨lss.map someI, by rw [List.length_map]; exact rows.length, fun i x y hx hy => rows_long rows i x y hx hy, fun nss y r e _ bad => ?_, fun nss e _ p H' e' hp => ?_⟩
  · have m : y ∈ lss.map someI := by rw [e]; exact List.mem_append.mpr (.inr (List.mem_cons_self ..))
    obtain ⟨n, hn, rfl⟩ := List.mem_map.mp m
    exact absurd bad (right_not (rt n hn))
  · rw [← somes_inj e] at hp
    exact k p H' e' hp
/-- the last showing is none -/
theorem merged_bad (cn : CnAt K C H c rs es) (hv : Sq K H q (ls ++ [v])) (rows : RowsBy (Sq K H) ls lss) (rt : ∀ x ∈ lss, Right rs es x) (long : Long K H v o) (kn : ∀ zs, o = some zs → zs.length = rs.length → ∀ z ∈ zs, Kn K H z) (bad : BadShow rs es o)
    (k : Thrown E H a.cS "at" (.int (lss.length : Nat))) : spMerged K a C [.ref c, .ref q] H Q E := by
  refine ⟨c, rs, es, _, _, rfl, cn, .seq hv, (fun z => nomatch z), fun xs ex => ?_⟩
  cases ex
  have ln := rows.length
  refine ⟨lss.map someI ++ [o], by rw [List.length_append, List.length_append, List.length_map, ln]; rfl, fun i x y hx hy => ?_, fun nss y r e rg b => ?_, fun nss e rg p H' e' hp => ?_⟩
  · by_cases lt : i < ls.length
    · rw [List.getElem?_append_left lt] at hx
      rw [List.getElem?_append_left (by rw [List.length_map, ← ln]; exact lt)] at hy
      exact rows_long rows i x y hx hy
    · have i0 : i = ls.length := by
        have := (List.getElem?_eq_some_iff.mp hx).1
        rw [List.length_append, List.length_singleton] at this
        omega
      rw [i0, List.getElem?_append_right (Nat.le_refl _), Nat.sub_self, List.getElem?_cons_zero, Option.some.injEq] at hx
      rw [i0, List.getElem?_append_right (by rw [List.length_map, ← ln]; exact Nat.le_refl _), List.length_map, ← ln, Nat.sub_self, List.getElem?_cons_zero, Option.some.injEq] at hy
      rw [← hx, ← hy]
      exact ⟨long, kn⟩
  · have le : nss.length = lss.length := by
      rcases Nat.lt_or_ge nss.length lss.length with lt | ge
      · have h1 : (nss.map someI ++ y :: r)[nss.length]? = some y := by
          rw [List.getElem?_append_right (by rw [List.length_map]; exact Nat.le_refl _), List.length_map, Nat.sub_self, List.getElem?_cons_zero]
        rw [← e, List.getElem?_append_left (by rw [List.length_map]; exact lt), List.getElem?_map] at h1
        obtain ⟨n, hn, rfl⟩ := Option.map_eq_some_iff.mp h1
        exact absurd b (right_not (rt n (List.mem_of_getElem? hn)))
      · have := congrArg List.length e
        simp only [List.length_append, List.length_map, List.length_cons, List.length_nil] at this
        omega
    rw [le]
    exact k
  · have m : o ∈ nss.map someI := by rw [← e]; exact List.mem_append.mpr (.inr (List.mem_cons_self ..))
    obtain ⟨n, hn, rfl⟩ := List.mem_map.mp m
    exact absurd bad (right_not (rg n hn))
/-- no sequence is merged -/
theorem merged_none (cn : CnAt K C H c rs es) (long : Long K H v none) (k : Thrown E H a.cF "at" v) : spMerged K a C [.ref c, v] H Q E :=
  ⟨c, rs, es, _, _, rfl, cn, long, fun _ => k, fun _ z => nomatch z⟩
theorem thrown_S {i : Int} (h : ∀ p H2, Same H H2 → SqT K H2 p [.str "showing", .int i, .bl true] → Q (.ref p) H2) : Thrown (fun cls d H' => Out K a cls d H' Q) H a.cS "at" (.int i) :=
  fun d H' e hd => ⟨d, rfl, .inl ⟨rfl, i, hd, fun p H2 e2 hp => h p H2 (e.trans e2) hp⟩⟩
theorem thrown_F {dt : PyData} (kn : Kn K H v) (sd : ∀ H', Same H H' → ShowD K H' v dt) (h : ∀ p H2, Same H H2 → SqT K H2 p [.str "refused", .str dt.shown, .bl true] → Q (.ref p) H2) : Thrown (fun cls d H' => Out K a cls d H' Q) H a.cF "at" v :=
  fun d H' e hd => ⟨d, rfl, .inr ⟨rfl, v, dt, hd, kn.same e, fun H2 e2 => sd H2 (e.trans e2), fun p H2 e2 hp => h p H2 (e.trans e2) hp⟩⟩
end
end K5
/-! the law -/
namespace K5
open PySem PySem.Spec PyProof.Rows L2 Kx RZ
theorem pz {X : Cx} : Passes (L2.CX X.prog X.w) X fun _ _ _ => False := passes_call LamX.takes0 fun _ _ _ _ z => z
/-- behind an expression a word of one's own -/
def tMid (t : TE) : TE := fun σ H Q => ∃ N : V → Hp → Prop, t σ H N ∧ ∀ v H', N v H' → Q v H'
theorem pe_mid {X : Cx} {e : PySem.Expr} {t : TE} (h : PE X e t) : PE X e (tMid t) := ⟨fun pins s σ H Q I ⟨N, q, k⟩ => wpAny_mono (h.run pins s σ H N I q) (fun v s' ⟨x, H', J, r, n⟩ => ⟨x, H', J, r, k x H' n⟩) fun _ _ z => z⟩
theorem call_listK {X : Cx} {K : PySem.W.Frag} (hK : X.K = K := by rfl) : CallR X (.type "list") (fun xs H Q => ∃ p ys, xs = [.ref p] ∧ (SqL K H p ys ∨ SqT K H p ys) ∧ ∀ l, H l = none → Q (.ref l) (upd H l (.lst ys))) := by
  subst hK
  exact call_list_of
theorem op_neSameK {X : Cx} {K : PySem.W.Frag} (hu : X.A.units + 64 < cLine) (hK : X.K = K := by rfl) : OpR X (compareOp .NotEq) (rSame K false) := by
  subst hK
  exact op_neSame hu
/-- c != d, counters of one content -/
def rNeC (K : PySem.W.Frag) (C : Addr) : R2 := fun x y H Q => ∃ (m d : Addr) (rs es : List Int), x = .ref m ∧ y = .ref d ∧ CnAt K C H m rs es ∧ CnAt K C H d rs es ∧ ∀ H', Same H H' → Q (.bl false) H'
theorem op_neC {X : Cx} {a : Ad} {C CM : Addr} {n : Nat} (M : Mks X.prog X.w X.K X.mg X.base a C CM) (hr : Room n X.A) (hn : 2 ≤ n := by decide) {K : PySem.W.Frag} (hK : X.K = K := by rfl) : OpR X (compareOp .NotEq) (rNeC K C) := by
  subst hK
  intro pins st σ H x y v u Q I rx ry ⟨m, d, rs, es, ex, ey, hm, hd, q⟩
  obtain ⟨f, fd, h1, h2, h3⟩ := M.eqC
  obtain ⟨_, dx, _, _, c1, _⟩ := id hm
  obtain ⟨_, dy, _, _, d1, _⟩ := id hd
  refine own_ne h3 h1 h2 (hr.mono (by omega)) pass0 pins st σ H x y v u Q I rx ry ⟨m, d, dx, _, ex, ey, c1, .inl ⟨dy, _, d1⟩, m, _, _, d, by rw [ex, ey], hm, .inl ⟨_, _, hd, fun H' e => ⟨_, rfl, ?_⟩⟩⟩
  rw [decide_eq_true ⟨rfl, rfl⟩]
  exact q H' e
def kw2 : List V → List V → List V := fun _ zs => [zs.getD 1 .non, zs.getD 0 .non]
def kw3 : List V → List V → List V := fun _ zs => [zs.getD 2 .non, zs.getD 1 .non, zs.getD 0 .non]
def spLaw (K : PySem.W.Frag) (Ts : List (Addr × Str)) : Sp := fun vs H Q _ => ∃ (a : Addr) (ns : List Int), vs = [.ref a] ∧ SqL K H a (ns.map V.int) ∧ ns.length ≤ 63 ∧ LamX.Tabs Ts H ∧ ∀ H', Q (.bl true) H'
abbrev sgX (a : Addr) (x1 x2 x3 x4 x5 x6 x7 x8 x9 x10 x11 x12 x13 x14 x15 x16 x17 x18 x19 x20 x21 x22 x23 x24 x25 x26 x27 x28 : Option V) : L2.St := [some (.ref a), x1, x2, x3, x4, x5, x6, x7, x8, x9, x10, x11, x12, x13, x14, x15, x16, x17, x18, x19, x20, x21, x22, x23, x24, x25, x26, x27, x28]
def iv (ns : List Nat) : List V := ns.map fun n => V.int (n : Nat)
/-- what the law calls -/
structure FnL (P : Program) (w : World) (K : PySem.W.Frag) (mg : Str → Option Value) (base : Heap) (a : Ad) (C : Addr) : Prop where
  box : Cal P w K mg base CX0 1 "_law_box" ["script", "k"] (spBox K)
  take : Cal P w K mg base CX0 1 "_law_take" ["box", "many"] spTake
  pick : Cal P w K mg base CX0 2 "_law_pick" ["box", "some"] (spPick K)
  mixed : Cal P w K mg base CX0 2 "_law_mixed" ["box", "some"] (spMixed K)
  show_ : Cal P w K mg base CX0 1 "_law_show" ["rounds", "rests", "numbers"] (spLawShow K)
  nums : Cal P w K mg base CX0 1 "_law_numbers" ["many", "row"] (spNumbers K)
  shown : Cal P w K mg base (L2.CX P w) 5 "shown" ["counters", "row"] (spShown K C)
  merged : Cal P w K mg base (L2.CX P w) 7 "merged" ["counters", "showings"] (spMerged K a C)
  mergedK : CalN P w K mg base (L2.CX P w) 7 0 "merged" ["counters", "showings"] ["showings", "counters"] kw2 (spMerged K a C)
  without : Cal P w K mg base (L2.CX P w) 7 "without_kinds" ["counters", "kinds"] (spWithout K a C)
  withoutK : CalN P w K mg base (L2.CX P w) 7 0 "without_kinds" ["counters", "kinds"] ["kinds", "counters"] kw2 (spWithout K a C)
  leftS : Cal P w K mg base (L2.CX P w) 6 "left_showing" ["counters", "kinds", "showing"] (spLeft K a C)
  leftK : CalN P w K mg base (L2.CX P w) 6 0 "left_showing" ["counters", "kinds", "showing"] ["showing", "kinds", "counters"] kw3 (spLeft K a C)
section
variable {P : Program} {w : World} {K : PySem.W.Frag} {mg : Str → Option Value} {base : Heap} {f : Addr} {fd : FuncData} {a : Ad} {C CM cW : Addr} {Ts : List (Addr × Str)} {g cc Pt : Addr} {fdg : FuncData}
abbrev lawN : List Str := ["script", "box", "many", "rounds", "rests", "counters", "rows", "k", "row", "showings", "numbers", "one", "due", "left", "cut", "pieces", "kinds", "gone", "still", "told", "rest", "bad", "odd", "full", "kind", "turn", "old", "more", "number"]
theorem sc_law : FnScope ["script", "box", "many", "rounds", "rests", "counters", "rows", "k", "row", "showings", "numbers", "one", "due", "left", "cut", "pieces", "kinds", "gone", "still", "told", "rest", "bad", "odd", "full", "kind", "turn", "old", "more", "number"] ["script"] (defScope s_law) := ⟨rfl, rfl, rfl, by decide +kernel, rfl, by decide +kernel, by decide +kernel⟩
abbrev XW (P : Program) (w : World) (K : PySem.W.Frag) (mg : Str → Option Value) (base : Heap) (f cc : Addr) (A : Around) (outer : List Env) (s : Shared) (H : Hp) (E : XK) : Cx := (cxOf C8.CX0 P w K mg base ["script", "box", "many", "rounds", "rests", "counters", "rows", "k", "row", "showings", "numbers", "one", "due", "left", "cut", "pieces", "kinds", "gone", "still", "told", "rest", "bad", "odd", "full", "kind", "turn", "old", "more", "number"] "law" (defScope s_law) f (.ref cc) A outer s H E).nox
abbrev bodyS : List Stmt := inS (nthS (defBody s_law) 5)
/-- what the law's statements know -/
structure Lw (P : Program) (w : World) (K : PySem.W.Frag) (mg : Str → Option Value) (base : Heap) (f cc : Addr) (A0 : Around) (o0 : List Env) (s0 : Shared) (H0 : Hp) (E0 : XK) (a : Ad) (C CM cW : Addr) (Ts : List (Addr × Str)) (g : Addr) (fdg : FuncData) (Pt : Addr) : Prop where
  T : Mg mg
  TC : ClsC K mg C
  M : Mks P w K mg base a C CM
  B : FnL P w K mg base a C
  hr : Room 11 (XW P w K mg base f cc A0 o0 s0 H0 E0).A
  cs : CallR (XW P w K mg base f cc A0 o0 s0 H0 E0) (.builtin "repr") (rShow K)
  hf : HF (XW P w K mg base f cc A0 o0 s0 H0 E0) a C CM cW Ts g fdg cc Pt s_law
abbrev stX (q : Gh) (b : Option V) (x7 x8 x9 x10 x11 x12 x13 x14 x15 x16 x17 x18 x19 x20 x21 x22 x23 x24 x25 x26 x27 x28 : Option V) : L2.St :=
  sgX q.sc b (some (.int (q.rs.length : Nat))) (some (.ref q.pr)) (some (.ref q.pe)) (some (.ref q.c)) (some (.ref q.rw)) x7 x8 x9 x10 x11 x12 x13 x14 x15 x16 x17 x18 x19 x20 x21 x22 x23 x24 x25 x26 x27 x28
end
end K5
/-! the law's stages -/
namespace K5
open PySem PySem.Spec PyProof.Rows L2 Kx RZ
/-- no such value is a showing -/
def BadV (K : PySem.W.Frag) (q : Gh) (v : V) (H : Hp) : Prop := ∃ o, BadShow q.rs q.es o ∧ (∀ zs, o = some zs → zs.length = q.rs.length → ∀ z ∈ zs, flatV z = true) ∧
  ((o = none ∧ ∀ H', Long K H' v none) ∨ (∃ p xs, o = some xs ∧ v = .ref p ∧ p ≠ q.b ∧ SqL K H p xs) ∨ ∃ p xs, o = some xs ∧ v = .ref p ∧ SqT K H p xs)
/-- the text of dt is short -/
def Shorts (dt : PyData) : Prop := dt.showable = true ∧ dt.hasDict = false ∧ dt.depth ≤ 60 ∧ dt.shown.length ≤ sizeLine
/-- no such value tells kinds -/
def OddV (K : PySem.W.Frag) (q : Gh) (v : V) (H : Hp) : Prop := ∃ o dt, ascOf q.rs.length o = false ∧ (∀ H', Kns K H' o 4) ∧ Shorts dt ∧
  ((o = none ∧ ∀ H', Long K H' v none ∧ Kn K H' v ∧ Dp K H' v dt) ∨ ∃ p xs ds, o = some xs ∧ v = .ref p ∧ p ≠ q.b ∧ H p = some (.lst xs) ∧ dt = .list ds ∧ ∀ H', DpAll K H' xs ds)
/-- no such value is a row of showings -/
def OddM (K : PySem.W.Frag) (v : V) : Prop := ∃ dt, Shorts dt ∧ ∀ H', Long K H' v none ∧ Kn K H' v ∧ Dp K H' v dt
section
variable {K : PySem.W.Frag} {C : Addr} {Ts : List (Addr × Str)} {q : Gh} {H H' : Hp} {v : V}
theorem On.bad (o : On K C Ts q H) (m : Go Ts q.b H H') (h : BadV K q v H) : BadV K q v H' := by
  obtain ⟨p, h1, h2, h3⟩ := h
  refine ⟨p, h1, h2, h3.imp id (fun h => h.imp ?_ ?_)⟩
  · rintro ⟨b, xs, e, e2, ne, h⟩
    exact ⟨b, xs, e, e2, ne, m.sqL ne h⟩
  · rintro ⟨b, xs, e, e2, h⟩
    exact ⟨b, xs, e, e2, o.sqT m h⟩
theorem BadV.now (h : BadV K q v H) : ∃ o, Long K H v o ∧ (∀ zs, o = some zs → zs.length = q.rs.length → ∀ z ∈ zs, flatV z = true) ∧ BadShow q.rs q.es o := by
  obtain ⟨p, h1, h2, ⟨rfl, h⟩ | ⟨b, xs, rfl, rfl, ne, h⟩ | ⟨b, xs, rfl, rfl, h⟩⟩ := h
  · exact ⟨none, h H, h2, h1⟩
  · exact ⟨some xs, .seq (.inl h), h2, h1⟩
  · exact ⟨some xs, .seq (.inr h), h2, h1⟩
theorem OddV.go (m : Go Ts q.b H H') (h : OddV K q v H) : OddV K q v H' := by
  obtain ⟨p, dt, h1, h2, h3, h4⟩ := h
  refine ⟨p, dt, h1, h2, h3, h4.imp id ?_⟩
  rintro ⟨b, xs, ds, e, e2, ne, hp, r⟩
  exact ⟨b, xs, ds, e, e2, ne, m.lst ne hp, r⟩
theorem OddV.now (h : OddV K q v H) : ∃ o dt, ascOf q.rs.length o = false ∧ Kns K H o 4 ∧ Long K H v o ∧ Kn K H v ∧ ∀ H', Same H H' → ShowD K H' v dt := by
  obtain ⟨p, dt, h1, h2, ⟨s1, s2, s3, s4⟩, ⟨rfl, h5⟩ | ⟨b, xs, ds, rfl, rfl, ne, hp, rfl, hd⟩⟩ := h
  · exact ⟨none, dt, h1, h2 H, (h5 H).1, (h5 H).2.1, fun H' _ => ⟨(h5 H').2.2, s1, s2, s3, s4⟩⟩
  · exact ⟨some xs, .list ds, h1, h2 H, .seq (.inl (SqL.of hp)), .seq (.inl (SqL.of hp)), fun H' e => ⟨.lst (SqL.of (e _ _ hp)) (hd H'), s1, s2, s3, s4⟩⟩
theorem OddM.now (h : OddM K v) : ∃ dt, Long K H v none ∧ Kn K H v ∧ ∀ H', Same H H' → ShowD K H' v dt := by
  obtain ⟨dt, ⟨s1, s2, s3, s4⟩, h⟩ := h
  exact ⟨dt, (h H).1, (h H).2.1, fun H' _ => ⟨(h H').2.2, s1, s2, s3, s4⟩⟩
end
abbrev T0 (K : PySem.W.Frag) (C : Addr) (Ts : List (Addr × Str)) (n : Nat) : L2.St → Hp → Prop := fun σ H => ∃ (q : Gh) (b : Option V) (k : Nat) (x8 x9 x10 x11 x12 x13 x14 x15 x16 x17 x18 x19 x20 x21 x22 x23 x24 x25 x26 x27 x28 : Option V), σ = stX q b (some (.int (k : Nat))) x8 x9 x10 x11 x12 x13 x14 x15 x16 x17 x18 x19 x20 x21 x22 x23 x24 x25 x26 x27 x28 ∧ Wd K C Ts q H ∧ q.rows.length + 1 = n
abbrev T1 (K : PySem.W.Frag) (C : Addr) (Ts : List (Addr × Str)) (n : Nat) : L2.St → Hp → Prop := fun σ H => ∃ (q : Gh)  (x7 x8 x9 x10 x11 x12 x13 x14 x15 x16 x17 x18 x19 x20 x21 x22 x23 x24 x25 x26 x27 x28 : Option V), σ = stX q (some (.ref q.b)) x7 x8 x9 x10 x11 x12 x13 x14 x15 x16 x17 x18 x19 x20 x21 x22 x23 x24 x25 x26 x27 x28 ∧ On K C Ts q H ∧ q.rows.length + 1 = n
abbrev T2 (K : PySem.W.Frag) (C : Addr) (Ts : List (Addr × Str)) (n : Nat) : L2.St → Hp → Prop := fun σ H => ∃ (q : Gh) (ra : Addr) (r : List Int) (x7 x9 x10 x11 x12 x13 x14 x15 x16 x17 x18 x19 x20 x21 x22 x23 x24 x25 x26 x27 x28 : Option V), σ = stX q (some (.ref q.b)) x7 (some (.ref ra)) x9 x10 x11 x12 x13 x14 x15 x16 x17 x18 x19 x20 x21 x22 x23 x24 x25 x26 x27 x28 ∧ On K C Ts q H ∧ q.rows.length + 1 = n ∧ ra ≠ q.rw ∧ ra ≠ q.b ∧ H ra = some (.lst (r.map V.int)) ∧ r.length ≤ 89 ∧ ∀ x ∈ r, 0 ≤ x ∧ x < (q.rs.length : Int)
abbrev T3 (K : PySem.W.Frag) (C : Addr) (Ts : List (Addr × Str)) (n : Nat) : L2.St → Hp → Prop := fun σ H => ∃ (q : Gh)  (x7 x8 x9 x10 x11 x12 x13 x14 x15 x16 x17 x18 x19 x20 x21 x22 x23 x24 x25 x26 x27 x28 : Option V), σ = stX q (some (.ref q.b)) x7 x8 x9 x10 x11 x12 x13 x14 x15 x16 x17 x18 x19 x20 x21 x22 x23 x24 x25 x26 x27 x28 ∧ On K C Ts q H ∧ q.rows.length = n
abbrev T4 (K : PySem.W.Frag) (C : Addr) (Ts : List (Addr × Str)) (n : Nat) : L2.St → Hp → Prop := fun σ H => ∃ (q : Gh) (S : Addr) (x7 x8 x10 x11 x12 x13 x14 x15 x16 x17 x18 x19 x20 x21 x22 x23 x24 x25 x26 x27 x28 : Option V), σ = stX q (some (.ref q.b)) x7 x8 (some (.ref S)) x10 x11 x12 x13 x14 x15 x16 x17 x18 x19 x20 x21 x22 x23 x24 x25 x26 x27 x28 ∧ On K C Ts q H ∧ q.rows.length = n ∧ S1 K q S H
abbrev T6 (K : PySem.W.Frag) (C : Addr) (Ts : List (Addr × Str)) (n : Nat) : L2.St → Hp → Prop := fun σ H => ∃ (q : Gh) (S N : Addr) (x7 x8 x11 x12 x13 x14 x15 x16 x17 x18 x19 x20 x21 x22 x23 x24 x25 x26 x27 x28 : Option V), σ = stX q (some (.ref q.b)) x7 x8 (some (.ref S)) (some (.ref N)) x11 x12 x13 x14 x15 x16 x17 x18 x19 x20 x21 x22 x23 x24 x25 x26 x27 x28 ∧ On K C Ts q H ∧ q.rows.length = n ∧ S1 K q S H ∧ N1 q N (List.replicate q.rs.length 0) H
abbrev T7 (K : PySem.W.Frag) (C : Addr) (Ts : List (Addr × Str)) (n : Nat) : L2.St → Hp → Prop := fun σ H => ∃ (q : Gh) (S N : Addr) (x7 x8 x11 x12 x13 x14 x15 x16 x17 x18 x19 x20 x21 x22 x23 x24 x25 x26 x27 x28 : Option V), σ = stX q (some (.ref q.b)) x7 x8 (some (.ref S)) (some (.ref N)) x11 x12 x13 x14 x15 x16 x17 x18 x19 x20 x21 x22 x23 x24 x25 x26 x27 x28 ∧ On K C Ts q H ∧ q.rows.length = n ∧ S1 K q S H ∧ N1 q N (tot q) H
abbrev T8 (K : PySem.W.Frag) (C : Addr) (Ts : List (Addr × Str)) (n : Nat) : L2.St → Hp → Prop := fun σ H => ∃ (q : Gh) (S N d L : Addr) (x7 x8 x11 x14 x15 x16 x17 x18 x19 x20 x21 x22 x23 x24 x25 x26 x27 x28 : Option V), σ = stX q (some (.ref q.b)) x7 x8 (some (.ref S)) (some (.ref N)) x11 (some (.ref d)) (some (.ref L)) x14 x15 x16 x17 x18 x19 x20 x21 x22 x23 x24 x25 x26 x27 x28 ∧ On K C Ts q H ∧ q.rows.length = n ∧ S1 K q S H ∧ N1 q N (tot q) H ∧ SqT K H d ((due q).map V.int) ∧ L1 K q L H
abbrev T10 (K : PySem.W.Frag) (C : Addr) (Ts : List (Addr × Str)) (n : Nat) : L2.St → Hp → Prop := fun σ H => ∃ (q : Gh) (S N d L : Addr) (cut : Nat) (x7 x8 x11 x15 x16 x17 x18 x19 x20 x21 x22 x23 x24 x25 x26 x27 x28 : Option V), σ = stX q (some (.ref q.b)) x7 x8 (some (.ref S)) (some (.ref N)) x11 (some (.ref d)) (some (.ref L)) (some (.int (cut : Nat))) x15 x16 x17 x18 x19 x20 x21 x22 x23 x24 x25 x26 x27 x28 ∧ On K C Ts q H ∧ q.rows.length = n ∧ S1 K q S H ∧ N1 q N (tot q) H ∧ SqT K H d ((due q).map V.int) ∧ L1 K q L H ∧ cut ≤ q.rows.length
abbrev T11 (K : PySem.W.Frag) (C : Addr) (Ts : List (Addr × Str)) (n : Nat) : L2.St → Hp → Prop := fun σ H => ∃ (q : Gh) (S N d Z p1 p2 : Addr) (l1 l2 : List (List Int)) (x7 x8 x11 x13 x14 x16 x17 x18 x19 x20 x21 x22 x23 x24 x25 x26 x27 x28 : Option V), σ = stX q (some (.ref q.b)) x7 x8 (some (.ref S)) (some (.ref N)) x11 (some (.ref d)) x13 x14 (some (.ref Z)) x16 x17 x18 x19 x20 x21 x22 x23 x24 x25 x26 x27 x28 ∧ On K C Ts q H ∧ q.rows.length = n ∧ S1 K q S H ∧ N1 q N (tot q) H ∧ SqT K H d ((due q).map V.int) ∧ Z ≠ q.b ∧ H Z = some (.lst [.ref p1, .ref p2]) ∧ SqT K H p1 ((showNs q.rs q.es (sumOf q.rs.length l1)).map V.int) ∧ SqT K H p2 ((showNs q.rs q.es (sumOf q.rs.length l2)).map V.int) ∧ (l1 ++ l2).Perm (q.rows.map (shR q))
abbrev T12 (K : PySem.W.Frag) (C : Addr) (Ts : List (Addr × Str)) (n : Nat) : L2.St → Hp → Prop := fun σ H => ∃ (q : Gh) (S N d : Addr) (x7 x8 x11 x13 x14 x15 x16 x17 x18 x19 x20 x21 x22 x23 x24 x25 x26 x27 x28 : Option V), σ = stX q (some (.ref q.b)) x7 x8 (some (.ref S)) (some (.ref N)) x11 (some (.ref d)) x13 x14 x15 x16 x17 x18 x19 x20 x21 x22 x23 x24 x25 x26 x27 x28 ∧ On K C Ts q H ∧ q.rows.length = n ∧ S1 K q S H ∧ N1 q N (tot q) H ∧ SqT K H d ((due q).map V.int)
abbrev T13 (K : PySem.W.Frag) (C : Addr) (Ts : List (Addr × Str)) (n : Nat) : L2.St → Hp → Prop := fun σ H => ∃ (q : Gh) (S N d J : Addr) (ks : List Int) (x7 x8 x11 x13 x14 x15 x17 x18 x19 x20 x21 x22 x23 x24 x25 x26 x27 x28 : Option V), σ = stX q (some (.ref q.b)) x7 x8 (some (.ref S)) (some (.ref N)) x11 (some (.ref d)) x13 x14 x15 (some (.ref J)) x17 x18 x19 x20 x21 x22 x23 x24 x25 x26 x27 x28 ∧ On K C Ts q H ∧ q.rows.length = n ∧ S1 K q S H ∧ N1 q N (tot q) H ∧ SqT K H d ((due q).map V.int) ∧ N1 q J ks H ∧ ascOf q.rs.length (someI ks) = true
abbrev T14 (K : PySem.W.Frag) (C : Addr) (Ts : List (Addr × Str)) (n : Nat) : L2.St → Hp → Prop := fun σ H => ∃ (q : Gh) (S N d J U : Addr) (ks : List Int) (x7 x8 x11 x13 x14 x15 x18 x19 x20 x21 x22 x23 x24 x25 x26 x27 x28 : Option V), σ = stX q (some (.ref q.b)) x7 x8 (some (.ref S)) (some (.ref N)) x11 (some (.ref d)) x13 x14 x15 (some (.ref J)) (some (.ref U)) x18 x19 x20 x21 x22 x23 x24 x25 x26 x27 x28 ∧ On K C Ts q H ∧ q.rows.length = n ∧ S1 K q S H ∧ N1 q N (tot q) H ∧ SqT K H d ((due q).map V.int) ∧ N1 q J ks H ∧ ascOf q.rs.length (someI ks) = true ∧ N1 q U (goneOf 1 ks q.rs) H
abbrev T15 (K : PySem.W.Frag) (C : Addr) (Ts : List (Addr × Str)) (n : Nat) : L2.St → Hp → Prop := fun σ H => ∃ (q : Gh) (S N d J U W : Addr) (ks : List Int) (x7 x8 x11 x13 x14 x15 x19 x20 x21 x22 x23 x24 x25 x26 x27 x28 : Option V), σ = stX q (some (.ref q.b)) x7 x8 (some (.ref S)) (some (.ref N)) x11 (some (.ref d)) x13 x14 x15 (some (.ref J)) (some (.ref U)) (some (.ref W)) x19 x20 x21 x22 x23 x24 x25 x26 x27 x28 ∧ On K C Ts q H ∧ q.rows.length = n ∧ S1 K q S H ∧ N1 q N (tot q) H ∧ SqT K H d ((due q).map V.int) ∧ N1 q J ks H ∧ ascOf q.rs.length (someI ks) = true ∧ N1 q U (goneOf 1 ks q.rs) H ∧ N1 q W (goneOf 0 ks q.es) H
abbrev T16 (K : PySem.W.Frag) (C : Addr) (Ts : List (Addr × Str)) (n : Nat) : L2.St → Hp → Prop := fun σ H => ∃ (q : Gh) (S N d J U W y : Addr) (ks : List Int) (x7 x8 x11 x13 x14 x15 x20 x21 x22 x23 x24 x25 x26 x27 x28 : Option V), σ = stX q (some (.ref q.b)) x7 x8 (some (.ref S)) (some (.ref N)) x11 (some (.ref d)) x13 x14 x15 (some (.ref J)) (some (.ref U)) (some (.ref W)) (some (.ref y)) x20 x21 x22 x23 x24 x25 x26 x27 x28 ∧ On K C Ts q H ∧ q.rows.length = n ∧ S1 K q S H ∧ N1 q N (tot q) H ∧ SqT K H d ((due q).map V.int) ∧ N1 q J ks H ∧ ascOf q.rs.length (someI ks) = true ∧ N1 q U (goneOf 1 ks q.rs) H ∧ N1 q W (goneOf 0 ks q.es) H ∧ CnAt K C H y (goneOf 1 ks q.rs) (goneOf 0 ks q.es)
abbrev T18 (K : PySem.W.Frag) (C : Addr) (Ts : List (Addr × Str)) (n : Nat) : L2.St → Hp → Prop := fun σ H => ∃ (q : Gh) (S d J e : Addr) (ks : List Int) (x7 x8 x10 x11 x13 x14 x15 x17 x18 x19 x21 x22 x23 x24 x25 x26 x27 x28 : Option V), σ = stX q (some (.ref q.b)) x7 x8 (some (.ref S)) x10 x11 (some (.ref d)) x13 x14 x15 (some (.ref J)) x17 x18 x19 (some (.ref e)) x21 x22 x23 x24 x25 x26 x27 x28 ∧ On K C Ts q H ∧ q.rows.length = n ∧ S1 K q S H ∧ SqT K H d ((due q).map V.int) ∧ N1 q J ks H ∧ ascOf q.rs.length (someI ks) = true ∧ SqT K H e ((goneOf 0 ks (due q)).map V.int)
abbrev T19 (K : PySem.W.Frag) (C : Addr) (Ts : List (Addr × Str)) (n : Nat) : L2.St → Hp → Prop := fun σ H => ∃ (q : Gh) (S J : Addr) (ks : List Int) (x7 x8 x10 x11 x12 x13 x14 x15 x17 x18 x19 x20 x21 x22 x23 x24 x25 x26 x27 x28 : Option V), σ = stX q (some (.ref q.b)) x7 x8 (some (.ref S)) x10 x11 x12 x13 x14 x15 (some (.ref J)) x17 x18 x19 x20 x21 x22 x23 x24 x25 x26 x27 x28 ∧ On K C Ts q H ∧ q.rows.length = n ∧ S1 K q S H ∧ N1 q J ks H ∧ ascOf q.rs.length (someI ks) = true
abbrev T20 (K : PySem.W.Frag) (C : Addr) (Ts : List (Addr × Str)) (n : Nat) : L2.St → Hp → Prop := fun σ H => ∃ (q : Gh) (S J : Addr) (ks : List Int) (v : V) (x7 x8 x10 x11 x12 x13 x14 x15 x17 x18 x19 x20 x22 x23 x24 x25 x26 x27 x28 : Option V), σ = stX q (some (.ref q.b)) x7 x8 (some (.ref S)) x10 x11 x12 x13 x14 x15 (some (.ref J)) x17 x18 x19 x20 (some v) x22 x23 x24 x25 x26 x27 x28 ∧ On K C Ts q H ∧ q.rows.length = n ∧ S1 K q S H ∧ N1 q J ks H ∧ ascOf q.rs.length (someI ks) = true ∧ BadV K q v H
abbrev T22 (K : PySem.W.Frag) (C : Addr) (Ts : List (Addr × Str)) (n : Nat) : L2.St → Hp → Prop := fun σ H => ∃ (q : Gh) (S J : Addr) (ks : List Int) (v u : V) (x7 x8 x10 x11 x12 x13 x14 x15 x17 x18 x19 x20 x23 x24 x25 x26 x27 x28 : Option V), σ = stX q (some (.ref q.b)) x7 x8 (some (.ref S)) x10 x11 x12 x13 x14 x15 (some (.ref J)) x17 x18 x19 x20 (some v) (some u) x23 x24 x25 x26 x27 x28 ∧ On K C Ts q H ∧ q.rows.length = n ∧ S1 K q S H ∧ N1 q J ks H ∧ ascOf q.rs.length (someI ks) = true ∧ BadV K q v H ∧ OddV K q u H
abbrev T25 (K : PySem.W.Frag) (C : Addr) (Ts : List (Addr × Str)) (n : Nat) : L2.St → Hp → Prop := fun σ H => ∃ (q : Gh)  (x7 x8 x9 x10 x11 x12 x13 x14 x15 x16 x17 x18 x19 x20 x21 x22 x23 x24 x25 x26 x27 x28 : Option V), σ = stX q (some (.ref q.b)) x7 x8 x9 x10 x11 x12 x13 x14 x15 x16 x17 x18 x19 x20 x21 x22 x23 x24 x25 x26 x27 x28 ∧ On K C Ts q H ∧ q.rows.length = n
abbrev T26 (K : PySem.W.Frag) (C : Addr) (Ts : List (Addr × Str)) (n : Nat) : L2.St → Hp → Prop := fun σ H => ∃ (q : Gh) (u : V) (x7 x8 x9 x10 x11 x12 x13 x14 x15 x16 x17 x18 x19 x20 x21 x23 x24 x25 x26 x27 x28 : Option V), σ = stX q (some (.ref q.b)) x7 x8 x9 x10 x11 x12 x13 x14 x15 x16 x17 x18 x19 x20 x21 (some u) x23 x24 x25 x26 x27 x28 ∧ On K C Ts q H ∧ q.rows.length = n ∧ OddM K u

end K5
/-! the law's statements -/
namespace K5
open PySem PySem.Spec PyProof.Rows L2 Kx RZ
section
variable {P : Program} {w : World} {K : PySem.W.Frag} {mg : Str → Option Value} {base : Heap} {f cc : Addr} {A0 : Around} {o0 : List Env} {s0 : Shared} {H0 : Hp} {E0 : XK} {a : Ad} {C CM cW : Addr} {Ts : List (Addr × Str)} {g : Addr} {fdg : FuncData} {Pt : Addr}
variable (Z : Lw P w K mg base f cc A0 o0 s0 H0 E0 a C CM cW Ts g fdg Pt)
include Z
theorem q0 : HT (XW P w K mg base f cc A0 o0 s0 H0 E0) (nthS bodyS 0) (T0 K C Ts) (T1 K C Ts) := by
  obtain ⟨T, TC, M, B, hr, cs, hf⟩ := Z
  refine ⟨_, (ps_set (i := 1) sc_law.nd rfl (by first | exact Or.inl rfl | exact Or.inr rfl) (pe_callC B.box hr pass0 (pa_cons (pv 0) (pa_cons (pv 7) pa_nil)))), fun n n1 n30 E1 σ H h kk => ?_⟩
  obtain ⟨q, b, k, x8, x9, x10, x11, x12, x13, x14, x15, x16, x17, x18, x19, x20, x21, x22, x23, x24, x25, x26, x27, x28, rfl, w, hn⟩ := h
  exact ⟨_, rfl, _, rfl, q.sc, q.ns, k, rfl, w.sc, w.len, fun H1 b1 t1 e1 nb hb1 => kk _ _ ⟨{ q with b := b1 }, _, _, _, _, _, _, _, _, _, _, _, _, _, _, _, _, _, _, _, _, _, _, rfl, w.on e1 nb hb1, hn⟩⟩
theorem q1 : HT (XW P w K mg base f cc A0 o0 s0 H0 E0) (nthS bodyS 1) (T1 K C Ts) (T2 K C Ts) := by
  obtain ⟨T, TC, M, B, hr, cs, hf⟩ := Z
  refine ⟨_, (ps_setLc (i := 8) (own := [("turn", 25)]) (by rfl) sc_law.nd rfl rfl (sw_true rfl rfl rfl (by decide +kernel)) (pi_range1 (by rfl) T.z_range (pa_cons (pe_callC B.take hr pass0 (pa_cons (pv 1) (pa_cons pe_int pa_nil))) pa_nil)) (blkOk_by (own := [("turn", 25)]) (N := ["script", "box", "many", "rounds", "rests", "counters", "rows", "k", "row", "showings", "numbers", "one", "due", "left", "cut", "pieces", "kinds", "gone", "still", "told", "rest", "bad", "odd", "full", "kind", "turn", "old", "more", "number"]) (sc := defScope s_law) (by decide +kernel)) (fun _ _ _ _ _ => (pg_name (i := 25) sc_law.nd rfl (by first | exact Or.inl rfl | exact Or.inr rfl))) (fun _ _ _ _ _ => pts_nil) (fun _ _ _ _ _ => (pe_callC B.take hr pass0 (pa_cons (pv 1) (pa_cons (pv 2) pa_nil))))), fun n n1 n30 E1 σ H h kk => ?_⟩
  obtain ⟨q, x7, x8, x9, x10, x11, x12, x13, x14, x15, x16, x17, x18, x19, x20, x21, x22, x23, x24, x25, x26, x27, x28, rfl, o, hn⟩ := h
  obtain ⟨t, hb⟩ := o.box
  have l1 := o.wd.cn.ok.l1
  have l4 := o.wd.cn.ok.l4
  refine ⟨_, rfl, q.b, t, 9, rfl, hb, by decide, by decide, fun r H4 r0 r9 m4 => ?_⟩
  obtain ⟨m, rfl⟩ : ∃ k : Nat, r = (k : Int) := ⟨r.toNat, by omega⟩
  obtain ⟨t4, hb4⟩ := m4.2
  have o4 := o.mv m4
  refine ⟨m, rfl, by omega, by omega, fun D0 hD => ?_⟩
  have fr := (Mv.refl hb4).free hD
  have nr : D0 ≠ q.rw := (ne_free o4.wd.rw hD).symm
  refine turns (n := m) (fun i H' => ∃ row : List Int, H' D0 = some (.lst (row.map V.int)) ∧ Mv q.b H4 H' ∧ row.length = i ∧ ∀ x ∈ row, 0 ≤ x ∧ x < (q.rs.length : Int)) ⟨[], upd_same, (Mv.refl hb4).put fr.1 fr.2, rfl, fun x hx => by cases hx⟩ ?_ ?_
  · rintro i H8 hi ⟨row, h8, m8, l8, a8⟩
    obtain ⟨t8, hb8⟩ := m8.2
    refine ⟨hi, ?_⟩
    rintro v H9 ⟨rfl, rfl⟩
    refine ⟨rfl, yes ((if_pos rfl).mpr ?_)⟩
    refine ⟨_, rfl, _, rfl, q.b, t8, (q.rs.length : Nat), rfl, hb8, by omega, by omega, fun x HB x0 x1 mB => ?_⟩
    refine ⟨row.map V.int, mB.1 _ _ fr.2 h8, by rw [List.length_map, sizeLine_eq]; omega, row ++ [x], ?_, (m8.trans mB).put fr.1 fr.2, by rw [List.length_append, l8]; rfl, fun y hy => ?_⟩
    · rw [upd_same, List.map_append, List.map_singleton]
    · rcases List.mem_append.mp hy with h | h
      · exact a8 y h
      · rw [List.mem_singleton.mp h]
        exact ⟨x0, x1⟩
  · rintro H8 ⟨row, h8, m8, l8, a8⟩
    exact ⟨Nat.le_refl _, kk _ _ ⟨q, D0, row, _, _, _, _, _, _, _, _, _, _, _, _, _, _, _, _, _, _, _, _, _, rfl, o4.mv m8, hn, nr, fr.2, h8, by omega, a8⟩⟩
theorem q2 : HT (XW P w K mg base f cc A0 o0 s0 H0 E0) (nthS bodyS 2) (T2 K C Ts) (T3 K C Ts) := by
  obtain ⟨T, TC, M, B, hr, cs, hf⟩ := Z
  refine ⟨_, (ps_expr (pe_bm PySem.F.plainAttrs_list PySem.F.slot_list_append PySem.F.type_list_append mt_append (pv 6) (pa_cons (pe_ifExp (pt_cmpR op_gt (pe_callC B.take hr pass0 (pa_cons (pv 1) (pa_cons pe_int pa_nil))) pe_int (nomark _)) (pv 8) (pe_op op_rep (pe_lst (pa_cons (pe_callC B.take hr pass0 (pa_cons (pv 1) (pa_cons (pv 2) pa_nil))) pa_nil)) (pe_callC B.take hr pass0 (pa_cons (pv 1) (pa_cons pe_int pa_nil))))) pa_nil))), fun n n1 n30 E1 σ H h kk => ?_⟩
  obtain ⟨q, ra, r, x7, x9, x10, x11, x12, x13, x14, x15, x16, x17, x18, x19, x20, x21, x22, x23, x24, x25, x26, x27, x28, rfl, o, hn, r1, r2, hra, rl, lw⟩ := h
  obtain ⟨t, hb⟩ := o.box
  have l1 := o.wd.cn.ok.l1
  have l4 := o.wd.cn.ok.l4
  have lps := o.wd.rows.length
  refine ⟨_, rfl, .inl ⟨rfl, _, SqL.of o.wd.rw⟩, ?_⟩
  refine ⟨_, rfl, q.b, t, 3, rfl, hb, by decide, by decide, fun r' H4 r0 r9 m4 => ?_⟩
  have o4 := o.mv m4
  obtain ⟨t4, hb4⟩ := m4.2
  refine ⟨_, _, rfl, rfl, _, rfl, ite2 (fun _ => ?_) (fun _ => ?_)⟩
  · refine ⟨_, rfl, q.rw, q.ps, .ref ra, rfl, rfl, o4.wd.rw, by rw [sizeLine_eq]; omega, kk _ _ ⟨{ q with ps := q.ps ++ [.ref ra], rows := q.rows ++ [r] }, _, _, _, _, _, _, _, _, _, _, _, _, _, _, _, _, _, _, _, _, _, _, rfl, o4.more (m4.1 _ _ r2 hra) r1 r2 rl lw, by show (q.rows ++ [r]).length = n; rw [List.length_append, List.length_singleton]; exact hn⟩⟩
  · refine ⟨_, rfl, _, rfl, q.b, t4, (q.rs.length : Nat), rfl, hb4, by omega, by omega, fun x H5 x0 x1 m5 => ?_⟩
    have o5 := o4.mv m5
    refine ⟨(by show 1 ≤ sizeLine; decide), fun l hl => ?_⟩
    have e6 := same_new (o := HO.lst [V.int x]) hl
    have u6 := upd_same (H := H5) (a := l) (o := HO.lst [V.int x])
    have o6 := o5.same e6
    have lb := o5.free hl
    generalize L2.upd H5 l (HO.lst [V.int x]) = H6 at *
    obtain ⟨t6, hb6⟩ := o6.box
    refine ⟨_, rfl, q.b, t6, 90, rfl, hb6, by decide, by decide, fun k H7 k0 k9 m7 => ?_⟩
    obtain ⟨k, rfl⟩ : ∃ j : Nat, k = (j : Int) := ⟨k.toNat, by omega⟩
    have o7 := o6.mv m7
    refine ⟨l, (k : Nat), _, rfl, rfl, m7.1 _ _ lb u6, by omega, by omega, (by show 1 * _ ≤ sizeLine; rw [sizeLine_eq]; omega), fun p hp => ?_⟩
    have e8 := same_new (o := HO.lst (List.replicate (k : Int).toNat [V.int x]).flatten) hp
    have u8 := upd_same (H := H7) (a := p) (o := HO.lst (List.replicate (k : Int).toNat [V.int x]).flatten)
    have o8 := o7.same e8
    have pb := o7.free hp
    have pw : p ≠ q.rw := (ne_free o7.wd.rw hp).symm
    rw [show (List.replicate (k : Int).toNat [V.int x]).flatten = (List.replicate k x).map V.int by rw [Int.toNat_natCast, List.map_replicate, List.flatten_replicate_singleton]] at *
    generalize L2.upd H7 p (HO.lst ((List.replicate k x).map V.int)) = H8 at *
    refine ⟨q.rw, q.ps, .ref p, rfl, rfl, o8.wd.rw, by rw [sizeLine_eq]; omega, kk _ _ ⟨{ q with ps := q.ps ++ [.ref p], rows := q.rows ++ [List.replicate k x] }, _, _, _, _, _, _, _, _, _, _, _, _, _, _, _, _, _, _, _, _, _, _, rfl, o8.more u8 pw pb (by rw [List.length_replicate]; omega) (fun y hy => by rw [(List.mem_replicate.mp hy).2]; exact ⟨x0, x1⟩), by show (q.rows ++ [List.replicate k x]).length = n; rw [List.length_append, List.length_singleton]; exact hn⟩⟩
end
end K5
/-! what is shown is small -/
namespace K5
open PySem PySem.Spec PyProof.Rows L2 Kx RZ
theorem _root_.Kx.OkD.d60 {m L : Nat} {d : PyData} (h : OkD m L d) (hm : m ≤ 60 := by decide) : d.depth ≤ 60 := Nat.le_trans h.deep hm
theorem _root_.Kx.OkD.line {m L : Nat} {d : PyData} (h : OkD m L d) (hL : L ≤ sizeLine := by decide) : d.shown.length ≤ sizeLine := Nat.le_trans h.fit hL
theorem shows_le {r e n : Int} (hr : 0 ≤ r) (he : 0 ≤ e) (hn : 0 ≤ n) : shows r e n ≤ n := by
  by_cases h0 : r = 0
  · rw [h0, shows_none]
    exact Int.le_refl _
  · by_cases h : n < e
    · rw [shows_zero' h]
      exact Int.le_refl _
    · rw [shows_from h0 (by omega)]
      obtain ⟨x, hx⟩ := Int.eq_ofNat_of_zero_le (show 0 ≤ n - e by omega)
      obtain ⟨y, rfl⟩ := Int.eq_ofNat_of_zero_le hr
      have m : ((x : Nat) : Int) % ((y : Nat) : Int) = ((x % y : Nat) : Int) := rfl
      have := Nat.mod_le x y
      rw [hx, m]
      omega
theorem cnt_low {k : Nat} {row : List Int} : ∀ z ∈ countsOf k row, 0 ≤ z ∧ z ≤ (row.length : Int) := fun z hz => by
  unfold countsOf at hz
  obtain ⟨i, _, rfl⟩ := List.mem_map.mp hz
  have := List.count_le_length (a := (i : Int)) (l := row)
  omega
theorem show_low {rs es ns : List Int} {M : Int} (ok : Cok rs es) (hl : ns.length = rs.length) (h : ∀ z ∈ ns, 0 ≤ z ∧ z ≤ M) : ∀ x ∈ showNs rs es ns, 0 ≤ x ∧ x ≤ M := fun x hx => by
  obtain ⟨i, hi⟩ := List.mem_iff_getElem?.mp hx
  have lt : i < ns.length := by
    have := (List.getElem?_eq_some_iff.mp hi).1
    rwa [showNs_length] at this
  have hn : ns[i]? = some ns[i] := List.getElem?_eq_getElem lt
  obtain ⟨_, _, r0, _, e0, _⟩ := ok.at_ (by rw [← hl]; exact lt)
  have s := showNs_get (rs := rs) (es := es) lt
  rw [List.getD_eq_getElem?_getD, hi, List.getD_eq_getElem?_getD (l := ns), hn] at s
  have s : x = shows (rs.getD i 0) (es.getD i 0) ns[i] := s
  obtain ⟨n0, n1⟩ := h _ (List.getElem_mem lt)
  have a1 := shows_nn r0 e0 n0
  have a2 := shows_le r0 e0 n0
  omega
theorem sum_low {M : Int} : ∀ {xs : List Int}, (∀ x ∈ xs, 0 ≤ x ∧ x ≤ M) → 0 ≤ xs.sum ∧ xs.sum ≤ M * xs.length
  | [], _ => by simp
  | x :: xs, h => by
    have h1 := h x (List.mem_cons_self ..)
    have h2 := sum_low fun y hy => h y (List.mem_cons_of_mem _ hy)
    rw [List.sum_cons, List.length_cons]
    have : M * ((xs.length + 1 : Nat) : Int) = M * xs.length + M := by
      rw [Int.natCast_add, Int.mul_add]
      simp
    omega
theorem getD_low {M : Int} {xs : List Int} {i : Nat} (m0 : 0 ≤ M) (h : ∀ x ∈ xs, 0 ≤ x ∧ x ≤ M) : 0 ≤ xs.getD i 0 ∧ xs.getD i 0 ≤ M := by
  rw [List.getD_eq_getElem?_getD]
  cases e : xs[i]? with
  | none => exact ⟨Int.le_refl _, m0⟩
  | some y => exact h y (List.mem_of_getElem? e)
theorem sumOf_low {M : Int} {k : Nat} {nss : List (List Int)} (m0 : 0 ≤ M) (h : ∀ ns ∈ nss, ∀ z ∈ ns, 0 ≤ z ∧ z ≤ M) : ∀ x ∈ sumOf k nss, 0 ≤ x ∧ x ≤ M * nss.length := fun x hx => by
  unfold sumOf at hx
  obtain ⟨i, _, rfl⟩ := List.mem_map.mp hx
  have := sum_low (M := M) (xs := nss.map fun ns => ns.getD i 0) fun y hy => by
    obtain ⟨ns, hn, rfl⟩ := List.mem_map.mp hy
    exact getD_low m0 (h ns hn)
  rw [List.length_map] at this
  exact this
theorem tot_low {q : Gh} (h : ∀ r ∈ q.rows, r.length ≤ 89 ∧ ∀ x ∈ r, 0 ≤ x ∧ x < (q.rs.length : Int)) : ∀ x ∈ tot q, 0 ≤ x ∧ x ≤ 89 * (q.rows.length : Int) := by
  have := sumOf_low (M := 89) (k := q.rs.length) (nss := q.rows.map (countsOf q.rs.length)) (by decide) fun ns hn z hz => by
    obtain ⟨r, hr, rfl⟩ := List.mem_map.mp hn
    have a := cnt_low z hz
    have b := (h r hr).1
    omega
  rw [List.length_map] at this
  exact this
theorem nums_ok {M : Int} {ns : List Int} (h : ∀ x ∈ ns, 0 ≤ x ∧ x ≤ M) (m : M ≤ 1000000) (l : ns.length ≤ 8) : OkD 1 15400 (dNums ns) := okD_nums (fun n hn => by have := h n hn; omega) l
theorem tot_len {q : Gh} : (tot q).length = q.rs.length := sum_len'
theorem due_len {q : Gh} : (due q).length = q.rs.length := by unfold due; rw [showNs_length, tot_len]
theorem due_low {q : Gh} (ok : Cok q.rs q.es) (h : ∀ r ∈ q.rows, r.length ≤ 89 ∧ ∀ x ∈ r, 0 ≤ x ∧ x < (q.rs.length : Int)) : ∀ x ∈ due q, 0 ≤ x ∧ x ≤ 89 * (q.rows.length : Int) := show_low ok tot_len (tot_low h)
theorem due_right {q : Gh} (ok : Cok q.rs q.es) (h : ∀ r ∈ q.rows, r.length ≤ 89 ∧ ∀ x ∈ r, 0 ≤ x ∧ x < (q.rs.length : Int)) : Right q.rs q.es (due q) := right_show ok tot_len fun z hz => (tot_low h z hz).1
theorem shR_len {q : Gh} {row : List Int} : (shR q row).length = q.rs.length := by unfold shR; rw [showNs_length, countsOf_length]
theorem shR_right {q : Gh} {row : List Int} (ok : Cok q.rs q.es) : Right q.rs q.es (shR q row) := right_show ok countsOf_length fun z hz => (cnt_low z hz).1
theorem shR_low {q : Gh} {row : List Int} (ok : Cok q.rs q.es) (h : row.length ≤ 89) : ∀ x ∈ shR q row, 0 ≤ x ∧ x ≤ 89 := show_low ok countsOf_length fun z hz => by have := cnt_low z hz; omega
theorem all_right {q : Gh} {lss : List (List Int)} (ok : Cok q.rs q.es) (p : lss.Perm (q.rows.map (shR q))) : ∀ x ∈ lss, Right q.rs q.es x := fun x hx => by
  obtain ⟨r, _, rfl⟩ := List.mem_map.mp (p.mem_iff.mp hx)
  exact shR_right ok
theorem right_nn {rs es ns : List Int} (r : Right rs es ns) : ∀ z ∈ ns, 0 ≤ z := by
  obtain ⟨ms, e, h⟩ := all_ints fun j x hx => canShow_int (r.2 j x hx)
  rw [ints_inj e]
  exact h
/-- showings in any order, merged -/
theorem merged_due {q : Gh} {lss : List (List Int)} (ok : Cok q.rs q.es) (p : lss.Perm (q.rows.map (shR q))) : showNs q.rs q.es (sumOf q.rs.length lss) = due q := by
  rw [sum_perm p]
  have := show_merge (nss := q.rows.map (countsOf q.rs.length)) ok (fun ns hn => by
    obtain ⟨r, _, rfl⟩ := List.mem_map.mp hn
    exact countsOf_length) fun ns hn z hz => by
    obtain ⟨r, _, rfl⟩ := List.mem_map.mp hn
    exact (cnt_low z hz).1
  rw [List.map_map] at this
  exact this
theorem sum_two {k : Nat} {l1 l2 : List (List Int)} : sumOf k [sumOf k l1, sumOf k l2] = sumOf k (l1 ++ l2) := by
  unfold sumOf
  refine List.map_congr_left fun i hi => ?_
  have lt := List.mem_range.mp hi
  have g : ∀ {l : List (List Int)}, ((List.range k).map fun (i : Nat) => (l.map fun ns => ns.getD i 0).sum).getD i 0 = (l.map fun ns => ns.getD i 0).sum := fun {l} => by
    rw [List.getD_eq_getElem?_getD, List.getElem?_map, List.getElem?_range lt]
    rfl
  rw [List.map_append, List.sum_append, List.map_cons, List.map_cons, List.map_nil, g, g]
  simp
/-- pieces merged -/
theorem pieces_due {q : Gh} {l1 l2 : List (List Int)} (ok : Cok q.rs q.es) (p : (l1 ++ l2).Perm (q.rows.map (shR q))) : showNs q.rs q.es (sumOf q.rs.length [showNs q.rs q.es (sumOf q.rs.length l1), showNs q.rs q.es (sumOf q.rs.length l2)]) = due q := by
  have nn : ∀ {l : List (List Int)}, (∀ x ∈ l, Right q.rs q.es x) → ∀ z ∈ sumOf q.rs.length l, 0 ≤ z := fun {l} h z hz => by
    unfold sumOf at hz
    obtain ⟨i, _, rfl⟩ := List.mem_map.mp hz
    have pos : ∀ {xs : List Int}, (∀ x ∈ xs, 0 ≤ x) → 0 ≤ xs.sum := fun {xs} => by
      induction xs with
      | nil => intro _; exact Int.le_refl _
      | cons y m ih =>
        intro h
        rw [List.sum_cons]
        have a := h y (List.mem_cons_self ..)
        have b := ih fun z hz => h z (List.mem_cons_of_mem _ hz)
        omega
    refine pos fun x hx => ?_
    obtain ⟨ns, hn, rfl⟩ := List.mem_map.mp hx
    have nn := right_nn (h ns hn)
    rw [List.getD_eq_getElem?_getD]
    cases e : ns[i]? with
    | none => exact Int.le_refl _
    | some y => exact nn y (List.mem_of_getElem? e)
  have ar := all_right ok p
  have r1 := nn fun x hx => ar x (List.mem_append.mpr (.inl hx))
  have r2 := nn fun x hx => ar x (List.mem_append.mpr (.inr hx))
  have := show_merge (nss := [sumOf q.rs.length l1, sumOf q.rs.length l2]) ok (fun ns hn => by
    rcases List.mem_cons.mp hn with rfl | hn
    · exact sum_len'
    · rw [List.mem_singleton.mp hn]; exact sum_len') fun ns hn z hz => by
    rcases List.mem_cons.mp hn with rfl | hn
    · exact r1 z hz
    · rw [List.mem_singleton.mp hn] at hz; exact r2 z hz
  rw [List.map_cons, List.map_cons, List.map_nil] at this
  rw [this, sum_two]
  exact merged_due ok p
theorem piece_right {q : Gh} {l : List (List Int)} (ok : Cok q.rs q.es) (h : ∀ x ∈ l, Right q.rs q.es x) : Right q.rs q.es (showNs q.rs q.es (sumOf q.rs.length l)) := by
  refine right_show ok sum_len' fun z hz => ?_
  unfold sumOf at hz
  obtain ⟨i, _, rfl⟩ := List.mem_map.mp hz
  have pos : ∀ {xs : List Int}, (∀ x ∈ xs, 0 ≤ x) → 0 ≤ xs.sum := fun {xs} => by
    induction xs with
    | nil => intro _; exact Int.le_refl _
    | cons y m ih =>
      intro h
      rw [List.sum_cons]
      have a := h y (List.mem_cons_self ..)
      have b := ih fun z hz => h z (List.mem_cons_of_mem _ hz)
      omega
  refine pos fun x hx => ?_
  obtain ⟨ns, hn, rfl⟩ := List.mem_map.mp hx
  have nn := right_nn (h ns hn)
  rw [List.getD_eq_getElem?_getD]
  cases e : ns[i]? with
  | none => exact Int.le_refl _
  | some y => exact nn y (List.mem_of_getElem? e)
theorem not_ne {x y : V} (e : x = y) (z : (!decide (x = y)) = true) : False := by simp [e] at z
theorem at_last {xs : List V} {v : V} {j : Nat} (h : xs[j]? = some v) (hl : xs.length = j + 1) : atI xs (-1) = some v := by
  have e : ixN xs.length (-1) = some j := by
    unfold ixN
    rw [hl, if_neg (by decide), if_pos (by omega)]
    congr 1
    omega
  unfold atI
  rw [e]
  exact h
end K5
/-! the law's statements -/
namespace K5
open PySem PySem.Spec PyProof.Rows L2 Kx RZ
section
variable {P : Program} {w : World} {K : PySem.W.Frag} {mg : Str → Option Value} {base : Heap} {f cc : Addr} {A0 : Around} {o0 : List Env} {s0 : Shared} {H0 : Hp} {E0 : XK} {a : Ad} {C CM cW : Addr} {Ts : List (Addr × Str)} {g : Addr} {fdg : FuncData} {Pt : Addr}
variable (Z : Lw P w K mg base f cc A0 o0 s0 H0 E0 a C CM cW Ts g fdg Pt)
include Z
theorem q3 : HT (XW P w K mg base f cc A0 o0 s0 H0 E0) (nthS bodyS 3) (T3 K C Ts) (T4 K C Ts) := by
  obtain ⟨T, TC, M, B, hr, cs, hf⟩ := Z
  refine ⟨_, (ps_set (i := 9) sc_law.nd rfl (by first | exact Or.inl rfl | exact Or.inr rfl) (pe_lc (own := [("one", 11)]) (by rfl) sc_law.nd (pi_list (pv 6)) (blkOk_by (own := [("one", 11)]) (N := ["script", "box", "many", "rounds", "rests", "counters", "rows", "k", "row", "showings", "numbers", "one", "due", "left", "cut", "pieces", "kinds", "gone", "still", "told", "rest", "bad", "odd", "full", "kind", "turn", "old", "more", "number"]) (sc := defScope s_law) (by decide +kernel)) (fun _ _ _ _ _ => (pg_name (i := 11) sc_law.nd rfl (by first | exact Or.inl rfl | exact Or.inr rfl))) (fun _ _ _ _ _ => pts_nil) (fun _ _ _ _ _ => (pe_callC B.show_ hr pass0 (pa_cons (pv 3) (pa_cons (pv 4) (pa_cons (pe_callC B.nums hr pass0 (pa_cons (pv 2) (pa_cons (pv 11) pa_nil))) pa_nil))))))), fun n n1 n30 E1 σ H h kk => ?_⟩
  obtain ⟨q, x7, x8, x9, x10, x11, x12, x13, x14, x15, x16, x17, x18, x19, x20, x21, x22, x23, x24, x25, x26, x27, x28, rfl, o, hn⟩ := h
  have ok := o.wd.cn.ok
  have l1 := ok.l1
  have l4 := ok.l4
  have lps := o.wd.rows.length
  refine ⟨_, rfl, q.rw, rfl, ⟨_, SqL.of o.wd.rw⟩, fun D0 hD => ?_⟩
  refine lc_list (xs := q.ps) (fun i H' => ∃ ss, Same H H' ∧ H' D0 = some (.lst ss) ∧ RowsBy (SqT K H') ss ((q.rows.map (shR q)).take i)) ⟨[], same_new hD, upd_same, trivial⟩ (fun j H' _ z => by obtain ⟨ss, e, _⟩ := z; exact SqL.of (e _ _ o.wd.rw)) ?_ ?_
  · rintro j y H4 hy ⟨ss, e4, h4, rows4⟩
    have hj : j < q.rows.length := by rw [← lps]; exact (List.getElem?_eq_some_iff.mp hy).1
    have tj : q.rows[j]? = some q.rows[j] := List.getElem?_eq_getElem hj
    obtain ⟨ra, h1, h2⟩ := o.wd.rows.at_ tj
    rw [hy] at h1
    cases h1
    have lw := o.wd.low _ (List.getElem_mem hj)
    have o4 := o.same e4
    refine ⟨rfl, yes ((if_pos rfl).mpr ?_)⟩
    refine ⟨_, rfl, _, rfl, _, rfl, _, rfl, q.rs.length, ra, q.rows[j], rfl, l4, SqL.of (e4 _ _ h2), by omega, fun l H5 e5 hl5 hl => ?_⟩
    have o5 := o4.same e5
    refine ⟨q.pr, q.pe, l, q.rs, q.es, countsOf q.rs.length q.rows[j], rfl, SqL.of o5.wd.pr, SqL.of o5.wd.pe, SqL.of hl, ok.le, countsOf_length, l4, fun r hr => (ok.r r hr).1, fun t H6 e6 ht => ?_⟩
    have lss : ss.length = j := by
      have := rows4.length
      rw [List.length_take, List.length_map] at this
      omega
    have nD : H D0 = none := hD
    refine ⟨ss, e6 _ _ (e5 _ _ h4), by rw [sizeLine_eq]; omega, ss ++ [.ref t], same_put (e4.trans (e5.trans e6)) nD, upd_same, ?_⟩
    have ne : ∀ {p : Addr} {xs : List V}, SqT K H6 p xs → SqT K (upd H6 D0 (.lst (ss ++ [.ref t]))) p xs := fun h => sqT_lst (e6 _ _ (e5 _ _ h4)) h
    rw [List.take_add_one, List.getElem?_map, tj]
    exact RowsBy.snoc (ne ht) (rows4.imp fun _ _ z => ne (sqT_same e6 (sqT_same e5 z)))
  · rintro H4 ⟨ss, e4, h4, rows4⟩
    rw [List.take_of_length_le (by rw [List.length_map]; omega)] at rows4
    exact kk _ _ ⟨q, D0, _, _, _, _, _, _, _, _, _, _, _, _, _, _, _, _, _, _, _, _, _, rfl, o.same e4, hn, ss, o.free hD, h4, rows4⟩
theorem q4 : HT (XW P w K mg base f cc A0 o0 s0 H0 E0) (nthS bodyS 4) (T4 K C Ts) (T4 K C Ts) := by
  obtain ⟨T, TC, M, B, hr, cs, hf⟩ := Z
  refine ⟨_, (ps_if (pt_cmpR op_ne (pe_callB cs (by rfl) T.z_repr (by decide +kernel) (pa_cons (pe_mid (pe_callC B.shown hr pz (pa_cons (pv 5) (pa_cons (pe_ix ix_list (pv 6) (pe_un un_neg pe_int) (fun _ _ => rfl)) pa_nil)))) pa_nil)) (pe_callB cs (by rfl) T.z_repr (by decide +kernel) (pa_cons (pe_ix ix_list (pv 9) (pe_un un_neg pe_int) (fun _ _ => rfl)) pa_nil)) (nomark _))
        (pss_one (ps_ret pe_bl))
        pss_nil), fun n n1 n30 E1 σ H h kk => ?_⟩
  obtain ⟨q, S, x7, x8, x10, x11, x12, x13, x14, x15, x16, x17, x18, x19, x20, x21, x22, x23, x24, x25, x26, x27, x28, rfl, o, hn, ss, Sb, hS, rowS⟩ := h
  have ok := o.wd.cn.ok
  have l4 := ok.l4
  have lps := o.wd.rows.length
  have lss := rowS.length
  rw [List.length_map] at lss
  obtain ⟨j, hj⟩ : ∃ j, q.rows.length = j + 1 := ⟨q.rows.length - 1, by omega⟩
  have tj : q.rows[j]? = some (q.rows[j]'(by omega)) := List.getElem?_eq_getElem (by omega)
  generalize q.rows[j]'(by omega) = row at tj
  obtain ⟨ra, h1, h2⟩ := o.wd.rows.at_ tj
  obtain ⟨sa, h3, h4⟩ := rowS.at_ (i := j) (t := shR q row) (by rw [List.getElem?_map, tj]; rfl)
  have lw := o.wd.low row (List.mem_of_getElem? tj)
  have od : OkD 1 15400 (dNums (shR q row)) := nums_ok (shR_low ok lw.1) (by decide) (by rw [shR_len]; omega)
  have d60 := od.d60
  have line := od.line
  refine ⟨fun v H' => ∃ p, v = .ref p ∧ Same H H' ∧ SqT K H' p ((shR q row).map V.int), ?_, ?_⟩
  · refine ⟨_, rfl, _, rfl, _, rfl, q.rw, q.ps, _, _, rfl, rfl, SqL.of o.wd.rw, at_last h1 (by omega), ?_⟩
    refine ⟨q.c, q.rs, q.es, ra, row, rfl, o.wd.cn, ?_, by omega, lw.2, fun p H' e hp => ⟨p, rfl, e, ?_⟩⟩
    · exact .inl (SqL.of h2)
    · rw [← showNs_counts] at hp
      exact hp
  rintro v H5 ⟨p, rfl, e5, hp⟩
  refine ⟨_, _, rfl, dp_nums hp, od.sh, od.nd, d60, line, ?_⟩
  refine ⟨_, rfl, _, rfl, S, ss, _, _, rfl, rfl, SqL.of (e5 _ _ hS), at_last h3 (by omega), ?_⟩
  refine ⟨_, _, rfl, dp_nums (sqT_same e5 h4), od.sh, od.nd, d60, line, ?_⟩
  refine ⟨rfl, _, rfl, ite2 (fun z => ?_) (fun _ => ?_)⟩
  · exact (not_ne rfl z).elim
  · exact kk _ _ ⟨q, S, _, _, _, _, _, _, _, _, _, _, _, _, _, _, _, _, _, _, _, _, _, rfl, o.same e5, hn, o.s1 (o.gr.same e5) ⟨ss, Sb, hS, rowS⟩⟩
theorem q5 : HT (XW P w K mg base f cc A0 o0 s0 H0 E0) (nthS bodyS 5) (T4 K C Ts) (T6 K C Ts) := by
  obtain ⟨T, TC, M, B, hr, cs, hf⟩ := Z
  refine ⟨_, (ps_set (i := 10) sc_law.nd rfl (by first | exact Or.inl rfl | exact Or.inr rfl) (pe_op op_rep (pe_lst (pa_cons pe_int pa_nil)) (pv 2))), fun n n1 n30 E1 σ H h kk => ?_⟩
  obtain ⟨q, S, x7, x8, x10, x11, x12, x13, x14, x15, x16, x17, x18, x19, x20, x21, x22, x23, x24, x25, x26, x27, x28, rfl, o, hn, s⟩ := h
  have l4 := o.wd.cn.ok.l4
  refine ⟨(by show 1 ≤ sizeLine; decide), fun l hl => ?_⟩
  have e1 := same_new (o := HO.lst [V.int 0]) hl
  have u1 := upd_same (H := H) (a := l) (o := HO.lst [V.int 0])
  have o1 := o.same e1
  have s1 := o.s1 (o.gr.same e1) s
  generalize L2.upd H l (HO.lst [V.int 0]) = H1 at *
  refine ⟨_, rfl, l, (q.rs.length : Nat), _, rfl, rfl, u1, by omega, by omega, (by show 1 * _ ≤ sizeLine; rw [sizeLine_eq]; omega), fun p hp => ?_⟩
  have e2 := same_new (o := HO.lst (List.replicate (q.rs.length : Int).toNat [V.int 0]).flatten) hp
  refine kk _ _ ⟨q, S, p, _, _, _, _, _, _, _, _, _, _, _, _, _, _, _, _, _, _, _, _, rfl, o1.same e2, hn, o1.s1 (o1.gr.same e2) s1, o1.free hp, ?_⟩
  rw [upd_same, Int.toNat_natCast, List.map_replicate, List.flatten_replicate_singleton]
theorem q6 : HT (XW P w K mg base f cc A0 o0 s0 H0 E0) (nthS bodyS 6) (T6 K C Ts) (T7 K C Ts) := by
  obtain ⟨T, TC, M, B, hr, cs, hf⟩ := Z
  refine ⟨_, (ps_for PassesOwn.never rfl (pi_list (pv 6)) (pg_name (i := 11) sc_law.nd rfl (by first | exact Or.inl rfl | exact Or.inr rfl)) (pss_one (ps_setLc (i := 10) (own := [("old", 26), ("more", 27)]) (g := gTup K 2 (gCons (gName 26) (gCons (gName 27) gNil))) (by rfl) sc_law.nd rfl rfl (sw_true rfl rfl rfl (by decide +kernel)) (pi_zipA (by rfl) T.z_zip (pa_cons (pv 10) (pa_cons (pe_callC B.nums hr pass0 (pa_cons (pv 2) (pa_cons (pv 11) pa_nil))) pa_nil))) (blkOk_by (own := [("old", 26), ("more", 27)]) (N := ["script", "box", "many", "rounds", "rests", "counters", "rows", "k", "row", "showings", "numbers", "one", "due", "left", "cut", "pieces", "kinds", "gone", "still", "told", "rest", "bad", "odd", "full", "kind", "turn", "old", "more", "number"]) (sc := defScope s_law) (by decide +kernel)) (fun _ _ _ _ _ => (pg_tup rfl (pgs_cons (pg_name (i := 26) sc_law.nd rfl (by first | exact Or.inl rfl | exact Or.inr rfl)) (pgs_cons (pg_name (i := 27) sc_law.nd rfl (by first | exact Or.inl rfl | exact Or.inr rfl)) pgs_nil)))) (fun _ _ _ _ _ => pts_nil) (fun _ _ _ _ _ => (pe_op op_add (pv 26) (pv 27)))))), fun n n1 n30 E1 σ H h kk => ?_⟩
  obtain ⟨q, S, N, x7, x8, x11, x12, x13, x14, x15, x16, x17, x18, x19, x20, x21, x22, x23, x24, x25, x26, x27, x28, rfl, o, hn, s, nn⟩ := h
  have ok := o.wd.cn.ok
  have l1 := ok.l1
  have l4 := ok.l4
  have lps := o.wd.rows.length
  refine ⟨_, rfl, q.rw, rfl, ⟨_, SqL.of o.wd.rw⟩, ?_⟩
  refine for_list (xs := q.ps) (fun i σ' H' => ∃ (N' : Addr) (y11 y26 y27 : Option V), σ' = stX q (some (.ref q.b)) x7 x8 (some (.ref S)) (some (.ref N')) y11 x12 x13 x14 x15 x16 x17 x18 x19 x20 x21 x22 x23 x24 x25 y26 y27 x28 ∧ Same H H' ∧ N1 q N' (sumOf q.rs.length ((q.rows.map (countsOf q.rs.length)).take i)) H') ⟨N, _, _, _, rfl, Same.refl H, by rw [List.take_zero, sum_nil]; exact nn⟩ (fun i σ' H' _ z => by obtain ⟨_, _, _, _, _, e, _⟩ := z; exact SqL.of (e _ _ o.wd.rw)) ?_ ?_
  · rintro j y σ' H4 hy ⟨N', y11, y26, y27, rfl, e4, Nb, hN⟩
    have hj : j < q.rows.length := by rw [← lps]; exact (List.getElem?_eq_some_iff.mp hy).1
    have tj : q.rows[j]? = some q.rows[j] := List.getElem?_eq_getElem hj
    obtain ⟨ra, h1, h2⟩ := o.wd.rows.at_ tj
    rw [hy] at h1
    cases h1
    have lw := o.wd.low _ (List.getElem_mem hj)
    have o4 := o.same e4
    refine ⟨_, rfl, _, rfl, _, rfl, q.rs.length, ra, q.rows[j], rfl, l4, SqL.of (e4 _ _ h2), by omega, fun l H5 e5 hl5 hl => ?_⟩
    have o5 := o4.same e5
    have hN5 := e5 _ _ hN
    let nss := (q.rows.map (countsOf q.rs.length)).take j
    have enss : (q.rows.map (countsOf q.rs.length)).take (j + 1) = nss ++ [countsOf q.rs.length q.rows[j]] := by
      rw [List.take_add_one, List.getElem?_map, tj]
      rfl
    refine ⟨N', l, _, _, rfl, .inl ⟨SqL.of hN5, SqL.of hl, fun D0 hD => turns (n := q.rs.length) (Part H5 D0 ((sumOf q.rs.length (nss ++ [countsOf q.rs.length q.rows[j]])).map V.int)) (Part.zero hD) ?_ ?_⟩⟩
    · intro i H6 hi pt
      have c1 : ((sumOf q.rs.length nss).map V.int)[i]? = some (.int ((nss.map fun ns => ns.getD i 0).sum)) := by
        rw [List.getElem?_map, sum_at hi]
        rfl
      have c2 : ((countsOf q.rs.length q.rows[j]).map V.int)[i]? = some (.int ((q.rows[j].count (i : Int) : Nat) : Int)) := by
        rw [List.getElem?_map, countsOf_at hi]
        rfl
      have q2 := SqL.of (K := K) (pt.2 _ _ hN5)
      have q3 := SqL.of (K := K) (pt.2 _ _ hl)
      refine ⟨⟨_, _, _, _, q2, q3, c1, c2⟩, ?_⟩
      rintro v H7 ⟨t, x, y, rfl, ht, rfl, hx, hy⟩
      have ex := hx _ q2
      have ey := hy _ q3
      rw [c1] at ex
      rw [c2] at ey
      cases ex
      cases ey
      refine ⟨t, _, rfl, SqT.of upd_same, rfl, ?_⟩
      refine ⟨_, _, rfl, _, _, rfl, rfl, rfl, yes ((if_pos rfl).mpr ?_)⟩
      refine ⟨_, rfl, _, rfl, _, _, rfl, rfl, pt.step hD (same_new ht) ?_ ?_⟩
      · rw [List.getElem?_map, sum_at hi, List.map_append, List.sum_append, List.map_cons, List.map_nil, List.sum_cons, List.sum_nil, Int.add_zero]
        have : (countsOf q.rs.length q.rows[j]).getD i 0 = ((q.rows[j].count (i : Int) : Nat) : Int) := by
          rw [List.getD_eq_getElem?_getD, countsOf_at hi]
          rfl
        rw [this]
        rfl
      · rw [List.length_map, sum_len', sizeLine_eq]
        omega
    · intro H6 pt
      refine ⟨⟨_, _, SqL.of (pt.2 _ _ hN5), SqL.of (pt.2 _ _ hl), .inl (by rw [List.length_map, sum_len']; exact Nat.le_refl _)⟩, ?_⟩
      obtain ⟨hl', e6⟩ := pt.done (by rw [List.length_map, sum_len']; exact Nat.le_refl _)
      refine ⟨D0, _, _, _, rfl, e4.trans (e5.trans e6), o5.free hD, ?_⟩
      rw [enss]
      exact hl'
  · rintro σ' H4 ⟨N', y11, y26, y27, rfl, e4, hN⟩
    rw [List.take_of_length_le (by rw [List.length_map]; omega)] at hN
    exact kk _ _ ⟨q, S, N', _, _, _, _, _, _, _, _, _, _, _, _, _, _, _, _, _, _, _, _, rfl, o.same e4, hn, o.s1 (o.gr.same e4) s, hN⟩
end
end K5
/-! parts of rows -/
namespace K5
open PySem PySem.Spec PyProof.Rows L2 Kx RZ
theorem RowsBy.take {R : Addr → List V → Prop} : ∀ {vs : List V} {ts : List (List Int)} (i : Nat), RowsBy R vs ts → RowsBy R (vs.take i) (ts.take i)
  | _, _, 0, _ => by rw [List.take_zero, List.take_zero]; trivial
  | [], [], _ + 1, _ => trivial
  | _ :: _, _ :: _, i + 1, ⟨h1, h2⟩ => ⟨h1, RowsBy.take i h2⟩
  | [], _ :: _, _ + 1, h => h.elim
  | _ :: _, [], _ + 1, h => h.elim
theorem RowsBy.drop {R : Addr → List V → Prop} : ∀ {vs : List V} {ts : List (List Int)} (i : Nat), RowsBy R vs ts → RowsBy R (vs.drop i) (ts.drop i)
  | _, _, 0, h => h
  | [], [], _ + 1, _ => trivial
  | _ :: _, _ :: _, i + 1, ⟨_, h2⟩ => RowsBy.drop i h2
  | [], _ :: _, _ + 1, h => h.elim
  | _ :: _, [], _ + 1, h => h.elim
end K5
/-! the law's statements -/
namespace K5
open PySem PySem.Spec PyProof.Rows L2 Kx RZ
section
variable {P : Program} {w : World} {K : PySem.W.Frag} {mg : Str → Option Value} {base : Heap} {f cc : Addr} {A0 : Around} {o0 : List Env} {s0 : Shared} {H0 : Hp} {E0 : XK} {a : Ad} {C CM cW : Addr} {Ts : List (Addr × Str)} {g : Addr} {fdg : FuncData} {Pt : Addr}
variable (Z : Lw P w K mg base f cc A0 o0 s0 H0 E0 a C CM cW Ts g fdg Pt)
include Z
theorem q7 : HT (XW P w K mg base f cc A0 o0 s0 H0 E0) (nthS bodyS 7) (T7 K C Ts) (T8 K C Ts) := by
  obtain ⟨T, TC, M, B, hr, cs, hf⟩ := Z
  refine ⟨_, (ps_par (i := 12) (j := 13) (by rfl) sc_law.nd rfl rfl (by decide) rfl rfl (pa_cons (pe_callC B.show_ hr pass0 (pa_cons (pv 3) (pa_cons (pv 4) (pa_cons (pv 10) pa_nil)))) (pa_cons (pe_callC B.mixed hr pass0 (pa_cons (pv 1) (pa_cons (pv 9) pa_nil))) pa_nil)) (by rfl)), fun n n1 n30 E1 σ H h kk => ?_⟩
  obtain ⟨q, S, N, x7, x8, x11, x12, x13, x14, x15, x16, x17, x18, x19, x20, x21, x22, x23, x24, x25, x26, x27, x28, rfl, o, hn, s, nn⟩ := h
  have ok := o.wd.cn.ok
  refine ⟨_, rfl, _, rfl, _, rfl, q.pr, q.pe, N, q.rs, q.es, tot q, rfl, SqL.of o.wd.pr, SqL.of o.wd.pe, SqL.of nn.2, ok.le, tot_len, ok.l4, fun r hr => (ok.r r hr).1, fun t H1 e1 ht => ?_⟩
  have o1 := o.same e1
  have m1 := o.gr.same e1
  obtain ⟨ss, Sb, hS, rowS⟩ := o.s1 m1 s
  have lss := rowS.length
  rw [List.length_map] at lss
  obtain ⟨t1, hb1⟩ := o1.box
  refine ⟨_, rfl, _, rfl, q.b, S, t1, ss, rfl, hb1, Sb, SqL.of hS, by omega, fun l ys H2 pm m2 nl lb hl => ?_⟩
  obtain ⟨lss2, rl, pl⟩ := rowS.perm pm
  have g2 := o1.gr.mv m2
  exact ⟨_, _, rfl, kk _ _ ⟨q, S, N, t, l, _, _, _, _, _, _, _, _, _, _, _, _, _, _, _, _, _, _, rfl, o1.go g2, hn, o1.s1 g2 ⟨ss, Sb, hS, rowS⟩, (N1.go m1 nn).go g2, o1.sqT g2 ht, ys, lss2, lb, hl, o1.rowsT g2 rl, pl⟩⟩
theorem q8 : HT (XW P w K mg base f cc A0 o0 s0 H0 E0) (nthS bodyS 8) (T8 K C Ts) (T8 K C Ts) := by
  obtain ⟨T, TC, M, B, hr, cs, hf⟩ := Z
  refine ⟨_, (ps_if (PW.pt (pw_or (pt_cmpR op_ne (pe_callB cs (by rfl) T.z_repr (by decide +kernel) (pa_cons (pe_mid (pe_callC B.merged hr pz (pa_cons (pv 5) (pa_cons (pe_lc (own := [("one", 11)]) (by rfl) sc_law.nd (pi_list (pv 13)) (blkOk_by (own := [("one", 11)]) (N := ["script", "box", "many", "rounds", "rests", "counters", "rows", "k", "row", "showings", "numbers", "one", "due", "left", "cut", "pieces", "kinds", "gone", "still", "told", "rest", "bad", "odd", "full", "kind", "turn", "old", "more", "number"]) (sc := defScope s_law) (by decide +kernel)) (fun _ _ _ _ _ => (pg_name (i := 11) sc_law.nd rfl (by first | exact Or.inl rfl | exact Or.inr rfl))) (fun _ _ _ _ _ => pts_nil) (fun _ _ _ _ _ => (pe_callTy (call_listK (K := K)) (by rfl) T.z_list bt_list (pa_cons (pv 11) pa_nil)))) pa_nil)))) pa_nil)) (pe_callB cs (by rfl) T.z_repr (by decide +kernel) (pa_cons (pv 12) pa_nil)) (nomark _)) (pw_or1 (pt_cmpR (op_neNums (r64 hr)) (pe_mid (pe_callN0 B.mergedK hr pz (pk_cons (pe_callTy call_tup (by rfl) T.z_tuple bt_tuple (pa_cons (pv 13) pa_nil)) (pk_cons (pv 5) pk_nil)))) (pv 12) (nomark _)))))
        (pss_one (ps_ret pe_bl))
        pss_nil), fun n n1 n30 E1 σ H h kk => ?_⟩
  obtain ⟨q, S, N, d, L, x7, x8, x11, x14, x15, x16, x17, x18, x19, x20, x21, x22, x23, x24, x25, x26, x27, x28, rfl, o, hn, s, nn, hd, ls, lss, Lb, hL, rl, pl⟩ := h
  have ok := o.wd.cn.ok
  have l4 := ok.l4
  have ar := all_right ok pl
  have lls := rl.length
  have llp := pl.length_eq
  rw [List.length_map] at llp
  have od : OkD 1 15400 (dNums (due q)) := nums_ok (M := 2670) (fun x hx => by have := due_low ok o.wd.low x hx; omega) (by decide) (by rw [due_len]; omega)
  refine ⟨fun v H' => ∃ p, v = .ref p ∧ Same H H' ∧ SqT K H' p ((due q).map V.int), ?_, ?_⟩
  · refine ⟨_, rfl, _, rfl, L, rfl, ⟨_, SqL.of hL⟩, fun D0 hD => ?_⟩
    refine lc_list (xs := ls) (fun i H' => ∃ us, Same H H' ∧ H' D0 = some (.lst us) ∧ RowsBy (SqL K H') us (lss.take i) ∧ ∀ x, V.ref x ∈ us → x ≠ D0) ⟨[], same_new hD, upd_same, trivial, fun _ z => nomatch z⟩ (fun j H' _ z => by obtain ⟨ss, e, _⟩ := z; exact SqL.of (e _ _ hL)) ?_ ?_
    · rintro j y H4 hy ⟨us, e4, h4, rows4, nD⟩
      have hj : j < lss.length := by rw [← lls]; exact (List.getElem?_eq_some_iff.mp hy).1
      have tj : lss[j]? = some lss[j] := List.getElem?_eq_getElem hj
      obtain ⟨ra, h1, h2⟩ := rl.at_ tj
      rw [hy] at h1
      cases h1
      have lus : us.length = j := by
        have := rows4.length
        rw [List.length_take] at this
        omega
      refine ⟨rfl, yes ((if_pos rfl).mpr ?_)⟩
      refine ⟨_, rfl, ra, _, rfl, .inr (sqT_same e4 h2), fun l hl => ?_⟩
      have e5 := same_new (o := HO.lst (lss[j].map V.int)) hl
      have u5 := upd_same (H := H4) (a := l) (o := HO.lst (lss[j].map V.int))
      have lD : l ≠ D0 := fun z => by rw [z, h4] at hl; cases hl
      generalize L2.upd H4 l (HO.lst (lss[j].map V.int)) = H5 at *
      have nD0 : H D0 = none := hD
      refine ⟨us, e5 _ _ h4, by rw [sizeLine_eq]; omega, us ++ [.ref l], same_put (e4.trans e5) nD0, upd_same, ?_, fun x hx => ?_⟩
      · have ne : ∀ {p : Addr} {xs : List V}, p ≠ D0 → SqL K H5 p xs → SqL K (upd H5 D0 (.lst (us ++ [.ref l]))) p xs := fun {p xs} z h => by
          rcases h with (h | ⟨w, h⟩) | h
          · exact .inl (.inl (by rw [upd_ne z]; exact h))
          · exact .inl (.inr ⟨w, by rw [upd_ne z]; exact h⟩)
          · exact .inr h
        rw [List.take_add_one, tj]
        exact RowsBy.snoc (ne lD (SqL.of u5)) (rows4.impM fun x xs m z => ne (nD x m) (sqL_same e5 z))
      · rcases List.mem_append.mp hx with h | h
        · exact nD x h
        · have := List.mem_singleton.mp h
          cases this
          exact lD
    · rintro H4 ⟨us, e4, h4, rows4, _⟩
      rw [show lss.take ls.length = lss from List.take_of_length_le (by omega)] at rows4
      show tNil _ _ _
      unfold tNil
      simp only [List.append_nil]
      refine merged_of (o.same e4).wd.cn (.inl (SqL.of h4)) (rows4.imp fun _ _ z => .inl z) ar fun p H5 e5 hp => ⟨p, rfl, e4.trans e5, ?_⟩
      rw [merged_due ok pl] at hp
      exact hp
  rintro v H5 ⟨p, rfl, e5, hp⟩
  refine ⟨_, _, rfl, dp_nums hp, od.sh, od.nd, od.d60, od.line, ?_⟩
  refine ⟨_, rfl, ?_⟩
  refine ⟨_, _, rfl, dp_nums (sqT_same e5 hd), od.sh, od.nd, od.d60, od.line, ?_⟩
  refine ⟨rfl, _, rfl, ite2 (fun z => (not_ne rfl z).elim) (fun _ => ?_)⟩
  refine ⟨fun v H' => ∃ p, v = .ref p ∧ Same H H' ∧ SqT K H' p ((due q).map V.int), ?_, ?_⟩
  · refine ⟨_, rfl, L, ls, rfl, .inl (SqL.of (e5 _ _ hL)), fun r H6 e6 hr6 => ?_⟩
    have e56 := e5.trans e6
    refine ⟨_, rfl, rfl, rfl, ?_⟩
    show spMerged K a C [V.ref q.c, V.ref r] H6 _ _
    refine merged_of (o.same e56).wd.cn (.inr hr6) (rl.imp fun _ _ z => .inr (sqT_same e56 z)) ar fun p H7 e7 hp => ⟨p, rfl, e56.trans e7, ?_⟩
    rw [merged_due ok pl] at hp
    exact hp
  rintro v H6 ⟨p6, rfl, e6, hp6⟩
  refine ⟨_, rfl, p6, d, due q, due q, rfl, rfl, hp6, sqT_same e6 hd, ?_⟩
  rw [show (true != decide (due q = due q)) = false by rw [decide_eq_true rfl]; rfl]
  refine ⟨_, rfl, iteF (kk _ _ ⟨q, S, N, d, L, _, _, _, _, _, _, _, _, _, _, _, _, _, _, _, _, _, _, rfl, o.same e6, hn, o.s1 (o.gr.same e6) s, N1.go (o.gr.same e6) nn, sqT_same e6 hd, o.l1 (o.gr.same e6) ⟨ls, lss, Lb, hL, rl, pl⟩⟩)⟩
theorem q9 : HT (XW P w K mg base f cc A0 o0 s0 H0 E0) (nthS bodyS 9) (T8 K C Ts) (T10 K C Ts) := by
  obtain ⟨T, TC, M, B, hr, cs, hf⟩ := Z
  refine ⟨_, (ps_set (i := 14) sc_law.nd rfl (by first | exact Or.inl rfl | exact Or.inr rfl) (pe_callC B.take hr pass0 (pa_cons (pv 1) (pa_cons (pe_op op_add (pe_callB call_len_seq (by rfl) T.z_len PySem.boot_len (pa_cons (pv 13) pa_nil)) pe_int) pa_nil)))), fun n n1 n30 E1 σ H h kk => ?_⟩
  obtain ⟨q, S, N, d, L, x7, x8, x11, x14, x15, x16, x17, x18, x19, x20, x21, x22, x23, x24, x25, x26, x27, x28, rfl, o, hn, s, nn, hd, ls, lss, Lb, hL, rl, pl⟩ := h
  have lls := rl.length
  have llp := pl.length_eq
  rw [List.length_map] at llp
  obtain ⟨t, hb⟩ := o.box
  refine ⟨_, rfl, _, rfl, L, ls, rfl, .inl (SqL.of hL), _, _, rfl, rfl, q.b, t, _, rfl, hb, by omega, by omega, fun r H4 r0 r9 m4 => ?_⟩
  obtain ⟨m, rfl⟩ : ∃ k : Nat, r = (k : Int) := ⟨r.toNat, by omega⟩
  have g4 := o.gr.mv m4
  exact kk _ _ ⟨q, S, N, d, L, m, _, _, _, _, _, _, _, _, _, _, _, _, _, _, _, _, _, rfl, o.go g4, hn, o.s1 g4 s, N1.go g4 nn, o.sqT g4 hd, o.l1 g4 ⟨ls, lss, Lb, hL, rl, pl⟩, by omega⟩
theorem q10 : HT (XW P w K mg base f cc A0 o0 s0 H0 E0) (nthS bodyS 10) (T10 K C Ts) (T11 K C Ts) := by
  obtain ⟨T, TC, M, B, hr, cs, hf⟩ := Z
  refine ⟨_, (ps_set (i := 15) sc_law.nd rfl (by first | exact Or.inl rfl | exact Or.inr rfl) (pe_lst (pa_cons (pe_mid (pe_callC B.merged hr pz (pa_cons (pv 5) (pa_cons (pe_slice sl_list (pv 13) po_none (po_some (pv 14))) pa_nil)))) (pa_cons (pe_mid (pe_callC B.merged hr pz (pa_cons (pv 5) (pa_cons (pe_slice sl_list (pv 13) (po_some (pv 14)) po_none) pa_nil)))) pa_nil)))), fun n n1 n30 E1 σ H h kk => ?_⟩
  obtain ⟨q, S, N, d, L, cut, x7, x8, x11, x15, x16, x17, x18, x19, x20, x21, x22, x23, x24, x25, x26, x27, x28, rfl, o, hn, s, nn, hd, ⟨ls, lss, Lb, hL, rl, pl⟩, lc⟩ := h
  have ok := o.wd.cn.ok
  have ar := all_right ok pl
  have lls := rl.length
  have llp := pl.length_eq
  rw [List.length_map] at llp
  refine ⟨fun v H' => ∃ p, v = .ref p ∧ Same H H' ∧ SqT K H' p ((showNs q.rs q.es (sumOf q.rs.length (lss.take cut))).map V.int), ?_, ?_⟩
  · refine ⟨_, rfl, _, rfl, _, rfl, (cut : Nat), rfl, L, ls, rfl, SqL.of hL, fun p hp => ?_⟩
    rw [cut_to (by omega)]
    have e1 := same_new (o := HO.lst (ls.take cut)) hp
    show tNil _ _ _
    unfold tNil
    simp only [List.append_nil]
    exact merged_of (o.same e1).wd.cn (.inl (SqL.of upd_same)) ((rl.imp fun _ _ z => .inr (sqT_same e1 z)).take cut) (fun x hx => ar x (List.mem_of_mem_take hx)) fun p H7 e7 hp => ⟨p, rfl, e1.trans e7, hp⟩
  rintro v H1 ⟨p1, rfl, e1, hp1⟩
  refine ⟨fun v H' => ∃ p, v = .ref p ∧ Same H1 H' ∧ SqT K H' p ((showNs q.rs q.es (sumOf q.rs.length (lss.drop cut))).map V.int), ?_, ?_⟩
  · refine ⟨_, rfl, _, rfl, _, rfl, (cut : Nat), rfl, L, ls, rfl, SqL.of (e1 _ _ hL), fun p hp => ?_⟩
    rw [cut_from (by omega)]
    have e2 := same_new (o := HO.lst (ls.drop cut)) hp
    have e12 := e1.trans e2
    show tNil _ _ _
    unfold tNil
    simp only [List.append_nil]
    exact merged_of (o.same e12).wd.cn (.inl (SqL.of upd_same)) ((rl.imp fun _ _ z => .inr (sqT_same e12 z)).drop cut) (fun x hx => ar x (List.mem_of_mem_drop hx)) fun p H7 e7 hp => ⟨p, rfl, e2.trans e7, hp⟩
  rintro v H2 ⟨p2, rfl, e2, hp2⟩
  refine ⟨(by show 2 ≤ sizeLine; decide), fun l hl => ?_⟩
  have e3 := same_new (o := HO.lst [.ref p1, .ref p2]) hl
  have e := e1.trans (e2.trans e3)
  have g := o.gr.same e
  exact kk _ _ ⟨q, S, N, d, l, p1, p2, lss.take cut, lss.drop cut, _, _, _, _, _, _, _, _, _, _, _, _, _, _, _, _, _, _, rfl, o.go g, hn, o.s1 g s, N1.go g nn, o.sqT g hd, (o.same (e1.trans e2)).free hl, upd_same, sqT_same e3 (sqT_same e2 hp1), sqT_same e3 hp2, by rw [List.take_append_drop]; exact pl⟩
theorem q11 : HT (XW P w K mg base f cc A0 o0 s0 H0 E0) (nthS bodyS 11) (T11 K C Ts) (T12 K C Ts) := by
  obtain ⟨T, TC, M, B, hr, cs, hf⟩ := Z
  refine ⟨_, (ps_if (pt_cmpR (op_neNums (r64 hr)) (pe_mid (pe_callC B.merged hr pz (pa_cons (pv 5) (pa_cons (pv 15) pa_nil)))) (pv 12) (nomark _))
        (pss_one (ps_ret pe_bl))
        pss_nil), fun n n1 n30 E1 σ H h kk => ?_⟩
  obtain ⟨q, S, N, d, Z, p1, p2, l1, l2, x7, x8, x11, x13, x14, x16, x17, x18, x19, x20, x21, x22, x23, x24, x25, x26, x27, x28, rfl, o, hn, s, nn, hd, Zb, hZ, hp1, hp2, pl⟩ := h
  have ok := o.wd.cn.ok
  have ar := all_right ok pl
  refine ⟨fun v H' => ∃ p, v = .ref p ∧ Same H H' ∧ SqT K H' p ((due q).map V.int), ?_, ?_⟩
  · refine ⟨_, rfl, _, rfl, ?_⟩
    show tNil _ _ _
    unfold tNil
    simp only [List.append_nil]
    refine merged_of (lss := [_, _]) o.wd.cn (.inl (SqL.of hZ)) ⟨⟨p1, rfl, .inr hp1⟩, ⟨p2, rfl, .inr hp2⟩, trivial⟩ (fun x hx => ?_) fun p H7 e7 hp => ⟨p, rfl, e7, ?_⟩
    · rcases List.mem_cons.mp hx with rfl | hx
      · exact piece_right ok fun x hx => ar x (List.mem_append.mpr (.inl hx))
      · rw [List.mem_singleton.mp hx]
        exact piece_right ok fun x hx => ar x (List.mem_append.mpr (.inr hx))
    · rw [pieces_due ok pl] at hp
      exact hp
  rintro v H6 ⟨p6, rfl, e6, hp6⟩
  refine ⟨_, rfl, p6, d, due q, due q, rfl, rfl, hp6, sqT_same e6 hd, ?_⟩
  rw [show (true != decide (due q = due q)) = false by rw [decide_eq_true rfl]; rfl]
  refine ⟨_, rfl, iteF (kk _ _ ⟨q, S, N, d, _, _, _, _, _, _, _, _, _, _, _, _, _, _, _, _, _, _, _, rfl, o.same e6, hn, o.s1 (o.gr.same e6) s, N1.go (o.gr.same e6) nn, sqT_same e6 hd⟩)⟩
end
end K5
/-! what the others are asked -/
namespace K5
open PySem PySem.Spec PyProof.Rows L2 Kx RZ
section
variable {K : PySem.W.Frag} {a : Ad} {C : Addr} {H : Hp} {E : XK} {Q : VK} {rs es ks xs : List Int} {c : Addr} {v u : V} {o : Option (List V)}
theorem kns_intsS {m : Nat} : Kns K H (someI ks) m := fun xs e _ x hx => by
  cases e
  exact kn_ints hx
theorem without_of (cn : CnAt K C H c rs es) (hk : Long K H v (someI ks)) (asc : ascOf rs.length (someI ks) = true) (k : ∀ x H', Same H H' → CnAt K C H' x (goneOf 1 ks rs) (goneOf 0 ks es) → Q (.ref x) H') : spWithout K a C [.ref c, v] H Q E := by
  refine ⟨c, rs, es, v, _, rfl, cn, hk, kns_intsS, fun z => ?_, fun ns e _ => ?_⟩
  · rw [asc] at z
    cases z
  · rw [← some_inj e]
    exact k
theorem without_bad (cn : CnAt K C H c rs es) (hk : Long K H v o) (kn : Kns K H o 4) (asc : ascOf rs.length o = false) (k : Thrown E H a.cF "at" v) : spWithout K a C [.ref c, v] H Q E :=
  ⟨c, rs, es, v, _, rfl, cn, hk, kn, fun _ => k, fun ns _ z => by rw [asc] at z; cases z⟩
theorem left_of (cn : CnAt K C H c rs es) (hk : Long K H v (someI ks)) (asc : ascOf rs.length (someI ks) = true) (hu : Long K H u (someI xs)) (rt : Right rs es xs) (k : ∀ r H', Same H H' → SqT K H' r ((goneOf 0 ks xs).map V.int) → Q (.ref r) H') : spLeft K a C [.ref c, v, u] H Q E := by
  have nb := right_not rt
  refine ⟨c, rs, es, v, u, _, _, rfl, cn, hk, kns_intsS, fun z => ?_, fun ns e1 _ => ⟨⟨hu, fun ys e _ x hx => ?_, fun z => ?_, fun ys i e hl fw => ?_⟩, fun ys e _ _ => ?_⟩⟩
  · rw [asc] at z
    cases z
  · cases e
    exact kn_ints hx
  · rcases z with z | ⟨ys, e, hl⟩
    · cases z
    · cases e
      exact absurd (.inl hl) nb
  · cases e
    exact absurd (.inr ⟨i, fw⟩) nb
  · rw [← some_inj e1, ← some_inj e]
    exact k
theorem left_bad (cn : CnAt K C H c rs es) (hk : Long K H v (someI ks)) (asc : ascOf rs.length (someI ks) = true) (hu : Long K H u o) (kn : ∀ zs, o = some zs → zs.length = rs.length → ∀ z ∈ zs, Kn K H z) (bad : BadShow rs es o) (k : ∀ i : Int, Thrown E H a.cS "at" (.int i)) : spLeft K a C [.ref c, v, u] H Q E := by
  refine ⟨c, rs, es, v, u, _, o, rfl, cn, hk, kns_intsS, fun z => ?_, fun ns e _ => ⟨⟨hu, kn, fun _ => k _, fun ys i _ _ _ => k _⟩, fun ys e hl al => ?_⟩⟩
  · rw [asc] at z
    cases z
  · rw [e] at bad
    exact absurd bad (right_not ⟨hl, al⟩)
theorem left_odd (cn : CnAt K C H c rs es) (hk : Long K H v o) (kn : Kns K H o 4) (asc : ascOf rs.length o = false) (k : Thrown E H a.cF "at" v) : spLeft K a C [.ref c, v, u] H Q E :=
  ⟨c, rs, es, v, u, _, none, rfl, cn, hk, kn, fun _ => k, fun ns _ z => by rw [asc] at z; cases z⟩
end
theorem asc_of {ks : List Int} {l : Nat} (p : ks.Pairwise (· < ·)) (h : ∀ x ∈ ks, 0 ≤ x ∧ x < (l : Int)) (hl : ks.length ≤ l) : ascOf l (someI ks) = true := by
  rw [ascOf_ints]
  · refine List.all_eq_true.mpr fun b hb => ?_
    unfold ascs at hb
    obtain ⟨i, hi, rfl⟩ := List.mem_map.mp hb
    have lt := List.mem_range.mp hi
    have := List.pairwise_iff_getElem.mp p i (i + 1) (by omega) (by omega) (by omega)
    rw [List.getD_eq_getElem?_getD, List.getD_eq_getElem?_getD, List.getElem?_eq_getElem (by omega), List.getElem?_eq_getElem (by omega)]
    exact decide_eq_true this
  · rw [inLen_some, Bool.and_eq_true, decide_eq_true_eq, decide_eq_true_eq, List.length_map]
    omega
  · refine fnb_none.mpr fun x hx => ?_
    obtain ⟨n, hn, rfl⟩ := List.mem_map.mp hx
    have := h n hn
    show (decide (0 ≤ n) && decide (n < (l : Int))) = true
    rw [decide_eq_true this.1, decide_eq_true this.2]
    rfl
end K5
/-! the law's statements -/
namespace K5
open PySem PySem.Spec PyProof.Rows L2 Kx RZ
section
variable {P : Program} {w : World} {K : PySem.W.Frag} {mg : Str → Option Value} {base : Heap} {f cc : Addr} {A0 : Around} {o0 : List Env} {s0 : Shared} {H0 : Hp} {E0 : XK} {a : Ad} {C CM cW : Addr} {Ts : List (Addr × Str)} {g : Addr} {fdg : FuncData} {Pt : Addr}
variable (Z : Lw P w K mg base f cc A0 o0 s0 H0 E0 a C CM cW Ts g fdg Pt)
include Z
theorem q12 : HT (XW P w K mg base f cc A0 o0 s0 H0 E0) (nthS bodyS 12) (T12 K C Ts) (T13 K C Ts) := by
  obtain ⟨T, TC, M, B, hr, cs, hf⟩ := Z
  refine ⟨_, (ps_set (i := 16) sc_law.nd rfl (by first | exact Or.inl rfl | exact Or.inr rfl) (pe_lc (own := [("kind", 24)]) (by rfl) sc_law.nd (pi_range1 (by rfl) T.z_range (pa_cons (pv 2) pa_nil)) (blkOk_by (own := [("kind", 24)]) (N := ["script", "box", "many", "rounds", "rests", "counters", "rows", "k", "row", "showings", "numbers", "one", "due", "left", "cut", "pieces", "kinds", "gone", "still", "told", "rest", "bad", "odd", "full", "kind", "turn", "old", "more", "number"]) (sc := defScope s_law) (by decide +kernel)) (fun _ _ _ _ _ => (pg_name (i := 24) sc_law.nd rfl (by first | exact Or.inl rfl | exact Or.inr rfl))) (fun _ _ _ _ _ => (pts_one (pt_cmpR op_eq (pe_callC B.take hr pass0 (pa_cons (pv 1) (pa_cons pe_int pa_nil))) pe_int (nomark _)))) (fun _ _ _ _ _ => (pv 24)))), fun n n1 n30 E1 σ H h kk => ?_⟩
  obtain ⟨q, S, N, d, x7, x8, x11, x13, x14, x15, x16, x17, x18, x19, x20, x21, x22, x23, x24, x25, x26, x27, x28, rfl, o, hn, s, nn, hd⟩ := h
  have l4 := o.wd.cn.ok.l4
  obtain ⟨t, hb⟩ := o.box
  refine ⟨_, rfl, q.rs.length, rfl, by omega, by omega, fun D0 hD => ?_⟩
  have fr := (Mv.refl hb).free hD
  refine lc_range (lo := 0) (n := q.rs.length) (fun i H' => ∃ ks : List Int, H' D0 = some (.lst (ks.map V.int)) ∧ Mv q.b H H' ∧ ks.length ≤ i ∧ ks.Pairwise (· < ·) ∧ ∀ x ∈ ks, 0 ≤ x ∧ x < (i : Int)) ⟨[], upd_same, (Mv.refl hb).put fr.1 fr.2, Nat.le_refl _, .nil, fun x hx => by cases hx⟩ ?_ ?_
  · rintro i H8 hi ⟨ks, h8, m8, l8, p8, a8⟩
    obtain ⟨t8, hb8⟩ := m8.2
    refine ⟨rfl, ?_⟩
    refine ⟨_, rfl, q.b, t8, 3, rfl, hb8, by decide, by decide, fun x HB x0 x1 mB => ?_⟩
    refine ⟨rfl, _, rfl, ite2 (fun _ => ?_) (fun _ => ?_)⟩
    · refine ⟨_, rfl, ks.map V.int, mB.1 _ _ fr.2 h8, by rw [List.length_map, sizeLine_eq]; omega, ks ++ [(i : Int)], ?_, (m8.trans mB).put fr.1 fr.2, by rw [List.length_append]; show ks.length + 1 ≤ _; omega, ?_, fun y hy => ?_⟩
      · rw [upd_same, List.map_append, List.map_singleton, Int.zero_add]
      · refine List.pairwise_append.mpr ⟨p8, List.pairwise_singleton .., fun x hx y hy => ?_⟩
        rw [List.mem_singleton.mp hy]
        exact (a8 x hx).2
      · rcases List.mem_append.mp hy with h | h
        · have := a8 y h
          omega
        · rw [List.mem_singleton.mp h]
          omega
    · exact ⟨ks, mB.1 _ _ fr.2 h8, m8.trans mB, by omega, p8, fun y hy => by have := a8 y hy; omega⟩
  · rintro H8 ⟨ks, h8, m8, l8, p8, a8⟩
    have g := o.gr.mv m8
    exact kk _ _ ⟨q, S, N, d, D0, ks, _, _, _, _, _, _, _, _, _, _, _, _, _, _, _, _, _, _, rfl, o.go g, hn, o.s1 g s, N1.go g nn, o.sqT g hd, ⟨fr.2, h8⟩, asc_of p8 a8 l8⟩
theorem q13 : HT (XW P w K mg base f cc A0 o0 s0 H0 E0) (nthS bodyS 13) (T13 K C Ts) (T14 K C Ts) := by
  obtain ⟨T, TC, M, B, hr, cs, hf⟩ := Z
  refine ⟨_, (ps_setLc (i := 17) (own := [("kind", 24), ("turn", 25)]) (g := gTup K 2 (gCons (gName 24) (gCons (gName 25) gNil))) (by rfl) sc_law.nd rfl rfl (sw_true rfl rfl rfl (by decide +kernel)) (pi_pairs (by rfl) T.z_enumerate (pa_cons (pv 3) pa_nil)) (blkOk_by (own := [("kind", 24), ("turn", 25)]) (N := ["script", "box", "many", "rounds", "rests", "counters", "rows", "k", "row", "showings", "numbers", "one", "due", "left", "cut", "pieces", "kinds", "gone", "still", "told", "rest", "bad", "odd", "full", "kind", "turn", "old", "more", "number"]) (sc := defScope s_law) (by decide +kernel)) (fun _ _ _ _ _ => (pg_tup rfl (pgs_cons (pg_name (i := 24) sc_law.nd rfl (by first | exact Or.inl rfl | exact Or.inr rfl)) (pgs_cons (pg_name (i := 25) sc_law.nd rfl (by first | exact Or.inl rfl | exact Or.inr rfl)) pgs_nil)))) (fun _ _ _ _ _ => pts_nil) (fun _ _ _ _ _ => (pe_ifExp (pt_cmpR (op_inK (K := K)) (pv 24) (pv 16) (by rfl)) pe_int (pv 25)))), fun n n1 n30 E1 σ H h kk => ?_⟩
  obtain ⟨q, S, N, d, J, ks, x7, x8, x11, x13, x14, x15, x17, x18, x19, x20, x21, x22, x23, x24, x25, x26, x27, x28, rfl, o, hn, s, nn, hd, hJ, asc⟩ := h
  have ok := o.wd.cn.ok
  have l4 := ok.l4
  have h2 := SqL.of (K := K) o.wd.pr
  refine ⟨_, rfl, q.pr, _, rfl, .inl ⟨h2, fun D0 hD => turns (n := q.rs.length) (Part H D0 ((goneOf 1 ks q.rs).map V.int)) (Part.zero hD) ?_ ?_⟩⟩
  · intro i H2 hi pt
    have b1 : (q.rs.map V.int)[i]? = some (.int (q.rs.getD i 0)) := by rw [List.getElem?_map, List.getD_eq_getElem?_getD, List.getElem?_eq_getElem hi]; rfl
    have q2 := sqL_same pt.2 h2
    refine ⟨⟨_, _, q2, b1⟩, ?_⟩
    rintro v H3 ⟨p', x, rfl, hp, rfl, hx'⟩
    have ex := hx' _ q2
    rw [b1] at ex
    cases ex
    have e3 := same_new (o := HO.tup [.int (i : Nat), .int (q.rs.getD i 0)]) hp
    refine ⟨p', _, rfl, SqT.of upd_same, rfl, ?_⟩
    refine ⟨_, _, rfl, _, _, rfl, rfl, rfl, yes ((if_pos rfl).mpr ?_)⟩
    have stp : ∀ y, y = V.int (if (i : Int) ∈ ks then 1 else q.rs.getD i 0) → ∃ acc, (upd H2 p' (.tup [.int (i : Nat), .int (q.rs.getD i 0)])) D0 = some (.lst acc) ∧ acc.length < sizeLine ∧ Part H D0 ((goneOf 1 ks q.rs).map V.int) (i + 1) (upd (upd H2 p' (.tup [.int (i : Nat), .int (q.rs.getD i 0)])) D0 (.lst (acc ++ [y]))) := fun y ey => by
      rw [ey]
      exact pt.step hD e3 (gone_at hi) (by rw [List.length_map, gone_len, sizeLine_eq]; omega)
    refine ⟨_, rfl, _, rfl, J, ks.map V.int, rfl, .inl (SqL.of (e3 _ _ (pt.2 _ _ hJ.2))), rfl, flat_nums, ?_⟩
    rw [if_neg (by decide), in_nums]
    refine ⟨_, rfl, ite2 (fun h => ?_) (fun h => ?_)⟩
    · exact stp _ (by rw [if_pos (of_decide_eq_true h)])
    · exact ⟨_, rfl, stp _ (by rw [if_neg fun z => h (decide_eq_true z)])⟩
  · intro H2 pt
    obtain ⟨hl, e2⟩ := pt.done (by rw [List.length_map, gone_len]; exact Nat.le_refl _)
    have g := o.gr.same e2
    exact ⟨⟨_, sqL_same pt.2 h2, by rw [List.length_map]; exact Nat.le_refl _⟩, kk _ _ ⟨q, S, N, d, J, D0, ks, _, _, _, _, _, _, _, _, _, _, _, _, _, _, _, _, _, rfl, o.go g, hn, o.s1 g s, N1.go g nn, o.sqT g hd, N1.go g hJ, asc, o.free hD, hl⟩⟩
theorem q14 : HT (XW P w K mg base f cc A0 o0 s0 H0 E0) (nthS bodyS 14) (T14 K C Ts) (T15 K C Ts) := by
  obtain ⟨T, TC, M, B, hr, cs, hf⟩ := Z
  refine ⟨_, (ps_setLc (i := 18) (own := [("kind", 24), ("rest", 20)]) (g := gTup K 2 (gCons (gName 24) (gCons (gName 20) gNil))) (by rfl) sc_law.nd rfl rfl (sw_true rfl rfl rfl (by decide +kernel)) (pi_pairs (by rfl) T.z_enumerate (pa_cons (pv 4) pa_nil)) (blkOk_by (own := [("kind", 24), ("rest", 20)]) (N := ["script", "box", "many", "rounds", "rests", "counters", "rows", "k", "row", "showings", "numbers", "one", "due", "left", "cut", "pieces", "kinds", "gone", "still", "told", "rest", "bad", "odd", "full", "kind", "turn", "old", "more", "number"]) (sc := defScope s_law) (by decide +kernel)) (fun _ _ _ _ _ => (pg_tup rfl (pgs_cons (pg_name (i := 24) sc_law.nd rfl (by first | exact Or.inl rfl | exact Or.inr rfl)) (pgs_cons (pg_name (i := 20) sc_law.nd rfl (by first | exact Or.inl rfl | exact Or.inr rfl)) pgs_nil)))) (fun _ _ _ _ _ => pts_nil) (fun _ _ _ _ _ => (pe_ifExp (pt_cmpR (op_inK (K := K)) (pv 24) (pv 16) (by rfl)) pe_int (pv 20)))), fun n n1 n30 E1 σ H h kk => ?_⟩
  obtain ⟨q, S, N, d, J, U, ks, x7, x8, x11, x13, x14, x15, x18, x19, x20, x21, x22, x23, x24, x25, x26, x27, x28, rfl, o, hn, s, nn, hd, hJ, asc, hU⟩ := h
  have ok := o.wd.cn.ok
  have l4 := ok.l4
  have le := ok.le
  have h2 := SqL.of (K := K) o.wd.pe
  refine ⟨_, rfl, q.pe, _, rfl, .inl ⟨h2, fun D0 hD => turns (n := q.es.length) (Part H D0 ((goneOf 0 ks q.es).map V.int)) (Part.zero hD) ?_ ?_⟩⟩
  · intro i H2 hi pt
    have b1 : (q.es.map V.int)[i]? = some (.int (q.es.getD i 0)) := by rw [List.getElem?_map, List.getD_eq_getElem?_getD, List.getElem?_eq_getElem hi]; rfl
    have q2 := sqL_same pt.2 h2
    refine ⟨⟨_, _, q2, b1⟩, ?_⟩
    rintro v H3 ⟨p', x, rfl, hp, rfl, hx'⟩
    have ex := hx' _ q2
    rw [b1] at ex
    cases ex
    have e3 := same_new (o := HO.tup [.int (i : Nat), .int (q.es.getD i 0)]) hp
    refine ⟨p', _, rfl, SqT.of upd_same, rfl, ?_⟩
    refine ⟨_, _, rfl, _, _, rfl, rfl, rfl, yes ((if_pos rfl).mpr ?_)⟩
    have stp : ∀ y, y = V.int (if (i : Int) ∈ ks then 0 else q.es.getD i 0) → ∃ acc, (upd H2 p' (.tup [.int (i : Nat), .int (q.es.getD i 0)])) D0 = some (.lst acc) ∧ acc.length < sizeLine ∧ Part H D0 ((goneOf 0 ks q.es).map V.int) (i + 1) (upd (upd H2 p' (.tup [.int (i : Nat), .int (q.es.getD i 0)])) D0 (.lst (acc ++ [y]))) := fun y ey => by
      rw [ey]
      exact pt.step hD e3 (gone_at hi) (by rw [List.length_map, gone_len, sizeLine_eq]; omega)
    refine ⟨_, rfl, _, rfl, J, ks.map V.int, rfl, .inl (SqL.of (e3 _ _ (pt.2 _ _ hJ.2))), rfl, flat_nums, ?_⟩
    rw [if_neg (by decide), in_nums]
    refine ⟨_, rfl, ite2 (fun h => ?_) (fun h => ?_)⟩
    · exact stp _ (by rw [if_pos (of_decide_eq_true h)])
    · exact ⟨_, rfl, stp _ (by rw [if_neg fun z => h (decide_eq_true z)])⟩
  · intro H2 pt
    obtain ⟨hl, e2⟩ := pt.done (by rw [List.length_map, gone_len]; exact Nat.le_refl _)
    have g := o.gr.same e2
    exact ⟨⟨_, sqL_same pt.2 h2, by rw [List.length_map]; exact Nat.le_refl _⟩, kk _ _ ⟨q, S, N, d, J, U, D0, ks, _, _, _, _, _, _, _, _, _, _, _, _, _, _, _, _, rfl, o.go g, hn, o.s1 g s, N1.go g nn, o.sqT g hd, N1.go g hJ, asc, N1.go g hU, o.free hD, hl⟩⟩
end
end K5
/-! the law's statements -/
namespace K5
open PySem PySem.Spec PyProof.Rows L2 Kx RZ
section
variable {P : Program} {w : World} {K : PySem.W.Frag} {mg : Str → Option Value} {base : Heap} {f cc : Addr} {A0 : Around} {o0 : List Env} {s0 : Shared} {H0 : Hp} {E0 : XK} {a : Ad} {C CM cW : Addr} {Ts : List (Addr × Str)} {g : Addr} {fdg : FuncData} {Pt : Addr}
variable (Z : Lw P w K mg base f cc A0 o0 s0 H0 E0 a C CM cW Ts g fdg Pt)
include Z
theorem q15 : HT (XW P w K mg base f cc A0 o0 s0 H0 E0) (nthS bodyS 15) (T15 K C Ts) (T16 K C Ts) := by
  obtain ⟨T, TC, M, B, hr, cs, hf⟩ := Z
  refine ⟨_, (ps_set (i := 19) sc_law.nd rfl (by first | exact Or.inl rfl | exact Or.inr rfl) (pe_mid (pe_callC B.without hr pz (pa_cons (pv 5) (pa_cons (pv 16) pa_nil))))), fun n n1 n30 E1 σ H h kk => ?_⟩
  obtain ⟨q, S, N, d, J, U, W, ks, x7, x8, x11, x13, x14, x15, x19, x20, x21, x22, x23, x24, x25, x26, x27, x28, rfl, o, hn, s, nn, hd, hJ, asc, hU, hW⟩ := h
  refine ⟨fun v H' => ∃ p, v = .ref p ∧ Same H H' ∧ CnAt K C H' p (goneOf 1 ks q.rs) (goneOf 0 ks q.es), ?_, ?_⟩
  · refine ⟨_, rfl, _, rfl, ?_⟩
    show tNil _ _ _
    unfold tNil
    simp only [List.append_nil]
    exact without_of o.wd.cn (.seq (.inl (SqL.of hJ.2))) asc fun x H' e cn => ⟨x, rfl, e, cn⟩
  rintro v H1 ⟨p, rfl, e, cn⟩
  have g := o.gr.same e
  exact kk _ _ ⟨q, S, N, d, J, U, W, p, ks, _, _, _, _, _, _, _, _, _, _, _, _, _, _, _, rfl, o.go g, hn, o.s1 g s, N1.go g nn, o.sqT g hd, N1.go g hJ, asc, N1.go g hU, N1.go g hW, cn⟩
theorem q16 : HT (XW P w K mg base f cc A0 o0 s0 H0 E0) (nthS bodyS 16) (T16 K C Ts) (T16 K C Ts) := by
  obtain ⟨T, TC, M, B, hr, cs, hf⟩ := Z
  refine ⟨_, (ps_if (PW.pt (pw_or (pt_cmpR op_ne (pe_callB cs (by rfl) T.z_repr (by decide +kernel) (pa_cons (pe_tup (pa_cons (pe_fld (pv 19) rfl) (pa_cons (pe_fld (pv 19) rfl) pa_nil))) pa_nil)) (pe_callB cs (by rfl) T.z_repr (by decide +kernel) (pa_cons (pe_tup (pa_cons (pe_callTy call_tup (by rfl) T.z_tuple bt_tuple (pa_cons (pv 17) pa_nil)) (pa_cons (pe_callTy call_tup (by rfl) T.z_tuple bt_tuple (pa_cons (pv 18) pa_nil)) pa_nil))) pa_nil)) (nomark _)) (pw_or1 (pt_cmpR (op_neC (K := K) M hr) (pe_mid (pe_callN0 B.withoutK hr pz (pk_cons (pe_callTy call_tup (by rfl) T.z_tuple bt_tuple (pa_cons (pv 16) pa_nil)) (pk_cons (pv 5) pk_nil)))) (pv 19) (nomark _)))))
        (pss_one (ps_ret pe_bl))
        pss_nil), fun n n1 n30 E1 σ H h kk => ?_⟩
  obtain ⟨q, S, N, d, J, U, W, y, ks, x7, x8, x11, x13, x14, x15, x20, x21, x22, x23, x24, x25, x26, x27, x28, rfl, o, hn, s, nn, hd, hJ, asc, hU, hW, cn⟩ := h
  have ok := o.wd.cn.ok
  have l4 := ok.l4
  have le := ok.le
  obtain ⟨gok, dx, p, p2, h1, h2, h3⟩ := id cn
  have od : OkD 2 15402004 (dRows [goneOf 1 ks q.rs, goneOf 0 ks q.es]) := okD_rows (fun r hr => by
    rcases List.mem_cons.mp hr with rfl | hr
    · exact ⟨by rw [gone_len]; omega, fun n hn => by have := gok.r n hn; omega⟩
    · rw [List.mem_singleton.mp hr]
      exact ⟨by rw [gone_len]; omega, fun n hn => by have := gok.e n hn; omega⟩) (by show 2 ≤ 1000; decide)
  have d60 : (dRows [goneOf 1 ks q.rs, goneOf 0 ks q.es]).depth ≤ 60 := od.d60
  have line : (dRows [goneOf 1 ks q.rs, goneOf 0 ks q.es]).shown.length ≤ sizeLine := od.line
  have sh := od.sh
  have nd := od.nd
  clear od
  have dr : dRows [goneOf 1 ks q.rs, goneOf 0 ks q.es] = .tuple [dNums (goneOf 1 ks q.rs), dNums (goneOf 0 ks q.es)] := rfl
  generalize dRows [goneOf 1 ks q.rs, goneOf 0 ks q.es] = dt at *
  refine ⟨_, rfl, y, C, dx, _, _, rfl, h1, TC.cl, TC.n1, rfl, ?_⟩
  refine ⟨_, rfl, y, C, dx, _, _, rfl, h1, TC.cl, TC.n2, rfl, ?_⟩
  refine ⟨(by show 2 ≤ sizeLine; decide), fun t ht => ?_⟩
  have e1 := same_new (o := HO.tup [.ref p, .ref p2]) ht
  refine ⟨_, dt, rfl, by rw [dr]; exact .tup (SqT.of upd_same) (.cons (dp_nums (sqT_same e1 h2)) (.cons (dp_nums (sqT_same e1 h3)) .nil)), sh, nd, d60, line, ?_⟩
  generalize L2.upd H t (HO.tup [.ref p, .ref p2]) = H1 at *
  refine ⟨_, rfl, U, _, rfl, .inl (SqL.of (e1 _ _ hU.2)), fun r1 H2 e2 hr1 => ?_⟩
  refine ⟨_, rfl, W, _, rfl, .inl (SqL.of (e2 _ _ (e1 _ _ hW.2))), fun r2 H3 e3 hr2 => ?_⟩
  refine ⟨(by show 2 ≤ sizeLine; decide), fun t2 ht2 => ?_⟩
  have e4 := same_new (o := HO.tup [.ref r1, .ref r2]) ht2
  refine ⟨_, dt, rfl, by rw [dr]; exact .tup (SqT.of upd_same) (.cons (dp_nums (sqT_same e4 (sqT_same e3 hr1))) (.cons (dp_nums (sqT_same e4 hr2)) .nil)), sh, nd, d60, line, ?_⟩
  generalize L2.upd H3 t2 (HO.tup [.ref r1, .ref r2]) = H4 at *
  have e := e1.trans (e2.trans (e3.trans e4))
  refine ⟨rfl, _, rfl, ite2 (fun z => (not_ne rfl z).elim) (fun _ => ?_)⟩
  have o4 := o.same e
  have hJ4 := N1.go (o.gr.same e) hJ
  refine ⟨fun v H' => ∃ p, v = .ref p ∧ Same H4 H' ∧ CnAt K C H' p (goneOf 1 ks q.rs) (goneOf 0 ks q.es), ?_, ?_⟩
  · refine ⟨_, rfl, J, _, rfl, .inl (SqL.of hJ4.2), fun r H6 e6 hr6 => ?_⟩
    refine ⟨_, rfl, rfl, rfl, ?_⟩
    exact without_of (o4.same e6).wd.cn (.seq (.inr hr6)) asc fun x H' e cn => ⟨x, rfl, e6.trans e, cn⟩
  rintro v H5 ⟨p5, rfl, e5, cn5⟩
  have g := o.gr.same (e.trans e5)
  refine ⟨_, rfl, p5, y, _, _, rfl, rfl, cn5, cn.same (e.trans e5), fun H6 e6 => ⟨_, rfl, iteF ?_⟩⟩
  have g := g.same e6
  exact kk _ _ ⟨q, S, N, d, J, U, W, y, ks, _, _, _, _, _, _, _, _, _, _, _, _, _, _, _, rfl, o.go g, hn, o.s1 g s, N1.go g nn, o.sqT g hd, N1.go g hJ, asc, N1.go g hU, N1.go g hW, o.cn g cn⟩
theorem q17 : HT (XW P w K mg base f cc A0 o0 s0 H0 E0) (nthS bodyS 17) (T16 K C Ts) (T18 K C Ts) := by
  obtain ⟨T, TC, M, B, hr, cs, hf⟩ := Z
  refine ⟨_, (ps_set (i := 20) sc_law.nd rfl (by first | exact Or.inl rfl | exact Or.inr rfl) (pe_callC B.show_ hr pass0 (pa_cons (pv 17) (pa_cons (pv 18) (pa_cons (pv 10) pa_nil))))), fun n n1 n30 E1 σ H h kk => ?_⟩
  obtain ⟨q, S, N, d, J, U, W, y, ks, x7, x8, x11, x13, x14, x15, x20, x21, x22, x23, x24, x25, x26, x27, x28, rfl, o, hn, s, nn, hd, hJ, asc, hU, hW, cn⟩ := h
  have ok := o.wd.cn.ok
  have gok := cn.ok
  have l4 := ok.l4
  refine ⟨_, rfl, _, rfl, _, rfl, U, W, N, goneOf 1 ks q.rs, goneOf 0 ks q.es, tot q, rfl, SqL.of hU.2, SqL.of hW.2, SqL.of nn.2, gok.le, by rw [tot_len, gone_len], by rw [gone_len]; omega, fun r hr => (gok.r r hr).1, fun t H1 e1 ht => ?_⟩
  rw [left_same tot_len ok.le fun z hz => (tot_low o.wd.low z hz).1] at ht
  have g := o.gr.same e1
  exact kk _ _ ⟨q, S, d, J, t, ks, _, _, _, _, _, _, _, _, _, _, _, _, _, _, _, _, _, _, rfl, o.go g, hn, o.s1 g s, o.sqT g hd, N1.go g hJ, asc, ht⟩
theorem q18 : HT (XW P w K mg base f cc A0 o0 s0 H0 E0) (nthS bodyS 18) (T18 K C Ts) (T19 K C Ts) := by
  obtain ⟨T, TC, M, B, hr, cs, hf⟩ := Z
  refine ⟨_, (ps_if (PW.pt (pw_or (pt_cmpR op_ne (pe_callB cs (by rfl) T.z_repr (by decide +kernel) (pa_cons (pe_mid (pe_callC B.leftS hr pz (pa_cons (pv 5) (pa_cons (pv 16) (pa_cons (pv 12) pa_nil))))) pa_nil)) (pe_callB cs (by rfl) T.z_repr (by decide +kernel) (pa_cons (pv 20) pa_nil)) (nomark _)) (pw_or1 (pt_cmpR (op_neNums (r64 hr)) (pe_mid (pe_callN0 B.leftK hr pz (pk_cons (pe_callTy call_list_of (by rfl) T.z_list bt_list (pa_cons (pv 12) pa_nil)) (pk_cons (pe_callTy call_tup (by rfl) T.z_tuple bt_tuple (pa_cons (pv 16) pa_nil)) (pk_cons (pv 5) pk_nil))))) (pv 20) (nomark _)))))
        (pss_one (ps_ret pe_bl))
        pss_nil), fun n n1 n30 E1 σ H h kk => ?_⟩
  obtain ⟨q, S, d, J, e, ks, x7, x8, x10, x11, x13, x14, x15, x17, x18, x19, x21, x22, x23, x24, x25, x26, x27, x28, rfl, o, hn, s, hd, hJ, asc, he⟩ := h
  have ok := o.wd.cn.ok
  have l4 := ok.l4
  have rt := due_right ok o.wd.low
  have od : OkD 1 15400 (dNums (goneOf 0 ks (due q))) := nums_ok (M := 2670) (fun x hx => by
    rcases gone_mem hx with rfl | h
    · decide
    · have := due_low ok o.wd.low x h
      omega) (by decide) (by rw [gone_len, due_len]; omega)
  refine ⟨fun v H' => ∃ p, v = .ref p ∧ Same H H' ∧ SqT K H' p ((goneOf 0 ks (due q)).map V.int), ?_, ?_⟩
  · refine ⟨_, rfl, _, rfl, _, rfl, ?_⟩
    show tNil _ _ _
    unfold tNil
    simp only [List.append_nil]
    exact left_of o.wd.cn (.seq (.inl (SqL.of hJ.2))) asc (.seq (.inr hd)) rt fun r H' e hr => ⟨r, rfl, e, hr⟩
  rintro v H5 ⟨p, rfl, e5, hp⟩
  refine ⟨_, _, rfl, dp_nums hp, od.sh, od.nd, od.d60, od.line, ?_⟩
  refine ⟨_, rfl, ?_⟩
  refine ⟨_, _, rfl, dp_nums (sqT_same e5 he), od.sh, od.nd, od.d60, od.line, ?_⟩
  refine ⟨rfl, _, rfl, ite2 (fun z => (not_ne rfl z).elim) (fun _ => ?_)⟩
  have o5 := o.same e5
  have hJ5 := N1.go (o.gr.same e5) hJ
  refine ⟨fun v H' => ∃ p, v = .ref p ∧ Same H5 H' ∧ SqT K H' p ((goneOf 0 ks (due q)).map V.int), ?_, ?_⟩
  · refine ⟨_, rfl, d, _, rfl, .inr (sqT_same e5 hd), fun l hl => ?_⟩
    have e6 := same_new (o := HO.lst ((due q).map V.int)) hl
    have u6 := upd_same (H := H5) (a := l) (o := HO.lst ((due q).map V.int))
    generalize L2.upd H5 l (HO.lst ((due q).map V.int)) = H6 at *
    refine ⟨_, rfl, J, _, rfl, .inl (SqL.of (e6 _ _ hJ5.2)), fun r H7 e7 hr7 => ?_⟩
    refine ⟨_, rfl, rfl, rfl, ?_⟩
    have e67 := e6.trans e7
    exact left_of (o5.same e67).wd.cn (.seq (.inr hr7)) asc (.seq (.inl (SqL.of (e7 _ _ u6)))) rt fun r H' e hr => ⟨r, rfl, e67.trans e, hr⟩
  rintro v H6 ⟨p6, rfl, e6, hp6⟩
  have e := e5.trans e6
  have g := o.gr.same e
  refine ⟨_, rfl, p6, _, _, _, rfl, rfl, hp6, sqT_same e he, ?_⟩
  rw [show (true != decide (goneOf 0 ks (due q) = goneOf 0 ks (due q))) = false by rw [decide_eq_true rfl]; rfl]
  exact ⟨_, rfl, iteF (kk _ _ ⟨q, S, J, ks, _, _, _, _, _, _, _, _, _, _, _, _, _, _, _, _, _, _, _, _, rfl, o.go g, hn, o.s1 g s, N1.go g hJ, asc⟩)⟩
end
end K5
/-! values that are none -/
namespace K5
open PySem PySem.Spec PyProof.Rows L2 Kx RZ
theorem flat3 {x : Str} {y : V} {b : Bool} (hy : flatB y = true) : ∀ v ∈ [V.str x, y, .bl b], flatB v = true ∨ ∃ c, v = .ref c := fun v hv => by
  rcases List.mem_cons.mp hv with rfl | hv
  · exact .inl rfl
  · rcases List.mem_cons.mp hv with rfl | hv
    · exact .inl hy
    · rw [List.mem_singleton.mp hv]
      exact .inl rfl
theorem asc_no1 {l : Nat} {x : V} {r : List V} (h : isBel l x = false) : ascOf l (some (x :: r)) = false := by
  have e : fnb l (x :: r) ≠ none := fun z => by
    have := fnb_none.mp z x (List.mem_cons_self ..)
    rw [h] at this
    cases this
  show (inLen 0 l (some (x :: r)) && (fnb l (x :: r)).isNone && _) = false
  cases e1 : fnb l (x :: r) with
  | none => exact absurd e1 e
  | some i => simp
theorem asc_no2 {l : Nat} {xs : List V} (h : (ascs (xs.map valI)).all id = false) : ascOf l (some xs) = false := by
  show (inLen 0 l (some xs) && (fnb l xs).isNone && (ascs (xs.map valI)).all id) = false
  rw [h, Bool.and_false]
theorem shorts {m L : Nat} {d : PyData} (h : OkD m L d) (hm : m ≤ 60 := by decide) (hL : L ≤ sizeLine := by decide) : Shorts d := ⟨h.sh, h.nd, h.d60 hm, h.line hL⟩
theorem kns_none {K : PySem.W.Frag} {H : Hp} {m : Nat} : Kns K H none m := fun _ z => nomatch z
section
variable {K : PySem.W.Frag} {q : Gh} {H : Hp} {v : V} {w : V} {p : Addr} {m : Nat}
theorem bad_flat (h : ∀ H', Long K H' v none) : BadV K q v H := ⟨none, trivial, (fun _ z => nomatch z), .inl ⟨rfl, h⟩⟩
/-- as many things as there are kinds, none of them a number that is shown -/
theorem bad_rep (hb : p ≠ q.b) (hp : H p = some (.lst (List.replicate m w))) (hm : m = q.rs.length) (h1 : 1 ≤ m) (fl : flatV w = true) (no : ∀ r e, canShow r e w = false) : BadV K q (.ref p) H := by
  refine ⟨some (List.replicate m w), .inr ⟨0, fun j x hj => absurd hj (Nat.not_lt_zero j), w, ?_, no _ _⟩, fun zs e _ z hz => ?_, .inr (.inl ⟨p, _, rfl, rfl, hb, SqL.of hp⟩)⟩
  · rw [List.getElem?_replicate, if_pos (by omega)]
  · cases e
    rw [(List.mem_replicate.mp hz).2]
    exact fl
theorem bad_long (h : SqT K H p (List.replicate m (.int 0))) (hm : m ≠ q.rs.length) : BadV K q (.ref p) H := by
  refine ⟨some (List.replicate m (.int 0)), .inl (by rw [List.length_replicate]; exact hm), fun zs e hl z hz => ?_, .inr (.inr ⟨p, _, rfl, rfl, h⟩)⟩
  cases e
  rw [(List.mem_replicate.mp hz).2]
  rfl
theorem odd_flat {d : PyData} (s : Shorts d) (h : ∀ H', Long K H' v none ∧ Kn K H' v ∧ Dp K H' v d) : OddV K q v H := ⟨none, d, rfl, fun _ => kns_none, s, .inl ⟨rfl, h⟩⟩
theorem odd_list {xs : List V} {ds : List PyData} (s : Shorts (.list ds)) (hb : p ≠ q.b) (hp : H p = some (.lst xs)) (asc : ascOf q.rs.length (some xs) = false) (kn : ∀ H', ∀ x ∈ xs, Kn K H' x) (hd : ∀ H', DpAll K H' xs ds) : OddV K q (.ref p) H :=
  ⟨some xs, .list ds, asc, fun H' ys e _ x hx => by cases e; exact kn H' x hx, s, .inr ⟨p, xs, ds, rfl, rfl, hb, hp, rfl, hd⟩⟩
end
theorem no_non (r e : Int) : canShow r e .non = false := by unfold canShow; split <;> rfl
theorem no_true (r e : Int) : canShow r e (.bl true) = false := by unfold canShow; split <;> rfl
theorem no_less (r e : Int) : canShow r e (.int (0 - 1)) = false := by unfold canShow; split <;> rfl
theorem kn_flat {K : PySem.W.Frag} {H : Hp} {v : V} (h : flatV v = true) : Kn K H v := by
  cases v with
  | non => exact .non
  | bl b => exact .bl b
  | int i => exact .int i
  | str x => exact .str x
  | _ => cases h
end K5
/-! the law's statements -/
namespace K5
open PySem PySem.Spec PyProof.Rows L2 Kx RZ
section
variable {P : Program} {w : World} {K : PySem.W.Frag} {mg : Str → Option Value} {base : Heap} {f cc : Addr} {A0 : Around} {o0 : List Env} {s0 : Shared} {H0 : Hp} {E0 : XK} {a : Ad} {C CM cW : Addr} {Ts : List (Addr × Str)} {g : Addr} {fdg : FuncData} {Pt : Addr}
variable (Z : Lw P w K mg base f cc A0 o0 s0 H0 E0 a C CM cW Ts g fdg Pt)
include Z
theorem q19 : HT (XW P w K mg base f cc A0 o0 s0 H0 E0) (nthS bodyS 19) (T19 K C Ts) (T20 K C Ts) := by
  obtain ⟨T, TC, M, B, hr, cs, hf⟩ := Z
  refine ⟨_, (ps_set (i := 21) sc_law.nd rfl (by first | exact Or.inl rfl | exact Or.inr rfl) (pe_callC B.pick hr pass0 (pa_cons (pv 1) (pa_cons (pe_lst (pa_cons pe_non (pa_cons pe_int (pa_cons (pe_op op_times (pe_tup (pa_cons pe_int pa_nil)) (pe_op op_add (pv 2) pe_int)) (pa_cons (pe_op op_rep (pe_lst (pa_cons pe_non pa_nil)) (pv 2)) (pa_cons (pe_op op_rep (pe_lst (pa_cons pe_bl pa_nil)) (pv 2)) (pa_cons (pe_op op_rep (pe_lst (pa_cons (pe_op op_sub pe_int pe_int) pa_nil)) (pv 2)) (pa_cons (pe_op op_mulStr pe_str (pv 2)) pa_nil)))))))) pa_nil)))), fun n n1 n30 E1 σ H h kk => ?_⟩
  obtain ⟨q, S, J, ks, x7, x8, x10, x11, x12, x13, x14, x15, x17, x18, x19, x20, x21, x22, x23, x24, x25, x26, x27, x28, rfl, o, hn, s, hJ, asc⟩ := h
  have ok := o.wd.cn.ok
  have l1 := ok.l1
  have l4 := ok.l4
  refine ⟨_, rfl, ?_⟩
  refine ⟨(by show 1 ≤ sizeLine; decide), fun t ht => ?_⟩
  have e1 := same_new (o := HO.tup [V.int 0]) ht
  have u1 : SqT K (L2.upd H t (HO.tup [V.int 0])) t [V.int 0] := SqT.of upd_same
  generalize L2.upd H t (HO.tup [V.int 0]) = H1 at *
  refine ⟨_, rfl, _, _, rfl, rfl, ?_⟩
  refine ⟨t, q.rs.length + 1, _, rfl, rfl, u1, by simp, by omega, by decide, fun p2 H2 e2 hp2 => ?_⟩
  rw [List.flatten_replicate_singleton] at hp2
  -- [None] * many
  refine ⟨(by show 1 ≤ sizeLine; decide), fun l3 hl3 => ?_⟩
  have e3 := same_new (o := HO.lst [V.non]) hl3
  have u3 := upd_same (H := H2) (a := l3) (o := HO.lst [V.non])
  generalize L2.upd H2 l3 (HO.lst [V.non]) = H3 at *
  refine ⟨_, rfl, l3, (q.rs.length : Nat), _, rfl, rfl, u3, by omega, by omega, (by show 1 * _ ≤ sizeLine; rw [sizeLine_eq]; omega), fun p4 hp4 => ?_⟩
  have e04 := e1.trans (e2.trans e3)
  have b4 := (o.same e04).free hp4
  have e4 := same_new (o := HO.lst (List.replicate (q.rs.length : Int).toNat [V.non]).flatten) hp4
  have u4 := upd_same (H := H3) (a := p4) (o := HO.lst (List.replicate (q.rs.length : Int).toNat [V.non]).flatten)
  rw [Int.toNat_natCast, List.flatten_replicate_singleton] at *
  generalize L2.upd H3 p4 (HO.lst (List.replicate q.rs.length V.non)) = H4 at *
  -- [True] * many
  refine ⟨(by show 1 ≤ sizeLine; decide), fun l5 hl5 => ?_⟩
  have e5 := same_new (o := HO.lst [V.bl true]) hl5
  have u5 := upd_same (H := H4) (a := l5) (o := HO.lst [V.bl true])
  generalize L2.upd H4 l5 (HO.lst [V.bl true]) = H5 at *
  refine ⟨_, rfl, l5, (q.rs.length : Nat), _, rfl, rfl, u5, by omega, by omega, (by show 1 * _ ≤ sizeLine; rw [sizeLine_eq]; omega), fun p6 hp6 => ?_⟩
  have e06 := e04.trans (e4.trans e5)
  have b6 := (o.same e06).free hp6
  have e6 := same_new (o := HO.lst (List.replicate (q.rs.length : Int).toNat [V.bl true]).flatten) hp6
  have u6 := upd_same (H := H5) (a := p6) (o := HO.lst (List.replicate (q.rs.length : Int).toNat [V.bl true]).flatten)
  rw [Int.toNat_natCast, List.flatten_replicate_singleton] at *
  generalize L2.upd H5 p6 (HO.lst (List.replicate q.rs.length (V.bl true))) = H6 at *
  -- [0 - 1] * many
  refine ⟨_, _, rfl, rfl, (by show 1 ≤ sizeLine; decide), fun l7 hl7 => ?_⟩
  have e7 := same_new (o := HO.lst [V.int (0 - 1)]) hl7
  have u7 := upd_same (H := H6) (a := l7) (o := HO.lst [V.int (0 - 1)])
  generalize L2.upd H6 l7 (HO.lst [V.int (0 - 1)]) = H7 at *
  refine ⟨_, rfl, l7, (q.rs.length : Nat), _, rfl, rfl, u7, by omega, by omega, (by show 1 * _ ≤ sizeLine; rw [sizeLine_eq]; omega), fun p8 hp8 => ?_⟩
  have e08 := e06.trans (e6.trans e7)
  have b8 := (o.same e08).free hp8
  have e8 := same_new (o := HO.lst (List.replicate (q.rs.length : Int).toNat [V.int (0 - 1)]).flatten) hp8
  have u8 := upd_same (H := H7) (a := p8) (o := HO.lst (List.replicate (q.rs.length : Int).toNat [V.int (0 - 1)]).flatten)
  rw [Int.toNat_natCast, List.flatten_replicate_singleton] at *
  generalize L2.upd H7 p8 (HO.lst (List.replicate q.rs.length (V.int (0 - 1)))) = H8 at *
  refine ⟨_, rfl, _, q.rs.length, rfl, rfl, l1, by omega, (by decide), fun z => ?_⟩
  refine ⟨(by show 7 ≤ sizeLine; decide), fun l9 hl9 => ?_⟩
  have e9 := same_new (o := HO.lst [V.non, V.int 0, .ref p2, .ref p4, .ref p6, .ref p8, .str z]) hl9
  have b9 := (o.same (e08.trans e8)).free hl9
  have u9 := upd_same (H := H8) (a := l9) (o := HO.lst [V.non, V.int 0, .ref p2, .ref p4, .ref p6, .ref p8, .str z])
  generalize L2.upd H8 l9 (HO.lst [V.non, V.int 0, .ref p2, .ref p4, .ref p6, .ref p8, .str z]) = H9 at *
  have e09 := e08.trans (e8.trans e9)
  have g9 := o.gr.same e09
  have o9 := o.go g9
  obtain ⟨t9, hb9⟩ := o9.box
  refine ⟨q.b, l9, t9, _, rfl, hb9, b9, SqL.of u9, (by show 0 < 7; decide), (by show 7 < 1073741824; decide), fun v HB hv mB => ?_⟩
  have gB := o9.gr.mv mB
  have fin : BadV K q v HB := by
    simp only [List.mem_cons, List.not_mem_nil, or_false] at hv
    have up : ∀ {p : Addr} {u : HO}, p ≠ q.b → H9 p = some u → HB p = some u := fun b h => mB.1 _ _ b h
    rcases hv with rfl | rfl | rfl | rfl | rfl | rfl | rfl
    · exact bad_flat fun _ => .non
    · exact bad_flat fun _ => .int 0
    · exact bad_long (o9.sqT gB (sqT_same (e3.trans (e4.trans (e5.trans (e6.trans (e7.trans (e8.trans e9)))))) hp2)) (by omega)
    · exact bad_rep b4 (up b4 (e9 _ _ (e8 _ _ (e7 _ _ (e6 _ _ (e5 _ _ u4)))))) rfl l1 rfl no_non
    · exact bad_rep b6 (up b6 (e9 _ _ (e8 _ _ (e7 _ _ u6)))) rfl l1 rfl no_true
    · exact bad_rep b8 (up b8 (e9 _ _ u8)) rfl l1 rfl no_less
    · exact bad_flat fun _ => .str _
  have g := (o.gr.same e09).trans gB
  exact kk _ _ ⟨q, S, J, ks, v, _, _, _, _, _, _, _, _, _, _, _, _, _, _, _, _, _, _, _, rfl, o.go g, hn, o.s1 g s, N1.go g hJ, asc, fin⟩
end
end K5
/-! the law's statements -/
namespace K5
open PySem PySem.Spec PyProof.Rows L2 Kx RZ
section
variable {P : Program} {w : World} {K : PySem.W.Frag} {mg : Str → Option Value} {base : Heap} {f cc : Addr} {A0 : Around} {o0 : List Env} {s0 : Shared} {H0 : Hp} {E0 : XK} {a : Ad} {C CM cW : Addr} {Ts : List (Addr × Str)} {g : Addr} {fdg : FuncData} {Pt : Addr}
variable (Z : Lw P w K mg base f cc A0 o0 s0 H0 E0 a C CM cW Ts g fdg Pt)
include Z
theorem q20 : HT (XW P w K mg base f cc A0 o0 s0 H0 E0) (nthS bodyS 20) (T20 K C Ts) (T20 K C Ts) := by
  obtain ⟨T, TC, M, B, hr, cs, hf⟩ := Z
  refine ⟨_, (ps_if (pt_cmpR (op_neSameK (K := K) (r64 hr)) (pe_heard (k := 9) hf hr (fun A1 o1 s1 H1 E1 f1 c1 hr' => (pe_callC B.merged hr' passL (pa_cons (pv 5) (pa_cons (pe_op op_cat (pv 9) (pe_lst (pa_cons (pv 21) pa_nil))) pa_nil))))) (pe_tup (pa_cons pe_str (pa_cons (pe_callB call_len_seq (by rfl) T.z_len PySem.boot_len (pa_cons (pv 9) pa_nil)) (pa_cons pe_bl pa_nil)))) (nomark _))
        (pss_one (ps_ret pe_bl))
        pss_nil), fun n n1 n30 E1 σ H h kk => ?_⟩
  obtain ⟨q, S, J, ks, v, x7, x8, x10, x11, x12, x13, x14, x15, x17, x18, x19, x20, x22, x23, x24, x25, x26, x27, x28, rfl, o, hn, s, hJ, asc, hv⟩ := h
  have ok := o.wd.cn.ok
  refine ⟨o.wd.tabs, fun H3 x3 tb3 => ?_⟩
  have g3 := o.gr.ext x3 tb3
  have o3 := o.go g3
  obtain ⟨ss, Sb, hS, rowS⟩ := o.s1 g3 s
  obtain ⟨od, long, flat, bad⟩ := (o.bad g3 hv).now
  have lss := rowS.length
  rw [List.length_map] at lss
  unfold TTh
  refine ⟨_, rfl, _, rfl, _, rfl, (by show 1 ≤ sizeLine; decide), fun l hl => ?_⟩
  have e4 := same_new (o := HO.lst [v]) hl
  have u4 := upd_same (H := H3) (a := l) (o := HO.lst [v])
  generalize L2.upd H3 l (HO.lst [v]) = H4 at *
  refine ⟨S, l, ss, [v], rfl, rfl, e4 _ _ hS, u4, by rw [sizeLine_eq]; show ss.length + 1 ≤ _; omega, fun p hp => ?_⟩
  have e5 := same_new (o := HO.lst (ss ++ [v])) hp
  have u5 := upd_same (H := H4) (a := p) (o := HO.lst (ss ++ [v]))
  generalize L2.upd H4 p (HO.lst (ss ++ [v])) = H5 at *
  have e35 := e4.trans e5
  have rows5 := rowS.imp fun _ _ z => (show Sq K H5 _ _ from .inr (sqT_same e35 z))
  show tNil _ _ _
  unfold tNil
  simp only [List.append_nil]
  refine merged_bad (o3.same e35).wd.cn (.inl (SqL.of u5)) rows5 (fun x hx => ?_) (long.same e35) (fun zs e hl z hz => kn_flat (flat zs e hl z hz)) bad (thrown_S fun p6 H6 e6 hp6 => ?_)
  · obtain ⟨r, _, rfl⟩ := List.mem_map.mp hx
    exact shR_right ok
  have e36 := e35.trans e6
  rw [← rowS.length] at hp6
  refine ⟨_, rfl, S, ss, rfl, .inl (SqL.of (e36 _ _ hS)), (by show 3 ≤ sizeLine; decide), fun w hw => ?_⟩
  have e7 := same_new (o := HO.tup [.str "showing", .int (ss.length : Nat), .bl true]) hw
  refine ⟨p6, w, _, rfl, rfl, sqT_same e7 hp6, SqT.of upd_same, flat3 rfl, _, rfl, iteF ?_⟩
  have g := g3.same (e36.trans e7)
  exact kk _ _ ⟨q, S, J, ks, v, _, _, _, _, _, _, _, _, _, _, _, _, _, _, _, _, _, _, _, rfl, o.go g, hn, o.s1 g s, N1.go g hJ, asc, o.bad g hv⟩
theorem q21 : HT (XW P w K mg base f cc A0 o0 s0 H0 E0) (nthS bodyS 21) (T20 K C Ts) (T22 K C Ts) := by
  obtain ⟨T, TC, M, B, hr, cs, hf⟩ := Z
  refine ⟨_, (ps_set (i := 22) sc_law.nd rfl (by first | exact Or.inl rfl | exact Or.inr rfl) (pe_callC B.pick hr pass0 (pa_cons (pv 1) (pa_cons (pe_lst (pa_cons pe_non (pa_cons pe_int (pa_cons pe_str (pa_cons (pe_lst (pa_cons (pv 2) pa_nil)) (pa_cons (pe_lst (pa_cons pe_int (pa_cons pe_int pa_nil))) (pa_cons (pe_lst (pa_cons (pe_op op_sub (pv 2) pe_int) (pa_cons pe_int pa_nil))) (pa_cons (pe_lst (pa_cons pe_bl pa_nil)) (pa_cons (pe_lst (pa_cons (pe_op op_sub pe_int pe_int) pa_nil)) (pa_cons pe_str pa_nil)))))))))) pa_nil)))), fun n n1 n30 E1 σ H h kk => ?_⟩
  obtain ⟨q, S, J, ks, v, x7, x8, x10, x11, x12, x13, x14, x15, x17, x18, x19, x20, x22, x23, x24, x25, x26, x27, x28, rfl, o, hn, s, hJ, asc, hv⟩ := h
  have ok := o.wd.cn.ok
  have l1 := ok.l1
  have l4 := ok.l4
  refine ⟨_, rfl, ?_⟩
  refine ⟨_, rfl, (by show 1 ≤ sizeLine; decide), fun p1 hp1 => ?_⟩
  have e1 := same_new (o := HO.lst [V.int (q.rs.length : Nat)]) hp1
  have u1 := upd_same (H := H) (a := p1) (o := HO.lst [V.int (q.rs.length : Nat)])
  have b1 := o.free hp1
  generalize L2.upd H p1 (HO.lst [V.int (q.rs.length : Nat)]) = H1 at *
  refine ⟨(by show 2 ≤ sizeLine; decide), fun p2 hp2 => ?_⟩
  have e2 := same_new (o := HO.lst [V.int 0, V.int 0]) hp2
  have u2 := upd_same (H := H1) (a := p2) (o := HO.lst [V.int 0, V.int 0])
  have b2 := (o.same e1).free hp2
  generalize L2.upd H1 p2 (HO.lst [V.int 0, V.int 0]) = H2 at *
  have e02 := e1.trans e2
  refine ⟨_, rfl, _, _, rfl, rfl, (by show 2 ≤ sizeLine; decide), fun p3 hp3 => ?_⟩
  have e3 := same_new (o := HO.lst [V.int ((q.rs.length : Nat) - 1), V.int 0]) hp3
  have u3 := upd_same (H := H2) (a := p3) (o := HO.lst [V.int ((q.rs.length : Nat) - 1), V.int 0])
  have b3 := (o.same e02).free hp3
  generalize L2.upd H2 p3 (HO.lst [V.int ((q.rs.length : Nat) - 1), V.int 0]) = H3 at *
  have e03 := e02.trans e3
  refine ⟨(by show 1 ≤ sizeLine; decide), fun p4 hp4 => ?_⟩
  have e4 := same_new (o := HO.lst [V.bl true]) hp4
  have u4 := upd_same (H := H3) (a := p4) (o := HO.lst [V.bl true])
  have b4 := (o.same e03).free hp4
  generalize L2.upd H3 p4 (HO.lst [V.bl true]) = H4 at *
  have e04 := e03.trans e4
  refine ⟨_, _, rfl, rfl, (by show 1 ≤ sizeLine; decide), fun p5 hp5 => ?_⟩
  have e5 := same_new (o := HO.lst [V.int (0 - 1)]) hp5
  have u5 := upd_same (H := H4) (a := p5) (o := HO.lst [V.int (0 - 1)])
  have b5 := (o.same e04).free hp5
  generalize L2.upd H4 p5 (HO.lst [V.int (0 - 1)]) = H5 at *
  have e05 := e04.trans e5
  refine ⟨(by show 9 ≤ sizeLine; decide), fun l9 hl9 => ?_⟩
  have e9 := same_new (o := HO.lst [V.non, V.int 0, .str "", .ref p1, .ref p2, .ref p3, .ref p4, .ref p5, .str "0"]) hl9
  have u9 := upd_same (H := H5) (a := l9) (o := HO.lst [V.non, V.int 0, .str "", .ref p1, .ref p2, .ref p3, .ref p4, .ref p5, .str "0"])
  have b9 := (o.same e05).free hl9
  generalize L2.upd H5 l9 (HO.lst [V.non, V.int 0, .str "", .ref p1, .ref p2, .ref p3, .ref p4, .ref p5, .str "0"]) = H9 at *
  have e09 := e05.trans e9
  have g9 := o.gr.same e09
  have o9 := o.go g9
  obtain ⟨t9, hb9⟩ := o9.box
  refine ⟨q.b, l9, t9, _, rfl, hb9, b9, SqL.of u9, (by show 0 < 9; decide), (by show 9 < 1073741824; decide), fun u HB hu mB => ?_⟩
  have gB := o9.gr.mv mB
  have fin : OddV K q u HB := by
    simp only [List.mem_cons, List.not_mem_nil, or_false] at hu
    have up : ∀ {p : Addr} {u : HO}, p ≠ q.b → H9 p = some u → HB p = some u := fun b h => mB.1 _ _ b h
    have kn1 : ∀ {x : Int} (H' : Hp), ∀ v ∈ [V.int x], Kn K H' v := fun H' v hv => by rw [List.mem_singleton.mp hv]; exact .int _
    have kn2 : ∀ {x y : Int} (H' : Hp), ∀ v ∈ [V.int x, V.int y], Kn K H' v := fun H' v hv => by
      rcases List.mem_cons.mp hv with rfl | hv
      · exact .int _
      · rw [List.mem_singleton.mp hv]; exact .int _
    rcases hu with rfl | rfl | rfl | rfl | rfl | rfl | rfl | rfl | rfl
    · exact odd_flat (shorts okD_non) fun _ => ⟨.non, .non, .non⟩
    · exact odd_flat (shorts (okD_small (i := 0) (by decide))) fun _ => ⟨.int 0, .int 0, .int 0⟩
    · exact odd_flat (shorts (okD_str (z := "") (L := 10) (by decide +kernel))) fun _ => ⟨.str _, .str _, .str _⟩
    · exact odd_list (shorts (okD_list (okA_cons (okD_small (i := (q.rs.length : Nat)) (by omega)) okA_nil))) b1 (up b1 (e9 _ _ (e5 _ _ (e4 _ _ (e3 _ _ (e2 _ _ u1)))))) (asc_no1 (by show (decide ((0 : Int) ≤ (q.rs.length : Int)) && decide ((q.rs.length : Int) < (q.rs.length : Int))) = false; rw [decide_eq_false (Int.lt_irrefl _), Bool.and_false])) kn1 fun _ => .cons (.int _) .nil
    · exact odd_list (shorts (okD_list (okA_cons (okD_small (i := 0) (by decide)) (okA_cons (okD_small (i := 0) (by decide)) okA_nil)))) b2 (up b2 (e9 _ _ (e5 _ _ (e4 _ _ (e3 _ _ u2))))) (asc_no2 rfl) kn2 fun _ => .cons (.int _) (.cons (.int _) .nil)
    · exact odd_list (shorts (okD_list (okA_cons (okD_small (i := (q.rs.length : Nat) - 1) (by omega)) (okA_cons (okD_small (i := 0) (by decide)) okA_nil)))) b3 (up b3 (e9 _ _ (e5 _ _ (e4 _ _ u3)))) (asc_no2 (by show (decide (((q.rs.length : Nat) : Int) - 1 < 0) && true) = false; rw [decide_eq_false (by omega)]; rfl)) kn2 fun _ => .cons (.int _) (.cons (.int _) .nil)
    · exact odd_list (shorts (okD_list (okA_cons (okD_bl true) okA_nil))) b4 (up b4 (e9 _ _ (e5 _ _ u4))) (asc_no1 rfl) (fun H' v hv => by rw [List.mem_singleton.mp hv]; exact .bl _) fun _ => .cons (.bl _) .nil
    · exact odd_list (shorts (okD_list (okA_cons (okD_small (i := 0 - 1) (by decide)) okA_nil))) b5 (up b5 (e9 _ _ u5)) (asc_no1 rfl) kn1 fun _ => .cons (.int _) .nil
    · exact odd_flat (shorts (okD_str (z := "0") (L := 10) (by decide +kernel))) fun _ => ⟨.str _, .str _, .str _⟩
  have g := (o.gr.same e09).trans gB
  exact kk _ _ ⟨q, S, J, ks, v, u, _, _, _, _, _, _, _, _, _, _, _, _, _, _, _, _, _, _, rfl, o.go g, hn, o.s1 g s, N1.go g hJ, asc, o.bad g hv, fin⟩
theorem q22 : HT (XW P w K mg base f cc A0 o0 s0 H0 E0) (nthS bodyS 22) (T22 K C Ts) (T22 K C Ts) := by
  obtain ⟨T, TC, M, B, hr, cs, hf⟩ := Z
  refine ⟨_, (ps_if (pt_cmpR (op_neSameK (K := K) (r64 hr)) (pe_heard (k := 9) hf hr (fun A1 o1 s1 H1 E1 f1 c1 hr' => (pe_callC B.without hr' passL (pa_cons (pv 5) (pa_cons (pv 22) pa_nil))))) (pe_tup (pa_cons pe_str (pa_cons (pe_callB cs (by rfl) T.z_repr (by decide +kernel) (pa_cons (pv 22) pa_nil)) (pa_cons pe_bl pa_nil)))) (nomark _))
        (pss_one (ps_ret pe_bl))
        pss_nil), fun n n1 n30 E1 σ H h kk => ?_⟩
  obtain ⟨q, S, J, ks, v, u, x7, x8, x10, x11, x12, x13, x14, x15, x17, x18, x19, x20, x23, x24, x25, x26, x27, x28, rfl, o, hn, s, hJ, asc, hv, hu⟩ := h
  refine ⟨o.wd.tabs, fun H3 x3 tb3 => ?_⟩
  have g3 := o.gr.ext x3 tb3
  have o3 := o.go g3
  obtain ⟨od, dt, no, kns, long, kn, sd⟩ := (hu.go g3).now
  unfold TTh
  refine ⟨_, rfl, _, rfl, ?_⟩
  show tNil _ _ _
  unfold tNil
  simp only [List.append_nil]
  refine without_bad o3.wd.cn long kns no (thrown_F kn sd fun p6 H6 e6 hp6 => ?_)
  have sd6 := sd H6 e6
  refine ⟨_, rfl, ?_⟩
  refine ⟨_, dt, rfl, sd6.dp, sd6.sh, sd6.nd, sd6.deep, sd6.fit, ?_⟩
  refine ⟨(by show 3 ≤ sizeLine; decide), fun w hw => ?_⟩
  have e7 := same_new (o := HO.tup [.str "refused", .str dt.shown, .bl true]) hw
  refine ⟨p6, w, _, rfl, rfl, sqT_same e7 hp6, SqT.of upd_same, flat3 rfl, _, rfl, iteF ?_⟩
  have g := g3.same (e6.trans e7)
  exact kk _ _ ⟨q, S, J, ks, v, u, _, _, _, _, _, _, _, _, _, _, _, _, _, _, _, _, _, _, rfl, o.go g, hn, o.s1 g s, N1.go g hJ, asc, o.bad g hv, hu.go g⟩
theorem q23 : HT (XW P w K mg base f cc A0 o0 s0 H0 E0) (nthS bodyS 23) (T22 K C Ts) (T22 K C Ts) := by
  obtain ⟨T, TC, M, B, hr, cs, hf⟩ := Z
  refine ⟨_, (ps_if (pt_cmpR (op_neSameK (K := K) (r64 hr)) (pe_heard (k := 9) hf hr (fun A1 o1 s1 H1 E1 f1 c1 hr' => (pe_callC B.leftS hr' passL (pa_cons (pv 5) (pa_cons (pv 22) (pa_cons pe_non pa_nil)))))) (pe_tup (pa_cons pe_str (pa_cons (pe_callB cs (by rfl) T.z_repr (by decide +kernel) (pa_cons (pv 22) pa_nil)) (pa_cons pe_bl pa_nil)))) (nomark _))
        (pss_one (ps_ret pe_bl))
        pss_nil), fun n n1 n30 E1 σ H h kk => ?_⟩
  obtain ⟨q, S, J, ks, v, u, x7, x8, x10, x11, x12, x13, x14, x15, x17, x18, x19, x20, x23, x24, x25, x26, x27, x28, rfl, o, hn, s, hJ, asc, hv, hu⟩ := h
  refine ⟨o.wd.tabs, fun H3 x3 tb3 => ?_⟩
  have g3 := o.gr.ext x3 tb3
  have o3 := o.go g3
  obtain ⟨od, dt, no, kns, long, kn, sd⟩ := (hu.go g3).now
  unfold TTh
  refine ⟨_, rfl, _, rfl, ?_⟩
  show tCons _ _ _ _ _
  unfold tCons tC tNil
  simp only [List.append_nil]
  refine left_odd o3.wd.cn long kns no (thrown_F kn sd fun p6 H6 e6 hp6 => ?_)
  have sd6 := sd H6 e6
  refine ⟨_, rfl, ?_⟩
  refine ⟨_, dt, rfl, sd6.dp, sd6.sh, sd6.nd, sd6.deep, sd6.fit, ?_⟩
  refine ⟨(by show 3 ≤ sizeLine; decide), fun w hw => ?_⟩
  have e7 := same_new (o := HO.tup [.str "refused", .str dt.shown, .bl true]) hw
  refine ⟨p6, w, _, rfl, rfl, sqT_same e7 hp6, SqT.of upd_same, flat3 rfl, _, rfl, iteF ?_⟩
  have g := g3.same (e6.trans e7)
  exact kk _ _ ⟨q, S, J, ks, v, u, _, _, _, _, _, _, _, _, _, _, _, _, _, _, _, _, _, _, rfl, o.go g, hn, o.s1 g s, N1.go g hJ, asc, o.bad g hv, hu.go g⟩
theorem q24 : HT (XW P w K mg base f cc A0 o0 s0 H0 E0) (nthS bodyS 24) (T22 K C Ts) (T25 K C Ts) := by
  obtain ⟨T, TC, M, B, hr, cs, hf⟩ := Z
  refine ⟨_, (ps_if (pt_cmpR op_ne (pe_ix ix_tup (pe_heard (k := 9) hf hr (fun A1 o1 s1 H1 E1 f1 c1 hr' => (pe_callC B.leftS hr' passL (pa_cons (pv 5) (pa_cons (pv 16) (pa_cons (pv 21) pa_nil)))))) pe_int (fun _ _ => rfl)) pe_str (nomark _))
        (pss_one (ps_ret pe_bl))
        pss_nil), fun n n1 n30 E1 σ H h kk => ?_⟩
  obtain ⟨q, S, J, ks, v, u, x7, x8, x10, x11, x12, x13, x14, x15, x17, x18, x19, x20, x23, x24, x25, x26, x27, x28, rfl, o, hn, s, hJ, asc, hv, hu⟩ := h
  refine ⟨o.wd.tabs, fun H3 x3 tb3 => ?_⟩
  have g3 := o.gr.ext x3 tb3
  have o3 := o.go g3
  obtain ⟨od, long, flat, bad⟩ := (o.bad g3 hv).now
  have hJ3 := N1.go g3 hJ
  unfold TTh
  refine ⟨_, rfl, _, rfl, _, rfl, ?_⟩
  show tNil _ _ _
  unfold tNil
  simp only [List.append_nil]
  refine left_bad o3.wd.cn (.seq (.inl (SqL.of hJ3.2))) asc long (fun zs e hl z hz => kn_flat (flat zs e hl z hz)) bad fun i => thrown_S fun p6 H6 e6 hp6 => ?_
  refine ⟨p6, _, 0, _, rfl, rfl, hp6, atI_nat (j := 0) rfl, ?_⟩
  refine ⟨rfl, _, rfl, ite2 (fun z => (not_ne rfl z).elim) (fun _ => ?_)⟩
  exact kk _ _ ⟨q, _, _, _, _, _, _, _, _, _, _, _, _, _, _, _, _, _, _, _, _, _, _, rfl, o.go (g3.same e6), hn⟩
theorem q25 : HT (XW P w K mg base f cc A0 o0 s0 H0 E0) (nthS bodyS 25) (T25 K C Ts) (T26 K C Ts) := by
  obtain ⟨T, TC, M, B, hr, cs, hf⟩ := Z
  refine ⟨_, (ps_set (i := 22) sc_law.nd rfl (by first | exact Or.inl rfl | exact Or.inr rfl) (pe_callC B.pick hr pass0 (pa_cons (pv 1) (pa_cons (pe_lst (pa_cons pe_non (pa_cons pe_int (pa_cons pe_str (pa_cons pe_bl pa_nil))))) pa_nil)))), fun n n1 n30 E1 σ H h kk => ?_⟩
  obtain ⟨q, x7, x8, x9, x10, x11, x12, x13, x14, x15, x16, x17, x18, x19, x20, x21, x22, x23, x24, x25, x26, x27, x28, rfl, o, hn⟩ := h
  refine ⟨_, rfl, (by show 4 ≤ sizeLine; decide), fun l9 hl9 => ?_⟩
  have e9 := same_new (o := HO.lst [V.non, V.int 5, .str "0", .bl true]) hl9
  have u9 := upd_same (H := H) (a := l9) (o := HO.lst [V.non, V.int 5, .str "0", .bl true])
  have b9 := o.free hl9
  generalize L2.upd H l9 (HO.lst [V.non, V.int 5, .str "0", .bl true]) = H9 at *
  have o9 := o.same e9
  obtain ⟨t9, hb9⟩ := o9.box
  refine ⟨q.b, l9, t9, _, rfl, hb9, b9, SqL.of u9, (by show 0 < 4; decide), (by show 4 < 1073741824; decide), fun u HB hu mB => ?_⟩
  have fin : OddM K u := by
    simp only [List.mem_cons, List.not_mem_nil, or_false] at hu
    rcases hu with rfl | rfl | rfl | rfl
    · exact ⟨_, shorts okD_non, fun _ => ⟨.non, .non, .non⟩⟩
    · exact ⟨_, shorts (okD_small (i := 5) (by decide)), fun _ => ⟨.int 5, .int 5, .int 5⟩⟩
    · exact ⟨_, shorts (okD_str (z := "0") (L := 10) (by decide +kernel)), fun _ => ⟨.str _, .str _, .str _⟩⟩
    · exact ⟨_, shorts (okD_bl true), fun _ => ⟨.bl _, .bl _, .bl _⟩⟩
  exact kk _ _ ⟨q, u, _, _, _, _, _, _, _, _, _, _, _, _, _, _, _, _, _, _, _, _, _, rfl, o9.mv mB, hn, fin⟩
theorem q26 : HT (XW P w K mg base f cc A0 o0 s0 H0 E0) (nthS bodyS 26) (T26 K C Ts) (T25 K C Ts) := by
  obtain ⟨T, TC, M, B, hr, cs, hf⟩ := Z
  refine ⟨_, (ps_if (pt_cmpR (op_neSameK (K := K) (r64 hr)) (pe_heard (k := 9) hf hr (fun A1 o1 s1 H1 E1 f1 c1 hr' => (pe_callC B.merged hr' passL (pa_cons (pv 5) (pa_cons (pv 22) pa_nil))))) (pe_tup (pa_cons pe_str (pa_cons (pe_callB cs (by rfl) T.z_repr (by decide +kernel) (pa_cons (pv 22) pa_nil)) (pa_cons pe_bl pa_nil)))) (nomark _))
        (pss_one (ps_ret pe_bl))
        pss_nil), fun n n1 n30 E1 σ H h kk => ?_⟩
  obtain ⟨q, u, x7, x8, x9, x10, x11, x12, x13, x14, x15, x16, x17, x18, x19, x20, x21, x23, x24, x25, x26, x27, x28, rfl, o, hn, hu⟩ := h
  refine ⟨o.wd.tabs, fun H3 x3 tb3 => ?_⟩
  have g3 := o.gr.ext x3 tb3
  have o3 := o.go g3
  obtain ⟨dt, long, kn, sd⟩ := hu.now (H := H3)
  unfold TTh
  refine ⟨_, rfl, _, rfl, ?_⟩
  show tNil _ _ _
  unfold tNil
  simp only [List.append_nil]
  refine merged_none o3.wd.cn long (thrown_F kn sd fun p6 H6 e6 hp6 => ?_)
  have sd6 := sd H6 e6
  refine ⟨_, rfl, ?_⟩
  refine ⟨_, dt, rfl, sd6.dp, sd6.sh, sd6.nd, sd6.deep, sd6.fit, ?_⟩
  refine ⟨(by show 3 ≤ sizeLine; decide), fun w hw => ?_⟩
  have e7 := same_new (o := HO.tup [.str "refused", .str dt.shown, .bl true]) hw
  refine ⟨p6, w, _, rfl, rfl, sqT_same e7 hp6, SqT.of upd_same, flat3 rfl, _, rfl, iteF ?_⟩
  have g := g3.same (e6.trans e7)
  exact kk _ _ ⟨q, _, _, _, _, _, _, _, _, _, _, _, _, _, _, _, _, _, _, _, _, _, _, rfl, o.go g, hn⟩
end
end K5
/-! the law's statements -/
namespace K5
open PySem PySem.Spec PyProof.Rows L2 Kx RZ
section
variable {P : Program} {w : World} {K : PySem.W.Frag} {mg : Str → Option Value} {base : Heap} {f cc : Addr} {A0 : Around} {o0 : List Env} {s0 : Shared} {H0 : Hp} {E0 : XK} {a : Ad} {C CM cW : Addr} {Ts : List (Addr × Str)} {g : Addr} {fdg : FuncData} {Pt : Addr}
variable (Z : Lw P w K mg base f cc A0 o0 s0 H0 E0 a C CM cW Ts g fdg Pt)
include Z
theorem body_ok : HTs (XW P w K mg base f cc A0 o0 s0 H0 E0) bodyS (T0 K C Ts) (T25 K C Ts) :=
  .cons (q0 Z) (.cons (q1 Z) (.cons (q2 Z) (.cons (q3 Z) (.cons (q4 Z) (.cons (q5 Z) (.cons (q6 Z) (.cons (q7 Z) (.cons (q8 Z) (.cons (q9 Z) (.cons (q10 Z) (.cons (q11 Z) (.cons (q12 Z) (.cons (q13 Z) (.cons (q14 Z) (.cons (q15 Z) (.cons (q16 Z) (.cons (q17 Z) (.cons (q18 Z) (.cons (q19 Z) (.cons (q20 Z) (.cons (q21 Z) (.cons (q22 Z) (.cons (q23 Z) (.cons (q24 Z) (.cons (q25 Z) (.one (q26 Z)))))))))))))))))))))))))))
end
end K5
/-! the law's beginning and its end -/
namespace K5
open PySem PySem.Spec PyProof.Rows L2 Kx RZ
theorem Wd.start {K : PySem.W.Frag} {C : Addr} {Ts : List (Addr × Str)} {H H' : Hp} {sc b pr pe c rw : Addr} {ns rs es : List Int} (h1 : SqL K H sc (ns.map V.int)) (h2 : ns.length ≤ 63) (h3 : H pr = some (.lst (rs.map V.int))) (h4 : H pe = some (.lst (es.map V.int)))
    (h5 : CnAt K C H c rs es) (h6 : LamX.Tabs Ts H) (n : H rw = none) (e : Same H H') (u : H' rw = some (.lst [])) : Wd K C Ts ⟨sc, ns, b, pr, rs, pe, es, c, rw, [], []⟩ H' := by
  refine ⟨sqL_same e h1, h2, e _ _ h3, e _ _ h4, h5.same e, u, trivial, (fun r hr => by cases hr), ⟨?_, ne_free h3 n, ne_free h4 n, fun q hq => by cases hq⟩, h6.ext e⟩
  rcases h1 with (h | ⟨z, h⟩) | h
  · exact .inl (ne_free h n)
  · exact .inl (ne_free h n)
  · exact .inr fun _ => .inr h
/-- the script stays -/
theorem mv_script {K : PySem.W.Frag} {a b : Addr} {xs : List V} {H H1 H' : Hp} (e : Same H H1) (n : H b = none) (g : Mv b H1 H') (h : SqL K H a xs) : SqL K H' a xs := by
  rcases h with (h | ⟨z, h⟩) | h
  · exact .inl (.inl (g.1 _ _ (ne_free h n) (e _ _ h)))
  · exact .inl (.inr ⟨z, g.1 _ _ (ne_free h n) (e _ _ h)⟩)
  · exact .inr h
theorem iv_map {ns : List Nat} : iv ns = (ns.map Int.ofNat).map V.int := by
  unfold iv
  rw [List.map_map]
  rfl
theorem sum_const {m : Nat} {x : Int} : (List.replicate m x).sum = (m : Int) * x := by
  induction m with
  | zero => simp
  | succ m ih =>
    rw [List.replicate_succ, List.sum_cons, ih, Int.natCast_add, Int.add_mul]
    simp
    omega
theorem sum_rep {k m : Nat} {ns : List Int} (h : ns.length = k) : sumOf k (List.replicate m ns) = ns.map fun x => (m : Int) * x := by
  refine List.ext_getElem? fun i => ?_
  by_cases hi : i < k
  · rw [sum_at hi, List.map_replicate, sum_const, List.getElem?_map, List.getD_eq_getElem?_getD, List.getElem?_eq_getElem (by omega)]
    rfl
  · rw [List.getElem?_eq_none (by rw [sum_len']; omega), List.getElem?_eq_none (by rw [List.length_map]; omega)]
theorem show_zero {rs es : List Int} (ok : Cok rs es) : showNs rs es (List.replicate rs.length 0) = List.replicate rs.length 0 := by
  refine List.ext_getElem? fun i => ?_
  by_cases hi : i < rs.length
  · obtain ⟨_, _, r0, _, e0, _⟩ := ok.at_ hi
    have g : (List.replicate rs.length (0 : Int)).getD i 0 = 0 := by
      rw [List.getD_eq_getElem?_getD, List.getElem?_replicate, if_pos hi]
      rfl
    have : (showNs rs es (List.replicate rs.length 0))[i]? = some (shows (rs.getD i 0) (es.getD i 0) 0) := by
      unfold showNs
      rw [List.getElem?_map, List.getElem?_range (by rw [List.length_replicate]; exact hi)]
      show some (shows _ _ ((List.replicate rs.length (0 : Int)).getD i 0)) = _
      rw [g]
    rw [this, List.getElem?_replicate, if_pos hi]
    congr 1
    have a1 := shows_nn r0 e0 (Int.le_refl 0)
    have a2 := shows_le r0 e0 (Int.le_refl 0)
    omega
  · rw [List.getElem?_eq_none (by rw [showNs_length, List.length_replicate]; omega), List.getElem?_eq_none (by rw [List.length_replicate]; omega)]
/-- one row of four hundred hands -/
theorem full_due {rs es row : List Int} {m : Nat} (ok : Cok rs es) : showNs rs es (sumOf rs.length (List.replicate m (showNs rs es (countsOf rs.length row)))) = showNs rs es ((countsOf rs.length row).map fun x => (m : Int) * x) := by
  rw [← sum_rep (k := rs.length) countsOf_length]
  have := show_merge (nss := List.replicate m (countsOf rs.length row)) ok (fun ns hn => by rw [(List.mem_replicate.mp hn).2]; exact countsOf_length) fun ns hn z hz => by
    rw [(List.mem_replicate.mp hn).2] at hz
    exact (cnt_low z hz).1
  rw [List.map_replicate] at this
  exact this
theorem rows_rep {R : Addr → List V → Prop} {p : Addr} {t : List Int} (h : R p (t.map V.int)) : ∀ m : Nat, RowsBy R (List.replicate m (.ref p)) (List.replicate m t)
  | 0 => trivial
  | m + 1 => ⟨⟨p, rfl, h⟩, rows_rep h m⟩
end K5
/-! the law -/
namespace K5
open PySem PySem.Spec PyProof.Rows L2 Kx RZ
theorem top_k {l : Int} (h : l ≤ 63) : ∃ m : Nat, m ≤ 29 ∧ 7 ≤ m ∧ (if (if 30 < l then 30 else l) > 8 then (if 30 < l then 30 else l) else 8) = 1 + (m : Int) := by
  by_cases h1 : 30 < l
  · exact ⟨29, by omega, by omega, by rw [if_pos h1]; decide⟩
  · rw [if_neg h1]
    by_cases h2 : l > 8
    · exact ⟨(l - 1).toNat, by omega, by omega, by rw [if_pos h2]; omega⟩
    · exact ⟨7, by omega, by omega, by rw [if_neg h2]; decide⟩
section
variable {P : Program} {w : World} {K : PySem.W.Frag} {mg : Str → Option Value} {base : Heap} {f : Addr} {fd : FuncData} {a : Ad} {C CM cW : Addr} {Ts : List (Addr × Str)} {g cc Pt : Addr} {fdg : FuncData}
theorem ok_law (F : FnP K "law" s_law f fd) (hcode : fd.code = .ref cc) (FH : FnP K "_law_heard" s_law_heard g fdg) (gH : mg "_law_heard" = some (.ref g)) (bH : Binds K fdg ["ask"] []) (T : Mg mg) (TC : ClsC K mg C) (TM : ClsM K mg CM) (D : Hd K mg a C CM cW) (TB : LamX.TabB base mg cc Pt)
    (mem : (Pt, (Str.ofString "law" ++ ".<locals>.") ++ "<lambda>") ∈ Ts) (only : ∀ p ∈ Ts, p.1 = Pt → p.2 = (Str.ofString "law" ++ ".<locals>.") ++ "<lambda>") (M : Mks P w K mg base a C CM) (B : FnL P w K mg base a C) : FnG P w K mg base CX0 12 f fd ["script"] (spLaw K Ts) := by
  refine okGc F hcode sc_law (fun vs H Q E h => ?_) (fun A0 o0 s0 H vs Q E0 lone hr h => ?_)
  · obtain ⟨a, ns, rfl, _⟩ := h
    rfl
  · obtain ⟨sc, ns, rfl, hs, hl, ht, k⟩ := h
    have cs : CallR (XW P w K mg base f cc A0 o0 s0 H E0) (.builtin "repr") (rShow K) := call_show lone (r64 hr)
    have hf : HF (XW P w K mg base f cc A0 o0 s0 H E0) a C CM cW Ts g fdg cc Pt s_law := ⟨FH, gH, bH, T, TC, TM, D, lone, TB, rfl, rfl, mem, only⟩
    have Z : Lw P w K mg base f cc A0 o0 s0 H E0 a C CM cW Ts g fdg Pt := ⟨T, TC, M, B, hr, cs, hf⟩
    obtain ⟨tb, hb1, hb2⟩ := body_ok Z
    refine ⟨_, PSs.nox (pss_cons (ps_mid (ps_set (i := 1) sc_law.nd rfl (by first | exact Or.inl rfl | exact Or.inr rfl) (pe_callC B.box hr pass0 (pa_cons (pv 0) (pa_cons pe_int pa_nil)))))
      (pss_cons (ps_mid (ps_set (i := 2) sc_law.nd rfl (by first | exact Or.inl rfl | exact Or.inr rfl) (pe_op op_add pe_int (pe_callC B.take hr pass0 (pa_cons (pv 1) (pa_cons pe_int pa_nil))))))
      (pss_cons (ps_mid (ps_set (i := 3) sc_law.nd rfl (by first | exact Or.inl rfl | exact Or.inr rfl) (pe_lc (own := [("kind", 24)]) (by rfl) sc_law.nd (pi_range1 (by rfl) T.z_range (pa_cons (pv 2) pa_nil)) (blkOk_by (own := [("kind", 24)]) (N := ["script", "box", "many", "rounds", "rests", "counters", "rows", "k", "row", "showings", "numbers", "one", "due", "left", "cut", "pieces", "kinds", "gone", "still", "told", "rest", "bad", "odd", "full", "kind", "turn", "old", "more", "number"]) (sc := defScope s_law) (by decide +kernel)) (fun _ _ _ _ _ => (pg_name (i := 24) sc_law.nd rfl (by first | exact Or.inl rfl | exact Or.inr rfl))) (fun _ _ _ _ _ => pts_nil) (fun _ _ _ _ _ => (pe_callC B.pick hr pass0 (pa_cons (pv 1) (pa_cons (pe_lst (pa_cons pe_int (pa_cons pe_int (pa_cons pe_int (pa_cons pe_int (pa_cons pe_int (pa_cons pe_int (pa_cons pe_int pa_nil)))))))) pa_nil)))))))
      (pss_cons (ps_mid (ps_set (i := 4) sc_law.nd rfl (by first | exact Or.inl rfl | exact Or.inr rfl) (pe_lc (own := [("kind", 24)]) (by rfl) sc_law.nd (pi_range1 (by rfl) T.z_range (pa_cons (pv 2) pa_nil)) (blkOk_by (own := [("kind", 24)]) (N := ["script", "box", "many", "rounds", "rests", "counters", "rows", "k", "row", "showings", "numbers", "one", "due", "left", "cut", "pieces", "kinds", "gone", "still", "told", "rest", "bad", "odd", "full", "kind", "turn", "old", "more", "number"]) (sc := defScope s_law) (by decide +kernel)) (fun _ _ _ _ _ => (pg_name (i := 24) sc_law.nd rfl (by first | exact Or.inl rfl | exact Or.inr rfl))) (fun _ _ _ _ _ => pts_nil) (fun _ _ _ _ _ => (pe_callC B.pick hr pass0 (pa_cons (pv 1) (pa_cons (pe_lst (pa_cons pe_int (pa_cons pe_int (pa_cons pe_int (pa_cons pe_int (pa_cons pe_int (pa_cons pe_int pa_nil))))))) pa_nil)))))))
      (pss_cons (ps_mid (ps_asg (pe_tup (pa_cons (pe_cnt2 (K := K) M TC hr pzN (pa_cons (pv 3) (pa_cons (pv 4) pa_nil))) (pa_cons (pe_lst pa_nil) pa_nil))) (pg_tup rfl (pgs_cons (pg_name (i := 5) sc_law.nd rfl (by first | exact Or.inl rfl | exact Or.inr rfl)) (pgs_cons (pg_name (i := 6) sc_law.nd rfl (by first | exact Or.inl rfl | exact Or.inr rfl)) pgs_nil)))))
      (pss_cons (ps_mid (ps_for PassesOwn.never rfl (pi_range2 (by rfl) T.z_range (pa_cons pe_int (pa_cons (pe_callB (call_max2 rfl) (by rfl) T.z_max (by decide +kernel) (pa_cons pe_int (pa_cons (pe_callB (call_min2 rfl) (by rfl) T.z_min (by decide +kernel) (pa_cons (pe_callB call_len_seq (by rfl) T.z_len PySem.boot_len (pa_cons (pv 0) pa_nil)) (pa_cons pe_int pa_nil))) pa_nil))) pa_nil))) (pg_name (i := 7) sc_law.nd rfl (by first | exact Or.inl rfl | exact Or.inr rfl)) hb1))
      (pss_cons (ps_mid (ps_setLc (i := 23) (own := [("number", 28)]) (by rfl) sc_law.nd rfl rfl (sw_true rfl rfl rfl (by decide +kernel)) (pi_list (pe_callC B.nums hr pass0 (pa_cons (pv 2) (pa_cons (pe_ix ix_list (pv 6) pe_int (fun _ _ => rfl)) pa_nil)))) (blkOk_by (own := [("number", 28)]) (N := ["script", "box", "many", "rounds", "rests", "counters", "rows", "k", "row", "showings", "numbers", "one", "due", "left", "cut", "pieces", "kinds", "gone", "still", "told", "rest", "bad", "odd", "full", "kind", "turn", "old", "more", "number"]) (sc := defScope s_law) (by decide +kernel)) (fun _ _ _ _ _ => (pg_name (i := 28) sc_law.nd rfl (by first | exact Or.inl rfl | exact Or.inr rfl))) (fun _ _ _ _ _ => pts_nil) (fun _ _ _ _ _ => (pe_op op_mul pe_int (pv 28)))))
      (pss_cons (ps_mid (ps_if (pt_cmpR (op_neNums (r64 hr)) (pe_mid (pe_callC B.merged hr pz (pa_cons (pv 5) (pa_cons (pe_op op_rep (pe_lst (pa_cons (pe_callC B.show_ hr pass0 (pa_cons (pv 3) (pa_cons (pv 4) (pa_cons (pe_callC B.nums hr pass0 (pa_cons (pv 2) (pa_cons (pe_ix ix_list (pv 6) pe_int (fun _ _ => rfl)) pa_nil))) pa_nil)))) pa_nil)) pe_int) pa_nil)))) (pe_callC B.show_ hr pass0 (pa_cons (pv 3) (pa_cons (pv 4) (pa_cons (pv 23) pa_nil)))) (nomark _))
        (pss_one (ps_ret pe_bl))
        pss_nil))
      (pss_one (ps_ret (pe_cmpR op_eq (pe_callB cs (by rfl) T.z_repr (by decide +kernel) (pa_cons (pe_mid (pe_callC B.merged hr pz (pa_cons (pv 5) (pa_cons (pe_tup pa_nil) pa_nil)))) pa_nil)) (pe_callB cs (by rfl) T.z_repr (by decide +kernel) (pa_cons (pe_op op_times (pe_tup (pa_cons pe_int pa_nil)) (pv 2)) pa_nil)) (nomark _)))))))))))), ?_⟩
    refine ⟨fun σ' H' => ∃ (b : Addr) (t : Int × Int), σ' = sgX sc (some (.ref b)) .none .none .none .none .none .none .none .none .none .none .none .none .none .none .none .none .none .none .none .none .none .none .none .none .none .none .none ∧ Same H H' ∧ H b = none ∧ H' b = some (bx t), ?_, ?_⟩
    · exact ⟨_, rfl, sc, ns, 0, rfl, hs, hl, fun H1 b t1 e1 nb hb1 => ⟨b, t1, rfl, e1, nb, hb1⟩⟩
    rintro σ' H1 ⟨b, t1, rfl, e1, nb, hb1'⟩
    
    refine ⟨fun σ' H' => ∃ many : Nat, σ' = sgX sc (some (.ref b)) (some (.int (many : Nat))) .none .none .none .none .none .none .none .none .none .none .none .none .none .none .none .none .none .none .none .none .none .none .none .none .none .none ∧ Mv b H1 H' ∧ 1 ≤ many ∧ many ≤ 4, ?_, ?_⟩
    · refine ⟨_, rfl, b, t1, 4, rfl, hb1', by decide, by decide, fun r H4 r0 r4 m4 => ?_⟩
      obtain ⟨r, rfl⟩ : ∃ k : Nat, r = (k : Int) := ⟨r.toNat, by omega⟩
      refine ⟨_, _, rfl, rfl, 1 + r, ?_, m4, by omega, by omega⟩
      have : (1 : Int) + (r : Int) = ((1 + r : Nat) : Int) := by omega
      rw [← this]
      rfl
    rintro σ' H2 ⟨many, rfl, m2, many1, many4⟩
    refine ⟨fun σ' H' => ∃ (pr : Addr) (ns : List Nat) (x24 : Option V), σ' = sgX sc (some (.ref b)) (some (.int (many : Nat)))  (some (.ref pr)) .none .none .none .none .none .none .none .none .none .none .none .none .none .none .none .none .none .none .none .none x24 .none .none .none .none ∧ Mv b H2 H' ∧ H2 pr = none ∧ pr ≠ b ∧ H' pr = some (.lst (iv ns)) ∧ ns.length = many ∧ ∀ x ∈ ns, x ≤ 60, ?_, ?_⟩
    · obtain ⟨t2, hb2⟩ := m2.2
      refine ⟨_, rfl, many, rfl, by omega, by omega, fun D2 hD2 => ?_⟩
      have fr := (Mv.refl hb2).free hD2
      refine lc_range (lo := 0) (n := many) (fun i H' => ∃ ns : List Nat, H' D2 = some (.lst (iv ns)) ∧ Mv b H2 H' ∧ ns.length = i ∧ ∀ x ∈ ns, x ≤ 60) ⟨[], upd_same, (Mv.refl hb2).put fr.1 fr.2, rfl, fun x hx => by cases hx⟩ ?_ ?_
      · rintro j H8 hj ⟨ns', hn, m8, l8, a8⟩
        obtain ⟨t8, hb8⟩ := m8.2
        refine ⟨rfl, yes ((if_pos rfl).mpr ?_)⟩
        refine ⟨_, rfl, (by show 7 ≤ sizeLine; decide), fun l hl' => ?_⟩
        have lb : l ≠ b := fun z => by rw [z, hb8] at hl'; cases hl'
        have eA := same_new (o := HO.lst (iv [0, 1, 2, 3, 4, 6, 60])) hl'
        have uA : SqL K (upd H8 l (HO.lst (iv [0, 1, 2, 3, 4, 6, 60]))) l (iv [0, 1, 2, 3, 4, 6, 60]) := SqL.of upd_same
        refine ⟨b, l, t8, iv [0, 1, 2, 3, 4, 6, 60], rfl, eA _ _ hb8, lb, uA, (by show 0 < 7; decide), (by show 7 < 1073741824; decide), fun x HB hx mB => ?_⟩
        obtain ⟨x, hx', rfl⟩ := List.mem_map.mp hx
        have mA := (Mv.refl hb8).same eA |>.trans mB
        have xl : x ≤ 60 := by
          simp only [List.mem_cons, List.not_mem_nil, or_false] at hx'
          omega
        refine ⟨iv ns', mA.1 _ _ fr.2 hn, by unfold iv; rw [List.length_map, sizeLine_eq]; omega, ns' ++ [x], ?_, (m8.trans mA).put fr.1 fr.2, by rw [List.length_append, l8]; rfl, fun y hy => ?_⟩
        · rw [upd_same]
          unfold iv
          rw [List.map_append, List.map_singleton]
        · rcases List.mem_append.mp hy with h | h
          · exact a8 y h
          · rw [List.mem_singleton.mp h]
            exact xl
      · rintro H8 ⟨ns', hn, m8, l8, a8⟩
        exact ⟨D2, ns', _, rfl, m8, fr.1, fr.2, hn, l8, a8⟩
    rintro σ' H3 ⟨pr, rs, x24, rfl, m3, npr, prb, hpr, lrs, rl⟩
    refine ⟨fun σ' H' => ∃ (pe : Addr) (ns : List Nat) (y24 : Option V), σ' = sgX sc (some (.ref b)) (some (.int (many : Nat)))  (some (.ref pr)) (some (.ref pe)) .none .none .none .none .none .none .none .none .none .none .none .none .none .none .none .none .none .none .none y24 .none .none .none .none ∧ Mv b H3 H' ∧ H3 pe = none ∧ pe ≠ b ∧ H' pe = some (.lst (iv ns)) ∧ ns.length = many ∧ ∀ x ∈ ns, x ≤ 6, ?_, ?_⟩
    · obtain ⟨t2, hb2⟩ := m3.2
      refine ⟨_, rfl, many, rfl, by omega, by omega, fun D2 hD2 => ?_⟩
      have fr := (Mv.refl hb2).free hD2
      refine lc_range (lo := 0) (n := many) (fun i H' => ∃ ns : List Nat, H' D2 = some (.lst (iv ns)) ∧ Mv b H3 H' ∧ ns.length = i ∧ ∀ x ∈ ns, x ≤ 6) ⟨[], upd_same, (Mv.refl hb2).put fr.1 fr.2, rfl, fun x hx => by cases hx⟩ ?_ ?_
      · rintro j H8 hj ⟨ns', hn, m8, l8, a8⟩
        obtain ⟨t8, hb8⟩ := m8.2
        refine ⟨rfl, yes ((if_pos rfl).mpr ?_)⟩
        refine ⟨_, rfl, (by show 6 ≤ sizeLine; decide), fun l hl' => ?_⟩
        have lb : l ≠ b := fun z => by rw [z, hb8] at hl'; cases hl'
        have eA := same_new (o := HO.lst (iv [0, 0, 1, 2, 3, 6])) hl'
        have uA : SqL K (upd H8 l (HO.lst (iv [0, 0, 1, 2, 3, 6]))) l (iv [0, 0, 1, 2, 3, 6]) := SqL.of upd_same
        refine ⟨b, l, t8, iv [0, 0, 1, 2, 3, 6], rfl, eA _ _ hb8, lb, uA, (by show 0 < 6; decide), (by show 6 < 1073741824; decide), fun x HB hx mB => ?_⟩
        obtain ⟨x, hx', rfl⟩ := List.mem_map.mp hx
        have mA := (Mv.refl hb8).same eA |>.trans mB
        have xl : x ≤ 6 := by
          simp only [List.mem_cons, List.not_mem_nil, or_false] at hx'
          omega
        refine ⟨iv ns', mA.1 _ _ fr.2 hn, by unfold iv; rw [List.length_map, sizeLine_eq]; omega, ns' ++ [x], ?_, (m8.trans mA).put fr.1 fr.2, by rw [List.length_append, l8]; rfl, fun y hy => ?_⟩
        · rw [upd_same]
          unfold iv
          rw [List.map_append, List.map_singleton]
        · rcases List.mem_append.mp hy with h | h
          · exact a8 y h
          · rw [List.mem_singleton.mp h]
            exact xl
      · rintro H8 ⟨ns', hn, m8, l8, a8⟩
        exact ⟨D2, ns', _, rfl, m8, fr.1, fr.2, hn, l8, a8⟩
    rintro σ' H4 ⟨pe, es, y24, rfl, m4, npe, peb, hpe, les, el⟩
    have ck : Cok (rs.map Int.ofNat) (es.map Int.ofNat) := by
      refine ⟨by rw [List.length_map]; omega, by rw [List.length_map]; omega, by rw [List.length_map, List.length_map, les, lrs], fun x hx => ?_, fun x hx => ?_⟩
      · obtain ⟨y, hy, rfl⟩ := List.mem_map.mp hx
        have := rl y hy
        exact ⟨Int.natCast_nonneg y, Int.ofNat_le.mpr this⟩
      · obtain ⟨y, hy, rfl⟩ := List.mem_map.mp hx
        have := el y hy
        exact ⟨Int.natCast_nonneg y, Int.ofNat_le.mpr this⟩
    have hpr4 := m4.1 _ _ prb hpr
    rw [iv_map] at hpr4 hpe
    have m14 : Mv b H1 H4 := (m2.trans m3).trans m4
    have sc4 := mv_script e1 nb m14 hs
    have ht4 := tabs_mv m14 hb1' (ht.ext e1)
    obtain rfl : many = (rs.map Int.ofNat).length := by rw [List.length_map, lrs]
    generalize rs.map Int.ofNat = ri at *
    generalize es.map Int.ofNat = ei at *
    refine ⟨fun σ' H' => ∃ (c rw : Addr) (y24 : Option V), σ' = stX ⟨sc, ns, b, pr, ri, pe, ei, c, rw, [], []⟩ (some (.ref b)) .none .none .none .none .none .none .none .none .none .none .none .none .none .none .none .none .none y24 .none .none .none .none ∧ Wd K C Ts ⟨sc, ns, b, pr, ri, pe, ei, c, rw, [], []⟩ H', ?_, ?_⟩
    · refine ⟨_, rfl, _, rfl, fun x dx hx hdx ne => make_good ck (.seq (.inl (SqL.of hpr4))) (.inr (.seq (.inl (SqL.of hpe)))) hx hdx ne fun H5 e5 cn5 => ?_⟩
      refine ⟨(by show 0 ≤ sizeLine; decide), fun rw hrw => ?_⟩
      have w := Wd.start (b := b) (sqL_same e5 sc4) hl (e5 _ _ hpr4) (e5 _ _ hpe) cn5 (ht4.ext e5) hrw (same_new (o := HO.lst []) hrw) upd_same
      generalize L2.upd H5 rw (HO.lst []) = H6 at *
      refine ⟨(by show 2 ≤ sizeLine; decide), fun p hp => ?_⟩
      have e7 := same_new (o := HO.tup [.ref x, .ref rw]) hp
      refine ⟨p, _, rfl, SqT.of upd_same, rfl, ?_⟩
      exact ⟨_, _, rfl, _, _, rfl, rfl, x, rw, y24, rfl, w.same e7⟩
    clear hpr4 hpe sc4 ht4 m14 m2 m3 m4
    rintro σ' H5 ⟨c, rw, y24, rfl, w⟩
    refine ⟨fun σ' H' => ∃ (q : Gh) (b' : Option V) (x7 x8 x9 x10 x11 x12 x13 x14 x15 x16 x17 x18 x19 x20 x21 x22 x23 x24 x25 x26 x27 x28 : Option V), σ' = stX q b' x7 x8 x9 x10 x11 x12 x13 x14 x15 x16 x17 x18 x19 x20 x21 x22 x23 x24 x25 x26 x27 x28 ∧ Wd K C Ts q H' ∧ 1 ≤ q.rows.length, ?_, ?_⟩
    · have ll : (((ns.map V.int).length : Nat) : Int) ≤ 63 := by rw [List.length_map]; omega
      obtain ⟨m, m29, m7, em⟩ := top_k ll
      refine ⟨_, rfl, sc, ns.map V.int, rfl, .inl w.sc, _, _, rfl, _, _, rfl, _, _, rfl, ?_⟩
      rw [em]
      refine ⟨⟨by decide, by decide, by omega, by omega⟩, ?_⟩
      rw [show (1 + (m : Int) - 1).toNat = m by omega]
      refine for_range (lo := 1) (n := m) (fun i σ' H' => ∃ (q : Gh) (b' : Option V) (x7 x8 x9 x10 x11 x12 x13 x14 x15 x16 x17 x18 x19 x20 x21 x22 x23 x24 x25 x26 x27 x28 : Option V), σ' = stX q b' x7 x8 x9 x10 x11 x12 x13 x14 x15 x16 x17 x18 x19 x20 x21 x22 x23 x24 x25 x26 x27 x28 ∧ Wd K C Ts q H' ∧ q.rows.length = i) ⟨_, _, _, _, _, _, _, _, _, _, _, _, _, _, _, _, _, _, _, _, _, _, _, _, rfl, w, rfl⟩ ?_ ?_
      · rintro i σ' H6 hi ⟨q, b', x7, x8, x9, x10, x11, x12, x13, x14, x15, x16, x17, x18, x19, x20, x21, x22, x23, x24, x25, x26, x27, x28, rfl, w, hn⟩
        rw [show (1 : Int) + (i : Int) = ((1 + i : Nat) : Int) by omega]
        show tb _ _ _
        refine hb2 (i + 1) (by omega) (by omega) _ _ _ ⟨q, b', 1 + i, x8, x9, x10, x11, x12, x13, x14, x15, x16, x17, x18, x19, x20, x21, x22, x23, x24, x25, x26, x27, x28, rfl, w, by omega⟩ ?_
        rintro σ2 H2 ⟨q, x7, x8, x9, x10, x11, x12, x13, x14, x15, x16, x17, x18, x19, x20, x21, x22, x23, x24, x25, x26, x27, x28, rfl, o, hn⟩
        exact ⟨q, _, _, _, _, _, _, _, _, _, _, _, _, _, _, _, _, _, _, _, _, _, _, _, rfl, o.wd, hn⟩
      · rintro σ' H6 ⟨q, b', x7, x8, x9, x10, x11, x12, x13, x14, x15, x16, x17, x18, x19, x20, x21, x22, x23, x24, x25, x26, x27, x28, rfl, w, hn⟩
        exact ⟨q, b', _, _, _, _, _, _, _, _, _, _, _, _, _, _, _, _, _, _, _, _, _, _, rfl, w, by omega⟩
    rintro σ' H6 ⟨q, b', x7, x8, x9, x10, x11, x12, x13, x14, x15, x16, x17, x18, x19, x20, x21, x22, x23, x24, x25, x26, x27, x28, rfl, w, r1⟩
    have ok := w.cn.ok
    have l1 := ok.l1
    have l4 := ok.l4
    obtain ⟨row, tj⟩ : ∃ row, q.rows[0]? = some row := ⟨q.rows[0]'(by omega), List.getElem?_eq_getElem (by omega)⟩
    obtain ⟨ra, h1, h2⟩ := w.rows.at_ tj
    have lw := w.low row (List.mem_of_getElem? tj)
    refine ⟨fun σ' H' => ∃ (F' : Addr) (x28 : Option V), σ' = stX q b' x7 x8 x9 x10 x11 x12 x13 x14 x15 x16 x17 x18 x19 x20 x21 x22 (some (.ref F')) x24 x25 x26 x27 x28 ∧ Same H6 H' ∧ H' F' = some (.lst (((countsOf q.rs.length row).map fun x => ((400 : Nat) : Int) * x).map V.int)), ?_, ?_⟩
    · refine ⟨_, rfl, _, rfl, q.rw, q.ps, 0, _, rfl, rfl, SqL.of w.rw, atI_nat (j := 0) h1, q.rs.length, ra, row, rfl, l4, SqL.of h2, by omega, fun l H7 e7 nl hl => ?_⟩
      refine ⟨l, rfl, ⟨_, SqL.of hl⟩, fun D0 hD => turns (n := q.rs.length) (Part H7 D0 (((countsOf q.rs.length row).map fun x => ((400 : Nat) : Int) * x).map V.int)) (Part.zero hD) ?_ ?_⟩
      · intro i H8 hi pt
        have c1 : ((countsOf q.rs.length row).map V.int)[i]? = some (.int ((row.count (i : Int) : Nat) : Int)) := by
          rw [List.getElem?_map, countsOf_at hi]
          rfl
        have q8 := SqL.of (K := K) (pt.2 _ _ hl)
        refine ⟨⟨_, _, q8, c1⟩, ?_⟩
        rintro v H9 ⟨rfl, hv⟩
        have ev := hv _ q8
        rw [c1] at ev
        cases ev
        refine ⟨rfl, yes ((if_pos rfl).mpr ?_)⟩
        refine ⟨_, rfl, _, _, rfl, rfl, .inl ⟨by decide, by decide⟩, pt.step hD (Same.refl _) ?_ ?_⟩
        · rw [List.getElem?_map, List.getElem?_map, countsOf_at hi]
          rfl
        · rw [List.length_map, List.length_map, countsOf_length, sizeLine_eq]
          omega
      · intro H8 pt
        obtain ⟨hl8, e8⟩ := pt.done (by rw [List.length_map, List.length_map, countsOf_length]; exact Nat.le_refl _)
        exact ⟨⟨_, SqL.of (pt.2 _ _ hl), by rw [List.length_map, countsOf_length]; exact Nat.le_refl _⟩, D0, _, rfl, e7.trans e8, hl8⟩
    rintro σ' H7 ⟨F', x28, rfl, e7, hF⟩
    have w7 := w.same e7
    have h2' := e7 _ _ h2
    clear w e7 h2 hb1 hb2
    refine ⟨fun σ' H' => σ' = stX q b' x7 x8 x9 x10 x11 x12 x13 x14 x15 x16 x17 x18 x19 x20 x21 x22 (some (.ref F')) x24 x25 x26 x27 x28 ∧ Wd K C Ts q H', ?_, ?_⟩
    · refine ⟨fun v H' => ∃ p, v = .ref p ∧ Same H7 H' ∧ SqT K H' p ((showNs q.rs q.es ((countsOf q.rs.length row).map fun x => ((400 : Nat) : Int) * x)).map V.int), ?_, ?_⟩
      · refine ⟨_, rfl, _, rfl, _, rfl, _, rfl, _, rfl, q.rw, q.ps, 0, _, rfl, rfl, SqL.of w7.rw, atI_nat (j := 0) h1, q.rs.length, ra, row, rfl, l4, SqL.of h2', by omega, fun l H8 e8 nl hl => ?_⟩
        have w8 := w7.same e8
        refine ⟨q.pr, q.pe, l, q.rs, q.es, countsOf q.rs.length row, rfl, SqL.of w8.pr, SqL.of w8.pe, SqL.of hl, ok.le, countsOf_length, l4, fun r hr => (ok.r r hr).1, fun t H9 e9 ht => ?_⟩
        refine ⟨(by show 1 ≤ sizeLine; decide), fun l2 hl2 => ?_⟩
        have e10 := same_new (o := HO.lst [V.ref t]) hl2
        have u10 := upd_same (H := H9) (a := l2) (o := HO.lst [V.ref t])
        generalize L2.upd H9 l2 (HO.lst [V.ref t]) = H10 at *
        refine ⟨l2, (400 : Nat), _, rfl, rfl, u10, by decide, by decide, (by show 1 * 400 ≤ sizeLine; decide), fun p hp => ?_⟩
        have e11 := same_new (o := HO.lst (List.replicate ((400 : Nat) : Int).toNat [V.ref t]).flatten) hp
        have u11 := upd_same (H := H10) (a := p) (o := HO.lst (List.replicate ((400 : Nat) : Int).toNat [V.ref t]).flatten)
        rw [Int.toNat_natCast, List.flatten_replicate_singleton] at *
        have e711 := e8.trans (e9.trans (e10.trans e11))
        have ht11 := sqT_same e11 (sqT_same e10 ht)
        generalize L2.upd H10 p (HO.lst (List.replicate 400 (V.ref t))) = H11 at *
        show tNil _ _ _
        unfold tNil
        simp only [List.append_nil]
        refine merged_of (w7.same e711).cn (.inl (SqL.of u11)) (rows_rep (R := Sq K H11) (.inr ht11) 400) (fun x hx => ?_) fun p' H12 e12 hp' => ⟨p', rfl, e711.trans e12, ?_⟩
        · rw [(List.mem_replicate.mp hx).2]
          exact shR_right ok
        · rw [full_due ok] at hp'
          exact hp'
      rintro v H8 ⟨p, rfl, e8, hp⟩
      have w8 := w7.same e8
      refine ⟨_, rfl, _, rfl, _, rfl, q.pr, q.pe, F', q.rs, q.es, _, rfl, SqL.of w8.pr, SqL.of w8.pe, SqL.of (e8 _ _ hF), ok.le, by rw [List.length_map, countsOf_length], l4, fun r hr => (ok.r r hr).1, fun t H9 e9 ht => ?_⟩
      refine ⟨p, t, _, _, rfl, rfl, sqT_same e9 hp, ht, ?_⟩
      rw [decide_eq_true rfl]
      exact ⟨_, rfl, iteF ⟨rfl, w8.same e9⟩⟩
    rintro σ' H8 ⟨rfl, w8⟩
    have od : OkD 1 15400 (dNums (List.replicate q.rs.length 0)) := nums_ok (M := 0) (fun x hx => by rw [(List.mem_replicate.mp hx).2]; decide) (by decide) (by rw [List.length_replicate]; omega)
    refine ⟨fun v H' => ∃ p, v = .ref p ∧ Same H8 H' ∧ SqT K H' p ((List.replicate q.rs.length (0 : Int)).map V.int), ?_, ?_⟩
    · refine ⟨_, rfl, (by show 0 ≤ sizeLine; decide), fun t ht => ?_⟩
      have e9 := same_new (o := HO.tup []) ht
      show tNil _ _ _
      unfold tNil
      simp only [List.append_nil]
      refine merged_of (ls := []) (lss := []) (w8.same e9).cn (.inr (SqT.of upd_same)) trivial (fun x hx => by cases hx) fun p' H12 e12 hp' => ⟨p', rfl, e9.trans e12, ?_⟩
      rw [sum_nil, show_zero ok] at hp'
      exact hp'
    rintro v H9 ⟨p, rfl, e9, hp⟩
    refine ⟨_, _, rfl, dp_nums hp, od.sh, od.nd, od.d60, od.line, ?_⟩
    refine ⟨(by show 1 ≤ sizeLine; decide), fun t ht => ?_⟩
    have u10 : SqT K (L2.upd H9 t (HO.tup [V.int 0])) t [V.int 0] := SqT.of upd_same
    generalize L2.upd H9 t (HO.tup [V.int 0]) = H10 at *
    refine ⟨_, rfl, t, q.rs.length, _, rfl, rfl, u10, by simp, by omega, by decide, fun p2 H11 e11 hp2 => ?_⟩
    rw [List.flatten_replicate_singleton, ← List.map_replicate] at hp2
    refine ⟨_, _, rfl, dp_nums hp2, od.sh, od.nd, od.d60, od.line, ?_⟩
    refine ⟨rfl, ?_⟩
    rw [decide_eq_true rfl]
    exact k _
end
end K5
/-! the top, run -/
namespace K5
open PySem PySem.Spec PyProof.Rows L2 Kx
/-! ### Bools that the head's Hook asks -/
/-- a class's line and slots -/
def tailB (C : Addr) (bm : List Value → Bool) (newId : String) (mro : List Value) (sl : List (Option Value)) : Bool := match mro, sl with
  | .ref C' :: r, [_, _, _, _, some (.builtin n), _] => decide (C' = C) && (decide (n = newId) && bm r)
  | _, _ => false
theorem tailB_ok {C : Addr} {bm : List Value → Bool} {newId : String} {mro : List Value} {sl : List (Option Value)} (h : tailB C bm newId mro sl = true) :
    ∃ r a0 a1 a2 a3 a5, mro = .ref C :: r ∧ sl = [a0, a1, a2, a3, some (.builtin newId), a5] ∧ bm r = true := by
  unfold tailB at h
  split at h
  · obtain ⟨h4, h⟩ := He.ba h
    obtain ⟨h5, h6⟩ := He.ba h
    have h4 := of_decide_eq_true h4
    have h5 := of_decide_eq_true h5
    exact ⟨_, _, _, _, _, _, by rw [h4], by rw [h5], h6⟩
  · cases h
/-- the class at C as the text makes it: an own dict, no __del__, behind it the classes bm -/
def shapeB (K : PySem.W.Frag) (C : Addr) (bm : List Value → Bool) (newId : String) : Bool := match K.lookup C with
  | some ⟨.type c, _, .cls cd, sl⟩ => decide (c = "type") && (cd.hasDict && (!cd.hasDel && tailB C bm newId cd.mro sl.toList))
  | _ => false
theorem shapeB_ok {K : PySem.W.Frag} {C : Addr} {bm : List Value → Bool} {newId : String} (h : shapeB K C bm newId = true) :
    ∃ nm q N bs r sn sub ab col dd k0 k1 k2 k3 k5, K.lookup C = some (excClassObj nm q C N bs r true sn sub ab col dd k0 k1 k2 k3 k5 newId) ∧ bm r = true := by
  unfold shapeB at h
  cases e : K.lookup C with
  | none =>
    rw [e] at h
    cases h
  | some o =>
    obtain ⟨oc, od, dt, sl⟩ := o
    rw [e] at h
    cases oc with
    | type c =>
      cases dt with
      | cls cd =>
        obtain ⟨nm, bs, mro, N, q, hdct, sn, sub, ab, col, del⟩ := cd
        have h : (decide (c = "type") && (hdct && (!del && tailB C bm newId mro sl.toList))) = true := h
        obtain ⟨h1, h⟩ := He.ba h
        obtain ⟨h2, h⟩ := He.ba h
        obtain ⟨h3, h⟩ := He.ba h
        obtain ⟨r, a0, a1, a2, a3, a5, h4, h5, h6⟩ := tailB_ok h
        have k1 := of_decide_eq_true h1
        have k3 : del = false := by
          cases del with
          | false => rfl
          | true => cases h3
        have es : sl = #[a0, a1, a2, a3, some (.builtin newId), a5] := by
          have := congrArg List.toArray h5
          simpa using this
        refine ⟨nm, q, N, bs, r, sn, sub, ab, col, od, a0, a1, a2, a3, a5, ?_, h6⟩
        rw [k1, h2, k3, h4, es]
      | _ => cases h
    | _ => cases dt <;> cases h
/-- an own error over an own base over ValueError, of the field f -/
def oexB (K : PySem.W.Frag) (C : Addr) : Bool := shapeB K C PySem.HandSPX.refsVE "ValueError.__new__" && (He.eqO (PySem.W.findIn K (.ref C) "__setattr__") (some (some (.builtin "object.__setattr__"))) && (decide (PySem.W.subIn K (.ref C) (.type "BaseException") = some true) && (decide (PySem.W.typeIn K (.ref C) = some (.type "type")) && PySem.W.keepIn K (.ref C))))
theorem oexB_ok {K : PySem.W.Frag} {C : Addr} (h : oexB K C = true) : OexC K C := by
  obtain ⟨h1, h⟩ := He.ba h
  obtain ⟨h2, h⟩ := He.ba h
  obtain ⟨h3, h⟩ := He.ba h
  obtain ⟨h4, h5⟩ := He.ba h
  exact ⟨shapeB_ok h1, He.eqO_ok h2, of_decide_eq_true h3, of_decide_eq_true h4, h5⟩
def keyB (K : PySem.W.Frag) (C : Addr) : Bool := shapeB K C (fun r => decide (r = keyTail)) "LookupError.__new__" && (He.eqO (PySem.W.findIn K (.ref C) "__setattr__") (some (some (.builtin "object.__setattr__"))) && (decide (PySem.W.subIn K (.ref C) (.type "BaseException") = some true) && (decide (PySem.W.typeIn K (.ref C) = some (.type "type")) && PySem.W.keepIn K (.ref C))))
theorem keyB_ok {K : PySem.W.Frag} {C : Addr} (h : keyB K C = true) : KeyC K C := by
  obtain ⟨h1, h⟩ := He.ba h
  obtain ⟨h2, h⟩ := He.ba h
  obtain ⟨h3, h⟩ := He.ba h
  obtain ⟨h4, h5⟩ := He.ba h
  obtain ⟨nm, q, N, bs, r, sn, sub, ab, col, dd, k0, k1, k2, k3, k5, e, er⟩ := shapeB_ok h1
  have er := of_decide_eq_true er
  subst er
  exact ⟨⟨nm, q, N, bs, sn, sub, ab, col, dd, k0, k1, k2, k3, k5, e⟩, He.eqO_ok h2, of_decide_eq_true h3, of_decide_eq_true h4, h5⟩
def excB (K : PySem.W.Frag) (D : Addr) : Bool := He.eqO (PySem.W.findIn K (.ref D) "__getattribute__") (some (some (.builtin "BaseException.__getattribute__"))) && (He.eqO (PySem.W.findIn K (.ref D) "__getattr__") (some none) && (decide (PySem.W.subIn K (.ref D) (.type "BaseException") = some true) && (PySem.W.hasDictIn K D &&
  (He.eqO (PySem.W.findIn K (.ref D) "__class__") (some (some (.builtin "object.__class__"))) && (He.eqO (PySem.W.specialIn K (.builtin "object.__class__") "__get__") (some (some (.builtin "getset_descriptor.__get__"))) && (decide (PySem.W.takesIn K (.builtin "object.__class__") = some true) && decide (PySem.W.mroIn K D (.type "object") = some true)))))))
theorem excB_ok {K : PySem.W.Frag} {D : Addr} (h : excB K D = true) : ExcC K D := by
  obtain ⟨h1, h⟩ := He.ba h
  obtain ⟨h2, h⟩ := He.ba h
  obtain ⟨h3, h⟩ := He.ba h
  obtain ⟨h4, h⟩ := He.ba h
  obtain ⟨h5, h⟩ := He.ba h
  obtain ⟨h6, h⟩ := He.ba h
  obtain ⟨h7, h8⟩ := He.ba h
  exact ⟨He.eqO_ok h1, He.eqO_ok h2, of_decide_eq_true h3, h4, He.eqO_ok h5, He.eqO_ok h6, of_decide_eq_true h7, of_decide_eq_true h8⟩
theorem excB_xf {K : PySem.W.Frag} {D : Addr} (h : excB K D = true) : XfC K D := by
  have e := excB_ok h
  exact ⟨e.hg, e.hk, e.hs, e.hd⟩
end K5
/-! the end of a law that holds where nothing that guards itself runs around -/
namespace Kx
open L2 PySem PySem.Spec PyProof.Rows
/-- what is followed at the start: the tables, the script where the written part does not hold it -/
def startH (K : PySem.W.Frag) (a : Addr) (vs : List Value) (ns : List Int) (tabs : List Addr) : Hp := fun b =>
  if b ∈ tabs then some (.tbl #[]) else if b = a ∧ K.lookup a = .none then some (.frz { cls := .type "list", data := .seq vs.toArray } (.lst (ns.map V.int))) else .none
section
variable {P : Program} {w : World} {K : PySem.W.Frag} {mg mb : Str → Option Value} {k : Nat} {fa a : Addr} {cs : List (Addr × Addr)} {fd : FuncData} {x : Str} {sp : Sp} {s : Shared} {vs : List Value} {ns : List Int}
theorem lone_end (X : K.In s.heap) (G : s.heap.Ns mainGlobals mg) (Bn : s.heap.Ns builtinsNs mb) (Bi : ∀ y : Str, y ≠ "__name__" → mb y = bootBuiltins y) (lim : s.heap.NoLimit) (gens : s.gens = #[])
    (tE : ∀ p ∈ cs, s.heap.get? p.2 = some { cls := .none, data := .fields #[] }) (tN : ∀ p ∈ cs, K.lookup p.2 = .none) (tC : ∀ p ∈ cs, PySem.W.CodeHd s.heap p.1 p.2)
    (bmod : ∃ (bm : Addr) (ob : Obj), mg "__builtins__" = some (.ref bm) ∧ bm ≠ builtinsNs ∧ s.heap.get? bm = some ob ∧ ob.cls = .type "module" ∧ ob.dict = some builtinsNs ∧ ob.data = .plain)
    (at_ : s.heap.get? a = some { cls := .type "list", data := .seq vs.toArray }) (isI : IntsAre vs ns) (short : ns.length ≤ sizeLine) (room : Room k callerA)
    (F : ∀ base : Heap, K.In base → base.Ns mainGlobals mg → (∀ p ∈ cs, LamX.TabB base mg p.1 p.2) → FnG P w K mg base CX0 k fa fd [x] sp) (bind : ∀ (s' : Shared) (u : Value), BindsTo s' fd ⟨[u], []⟩ [(x, u)])
    (give : ∀ H : Hp, (∀ p ∈ cs, H p.2 = some (.tbl #[])) → SqL K H a (ns.map V.int) → sp [.ref a] H (fun v _ => v = .bl true) fun _ _ _ => False) :
    codeAny (model P w) callerA (.call (.ref fa) ⟨[.ref a], []⟩) (fun r s' => r = .ok (.ret (.bool true)) ∧ OldK s.heap s'.heap ∧ s'.os = s.os ∧ AllBare s'.gens) s := by
  have rel := vals_ints isI
  have len := isI.length
  have tabIs : ∀ b ∈ cs.map (·.2), s.heap.get? b = some { cls := .none, data := .fields #[] } ∧ K.lookup b = .none := fun b hb => by
    obtain ⟨p, hp, rfl⟩ := List.mem_map.mp hb
    exact ⟨tE p hp, tN p hp⟩
  have apart : a ∉ cs.map (·.2) := fun z => by
    have q := (tabIs a z).1
    rw [at_] at q
    injection q with q
    injection q with _ _ q
    cases q
  let H := startH K a vs ns (cs.map (·.2))
  have hT : ∀ b ∈ cs.map (·.2), H b = some (.tbl #[]) := fun b hb => if_pos hb
  have hTs : ∀ p ∈ cs, H p.2 = some (.tbl #[]) := fun p hp => hT _ (List.mem_map_of_mem hp)
  -- what H follows: a table, the script
  have cases_ : ∀ b, (b ∈ cs.map (·.2) ∧ H b = some (.tbl #[])) ∨ (b = a ∧ K.lookup a = .none ∧ H b = some (.frz { cls := .type "list", data := .seq vs.toArray } (.lst (ns.map V.int)))) ∨ H b = .none := fun b => by
    by_cases h1 : b ∈ cs.map (·.2)
    · exact .inl ⟨h1, hT b h1⟩
    · by_cases h2 : b = a ∧ K.lookup a = .none
      · exact .inr (.inl ⟨h2.1, h2.2, (if_neg h1).trans (if_pos h2)⟩)
      · exact .inr (.inr ((if_neg h1).trans (if_neg h2)))
  have known : ∀ {b : Addr} {o : Obj}, K.lookup b = some o → H b = .none := fun {b o} e => by
    rcases cases_ b with ⟨h, _⟩ | ⟨rfl, h, _⟩ | h
    · rw [(tabIs b h).2] at e
      cases e
    · rw [h] at e
      cases e
    · exact h
  have other : ∀ {b : Addr} {o : Obj}, s.heap.get? b = some o → (∀ us n, o.data ≠ .seq us n) → o.data ≠ .fields #[] → H b = .none := fun {b o} e h1 h2 => by
    rcases cases_ b with ⟨h, _⟩ | ⟨rfl, _, _⟩ | h
    · rw [(tabIs b h).1] at e
      cases e
      exact absurd rfl h2
    · rw [at_] at e
      cases e
      exact absurd rfl (h1 _ _)
    · exact h
  have ns_ : ∀ {b : Addr} {m : Str → Option Value}, s.heap.Ns b m → (hidT s.heap H).Ns b m := fun {b m} ⟨o, es, ep, e, d, r⟩ =>
    ⟨o, es, ep, hidT_get e (other e (fun us n z => by rw [d] at z; cases z) fun z => by rw [d] at z; cases z), d, r⟩
  have Xb : K.In (hidT s.heap H) := fun b o e => hidT_get (X b o e) (known e)
  have holds : HOk P w H s.heap := fun b u z => by
    rcases cases_ b with ⟨h, e⟩ | ⟨rfl, _, e⟩ | e
    · obtain rfl : u = .tbl #[] := Option.some.inj (z.symm.trans e)
      exact (tabIs b h).1
    · obtain rfl := Option.some.inj (z.symm.trans e)
      exact ⟨at_, by rw [List.length_map]; exact short, vs, _, rel, at_⟩
    · rw [e] at z
      cases z
  have script : SqL K H a (ns.map V.int) := by
    cases q : K.lookup a with
    | none =>
      refine .inl (.inr ⟨{ cls := .type "list", data := .seq vs.toArray }, ?_⟩)
      exact (if_neg apart).trans (if_pos ⟨rfl, q⟩)
    | some o =>
      have e := X a o q
      rw [at_] at e
      cases e
      exact .inr ⟨_, vs.toArray, _, q, rfl, rfl, rfl, by rw [List.size_toArray, len]; exact short, by simpa using rel⟩
  have tabs : ∀ p ∈ cs, LamX.TabB (hidT s.heap H) mg p.1 p.2 := fun p hp => by
    refine ⟨?_, ?_, fun z => ?_⟩
    · obtain ⟨o, us, file, tf, flags, tg, inF, text, tt, e, c1, c2, c3, more⟩ := tC p hp
      refine ⟨o, us, file, tf, flags, tg, inF, text, tt, hidT_get e (other e (fun vs n z => by rw [c2] at z; cases z) fun z => ?_), c1, c2, c3, more⟩
      rw [c2] at z
      cases z
      simp at c3
    · obtain ⟨bm, ob, b1, b2, b3, b4, b5, b6⟩ := bmod
      have b7 : H bm = .none := other b3 (fun us n z => by rw [b6] at z; cases z) fun z => by rw [b6] at z; cases z
      refine ⟨bm, ob, b1, b2, fun q => ?_, fun q => ?_, hidT_get b3 b7, b4, b5, b6⟩
      · obtain ⟨o, es, ep, e, d, _⟩ := G
        rw [← q, b3] at e
        cases e
        rw [b6] at d
        cases d
      · rw [q, hTs p hp] at b7
        cases b7
    · obtain ⟨o, es, ep, e, d, _⟩ := G
      rw [z, tE p hp] at e
      cases e
      cases d
  have env : Env0 P w K mg (hidT s.heap H) callerA [] s H :=
    { frames := rfl
      mod := ⟨Xb, ns_ G, ⟨mb, ns_ Bn, Bi⟩, let ⟨mc, h1, h2⟩ := lim; ⟨mc, ns_ h1, h2⟩⟩
      bs := fun b o e => of_hidT e
      bsz := Nat.le_of_eq (hidT_size _ _)
      funs := trivial
      frf := fun b hb => absurd (show b ∈ ([] : List Addr) from hb) (by simp)
      hok := holds
      bare := .of_eq gens }
  refine codeAny_mono ((F _ Xb (ns_ G) tabs).run callerA [] s H ⟨[.ref a], []⟩ [.ref a] [.ref a] _ _ room rfl env (bind s (.ref a)) (.cons rfl .nil) (give H hTs script)) fun r s' z => ?_
  match r, z with
  | .error e, z => exact z.elim
  | .ok .next, z => exact z.elim
  | .ok .brk, z => exact z.elim
  | .ok .cont, z => exact z.elim
  | .ok (.ret u), z =>
    obtain ⟨v, H', os, bare, un, ok', r', ev⟩ := z
    subst ev
    obtain rfl : u = .bool true := r'
    have stay : ∀ b o, b ∉ cs.map (·.2) → s.heap.get? b = some o → s'.heap.get? b = some o := fun b o nb e => by
      rcases cases_ b with ⟨h, _⟩ | ⟨_, _, q⟩ | q
      · exact absurd h nb
      · have old := (holds b _ q).1
        rw [e] at old
        cases old
        exact (ok' b _ (un.frzs b _ _ q)).1
      · exact un.keep b o e q (fun m => absurd (show b ∈ ([] : List Addr) from m) (by simp)) (by simp)
    have grown : ∀ b ∈ cs.map (·.2), ∃ more : Array Value, s'.heap.get? b = some { cls := .none, data := .fields more } := fun b hb => by
      obtain ⟨more, q⟩ := un.tbls b #[] (hT b hb)
      exact ⟨_, ok' b _ q⟩
    refine ⟨rfl, ⟨fun b o eb => ?_, fun b o eb => ?_⟩, os, bare⟩
    · by_cases mb : b ∈ cs.map (·.2)
      · rcases List.mem_map.mp mb with ⟨p, hp, rfl⟩
        obtain ⟨more, hm⟩ := grown _ mb
        rw [tE p hp] at eb
        cases eb
        exact .inr (.inl ⟨((tC p hp).tab (tE p hp)).isCodeTable, rfl, #[], more, rfl, by rw [Array.empty_append]; exact hm⟩)
      · exact .inl (stay b o mb eb)
    · by_cases mb : b ∈ cs.map (·.2)
      · obtain ⟨more, hm⟩ := grown b mb
        exact ⟨_, hm⟩
      · exact ⟨o, stay b o mb eb⟩
end
/-- the law's def, told over the head's heap -/
theorem lone_walk {l : PySem.W.OpenLaw} {n k : Nat} {q : Program} {loose : List Str} {XP : (Str → Option Value) → Heap → Prop} {YP : World → Heap → Prop} {d : DefRec} {x : Str} (most : l.most = some n) (short : n ≤ sizeLine) (plain : d.params.defaults = []) (room : Room k callerA)
    (F : ∀ (w : World) (mg : Str → Option Value) (fa : Addr) (h : Heap), YP w h → h.Ns mainGlobals mg → mg d.name = some (.ref fa) → ∃ (K : PySem.W.Frag) (fd : FuncData) (cs : List (Addr × Addr)) (sp : Sp), K.In h ∧
      (∀ p ∈ cs, h.get? p.2 = some { cls := .none, data := .fields #[] }) ∧ (∀ p ∈ cs, K.lookup p.2 = none) ∧ (∀ p ∈ cs, PySem.W.CodeHd h p.1 p.2) ∧ (∀ (s : Shared) (u : Value), BindsTo s fd ⟨[u], []⟩ [(x, u)]) ∧
      (∀ (H : Hp) (a : Addr) (ns : List Int), ns.length ≤ n → (∀ p ∈ cs, H p.2 = some (.tbl #[])) → SqL K H a (ns.map V.int) → sp [.ref a] H (fun v _ => v = .bl true) fun _ _ _ => False) ∧
      ∀ base : Heap, K.In base → base.Ns mainGlobals mg → (∀ p ∈ cs, LamX.TabB base mg p.1 p.2) → FnG l.prog w K mg base CX0 k fa fd [x] sp) : PySem.W.WalkO q loose XP YP l.row.toRowW d [] (fun f vs => PySem.call f vs) := by
  refine Att.attach_callB most plain fun w s₀ s₁ mg mb fa o pm cd doc a vs ns G Y _ _ _ hmg hobj hints hlen _ hg => ?_
  obtain ⟨K, fd, cs, sp, X, tE, tN, tC, hb, give, hF⟩ := F w mg fa _ Y G.T.g hmg
  exact lone_end X G.T.g G.T.b G.T.builtins G.T.nolimit hg tE tN tC G.T.bmain hobj hints (Nat.le_trans hlen short) room hF hb fun H hH hS => give H a ns hlen hH hS
end Kx
/-! what the head tells -/
namespace K5
open PySem PySem.Spec PyProof.Rows L2 Kx RZ
def iniB (K : PySem.W.Frag) (C : Addr) : Bool := He.eqO (PySem.W.findIn K (.ref C) "__init__") (some (some (.ref (He.ma K C "__init__")))) && decide (PySem.W.typeIn K (.ref (He.ma K C "__init__")) = some (.type "function"))
theorem iniB_ok {K : PySem.W.Frag} {C : Addr} (h : iniB K C = true) : PySem.W.findIn K (.ref C) "__init__" = some (some (.ref (He.ma K C "__init__"))) ∧ PySem.W.typeIn K (.ref (He.ma K C "__init__")) = some (.type "function") := by
  obtain ⟨h1, h2⟩ := He.ba h
  exact ⟨He.eqO_ok h1, of_decide_eq_true h2⟩
def isiB (K : PySem.W.Frag) (C : Addr) : Bool := He.eqO (PySem.W.findIn K (.ref C) "__class__") (some (some (.builtin "object.__class__"))) && (He.eqO (PySem.W.specialIn K (.builtin "object.__class__") "__get__") (some (some (.builtin "getset_descriptor.__get__"))) &&
  (decide (PySem.W.takesIn K (.builtin "object.__class__") = some true) && decide (PySem.W.mroIn K C (.type "object") = some true)))
theorem isiB_ok {K : PySem.W.Frag} {C : Addr} (h : isiB K C = true) : SlX.SIsi K C := by
  obtain ⟨h1, h⟩ := He.ba h
  obtain ⟨h2, h⟩ := He.ba h
  obtain ⟨h3, h4⟩ := He.ba h
  exact ⟨He.eqO_ok h1, He.eqO_ok h2, of_decide_eq_true h3, of_decide_eq_true h4⟩
def kitB (K : PySem.W.Frag) (t c : Value) (b : Bool) : Bool := decide (PySem.W.kitOne K t c = some b)
theorem kitB_ok {K : PySem.W.Frag} {t c : Value} {b : Bool} (h : kitB K t c b = true) : PySem.W.kitOne K t c = some b := of_decide_eq_true h
/-- the class's own names -/
def nsOf (K : PySem.W.Frag) (C : Addr) : Addr := match K.lookup C with
  | some ⟨_, _, .cls cd, _⟩ => cd.ns
  | _ => 0
def strE (e : DictEntry) : Bool := match e.key with
  | .str _ _ => true
  | _ => false
def nsB (K : PySem.W.Frag) (N f : Addr) : Bool := match K.lookup N with
  | some ⟨_, _, .dict es _, _⟩ => es.toList.all strE && (decide (nsFind es "__eq__" = some (.ref f)) && decide (nsFind es "__ne__" = none))
  | _ => false
theorem nsB_ok {K : PySem.W.Frag} {N f : Addr} (h : nsB K N f = true) : ∃ (oN : Obj) (es : Array DictEntry) (ep : Nat), K.lookup N = some oN ∧ oN.data = .dict es ep ∧ StrKeys es ∧ nsFind es "__eq__" = some (.ref f) ∧ nsFind es "__ne__" = none := by
  unfold nsB at h
  split at h
  · rename_i oc od es ep sl e
    obtain ⟨h1, h⟩ := He.ba h
    obtain ⟨h2, h3⟩ := He.ba h
    refine ⟨_, es, ep, e, rfl, fun z hz => ?_, of_decide_eq_true h2, of_decide_eq_true h3⟩
    have := List.all_eq_true.mp h1 z (by simpa using hz)
    unfold strE at this
    split at this
    · rename_i n t q
      exact ⟨n, t, q⟩
    · cases this
  · cases h
def eqB (K : PySem.W.Frag) (C f : Addr) : Bool := He.eqO (PySem.W.findIn K (.ref C) "__eq__") (some (some (.ref f))) && (PySem.W.isFn K (.ref f) && (shapeB K C (fun r => decide (r = [.type "object"])) "object.__new__" && (nsB K (nsOf K C) f &&
  (match K.lookup f with
  | some ⟨.type c, _, _, _⟩ => decide (c = "function")
  | _ => false))))
theorem eqB_ok {K : PySem.W.Frag} {C f : Addr} (h : eqB K C f = true) : EqC K C f := by
  obtain ⟨h1, h⟩ := He.ba h
  obtain ⟨h2, h⟩ := He.ba h
  obtain ⟨h3, h⟩ := He.ba h
  obtain ⟨h4, h5⟩ := He.ba h
  obtain ⟨nm, q, N, bs, r, sn, sub, ab, col, dd, k0, k1, k2, k3, k5, e, er⟩ := shapeB_ok h3
  have er := of_decide_eq_true er
  subst er
  have eN : nsOf K C = N := by
    unfold nsOf
    rw [e]
  rw [eN] at h4
  obtain ⟨oN, es, ep, n1, n2, n3, n4, n5⟩ := nsB_ok h4
  have hf : ∃ oF, K.lookup f = some oF ∧ oF.cls = .type "function" := by
    split at h5
    · rename_i c od dt sl e
      exact ⟨_, e, congrArg Value.type (of_decide_eq_true h5)⟩
    · cases h5
  obtain ⟨oF, f1, f2⟩ := hf
  exact ⟨He.eqO_ok h1, h2, nm, q, N, bs, true, sn, sub, ab, col, dd, k0, k1, k2, k3, k5, "object.__new__", oN, oF, es, ep, e, n1, n2, n3, n4, n5, f1, f2⟩
def adOf (K : PySem.W.Frag) : Ad := ⟨He.ga K "BadMachine", He.ga K "BadRow", He.ga K "BadShowing", He.ga K "Refused", He.ga K "TooGreat", He.ga K "Forgets", He.ga K "NoState"⟩
/-! ### the names, the texts -/
abbrev dLaw : He.Defn := ("law", none)
def tZero (K : PySem.W.Frag) : Addr := He.dflAt ("Counters", some "__init__") 0 K
abbrev dF (x : Str) (st : Stmt) : He.DefD := ⟨(x, none), x, x, defArgs st, defBody st, defScope st, [], []⟩
abbrev dM (C m q : Str) (st : Stmt) (ds : List He.Dv) : He.DefD := ⟨(C, some m), m, q, defArgs st, defBody st, defScope st, ds, []⟩
def fn : List He.DefD := [
  dF "is_number" s_is_number,
  dF "is_below" s_is_below,
  dF "is_sequence" s_is_sequence,
  dF "are_ascending" s_are_ascending,
  dF "first_not_below" s_first_not_below,
  dF "row_of" s_row_of,
  dF "_are_rests" s_are_rests,
  dF "_shows" s_shows,
  dF "showing_of" s_showing_of,
  dF "shown_of" s_shown_of,
  dF "shown" s_shown,
  dF "_can_show" s_can_show,
  dF "check_showing" s_check_showing,
  dF "merged" s_merged,
  dF "_checked" s_checked,
  dF "_need_kinds" s_need_kinds,
  dF "without_kinds" s_without_kinds,
  dF "left_showing" s_left_showing,
  dF "_is_table" s_is_table,
  dF "_law_box" s_law_box,
  dF "_law_take" s_law_take,
  dF "_law_pick" s_law_pick,
  dF "_law_mixed" s_law_mixed,
  dF "_law_show" s_law_show,
  dF "_law_numbers" s_law_numbers,
  dF "_law_heard" s_law_heard,
  dF "law" s_law,
  dM "BadMachine" "__init__" "BadMachine.__init__" s_BadMachine_init [],
  dM "BadRow" "__init__" "BadRow.__init__" s_BadRow_init [],
  dM "BadShowing" "__init__" "BadShowing.__init__" s_BadShowing_init [],
  dM "Refused" "__init__" "Refused.__init__" s_Refused_init [],
  dM "Counters" "__init__" "Counters.__init__" s_Counters_init [.adr tZero],
  dM "Counters" "__eq__" "Counters.__eq__" s_Counters_eq [],
  dM "Machine" "__init__" "Machine.__init__" s_Machine_init [],
  dM "Machine" "__eq__" "Machine.__eq__" s_Machine_eq []]
def fa : List He.Fa := [
  .glo "is_number", .glo "is_below", .glo "is_sequence", .glo "are_ascending", .glo "first_not_below", .glo "row_of", .glo "_are_rests", .glo "_shows",
  .glo "showing_of", .glo "shown_of", .glo "shown", .glo "_can_show", .glo "check_showing", .glo "merged", .glo "_checked", .glo "_need_kinds",
  .glo "without_kinds", .glo "left_showing", .glo "_is_table", .glo "_law_box", .glo "_law_take", .glo "_law_pick", .glo "_law_mixed", .glo "_law_show",
  .glo "_law_numbers", .glo "_law_heard", .glo "law", .glo "WitnessError", .glo "BadMachine", .glo "BadRow", .glo "BadShowing", .glo "Refused",
  .glo "TooGreat", .glo "Forgets", .glo "NoState", .glo "Counters", .glo "Machine", .free "KeyError", .free "ValueError", .free "abs",
  .free "all", .free "bool", .free "enumerate", .free "int", .free "isinstance", .free "len", .free "list", .free "max",
  .free "min", .free "range", .free "repr", .free "tuple", .free "zip", .int "DEEDS_MOST" 4, .int "STATES_MOST" 8, .int "ROW_MOST" 400,
  .int "ROUND_MOST" 60, .int "REST_MOST" 6, .cls "Counters", .cls "Machine", .mkr "Counters", .mkr "Machine", .noat "Counters" "rounds", .noat "Counters" "rests",
  .noat "Machine" "deeds", .noat "Machine" "states", .noat "Machine" "tables", .noat "BadMachine" "at", .noat "BadRow" "at", .noat "BadShowing" "at", .noat "Refused" "at", .exm "BadShowing" "BadShowing" true,
  .exm "Refused" "BadShowing" false, .exm "Refused" "NoState" false, .exm "Refused" "Forgets" false, .exm "Refused" "TooGreat" false, .exm "Refused" "Refused" true]
def tf : List He.Defn := [dLaw]
def bools (K : PySem.W.Frag) : List Bool := [
  oexB K (He.ga K "BadMachine"),
  oexB K (He.ga K "BadRow"),
  oexB K (He.ga K "BadShowing"),
  oexB K (He.ga K "Refused"),
  iniB K (He.ga K "BadMachine"),
  iniB K (He.ga K "BadRow"),
  iniB K (He.ga K "BadShowing"),
  iniB K (He.ga K "Refused"),
  excB K (He.ga K "BadShowing"),
  excB K (He.ga K "Refused"),
  kitB K (.ref (He.ga K "BadShowing")) (.ref (He.ga K "WitnessError")) true,
  kitB K (.ref (He.ga K "Refused")) (.ref (He.ga K "WitnessError")) true,
  kitB K (.type "NoneType") (.ref (He.ga K "Counters")) false,
  kitB K (.type "bool") (.ref (He.ga K "Counters")) false,
  kitB K (.type "int") (.ref (He.ga K "Counters")) false,
  kitB K (.type "str") (.ref (He.ga K "Counters")) false,
  kitB K (.type "list") (.ref (He.ga K "Counters")) false,
  kitB K (.type "tuple") (.ref (He.ga K "Counters")) false,
  kitB K (.type "NoneType") (.ref (He.ga K "Machine")) false,
  kitB K (.type "bool") (.ref (He.ga K "Machine")) false,
  kitB K (.type "int") (.ref (He.ga K "Machine")) false,
  kitB K (.type "str") (.ref (He.ga K "Machine")) false,
  kitB K (.type "list") (.ref (He.ga K "Machine")) false,
  kitB K (.type "tuple") (.ref (He.ga K "Machine")) false,
  isiB K (He.ga K "Counters"),
  kitB K (.ref (He.ga K "Counters")) (.ref (He.ga K "Counters")) true,
  kitB K (.type "tuple") (.ref (He.ga K "Counters")) false,
  PySem.W.notFirst K (He.ga K "Counters") (.type "tuple"),
  eqB K (He.ga K "Counters") (He.ma K (He.ga K "Counters") "__eq__"),
  isiB K (He.ga K "Machine"),
  kitB K (.ref (He.ga K "Machine")) (.ref (He.ga K "Machine")) true,
  kitB K (.type "tuple") (.ref (He.ga K "Machine")) false,
  PySem.W.notFirst K (He.ga K "Machine") (.type "tuple"),
  eqB K (He.ga K "Machine") (He.ma K (He.ga K "Machine") "__eq__")]
def ex (K : PySem.W.Frag) : Bool := (bools K).all id
theorem ex_at {K : PySem.W.Frag} (h : ex K = true) (i : Nat) {b : Bool} (e : (bools K)[i]? = some b) : b = true := List.all_eq_true.mp h b (List.mem_of_getElem? e)
/-! ### how arguments are bound -/
theorem vals_getD : ∀ {vs : List V} {us : List Value} (i : Nat), Vals vs us → RelV (vs.getD i .non) (us.getD i .none)
  | [], [], _, _ => rfl
  | _ :: _, _ :: _, 0, .cons h _ => h
  | _ :: _, _ :: _, i + 1, .cons _ h => by
    have := vals_getD i h
    simpa using this
def wk2 : List Value → List Value → List Value := fun _ ws => [ws.getD 1 .none, ws.getD 0 .none]
def wk3 : List Value → List Value → List Value := fun _ ws => [ws.getD 2 .none, ws.getD 1 .none, ws.getD 0 .none]
section
variable {K : PySem.W.Frag} {x qual : Str} {params : Arguments} {body : List Stmt} {scope : Scope} {kws : List (Str × V)} {f : Addr} {fd : FuncData} {ps ks : List Str} {n : Nat}
theorem kbn_of {g : List Value → List Value → List Value} {gV : List V → List V → List V} (F : FunD K x qual params body scope [] kws f fd) (rel : ∀ {vs us zs ws}, Vals vs us → Vals zs ws → Vals (gV vs zs) (g us ws))
    (h : ∀ (kV doc pm : Value) (an : Option Addr) (cdv ct : Value) (us ws : List Value), us.length = n → ws.length = ks.length → bindArgs (PySem.W.fnOf x qual params body scope .none kV doc pm an cdv ct) ⟨us, ks.zip ws⟩ = pure (ps.zip (g us ws))) : KBn K fd ps n ks g gV := by
  obtain ⟨oc, od, dV, kV, doc, pm, an, cdv, ct, osl, rfl, lk, hcd, hD, -⟩ := F.ex
  rcases hD with ⟨-, rfl⟩ | ⟨e, -⟩
  · exact ⟨fun s us ws _ l1 l2 => .of_eq (h kV doc pm an cdv ct us ws l1 l2), rel⟩
  · exact absurd rfl e
theorem rel2 {vs : List V} {us : List Value} {zs : List V} {ws : List Value} (_ : Vals vs us) (h : Vals zs ws) : Vals (kw2 vs zs) (wk2 us ws) := .cons (vals_getD 1 h) (.cons (vals_getD 0 h) .nil)
theorem rel3 {vs : List V} {us : List Value} {zs : List V} {ws : List Value} (_ : Vals vs us) (h : Vals zs ws) : Vals (kw3 vs zs) (wk3 us ws) := .cons (vals_getD 2 h) (.cons (vals_getD 1 h) (.cons (vals_getD 0 h) .nil))
/-- a def's code object -/
theorem code_of {p : Str × Option Str} {st : Stmt} {z : Str} (F : FnP K z st (He.fAd K p) fd) : fd.code = .ref (He.cT K p).1 := by
  obtain ⟨oc, od, dV, kV, doc, pm, an, cdv, ct, osl, rfl, lk, hcd, -, -⟩ := F.ex
  obtain ⟨c, rfl⟩ := He.codeIn_ref hcd
  show Value.ref c = .ref (He.codeOf K p)
  rw [He.codeOf_eq lk rfl]
end
end K5
/-! the bundles, by what the head tells -/
namespace K5
open PySem PySem.Spec PyProof.Rows L2 Kx RZ
abbrev Says (w : World) (h : Heap) (K : PySem.W.Frag) : Prop := He.SaysX fa fn [] tf ex w h K
section
variable {P : Program} {w : World} {K : PySem.W.Frag} {h : Heap} {mg : Str → Option Value}
theorem mg_of (X : K.In h) (G : h.Ns mainGlobals mg) (c : Says w h K) : Mg mg where
  z_KeyError := He.free_ok X G (c.t.d.fact 37 (f := .free "KeyError") rfl)
  z_ValueError := He.free_ok X G (c.t.d.fact 38 (f := .free "ValueError") rfl)
  z_abs := He.free_ok X G (c.t.d.fact 39 (f := .free "abs") rfl)
  z_all := He.free_ok X G (c.t.d.fact 40 (f := .free "all") rfl)
  z_bool := He.free_ok X G (c.t.d.fact 41 (f := .free "bool") rfl)
  z_enumerate := He.free_ok X G (c.t.d.fact 42 (f := .free "enumerate") rfl)
  z_int := He.free_ok X G (c.t.d.fact 43 (f := .free "int") rfl)
  z_isinstance := He.free_ok X G (c.t.d.fact 44 (f := .free "isinstance") rfl)
  z_len := He.free_ok X G (c.t.d.fact 45 (f := .free "len") rfl)
  z_list := He.free_ok X G (c.t.d.fact 46 (f := .free "list") rfl)
  z_max := He.free_ok X G (c.t.d.fact 47 (f := .free "max") rfl)
  z_min := He.free_ok X G (c.t.d.fact 48 (f := .free "min") rfl)
  z_range := He.free_ok X G (c.t.d.fact 49 (f := .free "range") rfl)
  z_repr := He.free_ok X G (c.t.d.fact 50 (f := .free "repr") rfl)
  z_tuple := He.free_ok X G (c.t.d.fact 51 (f := .free "tuple") rfl)
  z_zip := He.free_ok X G (c.t.d.fact 52 (f := .free "zip") rfl)
  g_DEEDS_MOST := He.int_ok X G (c.t.d.fact 53 (f := .int "DEEDS_MOST" 4) rfl)
  g_STATES_MOST := He.int_ok X G (c.t.d.fact 54 (f := .int "STATES_MOST" 8) rfl)
  g_ROW_MOST := He.int_ok X G (c.t.d.fact 55 (f := .int "ROW_MOST" 400) rfl)
  g_ROUND_MOST := He.int_ok X G (c.t.d.fact 56 (f := .int "ROUND_MOST" 60) rfl)
  g_REST_MOST := He.int_ok X G (c.t.d.fact 57 (f := .int "REST_MOST" 6) rfl)
theorem clsC_of (X : K.In h) (G : h.Ns mainGlobals mg) (c : Says w h K) : ClsC K mg (He.ga K "Counters") where
  at_ := (He.glo_ok X G (c.t.d.fact 35 (f := .glo "Counters") rfl))
  cl := He.cls_ok (c.t.d.fact 58 (f := .cls "Counters") rfl)
  n1 := (He.noat_ok (c.t.d.fact 62 (f := .noat "Counters" "rounds") rfl))
  n2 := (He.noat_ok (c.t.d.fact 63 (f := .noat "Counters" "rests") rfl))
  isi := isiB_ok (ex_at c.more 24 rfl)
  yes := kitB_ok (ex_at c.more 25 rfl)
  notT := kitB_ok (ex_at c.more 26 rfl)
  first := (ex_at c.more 27 rfl)
theorem clsM_of (X : K.In h) (G : h.Ns mainGlobals mg) (c : Says w h K) : ClsM K mg (He.ga K "Machine") where
  at_ := (He.glo_ok X G (c.t.d.fact 36 (f := .glo "Machine") rfl))
  cl := He.cls_ok (c.t.d.fact 59 (f := .cls "Machine") rfl)
  n1 := (He.noat_ok (c.t.d.fact 64 (f := .noat "Machine" "deeds") rfl))
  n2 := (He.noat_ok (c.t.d.fact 65 (f := .noat "Machine" "states") rfl))
  n3 := (He.noat_ok (c.t.d.fact 66 (f := .noat "Machine" "tables") rfl))
  isi := isiB_ok (ex_at c.more 29 rfl)
  yes := kitB_ok (ex_at c.more 30 rfl)
  notT := kitB_ok (ex_at c.more 31 rfl)
  first := (ex_at c.more 32 rfl)
theorem hd_of (X : K.In h) (G : h.Ns mainGlobals mg) (c : Says w h K) : Hd K mg (adOf K) (He.ga K "Counters") (He.ga K "Machine") (He.ga K "WitnessError") where
  g_W := (He.glo_ok X G (c.t.d.fact 27 (f := .glo "WitnessError") rfl))
  g_S := (He.glo_ok X G (c.t.d.fact 30 (f := .glo "BadShowing") rfl))
  g_N := (He.glo_ok X G (c.t.d.fact 34 (f := .glo "NoState") rfl))
  g_O := (He.glo_ok X G (c.t.d.fact 33 (f := .glo "Forgets") rfl))
  g_G := (He.glo_ok X G (c.t.d.fact 32 (f := .glo "TooGreat") rfl))
  g_F := (He.glo_ok X G (c.t.d.fact 31 (f := .glo "Refused") rfl))
  x_S := excB_xf (ex_at c.more 8 rfl)
  x_F := excB_xf (ex_at c.more 9 rfl)
  n_S := (He.noat_ok (c.t.d.fact 69 (f := .noat "BadShowing" "at") rfl))
  n_F := (He.noat_ok (c.t.d.fact 70 (f := .noat "Refused" "at") rfl))
  e_S := excB_ok (ex_at c.more 8 rfl)
  e_F := excB_ok (ex_at c.more 9 rfl)
  k_S := kitB_ok (ex_at c.more 10 rfl)
  k_F := kitB_ok (ex_at c.more 11 rfl)
  m_SS := (He.exm_ok (c.t.d.fact 71 (f := .exm "BadShowing" "BadShowing" true) rfl))
  m_FS := (He.exm_ok (c.t.d.fact 72 (f := .exm "Refused" "BadShowing" false) rfl))
  m_FN := (He.exm_ok (c.t.d.fact 73 (f := .exm "Refused" "NoState" false) rfl))
  m_FO := (He.exm_ok (c.t.d.fact 74 (f := .exm "Refused" "Forgets" false) rfl))
  m_FG := (He.exm_ok (c.t.d.fact 75 (f := .exm "Refused" "TooGreat" false) rfl))
  m_FF := (He.exm_ok (c.t.d.fact 76 (f := .exm "Refused" "Refused" true) rfl))
  not_C := fun n hn => by
    simp only [List.mem_cons, List.not_mem_nil, or_false] at hn
    rcases hn with rfl | rfl | rfl | rfl | rfl | rfl
    · exact kitB_ok (ex_at c.more 12 rfl)
    · exact kitB_ok (ex_at c.more 13 rfl)
    · exact kitB_ok (ex_at c.more 14 rfl)
    · exact kitB_ok (ex_at c.more 15 rfl)
    · exact kitB_ok (ex_at c.more 16 rfl)
    · exact kitB_ok (ex_at c.more 17 rfl)
  not_M := fun n hn => by
    simp only [List.mem_cons, List.not_mem_nil, or_false] at hn
    rcases hn with rfl | rfl | rfl | rfl | rfl | rfl
    · exact kitB_ok (ex_at c.more 18 rfl)
    · exact kitB_ok (ex_at c.more 19 rfl)
    · exact kitB_ok (ex_at c.more 20 rfl)
    · exact kitB_ok (ex_at c.more 21 rfl)
    · exact kitB_ok (ex_at c.more 22 rfl)
    · exact kitB_ok (ex_at c.more 23 rfl)
end
section
variable {P : Program} {w : World} {K : PySem.W.Frag} {mg : Str → Option Value} {base : Heap} {x f qual : Str} {C : Addr} {fd : FuncData}
theorem errN_of (at_ : mg x = some (.ref C)) (cls : EvC K C) (ini : iniB K C = true) (ok : FnOk P w K mg base CX0 1 (He.ma K C "__init__") fd ["self", f] (spKeep K C f)) (b : Binds K fd ["self", f] [])
    (kb : KBn K fd ["self", f] 1 [f] (fun us ws => us ++ ws) (fun vs zs => vs ++ zs)) : ErrN P w K mg base 1 x f C :=
  ⟨at_, cls, _, fd, (iniB_ok ini).1, (iniB_ok ini).2, b, ok, fun s' a ws X l => kb.to s' [.ref a] ws X rfl l⟩
end
theorem sc_BadMachine : FnScope ["self", "at"] ["self", "at"] (defScope s_BadMachine_init) := ⟨rfl, rfl, rfl, by decide +kernel, rfl, by decide +kernel, by decide +kernel⟩
theorem err_BadMachine {P : Program} {w w' : World} {K : PySem.W.Frag} {h base : Heap} {mg : Str → Option Value} (X : K.In h) (G : h.Ns mainGlobals mg) (c : Says w' h K) : ErrN P w K mg base 1 "BadMachine" "at" (He.ga K "BadMachine") := by
  obtain ⟨fd, F⟩ := c.t.d.def_ 27 rfl
  exact errN_of (He.glo_ok X G (c.t.d.fact 28 (f := .glo "BadMachine") rfl)) (EvC.of (oexB_ok (ex_at c.more 0 rfl))) (ex_at c.more 4 rfl) (ok_keep F (oexB_ok (ex_at c.more 0 rfl)) (He.noat_ok (c.t.d.fact 67 (f := .noat "BadMachine" "at") rfl)) sc_BadMachine (by decide) (by decide) (by decide +kernel) (by decide +kernel)) (F.bindsN fun _ _ _ _ _ _ us hl => match us, hl with | [_, _], _ => rfl)
    (kbn_of F (fun r1 r2 => r1.append r2) fun _ _ _ _ _ _ us ws hl hm => match us, ws, hl, hm with | [_], [_], _, _ => rfl)
theorem sc_BadRow : FnScope ["self", "at"] ["self", "at"] (defScope s_BadRow_init) := ⟨rfl, rfl, rfl, by decide +kernel, rfl, by decide +kernel, by decide +kernel⟩
theorem err_BadRow {P : Program} {w w' : World} {K : PySem.W.Frag} {h base : Heap} {mg : Str → Option Value} (X : K.In h) (G : h.Ns mainGlobals mg) (c : Says w' h K) : ErrN P w K mg base 1 "BadRow" "at" (He.ga K "BadRow") := by
  obtain ⟨fd, F⟩ := c.t.d.def_ 28 rfl
  exact errN_of (He.glo_ok X G (c.t.d.fact 29 (f := .glo "BadRow") rfl)) (EvC.of (oexB_ok (ex_at c.more 1 rfl))) (ex_at c.more 5 rfl) (ok_keep F (oexB_ok (ex_at c.more 1 rfl)) (He.noat_ok (c.t.d.fact 68 (f := .noat "BadRow" "at") rfl)) sc_BadRow (by decide) (by decide) (by decide +kernel) (by decide +kernel)) (F.bindsN fun _ _ _ _ _ _ us hl => match us, hl with | [_, _], _ => rfl)
    (kbn_of F (fun r1 r2 => r1.append r2) fun _ _ _ _ _ _ us ws hl hm => match us, ws, hl, hm with | [_], [_], _, _ => rfl)
theorem sc_BadShowing : FnScope ["self", "at"] ["self", "at"] (defScope s_BadShowing_init) := ⟨rfl, rfl, rfl, by decide +kernel, rfl, by decide +kernel, by decide +kernel⟩
theorem err_BadShowing {P : Program} {w w' : World} {K : PySem.W.Frag} {h base : Heap} {mg : Str → Option Value} (X : K.In h) (G : h.Ns mainGlobals mg) (c : Says w' h K) : ErrN P w K mg base 1 "BadShowing" "at" (He.ga K "BadShowing") := by
  obtain ⟨fd, F⟩ := c.t.d.def_ 29 rfl
  exact errN_of (He.glo_ok X G (c.t.d.fact 30 (f := .glo "BadShowing") rfl)) (EvC.of (oexB_ok (ex_at c.more 2 rfl))) (ex_at c.more 6 rfl) (ok_keep F (oexB_ok (ex_at c.more 2 rfl)) (He.noat_ok (c.t.d.fact 69 (f := .noat "BadShowing" "at") rfl)) sc_BadShowing (by decide) (by decide) (by decide +kernel) (by decide +kernel)) (F.bindsN fun _ _ _ _ _ _ us hl => match us, hl with | [_, _], _ => rfl)
    (kbn_of F (fun r1 r2 => r1.append r2) fun _ _ _ _ _ _ us ws hl hm => match us, ws, hl, hm with | [_], [_], _, _ => rfl)
theorem sc_Refused : FnScope ["self", "at"] ["self", "at"] (defScope s_Refused_init) := ⟨rfl, rfl, rfl, by decide +kernel, rfl, by decide +kernel, by decide +kernel⟩
theorem err_Refused {P : Program} {w w' : World} {K : PySem.W.Frag} {h base : Heap} {mg : Str → Option Value} (X : K.In h) (G : h.Ns mainGlobals mg) (c : Says w' h K) : ErrN P w K mg base 1 "Refused" "at" (He.ga K "Refused") := by
  obtain ⟨fd, F⟩ := c.t.d.def_ 30 rfl
  exact errN_of (He.glo_ok X G (c.t.d.fact 31 (f := .glo "Refused") rfl)) (EvC.of (oexB_ok (ex_at c.more 3 rfl))) (ex_at c.more 7 rfl) (ok_keep F (oexB_ok (ex_at c.more 3 rfl)) (He.noat_ok (c.t.d.fact 70 (f := .noat "Refused" "at") rfl)) sc_Refused (by decide) (by decide) (by decide +kernel) (by decide +kernel)) (F.bindsN fun _ _ _ _ _ _ us hl => match us, hl with | [_, _], _ => rfl)
    (kbn_of F (fun r1 r2 => r1.append r2) fun _ _ _ _ _ _ us ws hl hm => match us, ws, hl, hm with | [_], [_], _, _ => rfl)
theorem er_of {P : Program} {w w' : World} {K : PySem.W.Frag} {h base : Heap} {mg : Str → Option Value} (X : K.In h) (G : h.Ns mainGlobals mg) (c : Says w' h K) : Er P w K mg base (adOf K) where
  BadMachine := err_BadMachine X G c
  BadRow := err_BadRow X G c
  BadShowing := err_BadShowing X G c
  Refused := err_Refused X G c
theorem errH_of {P : Program} {w w' : World} {K : PySem.W.Frag} {h base : Heap} {mg : Str → Option Value} (X : K.In h) (G : h.Ns mainGlobals mg) (c : Says w' h K) : ErrH P w K mg base 1 "BadShowing" "at" (adOf K).cS := by
  obtain ⟨fd, F⟩ := c.t.d.def_ 29 rfl
  exact ⟨(He.glo_ok X G (c.t.d.fact 30 (f := .glo "BadShowing") rfl)), oexB_ok (ex_at c.more 2 rfl), _, fd, (iniB_ok (ex_at c.more 6 rfl)).1, (iniB_ok (ex_at c.more 6 rfl)).2, F.bindsN fun _ _ _ _ _ _ us hl => match us, hl with | [_, _], _ => rfl, ok_keepH F (oexB_ok (ex_at c.more 2 rfl)) (He.noat_ok (c.t.d.fact 69 (f := .noat "BadShowing" "at") rfl)) sc_BadShowing (by decide) (by decide) (by decide +kernel) (by decide +kernel)⟩
section
variable {P : Program} {w : World} {K : PySem.W.Frag} {mg : Str → Option Value} {base : Heap} {x qual : Str} {params : Arguments} {body : List Stmt} {scope : Scope} {f : Addr} {fd : FuncData} {ps ks : List Str} {k n : Nat} {CX : CXT} {sp : Sp}
/-- a def by its name -/
theorem cal_of (at_ : mg x = some (.ref f)) (F : FunD K x qual params body scope [] [] f fd) (ok : FnOk P w K mg base CX k f fd ps sp) (h : ∀ (kV doc pm : Value) (an : Option Addr) (cdv ct : Value) (us : List Value), us.length = ps.length → bindArgs (PySem.W.fnOf x qual params body scope .none kV doc pm an cdv ct) ⟨us, []⟩ = pure (ps.zip us)) :
    Cal P w K mg base CX k x ps sp := ⟨_, _, at_, F.kp, F.bindsN h, ok⟩
theorem calN_of {g : List Value → List Value → List Value} {gV : List V → List V → List V} (at_ : mg x = some (.ref f)) (F : FunD K x qual params body scope [] [] f fd) (ok : FnOk P w K mg base CX k f fd ps sp) (rel : ∀ {vs us zs ws}, Vals vs us → Vals zs ws → Vals (gV vs zs) (g us ws))
    (h : ∀ (kV doc pm : Value) (an : Option Addr) (cdv ct : Value) (us ws : List Value), us.length = n → ws.length = ks.length → bindArgs (PySem.W.fnOf x qual params body scope .none kV doc pm an cdv ct) ⟨us, ks.zip ws⟩ = pure (ps.zip (g us ws))) : CalN P w K mg base CX k n x ps ks gV sp :=
  ⟨_, _, g, at_, F.kp, kbn_of F rel h, ok⟩
end
section
variable {P : Program} {w w' : World} {K : PySem.W.Frag} {h base : Heap} {mg : Str → Option Value}
theorem mks_of (X : K.In h) (G : h.Ns mainGlobals mg) (c : Says w' h K) : Mks P w K mg base (adOf K) (He.ga K "Counters") (He.ga K "Machine") := by
  have T := mg_of X G c
  have TC := clsC_of X G c
  have TM := clsM_of X G c
  have R : Er P w K mg base (adOf K) := er_of X G c
  obtain ⟨fdn, Fn⟩ := c.t.d.def_ 0 (d := dF "is_number" s_is_number) rfl
  have fn : FnOk P w K mg base CX0 1 (He.ga K "is_number") fdn ["value"] (spNumber K) := ok_is_number Fn T
  have cn : Cal P w K mg base CX0 1 "is_number" ["value"] (spNumber K) := cal_of (He.glo_ok X G (c.t.d.fact 0 (f := .glo "is_number") rfl)) Fn fn fun _ _ _ _ _ _ us hl => match us, hl with | [_], _ => rfl
  obtain ⟨fdb, Fb⟩ := c.t.d.def_ 1 (d := dF "is_below" s_is_below) rfl
  have fb : FnOk P w K mg base CX0 2 (He.ga K "is_below") fdb ["value", "limit"] (spBelow K) := ok_is_below Fb T cn
  have cb : Cal P w K mg base CX0 2 "is_below" ["value", "limit"] (spBelow K) := cal_of (He.glo_ok X G (c.t.d.fact 1 (f := .glo "is_below") rfl)) Fb fb fun _ _ _ _ _ _ us hl => match us, hl with | [_, _], _ => rfl
  obtain ⟨fds, Fs⟩ := c.t.d.def_ 2 (d := dF "is_sequence" s_is_sequence) rfl
  have fs : FnOk P w K mg base CX0 1 (He.ga K "is_sequence") fds ["value", "least", "most"] (spSeq K) := ok_is_sequence Fs T
  have cs : Cal P w K mg base CX0 1 "is_sequence" ["value", "least", "most"] (spSeq K) := cal_of (He.glo_ok X G (c.t.d.fact 2 (f := .glo "is_sequence") rfl)) Fs fs fun _ _ _ _ _ _ us hl => match us, hl with | [_, _, _], _ => rfl
  obtain ⟨fdl, Fl⟩ := c.t.d.def_ 4 (d := dF "first_not_below" s_first_not_below) rfl
  have fl : FnOk P w K mg base CX0 3 (He.ga K "first_not_below") fdl ["values", "limit"] (spFnb K) := ok_first_not_below Fl T cb
  have cl : Cal P w K mg base CX0 3 "first_not_below" ["values", "limit"] (spFnb K) := cal_of (He.glo_ok X G (c.t.d.fact 4 (f := .glo "first_not_below") rfl)) Fl fl fun _ _ _ _ _ _ us hl => match us, hl with | [_, _], _ => rfl
  obtain ⟨fde, Fe⟩ := c.t.d.def_ 6 (d := dF "_are_rests" s_are_rests) rfl
  have fe : FnOk P w K mg base CX0 4 (He.ga K "_are_rests") fde ["value", "kinds"] (spRests K) := ok_are_rests Fe T cs cl
  have ce : Cal P w K mg base CX0 4 "_are_rests" ["value", "kinds"] (spRests K) := cal_of (He.glo_ok X G (c.t.d.fact 6 (f := .glo "_are_rests") rfl)) Fe fe fun _ _ _ _ _ _ us hl => match us, hl with | [_, _], _ => rfl
  obtain ⟨fdt, Ft⟩ := c.t.d.def_ 18 (d := dF "_is_table" s_is_table) rfl
  have ft : FnOk P w K mg base CX0 4 (He.ga K "_is_table") fdt ["value", "like"] (spTable K) := ok_is_table Ft T cs cl
  have ct : Cal P w K mg base CX0 4 "_is_table" ["value", "like"] (spTable K) := cal_of (He.glo_ok X G (c.t.d.fact 18 (f := .glo "_is_table") rfl)) Ft ft fun _ _ _ _ _ _ us hl => match us, hl with | [_, _], _ => rfl
  obtain ⟨fdI, FI⟩ := c.t.d.def_ 31 (d := dM "Counters" "__init__" "Counters.__init__" s_Counters_init [.adr tZero]) rfl
  obtain ⟨fdE, FE⟩ := c.t.d.def_ 32 (d := dM "Counters" "__eq__" "Counters.__eq__" s_Counters_eq []) rfl
  obtain ⟨fdM, FM⟩ := c.t.d.def_ 33 (d := dM "Machine" "__init__" "Machine.__init__" s_Machine_init []) rfl
  obtain ⟨fdQ, FQ⟩ := c.t.d.def_ 34 (d := dM "Machine" "__eq__" "Machine.__eq__" s_Machine_eq []) rfl
  have okI : FnOk P w K mg base (L2N.CX P w) 5 (He.ma K (He.ga K "Counters") "__init__") fdI ["self", "rounds", "rests"] (spInit K (adOf K) (He.ga K "Counters")) := ok_init FI T R TC cs cl ce
  have okM : FnOk P w K mg base (L2N.CX P w) 5 (He.ma K (He.ga K "Machine") "__init__") fdM ["self", "tables"] (spMachine K (adOf K) (He.ga K "Machine")) := ok_machine FM T R TM cs ct
  have okE : FnOk P w K mg base CX0 1 (He.ma K (He.ga K "Counters") "__eq__") fdE ["self", "other"] (spEqC K (He.ga K "Counters")) := ok_eqC FE T TC
  have okQ : FnOk P w K mg base CX0 1 (He.ma K (He.ga K "Machine") "__eq__") fdQ ["self", "other"] (spEqM K (He.ga K "Machine")) := ok_eq FQ T TM
  have b1 : Binds K fdI ["self", "rounds", "rests"] [] := by
    obtain ⟨ds, v, b⟩ := FunD.binds1 (ps := ["self", "rounds", "rests"]) FI 3 1 (List.cons_ne_nil _ _) rfl fun _ _ _ _ _ _ _ us its l1 l2 => match us, its, l1, l2 with | [_, _, _], [_], _, _ => ⟨_, rfl, rfl⟩
    cases v
    exact b
  exact {
    cnt := ⟨_, fdI, He.mkr_ok (c.t.d.fact 60 (f := .mkr "Counters") rfl), okI, b1⟩
    mac := ⟨_, fdM, He.mkr_ok (c.t.d.fact 61 (f := .mkr "Machine") rfl), okM, FM.bindsN fun _ _ _ _ _ _ us hl => match us, hl with | [_, _], _ => rfl⟩
    eqC := ⟨_, fdE, eqB_ok (ex_at c.more 28 rfl), FE.bindsN fun _ _ _ _ _ _ us hl => match us, hl with | [_, _], _ => rfl, okE⟩
    eqM := ⟨_, fdQ, eqB_ok (ex_at c.more 33 rfl), FQ.bindsN fun _ _ _ _ _ _ us hl => match us, hl with | [_, _], _ => rfl, okQ⟩ }
/-- what the law calls of the program -/
structure Prg (P : Program) (w : World) (K : PySem.W.Frag) (mg : Str → Option Value) (base : Heap) (a : Ad) (C CM : Addr) : Prop where
  shown : Cal P w K mg base (L2.CX P w) 5 "shown" ["counters", "row"] (spShown K C)
  merged : Cal P w K mg base (L2.CX P w) 7 "merged" ["counters", "showings"] (spMerged K a C)
  mergedK : CalN P w K mg base (L2.CX P w) 7 0 "merged" ["counters", "showings"] ["showings", "counters"] kw2 (spMerged K a C)
  without : Cal P w K mg base (L2.CX P w) 7 "without_kinds" ["counters", "kinds"] (spWithout K a C)
  withoutK : CalN P w K mg base (L2.CX P w) 7 0 "without_kinds" ["counters", "kinds"] ["kinds", "counters"] kw2 (spWithout K a C)
  leftS : Cal P w K mg base (L2.CX P w) 6 "left_showing" ["counters", "kinds", "showing"] (spLeft K a C)
  leftK : CalN P w K mg base (L2.CX P w) 6 0 "left_showing" ["counters", "kinds", "showing"] ["showing", "kinds", "counters"] kw3 (spLeft K a C)
theorem prg_of (X : K.In h) (G : h.Ns mainGlobals mg) (c : Says w' h K) : Prg P w K mg base (adOf K) (He.ga K "Counters") (He.ga K "Machine") := by
  have T := mg_of X G c
  have TC := clsC_of X G c
  have TM := clsM_of X G c
  have R : Er P w K mg base (adOf K) := er_of X G c
  have M : Mks P w K mg base (adOf K) (He.ga K "Counters") (He.ga K "Machine") := mks_of X G c
  obtain ⟨fdn, Fn⟩ := c.t.d.def_ 0 (d := dF "is_number" s_is_number) rfl
  have fn : FnOk P w K mg base CX0 1 (He.ga K "is_number") fdn ["value"] (spNumber K) := ok_is_number Fn T
  have cn : Cal P w K mg base CX0 1 "is_number" ["value"] (spNumber K) := cal_of (He.glo_ok X G (c.t.d.fact 0 (f := .glo "is_number") rfl)) Fn fn fun _ _ _ _ _ _ us hl => match us, hl with | [_], _ => rfl
  obtain ⟨fdb, Fb⟩ := c.t.d.def_ 1 (d := dF "is_below" s_is_below) rfl
  have fb : FnOk P w K mg base CX0 2 (He.ga K "is_below") fdb ["value", "limit"] (spBelow K) := ok_is_below Fb T cn
  have cb : Cal P w K mg base CX0 2 "is_below" ["value", "limit"] (spBelow K) := cal_of (He.glo_ok X G (c.t.d.fact 1 (f := .glo "is_below") rfl)) Fb fb fun _ _ _ _ _ _ us hl => match us, hl with | [_, _], _ => rfl
  obtain ⟨fds, Fs⟩ := c.t.d.def_ 2 (d := dF "is_sequence" s_is_sequence) rfl
  have fs : FnOk P w K mg base CX0 1 (He.ga K "is_sequence") fds ["value", "least", "most"] (spSeq K) := ok_is_sequence Fs T
  have cs : Cal P w K mg base CX0 1 "is_sequence" ["value", "least", "most"] (spSeq K) := cal_of (He.glo_ok X G (c.t.d.fact 2 (f := .glo "is_sequence") rfl)) Fs fs fun _ _ _ _ _ _ us hl => match us, hl with | [_, _, _], _ => rfl
  obtain ⟨fdl, Fl⟩ := c.t.d.def_ 4 (d := dF "first_not_below" s_first_not_below) rfl
  have fl : FnOk P w K mg base CX0 3 (He.ga K "first_not_below") fdl ["values", "limit"] (spFnb K) := ok_first_not_below Fl T cb
  have cl : Cal P w K mg base CX0 3 "first_not_below" ["values", "limit"] (spFnb K) := cal_of (He.glo_ok X G (c.t.d.fact 4 (f := .glo "first_not_below") rfl)) Fl fl fun _ _ _ _ _ _ us hl => match us, hl with | [_, _], _ => rfl
  obtain ⟨fdr, Fr⟩ := c.t.d.def_ 5 (d := dF "row_of" s_row_of) rfl
  have fr : FnOk P w K mg base (L2N.CX P w) 4 (He.ga K "row_of") fdr ["value", "deeds"] (spRowOf K (adOf K)) := ok_row_of Fr T R cs cl
  have cr : Cal P w K mg base (L2N.CX P w) 4 "row_of" ["value", "deeds"] (spRowOf K (adOf K)) := cal_of (He.glo_ok X G (c.t.d.fact 5 (f := .glo "row_of") rfl)) Fr fr fun _ _ _ _ _ _ us hl => match us, hl with | [_, _], _ => rfl
  obtain ⟨fdca, Fca⟩ := c.t.d.def_ 11 (d := dF "_can_show" s_can_show) rfl
  have fca : FnOk P w K mg base CX0 3 (He.ga K "_can_show") fdca ["counters", "kind", "value"] (spCanShow K (He.ga K "Counters")) := ok_can_show Fca T TC cn cb
  have cca : Cal P w K mg base CX0 3 "_can_show" ["counters", "kind", "value"] (spCanShow K (He.ga K "Counters")) := cal_of (He.glo_ok X G (c.t.d.fact 11 (f := .glo "_can_show") rfl)) Fca fca fun _ _ _ _ _ _ us hl => match us, hl with | [_, _, _], _ => rfl
  obtain ⟨fdck, Fck⟩ := c.t.d.def_ 12 (d := dF "check_showing" s_check_showing) rfl
  have fck : FnOk P w K mg base (L2N.CX P w) 4 (He.ga K "check_showing") fdck ["counters", "value"] (spCheck K (adOf K) (He.ga K "Counters")) := ok_check Fck T R TC cs cca
  have cck : Cal P w K mg base (L2N.CX P w) 4 "check_showing" ["counters", "value"] (spCheck K (adOf K) (He.ga K "Counters")) := cal_of (He.glo_ok X G (c.t.d.fact 12 (f := .glo "check_showing") rfl)) Fck fck fun _ _ _ _ _ _ us hl => match us, hl with | [_, _], _ => rfl
  obtain ⟨fdsh, Fsh⟩ := c.t.d.def_ 7 (d := dF "_shows" s_shows) rfl
  have fsh : FnOk P w K mg base CX0 1 (He.ga K "_shows") fdsh ["counters", "kind", "many"] (spShows K (He.ga K "Counters")) := ok_shows Fsh T TC
  have csh : Cal P w K mg base CX0 1 "_shows" ["counters", "kind", "many"] (spShows K (He.ga K "Counters")) := cal_of (He.glo_ok X G (c.t.d.fact 7 (f := .glo "_shows") rfl)) Fsh fsh fun _ _ _ _ _ _ us hl => match us, hl with | [_, _, _], _ => rfl
  obtain ⟨fdso, Fso⟩ := c.t.d.def_ 8 (d := dF "showing_of" s_showing_of) rfl
  have fso : FnOk P w K mg base CX0 2 (He.ga K "showing_of") fdso ["counters", "counts"] (spShowingOf K (He.ga K "Counters")) := ok_showing_of Fso T TC csh
  have cso : Cal P w K mg base CX0 2 "showing_of" ["counters", "counts"] (spShowingOf K (He.ga K "Counters")) := cal_of (He.glo_ok X G (c.t.d.fact 8 (f := .glo "showing_of") rfl)) Fso fso fun _ _ _ _ _ _ us hl => match us, hl with | [_, _], _ => rfl
  obtain ⟨fdsd, Fsd⟩ := c.t.d.def_ 9 (d := dF "shown_of" s_shown_of) rfl
  have fsd : FnOk P w K mg base CX0 3 (He.ga K "shown_of") fdsd ["counters", "deeds"] (spShownOf K (He.ga K "Counters")) := ok_shown_of Fsd T TC cso
  have csd : Cal P w K mg base CX0 3 "shown_of" ["counters", "deeds"] (spShownOf K (He.ga K "Counters")) := cal_of (He.glo_ok X G (c.t.d.fact 9 (f := .glo "shown_of") rfl)) Fsd fsd fun _ _ _ _ _ _ us hl => match us, hl with | [_, _], _ => rfl
  obtain ⟨fdsn, Fsn⟩ := c.t.d.def_ 10 (d := dF "shown" s_shown) rfl
  have fsn : FnOk P w K mg base (L2N.CX P w) 5 (He.ga K "shown") fdsn ["counters", "row"] (spShown K (He.ga K "Counters")) := ok_shown Fsn T TC cr csd
  have csn : Cal P w K mg base (L2N.CX P w) 5 "shown" ["counters", "row"] (spShown K (He.ga K "Counters")) := cal_of (He.glo_ok X G (c.t.d.fact 10 (f := .glo "shown") rfl)) Fsn fsn fun _ _ _ _ _ _ us hl => match us, hl with | [_, _], _ => rfl
  obtain ⟨fdas, Fas⟩ := c.t.d.def_ 3 (d := dF "are_ascending" s_are_ascending) rfl
  have fas : FnOk P w K mg base CX0 4 (He.ga K "are_ascending") fdas ["value", "least", "limit"] (spAsc K) := ok_asc Fas T cs cl
  have cas : Cal P w K mg base CX0 4 "are_ascending" ["value", "least", "limit"] (spAsc K) := cal_of (He.glo_ok X G (c.t.d.fact 3 (f := .glo "are_ascending") rfl)) Fas fas fun _ _ _ _ _ _ us hl => match us, hl with | [_, _, _], _ => rfl
  obtain ⟨fdkd, Fkd⟩ := c.t.d.def_ 14 (d := dF "_checked" s_checked) rfl
  have fkd : FnOk P w K mg base (L2.CX P w) 6 (He.ga K "_checked") fdkd ["counters", "value", "at"] (spChecked K (adOf K) (He.ga K "Counters")) := ok_checked Fkd T R (errH_of X G c) (He.exm_ok (c.t.d.fact 71 (f := .exm "BadShowing" "BadShowing" true) rfl)) cck
  have ckd : Cal P w K mg base (L2.CX P w) 6 "_checked" ["counters", "value", "at"] (spChecked K (adOf K) (He.ga K "Counters")) := cal_of (He.glo_ok X G (c.t.d.fact 14 (f := .glo "_checked") rfl)) Fkd fkd fun _ _ _ _ _ _ us hl => match us, hl with | [_, _, _], _ => rfl
  obtain ⟨fdmg, Fmg⟩ := c.t.d.def_ 13 (d := dF "merged" s_merged) rfl
  have fmg : FnOk P w K mg base (L2.CX P w) 7 (He.ga K "merged") fdmg ["counters", "showings"] (spMerged K (adOf K) (He.ga K "Counters")) := ok_merged Fmg T R TC ckd cso
  have cmg : Cal P w K mg base (L2.CX P w) 7 "merged" ["counters", "showings"] (spMerged K (adOf K) (He.ga K "Counters")) := cal_of (He.glo_ok X G (c.t.d.fact 13 (f := .glo "merged") rfl)) Fmg fmg fun _ _ _ _ _ _ us hl => match us, hl with | [_, _], _ => rfl
  obtain ⟨fdnk, Fnk⟩ := c.t.d.def_ 15 (d := dF "_need_kinds" s_need_kinds) rfl
  have fnk : FnOk P w K mg base (L2N.CX P w) 5 (He.ga K "_need_kinds") fdnk ["counters", "kinds"] (spNeedK K (adOf K) (He.ga K "Counters")) := ok_needK Fnk T R TC cas
  have cnk : Cal P w K mg base (L2N.CX P w) 5 "_need_kinds" ["counters", "kinds"] (spNeedK K (adOf K) (He.ga K "Counters")) := cal_of (He.glo_ok X G (c.t.d.fact 15 (f := .glo "_need_kinds") rfl)) Fnk fnk fun _ _ _ _ _ _ us hl => match us, hl with | [_, _], _ => rfl
  obtain ⟨fdwk, Fwk⟩ := c.t.d.def_ 16 (d := dF "without_kinds" s_without_kinds) rfl
  have fwk : FnOk P w K mg base (L2N.CX P w) 7 (He.ga K "without_kinds") fdwk ["counters", "kinds"] (spWithout K (adOf K) (He.ga K "Counters")) := ok_without Fwk T R TC M cnk
  have cwk : Cal P w K mg base (L2N.CX P w) 7 "without_kinds" ["counters", "kinds"] (spWithout K (adOf K) (He.ga K "Counters")) := cal_of (He.glo_ok X G (c.t.d.fact 16 (f := .glo "without_kinds") rfl)) Fwk fwk fun _ _ _ _ _ _ us hl => match us, hl with | [_, _], _ => rfl
  obtain ⟨fdls, Fls⟩ := c.t.d.def_ 17 (d := dF "left_showing" s_left_showing) rfl
  have fls : FnOk P w K mg base (L2N.CX P w) 6 (He.ga K "left_showing") fdls ["counters", "kinds", "showing"] (spLeft K (adOf K) (He.ga K "Counters")) := ok_left Fls T TC cnk cck
  have cls : Cal P w K mg base (L2N.CX P w) 6 "left_showing" ["counters", "kinds", "showing"] (spLeft K (adOf K) (He.ga K "Counters")) := cal_of (He.glo_ok X G (c.t.d.fact 17 (f := .glo "left_showing") rfl)) Fls fls fun _ _ _ _ _ _ us hl => match us, hl with | [_, _, _], _ => rfl
  exact {
    shown := csn.toL2
    merged := cmg
    mergedK := calN_of (g := wk2) (He.glo_ok X G (c.t.d.fact 13 (f := .glo "merged") rfl)) Fmg fmg rel2 fun _ _ _ _ _ _ us ws hl hm => match us, ws, hl, hm with | [], [_, _], _, _ => rfl
    without := cwk.toL2
    withoutK := CalN.toL2 (calN_of (g := wk2) (He.glo_ok X G (c.t.d.fact 16 (f := .glo "without_kinds") rfl)) Fwk fwk rel2 fun _ _ _ _ _ _ us ws hl hm => match us, ws, hl, hm with | [], [_, _], _, _ => rfl)
    leftS := cls.toL2
    leftK := CalN.toL2 (calN_of (g := wk3) (He.glo_ok X G (c.t.d.fact 17 (f := .glo "left_showing") rfl)) Fls fls rel3 fun _ _ _ _ _ _ us ws hl hm => match us, ws, hl, hm with | [], [_, _, _], _, _ => rfl) }
end
end K5
/-! the end -/
namespace K5
open PySem PySem.Spec PyProof.Rows L2 Kx RZ
abbrev Rw : PySem.W.OpenRow := PySem.W.OpenLaw.row PySem.Challenge.rw_onewitness_k40_whole_counters_of_several
abbrev hk : PySem.W.Hook := He.hookX 5 fa fn [] tf ex
def ob (s : PySem.W.SharedT) : He.AlX := He.obsX 5 fa fn [] tf ex (HandSHeadRun.getT s)
theorem ob_eq (s : PySem.W.SharedT) : ob s = hk.obs s.abs := He.obsX_eq (HandSHeadRun.getT_eq s)
def others1 : List Str := ["WitnessError", "BadMachine", "BadRow", "BadShowing", "Refused", "TooGreat", "Forgets", "NoState", "DEEDS_MOST", "STATES_MOST", "ROW_MOST", "is_number", "is_below", "is_sequence", "are_ascending", "first_not_below", "row_of", "ROUND_MOST", "REST_MOST", "Counters", "_are_rests", "_shows", "showing_of", "shown_of", "shown", "_can_show", "check_showing", "merged", "_checked", "_need_kinds"]
def others2 : List Str := ["without_kinds", "left_showing", "Machine", "_is_table", "_law_box", "_law_take", "_law_pick", "_law_mixed", "_law_show", "_law_numbers", "_law_heard"]
abbrev others : List Str := others1 ++ others2
theorem top_runs (w : World) : HandSHeadRun.RunEq Rw (PySem.W.view Rw.prog [47]) hk ob 8000 others w := by
  intro os
  kernel_rfl
end K5
/-! the end -/
namespace K5
open PySem PySem.Spec PyProof.Rows L2 Kx RZ
/-- the lambdas' tables and their names -/
def tabsOf (K : PySem.W.Frag) : List (Addr × Str) := [((He.cT K dLaw).2, (Str.ofString "law" ++ ".<locals>.") ++ "<lambda>")]
theorem ref_same {m : Option Value} {a b : Addr} (h : m = some (.ref a)) (h' : m = some (.ref b)) : a = b := by
  rw [h] at h'
  injection h' with h'
  injection h'
theorem law_told {P : Program} {w : World} {K : PySem.W.Frag} {h : Heap} {mg : Str → Option Value} (X : K.In h) (G : h.Ns mainGlobals mg) (c : Says w h K) :
    ∃ fd : FuncData, (∀ (s : Shared) (u : Value), BindsTo s fd ⟨[u], []⟩ [("script", u)]) ∧ ∀ base : Heap, K.In base → base.Ns mainGlobals mg → (∀ p ∈ tf.map (He.cT K), LamX.TabB base mg p.1 p.2) → FnG P w K mg base CX0 12 (He.ga K "law") fd ["script"] (spLaw K (tabsOf K)) := by
  obtain ⟨fdlb, Flb⟩ := c.t.d.def_ 19 (d := dF "_law_box" s_law_box) rfl
  obtain ⟨fdlt, Flt⟩ := c.t.d.def_ 20 (d := dF "_law_take" s_law_take) rfl
  obtain ⟨fdlp, Flp⟩ := c.t.d.def_ 21 (d := dF "_law_pick" s_law_pick) rfl
  obtain ⟨fdlm, Flm⟩ := c.t.d.def_ 22 (d := dF "_law_mixed" s_law_mixed) rfl
  obtain ⟨fdlw, Flw⟩ := c.t.d.def_ 23 (d := dF "_law_show" s_law_show) rfl
  obtain ⟨fdln, Fln⟩ := c.t.d.def_ 24 (d := dF "_law_numbers" s_law_numbers) rfl
  obtain ⟨fdH, FH⟩ := c.t.d.def_ 25 (d := dF "_law_heard" s_law_heard) rfl
  obtain ⟨fdL, FL⟩ := c.t.d.def_ 26 (d := dF "law" s_law) rfl
  have bL := FunD.bindsA (ps := ["script"]) FL fun _ _ _ _ _ _ us hl => match us, hl with | [_], _ => rfl
  refine ⟨fdL, fun s u => bL s [u] rfl, fun base _ _ TB => ?_⟩
  have T := mg_of X G c
  have TC := clsC_of X G c
  have TM := clsM_of X G c
  have D := hd_of X G c
  have B : Prg P w K mg base (adOf K) (He.ga K "Counters") (He.ga K "Machine") := prg_of X G c
  have M : Mks P w K mg base (adOf K) (He.ga K "Counters") (He.ga K "Machine") := mks_of X G c
  have gH := (He.glo_ok X G (c.t.d.fact 25 (f := .glo "_law_heard") rfl))
  have bH : Binds K fdH ["ask"] [] := FH.bindsN fun _ _ _ _ _ _ us hl => match us, hl with | [_], _ => rfl
  have t_dLaw : LamX.TabB base mg (He.cT K dLaw).1 (He.cT K dLaw).2 := TB _ (List.mem_cons_self ..)
  have m_dLaw : ((He.cT K dLaw).2, (Str.ofString "law" ++ ".<locals>.") ++ "<lambda>") ∈ tabsOf K := List.mem_cons_self ..
  have o_dLaw : ∀ p ∈ tabsOf K, p.1 = (He.cT K dLaw).2 → p.2 = (Str.ofString "law" ++ ".<locals>.") ++ "<lambda>" := fun p hp e => by
    rcases List.mem_singleton.mp hp with rfl
    rfl
  have cB : Cal P w K mg base CX0 1 "_law_box" ["script", "k"] (spBox K) := cal_of (He.glo_ok X G (c.t.d.fact 19 (f := .glo "_law_box") rfl)) Flb (ok_box Flb T) fun _ _ _ _ _ _ us hl => match us, hl with | [_, _], _ => rfl
  have cT : Cal P w K mg base CX0 1 "_law_take" ["box", "many"] spTake := cal_of (He.glo_ok X G (c.t.d.fact 20 (f := .glo "_law_take") rfl)) Flt (ok_take Flt T) fun _ _ _ _ _ _ us hl => match us, hl with | [_, _], _ => rfl
  have cP : Cal P w K mg base CX0 2 "_law_pick" ["box", "some"] (spPick K) := cal_of (He.glo_ok X G (c.t.d.fact 21 (f := .glo "_law_pick") rfl)) Flp (ok_pick Flp T cT) fun _ _ _ _ _ _ us hl => match us, hl with | [_, _], _ => rfl
  have cX : Cal P w K mg base CX0 2 "_law_mixed" ["box", "some"] (spMixed K) := cal_of (He.glo_ok X G (c.t.d.fact 22 (f := .glo "_law_mixed") rfl)) Flm (ok_mixed Flm T cT) fun _ _ _ _ _ _ us hl => match us, hl with | [_, _], _ => rfl
  have cS : Cal P w K mg base CX0 1 "_law_show" ["rounds", "rests", "numbers"] (spLawShow K) := cal_of (He.glo_ok X G (c.t.d.fact 23 (f := .glo "_law_show") rfl)) Flw (ok_law_show Flw T) fun _ _ _ _ _ _ us hl => match us, hl with | [_, _, _], _ => rfl
  have cN : Cal P w K mg base CX0 1 "_law_numbers" ["many", "row"] (spNumbers K) := cal_of (He.glo_ok X G (c.t.d.fact 24 (f := .glo "_law_numbers") rfl)) Fln (ok_numbers Fln T) fun _ _ _ _ _ _ us hl => match us, hl with | [_, _], _ => rfl
  exact ok_law FL (code_of (p := dLaw) (z := "law") (st := s_law) FL) FH gH bH T TC TM D t_dLaw m_dLaw o_dLaw M {
    box := cB
    take := cT
    pick := cP
    mixed := cX
    show_ := cS
    nums := cN
    shown := B.shown
    merged := B.merged
    mergedK := B.mergedK
    without := B.without
    withoutK := B.withoutK
    leftS := B.leftS
    leftK := B.leftK }
end K5
open PyProof.Rows PySem PySem.W PySem.Calls
theorem PySem.Challenge.cw_onewitness_k40_whole_counters_of_several_holds : PySem.Challenge.rw_onewitness_k40_whole_counters_of_several.Holds := by
  w_on; o_law
  refine HandSHeadRun.head_any (r := K5.Rw) (q := view K5.Rw.prog [47]) (H := K5.hk) (ob := K5.ob) (M := 8000) (loose := K5.others) (d := HandSHeadRun.topDef K5.Rw.prog 47) (kwd := []) K5.ob_eq
    (by kernel_rfl) (fun s => by kernel_rfl) K5.top_runs (by kernel_rfl) (by kernel_rfl) (by kernel_rfl) (by rfl) (by first | assumption | decide +kernel) (by decide +kernel) ⟨rfl, rfl, rfl, rfl, rfl, by decide +kernel⟩ ?hw ?hc
  case hw => w_witness2
  case hc =>
    refine Kx.lone_walk (l := PySem.Challenge.rw_onewitness_k40_whole_counters_of_several) (n := 63) (k := 12) (x := "script") rfl (by decide) (by kernel_rfl) ⟨rfl, by decide, by decide⟩ ?F
    intro w mg fa h Y G hmg
    obtain ⟨K, X, c⟩ := Y
    have en : (HandSHeadRun.topDef K5.Rw.prog 47).name = ("law" : PySem.Str) := by kernel_rfl
    rw [en] at hmg
    have at_ := He.glo_ok X G (c.t.d.fact 26 (f := .glo "law") rfl)
    have ea := K5.ref_same hmg at_
    subst ea
    obtain ⟨fd, b, F⟩ := K5.law_told (P := (PySem.Challenge.rw_onewitness_k40_whole_counters_of_several).prog) X G c
    refine ⟨K, fd, K5.tf.map (He.cT K), K5.spLaw K (K5.tabsOf K), X, fun p hp => ?_, fun p hp => ?_, fun p hp => ?_, b, fun H a ns l hT hS => ⟨a, ns, rfl, hS, l, fun p hp => ?_, fun _ => rfl⟩, F⟩
    · obtain ⟨q, hq, rfl⟩ := List.mem_map.mp hp
      exact c.empty q hq
    · obtain ⟨q, hq, rfl⟩ := List.mem_map.mp hp
      exact c.out q hq
    · obtain ⟨q, hq, rfl⟩ := List.mem_map.mp hp
      exact PySem.W.codeHd_of_K X (c.hd q hq)
    · rewrite [List.mem_singleton.mp hp]
      exact LamX.TabS.nil (hT _ (List.mem_cons_self ..))
