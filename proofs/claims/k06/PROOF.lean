import PyProof.Rows.All
import Wide.All
import OpenK.AllK
import Wide.FinOn
import HandS.ForMost
import KE.GoesMore
import PyProof.EnumMake
import HandS.ForExc
import HandS.More
import HandS.Defaults
import HandS.IsInst
import HandS.TupAny
import HandS.TupMul
import HandS.Lambda
import HandS.ExcInit
import HandS.ExcField
import PyProof.ExcAttrAll.LookupError
import HandS.MakeKwOnly
import HandS.OwnEq
import HandS.ExcIs
import KE.KExcIs
import PyProof.NeKinds
import PyProof.EqKinds
import PyProof.StrOps2
import HandS.ExcCtx
import HandS.ExcInitHot
import HandS.HotCalls
import KE.KTryMore
import HandS.HeadHook4
import HandS.Flow
import HandS.MakeKw
import HandS.Zip
import HandS.SetFor
import PyProof.InstNe
import HandS.List
import HandS.SlotsOwn
import PyProof.TupleOfSeq
import HandS.ExcValue
import HandS.DictComp
import HandS.ListItems
import HandS.SetKeys
import HandS.Iter
import PyProof.Rows.RegStrFacts
import HandS.TryOnly
import HandS.Conv
import HandS.TupSets
import HandS.Strs
import PyProof.SumAny
import PyProof.TupleKey
import HandS.Dict
import PyProof.Rows.TupTab
import HandS.SortRule
import HandS.Style
import HandS.Head0
import HandS.Head1
import HandS.Head2
import HandS.HeadEnd
import HandS.HeadHook1
import HandS.HeadHook2
import HandS.HeadHook3
import HandS.EndTab
import HandS.HeadWalk
import KE.KStateDown
import PySem.Challenge.RW_onewitness_k06_whole_least_settlings
set_option Elab.async false
set_option linter.all false
set_option maxRecDepth 100000
set_option maxHeartbeats 0
/-! enumerate(t), t a tuple; for i, x in enumerate(xs), xs a list or a tuple. -/
namespace Kx
open PySem PySem.AutoSeq1
/-- the record of a new enumerate over the iterator at j -/
abbrev enumRec (j : Addr) : Obj := { cls := .type "enumerate", data := .fields #[.none, .bool false, .ref j, rawInt 0, .none, .none] }
abbrev tupIter (t : Addr) : Obj := { cls := .type "tuple_iterator", data := .fields #[.ref t, .int 0 0] }
theorem makes_enum (t : Addr) (o : Obj) (items : Array Value) (n : Nat) (hc : o.cls = .type "tuple") (hd : o.data = .seq items n) :
    Meets (Builtin.«enumerate.__new__» ⟨[.type "enumerate", .ref t], []⟩) (fun _ R s => s.heap.get? t = some o ∧
      R (.ok (.ret (.ref (s.heap.push (tupIter t)).objs.size))) { s with heap := (s.heap.push (tupIter t)).push (enumRec s.heap.objs.size) }) := by
  refine .of_wp fun prog w A R s hs => ?_
  obtain ⟨oc, od, odt, os⟩ := o
  have hc' : oc = .type "tuple" := hc
  have hd' : odt = .seq items n := hd
  subst hc' hd'
  obtain ⟨hp, gs, dr, tk, sy⟩ := s
  obtain ⟨ht, hR⟩ := hs
  have subE := sub_enumerate
  have isT : (Shared.heap ⟨hp, gs, dr, tk, sy⟩).IsTuple t items := ⟨_, ht, rfl, n, rfl⟩
  wp_walk using wpAny_loadPart' ht
  refine wpAny_stack_any fun _ => wpAny_pure ?_
  split
  case h_1 c _ _ _ _ _ =>
    cases hq : (c == Value.type "enumerate") <;> (wp_walk using wpAny_loadPart' ht, wpAny_pyIter_tuple isT; exact ⟨_, rfl, hR⟩)
  case h_2 => wp_walk using wpAny_loadPart' ht, wpAny_pyIter_tuple isT; exact ⟨_, rfl, hR⟩
theorem call_enum {prog : Program} {w : World} {A : Around} {E : Value → Shared → Prop} {s : Shared} {t : Addr} {items : Array Value} {Q : Value → Shared → Prop} (hT : s.heap.IsTuple t items)
    (hQ : ∀ g : Heap, IsEnum g (s.heap.objs.size + 1) s.heap.objs.size 0 .none → g.IsTupleIter s.heap.objs.size t 0 → (∀ b o, s.heap.get? b = some o → g.get? b = some o) → Q (.ref (s.heap.objs.size + 1)) { s with heap := g }) :
    wpAny (model prog w) A (call (.type "enumerate") [.ref t]) Q E s := by
  obtain ⟨o, ho, hc, len, hd⟩ := hT
  have two : (s.heap.push (tupIter t)).objs.size = s.heap.objs.size + 1 := Heap.size_push ..
  have atE : ((s.heap.push (tupIter t)).push (enumRec s.heap.objs.size)).get? (s.heap.objs.size + 1) = some (enumRec s.heap.objs.size) := by
    rw [← two]; exact Heap.get?_push_size _ rfl
  have old : ∀ b u, s.heap.get? b = some u → ((s.heap.push (tupIter t)).push (enumRec s.heap.objs.size)).get? b = some u := fun b u z => Heap.get?_push_of_some _ (Heap.get?_push_of_some _ z)
  have it : ((s.heap.push (tupIter t)).push (enumRec s.heap.objs.size)).IsTupleIter s.heap.objs.size t 0 := ⟨_, Heap.get?_push_of_some _ (Heap.get?_push_size _ rfl), rfl, rfl⟩
  refine callType_new F.called_enumerate (by decide) (F.typeCall_enumerate_1 _) (F.newCall_enumerate_1 _) (fun q => F.args_object_init_2 q _) F.entry_enumerate_new (makes_enum t o items len hc hd) ⟨ho, ?_⟩
  show _ ∧ _
  rw [two]
  exact ⟨⟨_, atE, rfl⟩, hQ _ atE it old⟩
end Kx
namespace Kx
open L2 PySem PySem.Spec PyProof.Rows
/-- item i of the tuple at a, with its number, in a new pair -/
def ItPair (K : PySem.W.Frag) (a : Addr) : It where
  go := fun i H => ∃ (xs : List V) (x : V), SqT K H a xs ∧ xs[i]? = some x
  yld := fun i H v H' => ∃ (p : Addr) (x : V), v = .ref p ∧ H p = none ∧ H' = upd H p (.tup [.int (i : Nat), x]) ∧ ∀ xs, SqT K H a xs → xs[i]? = some x
  stop := fun i H => ∃ xs : List V, SqT K H a xs ∧ xs.length ≤ i
theorem one_of {b e j : Addr} (h : b ∈ [e, j]) : b = e ∨ b = j := by simpa using h
theorem turn_pair {P : Program} {w : World} {K : PySem.W.Frag} {es : List Expr} {k0 : Nat} {tp : Pos} (a e j : Addr) (aj : a ≠ j) (ae : a ≠ e) :
    Turn P w K (.Tuple es k0 tp) (ItPair K a) [e, j] e (fun i h => (∃ z, IsEnum h e j ((i : Nat) : Int) z) ∧ h.IsTupleIter j a i ∧ e ≠ j) where
  mem := List.mem_cons_self
  obj := by
    rintro i h ⟨⟨z, hz⟩, ⟨o, ho, _, hd⟩, _⟩ b hb
    rcases one_of hb with q | q <;> rw [q]
    · exact ⟨_, hz, fun _ y => nomatch y⟩
    · exact ⟨o, ho, fun _ y => by rw [hd] at y; cases y⟩
  keep := by
    rintro i h h' ⟨⟨z, hz⟩, hj, ne⟩ k
    exact ⟨⟨z, k e List.mem_cons_self _ hz⟩, hj.at fun o y => k j (by simp) o y, ne⟩
  item := by
    rintro X rfl rfl rfl calm i pins s σ H E I far ⟨⟨z, hz⟩, hj, ne⟩ ⟨xs, x, hx, hi⟩
    obtain ⟨vs, rel, isT, _⟩ := I.tuple hx
    obtain ⟨v, hv, rv⟩ := rel.get hi
    have lt : i < vs.toArray.size := by simpa using (List.getElem?_eq_some_iff.mp hv).1
    have D := Draws.tuple (prog := X.prog) (w := X.w) (A := X.A.in1) (I.ok.hd calm) j a aj vs.toArray
    have e_out : e ∉ [j, a] := by
      simp only [List.mem_cons, List.not_mem_nil, or_false, not_or]
      exact ⟨ne, fun y => ae y.symm⟩
    refine wpAny_pyNext_enum_itemD D hz ⟨hj, isT⟩ lt ne e_out fun y g tk hy out hj' pair _ rest => ?_
    obtain rfl : y = v := by
      have : vs.toArray[i]? = some v := by simpa using hv
      exact Option.some.inj (hy.symm.trans this)
    refine ⟨_, rfl, wpAny_letOwnedTupleGo_enum (s := { s with heap := g, toks := tk + 1 }) out fun g' back but => ?_⟩
    have sz : e < s.heap.objs.size := Heap.lt_size hz
    have szj : j < s.heap.objs.size := let ⟨_, y, _⟩ := hj; Heap.lt_size y
    have pair' : g'.get? s.heap.objs.size = some { cls := .type "tuple", data := .seq #[.int i tk, y] } := (but.2 _ (Nat.ne_of_gt sz)).trans pair
    have laid : ObjOk X.prog X.w (upd H s.heap.objs.size (.tup [.int (i : Nat), x])) g' s.heap.objs.size (.tup [.int (i : Nat), x]) := ⟨(by decide : 2 ≤ sizeLine), [.int i tk, y], .cons ⟨tk, rfl⟩ (.cons rv .nil), _, pair', rfl, _, rfl⟩
    have kept : ∀ b o, b ∉ [e, j] → s.heap.get? b = some o → g'.get? b = some o := fun b o out y => by
      have n1 : b ≠ e := fun q => out (by rw [q]; exact List.mem_cons_self)
      have n2 : b ≠ j := fun q => out (by rw [q]; simp)
      exact (but.2 b n1).trans (rest b o n1 n2 y)
    have J := I.turnedNew (ch := [e, j]) kept far (Nat.le_refl _) laid (t' := tk + 1)
    have num : ((i + 1 : Nat) : Int) = (i : Int) + 1 := by omega
    refine ⟨.ref s.heap.objs.size, _, J, rfl, ⟨_, x, rfl, I.hok.fresh (Nat.le_refl _), rfl, fun ys hys => by rw [I.tuple_inj hys hx]; exact hi⟩, ⟨⟨y, by rw [num]; exact back⟩, hj'.1.at fun o q => (but.2 j ne.symm).trans q, ne⟩, fun b hb => ?_⟩
    have small : b < s.heap.objs.size := by
      rcases one_of hb with q | q <;> rw [q]
      · exact sz
      · exact szj
    rw [upd_ne (Nat.ne_of_lt small)]
    exact (far b hb).1
  done := by
    rintro X rfl rfl rfl calm i pins s σ H E I far ⟨⟨z, hz⟩, hj, ne⟩ ⟨xs, hx, hi⟩
    obtain ⟨vs, rel, isT, _⟩ := I.tuple hx
    obtain ⟨g0, g1, _, g3, g4, g5⟩ := far j (by simp)
    have none_ : vs.toArray[i]? = none := by
      have := rel.length
      simp
      omega
    unfold pyNext
    refine wpAny_bind (wpAny_attempt (wpAny_callSpecial?_slot (s := s) (name := Str.ofString "__next__") ⟨_, hz, rfl⟩ F.slot_enumerate_next (wpAny_call_entry F.slot_enumerate_next ⟨_, hz, rfl⟩ F.entry_enumerate_next ?_ (F.args_enumerate_next_1 _))))
    show wpAny _ _ (field (.ref e) 2 >>= _) _ _ s
    refine wpAny_bind (wpAny_field hz rfl (x := .ref j) rfl (wpAny_bind (wpAny_nextOf_tuple_end (I.ok.hd calm) hj isT none_ fun g x kept stop => ?_)))
    obtain ⟨o, ho, hc⟩ := stop
    exact wpAny_bind (wpAny_isInstance (T := "StopIteration") (b := true) ⟨o, ho, hc⟩ isSubtype_stop (wpAny_pure ⟨rfl, I.turned (t' := s.toks) (fun b o hb y => kept b o hb y) g0 g1 g3 g4 g5⟩))
  self := by
    rintro A i s Q E ⟨⟨z, hz⟩, _⟩ h
    exact wpAny_pyIter_enum hz h
/-- a list or a tuple -/
def Sq (K : PySem.W.Frag) (H : Hp) (a : Addr) (xs : List V) : Prop := SqL K H a xs ∨ SqT K H a xs
def iPairs (K : PySem.W.Frag) (ta : TA) : TI := fun σ H R => ta σ H fun vs H1 => ∃ (a : Addr) (xs : List V), vs = [.ref a] ∧ ((SqL K H1 a xs ∧ R (Ite K a) H1) ∨ (SqT K H1 a xs ∧ R (ItPair K a) H1))
theorem pi_pairs {X : Cx} {e : Expr} {ta : TA} {p pos tp : Pos} {es : List Expr} {k0 : Nat} (hg : Gl X "enumerate") (hm : X.mg "enumerate" = none) (ha : PA X [e] ta) (hs : starEach [e] X.env = [(false, eval e X.env)] := by rfl) :
    PI X (.Tuple es k0 tp) (.Call (.Name "enumerate" p) [e] [] pos) (iPairs X.K ta) := by
  refine ⟨fun pins s σ H R I h => Call_ (ld_blt I hg hm boot_enumerate (PyProof.Rows.callWith_type1 (thn (ha.run pos pins s σ H _ I h) fun us t ⟨vs, H1, J, rel, a, xs, ev, how⟩ => ?_) hs rfl))⟩
  subst ev
  obtain ⟨u, rfl, ru⟩ := vals1 rel
  obtain rfl := (show u = Value.ref a from ru)
  have far : ∀ b ∈ [t.heap.objs.size + 1, t.heap.objs.size], FpOk X pins H1 b := fun b hb => by
    have ge : t.heap.objs.size ≤ b := by
      rcases one_of hb with q | q <;> rw [q]
      · exact Nat.le_succ _
      · exact Nat.le_refl _
    exact J.fpOk ge (J.hok.fresh ge)
  rcases how with ⟨hx, q⟩ | ⟨hx, q⟩
  · obtain ⟨_, _, isL, _⟩ := J.list hx
    refine call_enumerate_list isL.isList fun g hz hj _ k => wpAny_pyIter_enum hz ?_
    exact ⟨_, _, _, _, H1, rfl, J.kept (t' := t.toks) k, turn_enum a _ _, ⟨⟨.none, hz⟩, hj, Nat.succ_ne_self _⟩, far, q⟩
  · obtain ⟨_, _, isT, _⟩ := J.tuple hx
    have lt := isT.lt
    refine call_enum isT fun g hz hj k => wpAny_pyIter_enum hz ?_
    exact ⟨_, _, _, _, H1, rfl, J.kept (t' := t.toks) k, turn_pair a _ _ (Nat.ne_of_lt lt) (Nat.ne_of_lt (Nat.lt_succ_of_lt lt)), ⟨⟨.none, hz⟩, hj, Nat.succ_ne_self _⟩, far, q⟩
end Kx
/-! A try with several clauses «except C as n»: each clause stores what was caught at its own place. -/
namespace Kx
open PySem PyProof.Rows L2 PySem.Spec

/-- an error that came down to this frame and whose flight is over; `old` is the state without it -/
structure Down (X : Cx) (pins : List (Addr × Obj)) (σ : L2.St) (H : Hp) (x : Addr) (cls : Value) (d : Option Addr) (G : Heap) (old now : Shared) : Prop where
  was : Inv X pins σ H old
  low : ∀ b o, old.heap.get? b = some o → b ∉ frs X.stack → G.get? b = some o
  up : old.heap.UpToSlots now.heap
  fly : HandSPX.FlyingZ G (X.env :: X.outer) x (Zc cls d) now.heap
  fresh : H x = none
  sys : now.os = old.os
  bare : AllBare now.gens
section
variable {X : Cx} {pins : List (Addr × Obj)} {σ : L2.St} {H : Hp} {x : Addr} {cls : Value} {d : Option Addr} {G : Heap} {old now : Shared}
theorem Down.inv (D : Down X pins σ H x cls d G old now) : Inv X pins σ H now := D.was.landed D.low D.fly.1 D.up D.sys D.bare
/-- the record, and that it is no frame -/
theorem Down.rec_ (D : Down X pins σ H x cls d G old now) (hf : X.env.frame = some X.env.locals) :
    ∃ (ob : Obj) (vs : Array Value), now.heap.get? x = some ob ∧ Zc cls d ob ∧ ob.data = .fields vs ∧ x ≠ X.env.locals ∧ x ∉ X.fs := by
  obtain ⟨ob, vs, h1, h2, h3⟩ := D.fly.there
  have out : x ∉ frs (X.env :: X.outer) := by
    intro hm
    obtain ⟨_, ob2, h4, h5⟩ := D.fly.2.2.1.mem hm
    rw [h1] at h4
    cases h4
    exact h5 _ h3
  refine ⟨ob, vs, h1, h2, h3, fun z => out ?_, fun hm => out ?_⟩
  · exact List.mem_filterMap.mpr ⟨_, List.mem_cons_self, by rw [hf, z]⟩
  · obtain ⟨e1, h6, h7⟩ := List.mem_filterMap.mp hm
    exact List.mem_filterMap.mpr ⟨e1, List.mem_cons_of_mem _ h6, h7⟩
/-- within a suite -/
theorem Down.held (D : Down X pins σ H x cls d G old now) (hf : X.env.frame = some X.env.locals) :
    ∃ ob : Obj, now.heap.get? x = some ob ∧ Zc cls d ob ∧ (∃ vs, ob.data = .fields vs) ∧ Inv (X.suite x ((x, ob) :: (X.pn ++ pins))) [] σ H now := by
  obtain ⟨ob, vs, h1, h2, h3, h4, h5⟩ := D.rec_ hf
  exact ⟨ob, h1, h2, ⟨vs, h3⟩, D.inv.suite h1 h3 D.fresh h4 h5⟩
/-- no clause takes it: it goes on -/
theorem Down.goes {pos : Pos} {E : Ends} {W : WX} (D : Down X pins σ H x cls d G old now) (hs : X.stack = X.env :: X.outer) (hf : X.env.frame = some X.env.locals) (tk : Takes X W) (hw : W cls d σ H) :
    wpAny (model X.prog X.w) X.A (handleBy (.ref x) X.env []) (SP X pins E) X.xe now := by
  obtain ⟨_, _, _, ob, vs, T, _, _, h1, _, h3, h4, _⟩ := D.fly
  have away : wpAny (model X.prog X.w) X.A (setFlight (.ref x) X.env.frame) (fun _ s => wpAny (model X.prog X.w) X.A (throw (.ref x) : Sem Flow) (SP X pins E) X.xe s) X.xe now := by
    rw [hf]
    refine HandSPX.setFlight_upZ D.fly fun h' held up' => wpAny_throw (tk _ _ ⟨x, G, old, pins, σ, H, cls, d, rfl, D.was, D.low, D.up.trans up', ?_, D.fresh, D.sys, D.bare, hw⟩)
    rw [hs]
    exact .inr (.inr held)
  refine wpAny_handleBy_nil (wpAny_bind (wpAny_field h1 h3 h4 ?_))
  have some_ : ¬ ((Value.ref T == Value.none) = true) := by simp
  rw [if_neg some_]
  first
    | exact wpAny_bind away
    | exact wpAny_bind (wpAny_pure (wpAny_bind away))
end
/-- one clause: the class it names, the place of its name, its suite's reading -/
abbrev Clause : Type := Value × Nat × (Addr → Value → Option Addr → TS)
/-- behind a suite the name at i is gone -/
def bare (E : Ends) (i : Nat) : Ends where
  nx := fun σ H => E.nx (σ.set i none) H
  rt := E.rt
  bk := fun σ H => E.bk (σ.set i none) H
  ct := fun σ H => E.ct (σ.set i none) H
/-- what is asked of an error that the body lets out -/
def asks (K : PySem.W.Frag) (W : WX) (E : Ends) : List Clause → WX
  | [] => W
  | k :: r => fun cls d σ H => ∃ y, PySem.W.exmOne K cls k.1 = some y ∧ (y = true → ∀ x, H x = none → k.2.2 x cls d (bare E k.2.1) (σ.set k.2.1 (some (.ref x))) H) ∧ (y = false → asks K W E r cls d σ H)
inductive Clauses (X : Cx) : List ExceptHandler → List Clause → Prop
  | nil : Clauses X [] []
  | cons {nm n : Str} {i : Nat} {c : Value} {t : Addr → Value → Option Addr → TS} {st : Stmt} {more : List Stmt} {p1 p2 : Pos} {hs : List ExceptHandler} {ks : List Clause} (nd : X.N.Nodup) (at_ : X.N[i]? = some n) (loc : X.env.kindOf n = some .local) (cl : Names X nm c)
      (su : ∀ (x : Addr) (ob : Obj) (cls : Value) (d : Option Addr) (pn : List (Addr × Obj)), Zc cls d ob → (∃ vs, ob.data = .fields vs) → PSs (X.suite x ((x, ob) :: pn)) (st :: more) (t x cls d)) (rest : Clauses X hs ks) :
      Clauses X (.ExceptHandler (some (.Name nm p1)) (some n) (st :: more) p2 :: hs) ((c, i, t) :: ks)
section
variable {X : Cx} {pins : List (Addr × Obj)} {σ : L2.St} {H : Hp} {x : Addr} {cls : Value} {d : Option Addr} {G : Heap} {old now : Shared} {E : Ends} {W : WX}
theorem name_there {nm : Str} {c : Value} {p1 : Pos} {ob : Obj} {Q E' : Value → Shared → Prop} (cl : Names X nm c) (J : Inv (X.suite x ((x, ob) :: (X.pn ++ pins))) [] σ H now) (q : Q c now) :
    wpAny (model X.prog X.w) (X.A.mark (some (.ref x))) (eval (.Name nm p1) X.env) Q E' now := by
  obtain ⟨g, db, m | ⟨m, b, nn⟩⟩ := cl
  · exact ld_glob J g m q db
  · exact ld_blt J g m b q nn db
theorem Down.clauses (D : Down X pins σ H x cls d G old now) (hs : X.stack = X.env :: X.outer) (hf : X.env.frame = some X.env.locals) (tk : Takes X W) {hds : List ExceptHandler} {ks : List Clause} (C : Clauses X hds ks) (w : asks X.K W E ks cls d σ H) :
    wpAny (model X.prog X.w) X.A (handleBy (.ref x) X.env hds) (SP X pins E) X.xe now := by
  induction C with
  | nil => exact D.goes (pos := ⟨0, 0, 0, 0⟩) hs hf tk w
  | @cons nm n i c t st more p1 p2 hs' ks' nd at_ loc cl su rest ih =>
    obtain ⟨y, hy, yes, no⟩ := w
    obtain ⟨ob, h1, h2, h3, J⟩ := D.held hf
    refine wpAny_handleBy_cons (codeAny_handlers_test (name_there cl J ?_)) (fun z => nomatch z)
    have ty : PySem.W.Looks (model X.prog X.w) now.heap (typeOf (.ref x)) cls := fun _ _ _ _ k q => wpAny_typeOf_ref (k _ _ h1) (by rw [h2.1]; exact q)
    refine (PySem.W.exm_one D.inv.kIn ty hy).here ?_
    cases y with
    | false => exact ih (no rfl)
    | true =>
      refine codeAny_handlers_suite_as (HandSPX.lands_againZ D.fly fun h' fl up' => ?_)
      have D' : Down X pins σ H x cls d G old { now with heap := h' } := ⟨D.was, D.low, D.up.trans up', fl, D.fresh, D.sys, D.bare⟩
      obtain ⟨ob', _, g2, g3, J'⟩ := D'.held hf
      refine store_ok (X := X.suite x ((x, ob') :: (X.pn ++ pins))) (v := .ref x) J' nd at_ (.inl loc) rfl (fun s2 J2 => ?_) (.inr loc)
      refine wpAny_mono ((su x ob' cls d (X.pn ++ pins) g2 g3).run [] s2 _ H _ J2 (yes rfl x D.fresh)) (fun f s3 hf3 => ?_) (fun _ _ z => z.elim)
      have gone : ∀ {σ3 : L2.St} {H3 : Hp} {R : Shared → Prop}, Inv (X.suite x ((x, ob') :: (X.pn ++ pins))) [] σ3 H3 s3 → (∀ s4, Inv X pins (σ3.set i none) H3 s4 → R s4) →
          wpAny (model X.prog X.w) X.A (do bindName X.env n .none; unbindBehindTheSuite X.env n p2) (fun _ s4 => R s4) X.xe s3 := fun J3 q => gone_ok (J3.unsuite D.was.ok) nd at_ loc q
      match f, hf3 with
      | .next, ⟨_, _, J3, q⟩ => exact gone J3 fun _ J4 => ⟨_, _, J4, q⟩
      | .brk, ⟨_, _, J3, q⟩ => exact gone J3 fun _ J4 => ⟨_, _, J4, q⟩
      | .cont, ⟨_, _, J3, q⟩ => exact gone J3 fun _ J4 => ⟨_, _, J4, q⟩
      | .ret _, ⟨_, _, _, J3, r, q⟩ => exact gone J3 fun _ J4 => ⟨_, _, _, J4, r, q⟩
end
/-- try: body / except C as n: .. / except D as m: .. -/
theorem ps_tries {X : Cx} {body : List Stmt} {hd : ExceptHandler} {hds : List ExceptHandler} {ks : List Clause} {pos : Pos} {tb : WX → TS} {W : WX} (hs : X.stack = X.env :: X.outer) (hf : X.env.frame = some X.env.locals) (tk : Takes X W)
    (hb : ∀ (U : WX) (pn : List (Addr × Obj)) (xe : Value → Shared → Prop), Takes (X.tr pn xe) U → PassesOwn (model X.prog X.w) X.A X.env xe → PSs (X.tr pn xe) body (tb U)) (C : Clauses X (hd :: hds) ks) :
    PS X (.Try body (hd :: hds) [] [] pos) (fun E σ H => tb (asks X.K W E ks) E σ H) := by
  refine ⟨fun pins s σ H E I h => wpAny_Try_except ?_⟩
  have top : X.A.frames = some (X.env :: X.outer) := by rw [I.ok.frames, hs]
  have inner := hb (asks X.K W E ks) (X.pn ++ pins) (fun e s1 => wpAny (model X.prog X.w) X.A (noteFrame e X.env) (fun _ s2 => wpAny (model X.prog X.w) X.A (setFlight e none)
    (fun _ s3 => wpAny (model X.prog X.w) X.A (handleBy e X.env (hd :: hds)) (SP X pins E) X.xe s3) X.xe s2) X.xe s1) ?_ PassesOwn.looking
  · refine wpAny_mono (inner.run [] s σ H E (I.toTry _) h) (fun f s1 q => ?_) (fun _ _ z => z)
    match f, q with
    | .next, ⟨_, _, J, q⟩ => exact wpAny_execs_nil ⟨_, _, J.ofTry I.ok, q⟩
    | .brk, ⟨_, _, J, q⟩ => exact ⟨_, _, J.ofTry I.ok, q⟩
    | .cont, ⟨_, _, J, q⟩ => exact ⟨_, _, J.ofTry I.ok, q⟩
    | .ret _, ⟨_, _, _, J, r, q⟩ => exact ⟨_, _, _, J.ofTry I.ok, r, q⟩
  · rintro u s1 ⟨x, G, old, _, σ1, H1, cls, d, rfl, J, low, up, sky, fr, sys, bare, w⟩
    rw [show (X.tr (X.pn ++ pins) _).stack = X.env :: X.outer from hs] at sky
    refine Sky.land Zc.steady top hf sky fun h' fl up' => ?_
    exact Down.clauses (now := { s1 with heap := h' }) ⟨J.ofTry I.ok, low, up.trans up', fl, fr, sys, bare⟩ hs hf tk C w
end Kx
/-! Sequences, values of any known kind, calls by a bundle of facts. -/
namespace Kx
open L2 PySem PySem.Spec PyProof.Rows
section
variable {K : PySem.W.Frag} {H H' : Hp} {a b : Addr} {xs ys : List V} {o : HO}
theorem rd_same (e : Same H H') {u : HO} (h : Rd H a u) : Rd H' a u := h.elim (fun q => .inl (e _ _ q)) fun ⟨z, q⟩ => .inr ⟨z, e _ _ q⟩
theorem sqL_same (e : Same H H') (h : SqL K H a xs) : SqL K H' a xs := h.elim (fun q => .inl (rd_same e q)) .inr
theorem sqT_same (e : Same H H') (h : SqT K H a xs) : SqT K H' a xs := h.elim (fun q => .inl (rd_same e q)) .inr
theorem Sq.same (e : Same H H') (h : Sq K H a xs) : Sq K H' a xs := h.elim (fun q => .inl (sqL_same e q)) fun q => .inr (sqT_same e q)
theorem rd_upd (ne : a ≠ b) {u : HO} (h : Rd H a u) : Rd (upd H b o) a u := h.elim (fun q => .inl (by rw [upd_ne ne]; exact q)) fun ⟨z, q⟩ => .inr ⟨z, by rw [upd_ne ne]; exact q⟩
theorem sqL_upd (ne : a ≠ b) (h : SqL K H a xs) : SqL K (upd H b o) a xs := h.elim (fun q => .inl (rd_upd ne q)) .inr
theorem sqT_upd (ne : a ≠ b) (h : SqT K H a xs) : SqT K (upd H b o) a xs := h.elim (fun q => .inl (rd_upd ne q)) .inr
theorem Sq.upd (ne : a ≠ b) (h : Sq K H a xs) : Sq K (L2.upd H b o) a xs := h.elim (fun q => .inl (sqL_upd ne q)) fun q => .inr (sqT_upd ne q)
theorem same_new (h : H b = none) : Same H (upd H b o) := fun c u q => by
  rw [upd_ne (ne_of_none q h)]
  exact q
end
/-! ### loops over a list or a tuple -/
/-- the end of a loop's word: W by a word of the turn -/
theorem for_by {J : It} {n : Nat} {g : TG} {tb : TS} {D : Ends} {σ : L2.St} {H : Hp} (Pv : Nat → L2.St → Hp → Prop) (h0 : Pv 0 σ H)
    (go : ∀ i σ H, i < n → Pv i σ H → J.go i H ∧ ∀ x H', J.yld i H x H' → g x σ H' fun σ2 H2 => tb { D with nx := Pv (i + 1), ct := Pv (i + 1), bk := D.nx } σ2 H2)
    (stop : ∀ σ H, Pv n σ H → J.stop n H ∧ D.nx σ H) :
    ∃ W : Nat → Nat → L2.St → Hp → Prop, (∃ m, W 0 m σ H) ∧ ∀ i m σ H, W i m σ H → (J.stop i H ∧ D.nx σ H) ∨ (J.go i H ∧ ∃ N : L2.St → Hp → Prop, (∀ σ' H', N σ' H' → ∃ m', m' < m ∧ W (i + 1) m' σ' H') ∧ ∀ x H', J.yld i H x H' → g x σ H' fun σ2 H2 => tb { D with nx := N, ct := N, bk := D.nx } σ2 H2) := by
  refine ⟨fun i m σ H => m = n - i ∧ i ≤ n ∧ Pv i σ H, ⟨n, rfl, Nat.zero_le n, h0⟩, ?_⟩
  rintro i m σ H ⟨rfl, le, p⟩
  rcases Nat.lt_or_eq_of_le le with lt | rfl
  · obtain ⟨g1, g2⟩ := go i σ H lt p
    exact .inr ⟨g1, Pv (i + 1), fun σ' H' p' => ⟨n - (i + 1), by omega, rfl, lt, p'⟩, g2⟩
  · exact .inl (stop σ H p)
abbrev forR (g : TG) (tb : TS) (D : Ends) (σ : L2.St) : It → Hp → Prop := fun J H => ∃ W : Nat → Nat → L2.St → Hp → Prop, (∃ m, W 0 m σ H) ∧ ∀ i m σ H, W i m σ H →
  (J.stop i H ∧ D.nx σ H) ∨ (J.go i H ∧ ∃ N : L2.St → Hp → Prop, (∀ σ' H', N σ' H' → ∃ m', m' < m ∧ W (i + 1) m' σ' H') ∧ ∀ x H', J.yld i H x H' → g x σ H' fun σ2 H2 => tb { D with nx := N, ct := N, bk := D.nx } σ2 H2)
/-- for i, x in enumerate(xs) -/
theorem for_pairs {K : PySem.W.Frag} {a : Addr} {xs : List V} {g : TG} {tb : TS} {D : Ends} {σ : L2.St} {H : Hp} (hx : Sq K H a xs) (Pv : Nat → L2.St → Hp → Prop) (h0 : Pv 0 σ H) (hs : ∀ i σ' H', Pv i σ' H' → Same H H')
    (turn : ∀ (i : Nat) (x : V) (p : Addr) σ' H', xs[i]? = some x → Pv i σ' H' → H' p = none → g (.ref p) σ' (upd H' p (.tup [.int (i : Int), x])) fun σ2 H2 => tb { D with nx := Pv (i + 1), ct := Pv (i + 1), bk := D.nx } σ2 H2)
    (hd : ∀ σ' H', Pv xs.length σ' H' → D.nx σ' H') : (SqL K H a xs ∧ forR g tb D σ (Ite K a) H) ∨ (SqT K H a xs ∧ forR g tb D σ (ItPair K a) H) := by
  refine hx.imp (fun q => ⟨q, for_by (n := xs.length) Pv h0 ?_ ?_⟩) fun q => ⟨q, for_by (n := xs.length) Pv h0 ?_ ?_⟩
  · intro i σ' H' lt p
    have q' := sqL_same (hs i σ' H' p) q
    refine ⟨⟨xs, xs[i], q', List.getElem?_eq_getElem lt⟩, ?_⟩
    rintro v H2 ⟨pr, x, rfl, hn, rfl, hx⟩
    exact turn i x pr σ' H' (hx xs q') p hn
  · exact fun σ' H' p => ⟨⟨xs, sqL_same (hs _ σ' H' p) q, Nat.le_refl _⟩, hd σ' H' p⟩
  · intro i σ' H' lt p
    have q' := sqT_same (hs i σ' H' p) q
    refine ⟨⟨xs, xs[i], q', List.getElem?_eq_getElem lt⟩, ?_⟩
    rintro v H2 ⟨pr, x, rfl, hn, rfl, hx⟩
    exact turn i x pr σ' H' (hx xs q') p hn
  · exact fun σ' H' p => ⟨⟨xs, sqT_same (hs _ σ' H' p) q, Nat.le_refl _⟩, hd σ' H' p⟩
/-- for x in xs, xs a list or a tuple -/
def iAny (K : PySem.W.Frag) (tl : TE) : TI := fun σ H R => tl σ H fun x H1 => ∃ (a : Addr) (xs : List V), x = .ref a ∧ ((SqL K H1 a xs ∧ R (Itl K a) H1) ∨ (SqT K H1 a xs ∧ R (Itt K a) H1))
theorem pi_any {X : Cx} {tg e : Expr} {te : TE} (he : PE X e te) : PI X tg e (iAny X.K te) := by
  refine ⟨fun pins s σ H R I h => thn (he.run pins s σ H _ I h) fun u t ⟨x, H1, J, rx, a, xs, ex, how⟩ => ?_⟩
  subst ex
  obtain rfl := (show u = Value.ref a from rx)
  have far : ∀ b ∈ [t.heap.objs.size], FpOk X pins H1 b := fun b hb => by
    obtain rfl := (show b = t.heap.objs.size by simpa using hb)
    exact J.fpOk (Nat.le_refl _) (J.hok.fresh (Nat.le_refl _))
  have kept : ∀ (o : Obj) (b : Addr) (v : Obj), t.heap.get? b = some v → (t.heap.push o).get? b = some v := fun o b v z => Heap.get?_push_of_some _ z
  have new : ∀ (o : Obj), o.isFreed = false → (t.heap.push o).get? t.heap.objs.size = some o := fun o z => Heap.get?_push_size _ z
  rcases how with ⟨hx, q⟩ | ⟨hx, q⟩
  · obtain ⟨_, _, isL, _⟩ := J.list hx
    exact wpAny_pyIter_list isL.isList ⟨_, _, _, _, H1, rfl, J.kept (t' := t.toks) (kept _), turn_list a _, ⟨_, new _ rfl, rfl, rfl⟩, far, q⟩
  · obtain ⟨_, vs, isT, _⟩ := J.tuple hx
    exact wpAny_pyIter_tuple isT ⟨_, _, _, _, H1, rfl, J.kept (t' := t.toks) (kept _), turn_tuple a _, ⟨_, new _ rfl, rfl, rfl⟩, far, q⟩
theorem for_any {K : PySem.W.Frag} {a : Addr} {xs : List V} {g : TG} {tb : TS} {D : Ends} {σ : L2.St} {H : Hp} (hx : Sq K H a xs) (Pv : Nat → L2.St → Hp → Prop) (h0 : Pv 0 σ H)
    (hl : ∀ i σ' H', Pv i σ' H' → SqL K H a xs → SqL K H' a xs) (ht : ∀ i σ' H', Pv i σ' H' → SqT K H a xs → SqT K H' a xs)
    (turn : ∀ (i : Nat) (x : V) σ' H', xs[i]? = some x → Pv i σ' H' → g x σ' H' fun σ2 H2 => tb { D with nx := Pv (i + 1), ct := Pv (i + 1), bk := D.nx } σ2 H2)
    (hd : ∀ σ' H', Pv xs.length σ' H' → D.nx σ' H') : (SqL K H a xs ∧ forR g tb D σ (Itl K a) H) ∨ (SqT K H a xs ∧ forR g tb D σ (Itt K a) H) := by
  refine hx.imp (fun q => ⟨q, for_by (n := xs.length) Pv h0 ?_ ?_⟩) fun q => ⟨q, for_by (n := xs.length) Pv h0 ?_ ?_⟩
  · intro i σ' H' lt p
    have q' := hl i σ' H' p q
    refine ⟨⟨xs, xs[i], q', List.getElem?_eq_getElem lt⟩, ?_⟩
    rintro v H2 ⟨rfl, hv⟩
    exact turn i v σ' _ (hv xs q') p
  · exact fun σ' H' p => ⟨⟨xs, hl _ σ' H' p q, Nat.le_refl _⟩, hd σ' H' p⟩
  · intro i σ' H' lt p
    have q' := ht i σ' H' p q
    refine ⟨⟨xs, xs[i], q', List.getElem?_eq_getElem lt⟩, ?_⟩
    rintro v H2 ⟨rfl, hv⟩
    exact turn i v σ' _ (hv xs q') p
  · exact fun σ' H' p => ⟨⟨xs, ht _ σ' H' p q, Nat.le_refl _⟩, hd σ' H' p⟩
/-! ### values of a known kind -/
/-- v is no object, or a list, or a tuple -/
inductive Kn (K : PySem.W.Frag) (H : Hp) : V → Prop
  | non : Kn K H .non
  | bl (b : Bool) : Kn K H (.bl b)
  | int (i : Int) : Kn K H (.int i)
  | str (x : Str) : Kn K H (.str x)
  | seq {a : Addr} {xs : List V} (h : Sq K H a xs) : Kn K H (.ref a)
theorem Kn.same {K : PySem.W.Frag} {H H' : Hp} {v : V} (e : Same H H') (h : Kn K H v) : Kn K H' v := by
  cases h with
  | non => exact .non
  | bl b => exact .bl b
  | int i => exact .int i
  | str x => exact .str x
  | seq q => exact .seq (q.same e)
theorem tyx_list {K : PySem.W.Frag} {H : Hp} {a : Addr} {xs : List V} (h : SqL K H a xs) : TyX K H (.ref a) (.type "list") := by
  rcases h with (q | ⟨o, q⟩) | q
  · exact .base (.lst q)
  · exact .base (.frz q)
  · obtain ⟨_, _, _, q, r, _⟩ := q
    exact .kList q r
theorem tyx_tuple {K : PySem.W.Frag} {H : Hp} {a : Addr} {xs : List V} (h : SqT K H a xs) : TyX K H (.ref a) (.type "tuple") := by
  rcases h with (q | ⟨o, q⟩) | q
  · exact .base (.tup q)
  · exact .fTuple q
  · obtain ⟨_, _, _, q, r, _⟩ := q
    exact .kTuple q r
/-! ### a def that is known: its name, where it stands, what it takes, what it promises -/
structure Cal (P : Program) (w : World) (K : PySem.W.Frag) (mg : Str → Option Value) (base : Heap) (CX : CXT) (k : Nat) (x : Str) (ps : List Str) (sp : Sp) : Prop where
  ex : ∃ (f : Addr) (fd : FuncData), mg x = some (.ref f) ∧ PySem.W.keepIn K (.ref f) = true ∧ Binds K fd ps [] ∧ FnOk P w K mg base CX k f fd ps sp
section
variable {X : Cx} {CX : CXT} {k j : Nat} {x : Str} {ps : List Str} {sp : Sp} {e : Expr} {es : List Expr} {t : TA} {E : XK} {p pos : Pos}
theorem pe_callC (c : Cal X.prog X.w X.K X.mg X.base CX k x ps sp) (hr : Room j X.A) (hx : Passes CX X E) (ha : PA X (e :: es) t) (hk : k ≤ j := by decide) (hg : Gl X x := by rfl) (hdb : (x == ("__debug__" : Str)) = false := by decide)
    (he : starEach (e :: es) X.env = (false, eval e X.env) :: starEach es X.env := by rfl) (hpl : (backTo pos (starEach es X.env)).any (·.1) = false := by rfl) : PE X (.Call (.Name x p) (e :: es) [] pos) (tCall sp [] E t) := by
  obtain ⟨f, fd, h1, h2, h3, h4⟩ := c.ex
  exact pe_call h4 (hr.mono hk) hg h1 h2 h3 .nil hx ha hdb he hpl
end
end Kx
/-! defs that show a container as a text: their promise holds where no built-in that guards itself runs around. repr of data. -/
namespace Kx
open L2 PySem PySem.Spec PyProof.Rows
/-- nothing that guards itself runs around -/
abbrev Lone (A : Around) : Prop := A.guards = some []
structure FnG (P : Program) (w : World) (K : PySem.W.Frag) (mg : Str → Option Value) (base : Heap) (CX : CXT) (k : Nat) (f : Addr) (fd : FuncData) (ps : List Str) (sp : Sp) : Prop where
  len : ∀ vs H Q E, sp vs H Q E → List.length vs = ps.length
  run : ∀ (A : Around) (outer : List Env) (s : Shared) (H : Hp) (args : Args) (us : List Value) (vs : List V) (Q : VK) (E : XK), Room k A → Lone A → Env0 P w K mg base A outer s H → BindsTo s fd args (ps.zip us) → Vals vs us → sp vs H Q E → codeAny (model P w) A (.call (.ref f) args) (CR CX outer P w H s Q E) s
theorem FnG.of {P : Program} {w : World} {K : PySem.W.Frag} {mg : Str → Option Value} {base : Heap} {CX : CXT} {k : Nat} {f : Addr} {fd : FuncData} {ps : List Str} {sp : Sp} (F : FnOk P w K mg base CX k f fd ps sp) : FnG P w K mg base CX k f fd ps sp :=
  ⟨F.len, fun A outer s H args us vs Q E hr _ he hb hv hs => F.run A outer s H args us vs Q E hr he hb hv hs⟩
section
variable {P : Program} {w : World} {K : PySem.W.Frag} {mg : Str → Option Value} {base : Heap} {f : Addr} {fd : FuncData} {x qual : Str} {params : Arguments} {body : List Stmt} {scope : Scope} {dvs : List V} {kws : List (Str × V)}
/-- a def's body: what stands around is alone -/
theorem okG {CX : CXT} {N ps : List Str} {k : Nat} {sp : Sp} (F : FunD K x qual params body scope dvs kws f fd) (S : FnScope N ps scope) (len : ∀ vs H Q E, sp vs H Q E → vs.length = ps.length)
    (hbody : ∀ (cdv : Value) (A : Around) (outer : List Env) (s : Shared) (H : Hp) (vs : List V) (Q : VK) (E : XK), Lone A → PySem.W.codeIn K cdv qual = true → Room k (A.deeper (envOfC qual scope s.heap.objs.size f cdv)) → sp vs H Q E →
      ∃ t, PSs (cxOf CX P w K mg base N qual scope f cdv A outer s H E) body t ∧ t { nx := fun _ H' => Q .non H', rt := Q } (start N vs) H) : FnG P w K mg base CX (k + 1) f fd ps sp := by
  obtain ⟨oc, od, dV, kV, doc, pm, an, cdv, ct, osl, rfl, lk, hcd, -, -⟩ := F.ex
  exact ⟨len, fun A outer s H args us vs Q E hr lone e0 hb hv hs => LamX.run_ofS lk hcd S hr e0 hb hv (len _ _ _ _ hs) fun hr' => hbody cdv A outer s H vs Q E lone hcd hr' hs⟩
end
structure CalG (P : Program) (w : World) (K : PySem.W.Frag) (mg : Str → Option Value) (base : Heap) (CX : CXT) (k : Nat) (x : Str) (ps : List Str) (sp : Sp) : Prop where
  ex : ∃ (f : Addr) (fd : FuncData), mg x = some (.ref f) ∧ PySem.W.keepIn K (.ref f) = true ∧ Binds K fd ps [] ∧ FnG P w K mg base CX k f fd ps sp
section
variable {X : Cx} {CX : CXT} {k j : Nat} {x : Str} {ps : List Str} {sp : Sp} {e : Expr} {es : List Expr} {t : TA} {E : XK} {p pos : Pos}
theorem pe_callG (c : CalG X.prog X.w X.K X.mg X.base CX k x ps sp) (hr : Room j X.A) (lone : Lone X.A) (hx : Passes CX X E) (ha : PA X (e :: es) t) (hk : k ≤ j := by decide) (hg : Gl X x := by rfl) (hdb : (x == ("__debug__" : Str)) = false := by decide)
    (he : starEach (e :: es) X.env = (false, eval e X.env) :: starEach es X.env := by rfl) (hnp : (backTo pos (starEach es X.env)).any (·.1) = false := by rfl) :
    PE X (.Call (.Name x p) (e :: es) [] pos) (tCall sp [] E t) := by
  obtain ⟨f, fd, at_, keep, binds, F⟩ := c.ex
  refine ⟨fun pins s σ H Q I h => wpAny_Call_Name_kw (ld_glob I hg at_ ?_ hdb)⟩
  refine PySem.W.callWith_K (h₀ := X.base) I.ok.mod.kin keep (thn (ha.run pos pins s σ H _ I h) fun us s1 ⟨vs, H1, J, rel, q⟩ => ⟨J.kIn, ?_⟩) he hnp
  have q : sp (vs ++ []) H1 Q E := q
  rw [List.append_nil] at q
  have n : (us ++ []).length = ps.length := by
    rw [List.append_nil, ← rel.length]
    exact F.len _ _ _ _ q
  have b := binds s1 us J.kIn n
  rw [List.append_nil] at b
  refine wpAny_call (codeAny_mono (F.run X.A X.stack s1 H1 ⟨us, []⟩ us vs Q E (hr.mono hk) lone J.env0 b rel q) fun r s2 z => ?_)
  match r, z with
  | .error _, z => exact hx pins σ H1 s1 _ s2 J z
  | .ok (.ret _), z => exact J.after z
  | .ok .next, z => exact z.elim
  | .ok .brk, z => exact z.elim
  | .ok .cont, z => exact z.elim
end
/-! ### repr of data -/
/-- the text that shows v -/
def rShow (K : PySem.W.Frag) : List V → Hp → VK → Prop := fun vs H Q => ∃ (v : V) (d : PyData), vs = [v] ∧ Dp K H v d ∧ d.showable = true ∧ d.hasDict = false ∧ d.depth ≤ 60 ∧ d.shown.length ≤ sizeLine ∧ Q (.str d.shown) H
theorem call_show {X : Cx} (lone : Lone X.A) (hu : X.A.units + 64 < cLine) : CallR X (.builtin "repr") (rShow X.K) := by
  intro pins s σ H vs us Q I rel h
  obtain ⟨v, d, rfl, data, sh, nd, dep, fit, q⟩ := h
  obtain ⟨u, rfl, ru⟩ := vals1 rel
  obtain ⟨as, reads⟩ := Dp.reads I d v u data ru
  have fin : ∀ (h' : Heap) (z : Tok) (tk : Nat), (∀ b o, s.heap.get? b = some o → h'.get? b = some o) → EP X pins σ Q (.str d.shown z) { s with heap := h', toks := tk } := fun h' z tk keep => ⟨.str d.shown, H, I.kept keep, ⟨z, rfl⟩, q⟩
  cases data with
  | lst hs ha =>
    cases (show u = Value.ref _ from ru)
    exact repr_of_reads' reads sh (PyData.noDict_hsm nd) lone (by omega) (fun _ _ z => z) fin fit
  | tup hs ha =>
    cases (show u = Value.ref _ from ru)
    exact repr_of_reads' reads sh (PyData.noDict_hsm nd) lone (by omega) (fun _ _ z => z) fin fit
  | non =>
    cases (show u = Value.none from ru)
    exact PySem.P.repr_of_none (fin s.heap _ _ fun _ _ z => z)
  | bl b =>
    cases (show u = Value.bool b from ru)
    exact PySem.P.repr_of_bool (fin s.heap _ _ fun _ _ z => z)
  | int i =>
    obtain ⟨z, rfl⟩ := (show ∃ z, u = Value.int i z from ru)
    exact PySem.P.repr_of_int (of_decide_eq_true sh) (fin s.heap _ _ fun _ _ z => z)
  | str y =>
    obtain ⟨z, rfl⟩ := (show ∃ z, u = Value.str y z from ru)
    exact PySem.P.repr_of_str (fin s.heap _ _ fun _ _ z => z) fit
end Kx
/-! own errors of one field, over an own base over ValueError: «self.f = f» alone. -/
namespace Kx
open L2 PySem PySem.Spec PyProof.Rows
/-- __init__ keeps the one thing in f -/
def spKeep (K : PySem.W.Frag) (C : Addr) (f : Str) : Sp := fun vs H Q _ => ∃ (a : Addr) (v : V), vs = [.ref a, v] ∧ H a = some (exo a C none) ∧
  ∀ dx, H dx = none → dx ≠ a → Q .non (upd (upd H dx (exd dx [(f, v)])) a (exo a C (some dx)))
/-- what the module holds of such a class: at C, its __init__ at fI -/
structure ErrC (P : Program) (w : World) (K : PySem.W.Frag) (mg : Str → Option Value) (base : Heap) (k : Nat) (x f : Str) (C : Addr) : Prop where
  at_ : mg x = some (.ref C)
  cls : OexC K C
  no : PySem.W.findIn K (.ref C) f = some none
  ini : ∃ (fI : Addr) (fd : FuncData), PySem.W.findIn K (.ref C) "__init__" = some (some (.ref fI)) ∧ PySem.W.typeIn K (.ref fI) = some (.type "function") ∧ Binds K fd ["self", f] [] ∧ FnOk P w K mg base CX0 k fI fd ["self", f] (spKeep K C f)
theorem heap_made {fs : List (Str × V)} {H : Hp} {a d : Addr} {u v z : HO} (ha : H a = none) (hne : d ≠ a) : upd (del (upd (upd (upd H a u) d v) a z) a) d (.xd fs) = upd H d (.xd fs) := by
  funext b
  by_cases e1 : b = d
  · rw [e1, upd_same, upd_same]
  · rw [upd_ne e1, upd_ne e1]
    by_cases e2 : b = a
    · rw [e2, del_same, ha]
    · rw [del_ne e2, upd_ne e2, upd_ne e1, upd_ne e2]
/-- raise C(e): what is asked behind e -/
theorem thrown {K : PySem.W.Frag} {C : Addr} {f : Str} {v : V} {H : Hp} {R : XK} (h : ∀ d, H d = none → R (.ref C) (some d) (upd H d (.xd [(f, v)]))) :
    [v].length ≤ 1000 ∧ ∀ a, H a = none → spKeep K C f (.ref a :: ([v] ++ [])) (upd H a (exo a C none))
      (fun y H2 => y = .non ∧ ∃ (d : Addr) (fs : List (Str × V)), H2 a = some (exo a C (some d)) ∧ H2 d = some (exd d fs) ∧ H d = none ∧ R (.ref C) (some d) (upd (del H2 a) d (.xd fs))) (fun _ _ _ => False) := by
  refine ⟨Nat.succ_le_of_lt (by simp), fun a ha => ⟨a, v, rfl, upd_same, fun d hd ne => ⟨rfl, d, [(f, v)], upd_same, ?_, ?_, ?_⟩⟩⟩
  · rw [upd_ne ne, upd_same]
  · rwa [upd_ne ne] at hd
  · rw [heap_made ha ne]
    rw [upd_ne ne] at hd
    exact h d hd
section
variable {X : Cx} {k j : Nat} {x f : Str} {C : Addr} {e : Expr} {ta : TA} {W : WX} {p pos p2 : Pos}
theorem ps_throw (T : ErrC X.prog X.w X.K X.mg X.base k x f C) (hc : X.calm = true) (hr : Room j X.A) (tk : Takes X W) (ha : PA X [e] ta) (hk : k + 1 ≤ j := by decide) (hg : Gl X x := by rfl) (hdb : (x == ("__debug__" : Str)) = false := by decide)
    (he : starEach (e :: []) X.env = (false, eval e X.env) :: starEach [] X.env := by rfl) (hpl : (backTo pos (starEach [] X.env)).any (·.1) = false := by rfl) :
    PS X (.Raise (some (.Call (.Name x p) [e] [] pos)) none p2) (fun _ σ H => tMkO C (spKeep X.K C f) [] ta σ H fun cls d H' => W cls d σ H') := by
  obtain ⟨fI, fd, h1, h2, h3, h4⟩ := T.ini
  exact ps_raise (pos := p2) hc tk (pmk_oex (p := p) (pos := pos) (es := []) T.cls h1 h2 h4 (hr.mono hk) h3 .nil pass0 hg T.at_ ha hdb he hpl)
end
/-! ### the init itself -/
theorem ok_keep {P : Program} {w : World} {K : PySem.W.Frag} {mg : Str → Option Value} {base : Heap} {C fI : Addr} {fd : FuncData} {f qual : Str} {params : Arguments} {scope : Scope} {p1 p2 p3 p4 : Pos}
    (F : FunD K "__init__" qual params [.Assign [.Attribute (.Name "self" p1) f p2] (.Name f p3) p4] scope [] [] fI fd) (T : OexC K C) (no : PySem.W.findIn K (.ref C) f = some none)
    (sc : FnScope ["self", f] ["self", f] scope) (hd : (f == ("__debug__" : Str)) = false) (hcd : (f == ("__classdict__" : Str)) = false) (l0 : scope.names.lookup ("self" : Str) = some .local) (l1 : scope.names.lookup f = some .local) :
    FnOk P w K mg base CX0 1 fI fd ["self", f] (spKeep K C f) := by
  refine F.ok sc (fun vs H Q E h => ?_) (fun cdv A outer s H vs Q E hr h => ?_)
  · obtain ⟨a, v, rfl, _⟩ := h
    rfl
  · obtain ⟨a, v, rfl, ha, k⟩ := h
    refine ⟨_, pss_one (ps_ost (pe_var (i := 0) rfl (.inl l0)) (pe_var (i := 1) rfl (.inl l1) hd hcd)), ?_⟩
    exact ⟨_, rfl, _, rfl, a, C, rfl, T, no, .inl ⟨ha, fun dx n1 n2 => k dx n1 n2⟩⟩
end Kx
/-! own errors right over KeyError (made by LookupError's maker), with an own __init__. -/
namespace Kx
open PySem PySem.W PySem.Calls PyProof.Rows PySem.HandSPX
abbrev keyTail : List Value := [.type "KeyError", .type "LookupError", .type "Exception", .type "BaseException", .type "object"]
abbrev keyObj (nm q : Str) (C N : Addr) (bs : List Value) (sn : List Str) (sub : List Value) (ab : Bool) (col : Option Bool) (dd : Option Addr) (k0 k1 k2 k3 k5 : Option Value) : Obj :=
  excClassObj nm q C N bs keyTail true sn sub ab col dd k0 k1 k2 k3 k5 "LookupError.__new__"
theorem in_tail {C : Addr} {n : String} {b : Bool} (h : keyTail.contains (.type n) = b) : (Value.ref C :: keyTail).contains (.type n) = b := by
  rw [List.contains_cons, h]
  rfl
section
variable {h : Heap} {g : Array GenState} {d : Drawn} {t : Nat} {os : OsState} {prog : Program} {w : World} {A : Around} {R : Result → Shared → Prop} {E : Value → Shared → Prop}
variable {nm q : Str} {C N : Addr} {bs : List Value} {sn : List Str} {sub : List Value} {ab : Bool} {col : Option Bool} {dd : Option Addr} {k0 k1 k2 k3 k5 : Option Value} {more : List Value}
theorem key_check {M : Model} {Q : Unit → Shared → Prop} (stands : h.get? C = some (keyObj nm q C N bs sn sub ab col dd k0 k1 k2 k3 k5)) (done : Q () ⟨h, g, d, t, os⟩) :
    wpAny M A (checkBuiltinCall "LookupError.__new__" ⟨.ref C :: more, []⟩) Q E ⟨h, g, d, t, os⟩ := by
  have isB : (Value.ref C :: keyTail).contains (.type "LookupError") = true := in_tail (by decide +kernel)
  have short := PySem.F.excBase_LookupError.noStar
  simp only [checkBuiltinCall, PySem.F.excBase_LookupError.newKind, PySem.F.excBase_LookupError.newSplit, PySem.F.excBase_LookupError.newRow]
  repeat (first
    | refine wpAny_loadPart_at stands ?_
    | (refine wpAny_isSubtype_exc stands ?_; rw [isB])
    | refine wpAny_staticBase_exc stands ?_
    | refine wpAny_madeBy_exc stands ?_
    | simp only [bne_self_eq_false, Bool.false_eq_true, if_false]
    | wp_step)
  exact done
theorem key_new (stands : h.get? C = some (keyObj nm q C N bs sn sub ab col dd k0 k1 k2 k3 k5)) (fits : more.length ≤ sizeLine)
    (done : R (.ok (.ret (.ref (h.objs.size + 1)))) ⟨(h.push (kdv_tup more)).push (excO C h.objs.size), g, d, t, os⟩) : codeAny (model prog w) A (.builtin "LookupError.__new__" ⟨.ref C :: more, []⟩) R ⟨h, g, d, t, os⟩ := by
  have ends := PySem.F.excBase_LookupError.ends
  have isB : (Value.ref C :: keyTail).contains (.type "LookupError") = true := in_tail (by decide +kernel)
  have noA : (Value.ref C :: keyTail).contains (.type "AttributeError") = false := in_tail (by decide +kernel)
  have noN : (Value.ref C :: keyTail).contains (.type "NameError") = false := in_tail (by decide +kernel)
  refine codeAny_builtinAt PySem.F.excBase_LookupError.entry ?_
  unfold Builtin.«BaseException.__new__»; refine PySem.wpAt_bind ?_
  show PySem.wpAt _ _ _ (stack >>= _) _ _ _
  refine PySem.wpAt_bind (PySem.wpAt_stack fun _ _ => PySem.wpAt_of_wpAny ?_)
  wp_walk
  refine PySem.wpAt_of_wpAny ?_
  rw [PySem.F.excBase_LookupError.owner]
  repeat (first
    | with_reducible refine wpAny_madeHere_exc PySem.F.excBase_LookupError.canon stands ?_
    | with_reducible refine wpAny_loadPart_at stands ?_
    | (with_reducible refine wpAny_isSubtype_exc stands ?_; first | rw [isB] | rw [noA] | rw [noN])
    | wp_step)
  show R _ _
  rw [Heap.size_push]
  exact done
theorem key_call {fI : Addr} (stands : h.get? C = some (keyObj nm q C N bs sn sub ab col dd k0 k1 k2 k3 k5)) (hi : Looks (model prog w) h (typeLookup (.ref C) "__init__") (some (.ref fI)))
    (hb : ∀ self, Looks (model prog w) h (bindSpecial (.ref fI) self) (.ref fI, [self])) (fits : more.length ≤ sizeLine)
    (done : codeAny (model prog w) (A.under (.builtin "type.__call__" ⟨.ref C :: more, []⟩)) (.call (.ref fI) ⟨.ref (h.objs.size + 1) :: more, []⟩) (InitBack (h.objs.size + 1) R) ⟨(h.push (kdv_tup more)).push (excO C h.objs.size), g, d, t, os⟩) :
    codeAny (model prog w) A (.call (.ref C) ⟨more, []⟩) R ⟨h, g, d, t, os⟩ := by
  have l1 := tc_lookup
  have l2 := tc_bind (.ref C)
  have isTy : (⟨h, g, d, t, os⟩ : Shared).TypeIs (.ref C) "type" := ⟨_, stands, rfl⟩
  have all : ∀ b o, h.get? b = some o → ((h.push (kdv_tup more)).push (excO C h.objs.size)).get? b = some o := fun b o z => Heap.get?_push_of_some _ (Heap.get?_push_of_some _ z)
  refine codeAny_of_tree ?_
  show wpAny _ _ (callAny (.ref C) _) _ _ _; repeat (any_goals (first | assumption | with_reducible refine wpAny_loadPart_at stands ?_ | wp_step))
  refine ⟨rfl, ?_⟩
  refine codeAny_call_builtin_at (Code.quiet_builtin _ (by decide +kernel)) entry_typeCall (wpAny_check_type_call_sub stands ?_)
  repeat (first | with_reducible refine wpAny_loadPart_at stands ?_ | with_reducible refine wpAny_madeBy_exc stands ?_ | wp_step)
  refine codeAny_call_builtin_code (Code.quiet_builtin _ PySem.F.excBase_LookupError.quiet) (key_check stands (key_new stands fits ?_))
  show wpAny _ _ _ _ _ _
  have hC1 := all _ _ stands
  have made : ((h.push (kdv_tup more)).push (excO C h.objs.size)).get? (h.objs.size + 1) = some (excO C h.objs.size) := by heap_get
  have own : (Value.ref C :: keyTail).contains (.ref C) = true := by simp
  have i1 := hi.keeps all
  have b1 := (hb (.ref (h.objs.size + 1))).keeps all
  unfold isInstance
  repeat (first | with_reducible refine wpAny_loadPart_at made ?_ | wp_step)
  show wpAny _ _ (isSubtype (.ref C) (.ref C)) _ _ ⟨(h.push (kdv_tup more)).push (excO C h.objs.size), g, d, t, os⟩
  refine wpAny_isSubtype_exc hC1 ?_
  rw [own]
  repeat wp_step
  show wpAny _ _ (typeLookup (.ref C) _) _ _ _; refine i1.at (wpAny_holding (wpAny_bind (b1.at (wpAny_bind (wpAny_call (codeAny_mono done fun r s' z => ?_))))))
  match r, z with
  | .error _, z => exact z
  | .ok .next, z => exact z.elim
  | .ok .brk, z => exact z.elim
  | .ok .cont, z => exact z.elim
  | .ok (.ret _), ⟨e1, z⟩ =>
    subst e1
    first | (wp_walk; exact z) | exact wpAny_pure (wpAny_pure z)
end
/-! ### x.name = v on such an error that has no dict yet -/
theorem key_passes (self : Value) : refuseLoop self "__setattr__" keyTail = pure () := by kernel_rfl
/-- what the written part holds of such a class -/
structure KeyC (K : Frag) (C : Addr) : Prop where
  cls : ∃ nm q N bs sn sub ab col dd k0 k1 k2 k3 k5, K.lookup C = some (keyObj nm q C N bs sn sub ab col dd k0 k1 k2 k3 k5)
  sa : findIn K (.ref C) "__setattr__" = some (some (.builtin "object.__setattr__"))
  exC : subIn K (.ref C) (.type "BaseException") = some true
  tyC : typeIn K (.ref C) = some (.type "type")
  kC : keepIn K (.ref C) = true
section
open Builtin.ObjectAttr Builtin
variable {mem : Heap} {g : Array GenState} {d : Drawn} {t : Nat} {os : OsState} {prog : Program} {w : World} {A : Around} {R : Result → Shared → Prop} {E : Value → Shared → Prop}
theorem key_osa {K : Frag} {name : Str} {tk : Tok} {v : Value} {x C : Addr} {fv : Array Value} (T : KeyC K C) (X : K.In mem) (hx : mem.get? x = some { cls := .ref C, data := .fields fv }) (no : findIn K (.ref C) name = some none)
    (done : ∀ (h' : Heap) (tk' : Nat) (dx : Addr), (∀ b o, b ≠ x → mem.get? b = some o → h'.get? b = some o) → mem.objs.size ≤ dx → dx ≠ x → h'.get? x = some { cls := .ref C, dict := some dx, data := .fields fv } → h'.Ns1 dx (fun y => if y = name then some v else none) → R (.ok (.ret .none)) ⟨h', g, d, tk', os⟩) : codeAny (model prog w) A (.call (.builtin "object.__setattr__") ⟨[.ref x, .str name tk, v], []⟩) R ⟨mem, g, d, t, os⟩ := by
  obtain ⟨nm, q, N, bs, sn, sub, ab, col, dd, k0, k1, k2, k3, k5, stands⟩ := T.cls
  have cd : clsIn K C = some { name := nm, bases := bs, mro := .ref C :: keyTail, ns := N, qualname := q, hasDict := true, slotNames := sn, subclasses := sub, abstract := ab, collection := col, hasDel := false } := by
    unfold clsIn
    rw [stands]
  have I : InstAt mem x { cls := .ref C, data := .fields fv } C none := ⟨hx, rfl, rfl, trivial⟩
  have SF := PySem.F.store_object -- the store
  have obj : (Value.ref C :: keyTail).contains (.type "object") = true := in_tail (by decide +kernel)
  have apart : x ≠ mem.objs.size := Nat.ne_of_lt (Heap.lt_size hx)
  have sub' : Looks (model prog w) mem (isInstance (.ref x) (.type "object")) true := I.type.andThen (looks_mroIn X (by
    unfold mroIn
    rw [cd, Option.bind_some]
    show (if (Value.ref C :: keyTail).isEmpty = true then none else some ((Value.ref C :: keyTail).contains (.type "object"))) = some true
    rw [obj]
    rfl))
  refine codeAny_call_builtin SF.slot.plain SF.entry (@check_slot (model prog w) _ _ ⟨mem, g, d, t, os⟩ "object.__setattr__" "object" "__setattr__" (.ref x) [.str name tk, v] [] _ SF.kind SF.split sub' (SF.args (.ref x) (.str name tk) v) ?_)
  have mro : Looks (model prog w) mem (mroOf (.ref C)) (.ref C :: keyTail) := (looks_clsIn X cd).andThen .now
  have taker : Looks (model prog w) mem (storeTaker? none) none := .now
  have data : Looks (model prog w) mem (classData C) _ := looks_clsIn X cd
  rw [osa_eq, refuse_eq]
  refine wpAny_bind (wpAny_bind (I.type.at (wpAny_bind (mro.at ?_))))
  rw [refuseLoop_ref, key_passes]
  refine wpAny_pure (wpAny_bind (I.type.at (wpAny_bind ((looks_findIn X no).at (wpAny_bind (taker.at ?_))))))
  show wpAny _ _ (storeInOwnDict (.ref x) (.ref C) (.str name tk) name v false) _ _ _; unfold storeInOwnDict ownDictForStores
  repeat (first
    | with_reducible refine store_in_new ?_ ?_
    | with_reducible refine wpAny_loadPart_at hx ?_
    | with_reducible refine data.at ?_
    | wp_step)
  · exact ⟨_, #[], _, (Heap.get?_update_ne _ _ _ _ apart.symm).trans (Heap.get?_push_at rfl rfl), rfl, fun e he => absurd he (by simp), fun _ => rfl⟩
  · intro h' tk' ns but
    have here := Heap.get?_push_of_some { cls := .type "dict", data := .dict #[] } hx
    refine done h' tk' mem.objs.size (fun b o ne ho => ?_) (Nat.le_refl _) apart.symm ((but.2 x apart).trans (Heap.get?_update_self _ here rfl)) ns
    exact (but.2 b (Nat.ne_of_lt (Heap.lt_size ho))).trans ((Heap.get?_update_ne _ _ _ _ ne).trans (Heap.get?_push_of_some _ ho))
end
end Kx
/-! NoState and NoDeed: raised with their one thing. -/
namespace PySem
namespace LowZ
open PySem.HandSPX PySem.W PySem.Calls PyProof.Rows
theorem one_fits (v : Value) : [v].length ≤ sizeLine := by
  rw [sizeLine_eq]
  exact (by decide : 1 ≤ 16777216)
theorem ld_here {M : Model} {s : Shared} {name : Str} {scope : Scope} {L a : Addr} {cd : Value} {m : Str → Option Value} {x : Str} {pos : Pos} {v : Value} {Q : Value → Shared → Prop} {A : Around} {E : Value → Shared → Prop} (hn : s.heap.Ns L m) (hv : m x = some v) (h : Q v s)
    (hk : scope.kind = .function := by rfl) (hl : (envOfC name scope L a cd).kindOf x = some .local := by rfl) (hd : (x == ("__debug__" : Str)) = false := by decide) : wpAny M A (eval (.Name x pos) (envOfC name scope L a cd)) Q E s := wpAny_Name (wpAny_loadName_local hk hl hn hv h) hd
end LowZ
end PySem

namespace Kx
namespace KS
open PySem PySem.W PySem.Calls PyProof.Rows PySem.HandSPX PySem.LowZ
/-! __init__(self, state): self.state = state -/
def tArgs (p1 p2 : Pos) : Arguments := { posonlyargs := [], args := [{ arg := "self", annotation := none, pos := p1 }, { arg := "state", annotation := none, pos := p2 }], vararg := none, kwonlyargs := [], kw_defaults := [], kwarg := none, defaults := [] }
def tBody (q1 q2 q3 q4 : Pos) : List Stmt := [.Assign [.Attribute (.Name "self" q1) "state" q2] (.Name "state" q3) q4]
def tScope : Scope := { kind := .function, names := [(Str.ofString "self", .local), (Str.ofString "state", .local)], isGenerator := false, isCoroutine := false, more := [] }
structure Txt (K : Frag) (C fI : Addr) (qual : Str) : Prop where
  key : KeyC K C
  no : findIn K (.ref C) "state" = some none
  ini : findIn K (.ref C) "__init__" = some (some (.ref fI))
  tyI : typeIn K (.ref fI) = some (.type "function")
  fn : ∃ (oc : Value) (od : Option Addr) (dV kV doc pm : Value) (an : Option Addr) (cdv ct : Value) (osl : Array (Option Value)) (p1 p2 q1 q2 q3 q4 : Pos),
    K.lookup fI = some ⟨oc, od, .func (fnOf "__init__" qual (tArgs p1 p2) (tBody q1 q2 q3 q4) tScope dV kV doc pm an cdv ct), osl⟩ ∧ codeIn K cdv qual = true ∧ dV = .none
/-- what a made one is -/
structure Made (h h' : Heap) (e C d : Addr) (v : Value) : Prop where
  keep : ∀ b o, h.get? b = some o → h'.get? b = some o
  new : h.objs.size ≤ e
  obj : ∃ oe vs, h'.get? e = some oe ∧ oe.cls = .ref C ∧ oe.dict = some d ∧ oe.data = .fields vs ∧ vs[1]? = some .none
  dbig : h.objs.size ≤ d
  dne : d ≠ e
  ns : h'.Ns1 d (fun y => if y = "state" then some v else none)
section
variable {prog : Program} {w : World} {A : Around} {R : Result → Shared → Prop} {s : Shared} {K : Frag} {C fI : Addr} {qual : Str}
theorem inits (T : Txt K C fI qual) {x t0 : Addr} {v : Value} (X : K.In s.heap) (lim : s.heap.NoLimit) (hx : s.heap.get? x = some (excO C t0)) (room : A.depth < recursionLimit)
    (done : ∀ (h' : Heap) (tk : Nat) (dx : Addr), (∀ b o, b ≠ x → s.heap.get? b = some o → h'.get? b = some o) → h'.get? x = some { cls := .ref C, dict := some dx, data := .fields #[.ref t0, .none, .none, .none, .bool false, .none] } → s.heap.objs.size ≤ dx → dx ≠ x →
      h'.Ns1 dx (fun y => if y = "state" then some v else none) → R (.ok (.ret .none)) { s with heap := h', toks := tk }) :
    codeAny (model prog w) A (.call (.ref fI) ⟨[.ref x, v], []⟩) R s := by
  obtain ⟨oc, od, dV, kV, doc, pm, an, cdv, ct, osl, p1, p2, q1, q2, q3, q4, lk, hcd, rfl⟩ := T.fn
  refine Att.call_fn (binds := [("self", .ref x), ("state", v)]) X lim lk hcd room (BindsTo.of_eq (by first | rfl | with_unfolding_all rfl)) (by first | rfl | decide | with_unfolding_all rfl) (fun s1 IC => ?_) rfl rfl rfl
  obtain ⟨h1, tk1, rfl⟩ := IC.toInCall.same
  have keep : ∀ b o, s.heap.get? b = some o → h1.get? b = some o := IC.toInCall.keep
  have ns := IC.toInCall.ns
  show wpAny _ _ (execs _ _) _ _ _
  refine wpAny_execs_cons (plainObj_wpAny_Assign_Attribute ?_)
  refine ld_here (v := v) ns (by first | rfl | with_unfolding_all rfl | kernel_rfl) (ld_here (v := .ref x) ns (by first | rfl | with_unfolding_all rfl | kernel_rfl) ?_)
  refine set_plain (X.keeps keep) (ox := excO C t0) (od := none) ⟨keep _ _ hx, rfl, rfl, trivial⟩ T.key.sa ?_
  refine key_osa T.key (X.keeps keep) (keep _ _ hx) T.no (fun h3 tk3 dx k3 dn dne hx3 hn3 => ?_)
  show wpAny _ _ (execs _ _) _ _ _
  have z : s.heap.objs.size < h1.objs.size := ns.lt
  exact wpAny_execs_nil (done h3 tk3 dx (fun b o hb e => k3 b o hb (keep b o e)) hx3 (Nat.le_of_lt (Nat.lt_of_lt_of_le z dn)) dne hn3)
theorem makes (T : Txt K C fI qual) {v : Value} (X : K.In s.heap) (lim : s.heap.NoLimit) (room : A.depth + 1 < recursionLimit)
    (done : ∀ h' tk e d, Made s.heap h' e C d v → R (.ok (.ret (.ref e))) { s with heap := h', toks := tk }) : codeAny (model prog w) A (.call (.ref C) ⟨[v], []⟩) R s := by
  obtain ⟨nm, q, N, bs, sn, sub, ab, col, dd, k0, k1, k2, k3, k5, hC⟩ := T.key.cls
  obtain ⟨hp, gs, dr, tk, os⟩ := s
  have keep : ∀ b o, hp.get? b = some o → ((hp.push (kdv_tup [v])).push (excO C hp.objs.size)).get? b = some o := fun b o e => Heap.get?_push_of_some _ (Heap.get?_push_of_some _ e)
  have here : ((hp.push (kdv_tup [v])).push (excO C hp.objs.size)).get? (hp.objs.size + 1) = some (excO C hp.objs.size) := by heap_get
  refine key_call (X _ _ hC) (looks_findIn X T.ini) (fun self => bind_fn X self T.tyI) (one_fits v) ?_
  refine inits (s := ⟨(hp.push (kdv_tup [v])).push (excO C hp.objs.size), gs, dr, tk, os⟩) T (X.keeps keep) (lim.keeps keep) here ?_ fun h' tk' dx k' hx dn dne hns => ?_
  · show A.depth + 1 < recursionLimit
    exact room
  · have old : ∀ b o, hp.get? b = some o → h'.get? b = some o := fun b o e => k' b o (Nat.ne_of_lt (Nat.lt_succ_of_lt (Heap.lt_size e))) (keep b o e)
    have z : hp.objs.size + 1 + 1 ≤ dx := by
      have q := dn
      simp only [Heap.size_push] at q
      exact q
    exact ⟨rfl, done h' tk' (hp.objs.size + 1) dx ⟨old, Nat.le_succ _, ⟨_, _, hx, rfl, rfl, rfl, rfl⟩, Nat.le_trans (Nat.le_trans (Nat.le_succ _) (Nat.le_succ _)) z, dne, hns⟩⟩
end
end KS
end Kx
namespace Kx
namespace KS
open L2 PySem PySem.Spec PyProof.Rows
theorem rel_one {v : V} {v' : Value} (r : RelV v v') (y : Str) : RelO (List.lookup y [(("state" : Str), v)]) (if y = "state" then some v' else none) := by
  rw [lookup_put]
  by_cases h : y = "state"
  · rw [if_pos h, if_pos h]
    exact r
  · rw [if_neg h, if_neg h]
    trivial
section
variable {X : Cx} {C fI : Addr} {qual x : Str}
/-- C(e) -/
def tMk (C : Addr) (ta : TA) : L2.St → Hp → XK → Prop := fun σ H Q => ta σ H fun vs H1 => ∃ v, vs = [v] ∧ ∀ d, H1 d = none → Q (.ref C) (some d) (upd H1 d (.xd [(("state" : Str), v)]))
theorem pmk {a : Expr} {ta : TA} {p pos : Pos} {k : Nat} (T : Txt X.K C fI qual) (at_ : X.mg x = some (.ref C)) (hr : Room k X.A) (ha : PA X [a] ta) (hg : Gl X x) (hdb : (x == ("__debug__" : Str)) = false)
    (he : starEach (a :: []) X.env = (false, eval a X.env) :: starEach [] X.env) (hpl : (backTo pos (starEach [] X.env)).any (·.1) = false) : PMk X (.Call (.Name x p) [a] [] pos) (tMk C ta) := by
  intro pins s σ H Q I h
  refine wpAny_Call_Name_kw (ld_glob I hg at_ ?_ hdb)
  refine PySem.W.callWith_K (h₀ := X.base) I.ok.mod.kin T.key.kC (thn (ha.run pos pins s σ H _ I h) fun us s1 hh => ?_) he hpl
  obtain ⟨vs, H1, I1, r1, v, ev, q1⟩ := hh
  subst ev
  refine ⟨I1.kIn, ?_⟩
  obtain ⟨v', rfl, rv⟩ := vals1 r1
  show wpAny _ _ (call (.ref C) [v']) _ _ _
  have lim := I1.nolimit
  obtain ⟨hp, gs, dr, tk, os⟩ := s1
  refine wpAny_call (makes T I1.kIn lim (by have := hr.dp; omega) fun h' tk' e d M => ?_)
  show MkP X pins σ Q (.ref e) ⟨h', gs, dr, tk', os⟩
  obtain ⟨oe, fv, hoe, hc, hd, hdat, h1⟩ := M.obj
  have hns := M.ns
  obtain ⟨G, g1, g2⟩ := restrict h' fun b => decide (b ≠ e)
  have gk : ∀ b, b ≠ e → G.get? b = h'.get? b := fun b hb => g1 b (decide_eq_true hb)
  have ge : G.get? e = none := g2 e (by simp)
  have old : ∀ b o, hp.get? b = some o → G.get? b = some o := fun b o q => (gk b (Nat.ne_of_lt (Nat.lt_of_lt_of_le (Heap.lt_size q) M.new))).trans (M.keep b o q)
  have ob : ObjOk X.prog X.w (upd H1 d (.xd [(("state" : Str), v)])) G d (.xd [(("state" : Str), v)]) := ⟨_, hns.at (fun o q => (gk d M.dne).trans q), fun y => rel_one rv y⟩
  have J : Inv X pins σ (upd H1 d (.xd [(("state" : Str), v)])) ⟨G, gs, dr, tk', os⟩ := I1.laid (t' := tk') old M.dbig ob
  refine ⟨e, oe, fv, ⟨G, gs, dr, tk', os⟩, _, .ref C, some d, rfl, J, fun b o q => ?_, ge, hoe, ⟨hc, hd⟩, hdat, h1, ?_, rfl, I1.bare, raises_own T.key.exC T.key.tyC, q1 d (I1.hok.fresh M.dbig)⟩
  · by_cases hb : b = e
    · have q' : G.get? b = some o := q
      rw [hb, ge] at q'
      cases q'
    · exact (gk b hb).symm.trans q
  · rw [upd_ne (Ne.symm M.dne)]
    exact I1.hok.fresh M.new
/-- raise C(e) -/
theorem ps_throw {a : Expr} {ta : TA} {W : WX} {p pos p2 : Pos} {k : Nat} (T : Txt X.K C fI qual) (at_ : X.mg x = some (.ref C)) (hc : X.calm = true) (hr : Room k X.A) (tk : Takes X W) (ha : PA X [a] ta) (hg : Gl X x := by rfl) (hdb : (x == ("__debug__" : Str)) = false := by decide)
    (he : starEach (a :: []) X.env = (false, eval a X.env) :: starEach [] X.env := by rfl) (hpl : (backTo pos (starEach [] X.env)).any (·.1) = false := by rfl) :
    PS X (.Raise (some (.Call (.Name x p) [a] [] pos)) none p2) (fun _ σ H => tMk C ta σ H fun cls d H' => W cls d σ H') := ps_raise hc tk (pmk T at_ hr ha hg hdb he hpl)
end
end KS
end Kx

namespace Kx
namespace KD
open PySem PySem.W PySem.Calls PyProof.Rows PySem.HandSPX PySem.LowZ
/-! __init__(self, deed): self.deed = deed -/
def tArgs (p1 p2 : Pos) : Arguments := { posonlyargs := [], args := [{ arg := "self", annotation := none, pos := p1 }, { arg := "deed", annotation := none, pos := p2 }], vararg := none, kwonlyargs := [], kw_defaults := [], kwarg := none, defaults := [] }
def tBody (q1 q2 q3 q4 : Pos) : List Stmt := [.Assign [.Attribute (.Name "self" q1) "deed" q2] (.Name "deed" q3) q4]
def tScope : Scope := { kind := .function, names := [(Str.ofString "self", .local), (Str.ofString "deed", .local)], isGenerator := false, isCoroutine := false, more := [] }
structure Txt (K : Frag) (C fI : Addr) (qual : Str) : Prop where
  key : KeyC K C
  no : findIn K (.ref C) "deed" = some none
  ini : findIn K (.ref C) "__init__" = some (some (.ref fI))
  tyI : typeIn K (.ref fI) = some (.type "function")
  fn : ∃ (oc : Value) (od : Option Addr) (dV kV doc pm : Value) (an : Option Addr) (cdv ct : Value) (osl : Array (Option Value)) (p1 p2 q1 q2 q3 q4 : Pos),
    K.lookup fI = some ⟨oc, od, .func (fnOf "__init__" qual (tArgs p1 p2) (tBody q1 q2 q3 q4) tScope dV kV doc pm an cdv ct), osl⟩ ∧ codeIn K cdv qual = true ∧ dV = .none
/-- what a made one is -/
structure Made (h h' : Heap) (e C d : Addr) (v : Value) : Prop where
  keep : ∀ b o, h.get? b = some o → h'.get? b = some o
  new : h.objs.size ≤ e
  obj : ∃ oe vs, h'.get? e = some oe ∧ oe.cls = .ref C ∧ oe.dict = some d ∧ oe.data = .fields vs ∧ vs[1]? = some .none
  dbig : h.objs.size ≤ d
  dne : d ≠ e
  ns : h'.Ns1 d (fun y => if y = "deed" then some v else none)
section
variable {prog : Program} {w : World} {A : Around} {R : Result → Shared → Prop} {s : Shared} {K : Frag} {C fI : Addr} {qual : Str}
theorem inits (T : Txt K C fI qual) {x t0 : Addr} {v : Value} (X : K.In s.heap) (lim : s.heap.NoLimit) (hx : s.heap.get? x = some (excO C t0)) (room : A.depth < recursionLimit)
    (done : ∀ (h' : Heap) (tk : Nat) (dx : Addr), (∀ b o, b ≠ x → s.heap.get? b = some o → h'.get? b = some o) → h'.get? x = some { cls := .ref C, dict := some dx, data := .fields #[.ref t0, .none, .none, .none, .bool false, .none] } → s.heap.objs.size ≤ dx → dx ≠ x →
      h'.Ns1 dx (fun y => if y = "deed" then some v else none) → R (.ok (.ret .none)) { s with heap := h', toks := tk }) :
    codeAny (model prog w) A (.call (.ref fI) ⟨[.ref x, v], []⟩) R s := by
  obtain ⟨oc, od, dV, kV, doc, pm, an, cdv, ct, osl, p1, p2, q1, q2, q3, q4, lk, hcd, rfl⟩ := T.fn
  refine Att.call_fn (binds := [("self", .ref x), ("deed", v)]) X lim lk hcd room (BindsTo.of_eq (by first | rfl | with_unfolding_all rfl)) (by first | rfl | decide | with_unfolding_all rfl) (fun s1 IC => ?_) rfl rfl rfl
  obtain ⟨h1, tk1, rfl⟩ := IC.toInCall.same
  have keep : ∀ b o, s.heap.get? b = some o → h1.get? b = some o := IC.toInCall.keep
  have ns := IC.toInCall.ns
  show wpAny _ _ (execs _ _) _ _ _
  refine wpAny_execs_cons (plainObj_wpAny_Assign_Attribute ?_)
  refine ld_here (v := v) ns (by first | rfl | with_unfolding_all rfl | kernel_rfl) (ld_here (v := .ref x) ns (by first | rfl | with_unfolding_all rfl | kernel_rfl) ?_)
  refine set_plain (X.keeps keep) (ox := excO C t0) (od := none) ⟨keep _ _ hx, rfl, rfl, trivial⟩ T.key.sa ?_
  refine key_osa T.key (X.keeps keep) (keep _ _ hx) T.no (fun h3 tk3 dx k3 dn dne hx3 hn3 => ?_)
  show wpAny _ _ (execs _ _) _ _ _
  have z : s.heap.objs.size < h1.objs.size := ns.lt
  exact wpAny_execs_nil (done h3 tk3 dx (fun b o hb e => k3 b o hb (keep b o e)) hx3 (Nat.le_of_lt (Nat.lt_of_lt_of_le z dn)) dne hn3)
theorem makes (T : Txt K C fI qual) {v : Value} (X : K.In s.heap) (lim : s.heap.NoLimit) (room : A.depth + 1 < recursionLimit)
    (done : ∀ h' tk e d, Made s.heap h' e C d v → R (.ok (.ret (.ref e))) { s with heap := h', toks := tk }) : codeAny (model prog w) A (.call (.ref C) ⟨[v], []⟩) R s := by
  obtain ⟨nm, q, N, bs, sn, sub, ab, col, dd, k0, k1, k2, k3, k5, hC⟩ := T.key.cls
  obtain ⟨hp, gs, dr, tk, os⟩ := s
  have keep : ∀ b o, hp.get? b = some o → ((hp.push (kdv_tup [v])).push (excO C hp.objs.size)).get? b = some o := fun b o e => Heap.get?_push_of_some _ (Heap.get?_push_of_some _ e)
  have here : ((hp.push (kdv_tup [v])).push (excO C hp.objs.size)).get? (hp.objs.size + 1) = some (excO C hp.objs.size) := by heap_get
  refine key_call (X _ _ hC) (looks_findIn X T.ini) (fun self => bind_fn X self T.tyI) (one_fits v) ?_
  refine inits (s := ⟨(hp.push (kdv_tup [v])).push (excO C hp.objs.size), gs, dr, tk, os⟩) T (X.keeps keep) (lim.keeps keep) here ?_ fun h' tk' dx k' hx dn dne hns => ?_
  · show A.depth + 1 < recursionLimit
    exact room
  · have old : ∀ b o, hp.get? b = some o → h'.get? b = some o := fun b o e => k' b o (Nat.ne_of_lt (Nat.lt_succ_of_lt (Heap.lt_size e))) (keep b o e)
    have z : hp.objs.size + 1 + 1 ≤ dx := by
      have q := dn
      simp only [Heap.size_push] at q
      exact q
    exact ⟨rfl, done h' tk' (hp.objs.size + 1) dx ⟨old, Nat.le_succ _, ⟨_, _, hx, rfl, rfl, rfl, rfl⟩, Nat.le_trans (Nat.le_trans (Nat.le_succ _) (Nat.le_succ _)) z, dne, hns⟩⟩
end
end KD
end Kx
namespace Kx
namespace KD
open L2 PySem PySem.Spec PyProof.Rows
theorem rel_one {v : V} {v' : Value} (r : RelV v v') (y : Str) : RelO (List.lookup y [(("deed" : Str), v)]) (if y = "deed" then some v' else none) := by
  rw [lookup_put]
  by_cases h : y = "deed"
  · rw [if_pos h, if_pos h]
    exact r
  · rw [if_neg h, if_neg h]
    trivial
section
variable {X : Cx} {C fI : Addr} {qual x : Str}
/-- C(e) -/
def tMk (C : Addr) (ta : TA) : L2.St → Hp → XK → Prop := fun σ H Q => ta σ H fun vs H1 => ∃ v, vs = [v] ∧ ∀ d, H1 d = none → Q (.ref C) (some d) (upd H1 d (.xd [(("deed" : Str), v)]))
theorem pmk {a : Expr} {ta : TA} {p pos : Pos} {k : Nat} (T : Txt X.K C fI qual) (at_ : X.mg x = some (.ref C)) (hr : Room k X.A) (ha : PA X [a] ta) (hg : Gl X x) (hdb : (x == ("__debug__" : Str)) = false)
    (he : starEach (a :: []) X.env = (false, eval a X.env) :: starEach [] X.env) (hpl : (backTo pos (starEach [] X.env)).any (·.1) = false) : PMk X (.Call (.Name x p) [a] [] pos) (tMk C ta) := by
  intro pins s σ H Q I h
  refine wpAny_Call_Name_kw (ld_glob I hg at_ ?_ hdb)
  refine PySem.W.callWith_K (h₀ := X.base) I.ok.mod.kin T.key.kC (thn (ha.run pos pins s σ H _ I h) fun us s1 hh => ?_) he hpl
  obtain ⟨vs, H1, I1, r1, v, ev, q1⟩ := hh
  subst ev
  refine ⟨I1.kIn, ?_⟩
  obtain ⟨v', rfl, rv⟩ := vals1 r1
  show wpAny _ _ (call (.ref C) [v']) _ _ _
  have lim := I1.nolimit
  obtain ⟨hp, gs, dr, tk, os⟩ := s1
  refine wpAny_call (makes T I1.kIn lim (by have := hr.dp; omega) fun h' tk' e d M => ?_)
  show MkP X pins σ Q (.ref e) ⟨h', gs, dr, tk', os⟩
  obtain ⟨oe, fv, hoe, hc, hd, hdat, h1⟩ := M.obj
  have hns := M.ns
  obtain ⟨G, g1, g2⟩ := restrict h' fun b => decide (b ≠ e)
  have gk : ∀ b, b ≠ e → G.get? b = h'.get? b := fun b hb => g1 b (decide_eq_true hb)
  have ge : G.get? e = none := g2 e (by simp)
  have old : ∀ b o, hp.get? b = some o → G.get? b = some o := fun b o q => (gk b (Nat.ne_of_lt (Nat.lt_of_lt_of_le (Heap.lt_size q) M.new))).trans (M.keep b o q)
  have ob : ObjOk X.prog X.w (upd H1 d (.xd [(("deed" : Str), v)])) G d (.xd [(("deed" : Str), v)]) := ⟨_, hns.at (fun o q => (gk d M.dne).trans q), fun y => rel_one rv y⟩
  have J : Inv X pins σ (upd H1 d (.xd [(("deed" : Str), v)])) ⟨G, gs, dr, tk', os⟩ := I1.laid (t' := tk') old M.dbig ob
  refine ⟨e, oe, fv, ⟨G, gs, dr, tk', os⟩, _, .ref C, some d, rfl, J, fun b o q => ?_, ge, hoe, ⟨hc, hd⟩, hdat, h1, ?_, rfl, I1.bare, raises_own T.key.exC T.key.tyC, q1 d (I1.hok.fresh M.dbig)⟩
  · by_cases hb : b = e
    · have q' : G.get? b = some o := q
      rw [hb, ge] at q'
      cases q'
    · exact (gk b hb).symm.trans q
  · rw [upd_ne (Ne.symm M.dne)]
    exact I1.hok.fresh M.new
/-- raise C(e) -/
theorem ps_throw {a : Expr} {ta : TA} {W : WX} {p pos p2 : Pos} {k : Nat} (T : Txt X.K C fI qual) (at_ : X.mg x = some (.ref C)) (hc : X.calm = true) (hr : Room k X.A) (tk : Takes X W) (ha : PA X [a] ta) (hg : Gl X x := by rfl) (hdb : (x == ("__debug__" : Str)) = false := by decide)
    (he : starEach (a :: []) X.env = (false, eval a X.env) :: starEach [] X.env := by rfl) (hpl : (backTo pos (starEach [] X.env)).any (·.1) = false := by rfl) :
    PS X (.Raise (some (.Call (.Name x p) [a] [] pos)) none p2) (fun _ σ H => tMk C ta σ H fun cls d H' => W cls d σ H') := ps_raise hc tk (pmk T at_ hr ha hg hdb he hpl)
end
end KD
end Kx
/-! tuples of the same things compared; isinstance of a caught error that has a field; "0" times a number; calls with keywords alone. -/
namespace Kx
open L2 PySem PySem.Spec PyProof.Rows
/-- two tuples that hold, place by place, the same flat thing or the same object -/
def rSame (K : PySem.W.Frag) (b : Bool) : R2 := fun x y H Q => ∃ (p q : Addr) (xs : List V), x = .ref p ∧ y = .ref q ∧ SqT K H p xs ∧ SqT K H q xs ∧ (∀ v ∈ xs, flatB v = true ∨ ∃ c, v = .ref c) ∧ Q (.bl b) H
theorem same_at {A : Around} {s : Shared} : ∀ {xs : List V} {us ws : List Value}, (∀ v ∈ xs, flatB v = true ∨ ∃ c, v = .ref c) → Vals xs us → Vals xs ws → ∀ j (h1 : j < us.length) (h2 : j < ws.length), SeqAt.EqAt A s us[j] ws[j] true
  | [], _, _, _, .nil, .nil, _, h1, _ => absurd h1 (Nat.not_lt_zero _)
  | x :: xs, _, _, f, .cons r1 k1, .cons r2 k2, 0, _, _ => by
    rcases f x List.mem_cons_self with h | ⟨c, rfl⟩
    · exact eqAt_same r1 r2 h
    · cases r1
      cases r2
      exact SeqAt.EqAt.same _
  | x :: xs, _, _, f, .cons r1 k1, .cons r2 k2, j + 1, h1, h2 => same_at (fun v hv => f v (List.mem_cons_of_mem _ hv)) k1 k2 j (Nat.lt_of_succ_lt_succ h1) (Nat.lt_of_succ_lt_succ h2)
theorem all_range (n : Nat) : ((List.range n).all fun _ => true) = true := List.all_eq_true.mpr fun _ _ => rfl
section
variable {X : Cx}
theorem op_eqSame (hu : X.A.units + 64 < cLine) : OpR X (compareOp .Eq) (rSame X.K true) := by
  intro pins st σ H x y v u Q I rx ry h
  obtain ⟨p, q, xs, rfl, rfl, h1, h2, f, k⟩ := h
  cases rx
  cases ry
  obtain ⟨us, r1, t1, _⟩ := I.tuple h1
  obtain ⟨ws, r2, t2, _⟩ := I.tuple h2
  have e : us.toArray.size = ws.toArray.size := by simp only [List.size_toArray]; rw [← r1.length, ← r2.length]
  refine SeqAt.RcAt.tuples (e := fun _ => true) t1 t2 (by omega) (fun j a1 a2 => ?_) _ _ _ _ ?_
  · simpa using same_at f r1 r2 j (by simpa using a1) (by simpa using a2)
  · rw [all_range, e, beq_self_eq_true]
    exact ⟨.bl true, H, I, rfl, k⟩
theorem op_neSame (hu : X.A.units + 64 < cLine) : OpR X (compareOp .NotEq) (rSame X.K false) := by
  intro pins st σ H x y v u Q I rx ry h
  obtain ⟨p, q, xs, rfl, rfl, h1, h2, f, k⟩ := h
  cases rx
  cases ry
  obtain ⟨us, r1, t1, _⟩ := I.tuple h1
  obtain ⟨ws, r2, t2, _⟩ := I.tuple h2
  have e : us.toArray.size = ws.toArray.size := by simp only [List.size_toArray]; rw [← r1.length, ← r2.length]
  refine SeqAt.RcNeAt.tuples (e := fun _ => true) t1 t2 (by omega) (fun j a1 a2 => ?_) _ _ _ _ ?_
  · simpa using same_at f r1 r2 j (by simpa using a1) (by simpa using a2)
  · rw [all_range, e, beq_self_eq_true]
    exact ⟨.bl false, H, I, rfl, k⟩
/-- isinstance(e, c), e the error that the suite holds, its own dict at d -/
theorem call_isEd {a D d : Addr} {oe : Obj} {pn : List (Addr × Obj)} (C : ExcC X.K D) (hz : Zc (.ref D) (some d) oe) (hf : ∃ vs, oe.data = .fields vs) :
    CallR (X.suite a ((a, oe) :: pn)) (.builtin "isinstance") (fun xs H Q => (∃ fs, H d = some (.xd fs)) ∧ rIsE X.K D a xs H Q) := by
  rintro pins s σ H xs us Q I r h
  obtain ⟨⟨fs, hd⟩, c, cv, b, rfl, hcv, e, q⟩ := h
  cases r with
  | cons rx rr =>
    cases rr with
    | cons rt rr =>
      cases rr
      cases rx
      have ec := hcv _ rt
      subst ec
      obtain ⟨hget, -⟩ := I.pin (a, oe) (List.mem_append.mpr (.inl List.mem_cons_self))
      obtain ⟨vs, hv⟩ := hf
      obtain ⟨mA, hns, _⟩ := (show ObjOk X.prog X.w H s.heap d (.xd fs) from I.hok d _ hd)
      obtain ⟨od, ho, _⟩ := lookIn_ns hns
      have J : PySem.W.InstAt s.heap a oe D (some od) := by
        obtain ⟨oc, od', oda, osl⟩ := oe
        obtain ⟨h1, h2⟩ := hz
        dsimp only at h1 h2 hv
        subst h1 h2 hv
        exact ⟨hget, rfl, rfl, ho⟩
      have cl : (PySem.W.clsIn X.K D).isSome = true := by
        obtain ⟨cd, hc, _⟩ := PySem.W.any_some C.hd
        rw [hc]
        rfl
      exact PySem.W.kia_one (PySem.W.kitx_exc cl C.hg C.hk C.hs C.ha C.hn C.ht C.hm) I.kIn J e (fun z => nomatch z) fun tk => ⟨.bl b, H, I.kept (t' := tk) fun _ _ z => z, rfl, q⟩
/-! ### "0" * k -/
def noughts : Nat → Str
  | 1 => "0"
  | 2 => "00"
  | 3 => "000"
  | _ => "0000"
theorem op_noughts : OpR X (binaryOp .Mult) (fun x y H Q => ∃ k : Nat, x = .str "0" ∧ y = .int (k : Int) ∧ 1 ≤ k ∧ k ≤ 4 ∧ Q (.str (noughts k)) H) := by
  intro pins st σ H x y v u Q I rx ry h
  obtain ⟨k, rfl, rfl, k1, k4, q⟩ := h
  obtain ⟨t, rfl⟩ := (show ∃ t, v = Value.str "0" t from rx)
  obtain ⟨t2, rfl⟩ := (show ∃ t, u = Value.int (k : Int) t from ry)
  have cases_ : k = 1 ∨ k = 2 ∨ k = 3 ∨ k = 4 := by omega
  have fin : ∀ (z : Str) (tk tk2 : Nat), z = noughts k → EP X pins σ Q (.str z tk) { st with toks := tk2 } := fun z tk tk2 e => by
    subst e
    exact ⟨.str (noughts k), H, I.kept (t' := tk2) fun _ _ z => z, ⟨tk, rfl⟩, q⟩
  refine P.mul_str ?_ ?_ ?_ ?_
  · rcases cases_ with rfl | rfl | rfl | rfl <;> decide +kernel
  · rcases cases_ with rfl | rfl | rfl | rfl <;> decide +kernel
  · rcases cases_ with rfl | rfl | rfl | rfl <;> decide +kernel
  · rcases cases_ with rfl | rfl | rfl | rfl
    · rw [if_neg (by decide), if_pos (by decide +kernel)]
      exact ⟨.str (noughts 1), H, I, ⟨t, rfl⟩, q⟩
    · rw [if_neg (by decide), if_neg (by decide +kernel)]
      exact ⟨by decide +kernel, fin _ _ _ (by decide +kernel)⟩
    · rw [if_neg (by decide), if_neg (by decide +kernel)]
      exact ⟨by decide +kernel, fin _ _ _ (by decide +kernel)⟩
    · rw [if_neg (by decide), if_neg (by decide +kernel)]
      exact ⟨by decide +kernel, fin _ _ _ (by decide +kernel)⟩
end
/-! ### calls with keywords -/
structure CalN (P : Program) (w : World) (K : PySem.W.Frag) (mg : Str → Option Value) (base : Heap) (CX : CXT) (k n : Nat) (x : Str) (ps ks : List Str) (gV : List V → List V → List V) (sp : Sp) : Prop where
  ex : ∃ (f : Addr) (fd : FuncData) (g : List Value → List Value → List Value), mg x = some (.ref f) ∧ PySem.W.keepIn K (.ref f) = true ∧ KBn K fd ps n ks g gV ∧ FnOk P w K mg base CX k f fd ps sp
section
variable {X : Cx} {CX : CXT} {k j n : Nat} {x : Str} {ps ks : List Str} {gV : List V → List V → List V} {sp : Sp} {e : Expr} {es : List Expr} {kws : List Keyword} {t tk : TA} {E : XK} {p pos : Pos}
theorem pe_callN0 (c : CalN X.prog X.w X.K X.mg X.base CX k 0 x ps ks gV sp) (hr : Room j X.A) (hx : Passes CX X E) (hkw : PK X kws tk) (hk : k ≤ j := by decide) (hg : Gl X x := by rfl)
    (hal : (backToKw pos (keywordEach kws X.env)).all (·.1.isSome) = true := by rfl) (hky : (backToKw pos (keywordEach kws X.env)).filterMap (·.1) = ks := by rfl) (hdb : (x == ("__debug__" : Str)) = false := by decide)
    (hnp : ((backTo pos (starEach [] X.env)).any (·.1) || (backToKw pos (keywordEach kws X.env)).any (·.1.isNone)) = false := by rfl) :
    PE X (.Call (.Name x p) [] kws pos) (tCallN 0 ks.length sp gV E tNil tk) := by
  obtain ⟨f, fd, g, h1, h2, h3, h4⟩ := c.ex
  refine ⟨fun pins s σ H Q I h => wpAny_Call_Name_kw (ld_glob I hg h1 ?_ hdb)⟩
  refine PySem.W.callWith_KW0 (h₀ := X.base) I.ok.mod.kin h2 hal ?_ hnp
  refine thn (hkw.run pos pins s σ H _ I h) fun ws s2 ⟨zs, H2, I2, rz, _, l2, q2⟩ => ⟨I2.kIn, ?_⟩
  rw [hky]
  exact run_fnN (us := []) (vs := []) h4 (hr.mono hk) h3 hx I2 .nil rz rfl l2 q2
theorem pe_callNn (c : CalN X.prog X.w X.K X.mg X.base CX k n x ps ks gV sp) (hr : Room j X.A) (hx : Passes CX X E) (ha : PA X (e :: es) t) (hkw : PK X kws tk) (hk : k ≤ j := by decide) (hg : Gl X x := by rfl)
    (hal : (backToKw pos (keywordEach kws X.env)).all (·.1.isSome) = true := by rfl) (hky : (backToKw pos (keywordEach kws X.env)).filterMap (·.1) = ks := by rfl) (hdb : (x == ("__debug__" : Str)) = false := by decide)
    (he : starEach (e :: es) X.env = (false, eval e X.env) :: starEach es X.env := by rfl)
    (hnp : ((backTo pos (starEach (e :: es) X.env)).any (·.1) || (backToKw pos (keywordEach kws X.env)).any (·.1.isNone)) = false := by rfl) : PE X (.Call (.Name x p) (e :: es) kws pos) (tCallN n ks.length sp gV E t tk) := by
  obtain ⟨f, fd, g, h1, h2, h3, h4⟩ := c.ex
  exact pe_callN h4 (hr.mono hk) hg h1 h2 h3 hx ha hkw hal hky hdb he hnp
end
end Kx
/-! exceptions held as values: their class asked, their fields read. -/
namespace Kx
open L2 PySem PySem.Spec PyProof.Rows
/-- an exception stands at a: its class C, its dict at d -/
def IsEv (a C d : Addr) (h : Heap) : Prop := ∃ (ob : Obj) (ws : Array Value), h.get? a = some ob ∧ Zc (.ref C) (some d) ob ∧ ob.data = .fields ws
structure EvAt (H : Hp) (a C d : Addr) (fs : List (Str × V)) : Prop where
  ob : ∃ φ : Heap → Prop, H a = some (.ext φ) ∧ ∀ h, φ h → IsEv a C d h
  di : H d = some (.xd fs) ∨ H d = some (exd d fs)
theorem EvAt.same {H H' : Hp} {a C d : Addr} {fs : List (Str × V)} (e : Same H H') (h : EvAt H a C d fs) : EvAt H' a C d fs := by
  obtain ⟨⟨φ, h1, h2⟩, h3⟩ := h
  exact ⟨⟨φ, e _ _ h1, h2⟩, h3.imp (e _ _) (e _ _)⟩
theorem exo_ev {H : Hp} {a C d : Addr} {fs : List (Str × V)} (h1 : H a = some (exo a C (some d))) (h2 : H d = some (exd d fs)) : EvAt H a C d fs :=
  ⟨⟨_, h1, fun h ⟨t, q⟩ => ⟨_, _, q, ⟨rfl, rfl⟩, rfl⟩⟩, .inr h2⟩
section
variable {X : Cx} {pins : List (Addr × Obj)} {σ : L2.St} {H : Hp} {s : Shared} {a C d : Addr} {fs : List (Str × V)}
theorem EvAt.there (E : EvAt H a C d fs) (I : Inv X pins σ H s) : IsEv a C d s.heap ∧ ∃ mA, s.heap.Ns1 d mA ∧ ∀ f, RelO (fs.lookup f) (mA f) := by
  obtain ⟨⟨φ, h1, h2⟩, h3⟩ := E
  refine ⟨h2 _ (show ObjOk X.prog X.w H s.heap a (.ext φ) from I.hok a _ h1).1, ?_⟩
  rcases h3 with h3 | h3
  · obtain ⟨mA, z, r⟩ := (show ObjOk X.prog X.w H s.heap d (.xd fs) from I.hok d _ h3)
    exact ⟨mA, z, r⟩
  · exact exd_at I.hok h3
end
/-- isinstance(e, c) of such a value -/
def rIsV (K : PySem.W.Frag) : List V → Hp → VK → Prop := fun xs H Q => ∃ (a D d : Addr) (fs : List (Str × V)) (c : V) (cv : Value) (b : Bool), xs = [.ref a, c] ∧ EvAt H a D d fs ∧ ExcC K D ∧ (∀ u, RelV c u → u = cv) ∧ PySem.W.kitOne K (.ref D) cv = some b ∧ Q (.bl b) H
theorem call_isV {X : Cx} : CallR X (.builtin "isinstance") (rIsV X.K) := by
  rintro pins s σ H xs us Q I r ⟨a, D, d, fs, c, cv, b, rfl, E, C, hcv, e, q⟩
  obtain ⟨⟨ob, ws, h1, h2, h3⟩, mA, hns, _⟩ := E.there I
  cases r with
  | cons rx rr =>
    cases rr with
    | cons rt rr =>
      cases rr
      cases rx
      obtain rfl := hcv _ rt
      obtain ⟨od, ho, _⟩ := lookIn_ns hns
      have J : PySem.W.InstAt s.heap a ob D (some od) := by
        obtain ⟨c1, c2, c3, c4⟩ := ob
        obtain ⟨z1, z2⟩ := h2
        dsimp only at z1 z2 h3
        subst z1 z2 h3
        exact ⟨h1, rfl, rfl, ho⟩
      have cl : (PySem.W.clsIn X.K D).isSome = true := by
        obtain ⟨cd, hc, _⟩ := PySem.W.any_some C.hd
        rw [hc]
        rfl
      exact PySem.W.kia_one (PySem.W.kitx_exc cl C.hg C.hk C.hs C.ha C.hn C.ht C.hm) I.kIn J e (fun z => nomatch z) fun tk => ⟨.bl b, H, I.kept (t' := tk) fun _ _ z => z, rfl, q⟩
/-- e.f of such a value -/
def tEv (K : PySem.W.Frag) (f : Str) (te : TE) : TE := fun σ H Q => te σ H fun x H1 => ∃ (a D d : Addr) (fs : List (Str × V)) (v : V), x = .ref a ∧ EvAt H1 a D d fs ∧ XfC K D ∧ PySem.W.findIn K (.ref D) f = some none ∧ fs.lookup f = some v ∧ Q v H1
theorem pe_ev {X : Cx} {e : Expr} {te : TE} {pos : Pos} {n : Str} (he : PE X e te) (hb : attributeBase e n X.env (eval e X.env) = eval e X.env := by rfl) : PE X (.Attribute e n pos) (tEv X.K n te) := by
  refine ⟨fun pins s σ H Q I h => attr_of hb (thn (he.run pins s σ H _ I h) fun u s1 hh => ?_)⟩
  obtain ⟨x, H1, I1, rx, a, D, d, fs, v, rfl, E, T, no, l, q⟩ := hh
  obtain rfl := (show u = Value.ref a from rx)
  obtain ⟨⟨ob, ws, h1, h2, h3⟩, mA, hns, hr⟩ := E.there I1
  obtain ⟨od, hod, hlk⟩ := lookIn_ns hns
  obtain ⟨u, hu, ru⟩ := RelO.some_of (v := v) (o := mA n) (l ▸ hr n)
  have J : PySem.W.InstAt s1.heap a ob D (some od) := ⟨h1, h2.1, by unfold PySem.W.notCls; rw [h3] <;> rfl, by rw [h2.2]; exact hod⟩
  exact HandSPX.exc_get I1.kIn J T.ga T.gg T.exC (PySem.W.findObj_own T.hdC no rfl (by rw [hlk, hu])) (handed_of ru) ⟨v, H1, I1.tok _, ru, q⟩
end Kx
/-! own exceptions are made: by place, by name. -/
namespace Kx
open PySem PySem.W PySem.Calls PyProof.Rows PySem.HandSPX
/-- what the written part holds of such a class -/
structure EvC (K : Frag) (C : Addr) : Prop where
  cls : ∃ (B newId initId : String) (up : List Value) (nm q : Str) (N : Addr) (bs bm : List Value) (sn : List Str) (sub : List Value) (ab : Bool) (col : Option Bool) (dd : Option Addr) (k0 k1 k2 k3 k5 : Option Value),
    ExcBaseFacts B newId initId up ∧ K.lookup C = some (excClassObj nm q C N bs bm true sn sub ab col dd k0 k1 k2 k3 k5 newId) ∧ (Value.ref C :: bm).contains (.type B) = true ∧ (Value.ref C :: bm).contains (.type "AttributeError") = false ∧ (Value.ref C :: bm).contains (.type "NameError") = false
  exC : subIn K (.ref C) (.type "BaseException") = some true
  tyC : typeIn K (.ref C) = some (.type "type")
  kC : keepIn K (.ref C) = true
section
variable {h : Heap} {g : Array GenState} {d : Drawn} {t : Nat} {os : OsState} {prog : Program} {w : World} {A : Around} {R : Result → Shared → Prop} {E : Value → Shared → Prop}
variable {B newId initId : String} {up : List Value} {nm q : Str} {C N : Addr} {bs bm : List Value} {sn : List Str} {sub : List Value} {ab : Bool} {col : Option Bool} {dd : Option Addr} {k0 k1 k2 k3 k5 : Option Value} {more : List Value} {kw : List (Str × Value)}
theorem ev_check {M : Model} {Q : Unit → Shared → Prop} (F : ExcBaseFacts B newId initId up) (stands : h.get? C = some (excClassObj nm q C N bs bm true sn sub ab col dd k0 k1 k2 k3 k5 newId)) (isB : (Value.ref C :: bm).contains (.type B) = true) (done : Q () ⟨h, g, d, t, os⟩) :
    wpAny M A (checkBuiltinCall newId ⟨.ref C :: more, kw⟩) Q E ⟨h, g, d, t, os⟩ := by
  have short := F.noStar
  simp only [checkBuiltinCall, F.newSplit, F.newKind, F.newRow]
  repeat (first
    | refine wpAny_loadPart_at stands ?_
    | (refine wpAny_isSubtype_exc stands ?_; rw [isB])
    | refine wpAny_staticBase_exc stands ?_
    | refine wpAny_madeBy_exc stands ?_
    | simp only [bne_self_eq_false, Bool.false_eq_true, if_false]
    | wp_step)
  exact done
theorem ev_new (F : ExcBaseFacts B newId initId up) (stands : h.get? C = some (excClassObj nm q C N bs bm true sn sub ab col dd k0 k1 k2 k3 k5 newId)) (isB : (Value.ref C :: bm).contains (.type B) = true) (noA : (Value.ref C :: bm).contains (.type "AttributeError") = false) (noN : (Value.ref C :: bm).contains (.type "NameError") = false)
    (fits : more.length ≤ sizeLine) (done : R (.ok (.ret (.ref (h.objs.size + 1)))) ⟨(h.push (kdv_tup more)).push (excO C h.objs.size), g, d, t, os⟩) : codeAny (model prog w) A (.builtin newId ⟨.ref C :: more, kw⟩) R ⟨h, g, d, t, os⟩ := by
  have ends := F.ends
  refine codeAny_builtinAt F.entry ?_; unfold Builtin.«BaseException.__new__»; refine PySem.wpAt_bind ?_
  show PySem.wpAt _ _ _ (stack >>= _) _ _ _
  refine PySem.wpAt_bind (PySem.wpAt_stack fun _ _ => PySem.wpAt_of_wpAny ?_)
  wp_walk
  refine PySem.wpAt_of_wpAny ?_
  rw [F.owner]
  repeat (first
    | with_reducible refine wpAny_madeHere_exc F.canon stands ?_
    | with_reducible refine wpAny_loadPart_at stands ?_
    | (with_reducible refine wpAny_isSubtype_exc stands ?_; first | rw [isB] | rw [noA] | rw [noN])
    | wp_step)
  show R _ _
  rw [Heap.size_push]
  exact done
theorem ev_called {fI : Addr} (F : ExcBaseFacts B newId initId up) (stands : h.get? C = some (excClassObj nm q C N bs bm true sn sub ab col dd k0 k1 k2 k3 k5 newId)) (isB : (Value.ref C :: bm).contains (.type B) = true) (noA : (Value.ref C :: bm).contains (.type "AttributeError") = false) (noN : (Value.ref C :: bm).contains (.type "NameError") = false)
    (hi : Looks (model prog w) h (typeLookup (.ref C) "__init__") (some (.ref fI))) (hb : ∀ self, Looks (model prog w) h (bindSpecial (.ref fI) self) (.ref fI, [self])) (fits : more.length ≤ sizeLine)
    (done : codeAny (model prog w) (A.under (.builtin "type.__call__" ⟨.ref C :: more, kw⟩)) (.call (.ref fI) ⟨.ref (h.objs.size + 1) :: more, kw⟩) (InitBack (h.objs.size + 1) R) ⟨(h.push (kdv_tup more)).push (excO C h.objs.size), g, d, t, os⟩) :
    codeAny (model prog w) A (.call (.ref C) ⟨more, kw⟩) R ⟨h, g, d, t, os⟩ := by
  have l1 := tc_lookup
  have l2 := tc_bind (.ref C)
  have isTy : (⟨h, g, d, t, os⟩ : Shared).TypeIs (.ref C) "type" := ⟨_, stands, rfl⟩
  have all : ∀ b o, h.get? b = some o → ((h.push (kdv_tup more)).push (excO C h.objs.size)).get? b = some o := fun b o z => Heap.get?_push_of_some _ (Heap.get?_push_of_some _ z)
  refine codeAny_of_tree ?_
  show wpAny _ _ (callAny (.ref C) _) _ _ _; repeat (any_goals (first | assumption | with_reducible refine wpAny_loadPart_at stands ?_ | wp_step))
  refine ⟨rfl, ?_⟩
  refine codeAny_call_builtin_at (Code.quiet_builtin _ (by decide +kernel)) entry_typeCall (wpAny_check_type_call_sub stands ?_)
  repeat (first | with_reducible refine wpAny_loadPart_at stands ?_ | with_reducible refine wpAny_madeBy_exc stands ?_ | wp_step)
  refine codeAny_call_builtin_code (Code.quiet_builtin _ F.quiet) (ev_check F stands isB (ev_new F stands isB noA noN fits ?_))
  show wpAny _ _ _ _ _ _
  have hC1 := all _ _ stands
  have made : ((h.push (kdv_tup more)).push (excO C h.objs.size)).get? (h.objs.size + 1) = some (excO C h.objs.size) := by heap_get
  have own : (Value.ref C :: bm).contains (.ref C) = true := by simp
  have i1 := hi.keeps all
  have b1 := (hb (.ref (h.objs.size + 1))).keeps all
  unfold isInstance
  repeat (first | with_reducible refine wpAny_loadPart_at made ?_ | wp_step)
  show wpAny _ _ (isSubtype (.ref C) (.ref C)) _ _ ⟨(h.push (kdv_tup more)).push (excO C h.objs.size), g, d, t, os⟩
  refine wpAny_isSubtype_exc hC1 ?_
  rw [own]
  repeat wp_step
  show wpAny _ _ (typeLookup (.ref C) _) _ _ _; refine i1.at (wpAny_holding (wpAny_bind (b1.at (wpAny_bind (wpAny_call (codeAny_mono done fun r s' z => ?_))))))
  match r, z with
  | .error _, z => exact z
  | .ok .next, z => exact z.elim
  | .ok .brk, z => exact z.elim
  | .ok .cont, z => exact z.elim
  | .ok (.ret _), ⟨e1, z⟩ =>
    subst e1
    first | (wp_walk; exact z) | exact wpAny_pure (wpAny_pure z)
end
end Kx
/-! own exceptions as values; raised, their context None. -/
namespace Kx
open L2 PySem PySem.Spec PyProof.Rows
theorem EvC.of {K : PySem.W.Frag} {C : Addr} (T : OexC K C) : EvC K C := by
  obtain ⟨nm, q, N, bs, bm, sn, sub, ab, col, dd, v0, v1, v2, v3, v5, hC, hbm⟩ := T.cls
  have has := fun Y => PySem.HandSPX.refsVE_contains Y bm hbm
  refine ⟨⟨_, _, _, _, nm, q, N, bs, bm, sn, sub, ab, col, dd, v0, v1, v2, v3, v5, F.excBase_ValueError, hC, ?_, ?_, ?_⟩, T.exC, T.tyC, T.kC⟩
  · rw [List.contains_cons, has, F.excBase_ValueError.hasB, Bool.or_true]
  · rw [List.contains_cons, has, F.excBase_ValueError.noAttr]
    rfl
  · rw [List.contains_cons, has, F.excBase_ValueError.noName]
    rfl
theorem EvC.ofKey {K : PySem.W.Frag} {C : Addr} (T : KeyC K C) : EvC K C := by
  obtain ⟨nm, q, N, bs, sn, sub, ab, col, dd, k0, k1, k2, k3, k5, hC⟩ := T.cls
  exact ⟨⟨_, _, _, _, nm, q, N, bs, keyTail, sn, sub, ab, col, dd, k0, k1, k2, k3, k5, F.excBase_LookupError, hC, in_tail (by decide +kernel), in_tail (by decide +kernel), in_tail (by decide +kernel)⟩, T.exC, T.tyC, T.kC⟩
/-- what a made one leaves: the state at the init's start, the init's end -/
def Born (X : Cx) (pins : List (Addr × Obj)) (σ : L2.St) (H : Hp) (C : Addr) (G : Addr → Hp → Prop) (s : Shared) (u : Value) (s' : Shared) : Prop :=
  ∃ (a : Addr) (h2 : Heap), u = .ref a ∧ s.heap.objs.size ≤ a ∧ H a = none ∧ (∀ b o, s.heap.get? b = some o → h2.get? b = some o) ∧ Inv X pins σ (upd H a (exo a C none)) { s with heap := h2 } ∧
    ∃ v, CE X.stack X.prog X.w (upd H a (exo a C none)) { s with heap := h2 } (fun y H2 => y = .non ∧ G a H2) v s'
section
variable {X : Cx} {pins : List (Addr × Obj)} {σ : L2.St} {H : Hp} {s : Shared} {C fI : Addr} {fd : FuncData} {ps ks : List Str} {sp : Sp} {k : Nat} {G : Addr → Hp → Prop}
theorem ev_run {us ws us2 : List Value} {vs2 : List V} (T : EvC X.K C) (iC : PySem.W.findIn X.K (.ref C) "__init__" = some (some (.ref fI))) (tI : PySem.W.typeIn X.K (.ref fI) = some (.type "function")) (F1 : FnOk X.prog X.w X.K X.mg X.base CX0 k fI fd ps sp) (hr : Room (k + 1) X.A) (I : Inv X pins σ H s)
    (hb : ∀ (s' : Shared) (a : Addr), X.K.In s'.heap → BindsTo s' fd ⟨.ref a :: us, ks.zip ws⟩ (ps.zip (.ref a :: us2))) (rel : Vals vs2 us2) (fits : us.length ≤ sizeLine)
    (h : ∀ a, H a = none → sp (.ref a :: vs2) (upd H a (exo a C none)) (fun y H2 => y = .non ∧ G a H2) (fun _ _ _ => False)) :
    wpAny (model X.prog X.w) X.A (call (.ref C) us (ks.zip ws)) (Born X pins σ H C G s) X.xe s := by
  obtain ⟨B, newId, initId, up, nm, q, N, bs, bm, sn, sub, ab, col, dd, k0, k1, k2, k3, k5, F, hC, isB, noA, noN⟩ := T.cls
  obtain ⟨hp, g, dr, tk, os⟩ := (s : Shared)
  have more : hp.objs.size ≤ hp.objs.size + 1 := Nat.le_succ _
  have hn : H (hp.objs.size + 1) = none := I.hok.fresh more
  have all : ∀ b o, hp.get? b = some o → ((hp.push (PySem.W.kdv_tup us)).push (PySem.HandSPX.excO C hp.objs.size)).get? b = some o := fun b o z => Heap.get?_push_of_some _ (Heap.get?_push_of_some _ z)
  have here : ((hp.push (PySem.W.kdv_tup us)).push (PySem.HandSPX.excO C hp.objs.size)).get? (hp.objs.size + 1) = some (PySem.HandSPX.excO C hp.objs.size) := by heap_get
  have J : Inv X pins σ (upd H (hp.objs.size + 1) (exo (hp.objs.size + 1) C none)) ⟨(hp.push (PySem.W.kdv_tup us)).push (PySem.HandSPX.excO C hp.objs.size), g, dr, tk, os⟩ :=
    I.laid (t' := tk) all more (exo_ok here)
  refine wpAny_call (ev_called F (I.kIn _ _ hC) isB noA noN (PySem.W.looks_findIn I.kIn iC) (fun self => PySem.W.bind_fn I.kIn self tI) fits
    (codeAny_mono (F1.run _ X.stack _ _ ⟨Value.ref (hp.objs.size + 1) :: us, ks.zip ws⟩ (Value.ref (hp.objs.size + 1) :: us2) _ _ (fun _ _ _ => False) (hr.make C us (ks.zip ws)) (J.env0.make C us (ks.zip ws)) (hb _ _ J.kIn) (show Vals (V.ref (hp.objs.size + 1) :: vs2) (Value.ref (hp.objs.size + 1) :: us2) from .cons rfl rel) (h _ hn)) fun r s' z => ?_))
  match r, z with
  | .error _, z => exact z.elim
  | .ok .next, z => exact z.elim
  | .ok .brk, z => exact z.elim
  | .ok .cont, z => exact z.elim
  | .ok (.ret u), z =>
    have rv : u = Value.none := by
      obtain ⟨v, H2, _, _, _, _, r, e, _⟩ := z
      subst e
      exact r
    exact ⟨rv, _, _, rfl, more, hn, all, J, _, z⟩
theorem Born.value {Q : VK} {u : Value} {s' : Shared} (b : Born X pins σ H C (fun a H2 => Q (.ref a) H2) s u s') : EP X pins σ Q u s' := by
  obtain ⟨a, h2, rfl, _, _, _, J, v, ce⟩ := b
  obtain ⟨y, H2, J2, _, _, q⟩ := J.after ce
  exact ⟨.ref a, H2, J2, rfl, q⟩
theorem Born.raised {Q : XK} {u : Value} {s' : Shared} (T : EvC X.K C) (I : Inv X pins σ H s)
    (b : Born X pins σ H C (fun a H2 => ∃ (d : Addr) (fs : List (Str × V)), H2 a = some (exo a C (some d)) ∧ H2 d = some (exd d fs) ∧ H d = none ∧ Q (.ref C) (some d) (upd (del H2 a) d (.xd fs))) s u s') : L2N.MkP X pins σ Q u s' := by
  obtain ⟨a, h2, rfl, ha, hn, all, J, v, ce⟩ := b
  obtain ⟨y, H2, os2, bare2, un2, hok2, rv, ev, d, fs, ea, ed, hd1, q⟩ := ce
  obtain ⟨hp, gz, dr, tk, os⟩ := s
  obtain ⟨h3, g3, d3, t3, os3⟩ := s'
  obtain ⟨t0, G, J2, kG, ge, hoe, na⟩ := mk_end0 (d2 := d3) (t2 := t3) I ha all un2 hok2 os2 bare2 ea ed hd1
  refine ⟨a, _, _, ⟨G, g3, d3, t3, os3⟩, _, .ref C, some d, rfl, J2, kG, ge, hoe, ⟨rfl, rfl, fun ws hw => ?_⟩, rfl, rfl, na, rfl, bare2, raises_own T.exC T.tyC, q⟩
  cases hw
  rfl
end
/-- C(e, ..): what the init is asked -/
def tBorn (C : Addr) (sp : Sp) (ta : TA) (P : Hp → Addr → Hp → (V → Hp → Prop) → Prop) : TE := fun σ H Q => ta σ H fun vs H1 => vs.length ≤ 1000 ∧ ∀ a, H1 a = none → sp (.ref a :: vs) (upd H1 a (exo a C none)) (fun y H2 => y = .non ∧ P H1 a H2 Q) (fun _ _ _ => False)
/-- C(e, ..) as a value -/
def tMkV (C : Addr) (sp : Sp) (ta : TA) : TE := fun σ H Q => ta σ H fun vs H1 => vs.length ≤ 1000 ∧ ∀ a, H1 a = none → sp (.ref a :: vs) (upd H1 a (exo a C none)) (fun y H2 => y = .non ∧ Q (.ref a) H2) (fun _ _ _ => False)
/-- C(k = e, ..) as a value -/
def tMkVK (C : Addr) (m : Nat) (sp : Sp) (gV : List V → List V) (tk : TA) : TE := fun σ H Q => tk σ H fun zs H1 => zs.length = m ∧ ∀ a, H1 a = none → sp (.ref a :: gV zs) (upd H1 a (exo a C none)) (fun y H2 => y = .non ∧ Q (.ref a) H2) (fun _ _ _ => False)
/-- C(e, ..), to be raised -/
def tMkN (C : Addr) (sp : Sp) (ta : TA) : L2.St → Hp → XK → Prop := fun σ H Q => ta σ H fun vs H1 => vs.length ≤ 1000 ∧ ∀ a, H1 a = none → sp (.ref a :: vs) (upd H1 a (exo a C none))
  (fun y H2 => y = .non ∧ ∃ (d : Addr) (fs : List (Str × V)), H2 a = some (exo a C (some d)) ∧ H2 d = some (exd d fs) ∧ H1 d = none ∧ Q (.ref C) (some d) (upd (del H2 a) d (.xd fs))) (fun _ _ _ => False)
section
variable {X : Cx} {C fI : Addr} {fd : FuncData} {ps ks : List Str} {sp : Sp} {k : Nat} {x : Str} {e : Expr} {es : List Expr} {kws : List Keyword} {ta tk : TA} {p pos : Pos}
theorem fits_of {vs : List V} {us : List Value} (r : Vals vs us) (h : vs.length ≤ 1000) : us.length ≤ sizeLine := by
  rw [← Paired.length r, sizeLine_eq]
  omega
theorem binds_all (hb : Binds X.K fd ps []) {us : List Value} (n : us.length + 1 = ps.length) (s' : Shared) (a : Addr) (z : X.K.In s'.heap) : BindsTo s' fd ⟨.ref a :: us, ([] : List Str).zip ([] : List Value)⟩ (ps.zip (.ref a :: us)) := by
  have b := hb s' (.ref a :: us) z (by rw [List.append_nil]; exact n)
  rw [List.append_nil] at b
  exact b
theorem pe_mkV (T : EvC X.K C) (iC : PySem.W.findIn X.K (.ref C) "__init__" = some (some (.ref fI))) (tI : PySem.W.typeIn X.K (.ref fI) = some (.type "function")) (F1 : FnOk X.prog X.w X.K X.mg X.base CX0 k fI fd ps sp) (hr : Room (k + 1) X.A) (hb : Binds X.K fd ps []) (hm : X.mg x = some (.ref C)) (ha : PA X (e :: es) ta) (hg : Gl X x := by rfl)
    (hdb : (x == ("__debug__" : Str)) = false := by decide) (he : starEach (e :: es) X.env = (false, eval e X.env) :: starEach es X.env := by rfl) (hpl : (backTo pos (starEach es X.env)).any (·.1) = false := by rfl) : PE X (.Call (.Name x p) (e :: es) [] pos) (tMkV C sp ta) := by
  refine ⟨fun pins s σ H Q I h => wpAny_Call_Name_kw (ld_glob I hg hm ?_ hdb)⟩
  refine PySem.W.callWith_K (h₀ := X.base) I.ok.mod.kin T.kC (thn (ha.run pos pins s σ H _ I h) fun us s1 ⟨vs, H1, I1, r1, hz, q⟩ => ⟨I1.kIn, ?_⟩) he hpl
  have n : us.length + 1 = ps.length := by
    have l1 := F1.len _ _ _ _ (q s1.heap.objs.size (I1.hok.fresh (Nat.le_refl _)))
    have l2 := Paired.length r1
    rw [List.length_cons] at l1
    omega
  exact wpAny_mono (ev_run (ks := []) (ws := []) (G := fun a H2 => Q (.ref a) H2) T iC tI F1 hr I1 (binds_all hb n) r1 (fits_of r1 hz) q) (fun _ _ z => z.value) fun _ _ z => z
theorem pe_mkVK {g : List Value → List Value} {gV : List V → List V} (T : EvC X.K C) (iC : PySem.W.findIn X.K (.ref C) "__init__" = some (some (.ref fI))) (tI : PySem.W.typeIn X.K (.ref fI) = some (.type "function")) (F1 : FnOk X.prog X.w X.K X.mg X.base CX0 k fI fd ps sp) (hr : Room (k + 1) X.A)
    (hb : ∀ (s' : Shared) (a : Addr) (ws : List Value), X.K.In s'.heap → ws.length = ks.length → BindsTo s' fd ⟨[.ref a], ks.zip ws⟩ (ps.zip (.ref a :: g ws))) (rel : ∀ {zs : List V} {ws : List Value}, Vals zs ws → Vals (gV zs) (g ws)) (hm : X.mg x = some (.ref C)) (hkw : PK X kws tk) (hg : Gl X x := by rfl)
    (hal : (backToKw pos (keywordEach kws X.env)).all (·.1.isSome) = true := by rfl) (hky : (backToKw pos (keywordEach kws X.env)).filterMap (·.1) = ks := by rfl) (hdb : (x == ("__debug__" : Str)) = false := by decide)
    (hnp : ((backTo pos (starEach [] X.env)).any (·.1) || (backToKw pos (keywordEach kws X.env)).any (·.1.isNone)) = false := by rfl) : PE X (.Call (.Name x p) [] kws pos) (tMkVK C ks.length sp gV tk) := by
  refine ⟨fun pins s σ H Q I h => wpAny_Call_Name_kw (ld_glob I hg hm ?_ hdb)⟩
  refine PySem.W.callWith_KW0 (h₀ := X.base) I.ok.mod.kin T.kC hal ?_ hnp
  refine thn (hkw.run pos pins s σ H _ I h) fun ws s2 ⟨zs, H2, I2, rz, l2, q⟩ => ⟨I2.kIn, ?_⟩
  rw [hky]
  exact wpAny_mono (ev_run (us := []) (G := fun a H3 => Q (.ref a) H3) T iC tI F1 hr I2 (fun s' a z => hb s' a ws z (rz.length.symm.trans l2)) (rel rz) (Nat.zero_le _) q) (fun _ _ z => z.value) fun _ _ z => z
theorem pmkN (T : EvC X.K C) (iC : PySem.W.findIn X.K (.ref C) "__init__" = some (some (.ref fI))) (tI : PySem.W.typeIn X.K (.ref fI) = some (.type "function")) (F1 : FnOk X.prog X.w X.K X.mg X.base CX0 k fI fd ps sp) (hr : Room (k + 1) X.A) (hb : Binds X.K fd ps []) (hm : X.mg x = some (.ref C)) (ha : PA X (e :: es) ta) (hg : Gl X x := by rfl)
    (hdb : (x == ("__debug__" : Str)) = false := by decide) (he : starEach (e :: es) X.env = (false, eval e X.env) :: starEach es X.env := by rfl) (hpl : (backTo pos (starEach es X.env)).any (·.1) = false := by rfl) : L2N.PMk X (.Call (.Name x p) (e :: es) [] pos) (tMkN C sp ta) := by
  intro pins s σ H Q I h
  refine wpAny_Call_Name_kw (ld_glob (X := X) I hg hm ?_ hdb)
  refine PySem.W.callWith_K (h₀ := X.base) I.ok.mod.kin T.kC (thn (ha.run pos pins s σ H _ I h) fun us s1 ⟨vs, H1, I1, r1, hz, q⟩ => ⟨I1.kIn, ?_⟩) he hpl
  have n : us.length + 1 = ps.length := by
    have l1 := F1.len _ _ _ _ (q s1.heap.objs.size (I1.hok.fresh (Nat.le_refl _)))
    have l2 := Paired.length r1
    rw [List.length_cons] at l1
    omega
  exact wpAny_mono (ev_run (ks := []) (ws := []) T iC tI F1 hr I1 (binds_all hb n) r1 (fits_of r1 hz) q) (fun _ _ z => z.raised T I1) fun _ _ z => z
end
end Kx
/-! own errors raised, their context None: of one field, over ValueError or KeyError; of three. -/
namespace Kx
open L2 PySem PySem.Spec PyProof.Rows
/-! ### self.f = v on an error over KeyError -/
section
variable {X : Cx} {pins : List (Addr × Obj)} {σ : L2.St} {H : Hp} {s : Shared} {a C dx : Addr} {f : Str} {y : V}
theorem inv_dict {h' : Heap} {t1 : Addr} {tk : Nat} {u : Value} (I : Inv X pins σ H s) (ha : H a = some (exo a C none)) (k : ∀ b o, b ≠ a → s.heap.get? b = some o → h'.get? b = some o) (dn : s.heap.objs.size ≤ dx) (dne : dx ≠ a)
    (hx : h'.get? a = some { cls := .ref C, dict := some dx, data := .fields #[.ref t1, .none, .none, .none, .bool false, .none] }) (hn : h'.Ns1 dx (fun z => if z = f then some u else none)) (ry : RelV y u) :
    H dx = none ∧ Inv X pins σ (upd (upd H dx (exd dx [(f, y)])) a (exo a C (some dx))) { s with heap := h', toks := tk } := by
  have free : H dx = none := I.hok.fresh dn
  have nd : ∀ {b : Addr} {o : Obj}, s.heap.get? b = some o → b ≠ dx := fun q => Nat.ne_of_lt (Nat.lt_of_lt_of_le (Heap.lt_size q) dn)
  have na : ∀ {b : Addr}, H b = none → b ≠ a := fun {b} n => by
    rintro rfl
    rw [ha] at n
    exact nomatch n
  have step : Un X.fs [] H (upd (upd H dx (exd dx [(f, y)])) a (exo a C (some dx))) s.heap h' := {
    keep := fun b ob q n _ _ => k b ob (na n) q
    slot := fun b ob q n _ _ => ⟨ob.slots, k b ob (na n) q⟩
    free := fun b ob q n _ => by rw [upd_ne (na n), upd_ne (nd q)]; exact n
    there := fun b o q _ => (Decidable.em (b = a)).elim (fun e => ⟨_, e ▸ hx⟩) fun e => ⟨o, k b o e q⟩
    tups := fun b xs q => by rw [upd_ne (at_ne ha q exo_tup), upd_ne (ne_of_none q free)]; exact q
    frzs := fun b o v q => by rw [upd_ne (at_ne ha q exo_frz), upd_ne (ne_of_none q free)]; exact q
    tbls := fun b ps q => ⟨#[], by rw [upd_ne (at_ne ha q exo_tbl), upd_ne (ne_of_none q free), q, Array.append_empty]⟩ }
  refine ⟨free, I.un (t' := tk) step fun b o q => ?_⟩
  by_cases ea : b = a
  · subst ea
    rw [upd_same] at q
    obtain rfl := Option.some.inj q
    exact exo_ok hx
  rw [upd_ne ea] at q
  by_cases ed : b = dx
  · subst ed
    rw [upd_same] at q
    obtain rfl := Option.some.inj q
    exact exd_ok hn (relO_put (fs := []) ry fun _ => True.intro)
  rw [upd_ne ed] at q
  refine (I.hok b o q).stay (fun c v hc z => k c v (hc.elim (fun e => e ▸ ea) fun hc => at_ne ha hc exo_own) z) (fun c hc => ?_) fun c xs hc => ?_
  · rw [upd_ne (at_ne ha hc exo_own), upd_ne (ne_of_none hc free)]
    exact hc
  · rw [upd_ne (at_ne ha hc exo_tup), upd_ne (ne_of_none hc free)]
    exact hc
end
/-- self.f = e -/
def tOstK (K : PySem.W.Frag) (f : Str) (to te : TE) : TS := fun D σ H => te σ H fun y H1 => to σ H1 fun x H2 => ∃ a C : Addr, x = .ref a ∧ KeyC K C ∧ PySem.W.findIn K (.ref C) f = some none ∧ H2 a = some (exo a C none) ∧
  ∀ dx, H2 dx = none → dx ≠ a → D.nx σ (upd (upd H2 dx (exd dx [(f, y)])) a (exo a C (some dx)))
theorem ps_ostK {X : Cx} {o e : Expr} {to te : TE} {f : Str} {p' pos : Pos} (ho : PE X o to) (he : PE X e te) (hs : swapsWith e (some (.Attribute o f p')) pos.line X.env = pure false := by rfl) : PS X (.Assign [.Attribute o f p'] e pos) (tOstK X.K f to te) := by
  refine ⟨fun pins s σ H D I h => plainObj_wpAny_Assign_Attribute (thn (he.run pins s σ H _ I h) fun v s1 ⟨y, H1, I1, r1, q1⟩ => thn (ho.run pins s1 σ H1 _ I1 q1) fun u s2 ⟨x, H2, I2, r2, a, C, ex, T, no, ha, q⟩ => ?_) hs⟩
  subst ex
  obtain rfl := (show u = Value.ref a from r2)
  obtain ⟨t1, hob⟩ := exo_at I2.hok ha
  obtain ⟨hp, gz, dr, tk, os⟩ := s2
  refine PySem.W.set_plain I2.kIn (ox := { cls := .ref C, dict := none, data := .fields #[.ref t1, .none, .none, .none, .bool false, .none] }) (od := none) ⟨hob, rfl, rfl, trivial⟩ T.sa (key_osa T I2.kIn hob no fun h' tk' dx k dn dne hx hn => ?_)
  obtain ⟨free, J⟩ := inv_dict (tk := tk') I2 ha k dn dne hx hn r1
  exact ⟨σ, _, J, q dx free dne⟩
theorem ok_keepK {P : Program} {w : World} {K : PySem.W.Frag} {mg : Str → Option Value} {base : Heap} {C fI : Addr} {fd : FuncData} {f qual : Str} {params : Arguments} {scope : Scope} {p1 p2 p3 p4 : Pos}
    (F : FunD K "__init__" qual params [.Assign [.Attribute (.Name "self" p1) f p2] (.Name f p3) p4] scope [] [] fI fd) (T : KeyC K C) (no : PySem.W.findIn K (.ref C) f = some none)
    (sc : FnScope ["self", f] ["self", f] scope) (hd : (f == ("__debug__" : Str)) = false) (hcd : (f == ("__classdict__" : Str)) = false) (l0 : scope.names.lookup ("self" : Str) = some .local) (l1 : scope.names.lookup f = some .local) :
    FnOk P w K mg base CX0 1 fI fd ["self", f] (spKeep K C f) := by
  refine F.ok sc (fun vs H Q E h => ?_) (fun cdv A outer s H vs Q E hr h => ?_)
  · obtain ⟨a, v, rfl, _⟩ := h
    rfl
  · obtain ⟨a, v, rfl, ha, k⟩ := h
    exact ⟨_, pss_one (ps_ostK (pe_var (i := 0) rfl (.inl l0)) (pe_var (i := 1) rfl (.inl l1) hd hcd)), _, rfl, _, rfl, a, C, rfl, T, no, ha, fun dx n1 n2 => k dx n1 n2⟩
/-! ### what the module holds of an error of one field, of whatever base -/
structure ErrN (P : Program) (w : World) (K : PySem.W.Frag) (mg : Str → Option Value) (base : Heap) (k : Nat) (x f : Str) (C : Addr) : Prop where
  at_ : mg x = some (.ref C)
  cls : EvC K C
  ini : ∃ (fI : Addr) (fd : FuncData), PySem.W.findIn K (.ref C) "__init__" = some (some (.ref fI)) ∧ PySem.W.typeIn K (.ref fI) = some (.type "function") ∧ Binds K fd ["self", f] [] ∧ FnOk P w K mg base CX0 k fI fd ["self", f] (spKeep K C f) ∧
    ∀ (s' : Shared) (a : Addr) (ws : List Value), K.In s'.heap → ws.length = 1 → BindsTo s' fd ⟨[.ref a], ([f] : List Str).zip ws⟩ ((["self", f] : List Str).zip (.ref a :: ws))
section
variable {X : Cx} {k j : Nat} {x f : Str} {C : Addr} {e : Expr} {ta : TA} {W : WX} {p pos p2 : Pos}
theorem psN (T : ErrN X.prog X.w X.K X.mg X.base k x f C) (hc : X.calm = true) (hr : Room j X.A) (tk : L2N.Takes X W) (ha : PA X [e] ta) (hk : k + 1 ≤ j := by decide) (hg : Gl X x := by rfl) (hdb : (x == ("__debug__" : Str)) = false := by decide)
    (he : starEach (e :: []) X.env = (false, eval e X.env) :: starEach [] X.env := by rfl) (hpl : (backTo pos (starEach [] X.env)).any (·.1) = false := by rfl) :
    PS X (.Raise (some (.Call (.Name x p) [e] [] pos)) none p2) (fun _ σ H => tMkN C (spKeep X.K C f) ta σ H fun cls d H' => W cls d σ H') := by
  obtain ⟨fI, fd, h1, h2, h3, h4, _⟩ := T.ini
  exact L2N.ps_raise hc tk (pmkN T.cls h1 h2 h4 (hr.mono hk) h3 T.at_ ha hg hdb he hpl)
/-- C(e) as a value -/
theorem peV (T : ErrN X.prog X.w X.K X.mg X.base k x f C) (hr : Room j X.A) (ha : PA X [e] ta) (hk : k + 1 ≤ j := by decide) (hg : Gl X x := by rfl) (hdb : (x == ("__debug__" : Str)) = false := by decide)
    (he : starEach (e :: []) X.env = (false, eval e X.env) :: starEach [] X.env := by rfl) (hpl : (backTo pos (starEach [] X.env)).any (·.1) = false := by rfl) : PE X (.Call (.Name x p) [e] [] pos) (tMkV C (spKeep X.K C f) ta) := by
  obtain ⟨fI, fd, h1, h2, h3, h4, _⟩ := T.ini
  exact pe_mkV T.cls h1 h2 h4 (hr.mono hk) h3 T.at_ ha hg hdb he hpl
/-- C(f = e) as a value -/
theorem peVK {kws : List Keyword} {tk : TA} (T : ErrN X.prog X.w X.K X.mg X.base k x f C) (hr : Room j X.A) (hkw : PK X kws tk) (hk : k + 1 ≤ j := by decide) (hg : Gl X x := by rfl)
    (hal : (backToKw pos (keywordEach kws X.env)).all (·.1.isSome) = true := by rfl) (hky : (backToKw pos (keywordEach kws X.env)).filterMap (·.1) = [f] := by rfl) (hdb : (x == ("__debug__" : Str)) = false := by decide)
    (hnp : ((backTo pos (starEach [] X.env)).any (·.1) || (backToKw pos (keywordEach kws X.env)).any (·.1.isNone)) = false := by rfl) : PE X (.Call (.Name x p) [] kws pos) (tMkVK C 1 (spKeep X.K C f) id tk) := by
  obtain ⟨fI, fd, h1, h2, h3, h4, h5⟩ := T.ini
  exact pe_mkVK (g := id) (gV := id) (ks := [f]) T.cls h1 h2 h4 (hr.mono hk) h5 (fun r => r) T.at_ hkw hg hal hky hdb hnp
end
/-- a made value: what stands there -/
theorem made {K : PySem.W.Frag} {C : Addr} {f : Str} {v : V} {H : Hp} {Q : VK} (h : ∀ a d H', Same H H' → EvAt H' a C d [(f, v)] → Q (.ref a) H') :
    [v].length ≤ 1000 ∧ ∀ a, H a = none → spKeep K C f (.ref a :: [v]) (upd H a (exo a C none)) (fun y H2 => y = .non ∧ Q (.ref a) H2) (fun _ _ _ => False) := by
  refine ⟨Nat.succ_le_of_lt (by simp), fun a ha => ⟨a, v, rfl, upd_same, fun d hd ne => ⟨rfl, ?_⟩⟩⟩
  rw [upd_ne ne] at hd
  refine h a d _ (fun b o q => ?_) (exo_ev upd_same (by rw [upd_ne ne, upd_same]))
  have e1 := ne_of_none q ha
  rw [upd_ne e1, upd_ne (ne_of_none q hd), upd_ne e1]
  exact q
theorem madeK {K : PySem.W.Frag} {C : Addr} {f : Str} {v : V} {H : Hp} {Q : VK} (h : ∀ a d H', Same H H' → EvAt H' a C d [(f, v)] → Q (.ref a) H') :
    [v].length = 1 ∧ ∀ a, H a = none → spKeep K C f (.ref a :: id [v]) (upd H a (exo a C none)) (fun y H2 => y = .non ∧ Q (.ref a) H2) (fun _ _ _ => False) := ⟨rfl, (made h).2⟩
/-- raised -/
theorem thrownN {K : PySem.W.Frag} {C : Addr} {f : Str} {v : V} {H : Hp} {R : XK} (h : ∀ d, H d = none → R (.ref C) (some d) (upd H d (.xd [(f, v)]))) :
    [v].length ≤ 1000 ∧ ∀ a, H a = none → spKeep K C f (.ref a :: [v]) (upd H a (exo a C none))
      (fun y H2 => y = .non ∧ ∃ (d : Addr) (fs : List (Str × V)), H2 a = some (exo a C (some d)) ∧ H2 d = some (exd d fs) ∧ H d = none ∧ R (.ref C) (some d) (upd (del H2 a) d (.xd fs))) (fun _ _ _ => False) := thrown h
end Kx
/-! an own error of three fields. -/
namespace Kx
open L2 PySem PySem.Spec PyProof.Rows
def spKeep3 (K : PySem.W.Frag) (C : Addr) (f g h : Str) : Sp := fun vs H Q _ => ∃ (a : Addr) (x y z : V), vs = [.ref a, x, y, z] ∧ H a = some (exo a C none) ∧
  ∀ d H2, H d = none → d ≠ a → (∀ b, b ≠ a → b ≠ d → H2 b = H b) → H2 a = some (exo a C (some d)) → H2 d = some (exd d [(h, z), (g, y), (f, x)]) → Q .non H2
theorem ok_keep3 {P : Program} {w : World} {K : PySem.W.Frag} {mg : Str → Option Value} {base : Heap} {C fI : Addr} {fd : FuncData} {f g h qual : Str} {params : Arguments} {scope : Scope} {p1 p2 p3 p4 q1 q2 q3 q4 r1 r2 r3 r4 : Pos}
    (F : FunD K "__init__" qual params [.Assign [.Attribute (.Name "self" p1) f p2] (.Name f p3) p4, .Assign [.Attribute (.Name "self" q1) g q2] (.Name g q3) q4, .Assign [.Attribute (.Name "self" r1) h r2] (.Name h r3) r4] scope [] [] fI fd)
    (T : OexC K C) (nf : PySem.W.findIn K (.ref C) f = some none) (ng : PySem.W.findIn K (.ref C) g = some none) (nh : PySem.W.findIn K (.ref C) h = some none)
    (sc : FnScope ["self", f, g, h] ["self", f, g, h] scope) (df : (f == ("__debug__" : Str)) = false) (cf : (f == ("__classdict__" : Str)) = false) (dg : (g == ("__debug__" : Str)) = false) (cg : (g == ("__classdict__" : Str)) = false) (dh : (h == ("__debug__" : Str)) = false) (ch : (h == ("__classdict__" : Str)) = false)
    (l0 : scope.names.lookup ("self" : Str) = some .local) (lf : scope.names.lookup f = some .local) (lg : scope.names.lookup g = some .local) (lh : scope.names.lookup h = some .local) : FnOk P w K mg base CX0 1 fI fd ["self", f, g, h] (spKeep3 K C f g h) := by
  refine F.ok sc (fun vs H Q E z => ?_) (fun cdv A outer s H vs Q E hr z => ?_)
  · obtain ⟨a, x, y, z, rfl, _⟩ := z
    rfl
  · obtain ⟨a, x, y, z, rfl, ha, k⟩ := z
    refine ⟨_, pss_cons (ps_ost (pe_var (i := 0) rfl (.inl l0)) (pe_var (i := 1) rfl (.inl lf) df cf)) (pss_cons (ps_ost (pe_var (i := 0) rfl (.inl l0)) (pe_var (i := 2) rfl (.inl lg) dg cg)) (pss_one (ps_ost (pe_var (i := 0) rfl (.inl l0)) (pe_var (i := 3) rfl (.inl lh) dh ch)))), ?_⟩
    refine ⟨_, rfl, _, rfl, a, C, rfl, T, nf, .inl ⟨ha, fun d n1 n2 => ?_⟩⟩
    have a1 : upd (upd H d (exd d [(f, x)])) a (exo a C (some d)) a = some (exo a C (some d)) := upd_same
    have d1 : upd (upd H d (exd d [(f, x)])) a (exo a C (some d)) d = some (exd d [(f, x)]) := by rw [upd_ne n2, upd_same]
    refine ⟨_, rfl, _, rfl, a, C, rfl, T, ng, .inr ⟨d, _, a1, d1, by simp, ?_⟩⟩
    have a2 : upd (upd (upd H d (exd d [(f, x)])) a (exo a C (some d))) d (exd d [(g, y), (f, x)]) a = some (exo a C (some d)) := by rw [upd_ne (Ne.symm n2)]; exact a1
    refine ⟨_, rfl, _, rfl, a, C, rfl, T, nh, .inr ⟨d, _, a2, upd_same, by simp, ?_⟩⟩
    exact k d _ n1 n2 (fun b e1 e2 => by rw [upd_ne e2, upd_ne e2, upd_ne e1, upd_ne e2]) (by rw [upd_ne (Ne.symm n2)]; exact a2) upd_same
structure ErrF (P : Program) (w : World) (K : PySem.W.Frag) (mg : Str → Option Value) (base : Heap) (k : Nat) (x f g h : Str) (C : Addr) : Prop where
  at_ : mg x = some (.ref C)
  cls : OexC K C
  ini : ∃ (fI : Addr) (fd : FuncData), PySem.W.findIn K (.ref C) "__init__" = some (some (.ref fI)) ∧ PySem.W.typeIn K (.ref fI) = some (.type "function") ∧ Binds K fd ["self", f, g, h] [] ∧ FnOk P w K mg base CX0 k fI fd ["self", f, g, h] (spKeep3 K C f g h) ∧
    ∀ (s' : Shared) (a : Addr) (ws : List Value), K.In s'.heap → ws.length = 3 → BindsTo s' fd ⟨[.ref a], ([h, f, g] : List Str).zip ws⟩ ((["self", f, g, h] : List Str).zip (.ref a :: [ws.getD 1 .none, ws.getD 2 .none, ws.getD 0 .none]))
theorem made3 {K : PySem.W.Frag} {C : Addr} {f g h : Str} {x y z : V} {H : Hp} {Q : VK} (q : ∀ a d H', Same H H' → EvAt H' a C d [(h, z), (g, y), (f, x)] → Q (.ref a) H') :
    [x, y, z].length ≤ 1000 ∧ ∀ a, H a = none → spKeep3 K C f g h (.ref a :: [x, y, z]) (upd H a (exo a C none)) (fun u H2 => u = .non ∧ Q (.ref a) H2) (fun _ _ _ => False) := by
  refine ⟨by simp, fun a ha => ⟨a, x, y, z, rfl, upd_same, fun d H2 hd ne keep h1 h2 => ⟨rfl, q a d H2 (fun b o e => ?_) (exo_ev h1 h2)⟩⟩⟩
  rw [upd_ne ne] at hd
  have e1 := ne_of_none e ha
  rw [keep b e1 (ne_of_none e hd), upd_ne e1]
  exact e
theorem made3K {K : PySem.W.Frag} {C : Addr} {f g h : Str} {x y z : V} {H : Hp} {Q : VK} (q : ∀ a d H', Same H H' → EvAt H' a C d [(h, z), (g, y), (f, x)] → Q (.ref a) H') :
    [z, x, y].length = 3 ∧ ∀ a, H a = none → spKeep3 K C f g h (.ref a :: [[z, x, y].getD 1 .non, [z, x, y].getD 2 .non, [z, x, y].getD 0 .non]) (upd H a (exo a C none)) (fun u H2 => u = .non ∧ Q (.ref a) H2) (fun _ _ _ => False) := ⟨rfl, (made3 q).2⟩
theorem thrown3 {K : PySem.W.Frag} {C : Addr} {f g h : Str} {x y z : V} {H : Hp} {R : XK} (q : ∀ d, H d = none → R (.ref C) (some d) (upd H d (.xd [(h, z), (g, y), (f, x)]))) :
    [x, y, z].length ≤ 1000 ∧ ∀ a, H a = none → spKeep3 K C f g h (.ref a :: [x, y, z]) (upd H a (exo a C none))
      (fun u H2 => u = .non ∧ ∃ (d : Addr) (fs : List (Str × V)), H2 a = some (exo a C (some d)) ∧ H2 d = some (exd d fs) ∧ H d = none ∧ R (.ref C) (some d) (upd (del H2 a) d (.xd fs))) (fun _ _ _ => False) := by
  refine ⟨by simp, fun a ha => ⟨a, x, y, z, rfl, upd_same, fun d H2 hd ne keep h1 h2 => ⟨rfl, d, _, h1, h2, ?_, ?_⟩⟩⟩
  · rwa [upd_ne ne] at hd
  · have hd : H d = none := by rwa [upd_ne ne] at hd
    have e : upd (del H2 a) d (.xd [(h, z), (g, y), (f, x)]) = upd H d (.xd [(h, z), (g, y), (f, x)]) := by
      funext b
      by_cases e1 : b = d
      · rw [e1, upd_same, upd_same]
      · rw [upd_ne e1, upd_ne e1]
        by_cases e2 : b = a
        · rw [e2, del_same, ha]
        · rw [del_ne e2, keep b e2 e1, upd_ne e2]
    rw [e]
    exact q d hd
section
variable {X : Cx} {k j : Nat} {x f g h : Str} {C : Addr} {e : Expr} {es : List Expr} {ta : TA} {W : WX} {p pos p2 : Pos}
theorem psF (T : ErrF X.prog X.w X.K X.mg X.base k x f g h C) (hc : X.calm = true) (hr : Room j X.A) (tk : L2N.Takes X W) (ha : PA X (e :: es) ta) (hk : k + 1 ≤ j := by decide) (hg : Gl X x := by rfl) (hdb : (x == ("__debug__" : Str)) = false := by decide)
    (hz : starEach (e :: es) X.env = (false, eval e X.env) :: starEach es X.env := by rfl) (hpl : (backTo pos (starEach es X.env)).any (·.1) = false := by rfl) :
    PS X (.Raise (some (.Call (.Name x p) (e :: es) [] pos)) none p2) (fun _ σ H => tMkN C (spKeep3 X.K C f g h) ta σ H fun cls d H' => W cls d σ H') := by
  obtain ⟨fI, fd, h1, h2, h3, h4, _⟩ := T.ini
  exact L2N.ps_raise hc tk (pmkN (.of T.cls) h1 h2 h4 (hr.mono hk) h3 T.at_ ha hg hdb hz hpl)
theorem peF (T : ErrF X.prog X.w X.K X.mg X.base k x f g h C) (hr : Room j X.A) (ha : PA X (e :: es) ta) (hk : k + 1 ≤ j := by decide) (hg : Gl X x := by rfl) (hdb : (x == ("__debug__" : Str)) = false := by decide)
    (he : starEach (e :: es) X.env = (false, eval e X.env) :: starEach es X.env := by rfl) (hpl : (backTo pos (starEach es X.env)).any (·.1) = false := by rfl) : PE X (.Call (.Name x p) (e :: es) [] pos) (tMkV C (spKeep3 X.K C f g h) ta) := by
  obtain ⟨fI, fd, h1, h2, h3, h4, _⟩ := T.ini
  exact pe_mkV (.of T.cls) h1 h2 h4 (hr.mono hk) h3 T.at_ ha hg hdb he hpl
theorem vals_get {zs : List V} {ws : List Value} (r : Vals zs ws) (i : Nat) : RelV (zs.getD i .non) (ws.getD i .none) := by
  induction r generalizing i with
  | nil => exact rfl
  | cons h _ ih => cases i with
    | zero => exact h
    | succ i => exact ih i
/-- C(h = .., f = .., g = ..) as a value -/
theorem peFK {kws : List Keyword} {tk : TA} (T : ErrF X.prog X.w X.K X.mg X.base k x f g h C) (hr : Room j X.A) (hkw : PK X kws tk) (hk : k + 1 ≤ j := by decide) (hg : Gl X x := by rfl)
    (hal : (backToKw pos (keywordEach kws X.env)).all (·.1.isSome) = true := by rfl) (hky : (backToKw pos (keywordEach kws X.env)).filterMap (·.1) = [h, f, g] := by rfl) (hdb : (x == ("__debug__" : Str)) = false := by decide)
    (hnp : ((backTo pos (starEach [] X.env)).any (·.1) || (backToKw pos (keywordEach kws X.env)).any (·.1.isNone)) = false := by rfl) : PE X (.Call (.Name x p) [] kws pos) (tMkVK C 3 (spKeep3 X.K C f g h) (fun zs => [zs.getD 1 .non, zs.getD 2 .non, zs.getD 0 .non]) tk) := by
  obtain ⟨fI, fd, h1, h2, h3, h4, h5⟩ := T.ini
  exact pe_mkVK (g := fun ws => [ws.getD 1 .none, ws.getD 2 .none, ws.getD 0 .none]) (gV := fun zs => [zs.getD 1 .non, zs.getD 2 .non, zs.getD 0 .non]) (ks := [h, f, g]) (.of T.cls) h1 h2 h4 (hr.mono hk) h5 (fun r => .cons (vals_get r 1) (.cons (vals_get r 2) (.cons (vals_get r 0) .nil))) T.at_ hkw hg hal hky hdb hnp
end
end Kx
/-! lambdas held as values, called where they were made; their errors' context None. -/
namespace Kx
open L2 PySem PySem.Spec PyProof.Rows LamX
/-- the function object at f is ob -/
abbrev LamO (f : Addr) (ob : Obj) : HO := .ext fun h => h.get? f = some ob
theorem lamO_ok {P : Program} {w : World} {H : Hp} {h : Heap} {f : Addr} {ob : Obj} (e : h.get? f = some ob) : ObjOk P w H h f (LamO f ob) := ⟨e, ⟨ob, e⟩, fun h1 h2 z k => k _ z⟩
abbrev lamOb (X : Cx) (params : Arguments) (body : Expr) (scope : Scope) (pm : Value) (c' : Addr) (ctv : Value) : Obj := PySem.W.kla_obj "<lambda>" (X.env.qual ++ "<lambda>") params body scope (cloFrom X.env.cells scope.names []) pm c' ctv
/-- lambda: body, as a value -/
def tLamV (X : Cx) (T : List (Addr × Str)) (params : Arguments) (body : Expr) (scope : Scope) : TE := fun σ H Q => Tabs T H ∧ ∀ (f c' : Addr) (pm ctv : Value) (H1 : Hp), ExtN H H1 → Tabs T H1 → H f = none → H1 f = none → H1 c' = some (CodeO c' (X.env.qual ++ "<lambda>")) →
  Q (.ref f) (upd H1 f (LamO f (lamOb X params body scope pm c' ctv)))
section
variable {X : Cx}
theorem pe_lamV {T : List (Addr × Str)} {c P : Addr} {params : Arguments} {body : Expr} {scope : Scope} {pos : Pos} (TB : TabB X.base X.mg c P) (code : X.env.code = .ref c) (mem : (P, X.env.qual ++ "<lambda>") ∈ T) (only : ∀ p ∈ T, p.1 = P → p.2 = X.env.qual ++ "<lambda>")
    (hdef : defaultsOf params X.env = ([], [])) (L : LamS X.env.scope scope) : PE X (.Lambda params body scope pos) (tLamV X T params body scope) := by
  refine ⟨fun pins s σ H Q I asked => ?_⟩
  obtain ⟨hT, h⟩ := asked
  obtain ⟨ps, hP, trip, among⟩ := hT _ mem
  have free := L.has I.ok
  have here : s.heap.get? P = some { cls := .none, data := .fields ps } := I.hok P _ hP
  refine PySem.W.kla_eval hdef ?_; cases hc : codeAmong pos ps.toList with
  | some cv =>
    obtain ⟨c', rfl, old⟩ := among pos cv hc
    refine PySem.W.kla_makeFunctionHit (mg := X.mg) (c := c) (P := P) (ps := ps) (closure_ok free) I.ok.glob (I.mod.glob.keeps I.bk) code (TB.code.keeps I.bk) here trip hc (TB.bm.keeps I.bk) fun ctv h' tk all wide => ?_
    have J : Inv X pins σ H { s with heap := h', toks := tk } := I.kept all
    have J2 := J.laid (t' := tk) (a := h'.objs.size) (o := LamO h'.objs.size (lamOb X params body scope ((X.mg "__name__").getD .none) c' ctv)) (h' := h'.push (lamOb X params body scope ((X.mg "__name__").getD .none) c' ctv)) (fun b o e => Heap.get?_push_of_some _ e) (Nat.le_refl _) (lamO_ok (Heap.get?_push_size _ rfl))
    exact ⟨V.ref h'.objs.size, _, J2, rfl, h h'.objs.size c' _ ctv H (ExtN.refl H) hT (I.hok.fresh wide) (I.hok.fresh wide) old⟩
  | none =>
    refine PySem.W.kla_makeFunction (mg := X.mg) (c := c) (P := P) (ps := ps) (closure_ok free) I.ok.glob (I.mod.glob.keeps I.bk) code (TB.code.keeps I.bk) here trip hc TB.gP (TB.bm.keeps I.bk) fun c' ctv h' tk all ge lt rec_ tb => ?_
    obtain ⟨c2, oc, vs, t, e2, hoc, hd, hv⟩ := rec_
    cases e2
    have wide : s.heap.objs.size ≤ h'.objs.size := Nat.le_trans ge (Nat.le_of_lt lt)
    have nC : H c' = none := I.hok.fresh ge
    have J := inv_table (t' := tk) (more := #[rawInt pos.line, rawInt pos.col, .ref c']) I hP all tb ge ⟨oc, vs, t, hoc, hd, hv⟩
    have J2 := J.laid (t' := tk) (a := h'.objs.size) (o := LamO h'.objs.size (lamOb X params body scope ((X.mg "__name__").getD .none) c' ctv)) (h' := h'.push (lamOb X params body scope ((X.mg "__name__").getD .none) c' ctv)) (fun b o e => Heap.get?_push_of_some _ e) (Nat.le_refl _) (lamO_ok (Heap.get?_push_size _ rfl))
    have ext : ExtN H (upd (upd H P (.tbl (ps ++ #[rawInt pos.line, rawInt pos.col, .ref c']))) c' (CodeO c' (X.env.qual ++ "<lambda>"))) := fun b o e n => by
      have ne : b ≠ P := fun z => n ps (Option.some.inj (e.symm.trans (z ▸ hP)))
      rw [upd_ne (ne_of_none e nC), upd_ne ne]
      exact e
    have eL : (ps ++ #[rawInt pos.line, rawInt pos.col, Value.ref c']).toList = ps.toList ++ [rawInt pos.line, rawInt pos.col, Value.ref c'] := by simp
    refine ⟨V.ref h'.objs.size, _, J2, rfl, h h'.objs.size c' _ ctv _ ext (fun p hp => ?_) (I.hok.fresh wide) (J.hok.fresh (Nat.le_refl _)) upd_same⟩
    by_cases hb : p.1 = P
    · rw [only p hp hb, hb]
      refine ⟨_, (upd_ne (ne_of_none hP nC)).trans upd_same, eL ▸ PySem.TriplesOk_snoc _ _ _ _ trip, fun p' cv hcv => ?_⟩
      rw [eL] at hcv
      rcases among_app _ trip hcv with z | z
      · obtain ⟨c0, e1, e2⟩ := among p' cv z
        exact ⟨c0, e1, ext _ _ e2 codeO_ne⟩
      · exact ⟨c', z, upd_same⟩
    · obtain ⟨qs, a1, a2, a3⟩ := hT p hp
      refine ⟨qs, ((upd_ne (ne_of_none a1 nC)).trans (upd_ne hb)).trans a1, a2, fun p' cv hcv => ?_⟩
      obtain ⟨c0, e1, e2⟩ := (a3 p' cv hcv)
      exact ⟨c0, e1, ext _ _ e2 codeO_ne⟩
/-- the context of a lambda's body: errors' context None -/
abbrev lamCxN (X : Cx) (A : Around) (outer : List Env) (s : Shared) (H : Hp) (E : XK) (scope : Scope) (f c' : Addr) : Cx :=
  { lamCx X A outer s H E scope f c' with xe := fun e s' => wpAny (model X.prog X.w) (A.deeper (lamEnv X scope s.heap.objs.size f c')) (leaving (lamEnv X scope s.heap.objs.size f c') e) (fun _ s'' => L2N.CX X.prog X.w outer H s E e s'') (fun e' s'' => L2N.CX X.prog X.w outer H s E e' s'') s' }
/-- g() with g one of several lambdas -/
theorem pe_lamGo {ι : Type} {e : Expr} {te : TE} {pos : Pos} {k : Nat} {E : XK} (ps : ι → Arguments) (bs : ι → Expr) (ss : ι → Scope) (tb : ι → TE) (he : PE X e te) (hr : Room (k + 1) X.A) (hL : ∀ i, LamS X.env.scope (ss i)) (hx : Passes (L2N.CX X.prog X.w) X E)
    (hbind : ∀ i (q : Str) (cl : List (Str × Addr)) (pm cv ctv : Value), bindArgs (PySem.W.kla_fn "<lambda>" q (ps i) (bs i) (ss i) cl pm cv ctv) ⟨[], []⟩ = pure [])
    (hbody : ∀ i (A : Around) (outer : List Env) (s : Shared) (H : Hp) (f c' : Addr), Room k (A.deeper (lamEnv X (ss i) s.heap.objs.size f c')) → PE (lamCxN X A outer s H E (ss i) f c') (bs i) (tb i))
    (hc : eval (.Call e [] [] pos) X.env = (do callWith pos (← eval e X.env) [] (backTo pos (starEach [] X.env)) (backToKw pos (keywordEach [] X.env))) := by rfl) :
    PE X (.Call e [] [] pos) (fun σ H Q => te σ H fun v H1 => ∃ (i : ι) (f c' : Addr) (pm ctv : Value), v = .ref f ∧ H1 f = some (LamO f (lamOb X (ps i) (bs i) (ss i) pm c' ctv)) ∧ H1 c' = some (CodeO c' (X.env.qual ++ "<lambda>")) ∧ tb i σ H1 Q) := by
  refine ⟨fun pins s σ H Q I asked => ?_⟩
  rw [hc]
  refine wpAny_bind (thn (he.run pins s σ H _ I asked) fun u s1 ⟨v, H1, J, rv, i, f, c', pm, ctv, ev, hf, hco, q⟩ => ?_)
  subst ev
  obtain rfl := (show u = Value.ref f from rv)
  have here : s1.heap.get? f = some (lamOb X (ps i) (bs i) (ss i) pm c' ctv) := (show ObjOk X.prog X.w H1 s1.heap f (LamO f _) from J.hok f _ hf).1
  refine PySem.W.callWith_F0 ⟨_, _, _, _, here⟩ ?_
  obtain ⟨⟨oc, vs, t, hoc, hdc, hvc⟩, -, -⟩ := (show ObjOk X.prog X.w H1 s1.heap c' (CodeO c' (X.env.qual ++ "<lambda>")) from J.hok c' _ hco)
  have L := hL i
  have rc : codeAny (model X.prog X.w) X.A (.call (.ref f) ⟨[], []⟩) (CR (L2N.CX X.prog X.w) X.stack X.prog X.w H1 s1 Q E) s1 := by
    refine PySem.W.kla_callFunE hr.depth here rfl L.co L.gen rfl ⟨c', oc, vs, t, rfl, hoc, hdc, hvc⟩ ?_
    rw [hbind]
    refine wpAny_pure (wpAny_newFunctionEnv (fun y hy => (L.own y hy).2) (fun y hy => absurd hy (by simp)) (fun h1 ns but => ⟨J.nolimit.fresh _ but, ?_⟩) L.kind)
    show codeAny _ _ (.expr (bs i) (lamEnv X (ss i) s1.heap.objs.size f c')) _ _
    have kp : ∀ b o, s1.heap.get? b = some o → h1.get? b = some o := fun b o z => but.extBut b o (Nat.ne_of_lt (Heap.lt_size z)) (Heap.get?_push_of_some _ z)
    have K0 : Inv (lamCx X X.A X.stack s1 H1 E (ss i) f c') [] σ H1 { s1 with heap := h1, toks := s1.toks + ([] : List (Str × Value)).length } := lam_start2 J L J.env0 hr.hd Un.refl ns kp
    have K1 : Inv (lamCxN X X.A X.stack s1 H1 E (ss i) f c') [] σ H1 { s1 with heap := h1, toks := s1.toks + ([] : List (Str × Value)).length } :=
      ⟨⟨K0.ok.mod, K0.ok.kind, K0.ok.glob, K0.ok.blt, K0.ok.above, K0.ok.inj, K0.ok.has, K0.ok.cab, K0.ok.hd, K0.ok.frames, K0.ok.stk, K0.ok.exf, K0.ok.bs, K0.ok.bsz, K0.ok.noex, K0.ok.exfs, K0.ok.funs, K0.ok.frf⟩, K0.os, K0.bare, K0.base, K0.loc, K0.cell, K0.free, K0.freeC, K0.pin, K0.hok, K0.len⟩
    refine PySem.W.kla_codeExpr (wpAny_mono ((hbody i _ _ s1 H1 f c' (hr.deeper _)).run [] _ _ H1 Q K1 q) (fun v s2 z => ?_) fun _ _ z => z)
    obtain ⟨y, H2, K2, ry, q2⟩ := z
    exact ⟨y, H2, K2.os, K2.bare, K2.base, K2.hok, ry, q2⟩
  refine wpAny_call (codeAny_mono rc fun r s2 z => ?_)
  match r, z with
  | .error _, z => exact hx pins σ H1 s1 _ s2 J z
  | .ok (.ret _), z => exact J.after z
  | .ok .next, z => exact z.elim
  | .ok .brk, z => exact z.elim
  | .ok .cont, z => exact z.elim
end
end Kx
/-! where an error is handled: lists walked, tuples unpacked, a def that gets the error. -/
namespace Kx.Hot
open PySem PySem.Spec PyProof.Rows HotX
section
variable {prog : Program} {w : World} {A : Around} {E : Value → Shared → Prop} {s : Shared} {z l : Addr} {i : Nat} {xs : Array Value}
theorem hot_ne {x : Addr} {oz : Obj} {a b : Value} (hot : HotAt A x s.heap) (h : s.heap.get? z = some oz) (d : oz.data = .fields #[a, b]) : x ≠ z := by
  obtain ⟨_, o, vs, h1, d1, c1⟩ := hot
  rintro rfl
  rw [h1] at h
  cases h
  rw [d1] at d
  cases d
  cases c1
/-- the end of a list's walk -/
theorem list_end {x : Addr} {Q : Option Value → Shared → Prop} (hot : HotAt A x s.heap) (st : s.heap.IsListIter z l i) (isL : s.heap.IsList l xs) (out : xs[i]? = none) (q : ∀ h', Heap.ExtBut z s.heap h' → Q none { s with heap := h' }) : wpAny (model prog w) A (pyNext (.ref z)) Q E s := by
  obtain ⟨oz, hz, cz, dz⟩ := id st
  obtain ⟨ol, hl, _, nl, dl⟩ := isL
  have ne := hot_ne hot hz dz
  obtain ⟨hh, o1, v1, e1, d1, c1⟩ := hot
  unfold pyNext; refine wpAny_bind (wpAny_attempt (wpAny_callSpecial?_slot (name := Str.ofString "__next__") st.typeIs slot_listiter_next (wpAny_call_entry slot_listiter_next st.typeIs entry_listiter_next ?_ (args_listiter_next _))))
  show wpAny _ _ (field (.ref z) 0 >>= _) _ _ s; refine wpAny_bind (wpAny_field hz dz (x := .ref l) rfl ?_)
  show wpAny _ _ (if (Value.ref l == Value.none) = true then _ else _) _ _ s; rw [if_neg (show ¬ ((Value.ref l == Value.none) = true) from Bool.false_ne_true)]
  show wpAny _ _ (field (.ref z) 1 >>= _) _ _ s; refine wpAny_bind (wpAny_field hz dz (x := .int i 0) rfl ?_)
  show wpAny _ _ (seqItems? (.ref l) >>= _) _ _ s; refine wpAny_bind (wpAny_seqItems hl dl ?_)
  simp only [Int.toNat_natCast, out]
  refine wpAny_bind (wpAny_rule (wpAny_bind (wpAny_setField hz dz (by simp) ?_)))
  show wpAny _ _ (newExc (.type "StopIteration") [] >>= _) _ _ _; refine wpAny_bind ?_
  simp only [newExc, newTuple]; refine wpAny_bind (wpAny_newObj_type ?_ (by size_fits))
  refine wpAny_bind (m := firstArgMember _ _) (wpAny_of_eq (a := Value.none) (by first | rfl | (simp only [firstArgMember]; rfl)) ?_); refine wpAny_newObj_type ?_ (by size_fits)
  have e2 : ∀ b o, b ≠ z → s.heap.get? b = some o → (s.heap.update z (Obj.mapFields (·.setIfInBounds 0 Value.none))).get? b = some o := fun b o nb h => by
    rw [Heap.get?_update_other _ _ (Ne.symm nb)]
    exact h
  refine raiseNew_hot ⟨hh, o1, v1, Heap.get?_push_of_some _ (Heap.get?_push_of_some _ (e2 _ _ ne e1)), d1, c1⟩ (Nat.ne_of_lt (Heap.lt_size (Heap.get?_push_of_some _ (e2 _ _ ne e1)))) (Heap.get?_push_size _ rfl) rfl (by first | (simp; done) | (simp; omega) | (simp only [Array.size_append]; simp; omega)) ?_
  refine wpAny_bind (wpAny_isInstance (b := true) (T := "StopIteration") ⟨_, Heap.get?_update_self _ (Heap.get?_push_size _ rfl) rfl, rfl⟩ isSubtype_stop ?_)
  refine wpAny_pure (q _ fun b o nb h => ?_)
  rw [Heap.get?_update_other _ _ (Nat.ne_of_gt (Heap.lt_size (Heap.get?_push_of_some _ (e2 _ _ nb h))))]
  exact Heap.get?_push_of_some _ (Heap.get?_push_of_some _ (e2 _ _ nb h))
/-- the end of a tuple's walk -/
theorem tup_end {x : Addr} {Q : Option Value → Shared → Prop} (hot : HotAt A x s.heap) (st : IsTupIter s.heap z l i) (isT : IsTup s.heap l xs) (out : xs[i]? = none) (q : ∀ h', Heap.ExtBut z s.heap h' → Q none { s with heap := h' }) : wpAny (model prog w) A (pyNext (.ref z)) Q E s := by
  obtain ⟨oz, hz, cz, dz⟩ := id st
  obtain ⟨ol, hl, _, nl, dl⟩ := isT
  have ne := hot_ne hot hz dz
  obtain ⟨hh, o1, v1, e1, d1, c1⟩ := hot
  unfold pyNext; refine wpAny_bind (wpAny_attempt (wpAny_callSpecial?_slot (name := Str.ofString "__next__") st.typeIs slot_tupleiter_next (wpAny_call_entry slot_tupleiter_next st.typeIs entry_tupleiter_next ?_ (args_tupleiter_next _))))
  show wpAny _ _ (field (.ref z) 0 >>= _) _ _ s; refine wpAny_bind (wpAny_field hz dz (x := .ref l) rfl ?_)
  show wpAny _ _ (if (Value.ref l == Value.none) = true then _ else _) _ _ s; rw [if_neg (show ¬ ((Value.ref l == Value.none) = true) from Bool.false_ne_true)]
  show wpAny _ _ (field (.ref z) 1 >>= _) _ _ s; refine wpAny_bind (wpAny_field hz dz (x := .int i 0) rfl ?_)
  show wpAny _ _ (seqItems? (.ref l) >>= _) _ _ s; refine wpAny_bind (wpAny_seqItems hl dl ?_)
  simp only [Int.toNat_natCast, out]
  refine wpAny_bind (wpAny_rule (wpAny_bind (wpAny_setField hz dz (by simp) ?_)))
  show wpAny _ _ (newExc (.type "StopIteration") [] >>= _) _ _ _; refine wpAny_bind ?_
  simp only [newExc, newTuple]; refine wpAny_bind (wpAny_newObj_type ?_ (by size_fits))
  refine wpAny_bind (m := firstArgMember _ _) (wpAny_of_eq (a := Value.none) (by first | rfl | (simp only [firstArgMember]; rfl)) ?_); refine wpAny_newObj_type ?_ (by size_fits)
  have e2 : ∀ b o, b ≠ z → s.heap.get? b = some o → (s.heap.update z (Obj.mapFields (·.setIfInBounds 0 Value.none))).get? b = some o := fun b o nb h => by
    rw [Heap.get?_update_other _ _ (Ne.symm nb)]
    exact h
  refine raiseNew_hot ⟨hh, o1, v1, Heap.get?_push_of_some _ (Heap.get?_push_of_some _ (e2 _ _ ne e1)), d1, c1⟩ (Nat.ne_of_lt (Heap.lt_size (Heap.get?_push_of_some _ (e2 _ _ ne e1)))) (Heap.get?_push_size _ rfl) rfl (by first | (simp; done) | (simp; omega) | (simp only [Array.size_append]; simp; omega)) ?_
  refine wpAny_bind (wpAny_isInstance (b := true) (T := "StopIteration") ⟨_, Heap.get?_update_self _ (Heap.get?_push_size _ rfl) rfl, rfl⟩ isSubtype_stop ?_)
  refine wpAny_pure (q _ fun b o nb h => ?_)
  rw [Heap.get?_update_other _ _ (Nat.ne_of_gt (Heap.lt_size (Heap.get?_push_of_some _ (e2 _ _ nb h))))]
  exact Heap.get?_push_of_some _ (Heap.get?_push_of_some _ (e2 _ _ nb h))
/-- (a, b, ..) = a tuple -/
theorem tup_stored {x : Addr} {env : Env} {es : List Expr} {k} {pos : Pos} {Q : Unit → Shared → Prop} (hot : HotAt A x s.heap) (isT : IsTup s.heap l xs) (n : (assignEach es env).length = xs.size) (star : (assignEach es env).findIdx? (·.1) = none)
    (go : ∀ h', Heap.ExtBut s.heap.objs.size s.heap h' → wpAny (model prog w) A (assignInOrder ((assignEach es env).map (·.2)) xs.toList) Q E { s with heap := h' }) : wpAny (model prog w) A (assign (.Tuple es k pos) env (.ref l)) Q E s := by
  rw [assign_Tuple]; refine wpAny_bind (wpAny_standAt ?_)
  unfold unpack
  rw [n, star]; refine wpAny_bind (wpAny_holding ?_)
  have apart : l ≠ s.heap.objs.size := by obtain ⟨o, h, _⟩ := isT; exact Nat.ne_of_lt (Heap.lt_size h)
  obtain ⟨hh, o1, v1, e1, d1, c1⟩ := hot
  have ax : x ≠ s.heap.objs.size := Nat.ne_of_lt (Heap.lt_size e1)
  unfold unpackItems; refine wpAny_bind ?_
  unfold notIterableAtAll; refine wpAny_bind (wpAny_specialOf isT.typeIs slot_tuple_iter.lookup ?_)
  refine wpAny_pure ?_; simp only [Bool.false_eq_true, if_false]
  refine wpAny_bind (wpAny_holding (iter_tuple isT ?_)); refine wpAny_bind (wpAny_holding (draw_tuple apart xs.size 0 _ _ ⟨_, Heap.get?_push_size _ rfl, rfl, rfl⟩ (isT.push _) (by omega) fun h1 st1 but1 => ?_))
  have whole : List.take xs.size (List.drop 0 xs.toList) = xs.toList := by rw [List.drop_zero]; exact List.take_of_length_le (by simp)
  rw [whole]; rw [if_neg (by simp)]
  have isT1 : IsTup h1 l xs := (isT.push _).extBut but1.extBut apart
  have hot1 : HotAt A x h1 := ⟨hh, o1, v1, (but1.2 x ax).trans (Heap.get?_push_of_some _ e1), d1, c1⟩
  refine wpAny_bind (wpAny_holding (tup_end hot1 st1 isT1 (by simp) fun h2 ext2 => ?_)); simp only [Option.isSome_none, Bool.false_eq_true, if_false]
  exact wpAny_pure (go h2 fun b o nb e => ext2 b o nb (but1.extBut b o nb (Heap.get?_push_of_some _ e)))
end
end Kx.Hot
/-! A try with several clauses, of one class or of five; the context of what is caught is None. -/
namespace Kx.N
open PySem PyProof.Rows L2 PySem.Spec

section
variable {M : Model} {K : PySem.W.Frag}
open PySem.W PySem.Calls
/-- a tuple of five classes is asked -/
theorem exm5 {a1 a2 a3 a4 a5 cls : Value} {tp x : Addr} {y : Bool} {h : Heap} (inK : K.In h) (ty : Looks M h (typeOf (.ref x)) cls) (here : h.get? tp = some { cls := .type "tuple", data := .seq [a1, a2, a3, a4, a5].toArray }) (hx : exmAny K cls [a1, a2, a3, a4, a5] = some y) :
    Looks M h (excMatches (.ref x) (.ref tp)) y := by
  intro A Q E s k0 q
  obtain ⟨hh, gz, d, tk, os⟩ := s
  have k : ∀ b o, h.get? b = some o → hh.get? b = some o := k0
  have isT : Looks M h (isInstance (.ref tp) (.type "tuple")) true := ((Looks.ld here).andThen .now).andThen (Looks.of_pure isSubtype_tuple_tuple)
  obtain ⟨b1, r1, o1, hx, z1⟩ := exmAny_cons hx
  obtain ⟨b2, r2, o2, hx, z2⟩ := exmAny_cons hx
  obtain ⟨b3, r3, o3, hx, z3⟩ := exmAny_cons hx
  obtain ⟨b4, r4, o4, hx, z4⟩ := exmAny_cons hx
  obtain ⟨b5, r5, o5, hx, z5⟩ := exmAny_cons hx
  obtain rfl : false = r5 := Option.some.inj hx
  have both : ∀ {c : Value} {v : Bool}, exmOne K cls c = some v → Looks M hh (isExcClass c) true ∧ Looks M hh (isSubtype cls c) v := fun o => ⟨(exm_cls (M := M) inK o).1.keeps k, (exm_cls (M := M) inK o).2.keeps k⟩
  obtain ⟨u1, w1⟩ := both o1
  obtain ⟨u2, w2⟩ := both o2
  obtain ⟨u3, w3⟩ := both o3
  obtain ⟨u4, w4⟩ := both o4
  obtain ⟨u5, w5⟩ := both o5
  have ty := ty.keeps k
  have isT := isT.keeps k
  have at_ := k _ _ here
  subst z1 z2 z3 z4 z5
  unfold excMatches; refine wpAny_bind (isT.at ?_)
  dsimp only; rw [if_pos rfl]
  first
    | exact wpAny_bind (wpAny_seqItems at_ rfl (by dsimp only [Option.getD_some, Option.getD]; cases b1 <;> cases b2 <;> cases b3 <;> cases b4 <;> cases b5 <;> ((repeat (first | simp only [List.forIn_cons, List.forIn_nil, Bool.not_true, Bool.false_eq_true, if_false, if_true] | lk)); exact q)))
    | exact wpAny_bind (wpAny_bind (wpAny_seqItems at_ rfl (wpAny_pure (by dsimp only [Option.getD_some, Option.getD]; cases b1 <;> cases b2 <;> cases b3 <;> cases b4 <;> cases b5 <;> ((repeat (first | simp only [List.forIn_cons, List.forIn_nil, Bool.not_true, Bool.false_eq_true, if_false, if_true] | lk)); exact q)))))
theorem exm_single {cls c : Value} {y : Bool} (h : exmAny K cls [c] = some y) : exmOne K cls c = some y := by
  obtain ⟨b, r, o, hx, z⟩ := exmAny_cons h
  obtain rfl : false = r := Option.some.inj hx
  rw [z, Bool.or_false]
  exact o
end
theorem fly_keeps {G : Heap} {l : List Env} {x : Addr} {Z : Obj → Prop} {h h' : Heap} (f : HandSPX.FlyingZ G l x Z h) (k : ∀ b o, h.get? b = some o → h'.get? b = some o) : HandSPX.FlyingZ G l x Z h' := by
  obtain ⟨f1, f2, f3, ob, ws, T, ot, ts, e1, e2, e3, e4, e5, e6, e7, e8, e9⟩ := f
  exact ⟨fun b o q => k b o (f1 b o q), f2, f3.of_keeps fun b o q _ => ⟨o, k b o q, rfl⟩, ob, ws, T, ot, ts, k _ _ e1, e2, e3, e4, e5, e6, k _ _ e7, e8, e9⟩
/-- an error that came down to this frame and whose flight is over; `old` is the state without it -/
structure Down (X : Cx) (pins : List (Addr × Obj)) (σ : L2.St) (H : Hp) (x : Addr) (cls : Value) (d : Option Addr) (G : Heap) (old now : Shared) : Prop where
  was : Inv X pins σ H old
  low : ∀ b o, old.heap.get? b = some o → b ∉ frs X.stack → G.get? b = some o
  up : old.heap.UpToSlots now.heap
  fly : HandSPX.FlyingZ G (X.env :: X.outer) x (L2N.Zn cls d) now.heap
  fresh : H x = none
  sys : now.os = old.os
  bare : AllBare now.gens
section
variable {X : Cx} {pins : List (Addr × Obj)} {σ : L2.St} {H : Hp} {x : Addr} {cls : Value} {d : Option Addr} {G : Heap} {old now : Shared}
theorem Down.inv (D : Down X pins σ H x cls d G old now) : Inv X pins σ H now := D.was.landed D.low D.fly.1 D.up D.sys D.bare
/-- the record, and that it is no frame -/
theorem Down.rec_ (D : Down X pins σ H x cls d G old now) (hf : X.env.frame = some X.env.locals) :
    ∃ (ob : Obj) (vs : Array Value), now.heap.get? x = some ob ∧ L2N.Zn cls d ob ∧ ob.data = .fields vs ∧ x ≠ X.env.locals ∧ x ∉ X.fs := by
  obtain ⟨ob, vs, h1, h2, h3⟩ := D.fly.there
  have out : x ∉ frs (X.env :: X.outer) := by
    intro hm
    obtain ⟨_, ob2, h4, h5⟩ := D.fly.2.2.1.mem hm
    rw [h1] at h4
    cases h4
    exact h5 _ h3
  refine ⟨ob, vs, h1, h2, h3, fun z => out ?_, fun hm => out ?_⟩
  · exact List.mem_filterMap.mpr ⟨_, List.mem_cons_self, by rw [hf, z]⟩
  · obtain ⟨e1, h6, h7⟩ := List.mem_filterMap.mp hm
    exact List.mem_filterMap.mpr ⟨e1, List.mem_cons_of_mem _ h6, h7⟩
/-- within a suite -/
theorem Down.held (D : Down X pins σ H x cls d G old now) (hf : X.env.frame = some X.env.locals) :
    ∃ ob : Obj, now.heap.get? x = some ob ∧ L2N.Zn cls d ob ∧ (∃ vs, ob.data = .fields vs) ∧ Inv (X.suite x ((x, ob) :: (X.pn ++ pins))) [] σ H now := by
  obtain ⟨ob, vs, h1, h2, h3, h4, h5⟩ := D.rec_ hf
  exact ⟨ob, h1, h2, ⟨vs, h3⟩, D.inv.suite h1 h3 D.fresh h4 h5⟩
/-- no clause takes it: it goes on -/
theorem Down.goes {pos : Pos} {E : Ends} {W : WX} (D : Down X pins σ H x cls d G old now) (hs : X.stack = X.env :: X.outer) (hf : X.env.frame = some X.env.locals) (tk : L2N.Takes X W) (hw : W cls d σ H) :
    wpAny (model X.prog X.w) X.A (handleBy (.ref x) X.env []) (SP X pins E) X.xe now := by
  obtain ⟨_, _, _, ob, vs, T, _, _, h1, _, h3, h4, _⟩ := D.fly
  have away : wpAny (model X.prog X.w) X.A (setFlight (.ref x) X.env.frame) (fun _ s => wpAny (model X.prog X.w) X.A (throw (.ref x) : Sem Flow) (SP X pins E) X.xe s) X.xe now := by
    rw [hf]
    refine HandSPX.setFlight_upZ D.fly fun h' held up' => wpAny_throw (tk _ _ ⟨x, G, old, pins, σ, H, cls, d, rfl, D.was, D.low, D.up.trans up', ?_, D.fresh, D.sys, D.bare, hw⟩)
    rw [hs]
    exact .inr (.inr held)
  refine wpAny_handleBy_nil (wpAny_bind (wpAny_field h1 h3 h4 ?_))
  have some_ : ¬ ((Value.ref T == Value.none) = true) := by simp
  rw [if_neg some_]
  first
    | exact wpAny_bind away
    | exact wpAny_bind (wpAny_pure (wpAny_bind away))
end
/-- one clause: the class it names, the place of its name, its suite's reading -/
abbrev Clause : Type := List Value × Nat × (Addr → Value → Option Addr → TS)
/-- behind a suite the name at i is gone -/
def bare (E : Ends) (i : Nat) : Ends where
  nx := fun σ H => E.nx (σ.set i none) H
  rt := E.rt
  bk := fun σ H => E.bk (σ.set i none) H
  ct := fun σ H => E.ct (σ.set i none) H
/-- what is asked of an error that the body lets out -/
def asks (K : PySem.W.Frag) (W : WX) (E : Ends) : List Clause → WX
  | [] => W
  | k :: r => fun cls d σ H => ∃ y, PySem.W.exmAny K cls k.1 = some y ∧ (y = true → ∀ x, H x = none → k.2.2 x cls d (bare E k.2.1) (σ.set k.2.1 (some (.ref x))) H) ∧ (y = false → asks K W E r cls d σ H)
inductive Clauses (X : Cx) : List ExceptHandler → List Clause → Prop
  | nil : Clauses X [] []
  | cons {nm n : Str} {i : Nat} {c : Value} {t : Addr → Value → Option Addr → TS} {st : Stmt} {more : List Stmt} {p1 p2 : Pos} {hs : List ExceptHandler} {ks : List Clause} (nd : X.N.Nodup) (at_ : X.N[i]? = some n) (loc : X.env.kindOf n = some .local) (cl : Names X nm c)
      (su : ∀ (x : Addr) (ob : Obj) (cls : Value) (d : Option Addr) (pn : List (Addr × Obj)), L2N.Zn cls d ob → (∃ vs, ob.data = .fields vs) → PSs (X.suite x ((x, ob) :: pn)) (st :: more) (t x cls d)) (rest : Clauses X hs ks) :
      Clauses X (.ExceptHandler (some (.Name nm p1)) (some n) (st :: more) p2 :: hs) (([c], i, t) :: ks)
  | five {m1 m2 m3 m4 m5 n : Str} {i kk : Nat} {c1 c2 c3 c4 c5 : Value} {t : Addr → Value → Option Addr → TS} {st : Stmt} {more : List Stmt} {p1 p2 p3 p4 p5 p6 p7 : Pos} {hs : List ExceptHandler} {ks : List Clause} (nd : X.N.Nodup) (at_ : X.N[i]? = some n) (loc : X.env.kindOf n = some .local)
      (l1 : Names X m1 c1) (l2 : Names X m2 c2) (l3 : Names X m3 c3) (l4 : Names X m4 c4) (l5 : Names X m5 c5)
      (su : ∀ (x : Addr) (ob : Obj) (cls : Value) (d : Option Addr) (pn : List (Addr × Obj)), L2N.Zn cls d ob → (∃ vs, ob.data = .fields vs) → PSs (X.suite x ((x, ob) :: pn)) (st :: more) (t x cls d)) (rest : Clauses X hs ks) :
      Clauses X (.ExceptHandler (some (.Tuple [.Name m1 p1, .Name m2 p2, .Name m3 p3, .Name m4 p4, .Name m5 p5] kk p6)) (some n) (st :: more) p7 :: hs) (([c1, c2, c3, c4, c5], i, t) :: ks)
section
variable {X : Cx} {pins : List (Addr × Obj)} {σ : L2.St} {H : Hp} {x : Addr} {cls : Value} {d : Option Addr} {G : Heap} {old now : Shared} {E : Ends} {W : WX}
theorem name_there {nm : Str} {c : Value} {p1 : Pos} {ob : Obj} {Q E' : Value → Shared → Prop} (cl : Names X nm c) (J : Inv (X.suite x ((x, ob) :: (X.pn ++ pins))) [] σ H now) (q : Q c now) :
    wpAny (model X.prog X.w) (X.A.mark (some (.ref x))) (eval (.Name nm p1) X.env) Q E' now := by
  obtain ⟨g, db, m | ⟨m, b, nn⟩⟩ := cl
  · exact ld_glob J g m q db
  · exact ld_blt J g m b q nn db
theorem Down.clauses (D : Down X pins σ H x cls d G old now) (hs : X.stack = X.env :: X.outer) (hf : X.env.frame = some X.env.locals) (tk : L2N.Takes X W) {hds : List ExceptHandler} {ks : List Clause} (C : Clauses X hds ks) (w : asks X.K W E ks cls d σ H) :
    wpAny (model X.prog X.w) X.A (handleBy (.ref x) X.env hds) (SP X pins E) X.xe now := by
  induction C generalizing now with
  | nil => exact D.goes (pos := ⟨0, 0, 0, 0⟩) hs hf tk w
  | @cons nm n i c t st more p1 p2 hs' ks' nd at_ loc cl su rest ih =>
    obtain ⟨y, hy, yes, no⟩ := w
    obtain ⟨ob, h1, h2, h3, J⟩ := D.held hf
    refine wpAny_handleBy_cons (codeAny_handlers_test (name_there cl J ?_)) (fun z => nomatch z)
    have ty : PySem.W.Looks (model X.prog X.w) now.heap (typeOf (.ref x)) cls := fun _ _ _ _ k q => wpAny_typeOf_ref (k _ _ h1) (by rw [h2.1]; exact q)
    refine (PySem.W.exm_one D.inv.kIn ty (exm_single hy)).here ?_
    cases y with
    | false => exact ih D (no rfl)
    | true =>
      refine codeAny_handlers_suite_as (HandSPX.lands_againZ D.fly fun h' fl up' => ?_)
      have D' : Down X pins σ H x cls d G old { now with heap := h' } := ⟨D.was, D.low, D.up.trans up', fl, D.fresh, D.sys, D.bare⟩
      obtain ⟨ob', _, g2, g3, J'⟩ := D'.held hf
      refine store_ok (X := X.suite x ((x, ob') :: (X.pn ++ pins))) (v := .ref x) J' nd at_ (.inl loc) rfl (fun s2 J2 => ?_) (.inr loc)
      refine wpAny_mono ((su x ob' cls d (X.pn ++ pins) g2 g3).run [] s2 _ H _ J2 (yes rfl x D.fresh)) (fun f s3 hf3 => ?_) (fun _ _ z => z.elim)
      have gone : ∀ {σ3 : L2.St} {H3 : Hp} {R : Shared → Prop}, Inv (X.suite x ((x, ob') :: (X.pn ++ pins))) [] σ3 H3 s3 → (∀ s4, Inv X pins (σ3.set i none) H3 s4 → R s4) →
          wpAny (model X.prog X.w) X.A (do bindName X.env n .none; unbindBehindTheSuite X.env n p2) (fun _ s4 => R s4) X.xe s3 := fun J3 q => gone_ok (J3.unsuite D.was.ok) nd at_ loc q
      match f, hf3 with
      | .next, ⟨_, _, J3, q⟩ => exact gone J3 fun _ J4 => ⟨_, _, J4, q⟩
      | .brk, ⟨_, _, J3, q⟩ => exact gone J3 fun _ J4 => ⟨_, _, J4, q⟩
      | .cont, ⟨_, _, J3, q⟩ => exact gone J3 fun _ J4 => ⟨_, _, J4, q⟩
      | .ret _, ⟨_, _, _, J3, r, q⟩ => exact gone J3 fun _ J4 => ⟨_, _, _, J4, r, q⟩
  | @five m1 m2 m3 m4 m5 n i kk c1 c2 c3 c4 c5 t st more p1 p2 p3 p4 p5 p6 p7 hs' ks' nd at_ loc l1 l2 l3 l4 l5 su rest ih =>
    obtain ⟨y, hy, yes, no⟩ := w
    obtain ⟨ob, h1, h2, h3, J⟩ := D.held hf
    refine wpAny_handleBy_cons (codeAny_handlers_test ?_) (fun z => nomatch z)
    refine wpAny_Tuple (wpAny_items_cons (name_there l1 J (wpAny_items_cons (name_there l2 J (wpAny_items_cons (name_there l3 J (wpAny_items_cons (name_there l4 J (wpAny_items_cons (name_there l5 J (wpAny_items_nil ⟨by size_fits, ?_⟩)))))))))))
    have kp : ∀ b o, now.heap.get? b = some o → (now.heap.push { cls := .type "tuple", data := .seq [c1, c2, c3, c4, c5].toArray }).get? b = some o := fun _ _ z => Heap.get?_push_of_some _ z
    have ty : PySem.W.Looks (model X.prog X.w) (now.heap.push { cls := .type "tuple", data := .seq [c1, c2, c3, c4, c5].toArray }) (typeOf (.ref x)) cls := fun _ _ _ _ k q => wpAny_typeOf_ref (k _ _ (kp _ _ h1)) (by rw [h2.1]; exact q)
    refine (exm5 (D.inv.kIn.keeps kp) ty (Heap.get?_push_size now.heap rfl) hy).here ?_
    have D5 : Down X pins σ H x cls d G old { now with heap := now.heap.push { cls := .type "tuple", data := .seq [c1, c2, c3, c4, c5].toArray } } := ⟨D.was, D.low, D.up.trans (Heap.UpToSlots.of_keeps kp), fly_keeps D.fly kp, D.fresh, D.sys, D.bare⟩
    cases y with
    | false => exact ih D5 (no rfl)
    | true =>
      refine codeAny_handlers_suite_as (HandSPX.lands_againZ D5.fly fun h' fl up' => ?_)
      have D' : Down X pins σ H x cls d G old { now with heap := h' } := ⟨D.was, D.low, D5.up.trans up', fl, D.fresh, D.sys, D.bare⟩
      obtain ⟨ob', _, g2, g3, J'⟩ := D'.held hf
      refine store_ok (X := X.suite x ((x, ob') :: (X.pn ++ pins))) (v := .ref x) J' nd at_ (.inl loc) rfl (fun s2 J2 => ?_) (.inr loc)
      refine wpAny_mono ((su x ob' cls d (X.pn ++ pins) g2 g3).run [] s2 _ H _ J2 (yes rfl x D.fresh)) (fun f s3 hf3 => ?_) (fun _ _ z => z.elim)
      have gone : ∀ {σ3 : L2.St} {H3 : Hp} {R : Shared → Prop}, Inv (X.suite x ((x, ob') :: (X.pn ++ pins))) [] σ3 H3 s3 → (∀ s4, Inv X pins (σ3.set i none) H3 s4 → R s4) →
          wpAny (model X.prog X.w) X.A (do bindName X.env n .none; unbindBehindTheSuite X.env n p7) (fun _ s4 => R s4) X.xe s3 := fun J3 q => gone_ok (J3.unsuite D.was.ok) nd at_ loc q
      match f, hf3 with
      | .next, ⟨_, _, J3, q⟩ => exact gone J3 fun _ J4 => ⟨_, _, J4, q⟩
      | .brk, ⟨_, _, J3, q⟩ => exact gone J3 fun _ J4 => ⟨_, _, J4, q⟩
      | .cont, ⟨_, _, J3, q⟩ => exact gone J3 fun _ J4 => ⟨_, _, J4, q⟩
      | .ret _, ⟨_, _, _, J3, r, q⟩ => exact gone J3 fun _ J4 => ⟨_, _, _, J4, r, q⟩
end
/-- try: body / except C as n: .. / except D as m: .. -/
theorem ps_tries {X : Cx} {body : List Stmt} {hd : ExceptHandler} {hds : List ExceptHandler} {ks : List Clause} {pos : Pos} {tb : WX → TS} {W : WX} (hs : X.stack = X.env :: X.outer) (hf : X.env.frame = some X.env.locals) (tk : L2N.Takes X W)
    (hb : ∀ (U : WX) (pn : List (Addr × Obj)) (xe : Value → Shared → Prop), L2N.Takes (X.tr pn xe) U → PassesOwn (model X.prog X.w) X.A X.env xe → PSs (X.tr pn xe) body (tb U)) (C : Clauses X (hd :: hds) ks) :
    PS X (.Try body (hd :: hds) [] [] pos) (fun E σ H => tb (asks X.K W E ks) E σ H) := by
  refine ⟨fun pins s σ H E I h => wpAny_Try_except ?_⟩
  have top : X.A.frames = some (X.env :: X.outer) := by rw [I.ok.frames, hs]
  have inner := hb (asks X.K W E ks) (X.pn ++ pins) (fun e s1 => wpAny (model X.prog X.w) X.A (noteFrame e X.env) (fun _ s2 => wpAny (model X.prog X.w) X.A (setFlight e none)
    (fun _ s3 => wpAny (model X.prog X.w) X.A (handleBy e X.env (hd :: hds)) (SP X pins E) X.xe s3) X.xe s2) X.xe s1) ?_ PassesOwn.looking
  · refine wpAny_mono (inner.run [] s σ H E (I.toTry _) h) (fun f s1 q => ?_) (fun _ _ z => z)
    match f, q with
    | .next, ⟨_, _, J, q⟩ => exact wpAny_execs_nil ⟨_, _, J.ofTry I.ok, q⟩
    | .brk, ⟨_, _, J, q⟩ => exact ⟨_, _, J.ofTry I.ok, q⟩
    | .cont, ⟨_, _, J, q⟩ => exact ⟨_, _, J.ofTry I.ok, q⟩
    | .ret _, ⟨_, _, _, J, r, q⟩ => exact ⟨_, _, _, J.ofTry I.ok, r, q⟩
  · rintro u s1 ⟨x, G, old, _, σ1, H1, cls, d, rfl, J, low, up, sky, fr, sys, bare, w⟩
    rw [show (X.tr (X.pn ++ pins) _).stack = X.env :: X.outer from hs] at sky
    refine L2N.Sky.land L2N.Zn.steady top hf sky fun h' fl up' => ?_
    exact Down.clauses (now := { s1 with heap := h' }) ⟨J.ofTry I.ok, low, up.trans up', fl, fr, sys, bare⟩ hs hf tk C w
end Kx.N
namespace Kx.Hot
open L2 L2H PySem PySem.Spec PyProof.Rows HotX
/-- a list walked where an error is handled -/
theorem turnL {P : Program} {w : World} {K : PySem.W.Frag} {tg : Expr} (a z : Addr) : TurnH P w K tg (Itl K a) [z] z (fun i h => h.IsListIter z a i) where
  mem := List.mem_singleton.mpr rfl
  obj := fun i h st b hb => by
    obtain rfl := List.mem_singleton.mp hb
    obtain ⟨o, e, c, d⟩ := st
    exact ⟨o, e, fun v q => by rw [d] at q; cases q⟩
  keep := fun i h h' st k => st.at fun o e => k z (List.mem_singleton.mpr rfl) o e
  item := fun X hP hw hK hc i pins s σ H E I hf st hg => by
    subst hP hw hK
    obtain ⟨xs, x, hq, hx⟩ := hg
    obtain ⟨us, rv, isL, _⟩ := I.list hq
    obtain ⟨u, hu, rz⟩ := rv.get hx
    obtain ⟨f0, f1, f2, f3, f4, f5⟩ := hf z (List.mem_singleton.mpr rfl)
    refine wpAny_pyNext_list_item st isL.isList (x := u) (by simpa using hu) fun h' st' but => ?_
    have J : Inv X pins σ H { s with heap := h' } := I.turned (t' := s.toks) (fun b o hb e => (but.2 b hb).trans e) f0 f1 f3 f4 f5
    obtain ⟨o, e, c, d⟩ := id st'
    exact ⟨u, rfl, go_of (s := { s with heap := h' }) e c d (by decide) ⟨x, H, J, rz, ⟨rfl, fun ys hy => (I.list_inj hy hq) ▸ hx⟩, st', fun b hb => (hf b hb).1⟩⟩
  done := fun X hP hw hK hc i pins s σ H E I hf st hg => by
    subst hP hw hK
    obtain ⟨xs, hq, hx⟩ := hg
    obtain ⟨us, rv, isL, _⟩ := I.list hq
    obtain ⟨f0, f1, f2, f3, f4, f5⟩ := hf z (List.mem_singleton.mpr rfl)
    have n := rv.length
    obtain ⟨x1, hot⟩ := hc.at I
    exact list_end hot st isL.isList (by simp; omega) fun h' eb => ⟨rfl, I.turned (t' := s.toks) (fun b o hb e => eb b o hb e) f0 f1 f3 f4 f5⟩
  self := fun _ _ _ _ _ st q => wpAny_pyIter_listiter st q
section
variable {X : Cx} {tg e : Expr} {te : TE}
theorem pi_listH (he : PE X e te) : PIH X tg e (iList X.K te) := by
  refine ⟨fun pins s σ H R I h => thn (he.run pins s σ H _ I h) fun u t ⟨x, H1, J, rx, a, ex, ⟨xs, hx⟩, q⟩ => ?_⟩
  subst ex
  obtain rfl := (show u = Value.ref a from rx)
  obtain ⟨_, _, isL, _⟩ := J.list hx
  refine wpAny_pyIter_list isL.isList ⟨_, [t.heap.objs.size], _, _, H1, rfl, J.kept (t' := t.toks) fun b v z => Heap.get?_push_of_some _ z, turnL a _, ⟨_, Heap.get?_push_size _ rfl, rfl, rfl⟩, fun b hb => ?_, q⟩
  obtain rfl := List.mem_singleton.mp hb
  exact J.fpOk (Nat.le_refl _) (J.hok.fresh (Nat.le_refl _))
theorem pg_tupH {es : List Expr} {k : Nat} {t : TGs} {n : Nat} {pos : Pos} (hc : HotC X) (h : PGs X es t) (hn : (assignEach es X.env).length = n := by rfl) (hst : (assignEach es X.env).findIdx? (·.1) = none := by rfl) : PG X (.Tuple es k pos) (gTup X.K n t) := by
  refine ⟨fun pins s σ H v u Q I r asked => ?_⟩
  obtain ⟨a, xs, rfl, hq, hl, hw⟩ := asked
  cases r
  obtain ⟨us, rv, isT, _⟩ := I.tuple hq
  obtain ⟨x1, hot⟩ := hc.at I
  refine tup_stored hot isT (by simp [hn, ← hl, rv.length]) hst fun h' but => ?_
  exact h.run pins _ σ H xs _ Q (I.kept (t' := s.toks) fun b o e => but b o (Nat.ne_of_lt (Heap.lt_size e)) e) (by simpa using rv) hw
end
/-! ### a def that gets the error that is handled -/
/-- what such a def promises of the error p -/
structure FnE (P : Program) (w : World) (K : PySem.W.Frag) (mg : Str → Option Value) (base : Heap) (k : Nat) (f : Addr) (fd : FuncData) (ps : List Str) (sp : Addr × Obj → Sp) : Prop where
  len : ∀ p vs H Q E, sp p vs H Q E → vs.length = ps.length
  run : ∀ (A : Around) (outer : List Env) (s : Shared) (H : Hp) (args : Args) (us : List Value) (vs : List V) (Q : VK) (p : Addr × Obj), RoomH k A → Hot1 A p → PinOk outer H s p → Env0 P w K mg base A outer s H → BindsTo s fd args (ps.zip us) → Vals vs us → sp p vs H Q (fun _ _ _ => False) →
    codeAny (model P w) A (.call (.ref f) args) (CR CX0 outer P w H s Q (fun _ _ _ => False)) s
theorem FnE.of {P : Program} {w : World} {K : PySem.W.Frag} {mg : Str → Option Value} {base : Heap} {k : Nat} {f : Addr} {fd : FuncData} {x qual : Str} {params : Arguments} {body : List Stmt} {scope : Scope} {N ps : List Str} {sp : Addr × Obj → Sp} (F : FunD K x qual params body scope [] [] f fd) (S : FnScope N ps scope)
    (len : ∀ p vs H Q E, sp p vs H Q E → vs.length = ps.length)
    (hbody : ∀ (cdv : Value) (A : Around) (outer : List Env) (s : Shared) (H : Hp) (vs : List V) (Q : VK) (p : Addr × Obj), Hot1 A p → RoomH k (A.deeper (envOfC qual scope s.heap.objs.size f cdv)) → sp p vs H Q (fun _ _ _ => False) →
      ∃ t, PSs (cxH CX0 P w K mg base N qual scope f cdv A outer s H (fun _ _ _ => False) p) body t ∧ t { nx := fun _ H' => Q .non H', rt := Q } (L2.start N vs) H) : FnE P w K mg base (k + 1) f fd ps sp := by
  obtain ⟨oc, od, dV, kV, doc, pm, an, cdv, ct, osl, rfl, lk, hcd, -, -⟩ := F.ex
  refine ⟨len, fun A outer s H args us vs Q p hr hot pin e0 hb rel asked => ?_⟩
  have n := len _ _ _ _ _ asked
  have inK : K.In s.heap := e0.mod.kin.keeps fun b o e => (e0.bs b o e).1
  have wide : s.heap.NoLimit := e0.mod.nolimit.keeps fun b o e => (e0.bs b o e).1
  have kinds : ∀ y ∈ ps.zip us, scope.names.lookup y.1 = some .local ∨ (scope.names.lookup y.1 = some .cell ∧ ((cellsFrom (s.heap.objs.size + 1) scope.names []).lookup y.1).isSome = true) := by
    rintro ⟨m, v⟩ hy
    exact (S.par m (List.of_mem_zip hy).1).imp id fun q => ⟨q, PySem.W.cellsFrom_some _ _ _ (.inl q)⟩
  refine codeAny_call_function hr.depth (inK _ _ lk) rfl S.co S.gen rfl (PySem.W.codeRec_of inK hcd) (hb _ _ _ _ ?_)
  refine wpAny_newFunctionEnv_cells S.kind kinds fun env here s1 x => ?_
  subst here
  refine ⟨wide.keeps x.toInCall.keep, codeAny_func ?_⟩
  obtain ⟨t, ht, go⟩ := hbody cdv A outer s H vs Q p hot (hr.deeper _) asked
  have I : Inv (cxH CX0 P w K mg base N qual scope f cdv A outer s H (fun _ _ _ => False) p) [] (L2.start N vs) H s1 := inv_startH S pin e0 n rel x
  refine wpAny_mono (ht.run [] s1 (L2.start N vs) H _ I go) (fun fl s' z => ?_) fun _ _ z => z
  match fl, z with
  | .ret u, ⟨v, σ', H', J, rv, q⟩ => exact ⟨v, H', J.os, J.bare, J.base, J.hok, rv, q⟩
  | .next, ⟨σ', H', J, q⟩ => exact ⟨.non, H', J.os, J.bare, J.base, J.hok, rfl, q⟩
  | .brk, ⟨_, _, _, q⟩ => exact q.elim
  | .cont, ⟨_, _, _, q⟩ => exact q.elim
structure CalE (P : Program) (w : World) (K : PySem.W.Frag) (mg : Str → Option Value) (base : Heap) (k : Nat) (x : Str) (ps : List Str) (sp : Addr × Obj → Sp) : Prop where
  ex : ∃ (f : Addr) (fd : FuncData), mg x = some (.ref f) ∧ PySem.W.keepIn K (.ref f) = true ∧ Binds K fd ps [] ∧ FnE P w K mg base k f fd ps sp
/-- f(e) in the suite that holds the error -/
theorem pe_callE {X : Cx} {k j : Nat} {x : Str} {ps : List Str} {sp : Addr × Obj → Sp} {e : Expr} {es : List Expr} {t : TA} {p pos : Pos} {a : Addr} {ob : Obj} {cls : Value} {d : Option Addr} {pn : List (Addr × Obj)} (c : CalE X.prog X.w X.K X.mg X.base k x ps sp) (hr : Room j X.A) (hz : L2N.Zn cls d ob) (hf : ∃ vs, ob.data = .fields vs)
    (ha : PA (X.suite a ((a, ob) :: pn)) (e :: es) t) (hk : k ≤ j := by decide) (hg : Gl X x := by rfl) (hdb : (x == ("__debug__" : Str)) = false := by decide)
    (hz2 : starEach (e :: es) X.env = (false, eval e X.env) :: starEach es X.env := by rfl) (hpl : (backTo pos (starEach es X.env)).any (·.1) = false := by rfl) :
    PE (X.suite a ((a, ob) :: pn)) (.Call (.Name x p) (e :: es) [] pos) (fun σ H Q => t σ H fun vs H1 => sp (a, ob) vs H1 Q (fun _ _ _ => False)) := by
  obtain ⟨f, fd, c1, c2, c3, F⟩ := c.ex
  refine ⟨fun pins s σ H Q I h => wpAny_Call_Name_kw (ld_glob (X := X.suite a ((a, ob) :: pn)) I hg c1 ?_ hdb)⟩
  refine PySem.W.callWith_K (h₀ := X.base) I.ok.mod.kin c2 (thn (ha.run pos pins s σ H _ I h) fun us s1 ⟨vs, H1, J, rel, q⟩ => ⟨J.kIn, ?_⟩) hz2 hpl
  obtain ⟨g0, n0, nL, nF, nc⟩ := J.pin (a, ob) (List.mem_append_left _ List.mem_cons_self)
  have pin : PinOk X.stack H1 s1 (a, ob) := ⟨g0, n0, fun m => (List.mem_cons.mp (J.stkSub a m)).elim nL nF, nc⟩
  have hot : Hot1 (X.suite a ((a, ob) :: pn)).A (a, ob) := ⟨rfl, hf.elim fun vs z => ⟨vs, z, hz.2.2 vs z⟩⟩
  have n : (us ++ []).length = ps.length := by rw [List.append_nil, ← rel.length]; exact F.len _ _ _ _ _ q
  have b := c3 s1 us J.kIn n
  rw [List.append_nil] at b
  have room : RoomH k (X.suite a ((a, ob) :: pn)).A := ⟨(hr.mono hk).dp, (hr.mono hk).un⟩
  refine wpAny_call (codeAny_mono (F.run _ X.stack s1 H1 ⟨us, []⟩ us vs Q (a, ob) room hot pin J.env0 b rel q) fun r s2 z => ?_)
  match r, z with
  | .error _, z => exact z.elim
  | .ok (.ret _), z => exact J.after z
  | .ok .next, z => exact z.elim
  | .ok .brk, z => exact z.elim
  | .ok .cont, z => exact z.elim
/-- isinstance(e, c), e the error that a def got -/
theorem call_isH {X : Cx} {a D d : Addr} {ob : Obj} (C : ExcC X.K D) (hp : (a, ob) ∈ X.pn) (hz : Zc (.ref D) (some d) ob) (hf : ∃ vs, ob.data = .fields vs) :
    CallR X (.builtin "isinstance") (fun xs H Q => (∃ fs, H d = some (.xd fs)) ∧ rIsE X.K D a xs H Q) := by
  rintro pins s σ H xs us Q I r ⟨⟨fs, hd⟩, c, cv, b, rfl, hcv, e, q⟩
  cases r with
  | cons rx rr =>
    cases rr with
    | cons rt rr =>
      cases rr
      cases rx
      obtain rfl := hcv _ rt
      obtain ⟨g0, -⟩ := I.pin (a, ob) (List.mem_append_left _ hp)
      obtain ⟨vs, hv⟩ := hf
      obtain ⟨mA, hns, _⟩ := (show ObjOk X.prog X.w H s.heap d (.xd fs) from I.hok d _ hd)
      obtain ⟨od, hod, _⟩ := lookIn_ns hns
      have J : PySem.W.InstAt s.heap a ob D (some od) := by
        obtain ⟨c1, c2, c3, c4⟩ := ob
        obtain ⟨z1, z2⟩ := hz
        dsimp only at z1 z2 hv
        subst z1 z2 hv
        exact ⟨g0, rfl, rfl, hod⟩
      have cl : (PySem.W.clsIn X.K D).isSome = true := by
        obtain ⟨cd, hc, _⟩ := PySem.W.any_some C.hd
        rw [hc]
        rfl
      exact PySem.W.kia_one (PySem.W.kitx_exc cl C.hg C.hk C.hs C.ha C.hn C.ht C.hm) I.kIn J e (fun z => nomatch z) fun tk => ⟨.bl b, H, I.kept (t' := tk) fun _ _ z => z, rfl, q⟩
end Kx.Hot
/-! the text by places -/
namespace K7
open L2 PySem PySem.Spec PyProof.Rows Kx
def top (i : Nat) : Stmt := PySem.Challenge.pw_onewitness_k06_whole_least_settlings.main.body.getD i (.Pass ⟨0, 0, 0, 0⟩)
abbrev s_BadMachine_init : Stmt := inClass (top 2) 0
abbrev s_Refused_init : Stmt := inClass (top 3) 0
abbrev s_Forgets_init : Stmt := inClass (top 4) 0
abbrev s_NoState_init : Stmt := inClass (top 5) 0
abbrev s_is_number : Stmt := top 9
abbrev s_is_below : Stmt := top 10
abbrev s_is_sequence : Stmt := top 11
abbrev s_first_not_below : Stmt := top 12
abbrev s_Machine_init : Stmt := inClass (top 14) 0
abbrev s_Machine_eq : Stmt := inClass (top 14) 1
abbrev s_is_table : Stmt := top 15
abbrev s_need_state : Stmt := top 16
abbrev s_in_coming_order : Stmt := top 17
abbrev s_reached : Stmt := top 18
abbrev s_forgotten : Stmt := top 19
abbrev s_need_exchanges : Stmt := top 20
abbrev s_circle : Stmt := top 22
abbrev s_deed_pairs : Stmt := top 23
abbrev s_least_parting : Stmt := top 24
abbrev s_top : Stmt := top 25
abbrev s_first_together : Stmt := top 26
abbrev s_all_moved : Stmt := top 27
abbrev s_settled : Stmt := top 28
abbrev s_Counters_init : Stmt := inClass (top 32) 0
abbrev s_Counters_eq : Stmt := inClass (top 32) 1
abbrev s_are_rests : Stmt := top 33
abbrev s_need_fit : Stmt := top 34
abbrev s_lots_of : Stmt := top 36
abbrev s_fold_size : Stmt := top 37
abbrev s_law_box : Stmt := top 39
abbrev s_law_take : Stmt := top 40
abbrev s_law_pick : Stmt := top 41
abbrev s_law_mixed : Stmt := top 42
abbrev s_law_exchange : Stmt := top 43
abbrev s_law_tables : Stmt := top 44
abbrev s_law_come : Stmt := top 45
abbrev s_law_parted : Stmt := top 46
abbrev s_law_pairs : Stmt := top 47
abbrev s_law_shown : Stmt := top 48
abbrev s_law_opened : Stmt := top 49
abbrev s_law_rounds : Stmt := top 50
abbrev s_law_walk_right : Stmt := top 51
abbrev s_law_apart_right : Stmt := top 52
abbrev s_law : Stmt := top 53
abbrev FnP (K : PySem.W.Frag) (x : Str) (st : Stmt) (f : Addr) (fd : FuncData) : Prop := FunD K x x (defArgs st) (defBody st) (defScope st) [] [] f fd
/-- the built-in names that the module leaves alone, its numbers -/
structure Mg (mg : Str → Option Value) : Prop where
  z_KeyError : mg "KeyError" = none
  z_ValueError : mg "ValueError" = none
  z_abs : mg "abs" = none
  z_bool : mg "bool" = none
  z_enumerate : mg "enumerate" = none
  z_int : mg "int" = none
  z_isinstance : mg "isinstance" = none
  z_len : mg "len" = none
  z_list : mg "list" = none
  z_range : mg "range" = none
  z_repr : mg "repr" = none
  z_set : mg "set" = none
  z_sorted : mg "sorted" = none
  z_tuple : mg "tuple" = none
  z_zip : mg "zip" = none
  g_DEEDS_MOST : ∃ t, mg "DEEDS_MOST" = some (.int 4 t)
  g_STATES_MOST : ∃ t, mg "STATES_MOST" = some (.int 8 t)
  g_ROUND_MOST : ∃ t, mg "ROUND_MOST" = some (.int 60 t)
  g_REST_MOST : ∃ t, mg "REST_MOST" = some (.int 6 t)
theorem pe_constI {X : Cx} {x : Str} {i : Int} {pos : Pos} (h : ∃ t, X.mg x = some (.int i t)) (hg : Gl X x := by rfl) (hd : (x == ("__debug__" : Str)) = false := by decide) : PE X (.Name x pos) (tC (.int i)) := by
  obtain ⟨t, ht⟩ := h
  exact pe_glob hg ht ⟨t, rfl⟩ hd
theorem pe_ty {X : Cx} {x : Str} {n : String} {pos : Pos} (hm : X.mg x = none) (hv : bootBuiltins x = some (.type n)) (hg : Gl X x := by rfl) (hn : x ≠ "__name__" := by decide) (hd : (x == ("__debug__" : Str)) = false := by decide) : PE X (.Name x pos) (tC (.ty n)) :=
  pe_bltn hg hm hv rfl hn hd
theorem bt_int : bootBuiltins "int" = some (.type "int") := by decide +kernel
theorem bt_bool : bootBuiltins "bool" = some (.type "bool") := by decide +kernel
theorem bt_list : bootBuiltins "list" = some (.type "list") := by decide +kernel
theorem bt_tuple : bootBuiltins "tuple" = some (.type "tuple") := by decide +kernel
end K7
/-! t.count(k): a tuple known to have no attributes of its own; tuple(xs) makes such a one. -/
namespace Kx
open L2 PySem PySem.Spec PyProof.Rows
/-- a tuple without attributes -/
def TupD (H : Hp) (a : Addr) (xs : List V) : Prop := ∃ o : Obj, H a = some (.frz o (.tup xs)) ∧ o.dict = none
def SqD (K : PySem.W.Frag) (H : Hp) (a : Addr) (xs : List V) : Prop := SqL K H a xs ∨ TupD H a xs
section
variable {K : PySem.W.Frag} {H H' : Hp} {a : Addr} {xs : List V}
theorem TupD.sqT (h : TupD H a xs) : SqT K H a xs := h.elim fun o h => .inl (.inr ⟨o, h.1⟩)
theorem TupD.same (e : Same H H') (h : TupD H a xs) : TupD H' a xs := h.elim fun o h => ⟨o, e _ _ h.1, h.2⟩
theorem SqD.sq (h : SqD K H a xs) : Sq K H a xs := h.imp id TupD.sqT
theorem SqD.same (e : Same H H') (h : SqD K H a xs) : SqD K H' a xs := h.imp (sqL_same e) (TupD.same e)
end
section
variable {X : Cx}
/-- tuple(xs) -/
theorem call_tupD : CallR X (.type "tuple") (fun xs H Q => ∃ p ys, xs = [.ref p] ∧ SqD X.K H p ys ∧ ∀ q H', Same H H' → TupD H' q ys → Q (.ref q) H') := by
  intro pins st σ H xs us Q I r h
  obtain ⟨p, ys, rfl, h, q⟩ := h
  rcases h with hq | hq
  · obtain ⟨u, rfl, rx⟩ := vals1 r
    obtain rfl : u = .ref p := rx
    obtain ⟨its, rv, pl, fits⟩ := I.list hq
    have len := rv.length
    refine call_tuple_list pl.isList (fun mem kp => ?_) (by simp only [List.size_toArray]; omega)
    have J : Inv X pins σ H { st with heap := mem } := I.kept (t' := st.toks) kp
    have here := Heap.get?_push_size (h := mem) (o := { cls := .type "tuple", data := .seq its.toArray }) rfl
    have J2 : Inv X pins σ (upd H mem.objs.size (.frz { cls := .type "tuple", data := .seq its.toArray } (.tup ys))) { st with heap := mem.push { cls := .type "tuple", data := .seq its.toArray } } :=
      J.laid (t' := st.toks) (fun b o e => Heap.get?_push_of_some _ e) (Nat.le_refl _) ⟨here, fits, its, rv, IsTup.new _ _⟩
    exact ⟨.ref mem.objs.size, _, J2, rfl, q _ _ (same_new (J.hok.fresh (Nat.le_refl _))) ⟨_, upd_same, rfl⟩⟩
  · exact call_tuple_of pins st σ H _ us Q I r ⟨p, ys, rfl, .inr ⟨hq.sqT, q p H (Same.refl H) hq⟩⟩
/-- t.count(k) -/
def tCount (to : TE) (t : TA) : TE := fun σ H Q => to σ H fun x H1 => ∃ (p : Addr) (ns : List Int), x = .ref p ∧ TupD H1 p (ns.map V.int) ∧ t σ H1 fun ks H2 => ∃ k : Int, ks = [.int k] ∧ Same H1 H2 ∧ Q (.int (ns.count k : Nat)) H2
theorem pe_count {o e : Expr} {to : TE} {t : TA} {apos cpos : Pos} (ho : PE X o to) (ha : PA X [e] t)
    (hbase : attributeBase o "count" X.env (eval o X.env) = eval o X.env := by rfl)
    (hfew : ((backTo cpos (starEach [e] X.env)).all (fun x => !x.1) && (backToKw cpos (keywordEach [] X.env)).all (fun x => x.1.isSome) && decide ([e].length + ([] : List Keyword).length + (if ([] : List Keyword).isEmpty then 0 else 1) < 30)) = true := by rfl)
    (hline : (apos.endLine == cpos.line) = true := by exact rfl)
    (hs : starEach [e] X.env = (false, eval e X.env) :: starEach [] X.env := by rfl) (hplain : (backTo cpos (starEach [] X.env)).any (·.1) = false := by rfl) :
    PE X (.Call (.Attribute o "count" apos) [e] [] cpos) (tCount to t) := by
  refine ⟨fun pins st σ H Q I h => ?_⟩
  refine wpAny_Call_method_late hbase hfew hline rfl (thn (ho.run pins st σ H _ I h) fun v s1 ⟨x, H1, I1, r1, p, ns, ex, ⟨o, hp, od⟩, q1⟩ => ?_)
  subst ex
  obtain rfl : v = .ref p := r1
  obtain ⟨at_, _, its, rv, ⟨ot, ot1, ot2, _⟩⟩ := (show ObjOk X.prog X.w H1 s1.heap p (.frz o (.tup (ns.map V.int))) from I1.hok p _ hp)
  rw [at_] at ot1
  cases ot1
  refine ⟨"tuple", "tuple.count", PySem.F.plainAttrs_tuple, PySem.F.slot_tuple_count, PySem.F.type_tuple_count, ⟨o, at_, ot2⟩, fun a ea => ?_, ?_⟩
  · cases ea
    exact ⟨o, at_, od⟩
  have arg := ha.run cpos pins s1 σ H1 _ I1 q1
  rw [hs] at arg ⊢
  have plain : (false || (backTo cpos (starEach [] X.env)).any (·.1)) = false := by rw [hplain] <;> rfl
  refine Calls.callWith_builtin plain (Calls.evalArgs_plain ?_)
  refine thn arg fun us s2 ⟨ks, H2, I2, r2, k, ek, sm, q2⟩ => ?_
  subst ek
  obtain ⟨u, rfl, ru⟩ := r2.one
  obtain ⟨tk, rfl⟩ := ru
  obtain ⟨o2, hp2, od2⟩ := TupD.same sm (show TupD H1 p (ns.map V.int) from ⟨o, hp, od⟩)
  obtain ⟨at2, _, its2, rv2, ⟨ot2', ot3, ot4, n2, ot5⟩⟩ := (show ObjOk X.prog X.w H2 s2.heap p (.frz o2 (.tup (ns.map V.int))) from I2.hok p _ hp2)
  rw [at2] at ot3
  cases ot3
  obtain ⟨cls, dct, data, slo⟩ := o2
  simp only at ot4 ot5
  subst ot4 ot5
  have hi := ints_of_vals rv2
  refine call_meets PySem.F.slot_tuple_count ⟨_, at2, rfl⟩ PySem.F.entry_tuple_count (PySem.F.args_tuple_count_2 _ _)
    (SeqAt.tuple_countAt p its2.toArray n2 dct slo (.int k tk) (eqk k)) ⟨at2, fun y hy => (eqk_gives hi y (by simpa using hy)).at _ _, ?_⟩
  have ec : its2.toArray.toList.countP (eqk k) = ns.count k := eqk_count hi
  refine ⟨.int (ns.count k : Nat), H2, I2.tok _, ⟨s2.toks, ?_⟩, q2⟩
  rw [ec]
end
end Kx
/-! a tuple, that is not empty, times 0, 1, more -/
namespace Kx
open L2 PySem PySem.Spec PyProof.Rows
theorem times_one (t : Addr) (its : Array Value) (n : Nat) (dct : Option Addr) (slo : Array (Option Value)) (tk : Tok) :
    Meets (Builtin.«tuple.__mul__» ⟨[.ref t, .int 1 tk], []⟩) (fun _ R s => s.heap.get? t = some { cls := .type "tuple", dict := dct, data := .seq its n, slots := slo } ∧ R (.ok (.ret (.ref t))) s) :=
  .of_wp fun prog wo A R s h => by
    obtain ⟨mem, g, d, k, os⟩ := s
    obtain ⟨here, h⟩ := h
    have idx := AutoSeq1.idx_int
    have yes : (its.isEmpty || (1 : Int) == 1) = true := by rw [Bool.or_eq_true]; exact .inr rfl
    wp_walk using wpAny_loadPart' here
    repeat (first
      | (refine wpAny_ite_false (by decide) ?_; wp_walk using wpAny_loadPart' here)
      | (refine wpAny_ite_true (decide_eq_true yes) ?_; wp_walk using wpAny_loadPart' here))
    exact ⟨_, rfl, h⟩
theorem times_nought (t : Addr) (its : Array Value) (n : Nat) (dct : Option Addr) (slo : Array (Option Value)) (tk : Tok) (some_ : its.isEmpty = false) :
    Meets (Builtin.«tuple.__mul__» ⟨[.ref t, .int 0 tk], []⟩) (fun _ R s => s.heap.get? t = some { cls := .type "tuple", dict := dct, data := .seq its n, slots := slo } ∧ R (.ok (.ret (.ref s.heap.objs.size))) { s with heap := s.heap.push { cls := .type "tuple", data := .seq #[] } }) :=
  .of_wp fun prog wo A R s h => by
    obtain ⟨mem, g, d, k, os⟩ := s
    obtain ⟨here, h⟩ := h
    have idx := AutoSeq1.idx_int
    have no : (its.isEmpty || (0 : Int) == 1) = false := by rw [some_]; rfl
    have yes : (decide ((0 : Int) ≤ 0) || its.isEmpty) = true := rfl
    wp_walk using wpAny_loadPart' here
    repeat (first
      | (refine wpAny_ite_false (by decide) ?_; wp_walk using wpAny_loadPart' here)
      | (refine wpAny_ite_false (decide_eq_false (by rw [no]; exact Bool.false_ne_true)) ?_; wp_walk using wpAny_loadPart' here)
      | (refine wpAny_ite_true (decide_eq_true yes) ?_; wp_walk using wpAny_loadPart' here))
    exact ⟨_, rfl, h⟩
/-- t * k, t not empty -/
def rTimes (K : PySem.W.Frag) : R2 := fun x y H Q => ∃ (t : Addr) (k : Nat) (xs : List V), x = .ref t ∧ y = .int (k : Int) ∧ SqT K H t xs ∧ xs ≠ [] ∧ k ≤ 1000 ∧ xs.length ≤ 1000 ∧
  ∀ p H', Same H H' → SqT K H' p (List.replicate k xs).flatten → Q (.ref p) H'
theorem op_times {X : Cx} : OpR X (binaryOp .Mult) (rTimes X.K) := by
  intro pins st σ H x y v u Q I rx ry h
  obtain ⟨t, k, xs, rfl, rfl, hT, ne, hk, hz, q⟩ := h
  match k with
  | k + 2 =>
    refine op_repT pins st σ H _ _ v u Q I rx ry ⟨t, _, xs, rfl, rfl, hT, ne, by omega, by omega, hz, fun p hp => ?_⟩
    exact q p _ (same_new hp) (SqT.of upd_same)
  | 1 =>
    cases rx
    obtain ⟨tk, rfl⟩ := ry
    obtain ⟨its, r, ⟨⟨cls, dct, data, slo⟩, ho, hc, n, hd⟩, hs⟩ := I.tuple hT
    simp only at hc hd
    subst hc hd
    refine wpAny_binaryOp_repeat_ref (T := "tuple") (U := "int") (by decide) ⟨_, ho, rfl⟩ (fun s' => typeIs_int s' 1 tk) noFill_tuple_mul F.fills_int_mul F.slot_int_rmul repeat_tuple F.slot_int_index.lookup
      (call_meets F.slot_int_rmul (typeIs_int st 1 tk) F.entry_int_rmul (F.args_int_rmul_2 _ _) (int_rmul_tuple 1 tk t its.toArray n dct slo)
        ⟨ho, rfl, ⟨_, ho, rfl⟩, call_meets F.slot_tuple_mul ⟨_, ho, rfl⟩ F.entry_tuple_mul (F.args_tuple_mul_2 _ _) (times_one t its.toArray n dct slo tk) ⟨ho, ?_⟩⟩)
    have e : (List.replicate 1 xs).flatten = xs := by simp
    rw [e] at q
    exact ⟨.ref t, H, I, rfl, q t H (Same.refl H) hT⟩
  | 0 =>
    cases rx
    obtain ⟨tk, rfl⟩ := ry
    obtain ⟨its, r, ⟨⟨cls, dct, data, slo⟩, ho, hc, n, hd⟩, hs⟩ := I.tuple hT
    simp only at hc hd
    subst hc hd
    have full : its.toArray.isEmpty = false := by
      cases its with
      | nil =>
        cases r
        exact absurd rfl ne
      | cons a b => rfl
    refine wpAny_binaryOp_repeat_ref (T := "tuple") (U := "int") (by decide) ⟨_, ho, rfl⟩ (fun s' => typeIs_int s' 0 tk) noFill_tuple_mul F.fills_int_mul F.slot_int_rmul repeat_tuple F.slot_int_index.lookup
      (call_meets F.slot_int_rmul (typeIs_int st 0 tk) F.entry_int_rmul (F.args_int_rmul_2 _ _) (int_rmul_tuple 0 tk t its.toArray n dct slo)
        ⟨ho, rfl, ⟨_, ho, rfl⟩, call_meets F.slot_tuple_mul ⟨_, ho, rfl⟩ F.entry_tuple_mul (F.args_tuple_mul_2 _ _) (times_nought t its.toArray n dct slo tk full) ⟨ho, ?_⟩⟩)
    refine ⟨.ref st.heap.objs.size, _, I.laid (t' := st.toks) (o := .tup []) (fun b ob q => Heap.get?_push_of_some _ q) (Nat.le_refl _) ?_, rfl, q _ _ (same_new (I.hok.fresh (Nat.le_refl _))) (SqT.of upd_same)⟩
    exact ⟨Nat.zero_le _, _, .nil, IsTup.new _ _⟩
end Kx
/-! an own ==, and the != that comes of it: both answers. -/
namespace Kx
open L2 PySem PySem.Spec PyProof.Rows
/-- x == y (x != y), x an instance of the class at C, y another one or a tuple: what its own == promises, by k the answer -/
def rOwnAsk (K : PySem.W.Frag) (C : Addr) (sp : Sp) (E : XK) (neg : Bool) : R2 := fun x y H Q => ∃ (a b dx : Addr) (fs : List (Str × V)), x = .ref a ∧ y = .ref b ∧ H a = some (.ins C dx fs) ∧
  ((∃ (dy : Addr) (gs : List (Str × V)), H b = some (.ins C dy gs)) ∨ (neg = false ∧ (∃ ys, SqT K H b ys) ∧ PySem.W.notFirst K C (.type "tuple") = true)) ∧
  sp [x, y] H (fun v H' => ∃ k, v = .bl k ∧ Q (.bl (neg != k)) H') E
/-- what ==, != ask of the class at C, whose own == is at f -/
structure EqC (K : PySem.W.Frag) (C f : Addr) : Prop where
  eq : PySem.W.findIn K (.ref C) "__eq__" = some (some (.ref f))
  isFn : PySem.W.isFn K (.ref f) = true
  ne : ∃ (nm q : Str) (N : Addr) (bs : List Value) (hdct : Bool) (sn : List Str) (sub : List Value) (ab : Bool) (col : Option Bool) (dd : Option Addr) (k0 k1 k2 k3 k5 : Option Value) (newId : String) (oN oF : Obj) (es : Array DictEntry) (ep : Nat),
    K.lookup C = some (excClassObj nm q C N bs [.type "object"] hdct sn sub ab col dd k0 k1 k2 k3 k5 newId) ∧ K.lookup N = some oN ∧ oN.data = .dict es ep ∧ StrKeys es ∧ nsFind es "__eq__" = some (.ref f) ∧ nsFind es "__ne__" = none ∧ K.lookup f = some oF ∧ oF.cls = .type "function"
section
variable {X : Cx} {CX : CXT} {C f : Addr} {fd : FuncData} {ps : List Str} {n : Nat} {sp : Sp} {E : XK}
theorem own_eq (F : FnOk X.prog X.w X.K X.mg X.base CX n f fd ps sp) (T : EqC X.K C f) (hb : Binds X.K fd ps []) (hr : Room n X.A) (hx : Passes CX X E) : OpR X (compareOp .Eq) (rOwnAsk X.K C sp E false) := by
  intro pins st σ H x y v u Q I rx ry h
  obtain ⟨a, b, dx, fs, rfl, rfl, ha, hy, q⟩ := h
  obtain rfl : v = .ref a := rx
  obtain rfl : u = .ref b := ry
  obtain ⟨m1, J, _⟩ := ins_get I.hok ha
  obtain ⟨od, J, _⟩ := J.look
  obtain ⟨m, hF⟩ := I.fr
  have go : wpAny (model X.prog X.w) X.A (call (.ref f) [.ref a, .ref b]) (PySem.W.CmpBack (EP X pins σ Q)) X.xe st := by
    have hl := F.len _ _ _ _ q
    have both : Vals [V.ref a, V.ref b] [.ref a, .ref b] := .cons rfl (.cons rfl .nil)
    refine wpAny_call (codeAny_mono (F.run X.A X.stack st H ⟨[.ref a, .ref b], []⟩ [.ref a, .ref b] [.ref a, .ref b] _ E hr I.env0 (by
      have := hb st [.ref a, .ref b] I.kIn (by simpa using hl)
      simpa using this) both q) fun r s' z => ?_)
    match r, z with
    | .error e, z => exact hx pins σ H st e s' I z
    | .ok (.ret w), z =>
      obtain ⟨z', H', I', rz, k, ez, qz⟩ := I.after z
      subst ez
      cases rz
      refine (show EP X pins σ Q (.bool k) s' from ⟨.bl k, H', I', rfl, ?_⟩)
      have e : (false != k) = k := by cases k <;> rfl
      rw [e] at qz
      exact qz
    | .ok .next, z => exact z.elim
    | .ok .brk, z => exact z.elim
    | .ok .cont, z => exact z.elim
  show wpAny (model X.prog X.w) X.A (richCompare .Eq (.ref a) (.ref b)) (EP X pins σ Q) X.xe st
  rcases hy with ⟨dy, gs, hb'⟩ | ⟨_, ⟨ys, hT⟩, nf⟩
  · obtain ⟨m2, J2, _⟩ := ins_get I.hok hb'
    obtain ⟨od2, J2, _⟩ := J2.look
    exact PySem.W.cmp_K (op := .Eq) (tb := .ref C) hr.units0 hF I.ok.mod.kin J J2.type (by simp [PySem.W.notFirst]) T.eq T.isFn go
  · obtain ⟨its, _, ⟨o, ho, hc, _⟩, _⟩ := I.tuple hT
    exact PySem.W.cmp_K (op := .Eq) (tb := .type "tuple") hr.units0 hF I.ok.mod.kin J (fun A' Q' E' s' kp q' => wpAny_typeOf_ref (kp _ _ ho) (by rw [hc]; exact q')) nf T.eq T.isFn go
theorem own_ne (F : FnOk X.prog X.w X.K X.mg X.base CX n f fd ps sp) (T : EqC X.K C f) (hb : Binds X.K fd ps []) (hr : Room (n + 1) X.A) (hx : Passes CX X E) : OpR X (compareOp .NotEq) (rOwnAsk X.K C sp E true) := by
  intro pins st σ H x y v u Q I rx ry h
  obtain ⟨a, b, dx, fs, rfl, rfl, ha, hy, q⟩ := h
  obtain rfl : v = .ref a := rx
  obtain rfl : u = .ref b := ry
  obtain ⟨dy, gs, hb'⟩ : ∃ (dy : Addr) (gs : List (Str × V)), H b = some (.ins C dy gs) := hy.elim id fun z => nomatch z.1
  obtain ⟨m1, J, _⟩ := ins_get I.hok ha
  obtain ⟨m2, J2, _⟩ := ins_get I.hok hb'
  obtain ⟨od, J, _⟩ := J.look
  obtain ⟨od2, J2, _⟩ := J2.look
  obtain ⟨nm, qn, N, bs, hdct, sn, sub, ab, col, dd, k0, k1, k2, k3, k5, newId, oN, oF, es, ep, hC, hN, dN, sk, e1, e2, hF, cF⟩ := T.ne
  have O : st.heap.OwnEqNoNe a C f "object" [.type "object"] := ⟨_, oF, nm, qn, N, bs, hdct, sn, sub, ab, col, dd, k0, k1, k2, k3, k5, newId, fun y => nsFind es y, _, J.at_, J.cls, I.kIn _ _ hC, ⟨oN, es, ep, I.kIn _ _ hN, dN, sk, fun _ => rfl⟩, e1, I.kIn _ _ hF, cF, PySem.F.cmp_object.mro, PySem.F.cmp_object.eq.lookup, e2⟩
  obtain ⟨hp, g, d, t, os⟩ := st
  refine compareOp_ne_ownEq PySem.F.cmp_object O J2.at_ J2.cls (by have := hr.un; omega) ?_
  have hl := F.len _ _ _ _ q
  have both : Vals [V.ref a, V.ref b] [.ref a, .ref b] := .cons rfl (.cons rfl .nil)
  refine wpAny_call (codeAny_mono (F.run X.A.in1 X.stack _ H ⟨[.ref a, .ref b], []⟩ [.ref a, .ref b] [.ref a, .ref b] _ E hr.in1 I.env0.in1 (by
    have := hb ⟨hp, g, d, t, os⟩ [.ref a, .ref b] I.kIn (by simpa using hl)
    simpa using this) both q) fun r s' z => ?_)
  match r, z with
  | .error e, z => exact hx pins σ H _ e s' I z
  | .ok (.ret w), z =>
    obtain ⟨z', H', I', rz, k, ez, qz⟩ := I.after z
    subst ez
    cases rz
    refine ⟨k, rfl, .bl (!k), H', I', rfl, ?_⟩
    have e : (true != k) = !k := by cases k <;> rfl
    rw [e] at qz
    exact qz
  | .ok .next, z => exact z.elim
  | .ok .brk, z => exact z.elim
  | .ok .cont, z => exact z.elim
end
end Kx
/-! tuples of whole numbers, and tuples of such: as data, ==, != -/
namespace Kx
open L2 PySem PySem.Spec PyProof.Rows
abbrev dNums (ns : List Int) : PyData := .tuple (ns.map PyData.int)
abbrev dRows (rs : List (List Int)) : PyData := .tuple (rs.map dNums)
theorem dpAll_nums {K : PySem.W.Frag} {H : Hp} : ∀ (ns : List Int), DpAll K H (ns.map V.int) (ns.map PyData.int)
  | [] => .nil
  | n :: ns => .cons (.int n) (dpAll_nums ns)
theorem dp_nums {K : PySem.W.Frag} {H : Hp} {a : Addr} {ns : List Int} (h : SqT K H a (ns.map V.int)) : Dp K H (.ref a) (dNums ns) := .tup h (dpAll_nums ns)
theorem lay_nums : ∀ (ns : List Int), PyData.canLayAll0 (ns.map PyData.int) = true
  | [] => by simp only [List.map_nil, PyData.canLayAll0]
  | n :: ns => by simp only [List.map_cons, PyData.canLayAll0, PyData.canLay0, lay_nums ns, Bool.and_self]
theorem deep_nums : ∀ (ns : List Int), PyData.depthAll (ns.map PyData.int) = 0
  | [] => by simp only [List.map_nil, PyData.depthAll]
  | n :: ns => by simp only [List.map_cons, PyData.depthAll, PyData.depth, deep_nums ns, Nat.max_self]
theorem shaped_nums (ns : List Int) : SeqAt.shaped (dNums ns) = true := by
  unfold SeqAt.shaped
  simp only [PyData.canLay0, PyData.depth, lay_nums, deep_nums]
  decide
theorem eqv_nums : ∀ (xs ys : List Int), PyData.eqvAll (xs.map PyData.int) (ys.map PyData.int) = decide (xs = ys)
  | [], ys => by cases ys <;> simp [PyData.eqvAll]
  | n :: ns, [] => by simp [PyData.eqvAll]
  | x :: xs, y :: ys => by
    simp only [List.map_cons, PyData.eqvAll, PyData.eqv, eqv_nums xs ys]
    rw [Bool.eq_iff_iff]
    simp
theorem lay_rows : ∀ (rs : List (List Int)), PyData.canLayAll0 (rs.map dNums) = true
  | [] => by simp only [List.map_nil, PyData.canLayAll0]
  | n :: ns => by simp only [List.map_cons, PyData.canLayAll0, PyData.canLay0, lay_nums, lay_rows ns, Bool.and_self]
theorem deep_rows : ∀ (rs : List (List Int)), PyData.depthAll (rs.map dNums) ≤ 1
  | [] => by simp only [List.map_nil, PyData.depthAll]; decide
  | n :: ns => by
    have := deep_rows ns
    simp only [List.map_cons, PyData.depthAll, PyData.depth, deep_nums]
    omega
theorem shaped_rows (rs : List (List Int)) : SeqAt.shaped (dRows rs) = true := by
  unfold SeqAt.shaped
  have := deep_rows rs
  simp only [PyData.canLay0, PyData.depth, lay_rows, Bool.true_and]
  exact decide_eq_true (show _ ≤ 64 by omega)
theorem eqv_rows : ∀ (xs ys : List (List Int)), PyData.eqvAll (xs.map dNums) (ys.map dNums) = decide (xs = ys)
  | [], ys => by cases ys <;> simp [PyData.eqvAll]
  | n :: ns, [] => by simp [PyData.eqvAll]
  | x :: xs, y :: ys => by
    simp only [List.map_cons, PyData.eqvAll, PyData.eqv, eqv_nums x y, eqv_rows xs ys]
    rw [Bool.eq_iff_iff]
    simp
/-- t == u, t != u: tuples of whole numbers -/
def rNumsEq (K : PySem.W.Frag) (neg : Bool) : R2 := fun x y H Q => ∃ (a b : Addr) (xs ys : List Int), x = .ref a ∧ y = .ref b ∧ SqT K H a (xs.map V.int) ∧ SqT K H b (ys.map V.int) ∧ Q (.bl (neg != decide (xs = ys))) H
theorem op_eqNums {X : Cx} (hu : X.A.units + 64 < cLine) : OpR X (compareOp .Eq) (rNumsEq X.K false) := by
  intro pins st σ H x y v u Q I rx ry h
  obtain ⟨a, b, xs, ys, rfl, rfl, h1, h2, q⟩ := h
  refine op_eqD hu pins st σ H _ _ v u Q I rx ry ⟨_, _, dp_nums h1, dp_nums h2, shaped_nums xs, shaped_nums ys, ?_⟩
  simp only [PyData.eqv, eqv_nums]
  rwa [Bool.false_bne] at q
theorem op_neNums {X : Cx} (hu : X.A.units + 64 < cLine) : OpR X (compareOp .NotEq) (rNumsEq X.K true) := by
  intro pins st σ H x y v u Q I rx ry h
  obtain ⟨a, b, xs, ys, rfl, rfl, h1, h2, q⟩ := h
  refine op_neD hu pins st σ H _ _ v u Q I rx ry ⟨_, _, dp_nums h1, dp_nums h2, shaped_nums xs, shaped_nums ys, ?_⟩
  simp only [PyData.eqv, eqv_nums]
  rwa [Bool.true_bne] at q
end Kx
/-! numbers, sequences, rows -/
namespace K7
open PySem PySem.Spec PyProof.Rows L2 Kx
def isNum : V → Bool
  | .int i => decide (0 ≤ i)
  | _ => false
def isBel (l : Int) : V → Bool
  | .int i => decide (0 ≤ i) && decide (i < l)
  | _ => false
/-- what a value of known kind is as a sequence: its items, none where it is none -/
inductive Long (K : PySem.W.Frag) (H : Hp) : V → Option (List V) → Prop
  | seq {a : Addr} {xs : List V} (h : Sq K H a xs) : Long K H (.ref a) (some xs)
  | non : Long K H .non none
  | bl (b : Bool) : Long K H (.bl b) none
  | int (i : Int) : Long K H (.int i) none
  | str (x : Str) : Long K H (.str x) none
def inLen (l m : Int) : Option (List V) → Bool
  | some xs => decide (l ≤ (xs.length : Int)) && decide ((xs.length : Int) ≤ m)
  | none => false
theorem Long.same {K : PySem.W.Frag} {H H' : Hp} {v : V} {o : Option (List V)} (e : Same H H') (h : Long K H v o) : Long K H' v o := by
  cases h with
  | seq q => exact .seq (q.same e)
  | non => exact .non
  | bl b => exact .bl b
  | int i => exact .int i
  | str x => exact .str x
theorem Kn.long {K : PySem.W.Frag} {H : Hp} {v : V} (h : Kn K H v) : ∃ o, Long K H v o := by
  cases h with
  | seq q => exact ⟨_, .seq q⟩
  | non => exact ⟨_, .non⟩
  | bl b => exact ⟨_, .bl b⟩
  | int i => exact ⟨_, .int i⟩
  | str x => exact ⟨_, .str x⟩
theorem Long.kn {K : PySem.W.Frag} {H : Hp} {v : V} {o : Option (List V)} (h : Long K H v o) : Kn K H v := by
  cases h with
  | seq q => exact .seq q
  | non => exact .non
  | bl b => exact .bl b
  | int i => exact .int i
  | str x => exact .str x
/-- the first item that is not below l -/
def fnb (l : Int) : List V → Option Nat
  | [] => none
  | x :: xs => if isBel l x = true then (fnb l xs).map (· + 1) else some 0
def optV : Option Nat → V
  | some n => .int n
  | none => .non
/-- none: a row of deeds below n; else where it is wrong -/
def rowAt (n : Int) : Option (List V) → Option Int
  | some xs => if xs.length ≤ 400 then (fnb n xs).map (fun (i : Nat) => (i : Int)) else some (-1)
  | none => some (-1)
/-- every item is of a known kind, where the sequence is no longer than m -/
def Kns (K : PySem.W.Frag) (H : Hp) (o : Option (List V)) (m : Nat) : Prop := ∀ xs, o = some xs → xs.length ≤ m → ∀ x ∈ xs, Kn K H x
theorem Kns.same {K : PySem.W.Frag} {H H' : Hp} {o : Option (List V)} {m : Nat} (e : Same H H') (h : Kns K H o m) : Kns K H' o m := fun xs q l x hx => (h xs q l x hx).same e
/-- an error C of the one field f is raised -/
def Thrown (E : XK) (H : Hp) (C : Addr) (f : Str) (v : V) : Prop := ∀ d H', Same H H' → H' d = some (.xd [(f, v)]) → E (.ref C) (some d) H'
theorem Thrown.same {E : XK} {H H' : Hp} {C : Addr} {f : Str} {v : V} (e : Same H H') (h : Thrown E H C f v) : Thrown E H' C f v := fun d H2 e2 q => h d H2 (e.trans e2) q
theorem Thrown.at_ {E : XK} {H : Hp} {C : Addr} {f : Str} {v : V} (h : Thrown E H C f v) : ∀ d, H d = none → E (.ref C) (some d) (upd H d (.xd [(f, v)])) := fun d q => h d _ (same_new q) upd_same
theorem fnb_none {l : Int} : ∀ {xs : List V}, fnb l xs = none ↔ ∀ x ∈ xs, isBel l x = true
  | [] => by simp [fnb]
  | x :: xs => by
    unfold fnb
    by_cases h : isBel l x = true
    · rw [if_pos h, Option.map_eq_none_iff, fnb_none]
      exact ⟨fun q y hy => (List.mem_cons.mp hy).elim (fun e => e ▸ h) (q y), fun q y hy => q y (List.mem_cons_of_mem _ hy)⟩
    · rw [if_neg h]
      exact ⟨fun q => (nomatch q), fun q => absurd (q x (List.mem_cons_self ..)) h⟩
theorem fnb_some {l : Int} : ∀ {xs : List V} {i : Nat}, (∀ j x, j < i → xs[j]? = some x → isBel l x = true) → (∃ x, xs[i]? = some x ∧ isBel l x = false) → fnb l xs = some i
  | [], i, _, h => by obtain ⟨x, h, _⟩ := h; simp at h
  | x :: xs, 0, _, h => by
    obtain ⟨y, h1, h2⟩ := h
    have e : x = y := by simpa using h1
    unfold fnb
    rw [e, if_neg (by rw [h2]; exact Bool.false_ne_true)]
  | x :: xs, i + 1, hl, h => by
    unfold fnb
    rw [if_pos (hl 0 x (Nat.succ_pos i) rfl), fnb_some (i := i) (fun j y hj hy => hl (j + 1) y (Nat.succ_lt_succ hj) (by simpa using hy)) (by simpa using h)]
    rfl
/-- the errors' classes -/
structure Ad where
  cM : Addr
  cF : Addr
  cO : Addr
  cN : Addr
/-- what the module holds of its errors -/
structure Er (P : Program) (w : World) (K : PySem.W.Frag) (mg : Str → Option Value) (base : Heap) (a : Ad) : Prop where
  BadMachine : ErrN P w K mg base 1 "BadMachine" "at" a.cM
  Refused : ErrN P w K mg base 1 "Refused" "at" a.cF
  Forgets : ErrF P w K mg base 1 "Forgets" "deed" "one" "other" a.cO
  NoState : ErrN P w K mg base 1 "NoState" "state" a.cN
def spNumber (K : PySem.W.Frag) : Sp := fun vs H Q _ => ∃ v, vs = [v] ∧ Kn K H v ∧ Q (.bl (isNum v)) H
def spBelow (K : PySem.W.Frag) : Sp := fun vs H Q _ => ∃ v l, vs = [v, .int l] ∧ Kn K H v ∧ Q (.bl (isBel l v)) H
def spSeq (K : PySem.W.Frag) : Sp := fun vs H Q _ => ∃ v l m o, vs = [v, .int l, .int m] ∧ Long K H v o ∧ ∀ H', Same H H' → Q (.bl (inLen l m o)) H'
def spFnb (K : PySem.W.Frag) : Sp := fun vs H Q _ => ∃ a xs l, vs = [.ref a, .int l] ∧ Sq K H a xs ∧ (∀ x ∈ xs, Kn K H x) ∧ ∀ H', Same H H' → Q (optV (fnb l xs)) H'
/-- the type's name of such a value, where it is no int -/
theorem kn_ty {K : PySem.W.Frag} {H : Hp} {v : V} (h : Kn K H v) : (∃ i, v = .int i) ∨ ∃ n : String, TyX K H v (.type n) ∧ (n = "NoneType" ∨ n = "bool" ∨ n = "str" ∨ n = "list" ∨ n = "tuple") ∧ isNum v = false ∧ ∀ l, isBel l v = false := by
  cases h with
  | int i => exact .inl ⟨i, rfl⟩
  | non => exact .inr ⟨_, .base .non, by simp, rfl, fun _ => rfl⟩
  | bl b => exact .inr ⟨_, .base (.bl b), by simp, rfl, fun _ => rfl⟩
  | str x => exact .inr ⟨_, .base (.str x), by simp, rfl, fun _ => rfl⟩
  | seq q =>
    rcases q with q | q
    · exact .inr ⟨_, tyx_list q, by simp, rfl, fun _ => rfl⟩
    · exact .inr ⟨_, tyx_tuple q, by simp, rfl, fun _ => rfl⟩
theorem kit_int {K : PySem.W.Frag} {n : String} (h : n = "NoneType" ∨ n = "bool" ∨ n = "str" ∨ n = "list" ∨ n = "tuple") : ∃ b, PySem.W.kitOne K (.type n) (.type "int") = some b ∧ (b = true → PySem.W.kitOne K (.type n) (.type "bool") = some true) := by
  rcases h with rfl | rfl | rfl | rfl | rfl
  · exact ⟨false, kit_ty (by decide +kernel), fun z => nomatch z⟩
  · exact ⟨true, kit_ty (by decide +kernel), fun _ => kit_ty (by decide +kernel)⟩
  · exact ⟨false, kit_ty (by decide +kernel), fun z => nomatch z⟩
  · exact ⟨false, kit_ty (by decide +kernel), fun z => nomatch z⟩
  · exact ⟨false, kit_ty (by decide +kernel), fun z => nomatch z⟩
section
variable {P : Program} {w : World} {K : PySem.W.Frag} {mg : Str → Option Value} {base : Heap} {f : Addr} {fd : FuncData} {a : Ad}
theorem scis_number : FnScope ["value"] ["value"] (defScope s_is_number) := ⟨rfl, rfl, rfl, by decide +kernel, rfl, by decide +kernel, by decide +kernel⟩
theorem ok_is_number (F : FnP K "is_number" s_is_number f fd) (T : Mg mg) : FnOk P w K mg base CX0 1 f fd ["value"] (spNumber K) := by
  refine F.ok scis_number (fun vs H Q E h => ?_) (fun cdv A outer s H vs Q E hr h => ?_)
  · obtain ⟨v, rfl, _⟩ := h
    rfl
  · obtain ⟨v, rfl, hv, k⟩ := h
    refine ⟨_, PSs.nox (pss_one (ps_ret (pe_and (pe_callB call_isi (by rfl) T.z_isinstance (by decide +kernel) (pa_cons (pv 0) (pa_cons (pe_ty T.z_int bt_int) pa_nil))) (pe_and (pe_not (pe_callB call_isi (by rfl) T.z_isinstance (by decide +kernel) (pa_cons (pv 0) (pa_cons (pe_ty T.z_bool bt_bool) pa_nil)))) (pe_one (pe_cmpR op_ge (pv 0) pe_int (nomark _))))))), ?_⟩
    rcases kn_ty hv with ⟨i, rfl⟩ | ⟨n, ht, hn, e, _⟩
    · refine ⟨_, rfl, _, .ty "int", _, _, true, rfl, .ty _, .base (.int i), kit_ty (by decide +kernel), true, rfl, iteT ?_⟩
      refine ⟨_, rfl, _, .ty "bool", _, _, false, rfl, .ty _, .base (.int i), kit_ty (by decide +kernel), false, rfl, true, rfl, iteT ⟨_, rfl, _, _, rfl, rfl, ?_⟩⟩
      exact k
    · obtain ⟨b, hb, hb2⟩ := kit_int (K := K) hn
      rw [e] at k
      refine ⟨_, rfl, _, .ty "int", _, _, b, rfl, .ty _, ht, hb, b, rfl, ?_⟩
      cases b with
      | false => exact iteF k
      | true => exact iteT ⟨_, rfl, _, .ty "bool", _, _, true, rfl, .ty _, ht, hb2 rfl, true, rfl, false, rfl, iteF k⟩
theorem sc_is_below : FnScope ["value", "limit"] ["value", "limit"] (defScope s_is_below) := ⟨rfl, rfl, rfl, by decide +kernel, rfl, by decide +kernel, by decide +kernel⟩
theorem ok_is_below (F : FnP K "is_below" s_is_below f fd) (T : Mg mg) (c_is_number : Cal P w K mg base CX0 1 "is_number" ["value"] (spNumber K)) : FnOk P w K mg base CX0 2 f fd ["value", "limit"] (spBelow K) := by
  refine F.ok sc_is_below (fun vs H Q E h => ?_) (fun cdv A outer s H vs Q E hr h => ?_)
  · obtain ⟨v, l, rfl, _⟩ := h
    rfl
  · obtain ⟨v, l, rfl, hv, k⟩ := h
    refine ⟨_, PSs.nox (pss_one (ps_ret (pe_and (pe_callC c_is_number hr pass0 (pa_cons (pv 0) pa_nil)) (pe_one (pe_cmpR op_lt (pv 0) (pv 1) (nomark _)))))), ?_⟩
    refine ⟨_, rfl, v, rfl, hv, isNum v, rfl, ?_⟩
    cases e : isNum v with
    | false =>
      refine iteF ?_
      have e2 : isBel l v = false := by
        cases v <;> first | rfl | (have e' : decide _ = false := e; show (decide _ && decide _) = false; rw [e']; rfl)
      rw [e2] at k
      exact k
    | true =>
      refine iteT ?_
      obtain ⟨i, rfl⟩ : ∃ i, v = .int i := by
        cases v with
        | int i => exact ⟨i, rfl⟩
        | _ => cases e
      refine ⟨_, rfl, _, rfl, _, _, rfl, rfl, ?_⟩
      have e2 : isBel l (.int i) = decide (i < l) := by
        show (decide _ && decide _) = _
        rw [show decide (0 ≤ i) = true from e]
        rfl
      rw [e2] at k
      exact k
theorem sc_is_sequence : FnScope ["value", "least", "most"] ["value", "least", "most"] (defScope s_is_sequence) := ⟨rfl, rfl, rfl, by decide +kernel, rfl, by decide +kernel, by decide +kernel⟩
theorem kit_seq {K : PySem.W.Frag} {n : String} {b : Bool} (h1 : n = "list" ∨ n = "tuple" → b = true) (h2 : n = "NoneType" ∨ n = "bool" ∨ n = "str" ∨ n = "int" → b = false) (hn : (n = "list" ∨ n = "tuple") ∨ n = "NoneType" ∨ n = "bool" ∨ n = "str" ∨ n = "int") :
    PySem.W.kitAny K (.type n) [.type "list", .type "tuple"] = some b := by
  rcases hn with hn | hn
  · obtain rfl := h1 hn
    rcases hn with rfl | rfl
    · exact kitAny_cons (b := true) (kit_ty (by decide +kernel)) (fun z => nomatch z) (fun _ => rfl)
    · exact kitAny_cons (b := false) (kit_ty (by decide +kernel)) (fun _ => kitAny_cons (b := true) (kit_ty (by decide +kernel)) (fun z => nomatch z) (fun _ => rfl)) (fun z => nomatch z)
  · obtain rfl := h2 hn
    rcases hn with rfl | rfl | rfl | rfl
    · exact kitAny_cons (b := false) (kit_ty (by decide +kernel)) (fun _ => kitAny_cons (b := false) (kit_ty (by decide +kernel)) (fun _ => kitAny_nil) (fun z => nomatch z)) (fun z => nomatch z)
    · exact kitAny_cons (b := false) (kit_ty (by decide +kernel)) (fun _ => kitAny_cons (b := false) (kit_ty (by decide +kernel)) (fun _ => kitAny_nil) (fun z => nomatch z)) (fun z => nomatch z)
    · exact kitAny_cons (b := false) (kit_ty (by decide +kernel)) (fun _ => kitAny_cons (b := false) (kit_ty (by decide +kernel)) (fun _ => kitAny_nil) (fun z => nomatch z)) (fun z => nomatch z)
    · exact kitAny_cons (b := false) (kit_ty (by decide +kernel)) (fun _ => kitAny_cons (b := false) (kit_ty (by decide +kernel)) (fun _ => kitAny_nil) (fun z => nomatch z)) (fun z => nomatch z)
theorem long_ty {H : Hp} {v : V} {o : Option (List V)} (h : Long K H v o) : ∃ n : String, TyX K H v (.type n) ∧ PySem.W.kitAny K (.type n) [.type "list", .type "tuple"] = some o.isSome := by
  cases h with
  | non => exact ⟨_, .base .non, kit_seq (by simp) (by simp) (by simp)⟩
  | bl b => exact ⟨_, .base (.bl b), kit_seq (by simp) (by simp) (by simp)⟩
  | int i => exact ⟨_, .base (.int i), kit_seq (by simp) (by simp) (by simp)⟩
  | str x => exact ⟨_, .base (.str x), kit_seq (by simp) (by simp) (by simp)⟩
  | seq q =>
    rcases q with q | q
    · exact ⟨_, tyx_list q, kit_seq (by simp) (by simp) (by simp)⟩
    · exact ⟨_, tyx_tuple q, kit_seq (by simp) (by simp) (by simp)⟩
theorem ok_is_sequence (F : FnP K "is_sequence" s_is_sequence f fd) (T : Mg mg) : FnOk P w K mg base CX0 1 f fd ["value", "least", "most"] (spSeq K) := by
  refine F.ok sc_is_sequence (fun vs H Q E h => ?_) (fun cdv A outer s H vs Q E hr h => ?_)
  · obtain ⟨v, l, m, o, rfl, _⟩ := h
    rfl
  · obtain ⟨v, l, m, o, rfl, hv, k⟩ := h
    refine ⟨_, PSs.nox (pss_one (ps_ret (pe_and (pe_callB call_isiT (by rfl) T.z_isinstance (by decide +kernel) (pa_cons (pv 0) (pa_cons (pe_tup (pa_cons (pe_ty T.z_list bt_list) (pa_cons (pe_ty T.z_tuple bt_tuple) pa_nil))) pa_nil))) (pe_one (pe_chain op_le op_le (pv 1) (pe_callB call_len_seq (by rfl) T.z_len PySem.boot_len (pa_cons (pv 0) pa_nil)) (pv 2)))))), ?_⟩
    refine ⟨_, rfl, (by show 2 ≤ sizeLine; decide), fun p hp => ?_⟩
    have e := same_new (o := HO.tup [.ty "list", .ty "tuple"]) hp
    obtain ⟨n, ht, hk⟩ := long_ty (hv.same e)
    refine ⟨v, p, _, .type n, _, o.isSome, rfl, upd_same, .cons (.ty _) (.cons (.ty _) .nil), ht, hk, _, rfl, ?_⟩
    cases o with
    | none => exact iteF (k _ e)
    | some xs =>
      refine iteT ?_
      cases hv with
      | seq q =>
        have q' := q.same e
        refine ⟨_, rfl, _, rfl, _, _, rfl, q', _, _, rfl, rfl, decide (l ≤ (xs.length : Int)), rfl, ?_⟩
        refine ite2 (fun h1 => ?_) (fun h1 => ?_)
        · refine ⟨_, rfl, _, _, rfl, rfl, ?_⟩
          have k2 := k _ e
          rw [show inLen l m (some xs) = decide ((xs.length : Int) ≤ m) from by show (decide _ && _) = _; rw [h1]; rfl] at k2
          exact k2
        · have k2 := k _ e
          rw [show inLen l m (some xs) = false from by show (decide _ && _) = _; rw [Bool.eq_false_iff.mpr h1]; rfl] at k2
          exact k2
end
end K7
namespace K7
open PySem PySem.Spec PyProof.Rows L2 Kx
section
variable {P : Program} {w : World} {K : PySem.W.Frag} {mg : Str → Option Value} {base : Heap} {f : Addr} {fd : FuncData} {a : Ad}
theorem passC {X : Cx} {W : WX} {E : XK} (tk : L2N.Takes X W) (h : ∀ cls d σ H, E cls d H → W cls d σ H) : Passes (L2N.CX X.prog X.w) X E := L2N.passes_call tk h
theorem inLen_some {l m : Int} {xs : List V} : inLen l m (some xs) = (decide (l ≤ (xs.length : Int)) && decide ((xs.length : Int) ≤ m)) := rfl
theorem optV_non {o : Option Nat} : decide (optV o = V.non) = o.isNone := by
  cases o with
  | none => rfl
  | some n => exact decide_eq_false (fun z => nomatch z)
theorem sc_first_not_below : FnScope ["values", "limit", "at", "value"] ["values", "limit"] (defScope s_first_not_below) := ⟨rfl, rfl, rfl, by decide +kernel, rfl, by decide +kernel, by decide +kernel⟩
theorem ok_first_not_below (F : FnP K "first_not_below" s_first_not_below f fd) (T : Mg mg) (c_is_below : Cal P w K mg base CX0 2 "is_below" ["value", "limit"] (spBelow K)) : FnOk P w K mg base CX0 3 f fd ["values", "limit"] (spFnb K) := by
  refine F.ok sc_first_not_below (fun vs H Q E h => ?_) (fun cdv A outer s H vs Q E hr h => ?_)
  · obtain ⟨a, xs, l, rfl, _⟩ := h
    rfl
  · obtain ⟨a, xs, l, rfl, hx, hk, k⟩ := h
    refine ⟨_, PSs.nox (pss_cons (ps_for PassesOwn.never rfl (pi_pairs (by rfl) T.z_enumerate (pa_cons (pv 0) pa_nil)) (pg_tup rfl (pgs_cons (pg_name (i := 2) sc_first_not_below.nd rfl (by first | exact Or.inl rfl | exact Or.inr rfl)) (pgs_cons (pg_name (i := 3) sc_first_not_below.nd rfl (by first | exact Or.inl rfl | exact Or.inr rfl)) pgs_nil)))
        (pss_one (ps_if (pt_not (pt_val (pe_callC c_is_below hr pass0 (pa_cons (pv 3) (pa_cons (pv 1) pa_nil)))))
          (pss_one (ps_ret (pv 2)))
          pss_nil)))
      (pss_one (ps_ret pe_non))), ?_⟩
    refine ⟨_, rfl, a, xs, rfl, for_pairs hx (fun i σ' H' => ∃ x y, σ' = [some (.ref a), some (.int l), x, y] ∧ Same H H' ∧ ∀ j z, j < i → xs[j]? = some z → isBel l z = true) ⟨_, _, rfl, Same.refl H, fun j z hj => absurd hj (Nat.not_lt_zero j)⟩ (fun i σ' H' q => q.elim fun _ q => q.elim fun _ q => q.2.1) ?_ ?_⟩
    · rintro i x p σ' H' hx' ⟨_, _, rfl, e, hl⟩ hp
      refine ⟨p, _, rfl, SqT.of upd_same, rfl, ?_⟩
      refine ⟨_, _, rfl, _, _, rfl, rfl, ?_⟩
      refine ⟨x, rfl, _, rfl, x, l, rfl, ((hk x (List.mem_of_getElem? hx')).same e).same (same_new hp), isBel l x, rfl, ?_⟩
      cases eb : isBel l x with
      | true =>
        refine iteF ⟨_, _, rfl, e.trans (same_new hp), fun j z hj hz => ?_⟩
        rcases Nat.lt_or_eq_of_le (Nat.le_of_lt_succ hj) with h | rfl
        · exact hl j z h hz
        · rw [hx'] at hz
          cases hz
          exact eb
      | false =>
        refine iteT ⟨_, rfl, ?_⟩
        rw [fnb_some (i := i) hl ⟨x, hx', eb⟩] at k
        exact k _ (e.trans (same_new hp))
    · rintro σ' H' ⟨_, _, rfl, e, hl⟩
      have := k _ e
      rw [fnb_none.mpr fun x hx => by
        obtain ⟨j, hj⟩ := List.getElem?_of_mem (hx : x ∈ xs)
        exact hl j x (List.getElem?_eq_some_iff.mp hj).1 hj] at this
      exact this
end
end K7
/-! comprehensions whose list is known ahead, item by item -/
namespace Kx
open L2 PySem PySem.Spec PyProof.Rows
/-- i items of out are made, at D -/
def Part (H1 : Hp) (D : Addr) (out : List V) (i : Nat) (H : Hp) : Prop := H D = some (.lst (out.take i)) ∧ Same H1 H
section
variable {H1 H H' : Hp} {D : Addr} {out : List V} {i : Nat} {y : V}
theorem Part.zero (hD : H1 D = none) : Part H1 D out 0 (upd H1 D (.lst [])) := ⟨upd_same, same_new hD⟩
theorem Part.step (p : Part H1 D out i H) (hD : H1 D = none) (e : Same H H') (hy : out[i]? = some y) (fits : out.length ≤ sizeLine) :
    ∃ acc, H' D = some (.lst acc) ∧ acc.length < sizeLine ∧ Part H1 D out (i + 1) (upd H' D (.lst (acc ++ [y]))) := by
  have lt := (List.getElem?_eq_some_iff.mp hy).1
  refine ⟨_, e _ _ p.1, by rw [List.length_take]; omega, ?_, fun b o hb => ?_⟩
  · rw [upd_same, List.take_add_one, hy] <;> rfl
  · rw [upd_ne (ne_of_none hb hD)]
    exact e _ _ (p.2 _ _ hb)
theorem Part.done {n : Nat} (p : Part H1 D out n H) (h : out.length ≤ n) : H D = some (.lst out) ∧ Same H1 H := by
  have q := p.1
  rw [List.take_of_length_le h] at q
  exact ⟨q, p.2⟩
end
theorem yes {σ : L2.St} {H : Hp} {Q : Bool → Hp → Prop} (h : Q true H) : tYes σ H Q := h
/-- a comprehension's W by a word of the turn -/
theorem lc_by {J : It} {n : Nat} {g : TG} {tt : TT} {te : TE} {vs : List Nat} {σ : L2.St} {Q : VK} {D : Addr} {H0 : Hp} (Pv : Nat → Hp → Prop) (h0 : Pv 0 H0)
    (go : ∀ i H, i < n → Pv i H → J.go i H ∧ ∀ x H', J.yld i H x H' → g x (wipe σ vs) H' fun σ2 H2 => wipe σ2 vs = wipe σ vs ∧ tt σ2 H2 fun b H3 =>
      if b = true then te σ2 H3 fun y H4 => ∃ acc, H4 D = some (.lst acc) ∧ acc.length < sizeLine ∧ Pv (i + 1) (upd H4 D (.lst (acc ++ [y]))) else Pv (i + 1) H3)
    (stop : ∀ H, Pv n H → J.stop n H ∧ Q (.ref D) H) :
    ∃ W : Nat → Nat → Hp → Prop, (∃ m, W 0 m H0) ∧ ∀ i m H, W i m H → (J.stop i H ∧ Q (.ref D) H) ∨ (J.go i H ∧ ∃ Nx : Hp → Prop, (∀ H', Nx H' → ∃ m', m' < m ∧ W (i + 1) m' H') ∧ ∀ x H', J.yld i H x H' → g x (wipe σ vs) H' fun σ2 H2 => wipe σ2 vs = wipe σ vs ∧ tt σ2 H2 fun b H3 =>
      if b = true then te σ2 H3 (fun y H4 => ∃ acc, H4 D = some (.lst acc) ∧ acc.length < sizeLine ∧ Nx (upd H4 D (.lst (acc ++ [y])))) else Nx H3) := by
  refine ⟨fun i m H => m = n - i ∧ i ≤ n ∧ Pv i H, ⟨n, rfl, Nat.zero_le n, h0⟩, ?_⟩
  rintro i m H ⟨rfl, le, p⟩
  rcases Nat.lt_or_eq_of_le le with lt | rfl
  · obtain ⟨g1, g2⟩ := go i H lt p
    exact .inr ⟨g1, Pv (i + 1), fun H' p' => ⟨n - (i + 1), by omega, rfl, lt, p'⟩, g2⟩
  · exact .inl (stop H p)
/-- the same for any body of the turn -/
theorem turns {J : It} {n : Nat} {Z : Hp → Prop} {H0 : Hp} {B : (Hp → Prop) → V → Hp → Prop} (Pv : Nat → Hp → Prop) (h0 : Pv 0 H0) (go : ∀ i H, i < n → Pv i H → J.go i H ∧ ∀ x H', J.yld i H x H' → B (Pv (i + 1)) x H') (stop : ∀ H, Pv n H → J.stop n H ∧ Z H) :
    ∃ W : Nat → Nat → Hp → Prop, (∃ m, W 0 m H0) ∧ ∀ i m H, W i m H → (J.stop i H ∧ Z H) ∨ (J.go i H ∧ ∃ Nx : Hp → Prop, (∀ H', Nx H' → ∃ m', m' < m ∧ W (i + 1) m' H') ∧ ∀ x H', J.yld i H x H' → B Nx x H') := by
  refine ⟨fun i m H => m = n - i ∧ i ≤ n ∧ Pv i H, ⟨n, rfl, Nat.zero_le n, h0⟩, ?_⟩
  rintro i m H ⟨rfl, le, p⟩
  rcases Nat.lt_or_eq_of_le le with lt | rfl
  · obtain ⟨g1, g2⟩ := go i H lt p
    exact .inr ⟨g1, Pv (i + 1), fun H' p' => ⟨n - (i + 1), by omega, rfl, lt, p'⟩, g2⟩
  · exact .inl (stop H p)
/-- t + u, any tuples -/
def rCatS (K : PySem.W.Frag) : R2 := fun x y H Q => ∃ (a b : Addr) (xs ys : List V), x = .ref a ∧ y = .ref b ∧ SqT K H a xs ∧ SqT K H b ys ∧ xs.length + ys.length ≤ sizeLine ∧ ∀ p H', Same H H' → SqT K H' p (xs ++ ys) → Q (.ref p) H'
theorem op_catS {X : Cx} {K : PySem.W.Frag} (hK : X.K = K := by rfl) : OpR X (binaryOp .Add) (rCatS K) := by
  subst hK
  intro pins st σ H x y v u Q I rx ry h
  obtain ⟨a, b, xs, ys, rfl, rfl, h1, h2, fits, key⟩ := h
  refine op_catA pins st σ H _ _ v u Q I rx ry ⟨a, b, xs, ys, rfl, rfl, h1, h2, fits, fun e => ?_, fun _ e => ?_, fun _ _ p hp => key p _ (same_new hp) (SqT.of upd_same)⟩
  · subst e
    exact key b H (Same.refl H) h2
  · subst e
    exact key a H (Same.refl H) (by rw [List.append_nil]; exact h1)
end Kx
/-! machines are made, compared -/
namespace K7
open PySem PySem.Spec PyProof.Rows L2 Kx
theorem r64 {k : Nat} {A : Around} (r : Room k A) : A.units + 64 < cLine := by have := r.un; omega
theorem fnb_ints {l : Int} : ∀ {xs : List V}, fnb l xs = none → ∃ ns : List Int, xs = ns.map V.int ∧ ∀ n ∈ ns, 0 ≤ n ∧ n < l
  | [], _ => ⟨[], rfl, fun _ h => nomatch h⟩
  | x :: xs, h => by
    have h' := fnb_none.mp h
    obtain ⟨ns, rfl, hn⟩ := fnb_ints (xs := xs) (fnb_none.mpr fun y hy => h' y (List.mem_cons_of_mem _ hy))
    have hx := h' x (List.mem_cons_self ..)
    cases x with
    | int i =>
      have hx : (decide (0 ≤ i) && decide (i < l)) = true := hx
      rw [Bool.and_eq_true] at hx
      refine ⟨i :: ns, rfl, fun n hn' => (List.mem_cons.mp hn').elim (fun e => ?_) (hn n)⟩
      subst e
      exact ⟨of_decide_eq_true hx.1, of_decide_eq_true hx.2⟩
    | _ => exact absurd hx Bool.false_ne_true
theorem fnb_of {l : Int} {ns : List Int} (h : ∀ n ∈ ns, 0 ≤ n ∧ n < l) : fnb l (ns.map V.int) = none := fnb_none.mpr fun x hx => by
  obtain ⟨n, hn, rfl⟩ := List.mem_map.mp hx
  show (decide (0 ≤ n) && decide (n < l)) = true
  rw [decide_eq_true (h n hn).1, decide_eq_true (h n hn).2]
  rfl
theorem tup_of {K : PySem.W.Frag} {H : Hp} {a : Addr} {xs : List V} {Q : VK} (q : Sq K H a xs) (key : ∀ p H', Same H H' → SqT K H' p xs → Q (.ref p) H') : (SqL K H a xs ∧ ∀ l, H l = none → Q (.ref l) (upd H l (.tup xs))) ∨ (SqT K H a xs ∧ Q (.ref a) H) :=
  q.imp (fun q => ⟨q, fun l hl => key l _ (same_new hl) (SqT.of upd_same)⟩) fun q => ⟨q, key a H (Same.refl H) q⟩
theorem call_tup {X : Cx} : CallR X (.type "tuple") (fun xs H Q => ∃ p ys, xs = [.ref p] ∧ Sq X.K H p ys ∧ ∀ q H', Same H H' → SqT X.K H' q ys → Q (.ref q) H') := fun pins s σ H vs us Q I r ⟨p, ys, e, q, key⟩ =>
  call_tuple_of pins s σ H vs us Q I r ⟨p, ys, e, tup_of q key⟩
theorem rd_ins {H : Hp} {x a C dx : Addr} {fs gs : List (Str × V)} {u : HO} (hx : H x = some (.ins C dx fs)) (n1 : ∀ C dx fs, u ≠ .ins C dx fs) (q : Rd H a u) : Rd (upd H x (.ins C dx gs)) a u :=
  q.elim (fun q => .inl (by rw [upd_ne (ne_of q hx (n1 _ _ _))]; exact q)) fun ⟨z, q⟩ => .inr ⟨z, by rw [upd_ne (ne_of q hx (fun z => nomatch z))]; exact q⟩
theorem sqL_ins {K : PySem.W.Frag} {H : Hp} {x a C dx : Addr} {fs gs : List (Str × V)} {xs : List V} (hx : H x = some (.ins C dx fs)) (h : SqL K H a xs) : SqL K (upd H x (.ins C dx gs)) a xs := h.imp (rd_ins hx fun _ _ _ z => nomatch z) id
theorem sqT_ins {K : PySem.W.Frag} {H : Hp} {x a C dx : Addr} {fs gs : List (Str × V)} {xs : List V} (hx : H x = some (.ins C dx fs)) (h : SqT K H a xs) : SqT K (upd H x (.ins C dx gs)) a xs := h.imp (rd_ins hx fun _ _ _ z => nomatch z) id
theorem sq_ins {K : PySem.W.Frag} {H : Hp} {x a C dx : Addr} {fs gs : List (Str × V)} {xs : List V} (hx : H x = some (.ins C dx fs)) (h : Sq K H a xs) : Sq K (upd H x (.ins C dx gs)) a xs := h.imp (sqL_ins hx) (sqT_ins hx)
theorem tru_sq {K : PySem.W.Frag} {H : Hp} {b : Addr} {xs : List V} (h : Sq K H b xs) : TruV K (.ref b) H (!xs.isEmpty) := h.elim (fun h => .inl ⟨xs, h, rfl⟩) fun h => .inr (.inl ⟨xs, h, rfl⟩)
theorem sqT_lst {K : PySem.W.Frag} {H : Hp} {D : Addr} {u u' : List V} {q : Addr} {xs : List V} (hD : H D = some (.lst u)) (h : SqT K H q xs) : SqT K (upd H D (.lst u')) q xs := by
  refine h.imp (fun h => ?_) id
  rcases h with h | ⟨z, h⟩
  · exact .inl (by rw [upd_ne (ne_of h hD (fun z => nomatch z))]; exact h)
  · exact .inr ⟨z, by rw [upd_ne (ne_of h hD (fun z => nomatch z))]; exact h⟩
/-- tables that a machine may have: n states -/
structure Mok (n : Nat) (ts : List (List Int)) : Prop where
  l1 : 1 ≤ ts.length
  l4 : ts.length ≤ 4
  n1 : 1 ≤ n
  n8 : n ≤ 8
  len : ∀ t ∈ ts, t.length = n
  ent : ∀ t ∈ ts, ∀ x ∈ t, 0 ≤ x ∧ x < (n : Int)
/-- rows stand at these places -/
def RowsBy (R : Addr → List V → Prop) : List V → List (List Int) → Prop
  | [], [] => True
  | v :: vs, t :: ts => (∃ q, v = .ref q ∧ R q (t.map V.int)) ∧ RowsBy R vs ts
  | _, _ => False
theorem RowsBy.imp {R S : Addr → List V → Prop} (e : ∀ q xs, R q xs → S q xs) : ∀ {vs : List V} {ts : List (List Int)}, RowsBy R vs ts → RowsBy S vs ts
  | [], [], _ => trivial
  | _ :: _, _ :: _, ⟨⟨q, h1, h2⟩, h⟩ => ⟨⟨q, h1, e _ _ h2⟩, RowsBy.imp e h⟩
  | [], _ :: _, h => h.elim
  | _ :: _, [], h => h.elim
theorem RowsBy.length {R : Addr → List V → Prop} : ∀ {vs : List V} {ts : List (List Int)}, RowsBy R vs ts → vs.length = ts.length
  | [], [], _ => rfl
  | _ :: _, _ :: _, ⟨_, h⟩ => congrArg Nat.succ (RowsBy.length h)
  | [], _ :: _, h => h.elim
  | _ :: _, [], h => h.elim
theorem RowsBy.at_ {R : Addr → List V → Prop} : ∀ {vs : List V} {ts : List (List Int)} {i : Nat} {t : List Int}, RowsBy R vs ts → ts[i]? = some t → ∃ q, vs[i]? = some (.ref q) ∧ R q (t.map V.int)
  | _ :: _, _ :: _, 0, t, ⟨⟨q, h1, h2⟩, _⟩, e => by
    simp at e
    subst e
    exact ⟨q, by simp [h1], h2⟩
  | _ :: _, _ :: _, i + 1, t, ⟨_, h⟩, e => by
    obtain ⟨q, h1, h2⟩ := RowsBy.at_ (i := i) h (by simpa using e)
    exact ⟨q, by simpa using h1, h2⟩
  | [], [], _, _, _, e => by simp at e
  | [], _ :: _, _, _, h, _ => h.elim
  | _ :: _, [], _, _, h, _ => h.elim
theorem RowsBy.snoc {R : Addr → List V → Prop} {q : Addr} {t : List Int} (hq : R q (t.map V.int)) : ∀ {vs : List V} {ts : List (List Int)}, RowsBy R vs ts → RowsBy R (vs ++ [.ref q]) (ts ++ [t])
  | [], [], _ => ⟨⟨q, rfl, hq⟩, trivial⟩
  | _ :: _, _ :: _, ⟨h1, h⟩ => ⟨h1, RowsBy.snoc hq h⟩
  | [], _ :: _, h => h.elim
  | _ :: _, [], h => h.elim
structure McAt (K : PySem.W.Frag) (CM : Addr) (H : Hp) (m : Addr) (n : Nat) (ts : List (List Int)) : Prop where
  ok : Mok n ts
  ex : ∃ dx t ps, H m = some (.ins CM dx [("deeds", .int (ts.length : Int)), ("states", .int (n : Int)), ("tables", .ref t)]) ∧ SqT K H t ps ∧ RowsBy (SqT K H) ps ts
theorem McAt.same {K : PySem.W.Frag} {CM : Addr} {H H' : Hp} {m : Addr} {n : Nat} {ts : List (List Int)} (e : Same H H') (h : McAt K CM H m n ts) : McAt K CM H' m n ts := by
  obtain ⟨ok, dx, t, ps, h1, h2, h3⟩ := h
  exact ⟨ok, dx, t, ps, e _ _ h1, sqT_same e h2, h3.imp fun _ _ q => sqT_same e q⟩
structure ClsM (K : PySem.W.Frag) (mg : Str → Option Value) (CM : Addr) : Prop where
  at_ : mg "Machine" = some (.ref CM)
  cl : Cls K CM
  n1 : NoAttr K CM "deeds"
  n2 : NoAttr K CM "states"
  n3 : NoAttr K CM "tables"
  isi : SlX.SIsi K CM
  yes : PySem.W.kitOne K (.ref CM) (.ref CM) = some true
  notT : PySem.W.kitOne K (.type "tuple") (.ref CM) = some false
  first : PySem.W.notFirst K CM (.type "tuple") = true
/-- a table of n states -/
def isTab (n : Nat) : Option (List V) → Bool
  | some ys => inLen 1 8 (some ys) && (decide (ys.length = n) && (fnb ys.length ys).isNone)
  | none => false
theorem isTab_some {n : Nat} {ys : List V} : isTab n (some ys) = (inLen 1 8 (some ys) && (decide (ys.length = n) && (fnb ys.length ys).isNone)) := rfl
def spTable (K : PySem.W.Frag) : Sp := fun vs H Q _ => ∃ (v like : V) (o : Option (List V)) (n : Nat), vs = [v, like] ∧ Long K H v o ∧ Kns K H o 8 ∧ (inLen 1 8 o = true → ∃ c zs, like = .ref c ∧ Sq K H c zs ∧ zs.length = n) ∧ ∀ H', Same H H' → Q (.bl (isTab n o)) H'
/-- the first that is no table -/
def badTab (n : Nat) : List (Option (List V)) → Option Nat
  | [] => none
  | o :: os => if isTab n o = true then (badTab n os).map (· + 1) else some 0
theorem badTab_none {n : Nat} : ∀ {os : List (Option (List V))}, badTab n os = none ↔ ∀ o ∈ os, isTab n o = true
  | [] => by simp [badTab]
  | o :: os => by
    unfold badTab
    by_cases h : isTab n o = true
    · rw [if_pos h, Option.map_eq_none_iff, badTab_none]
      exact ⟨fun q y hy => (List.mem_cons.mp hy).elim (fun e => e ▸ h) (q y), fun q y hy => q y (List.mem_cons_of_mem _ hy)⟩
    · rw [if_neg h]
      exact ⟨fun q => (nomatch q), fun q => absurd (q o (List.mem_cons_self ..)) h⟩
theorem badTab_some {n : Nat} : ∀ {os : List (Option (List V))} {i : Nat}, (∀ j o, j < i → os[j]? = some o → isTab n o = true) → (∃ o, os[i]? = some o ∧ isTab n o = false) → badTab n os = some i
  | [], i, _, h => by obtain ⟨x, h, _⟩ := h; simp at h
  | x :: xs, 0, _, h => by
    obtain ⟨y, h1, h2⟩ := h
    have e : x = y := by simpa using h1
    unfold badTab
    rw [e, if_neg (by rw [h2]; exact Bool.false_ne_true)]
  | x :: xs, i + 1, hl, h => by
    unfold badTab
    rw [if_pos (hl 0 x (Nat.succ_pos i) rfl), badTab_some (i := i) (fun j y hj hy => hl (j + 1) y (Nat.succ_lt_succ hj) (by simpa using hy)) (by simpa using h)]
    rfl
/-- what the items are as sequences -/
def Items (K : PySem.W.Frag) (H : Hp) : List V → List (Option (List V)) → Prop
  | [], [] => True
  | v :: vs, o :: os => (Long K H v o ∧ Kns K H o 8) ∧ Items K H vs os
  | _, _ => False
theorem Items.at_ {K : PySem.W.Frag} {H : Hp} : ∀ {vs : List V} {os : List (Option (List V))} {i : Nat} {v : V}, Items K H vs os → vs[i]? = some v → ∃ o, os[i]? = some o ∧ Long K H v o ∧ Kns K H o 8
  | _ :: _, _ :: _, 0, v, ⟨h1, _⟩, e => by
    simp at e
    subst e
    exact ⟨_, rfl, h1⟩
  | _ :: _, _ :: _, i + 1, v, ⟨_, h⟩, e => by
    obtain ⟨o, h1, h2⟩ := Items.at_ (i := i) h (by simpa using e)
    exact ⟨o, by simpa using h1, h2⟩
  | [], [], _, _, _, e => by simp at e
  | [], _ :: _, _, _, h, _ => h.elim
  | _ :: _, [], _, _, h, _ => h.elim
/-- the number of the first's items -/
def lenAt (os : List (Option (List V))) : Nat := match os[0]? with
  | some (some ys) => ys.length
  | _ => 0
theorem tabs_of {K : PySem.W.Frag} {H : Hp} {n : Nat} : ∀ {vs : List V} {os : List (Option (List V))}, Items K H vs os → (∀ o ∈ os, isTab n o = true) → ∃ ts : List (List Int), os = ts.map (fun t => some (t.map V.int)) ∧ RowsBy (Sq K H) vs ts ∧ (∀ t ∈ ts, t.length = n) ∧ ∀ t ∈ ts, ∀ x ∈ t, 0 ≤ x ∧ x < (n : Int)
  | [], [], _, _ => ⟨[], rfl, trivial, (fun t h => nomatch h), (fun t h => nomatch h)⟩
  | v :: vs, o :: os, ⟨⟨h1, _⟩, h⟩, all => by
    obtain ⟨ts, e, r, l, b⟩ := tabs_of h fun o ho => all o (List.mem_cons_of_mem _ ho)
    have z := all o (List.mem_cons_self ..)
    cases h1 with
    | @seq a ys q =>
      rw [isTab_some, Bool.and_eq_true, Bool.and_eq_true] at z
      have len := of_decide_eq_true z.2.1
      obtain ⟨ns, en, hn⟩ := fnb_ints (Option.isNone_iff_eq_none.mp z.2.2)
      subst en
      refine ⟨ns :: ts, by rw [e]; rfl, ⟨⟨a, rfl, q⟩, r⟩, fun t ht => ?_, fun t ht => ?_⟩
      · rcases List.mem_cons.mp ht with rfl | ht
        · rw [← len, List.length_map]
        · exact l t ht
      · rcases List.mem_cons.mp ht with rfl | ht
        · intro x hx
          have := hn x hx
          rw [len] at this
          exact this
        · exact b t ht
    | _ => cases z
  | [], _ :: _, h, _ => h.elim
  | _ :: _, [], h, _ => h.elim
section
variable {P : Program} {w : World} {K : PySem.W.Frag} {mg : Str → Option Value} {base : Heap} {f : Addr} {fd : FuncData} {a : Ad} {CM : Addr}
theorem sc_is_table : FnScope ["value", "like"] ["value", "like"] (defScope s_is_table) := ⟨rfl, rfl, rfl, by decide +kernel, rfl, by decide +kernel, by decide +kernel⟩
theorem ok_is_table (F : FnP K "_is_table" s_is_table f fd) (T : Mg mg) (c_is_sequence : Cal P w K mg base CX0 1 "is_sequence" ["value", "least", "most"] (spSeq K)) (c_first_not_below : Cal P w K mg base CX0 3 "first_not_below" ["values", "limit"] (spFnb K)) : FnOk P w K mg base CX0 4 f fd ["value", "like"] (spTable K) := by
  refine F.ok sc_is_table (fun vs H Q E h => ?_) (fun cdv A outer s H vs Q E hr h => ?_)
  · obtain ⟨v, like, o, n, rfl, _⟩ := h
    rfl
  · obtain ⟨v, like, o, n, rfl, hv, hk, hl, k⟩ := h
    refine ⟨_, PSs.nox (pss_cons (ps_if (pt_not (pt_val (pe_callC c_is_sequence hr pass0 (pa_cons (pv 0) (pa_cons pe_int (pa_cons (pe_constI T.g_STATES_MOST) pa_nil))))))
        (pss_one (ps_ret pe_bl))
        pss_nil)
      (pss_one (ps_ret (pe_and (pe_cmpR op_eq (pe_callB call_len_seq (by rfl) T.z_len PySem.boot_len (pa_cons (pv 0) pa_nil)) (pe_callB call_len_seq (by rfl) T.z_len PySem.boot_len (pa_cons (pv 1) pa_nil)) (nomark _)) (pe_one (pe_cmpR op_isN (pe_callC c_first_not_below hr pass0 (pa_cons (pv 0) (pa_cons (pe_callB call_len_seq (by rfl) T.z_len PySem.boot_len (pa_cons (pv 0) pa_nil)) pa_nil))) pe_non (nomark _))))))), ?_⟩
    refine ⟨_, rfl, v, 1, 8, o, rfl, hv, fun H1 e1 => ⟨inLen 1 8 o, rfl, ?_⟩⟩
    cases i1 : inLen 1 8 o with
    | false =>
      have z : isTab n o = false := by
        cases o with
        | none => rfl
        | some ys => rw [isTab_some, i1] <;> rfl
      rw [z] at k
      exact iteT (k H1 e1)
    | true =>
      refine iteF ?_
      obtain ⟨c, zs, rfl, hc, hn⟩ := hl i1
      cases hv with
      | @seq b ys hb =>
        rw [isTab_some, i1] at k
        have l8 : ys.length ≤ 8 := by
          rw [inLen_some, Bool.and_eq_true] at i1
          have := of_decide_eq_true i1.2
          omega
        refine ⟨_, rfl, b, ys, rfl, hb.same e1, _, rfl, c, zs, rfl, hc.same e1, rfl, ?_⟩
        have ed : decide (V.int (ys.length : Int) = V.int (zs.length : Int)) = decide (ys.length = n) := by
          rw [hn, Bool.eq_iff_iff, decide_eq_true_eq, decide_eq_true_eq]
          exact ⟨fun z => by injection z with z; omega, fun z => by rw [z]⟩
        rw [ed]
        refine ⟨_, rfl, ?_⟩
        cases en : decide (ys.length = n) with
        | false =>
          rw [en] at k
          exact iteF (k H1 e1)
        | true =>
          rw [en] at k
          refine iteT ?_
          refine ⟨_, rfl, _, rfl, b, ys, rfl, hb.same e1, b, ys, _, rfl, hb.same e1, fun x hx => (hk _ rfl l8 x hx).same e1, fun H2 e2 => ⟨rfl, ?_⟩⟩
          have k2 := k _ (e1.trans e2)
          rw [← optV_non] at k2
          exact k2
      | _ => cases i1
end
end K7
/-! machines are made, compared -/
namespace K7
open L2 PySem PySem.Spec PyProof.Rows Kx
def spMachine (K : PySem.W.Frag) (a : Ad) (CM : Addr) : Sp := fun vs H Q E => ∃ (x dx : Addr) (v : V) (o : Option (List V)), vs = [.ref x, v] ∧ H x = some (.ins CM dx []) ∧ Long K H v o ∧ (inLen 1 4 o = false → Thrown E H a.cM "at" (.int (-1))) ∧
  ∀ xs, o = some xs → inLen 1 4 o = true → ∃ os, Items K H xs os ∧ (∀ i, badTab (lenAt os) os = some i → Thrown E H a.cM "at" (.int (i : Int))) ∧
    (badTab (lenAt os) os = none → ∀ n ts, Mok n ts → os = ts.map (fun t => some (t.map V.int)) → ∀ H', (∀ b o, b ≠ x → H b = some o → H' b = some o) → McAt K CM H' x n ts → Q .non H')
/-- tuple(xs) in a comprehension -/
theorem call_tupK {X : Cx} {K : PySem.W.Frag} (hK : X.K = K := by rfl) : CallR X (.type "tuple") (fun xs H Q => ∃ p ys, xs = [.ref p] ∧ Sq K H p ys ∧ ∀ q H', Same H H' → SqT K H' q ys → Q (.ref q) H') := by
  subst hK
  exact call_tup
theorem Items.length {K : PySem.W.Frag} {H : Hp} : ∀ {vs : List V} {os : List (Option (List V))}, Items K H vs os → vs.length = os.length
  | [], [], _ => rfl
  | _ :: _, _ :: _, ⟨_, h⟩ => congrArg Nat.succ (Items.length h)
  | [], _ :: _, h => h.elim
  | _ :: _, [], h => h.elim
theorem ints_map {xs ys : List (List Int)} (h : xs.map (fun t => some (t.map V.int)) = ys.map (fun t => some (t.map V.int))) : xs = ys := by
  have inj : ∀ {a b : List Int}, a.map V.int = b.map V.int → a = b := fun {a b} h => by
    have := congrArg (List.map fun v => match v with | V.int i => i | _ => 0) h
    simpa [Function.comp_def] using this
  induction xs generalizing ys with
  | nil => cases ys with
    | nil => rfl
    | cons _ _ => cases h
  | cons x xs ih => cases ys with
    | nil => cases h
    | cons y ys =>
      rw [List.map_cons, List.map_cons] at h
      injection h with h1 h2
      rw [inj (Option.some.inj h1), ih h2]
section
variable {P : Program} {w : World} {K : PySem.W.Frag} {mg : Str → Option Value} {base : Heap} {f : Addr} {fd : FuncData} {a : Ad} {CM : Addr}
theorem sc_machine : FnScope ["self", "tables", "at", "table"] ["self", "tables"] (defScope s_Machine_init) := ⟨rfl, rfl, rfl, by decide +kernel, rfl, by decide +kernel, by decide +kernel⟩
theorem ok_machine (F : FunD K "__init__" "Machine.__init__" (defArgs s_Machine_init) (defBody s_Machine_init) (defScope s_Machine_init) [] [] f fd) (T : Mg mg) (R : Er P w K mg base a) (TM : ClsM K mg CM)
    (c_is_sequence : Cal P w K mg base CX0 1 "is_sequence" ["value", "least", "most"] (spSeq K)) (c__is_table : Cal P w K mg base CX0 4 "_is_table" ["value", "like"] (spTable K)) : FnOk P w K mg base (L2N.CX P w) 5 f fd ["self", "tables"] (spMachine K a CM) := by
  refine F.ok sc_machine (fun vs H Q E h => ?_) (fun cdv A outer s H vs Q E hr h => ?_)
  · obtain ⟨x, dx, v, o, rfl, _⟩ := h
    rfl
  · obtain ⟨x, dx, v, o, rfl, hx, hv, far, near⟩ := h
    refine ⟨_, (pss_cons (ps_if (pt_not (pt_val (pe_callC c_is_sequence hr pass0 (pa_cons (pv 1) (pa_cons pe_int (pa_cons (pe_constI T.g_DEEDS_MOST) pa_nil))))))
        (pss_one (psN R.BadMachine rfl hr (L2N.takes_of rfl rfl rfl rfl) (pa_cons (pe_un un_neg pe_int) pa_nil)))
        pss_nil)
      (pss_cons (ps_for (passes_of rfl) rfl (pi_pairs (by rfl) T.z_enumerate (pa_cons (pv 1) pa_nil)) (pg_tup rfl (pgs_cons (pg_name (i := 2) sc_machine.nd rfl (by first | exact Or.inl rfl | exact Or.inr rfl)) (pgs_cons (pg_name (i := 3) sc_machine.nd rfl (by first | exact Or.inl rfl | exact Or.inr rfl)) pgs_nil)))
        (pss_one (ps_if (pt_not (pt_val (pe_callC c__is_table hr pass0 (pa_cons (pv 3) (pa_cons (pe_ix ix_seq (pv 1) pe_int (fun _ _ => rfl)) pa_nil)))))
          (pss_one (psN R.BadMachine rfl hr (L2N.takes_of rfl rfl rfl rfl) (pa_cons (pv 2) pa_nil)))
          pss_nil)))
      (PSs.nox (pss_cons (ps_fld (pv 0) (pe_callB call_len_seq (by rfl) T.z_len PySem.boot_len (pa_cons (pv 1) pa_nil)) rfl)
      (pss_cons (ps_fld (pv 0) (pe_callB call_len_seq (by rfl) T.z_len PySem.boot_len (pa_cons (pe_ix ix_seq (pv 1) pe_int (fun _ _ => rfl)) pa_nil)) rfl)
      (pss_one (ps_fld (pv 0) (pe_callTy call_tup (by rfl) T.z_tuple (by decide +kernel) (pa_cons (pe_lc (own := [("table", 3)]) (by rfl) sc_machine.nd (pi_any (pv 1)) (blkOk_by (own := [("table", 3)]) (N := ["self", "tables", "at", "table"]) (sc := defScope s_Machine_init) (by decide +kernel))
        (fun _ _ _ _ _ => pg_name (i := 3) sc_machine.nd rfl (by first | exact Or.inl rfl | exact Or.inr rfl)) (fun _ _ _ _ _ => pts_nil) (fun _ _ _ _ _ => pe_callTy (call_tupK (K := K)) (by rfl) T.z_tuple bt_tuple (pa_cons (pv 3) pa_nil))) pa_nil)) rfl))))))), ?_⟩
    refine ⟨_, rfl, v, 1, 4, o, rfl, hv, fun H1 e1 => ⟨inLen 1 4 o, rfl, ?_⟩⟩
    cases i1 : inLen 1 4 o with
    | false => exact iteT ⟨1, rfl, thrownN ((far i1).same e1).at_⟩
    | true =>
      refine iteF ?_
      cases hv with
      | @seq b xs hb =>
        obtain ⟨os, it, bad, good⟩ := near xs rfl i1
        have len := it.length
        have l4 : 1 ≤ xs.length ∧ xs.length ≤ 4 := by
          have z := i1
          rw [inLen_some, Bool.and_eq_true] at z
          have := of_decide_eq_true z.1
          have := of_decide_eq_true z.2
          omega
        obtain ⟨x0, hx0⟩ : ∃ x0, xs[0]? = some x0 := ⟨xs[0], List.getElem?_eq_getElem (by omega)⟩
        obtain ⟨o0, ho0, long0, kns0⟩ := it.at_ hx0
        have ix0 : ∀ {H' : Hp} {Q : VK}, Same H H' → Q x0 H' → rIx K (.ref b) (.int 0) H' Q := fun e q => by
          rcases hb.same e with z | z
          · exact .inl ⟨b, xs, 0, x0, rfl, rfl, z, atI_nat hx0, q⟩
          · exact .inr (.inl ⟨b, xs, 0, x0, rfl, rfl, z, atI_nat hx0, q⟩)
        refine ⟨_, rfl, b, xs, rfl, for_pairs (hb.same e1) (fun i σ' H' => ∃ y z, σ' = [some (.ref x), some (.ref b), y, z] ∧ Same H H' ∧ Same H1 H' ∧ ∀ j o, j < i → os[j]? = some o → isTab (lenAt os) o = true) ⟨_, _, rfl, e1, Same.refl _, fun j z hj => absurd hj (Nat.not_lt_zero j)⟩ (fun i σ' H' q => q.elim fun _ q => q.elim fun _ q => q.2.2.1) ?_ ?_⟩
        · rintro i y t σ' H' hy ⟨_, _, rfl, e, e', hs⟩ ht
          refine ⟨t, _, rfl, SqT.of upd_same, rfl, ?_⟩
          refine ⟨_, _, rfl, _, _, rfl, rfl, ?_⟩
          have e2 := e.trans (same_new (o := HO.tup [.int (i : Int), y]) ht)
          obtain ⟨oi, hoi, longi, knsi⟩ := it.at_ hy
          refine ⟨_, rfl, _, rfl, ix0 e2 ?_⟩
          refine ⟨y, x0, oi, lenAt os, rfl, longi.same e2, knsi.same e2, fun z => ?_, fun H3 e3 => ⟨isTab (lenAt os) oi, rfl, ?_⟩⟩
          · have z0 : isTab (lenAt os) o0 = true ∨ (i = 0 ∧ oi = o0) := by
              rcases Nat.eq_zero_or_pos i with h | h
              · subst h
                rw [ho0] at hoi
                exact .inr ⟨rfl, (Option.some.inj hoi).symm⟩
              · exact .inl (hs 0 o0 h ho0)
            have some0 : ∃ zs, o0 = some zs := by
              rcases z0 with h | ⟨_, h⟩
              · cases o0 with
                | none => cases h
                | some zs => exact ⟨zs, rfl⟩
              · subst h
                cases oi with
                | none => cases z
                | some zs => exact ⟨zs, rfl⟩
            obtain ⟨zs, rfl⟩ := some0
            cases long0 with
            | @seq c _ hc => exact ⟨c, zs, rfl, hc.same e2, by unfold lenAt; rw [ho0]⟩
          · cases eb : isTab (lenAt os) oi with
            | false => exact iteT ⟨_, rfl, thrownN ((bad i (badTab_some hs ⟨oi, hoi, eb⟩)).same (e2.trans e3)).at_⟩
            | true =>
              refine iteF ⟨_, _, rfl, e2.trans e3, (e'.trans (same_new ht)).trans e3, fun j z hj hz => ?_⟩
              rcases Nat.lt_or_eq_of_le (Nat.le_of_lt_succ hj) with h | rfl
              · exact hs j z h hz
              · rw [hoi] at hz
                cases hz
                exact eb
        · rintro σ' H' ⟨_, _, rfl, e, e', hs⟩
          have allT : ∀ o ∈ os, isTab (lenAt os) o = true := fun o ho => by
            obtain ⟨j, hj⟩ := List.getElem?_of_mem ho
            exact hs j o (by rw [len]; exact (List.getElem?_eq_some_iff.mp hj).1) hj
          obtain ⟨ts, eo, rows, tl, tb⟩ := tabs_of it allT
          have lts : ts.length = xs.length := by rw [len, eo, List.length_map]
          obtain ⟨t0, ht0⟩ : ∃ t0, ts[0]? = some t0 := ⟨ts[0], List.getElem?_eq_getElem (by omega)⟩
          have mt0 := List.mem_of_getElem? ht0
          have n0 : lenAt os = t0.length := (tl t0 mt0).symm
          have mok : Mok (lenAt os) ts := by
            have z := allT o0 (List.mem_of_getElem? ho0)
            refine ⟨by omega, by omega, ?_, ?_, tl, tb⟩
            · cases o0 with
              | none => cases z
              | some ys =>
                rw [isTab_some, Bool.and_eq_true, Bool.and_eq_true, inLen_some, Bool.and_eq_true] at z
                have := of_decide_eq_true z.1.1
                have := of_decide_eq_true z.2.1
                omega
            · cases o0 with
              | none => cases z
              | some ys =>
                rw [isTab_some, Bool.and_eq_true, Bool.and_eq_true, inLen_some, Bool.and_eq_true] at z
                have := of_decide_eq_true z.1.2
                have := of_decide_eq_true z.2.1
                omega
          have good := good (badTab_none.mpr allT) _ ts mok eo
          obtain ⟨c0, hc0, sc0⟩ := rows.at_ ht0
          rw [hx0] at hc0
          obtain rfl := Option.some.inj hc0
          have hx1 := e _ _ hx
          have hb1 := hb.same e
          refine ⟨_, rfl, b, xs, rfl, hb1, _, rfl, x, CM, dx, _, rfl, hx1, TM.cl, TM.n1, (by decide), ?_⟩
          generalize hH2 : upd H' x (.ins CM dx (putF "deeds" (.int (xs.length : Int)) [])) = H2
          have hx2 : H2 x = some (.ins CM dx [("deeds", .int (xs.length : Int))]) := by rw [← hH2]; exact upd_same
          have sq2 : ∀ {p : Addr} {zs : List V}, Sq K H p zs → Sq K H2 p zs := fun z => by rw [← hH2]; exact sq_ins hx1 (z.same e)
          have hb2 : Sq K H2 b xs := sq2 hb
          have keep2 : ∀ c o, c ≠ x → H c = some o → H2 c = some o := fun c o ne hc => by rw [← hH2, upd_ne ne]; exact e _ _ hc
          have ix2 : ∀ {Q : VK}, Q (.ref c0) H2 → rIx K (.ref b) (.int 0) H2 Q := fun q => by
            rcases hb2 with z | z
            · exact .inl ⟨b, xs, 0, _, rfl, rfl, z, atI_nat hx0, q⟩
            · exact .inr (.inl ⟨b, xs, 0, _, rfl, rfl, z, atI_nat hx0, q⟩)
          refine ⟨_, rfl, ix2 ?_⟩
          refine ⟨c0, _, rfl, sq2 sc0, _, rfl, x, CM, dx, _, rfl, hx2, TM.cl, TM.n2, (Nat.lt_of_succ_lt (by show 2 < 1000; decide)), ?_⟩
          rw [List.length_map, ← n0]
          generalize hH3 : upd H2 x (.ins CM dx (putF "states" (.int (lenAt os : Int)) [("deeds", .int (xs.length : Int))])) = H3
          have hx3 : H3 x = some (.ins CM dx [("deeds", .int (xs.length : Int)), ("states", .int (lenAt os : Int))]) := by rw [← hH3]; exact upd_same
          have sq3 : ∀ {p : Addr} {zs : List V}, Sq K H p zs → Sq K H3 p zs := fun z => by rw [← hH3]; exact sq_ins hx2 (sq2 z)
          have hb3 : Sq K H3 b xs := sq3 hb
          have keep3 : ∀ c o, c ≠ x → H c = some o → H3 c = some o := fun c o ne hc => by rw [← hH3, upd_ne ne]; exact keep2 _ _ ne hc
          have inp3 : RowsBy (Sq K H3) xs ts := rows.imp fun _ _ q => sq3 q
          have last : ∀ (H4 : Hp) (D : Addr) (ps : List V), Same H3 H4 → H4 D = some (.lst ps) → RowsBy (SqT K H4) ps ts → ∀ t H5, Same H4 H5 → SqT K H5 t ps → Q .non (upd H5 x (.ins CM dx [("deeds", .int (xs.length : Int)), ("states", .int (lenAt os : Int)), ("tables", .ref t)])) := fun H4 D ps e4 hD rw4 t H5 e5 ht => by
            have hx5 := e5 _ _ (e4 _ _ hx3)
            refine good _ (fun c o ne hc => by rw [upd_ne ne]; exact e5 _ _ (e4 _ _ (keep3 _ _ ne hc))) ⟨mok, dx, t, ps, by rw [upd_same, lts], sqT_ins hx5 ht, rw4.imp fun _ _ q => sqT_ins hx5 (sqT_same e5 q)⟩
          have go : ∀ (D : Addr), H3 D = .none → ∀ i y H4, xs[i]? = some y → (∃ ps, RowsBy (SqT K H4) ps (ts.take i) ∧ H4 D = some (.lst ps) ∧ Same H3 H4) → ∃ q ys, y = .ref q ∧ Sq K H4 q ys ∧ ∀ q' H5, Same H4 H5 → SqT K H5 q' ys →
              ∃ acc, H5 D = some (.lst acc) ∧ acc.length < sizeLine ∧ ∃ ps, RowsBy (SqT K (L2.upd H5 D (.lst (acc ++ [.ref q'])))) ps (ts.take (i + 1)) ∧ L2.upd H5 D (.lst (acc ++ [.ref q'])) D = some (.lst ps) ∧ Same H3 (L2.upd H5 D (.lst (acc ++ [.ref q']))) := fun D hD i y H4 hy ⟨ps, rw4, hD4, e4⟩ => by
            have hi : i < ts.length := by rw [lts]; exact (List.getElem?_eq_some_iff.mp hy).1
            have ht : ts[i]? = some ts[i] := List.getElem?_eq_getElem hi
            obtain ⟨q, hq, sq⟩ := inp3.at_ ht
            rw [hy] at hq
            refine ⟨q, _, Option.some.inj hq, sq.same e4, fun q' H5 e5 ht5 => ?_⟩
            have hD5 := e5 _ _ hD4
            have lps := rw4.length
            rw [List.length_take] at lps
            refine ⟨ps, hD5, by rw [sizeLine_eq]; omega, ps ++ [.ref q'], ?_, upd_same, fun c o hc => ?_⟩
            · rw [List.take_add_one, ht]
              exact RowsBy.snoc (sqT_lst hD5 ht5) (rw4.imp fun _ _ z => sqT_lst hD5 (sqT_same e5 z))
            · rw [upd_ne (ne_of_none hc hD)]
              exact e5 _ _ (e4 _ _ hc)
          have fin : ∀ (D : Addr) H4, (∃ ps, RowsBy (SqT K H4) ps (ts.take xs.length) ∧ H4 D = some (.lst ps) ∧ Same H3 H4) → ∃ ps, H4 D = some (.lst ps) ∧ RowsBy (SqT K H4) ps ts ∧ Same H3 H4 := fun D H4 ⟨ps, h1, h2, h3⟩ => by
            rw [← lts, List.take_length] at h1
            exact ⟨ps, h2, h1, h3⟩
          have zero : ∀ (D : Addr), H3 D = .none → ∃ ps, RowsBy (SqT K (L2.upd H3 D (.lst []))) ps (ts.take 0) ∧ L2.upd H3 D (.lst []) D = some (.lst ps) ∧ Same H3 (L2.upd H3 D (.lst [])) := fun D hD => ⟨[], trivial, upd_same, same_new hD⟩
          refine ⟨_, rfl, b, xs, rfl, ?_⟩
          rcases hb3 with hb3 | hb3
          · refine .inl ⟨hb3, fun D hD => lc_list (xs := xs) (fun i H4 => ∃ ps, RowsBy (SqT K H4) ps (ts.take i) ∧ H4 D = some (.lst ps) ∧ Same H3 H4) (zero D hD) (fun i H4 _ p => p.elim fun _ p => sqL_same p.2.2 hb3) (fun i y H4 hy p => ⟨rfl, yes ((if_pos rfl).mpr ?_)⟩) fun H4 p => ?_⟩
            · obtain ⟨q, ys, rfl, sq, k⟩ := go D hD i y H4 hy p
              exact ⟨_, rfl, q, ys, rfl, sq, k⟩
            · obtain ⟨ps, h1, h2, h3⟩ := fin D H4 p
              exact ⟨D, _, rfl, .inl (SqL.of h1), fun t H5 e5 ht => ⟨_, rfl, x, CM, dx, _, rfl, e5 _ _ (h3 _ _ hx3), TM.cl, TM.n3, (Nat.lt_of_succ_lt (by show 3 < 1000; decide)), last H4 D ps h3 h1 h2 t H5 e5 ht⟩⟩
          · refine .inr ⟨hb3, fun D hD => lc_tup (xs := xs) (fun i H4 => ∃ ps, RowsBy (SqT K H4) ps (ts.take i) ∧ H4 D = some (.lst ps) ∧ Same H3 H4) (zero D hD) (fun i H4 _ p => p.elim fun _ p => sqT_same p.2.2 hb3) (fun i y H4 hy p => ⟨rfl, yes ((if_pos rfl).mpr ?_)⟩) fun H4 p => ?_⟩
            · obtain ⟨q, ys, rfl, sq, k⟩ := go D hD i y H4 hy p
              exact ⟨_, rfl, q, ys, rfl, sq, k⟩
            · obtain ⟨ps, h1, h2, h3⟩ := fin D H4 p
              exact ⟨D, _, rfl, .inl (SqL.of h1), fun t H5 e5 ht => ⟨_, rfl, x, CM, dx, _, rfl, e5 _ _ (h3 _ _ hx3), TM.cl, TM.n3, (Nat.lt_of_succ_lt (by show 3 < 1000; decide)), last H4 D ps h3 h1 h2 t H5 e5 ht⟩⟩
      | _ => cases i1
end
end K7
/-! machines compared; states, deeds, rows -/
namespace K7
open L2 PySem PySem.Spec PyProof.Rows Kx
theorem dp_rows {K : PySem.W.Frag} {H : Hp} {p : Addr} {vs : List V} {rs : List (List Int)} (hp : SqT K H p vs) (h : RowsBy (SqT K H) vs rs) : Dp K H (.ref p) (dRows rs) := .tup hp (go h) where
  go : ∀ {vs : List V} {rs : List (List Int)}, RowsBy (SqT K H) vs rs → DpAll K H vs (rs.map dNums)
    | [], [], _ => .nil
    | _ :: _, _ :: _, ⟨⟨q, h1, h2⟩, h⟩ => .cons (by rw [h1]; exact dp_nums h2) (go h)
    | [], _ :: _, h => h.elim
    | _ :: _, [], h => h.elim
/-- t == u, tuples of rows -/
def rRowsEq (K : PySem.W.Frag) : R2 := fun x y H Q => ∃ (a b : Addr) (ps qs : List V) (xs ys : List (List Int)), x = .ref a ∧ y = .ref b ∧ SqT K H a ps ∧ SqT K H b qs ∧ RowsBy (SqT K H) ps xs ∧ RowsBy (SqT K H) qs ys ∧ Q (.bl (decide (xs = ys))) H
theorem op_eqRows {X : Cx} (hu : X.A.units + 64 < cLine) : OpR X (compareOp .Eq) (rRowsEq X.K) := by
  intro pins st σ H x y v u Q I rx ry h
  obtain ⟨a, b, ps, qs, xs, ys, rfl, rfl, h1, h2, r1, r2, q⟩ := h
  refine op_eqD hu pins st σ H _ _ v u Q I rx ry ⟨_, _, dp_rows h1 r1, dp_rows h2 r2, shaped_rows xs, shaped_rows ys, ?_⟩
  simp only [PyData.eqv, eqv_rows]
  exact q
def spEqM (K : PySem.W.Frag) (CM : Addr) : Sp := fun vs H Q _ => ∃ m n ts d, vs = [.ref m, .ref d] ∧ McAt K CM H m n ts ∧
  ((∃ n' ts', McAt K CM H d n' ts' ∧ ∀ H', Same H H' → Q (.bl (decide (ts = ts'))) H') ∨ ((∃ xs, SqT K H d xs) ∧ ∀ H', Same H H' → Q (.bl false) H'))
def spState (K : PySem.W.Frag) (a : Ad) (CM : Addr) : Sp := fun vs H Q E => ∃ m n ts v, vs = [.ref m, v] ∧ McAt K CM H m n ts ∧ Kn K H v ∧ (isBel n v = false → Thrown E H a.cN "state" v) ∧ (isBel n v = true → Q v H)
/-- where a row leads a state -/
def ledTo (ts : List (List Int)) : Int → List Int → Int
  | s, [] => s
  | s, d :: ds => ledTo ts ((ts.getD d.toNat []).getD s.toNat 0) ds
theorem ledTo_snoc {ts : List (List Int)} {d : Int} : ∀ {s : Int} {row : List Int}, ledTo ts s (row ++ [d]) = (ts.getD d.toNat []).getD (ledTo ts s row).toNat 0
  | s, [] => rfl
  | s, e :: row => ledTo_snoc (s := (ts.getD e.toNat []).getD s.toNat 0) (row := row)
theorem Mok.next {n : Nat} {ts : List (List Int)} (ok : Mok n ts) {d s : Int} (d0 : 0 ≤ d) (d1 : d < ts.length) (s0 : 0 ≤ s) (s1 : s < n) :
    ∃ t x, ts[d.toNat]? = some t ∧ t[s.toNat]? = some x ∧ (ts.getD d.toNat []).getD s.toNat 0 = x ∧ 0 ≤ x ∧ x < n := by
  have hd : d.toNat < ts.length := by omega
  have ht : ts[d.toNat]? = some ts[d.toNat] := List.getElem?_eq_getElem hd
  have mt := List.mem_of_getElem? ht
  have lt := ok.len _ mt
  have hs : s.toNat < (ts[d.toNat]).length := by omega
  have hx : (ts[d.toNat])[s.toNat]? = some (ts[d.toNat])[s.toNat] := List.getElem?_eq_getElem hs
  refine ⟨_, _, ht, hx, ?_, ok.ent _ mt _ (List.mem_of_getElem? hx)⟩
  rw [List.getD_eq_getElem?_getD, List.getD_eq_getElem?_getD, ht, Option.getD_some, hx, Option.getD_some]
section
variable {P : Program} {w : World} {K : PySem.W.Frag} {mg : Str → Option Value} {base : Heap} {f : Addr} {fd : FuncData} {a : Ad} {CM : Addr}
theorem ty_mc {H : Hp} {m : Addr} {n : Nat} {ts : List (List Int)} (TM : ClsM K mg CM) (h : McAt K CM H m n ts) : TyX K H (.ref m) (.ref CM) := by
  obtain ⟨_, dx, t, ps, e, _⟩ := h
  exact .base (.ins e TM.cl TM.isi.ca TM.isi.cn TM.isi.ct TM.isi.cm)
theorem sc_eq : FnScope ["self", "other"] ["self", "other"] (defScope s_Machine_eq) := ⟨rfl, rfl, rfl, by decide +kernel, rfl, by decide +kernel, by decide +kernel⟩
theorem ok_eq (F : FunD K "__eq__" "Machine.__eq__" (defArgs s_Machine_eq) (defBody s_Machine_eq) (defScope s_Machine_eq) [] [] f fd) (T : Mg mg) (TM : ClsM K mg CM) : FnOk P w K mg base CX0 1 f fd ["self", "other"] (spEqM K CM) := by
  refine F.ok sc_eq (fun vs H Q E h => ?_) (fun cdv A outer s H vs Q E hr h => ?_)
  · obtain ⟨m, n, ts, d, rfl, _⟩ := h
    rfl
  · obtain ⟨m, n, ts, d, rfl, hm, how⟩ := h
    refine ⟨_, PSs.nox (pss_one (ps_ret (pe_and (pe_callB call_isi (by rfl) T.z_isinstance (by decide +kernel) (pa_cons (pv 1) (pa_cons (pe_glob (v := V.ref CM) rfl TM.at_ rfl) pa_nil))) (pe_one (pe_cmpR (op_eqRows (r64 hr)) (pe_fld (pv 0) rfl) (pe_fld (pv 1) rfl) (nomark _)))))), ?_⟩
    rcases how with ⟨n', ts', hd, k⟩ | ⟨⟨xs, hd⟩, k⟩
    · refine ⟨_, rfl, _, .ref CM, _, _, true, rfl, .own CM, ty_mc TM hd, TM.yes, true, rfl, iteT ?_⟩
      obtain ⟨_, dx, t, ps, c1, c2, c3⟩ := hm
      obtain ⟨_, dx', t', ps', d1, d2, d3⟩ := hd
      exact ⟨_, rfl, m, CM, dx, _, _, rfl, c1, TM.cl, TM.n3, rfl, _, rfl, d, CM, dx', _, _, rfl, d1, TM.cl, TM.n3, rfl, t, t', ps, ps', ts, ts', rfl, rfl, c2, d2, c3, d3, k H (Same.refl H)⟩
    · exact ⟨_, rfl, _, .ref CM, _, _, false, rfl, .own CM, tyx_tuple hd, TM.notT, false, rfl, iteF (k H (Same.refl H))⟩
theorem sc_need_state : FnScope ["machine", "state"] ["machine", "state"] (defScope s_need_state) := ⟨rfl, rfl, rfl, by decide +kernel, rfl, by decide +kernel, by decide +kernel⟩
theorem ok_need_state (F : FnP K "need_state" s_need_state f fd) (T : Mg mg) (R : Er P w K mg base a) (TM : ClsM K mg CM) (c_is_below : Cal P w K mg base CX0 2 "is_below" ["value", "limit"] (spBelow K)) : FnOk P w K mg base (L2N.CX P w) 3 f fd ["machine", "state"] (spState K a CM) := by
  refine F.ok sc_need_state (fun vs H Q E h => ?_) (fun cdv A outer s H vs Q E hr h => ?_)
  · obtain ⟨m, n, ts, v, rfl, _⟩ := h
    rfl
  · obtain ⟨m, n, ts, v, rfl, ⟨ok, dx, t, ps, h1, h2, h3⟩, hv, bad, good⟩ := h
    refine ⟨_, (pss_cons (ps_if (pt_not (pt_val (pe_callC c_is_below hr pass0 (pa_cons (pv 1) (pa_cons (pe_fld (pv 0) rfl) pa_nil)))))
        (pss_one (psN R.NoState rfl hr (L2N.takes_of rfl rfl rfl rfl) (pa_cons (pv 1) pa_nil)))
        pss_nil)
      (pss_one (ps_ret (pv 1)))), ?_⟩
    refine ⟨v, rfl, _, rfl, m, CM, dx, _, _, rfl, h1, TM.cl, TM.n2, rfl, v, _, rfl, hv, isBel n v, rfl, ?_⟩
    cases eb : isBel n v with
    | false => exact iteT ⟨v, rfl, thrownN (bad eb).at_⟩
    | true => exact iteF ⟨v, rfl, good eb⟩
end
end K7
/-! counters are made, compared -/
namespace K7
open PySem PySem.Spec PyProof.Rows L2 Kx
/-- rounds and rests that counters may have -/
structure Cok (rs es : List Int) : Prop where
  l1 : 1 ≤ rs.length
  l4 : rs.length ≤ 4
  le : es.length = rs.length
  r : ∀ x ∈ rs, 0 ≤ x ∧ x ≤ 60
  e : ∀ x ∈ es, 0 ≤ x ∧ x ≤ 6
structure CnAt (K : PySem.W.Frag) (C : Addr) (H : Hp) (c : Addr) (rs es : List Int) : Prop where
  ok : Cok rs es
  ex : ∃ dx p q, H c = some (.ins C dx [("rounds", .ref p), ("rests", .ref q)]) ∧ SqT K H p (rs.map V.int) ∧ SqT K H q (es.map V.int)
theorem CnAt.same {K : PySem.W.Frag} {C : Addr} {H H' : Hp} {c : Addr} {rs es : List Int} (e : Same H H') (h : CnAt K C H c rs es) : CnAt K C H' c rs es := by
  obtain ⟨ok, dx, p, q, h1, h2, h3⟩ := h
  exact ⟨ok, dx, p, q, e _ _ h1, sqT_same e h2, sqT_same e h3⟩
/-- what the module holds of such a class -/
structure ClsC (K : PySem.W.Frag) (mg : Str → Option Value) (C : Addr) : Prop where
  at_ : mg "Counters" = some (.ref C)
  cl : Cls K C
  n1 : NoAttr K C "rounds"
  n2 : NoAttr K C "rests"
  isi : SlX.SIsi K C
  yes : PySem.W.kitOne K (.ref C) (.ref C) = some true
  notT : PySem.W.kitOne K (.type "tuple") (.ref C) = some false
  first : PySem.W.notFirst K C (.type "tuple") = true
def roundsOk : Option (List V) → Bool
  | some xs => inLen 1 4 (some xs) && (fnb 61 xs).isNone
  | none => false
theorem roundsOk_some {xs : List V} : roundsOk (some xs) = (inLen 1 4 (some xs) && (fnb 61 xs).isNone) := rfl
def restsOk (k : Nat) : Option (List V) → Bool
  | some ys => ys.isEmpty || (decide (ys.length = k) && (fnb 7 ys).isNone)
  | none => false
theorem restsOk_some {k : Nat} {ys : List V} : restsOk k (some ys) = (ys.isEmpty || (decide (ys.length = k) && (fnb 7 ys).isNone)) := rfl
def spRests (K : PySem.W.Frag) : Sp := fun vs H Q _ => ∃ (v : V) (k : Nat) (o : Option (List V)), vs = [v, .int (k : Int)] ∧ k ≤ 4 ∧ Long K H v o ∧ Kns K H o 4 ∧ ∀ H', Same H H' → Q (.bl (restsOk k o)) H'
def spInit (K : PySem.W.Frag) (a : Ad) (C : Addr) : Sp := fun vs H Q E => ∃ (x dx : Addr) (v1 v2 : V) (o1 o2 : Option (List V)), vs = [.ref x, v1, v2] ∧ H x = some (.ins C dx []) ∧ Long K H v1 o1 ∧ Kns K H o1 4 ∧ Long K H v2 o2 ∧ Kns K H o2 4 ∧
  (roundsOk o1 = false → Thrown E H a.cF "at" v1) ∧ (∀ xs, o1 = some xs → roundsOk o1 = true → restsOk xs.length o2 = false → Thrown E H a.cF "at" v2) ∧
  (∀ rs es, Cok rs es → o1 = some (rs.map V.int) → (o2 = some [] ∧ es = List.replicate rs.length 0 ∨ o2 = some (es.map V.int)) → ∀ H', (∀ b o, b ≠ x → H b = some o → H' b = some o) → CnAt K C H' x rs es → Q .non H')
theorem restsOk_true {k : Nat} {o : Option (List V)} (h : restsOk k o = true) : o = some [] ∨ ∃ es : List Int, o = some (es.map V.int) ∧ es.length = k ∧ ∀ x ∈ es, 0 ≤ x ∧ x ≤ 6 := by
  cases o with
  | none => cases h
  | some ys =>
    rw [restsOk_some, Bool.or_eq_true, Bool.and_eq_true] at h
    rcases h with h | ⟨h1, h2⟩
    · rw [List.isEmpty_iff.mp h]
      exact .inl rfl
    · obtain ⟨es, rfl, he⟩ := fnb_ints (Option.isNone_iff_eq_none.mp h2)
      refine .inr ⟨es, rfl, ?_, fun x hx => ⟨(he x hx).1, by have := (he x hx).2; omega⟩⟩
      have := of_decide_eq_true h1
      rwa [List.length_map] at this
section
variable {P : Program} {w : World} {K : PySem.W.Frag} {mg : Str → Option Value} {base : Heap} {f : Addr} {fd : FuncData} {a : Ad} {C : Addr}
theorem sc__are_rests : FnScope ["value", "kinds"] ["value", "kinds"] (defScope s_are_rests) := ⟨rfl, rfl, rfl, by decide +kernel, rfl, by decide +kernel, by decide +kernel⟩
theorem optV_isN {o : Option Nat} : decide (optV o = V.non) = o.isNone := optV_non
theorem inLen_00 {xs : List V} : inLen 0 0 (some xs) = xs.isEmpty := by
  cases xs with
  | nil => rfl
  | cons x xs =>
    rw [inLen_some, decide_eq_true (by omega), decide_eq_false (by simp only [List.length_cons]; omega)]
    rfl
theorem inLen_kk {k : Nat} {xs : List V} : inLen (k : Int) (k : Int) (some xs) = decide (xs.length = k) := by
  rw [inLen_some, Bool.eq_iff_iff, Bool.and_eq_true, decide_eq_true_eq, decide_eq_true_eq, decide_eq_true_eq]
  omega
theorem ok_are_rests (F : FnP K "_are_rests" s_are_rests f fd) (T : Mg mg) (c_is_sequence : Cal P w K mg base CX0 1 "is_sequence" ["value", "least", "most"] (spSeq K)) (c_first_not_below : Cal P w K mg base CX0 3 "first_not_below" ["values", "limit"] (spFnb K)) :
    FnOk P w K mg base CX0 4 f fd ["value", "kinds"] (spRests K) := by
  refine F.ok sc__are_rests (fun vs H Q E h => ?_) (fun cdv A outer s H vs Q E hr h => ?_)
  · obtain ⟨v, k, o, rfl, _⟩ := h
    rfl
  · obtain ⟨v, k, o, rfl, hk, hv, kn, q⟩ := h
    refine ⟨_, PSs.nox (pss_cons (ps_if (pt_val (pe_callC c_is_sequence hr pass0 (pa_cons (pv 0) (pa_cons pe_int (pa_cons pe_int pa_nil)))))
        (pss_one (ps_ret pe_bl))
        pss_nil)
      (pss_one (ps_ret (pe_and (pe_callC c_is_sequence hr pass0 (pa_cons (pv 0) (pa_cons (pv 1) (pa_cons (pv 1) pa_nil)))) (pe_one (pe_cmpR op_isN (pe_callC c_first_not_below hr pass0 (pa_cons (pv 0) (pa_cons (pe_op op_add (pe_constI T.g_REST_MOST) pe_int) pa_nil))) pe_non (nomark _))))))), ?_⟩
    refine ⟨v, rfl, v, 0, 0, o, rfl, hv, fun H1 e1 => ⟨inLen 0 0 o, rfl, ?_⟩⟩
    cases o with
    | none =>
      refine iteF ?_
      exact ⟨v, rfl, _, rfl, _, rfl, v, _, _, none, rfl, hv.same e1, fun H2 e2 => ⟨_, rfl, iteF (q _ (e1.trans e2))⟩⟩
    | some xs =>
      rw [inLen_00]
      cases hz : xs.isEmpty with
      | true =>
        refine iteT ?_
        have e : restsOk k (some xs) = true := by rw [restsOk_some, hz] <;> rfl
        rw [e] at q
        exact q _ e1
      | false =>
        refine iteF ?_
        have e : restsOk k (some xs) = (decide (xs.length = k) && (fnb 7 xs).isNone) := by rw [restsOk_some, hz] <;> rfl
        rw [e] at q
        refine ⟨v, rfl, _, rfl, _, rfl, v, _, _, some xs, rfl, hv.same e1, fun H2 e2 => ⟨_, rfl, ?_⟩⟩
        rw [inLen_kk]
        cases hl : decide (xs.length = k) with
        | false =>
          rw [hl] at q
          exact iteF (q _ (e1.trans e2))
        | true =>
          rw [hl] at q
          refine iteT ?_
          have e12 := e1.trans e2
          cases hv with
          | seq qs =>
            refine ⟨_, rfl, _, _, rfl, rfl, _, xs, 7, rfl, qs.same e12, fun x hx => (kn _ rfl (by have := of_decide_eq_true hl; omega) x hx).same e12, fun H3 e3 => ⟨rfl, ?_⟩⟩
            have q3 := q _ (e12.trans e3)
            rw [← optV_non] at q3
            exact q3
theorem sc_init : FnScope ["self", "rounds", "rests"] ["self", "rounds", "rests"] (defScope s_Counters_init) := ⟨rfl, rfl, rfl, by decide +kernel, rfl, by decide +kernel, by decide +kernel⟩
theorem ok_init {dvs : List V} (F : FunD K "__init__" "Counters.__init__" (defArgs s_Counters_init) (defBody s_Counters_init) (defScope s_Counters_init) dvs [] f fd) (T : Mg mg) (R : Er P w K mg base a) (TC : ClsC K mg C)
    (c_is_sequence : Cal P w K mg base CX0 1 "is_sequence" ["value", "least", "most"] (spSeq K)) (c_first_not_below : Cal P w K mg base CX0 3 "first_not_below" ["values", "limit"] (spFnb K))
    (c__are_rests : Cal P w K mg base CX0 4 "_are_rests" ["value", "kinds"] (spRests K)) : FnOk P w K mg base (L2N.CX P w) 5 f fd ["self", "rounds", "rests"] (spInit K a C) := by
  refine F.ok sc_init (fun vs H Q E h => ?_) (fun cdv A outer s H vs Q E hr h => ?_)
  · obtain ⟨x, dx, v1, v2, o1, o2, rfl, _⟩ := h
    rfl
  · obtain ⟨x, dx, v1, v2, o1, o2, rfl, hx, h1, k1, h2, k2, bad1, bad2, good⟩ := h
    refine ⟨_, (pss_cons (ps_if (PW.pt (pw_or (pt_not (pt_val (pe_callC c_is_sequence hr pass0 (pa_cons (pv 1) (pa_cons pe_int (pa_cons (pe_constI T.g_DEEDS_MOST) pa_nil)))))) (pw_or1 (pt_cmpR op_notN (pe_callC c_first_not_below hr pass0 (pa_cons (pv 1) (pa_cons (pe_op op_add (pe_constI T.g_ROUND_MOST) pe_int) pa_nil))) pe_non (nomark _)))))
        (pss_one (psN R.Refused rfl hr (L2N.takes_of rfl rfl rfl rfl) (pa_cons (pv 1) pa_nil)))
        pss_nil)
      (pss_cons (ps_if (pt_not (pt_val (pe_callC c__are_rests hr pass0 (pa_cons (pv 2) (pa_cons (pe_callB call_len_seq (by rfl) T.z_len PySem.boot_len (pa_cons (pv 1) pa_nil)) pa_nil)))))
        (pss_one (psN R.Refused rfl hr (L2N.takes_of rfl rfl rfl rfl) (pa_cons (pv 2) pa_nil)))
        pss_nil)
      (PSs.nox (pss_cons (ps_fld (pv 0) (pe_callTy call_tup (by rfl) T.z_tuple (by decide +kernel) (pa_cons (pv 1) pa_nil)) rfl)
      (pss_one (ps_fld (pv 0) (pe_ifExp (pt_truth (pv 2) (by intro _; rfl)) (pe_callTy call_tup (by rfl) T.z_tuple (by decide +kernel) (pa_cons (pv 2) pa_nil)) (pe_op op_times (pe_tup (pa_cons pe_int pa_nil)) (pe_callB call_len_seq (by rfl) T.z_len PySem.boot_len (pa_cons (pv 1) pa_nil)))) rfl)))))), ?_⟩
    refine ⟨v1, rfl, v1, 1, 4, o1, rfl, h1, fun H1 e1 => ⟨inLen 1 4 o1, rfl, ?_⟩⟩
    cases i1 : inLen 1 4 o1 with
    | false =>
      have r1 : roundsOk o1 = false := by
        cases o1 with
        | none => rfl
        | some xs => rw [roundsOk_some, i1] <;> rfl
      exact iteT ⟨v1, rfl, thrownN ((bad1 r1).same e1).at_⟩
    | true =>
      refine iteF ?_
      cases h1 with
      | seq q1 =>
        rename_i b1 xs
        have len : 1 ≤ xs.length ∧ xs.length ≤ 4 := by
          have z := i1
          rw [inLen_some, Bool.and_eq_true] at z
          have := of_decide_eq_true z.1
          have := of_decide_eq_true z.2
          omega
        refine ⟨_, rfl, _, _, rfl, rfl, b1, xs, 61, rfl, q1.same e1, fun x hx => (k1 _ rfl len.2 x hx).same e1, fun H2 e2 => ⟨rfl, !(fnb 61 xs).isNone, ?_, ?_⟩⟩
        · rw [← optV_non]
        · have e12 := e1.trans e2
          cases ef : (fnb 61 xs).isNone with
          | false =>
            have r1 : roundsOk (some xs) = false := by rw [roundsOk_some, i1, ef] <;> rfl
            exact iteT ⟨_, rfl, thrownN ((bad1 r1).same e12).at_⟩
          | true =>
            have r1 : roundsOk (some xs) = true := by rw [roundsOk_some, i1, ef] <;> rfl
            refine iteF ?_
            refine ⟨v2, rfl, _, rfl, _, xs, rfl, q1.same e12, v2, xs.length, o2, rfl, len.2, h2.same e12, fun ys q l x hx => (k2 ys q l x hx).same e12, fun H3 e3 => ⟨restsOk xs.length o2, rfl, ?_⟩⟩
            have e13 := e12.trans e3
            cases r2 : restsOk xs.length o2 with
            | false => exact iteT ⟨v2, rfl, thrownN ((bad2 xs rfl r1 r2).same e13).at_⟩
            | true =>
              refine iteF ?_
              obtain ⟨rs, rfl, hrs⟩ := fnb_ints (Option.isNone_iff_eq_none.mp ef)
              have q1' := q1.same e13
              have hx' := e13 _ _ hx
              have fin : ∀ (p q : Addr) (es : List Int) (Hz : Hp), Cok rs es → (o2 = some [] ∧ es = List.replicate rs.length 0 ∨ o2 = some (es.map V.int)) → (∀ b o, b ≠ x → H b = some o → Hz b = some o) → SqT K Hz p (rs.map V.int) → SqT K Hz q (es.map V.int) → Hz x = some (.ins C dx [("rounds", .ref p), ("rests", .ref q)]) → Q .non Hz := fun p q es Hz ok2 ho keep hp hq hz =>
                good rs es ok2 rfl ho Hz keep ⟨ok2, dx, p, q, hz, hp, hq⟩
              refine ⟨_, rfl, b1, _, rfl, q1', fun p H4 e4 hp => ?_⟩
              have e14 := e13.trans e4
              refine ⟨_, rfl, x, C, dx, _, rfl, e14 _ _ hx, TC.cl, TC.n1, (by decide), ?_⟩
              have hx4 := e14 _ _ hx
              generalize eH : upd H4 x (.ins C dx (putF "rounds" (.ref p) [])) = H5
              have hx5 : H5 x = some (.ins C dx [("rounds", .ref p)]) := by rw [← eH]; exact upd_same
              have q15 : Sq K H5 b1 (rs.map V.int) := by rw [← eH]; exact sq_ins hx4 (q1.same e14)
              have p5 : SqT K H5 p (rs.map V.int) := by rw [← eH]; exact sqT_ins hx4 hp
              have keep5 : ∀ b o, b ≠ x → H b = some o → H5 b = some o := fun b o ne hb => by rw [← eH, upd_ne ne]; exact e14 _ _ hb
              obtain ⟨b2, ys, rfl, rfl, q2⟩ : ∃ b2 ys, v2 = .ref b2 ∧ o2 = some ys ∧ Sq K H b2 ys := by
                cases h2 with
                | seq q => exact ⟨_, _, rfl, rfl, q⟩
                | _ => cases r2
              have q25 : Sq K H5 b2 ys := by rw [← eH]; exact sq_ins hx4 (q2.same e14)
              have last : ∀ (q : Addr) (es : List Int) (H7 : Hp), Same H5 H7 → SqT K H7 q (es.map V.int) → Cok rs es → (some ys = some [] ∧ es = List.replicate rs.length 0 ∨ some ys = some (es.map V.int)) → Q .non (upd H7 x (.ins C dx (putF "rests" (.ref q) [("rounds", .ref p)]))) := fun q es H7 e7 hq ok2 ho =>
                fin p q es _ ok2 ho (fun b o ne hb => by rw [upd_ne ne]; exact e7 _ _ (keep5 b o ne hb)) (sqT_ins (e7 _ _ hx5) (sqT_same e7 p5)) (sqT_ins (e7 _ _ hx5) hq) upd_same
              have lrs : 1 ≤ rs.length ∧ rs.length ≤ 4 := by rw [List.length_map] at len; exact len
              have brs : ∀ n ∈ rs, 0 ≤ n ∧ n ≤ 60 := fun n hn => ⟨(hrs n hn).1, by have := (hrs n hn).2; omega⟩
              refine ⟨_, rfl, _, tru_sq q25, ?_⟩
              rcases restsOk_true r2 with e | ⟨es, e, le, be⟩
              · cases e
                refine iteF ⟨(by show 1 ≤ sizeLine; decide), fun t ht => ?_⟩
                have e6 := same_new (o := HO.tup [.int 0]) ht
                refine ⟨_, rfl, b1, _, rfl, q15.same e6, ?_⟩
                refine ⟨t, rs.length, [.int 0], rfl, by rw [List.length_map], SqT.of upd_same, (by simp), by omega, (by decide), fun q H7 e7 hq => ?_⟩
                have e57 := e6.trans e7
                refine ⟨_, rfl, x, C, dx, _, rfl, e57 _ _ hx5, TC.cl, TC.n2, (Nat.lt_of_succ_lt (by show 2 < 1000; decide)), ?_⟩
                refine last q (List.replicate rs.length 0) H7 e57 ?_ ⟨lrs.1, lrs.2, List.length_replicate, brs, fun n hn => by rw [List.eq_of_mem_replicate hn]; decide⟩ (.inl ⟨rfl, rfl⟩)
                have e8 : (List.replicate rs.length [V.int 0]).flatten = (List.replicate rs.length (0 : Int)).map V.int := by rw [List.map_replicate, List.flatten_replicate_singleton]
                rw [e8] at hq
                exact hq
              · cases e
                have ne : (!(es.map V.int).isEmpty) = true := by
                  cases es with
                  | nil => simp at le; omega
                  | cons _ _ => rfl
                rw [ne]
                refine iteT ⟨_, rfl, b2, _, rfl, q25, fun q H7 e7 hq => ?_⟩
                refine ⟨_, rfl, x, C, dx, _, rfl, e7 _ _ hx5, TC.cl, TC.n2, (Nat.lt_of_succ_lt (by show 2 < 1000; decide)), ?_⟩
                rw [List.length_map] at le
                exact last q es H7 e7 hq ⟨lrs.1, lrs.2, le, brs, be⟩ (.inr rfl)
      | non => cases i1
      | bl _ => cases i1
      | int _ => cases i1
      | str _ => cases i1
/-- own ==: of other counters, of a tuple -/
def spEqC (K : PySem.W.Frag) (C : Addr) : Sp := fun vs H Q _ => ∃ c rs es d, vs = [.ref c, .ref d] ∧ CnAt K C H c rs es ∧
  ((∃ rs' es', CnAt K C H d rs' es' ∧ ∀ H', Same H H' → Q (.bl (decide (rs = rs' ∧ es = es'))) H') ∨ ((∃ xs, SqT K H d xs) ∧ ∀ H', Same H H' → Q (.bl false) H'))
theorem ty_cn {H : Hp} {c : Addr} {rs es : List Int} (TC : ClsC K mg C) (h : CnAt K C H c rs es) : TyX K H (.ref c) (.ref C) := by
  obtain ⟨_, dx, p, q, e, _⟩ := h
  exact .base (.ins e TC.cl TC.isi.ca TC.isi.cn TC.isi.ct TC.isi.cm)
theorem sc_eqC : FnScope ["self", "other"] ["self", "other"] (defScope s_Counters_eq) := ⟨rfl, rfl, rfl, by decide +kernel, rfl, by decide +kernel, by decide +kernel⟩
theorem ok_eqC (F : FunD K "__eq__" "Counters.__eq__" (defArgs s_Counters_eq) (defBody s_Counters_eq) (defScope s_Counters_eq) [] [] f fd) (T : Mg mg) (TC : ClsC K mg C) : FnOk P w K mg base CX0 1 f fd ["self", "other"] (spEqC K C) := by
  refine F.ok sc_eqC (fun vs H Q E h => ?_) (fun cdv A outer s H vs Q E hr h => ?_)
  · obtain ⟨c, rs, es, d, rfl, _⟩ := h
    rfl
  · obtain ⟨c, rs, es, d, rfl, hc, how⟩ := h
    refine ⟨_, PSs.nox (pss_one (ps_ret (pe_and (pe_callB call_isi (by rfl) T.z_isinstance (by decide +kernel) (pa_cons (pv 1) (pa_cons (pe_glob (v := V.ref C) rfl TC.at_ rfl) pa_nil))) (pe_and (pe_cmpR (op_eqNums (r64 hr)) (pe_fld (pv 0) rfl) (pe_fld (pv 1) rfl) (nomark _)) (pe_one (pe_cmpR (op_eqNums (r64 hr)) (pe_fld (pv 0) rfl) (pe_fld (pv 1) rfl) (nomark _))))))), ?_⟩
    rcases how with ⟨rs', es', hd, k⟩ | ⟨⟨xs, hd⟩, k⟩
    · refine ⟨_, rfl, _, .ref C, _, _, true, rfl, .own C, ty_cn TC hd, TC.yes, true, rfl, iteT ?_⟩
      obtain ⟨_, dx, p, q, c1, c2, c3⟩ := hc
      obtain ⟨_, dx', p', q', d1, d2, d3⟩ := hd
      refine ⟨_, rfl, c, C, dx, _, _, rfl, c1, TC.cl, TC.n1, rfl, _, rfl, d, C, dx', _, _, rfl, d1, TC.cl, TC.n1, rfl, p, p', rs, rs', rfl, rfl, c2, d2, _, rfl, ?_⟩
      have k := k H (Same.refl H)
      refine ite2 (fun h => ?_) (fun h => ?_)
      · have e : rs = rs' := by simpa using h
        refine ⟨_, rfl, c, C, dx, _, _, rfl, c1, TC.cl, TC.n2, rfl, _, rfl, d, C, dx', _, _, rfl, d1, TC.cl, TC.n2, rfl, q, q', es, es', rfl, rfl, c3, d3, ?_⟩
        have e2 : (false != decide (es = es')) = decide (rs = rs' ∧ es = es') := by rw [Bool.false_bne, Bool.eq_iff_iff]; simp [e]
        rw [← e2] at k
        exact k
      · have e : ¬ rs = rs' := by simpa using h
        have e2 : decide (rs = rs' ∧ es = es') = false := decide_eq_false fun z => e z.1
        rw [e2] at k
        exact k
    · exact ⟨_, rfl, _, .ref C, _, _, false, rfl, .own C, tyx_tuple hd, TC.notT, false, rfl, iteF (k H (Same.refl H))⟩
end
end K7
/-! showings of any value, the showing one deed later -/
namespace K7
open PySem PySem.Spec PyProof.Rows L2 Kx
theorem Cok.at_ {rs es : List Int} (h : Cok rs es) {i : Nat} (hi : i < rs.length) : rs[i]? = some (rs.getD i 0) ∧ es[i]? = some (es.getD i 0) ∧ 0 ≤ rs.getD i 0 ∧ rs.getD i 0 ≤ 60 ∧ 0 ≤ es.getD i 0 ∧ es.getD i 0 ≤ 6 := by
  have he : i < es.length := by rw [h.le]; exact hi
  have a1 : rs[i]? = some (rs.getD i 0) := by rw [List.getD_eq_getElem?_getD, List.getElem?_eq_getElem hi] <;> rfl
  have a2 : es[i]? = some (es.getD i 0) := by rw [List.getD_eq_getElem?_getD, List.getElem?_eq_getElem he] <;> rfl
  have b1 := h.r _ (List.mem_of_getElem? a1)
  have b2 := h.e _ (List.mem_of_getElem? a2)
  exact ⟨a1, a2, b1.1, b1.2, b2.1, b2.2⟩
section
variable {P : Program} {w : World} {K : PySem.W.Frag} {mg : Str → Option Value} {base : Heap} {f : Addr} {fd : FuncData} {a : Ad} {C CM : Addr}
end
end K7
/-! what is reached -/
namespace K7
open L2 PySem PySem.Spec PyProof.Rows Kx
/-- a row of deeds below l -/
def RowOk (l : Nat) (row : List Int) : Prop := ∀ d ∈ row, 0 ≤ d ∧ d < (l : Int)
theorem Mok.led_in {n : Nat} {ts : List (List Int)} (ok : Mok n ts) : ∀ {s : Int} {row : List Int}, 0 ≤ s → s < n → RowOk ts.length row → 0 ≤ ledTo ts s row ∧ ledTo ts s row < n
  | s, [], h0, h1, _ => ⟨h0, h1⟩
  | s, d :: row, h0, h1, hr => by
    obtain ⟨d0, d1⟩ := hr d (List.mem_cons_self ..)
    obtain ⟨t, x, _, _, e, x0, x1⟩ := ok.next d0 d1 h0 h1
    show 0 ≤ ledTo ts ((ts.getD d.toNat []).getD s.toNat 0) row ∧ ledTo ts ((ts.getD d.toNat []).getD s.toNat 0) row < n
    rw [e]
    exact Mok.led_in ok x0 x1 fun z hz => hr z (List.mem_cons_of_mem _ hz)
theorem isBel_iff {l i : Int} : isBel l (.int i) = true ↔ 0 ≤ i ∧ i < l := by
  show (decide (0 ≤ i) && decide (i < l)) = true ↔ _
  rw [Bool.and_eq_true, decide_eq_true_eq, decide_eq_true_eq]
theorem isBel_int {l : Int} {v : V} (h : isBel l v = true) : ∃ i, v = .int i ∧ 0 ≤ i ∧ i < l := by
  cases v with
  | int i => exact ⟨i, rfl, isBel_iff.mp h⟩
  | _ => cases h
def Rch (ts : List (List Int)) (s x : Int) : Prop := ∃ row, RowOk ts.length row ∧ x = ledTo ts s row
def nx (ts : List (List Int)) (d : Nat) (x : Int) : Int := (ts.getD d []).getD x.toNat 0
theorem Rch.refl {ts : List (List Int)} {s : Int} : Rch ts s s := ⟨[], (fun d h => nomatch h), rfl⟩
theorem Rch.step {ts : List (List Int)} {s x : Int} {d : Nat} (h : Rch ts s x) (hd : d < ts.length) : Rch ts s (nx ts d x) := by
  obtain ⟨row, h1, rfl⟩ := h
  refine ⟨row ++ [(d : Int)], fun z hz => ?_, ?_⟩
  · rcases List.mem_append.mp hz with hz | hz
    · exact h1 z hz
    · rw [List.mem_singleton.mp hz]
      omega
  · rw [ledTo_snoc, Int.toNat_natCast]
    rfl
theorem closed_all {ts : List (List Int)} {F : List Int} (cl : ∀ x ∈ F, ∀ d, d < ts.length → nx ts d x ∈ F) : ∀ {row : List Int} {s : Int}, s ∈ F → RowOk ts.length row → ledTo ts s row ∈ F
  | [], s, h, _ => h
  | d :: row, s, h, hr => by
    have hd := hr d (List.mem_cons_self ..)
    have := cl s h d.toNat (by omega)
    exact closed_all cl (row := row) this fun z hz => hr z (List.mem_cons_of_mem _ hz)
theorem len_le : ∀ {n : Nat} {F : List Int}, F.Nodup → (∀ x ∈ F, 0 ≤ x ∧ x < (n : Int)) → F.length ≤ n
  | 0, F, _, h => by
    cases F with
    | nil => exact Nat.le_refl _
    | cons x F => have := h x (List.mem_cons_self ..); omega
  | n + 1, F, nd, h => by
    by_cases hm : (n : Int) ∈ F
    · have e := List.length_erase_of_mem hm
      have := len_le (n := n) (nd.erase (n : Int)) fun x hx => by
        have h1 := (nd.mem_erase_iff).mp hx
        have h2 := h x h1.2
        have h3 : x ≠ (n : Int) := h1.1
        omega
      omega
    · have := len_le (n := n) nd fun x hx => by
        have h2 := h x hx
        have h3 : x ≠ (n : Int) := fun z => hm (z ▸ hx)
        omega
      omega
theorem Mok.rch {n : Nat} {ts : List (List Int)} (ok : Mok n ts) {s x : Int} (h0 : 0 ≤ s) (h1 : s < n) (h : Rch ts s x) : 0 ≤ x ∧ x < n := by
  obtain ⟨row, h2, rfl⟩ := h
  exact ok.led_in h0 h1 h2
/-- what is found, k of it looked at -/
structure Fnd (ts : List (List Int)) (s : Int) (F : List Int) (k : Nat) : Prop where
  nd : F.Nodup
  rch : ∀ x ∈ F, Rch ts s x
  st : s ∈ F
  le : k ≤ F.length
  done : ∀ i x, i < k → F[i]? = some x → ∀ d, d < ts.length → nx ts d x ∈ F
theorem Fnd.more {ts : List (List Int)} {s y : Int} {F : List Int} {k : Nat} (h : Fnd ts s F k) (hy : Rch ts s y) (no : y ∉ F) : Fnd ts s (F ++ [y]) k where
  nd := List.nodup_append.mpr ⟨h.nd, by simp, fun a ha b hb e => no (by rw [← List.mem_singleton.mp hb, ← e]; exact ha)⟩
  rch := fun x hx => (List.mem_append.mp hx).elim (h.rch x) fun hx => by rw [List.mem_singleton.mp hx]; exact hy
  st := List.mem_append_left _ h.st
  le := by rw [List.length_append]; have := h.le; omega
  done := fun i x hi hx d hd => List.mem_append_left _ (h.done i x hi (by rw [List.getElem?_append_left (by have := h.le; omega)] at hx; exact hx) d hd)
theorem Fnd.all {ts : List (List Int)} {s : Int} {F : List Int} (h : Fnd ts s F F.length) (x : Int) : x ∈ F ↔ Rch ts s x := by
  refine ⟨h.rch x, fun ⟨row, h1, e⟩ => ?_⟩
  rw [e]
  refine closed_all (fun y hy d hd => ?_) h.st h1
  obtain ⟨i, hi⟩ := List.getElem?_of_mem hy
  exact h.done i y (List.getElem?_eq_some_iff.mp hi).1 hi d hd
theorem lt_of_le {L : List Int} (h : L.Pairwise (· ≤ ·)) (nd : L.Nodup) : L.Pairwise (· < ·) := (h.and nd).imp fun ⟨a, b⟩ => Int.lt_iff_le_and_ne.mpr ⟨a, b⟩
theorem inV_nums {xs : List Int} {k : Int} : inV (.int k) (xs.map V.int) = decide (k ∈ xs) := by
  induction xs with
  | nil => rfl
  | cons x xs ih =>
    have e : inV (.int k) ((x :: xs).map V.int) = (eqV (.int x) (.int k) || inV (.int k) (xs.map V.int)) := rfl
    rw [e, ih, Bool.eq_iff_iff]
    have e2 : eqV (.int x) (.int k) = true ↔ x = k := by
      show decide _ = true ↔ _
      simp
    rw [Bool.or_eq_true, e2, decide_eq_true_eq, decide_eq_true_eq, List.mem_cons]
    exact ⟨fun h => h.imp Eq.symm id, fun h => h.imp Eq.symm id⟩
theorem flat_nums {xs : List Int} : (xs.map V.int).all flatV = true := List.all_eq_true.mpr fun x hx => by
  obtain ⟨i, _, rfl⟩ := List.mem_map.mp hx
  rfl
def spReached (K : PySem.W.Frag) (a : Ad) (CM : Addr) : Sp := fun vs H Q E => ∃ m n ts v, vs = [.ref m, v] ∧ McAt K CM H m n ts ∧ Kn K H v ∧ (isBel n v = false → Thrown E H a.cN "state" v) ∧
  (isBel n v = true → ∃ s, v = .int s ∧ ∀ (p : Addr) (L : List Int) H', Same H H' → L.Pairwise (· < ·) → (∀ x, x ∈ L ↔ Rch ts s x) → SqT K H' p (L.map V.int) → Q (.ref p) H')
end K7
/-! sorted(t), t a tuple of whole numbers -/
namespace Kx
open L2 PySem PySem.Spec PyProof.Rows
def rSortTup (K : PySem.W.Frag) : List V → Hp → VK → Prop := fun vs H Q => ∃ (a : Addr) (ns : List Int), vs = [V.ref a] ∧ SqT K H a (ns.map V.int) ∧ ns.length < 64 ∧
  ∀ (L : List Int) (p : Addr), L.Perm ns → L.Pairwise (· ≤ ·) → H p = none → Q (.ref p) (upd H p (.lst (L.map V.int)))
theorem cr_sortTup {X : Cx} : CallR X (.builtin "sorted") (rSortTup X.K) := by
  rintro pins s σ H vs us Q I r ⟨a, ns, rfl, hs, few, q⟩
  obtain ⟨us, rv, ⟨ob, here, cl, n, hd⟩, _⟩ := I.tuple hs
  rw [Vals.ref1 r]
  have hi := rv.ints
  have few' : us.length < 64 := by rw [hi.length]; exact few
  refine Calls.call_function_entry kind_sorted plain_sorted entry_sorted (args_sorted1 _) ?_; unfold Builtin.«sorted»; refine wpAny_bind (m := checkCount "sorted" 1 1 _) (wpAny_pure ?_)
  refine wpAny_bind (wpAny_collect_seq a (.inr rfl) here cl hd (fun h' all => ?_) (by rw [List.size_toArray]; exact small64 few'))
  rw [List.toList_toArray]; refine wpAny_bind (wpAny_newList ?_)
  have new : (h'.push (seqObj "list" us.toArray 0)).get? h'.objs.size = some (seqObj "list" us.toArray 0) := Heap.get?_push_size _ rfl
  refine wpAny_bind (wpAny_holding (wpAny_call_entry slot_list_sort ⟨_, new, rfl⟩ entry_list_sort (list_sort_tree new hi few' fun out L a1 a2 a3 => ⟨_, rfl, ?_⟩) (args_list_sort _)))
  refine wpAny_pure ⟨_, rfl, (?_ : EP X pins σ Q _ _)⟩
  obtain ⟨ep, last⟩ := sortedHeap_at (vs := us) (out := out) new
  have none_ : s.heap.get? h'.objs.size = none := by
    cases e : s.heap.get? h'.objs.size with
    | none => rfl
    | some o => exact absurd (Heap.lt_size (all _ _ e)) (Nat.lt_irrefl _)
  have free : H h'.objs.size = none := I.hok.gone none_
  have fits : (L.map V.int).length ≤ sizeLine := by rw [List.length_map, a2.length_eq]; exact small64 few
  refine ⟨.ref h'.objs.size, upd H h'.objs.size (.lst (L.map V.int)), I.laidN (t' := s.toks) (fun b o e => ?_) none_ free ⟨fits, out.toList, ep, vals_of_ints a1, last⟩, rfl, q L _ a2 a3 free⟩
  have e2 := all b o e
  rw [sortedHeap_old (Nat.ne_of_lt (Heap.lt_size e2)) (Heap.lt_size (Heap.get?_push_of_some _ e2))]
  exact Heap.get?_push_of_some _ e2
end Kx
/-! what comes; the one machine that forgets -/
namespace K7
open L2 PySem PySem.Spec PyProof.Rows Kx
def spComing (K : PySem.W.Frag) (a : Ad) (CM : Addr) : Sp := fun vs H Q E => ∃ m n ts v, vs = [.ref m, v] ∧ McAt K CM H m n ts ∧ Kn K H v ∧ (isBel n v = false → Thrown E H a.cN "state" v) ∧
  (isBel n v = true → ∃ s, v = .int s ∧ ∀ (p : Addr) (L : List Int) H', Same H H' → L.Nodup → L.length ≤ n → (∀ x, x ∈ L ↔ Rch ts s x) → SqT K H' p (L.map V.int) → Q (.ref p) H')
section
variable {P : Program} {w : World} {K : PySem.W.Frag} {mg : Str → Option Value} {base : Heap} {f : Addr} {fd : FuncData} {a : Ad} {CM : Addr}
theorem sc_coming : FnScope ["machine", "first", "found", "at", "table", "state"] ["machine", "first"] (defScope s_in_coming_order) := ⟨rfl, rfl, rfl, by decide +kernel, rfl, by decide +kernel, by decide +kernel⟩
theorem ok_coming (F : FnP K "in_coming_order" s_in_coming_order f fd) (T : Mg mg) (TM : ClsM K mg CM) (c_state : Cal P w K mg base (L2N.CX P w) 3 "need_state" ["machine", "state"] (spState K a CM)) : FnOk P w K mg base (L2N.CX P w) 5 f fd ["machine", "first"] (spComing K a CM) := by
  refine F.ok sc_coming (fun vs H Q E h => ?_) (fun cdv A outer s H vs Q E hr h => ?_)
  · obtain ⟨m, n, ts, v, rfl, _⟩ := h
    rfl
  · obtain ⟨m, n, ts, v, rfl, hm, hv, bad, good⟩ := h
    obtain ⟨ok, dx, t, ps, h1, h2, h3⟩ := id hm
    refine ⟨_, (pss_cons (ps_set (i := 2) sc_coming.nd rfl (by first | exact Or.inl rfl | exact Or.inr rfl) (pe_lst (pa_cons (pe_callC c_state hr (L2N.passes_call (L2N.takes_of rfl rfl rfl rfl) (fun _ _ _ _ z => z)) (pa_cons (pv 0) (pa_cons (pv 1) pa_nil))) pa_nil)))
      (PSs.nox (pss_cons (ps_set (i := 3) sc_coming.nd rfl (by first | exact Or.inl rfl | exact Or.inr rfl) pe_int)
      (pss_cons (ps_while PassesOwn.never (pt_cmpR op_lt (pv 3) (pe_callB call_len_seq (by rfl) T.z_len PySem.boot_len (pa_cons (pv 2) pa_nil)) (nomark _))
        (pss_cons (ps_for PassesOwn.never rfl (pi_tup (pe_fld (pv 0) rfl)) (pg_name (i := 4) sc_coming.nd rfl (by first | exact Or.inl rfl | exact Or.inr rfl))
          (pss_cons (ps_set (i := 5) sc_coming.nd rfl (by first | exact Or.inl rfl | exact Or.inr rfl) (pe_ix ix_tup (pv 4) (pe_ix ix_list (pv 2) (pv 3) (fun _ _ => rfl)) (fun _ _ => rfl)))
          (pss_one (ps_if (pt_cmpR op_notIn_seq (pv 5) (pv 2) (by rfl))
            (pss_one (ps_expr (pe_bm PySem.F.plainAttrs_list PySem.F.slot_list_append PySem.F.type_list_append mt_append (pv 2) (pa_cons (pv 5) pa_nil))))
            pss_nil))))
        (pss_one (ps_aug (i := 3) sc_coming.nd rfl (.inl rfl) pe_int ip_add))))
      (pss_one (ps_ret (pe_callTy call_tup (by rfl) T.z_tuple (by decide +kernel) (pa_cons (pv 2) pa_nil)))))))), ?_⟩
    refine ⟨_, rfl, v, rfl, m, n, ts, v, rfl, hm, hv, bad, fun eb => ?_⟩
    obtain ⟨s0, rfl, fin⟩ := good eb
    obtain ⟨s1, s2⟩ := isBel_iff.mp eb
    refine ⟨by show 1 ≤ sizeLine; decide, fun Fa hFa => ?_⟩
    refine ⟨fun k σ' H' => ∃ (j : Nat) (L : List Int) (y z : Option V), k = n - j ∧ σ' = [some (.ref m), some (.int s0), some (.ref Fa), some (.int (j : Int)), y, z] ∧ Fnd ts s0 L j ∧ H' Fa = some (.lst (L.map V.int)) ∧ Same H H', ⟨n, 0, [s0], _, _, rfl, rfl, ⟨by simp, fun x hx => by rw [List.mem_singleton.mp hx]; exact .refl, by simp, Nat.zero_le _, fun i x h => absurd h (Nat.not_lt_zero i)⟩, upd_same, same_new hFa⟩, ?_⟩
    rintro k σ' H' ⟨j, L, y, z, rfl, rfl, fnd, hL, e⟩
    have lenL := len_le fnd.nd fun x hx => ok.rch s1 s2 (fnd.rch x hx)
    refine ⟨_, rfl, _, rfl, Fa, _, rfl, .inl (SqL.of hL), _, _, rfl, rfl, _, rfl, ite2 (fun lt => ?_) (fun ge => ?_)⟩
    · rw [List.length_map] at lt
      have lt := of_decide_eq_true lt
      have hj : j < L.length := by omega
      have ex : L[j]? = some L[j] := List.getElem?_eq_getElem hj
      have hx := ok.rch s1 s2 (fnd.rch _ (List.mem_of_getElem? ex))
      refine ⟨fun σ2 H2 => ∃ (L2 : List Int) (y z : Option V), σ2 = [some (.ref m), some (.int s0), some (.ref Fa), some (.int ((j + 1 : Nat) : Int)), y, z] ∧ Fnd ts s0 L2 (j + 1) ∧ H2 Fa = some (.lst (L2.map V.int)) ∧ Same H H2, ?_, ?_⟩
      · rintro σ2 H2 ⟨L2, y, z, r1, r2, r3, r4⟩
        exact ⟨n - (j + 1), by omega, j + 1, L2, y, z, rfl, r1, r2, r3, r4⟩
      · refine ⟨_, rfl, m, CM, dx, _, _, rfl, e _ _ h1, TM.cl, TM.n3, rfl, t, rfl, ⟨ps, sqT_same e h2⟩, ?_⟩
        refine for_tup (xs := ps) (fun i σ2 H2 => ∃ (G : List Int) (y z : Option V), σ2 = [some (.ref m), some (.int s0), some (.ref Fa), some (.int (j : Int)), y, z] ∧ Fnd ts s0 (L ++ G) j ∧ (∀ d, d < i → nx ts d L[j] ∈ L ++ G) ∧ H2 Fa = some (.lst ((L ++ G).map V.int)) ∧ Same H H2) ⟨[], _, _, rfl, by rw [List.append_nil]; exact fnd, fun d hd => absurd hd (Nat.not_lt_zero d), by rw [List.append_nil]; exact hL, e⟩ (fun i σ2 H2 _ q => by
          obtain ⟨_, _, _, _, _, _, _, e2⟩ := q
          exact sqT_same e2 h2) ?_ ?_
        · rintro i q σ2 H2 hq ⟨G, y2, z2, rfl, fnd2, cl2, hL2, e2⟩
          have hi : i < ts.length := by rw [← h3.length]; exact (List.getElem?_eq_some_iff.mp hq).1
          obtain ⟨tt, x', t1, t2, t3, x0, x1⟩ := ok.next (d := (i : Int)) (by omega) (by omega) hx.1 hx.2
          rw [Int.toNat_natCast] at t1 t3
          obtain ⟨qa, hqa, sq⟩ := h3.at_ t1
          rw [hq] at hqa
          obtain rfl := Option.some.inj hqa
          have en : nx ts i L[j] = x' := t3
          have rx : Rch ts s0 x' := by
            rw [← en]
            exact (fnd.rch _ (List.mem_of_getElem? ex)).step hi
          have a1 : atI ((L ++ G).map V.int) (j : Int) = some (V.int L[j]) := atI_nat (by rw [List.getElem?_map, List.getElem?_append_left hj, ex]; rfl)
          have a2 : atI (tt.map V.int) L[j] = some (V.int x') := by
            have := atI_nat (xs := tt.map V.int) (j := L[j].toNat) (v := .int x') (by rw [List.getElem?_map, t2]; rfl)
            rwa [Int.toNat_of_nonneg hx.1] at this
          have lenG := len_le fnd2.nd fun x hx => ok.rch s1 s2 (fnd2.rch x hx)
          have n8 := ok.n8
          refine ⟨_, rfl, _, rfl, _, rfl, Fa, _, _, _, rfl, rfl, SqL.of hL2, a1, qa, _, _, _, rfl, rfl, sqT_same e2 sq, a2, ?_⟩
          refine ⟨_, rfl, _, rfl, Fa, _, rfl, .inl (SqL.of hL2), rfl, flat_nums, _, rfl, ?_⟩
          rw [if_pos rfl, inV_nums]
          refine ite2 (fun no => ?_) (fun yes => ?_)
          · have no : x' ∉ L ++ G := by simpa using no
            refine ⟨_, rfl, .inl ⟨rfl, _, SqL.of hL2⟩, _, rfl, Fa, _, _, rfl, rfl, hL2, by rw [List.length_map, sizeLine_eq]; omega, G ++ [x'], _, _, rfl, ?_, ?_, ?_, ?_⟩
            · rw [← List.append_assoc]
              exact fnd2.more rx no
            · intro d hd
              rw [← List.append_assoc]
              rcases Nat.lt_or_eq_of_le (Nat.le_of_lt_succ hd) with h | rfl
              · exact List.mem_append_left _ (cl2 d h)
              · rw [en]
                simp
            · rw [upd_same, ← List.append_assoc, List.map_append (l₁ := L ++ G)]
              rfl
            · intro c o hc
              rw [upd_ne (ne_of_none hc hFa)]
              exact e2 _ _ hc
          · have yes : x' ∈ L ++ G := Decidable.not_not.mp (by simpa [-List.mem_append] using yes)
            refine ⟨G, _, _, rfl, fnd2, fun d hd => ?_, hL2, e2⟩
            rcases Nat.lt_or_eq_of_le (Nat.le_of_lt_succ hd) with h | rfl
            · exact cl2 d h
            · rw [en]
              exact yes
        · rintro σ2 H2 ⟨G, y2, z2, rfl, fnd2, cl2, hL2, e2⟩
          refine ⟨_, rfl, _, _, rfl, rfl, L ++ G, y2, z2, ?_, ⟨fnd2.nd, fnd2.rch, fnd2.st, by rw [List.length_append]; omega, fun i x hi hx' d hd => ?_⟩, hL2, e2⟩
          · rfl
          · rcases Nat.lt_or_eq_of_le (Nat.le_of_lt_succ hi) with h | rfl
            · exact fnd2.done i x h hx' d hd
            · rw [List.getElem?_append_left hj, ex] at hx'
              cases hx'
              exact cl2 d (by rw [h3.length]; exact hd)
    · rw [List.length_map] at ge
      have ge : ¬ ((j : Int) < (L.length : Int)) := of_decide_eq_false (by simpa using ge)
      have ej : j = L.length := by have := fnd.le; omega
      subst ej
      exact ⟨_, rfl, Fa, _, rfl, .inl (SqL.of hL), fun q H3 e3 hq => fin q L H3 (e.trans e3) fnd.nd lenL (fun x => fnd.all x) hq⟩
theorem sc_reached : FnScope ["machine", "first"] ["machine", "first"] (defScope s_reached) := ⟨rfl, rfl, rfl, by decide +kernel, rfl, by decide +kernel, by decide +kernel⟩
theorem ok_reached (F : FnP K "reached" s_reached f fd) (T : Mg mg) (c_coming : Cal P w K mg base (L2N.CX P w) 5 "in_coming_order" ["machine", "first"] (spComing K a CM)) : FnOk P w K mg base (L2N.CX P w) 6 f fd ["machine", "first"] (spReached K a CM) := by
  refine F.ok sc_reached (fun vs H Q E h => ?_) (fun cdv A outer s H vs Q E hr h => ?_)
  · obtain ⟨m, n, ts, v, rfl, _⟩ := h
    rfl
  · obtain ⟨m, n, ts, v, rfl, hm, hv, bad, good⟩ := h
    refine ⟨_, (pss_one (ps_ret (pe_callTy call_tup (by rfl) T.z_tuple (by decide +kernel) (pa_cons (pe_callB cr_sortTup (by rfl) T.z_sorted (by decide +kernel) (pa_cons (pe_callC c_coming hr (L2N.passes_call (L2N.takes_of rfl rfl rfl rfl) (fun _ _ _ _ z => z)) (pa_cons (pv 0) (pa_cons (pv 1) pa_nil))) pa_nil)) pa_nil)))), ?_⟩
    refine ⟨_, rfl, v, rfl, m, n, ts, v, rfl, hm, hv, bad, fun eb => ?_⟩
    obtain ⟨s0, rfl, fin⟩ := good eb
    refine ⟨s0, rfl, fun t L H1 e1 nd len mem ht => ?_⟩
    have n8 := hm.ok.n8
    refine ⟨t, L, rfl, ht, by omega, fun L' p perm srt hp => ⟨p, _, rfl, .inl (SqL.of upd_same), fun q H3 e3 hq => ?_⟩⟩
    have e4 : Same H H3 := fun c o hc => e3 _ _ (by rw [upd_ne (ne_of_none (e1 _ _ hc) hp)]; exact e1 _ _ hc)
    exact fin q L' H3 e4 (lt_of_le srt (perm.nodup_iff.mpr nd)) (fun x => by rw [perm.mem_iff]; exact mem x) hq
end
end K7
/-! machines and counters are made -/
namespace K7
open PySem PySem.Spec PyProof.Rows L2 Kx RZ
structure Mks (P : Program) (w : World) (K : PySem.W.Frag) (mg : Str → Option Value) (base : Heap) (a : Ad) (C CM t0 : Addr) : Prop where
  cnt : ∃ (f : Addr) (fd : FuncData), Mk K C f ∧ FnOk P w K mg base (L2N.CX P w) 5 f fd ["self", "rounds", "rests"] (spInit K a C) ∧ Binds K fd ["self", "rounds", "rests"] []
  cnt1 : ∃ (f : Addr) (fd : FuncData), Mk K C f ∧ FnOk P w K mg base (L2N.CX P w) 5 f fd ["self", "rounds", "rests"] (spInit K a C) ∧ Binds K fd ["self", "rounds", "rests"] [.ref t0]
  mac : ∃ (f : Addr) (fd : FuncData), Mk K CM f ∧ FnOk P w K mg base (L2N.CX P w) 5 f fd ["self", "tables"] (spMachine K a CM) ∧ Binds K fd ["self", "tables"] []
  nil : ∀ H, SqT K H t0 []
section
variable {X : Cx} {a : Ad} {C CM t0 : Addr} {E : XK} {p pos : Pos} {e e2 : Expr} {t tk : TA} {n : Nat}
theorem pe_cnt2 (M : Mks X.prog X.w X.K X.mg X.base a C CM t0) (TC : ClsC X.K X.mg C) (hr : Room n X.A) (hx : Passes (L2N.CX X.prog X.w) X E) (ha : PA X [e, e2] t) (hn : 6 ≤ n := by decide) (hg : Gl X "Counters" := by rfl)
    (he : starEach [e, e2] X.env = (false, eval e X.env) :: starEach [e2] X.env := by rfl) (hpl : (backTo pos (starEach [e2] X.env)).any (·.1) = false := by rfl) {K : PySem.W.Frag} (hK : X.K = K := by rfl) : PE X (.Call (.Name "Counters" p) [e, e2] [] pos) (tMake C (spInit K a C) [] E t) := by
  subst hK
  obtain ⟨f, fd, h1, h2, h3⟩ := M.cnt
  exact pe_make h1 h2 (hr.mono hn) hg TC.at_ h3 .nil hx ha (by decide) he hpl
theorem pe_mac (M : Mks X.prog X.w X.K X.mg X.base a C CM t0) (TM : ClsM X.K X.mg CM) (hr : Room n X.A) (hx : Passes (L2N.CX X.prog X.w) X E) (ha : PA X [e] t) (hn : 6 ≤ n := by decide) (hg : Gl X "Machine" := by rfl)
    (he : starEach [e] X.env = (false, eval e X.env) :: starEach [] X.env := by rfl) (hpl : (backTo pos (starEach [] X.env)).any (·.1) = false := by rfl) {K : PySem.W.Frag} (hK : X.K = K := by rfl) : PE X (.Call (.Name "Machine" p) [e] [] pos) (tMake CM (spMachine K a CM) [] E t) := by
  subst hK
  obtain ⟨f, fd, h1, h2, h3⟩ := M.mac
  exact pe_make h1 h2 (hr.mono hn) hg TM.at_ h3 .nil hx ha (by decide) he hpl
theorem pe_cnt1 (M : Mks X.prog X.w X.K X.mg X.base a C CM t0) (TC : ClsC X.K X.mg C) (hr : Room n X.A) (hx : Passes (L2N.CX X.prog X.w) X E) (ha : PA X [e] t) (hn : 6 ≤ n := by decide) (hg : Gl X "Counters" := by rfl)
    (he : starEach [e] X.env = (false, eval e X.env) :: starEach [] X.env := by rfl) (hp : (backTo pos (starEach [] X.env)).any (·.1) = false := by rfl) {K : PySem.W.Frag} (hK : X.K = K := by rfl) : PE X (.Call (.Name "Counters" p) [e] [] pos) (tMake C (spInit K a C) [.ref t0] E t) := by
  subst hK
  obtain ⟨f, fd, h1, h2, h3⟩ := M.cnt1
  exact pe_make h1 h2 (hr.mono hn) hg TC.at_ h3 (.cons rfl .nil) hx ha (by decide) he hp
end
theorem pzN {X : Cx} : Passes (L2N.CX X.prog X.w) X fun _ _ _ => False := L2N.passes_call (fun _ _ ⟨_, _, _, _, _, _, _, _, _, _, _, _, _, _, _, _, z⟩ => z.elim) fun _ _ _ _ z => z
theorem kns_ints {K : PySem.W.Frag} {H : Hp} {ns : List Int} {m : Nat} : Kns K H (some (ns.map V.int)) m := fun xs q _ x hx => by
  cases q
  obtain ⟨n, _, rfl⟩ := List.mem_map.mp hx
  exact .int n
theorem items_of {K : PySem.W.Frag} {H : Hp} : ∀ {vs : List V} {ts : List (List Int)}, RowsBy (Sq K H) vs ts → Items K H vs (ts.map fun t => some (t.map V.int))
  | [], [], _ => trivial
  | _ :: _, _ :: _, ⟨⟨q, h1, h2⟩, h⟩ => ⟨⟨by rw [h1]; exact .seq h2, kns_ints⟩, items_of h⟩
  | [], _ :: _, h => h.elim
  | _ :: _, [], h => h.elim
theorem isTab_of {n : Nat} {t : List Int} (n1 : 1 ≤ n) (n8 : n ≤ 8) (l : t.length = n) (b : ∀ x ∈ t, 0 ≤ x ∧ x < (n : Int)) : isTab n (some (t.map V.int)) = true := by
  rw [isTab_some, inLen_some, List.length_map, l, fnb_of b, decide_eq_true (by omega), decide_eq_true (by omega)]
  simp
theorem new_ins {C x dx : Addr} {H : Hp} (hx : H x = none) (hd : H dx = none) (ne : dx ≠ x) : Same H (upd (upd H dx (.own x)) x (.ins C dx [])) := (same_new hd).trans (same_new (by rw [upd_ne (Ne.symm ne)]; exact hx))
theorem mc_make {K : PySem.W.Frag} {a : Ad} {CM x dx b : Addr} {H : Hp} {xs : List V} {n : Nat} {ts : List (List Int)} {E : XK} {Q : Hp → Prop} (ok : Mok n ts) (hb : Sq K H b xs) (rows : RowsBy (Sq K H) xs ts) (hx : H x = none) (hd : H dx = none) (ne : dx ≠ x)
    (q : ∀ H', Same H H' → McAt K CM H' x n ts → Q H') : spMachine K a CM [.ref x, .ref b] (upd (upd H dx (.own x)) x (.ins CM dx [])) (fun v H2 => v = .non ∧ Q H2) E := by
  have e := new_ins (C := CM) hx hd ne
  have len := rows.length
  have l1 := ok.l1
  have l4 := ok.l4
  have it := items_of (rows.imp fun _ _ z => z.same e)
  have l0 : lenAt (ts.map fun t => some (t.map V.int)) = n := by
    obtain ⟨t0, ht0⟩ : ∃ t0, ts[0]? = some t0 := ⟨ts[0], List.getElem?_eq_getElem (by omega)⟩
    unfold lenAt
    rw [List.getElem?_map, ht0]
    show (t0.map V.int).length = n
    rw [List.length_map]
    exact ok.len _ (List.mem_of_getElem? ht0)
  have nb : badTab n (ts.map fun t => some (t.map V.int)) = none := badTab_none.mpr fun o ho => by
    obtain ⟨t, ht, rfl⟩ := List.mem_map.mp ho
    exact isTab_of ok.n1 ok.n8 (ok.len t ht) (ok.ent t ht)
  refine ⟨x, dx, .ref b, some xs, rfl, upd_same, .seq (hb.same e), fun z => ?_, fun ys ey _ => ?_⟩
  · rw [inLen_some, decide_eq_true (by omega), decide_eq_true (by omega)] at z
    cases z
  · cases ey
    refine ⟨_, it, fun i z => ?_, fun _ n' ts' ok' eo H' keep mc => ?_⟩
    · rw [l0, nb] at z
      cases z
    · have et := ints_map eo
      subst et
      have en : n' = n := by
        obtain ⟨t0, ht0⟩ : ∃ t0, ts[0]? = some t0 := ⟨ts[0], List.getElem?_eq_getElem (by omega)⟩
        rw [← ok.len _ (List.mem_of_getElem? ht0), ok'.len _ (List.mem_of_getElem? ht0)]
      subst en
      exact ⟨rfl, q H' (fun c o hc => keep c o (ne_of_none hc hx) (e _ _ hc)) mc⟩
theorem ints_inj : ∀ {xs ys : List Int}, xs.map V.int = ys.map V.int → xs = ys
  | [], [], _ => rfl
  | [], _ :: _, h => nomatch h
  | _ :: _, [], h => nomatch h
  | x :: xs, y :: ys, h => by
    rw [List.map_cons] at h
    rw [List.map_cons] at h
    injection h with h1 h2
    cases h1
    rw [ints_inj h2]
section
variable {K : PySem.W.Frag} {a : Ad} {C x dx : Addr} {H : Hp} {v1 v2 : V} {E : XK} {o1 o2 : Option (List V)} {rs es : List Int}
theorem rounds_ok (ok : Cok rs es) : roundsOk (some (rs.map V.int)) = true := by
  rw [roundsOk_some, inLen_some, fnb_of (l := 61) fun n hn => ⟨(ok.r n hn).1, by have := (ok.r n hn).2; omega⟩, List.length_map]
  have := ok.l1
  have := ok.l4
  rw [decide_eq_true (by omega), decide_eq_true (by omega)]
  rfl
theorem rests_ok (ok : Cok rs es) : restsOk rs.length (some (es.map V.int)) = true := by
  rw [restsOk_some, fnb_of (l := 7) fun n hn => ⟨(ok.e n hn).1, by have := (ok.e n hn).2; omega⟩, List.length_map, decide_eq_true ok.le]
  simp
theorem make_good {Q : Hp → Prop} (ok : Cok rs es) (h1 : Long K H v1 (some (rs.map V.int))) (h2 : (Long K H v2 (some []) ∧ es = List.replicate rs.length 0) ∨ Long K H v2 (some (es.map V.int))) (hx : H x = none) (hd : H dx = none) (ne : dx ≠ x)
    (q : ∀ H', Same H H' → CnAt K C H' x rs es → Q H') : spInit K a C [.ref x, v1, v2] (upd (upd H dx (.own x)) x (.ins C dx [])) (fun v H2 => v = .non ∧ Q H2) E := by
  have e := new_ins (C := C) hx hd ne
  have last : ∀ rs' es', some (rs.map V.int) = some (rs'.map V.int) → es' = es → ∀ H', (∀ b o, b ≠ x → upd (upd H dx (.own x)) x (.ins C dx []) b = some o → H' b = some o) → CnAt K C H' x rs' es' → V.non = V.non ∧ Q H' := fun rs' es' er ee H' keep cn => by
    have er := ints_inj (Option.some.inj er)
    subst er ee
    exact ⟨rfl, q H' (fun b o hb => keep b o (ne_of_none hb hx) (e _ _ hb)) cn⟩
  rcases h2 with ⟨h2, ee⟩ | h2
  · refine ⟨x, dx, v1, v2, _, some [], rfl, upd_same, h1.same e, kns_ints, h2.same e, fun xs q _ x hx => by cases q; simp at hx, fun z => ?_, fun xs e1 _ z => ?_, fun rs' es' ok' er how => ?_⟩
    · rw [rounds_ok ok] at z
      cases z
    · cases e1
      rw [restsOk_some] at z
      cases z
    · rcases how with ⟨_, e3⟩ | e3
      · exact last rs' es' er (by rw [e3, ee, ints_inj (Option.some.inj er)])
      · exfalso
        have z : es'.length = 0 := by cases es' with
          | nil => rfl
          | cons _ _ => cases e3
        have := ok'.le
        have := ok'.l1
        omega
  · refine ⟨x, dx, v1, v2, _, _, rfl, upd_same, h1.same e, kns_ints, h2.same e, kns_ints, fun z => ?_, fun xs e1 _ z => ?_, fun rs' es' ok' er how => ?_⟩
    · rw [rounds_ok ok] at z
      cases z
    · cases e1
      rw [List.length_map, rests_ok ok] at z
      cases z
    · rcases how with ⟨e3, _⟩ | e3
      · exfalso
        have z : es.length = 0 := by cases es with
          | nil => rfl
          | cons _ _ => cases e3
        have := ok.le
        have := ok.l1
        omega
      · exact last rs' es' er (ints_inj (Option.some.inj e3)).symm
end
end K7
/-! counters that fit -/
namespace K7
open L2 PySem PySem.Spec PyProof.Rows Kx
def spNeedFit (K : PySem.W.Frag) (a : Ad) (C CM : Addr) : Sp := fun vs H Q E => ∃ (m c dx : Addr) (fs : List (Str × V)) (n : Nat) (rs es : List Int), vs = [.ref m, .ref c] ∧ H m = some (.ins CM dx fs) ∧ Cls K CM ∧ NoAttr K CM ("deeds" : Str) ∧ fs.lookup ("deeds" : Str) = some (V.int (n : Int)) ∧ CnAt K C H c rs es ∧
  (rs.length ≠ n → Thrown E H a.cF "at" (.ref c)) ∧ (rs.length = n → Q (.ref c) H)
section
variable {P : Program} {w : World} {K : PySem.W.Frag} {mg : Str → Option Value} {base : Heap} {f : Addr} {fd : FuncData} {a : Ad} {C CM : Addr}
theorem sc_need_fit : FnScope ["machine", "counters"] ["machine", "counters"] (defScope s_need_fit) := ⟨rfl, rfl, rfl, by decide +kernel, rfl, by decide +kernel, by decide +kernel⟩
theorem ok_need_fit (F : FnP K "need_fit" s_need_fit f fd) (T : Mg mg) (R : Er P w K mg base a) (TC : ClsC K mg C) : FnOk P w K mg base (L2N.CX P w) 3 f fd ["machine", "counters"] (spNeedFit K a C CM) := by
  refine F.ok sc_need_fit (fun vs H Q E h => ?_) (fun cdv A outer s H vs Q E hr h => ?_)
  · obtain ⟨m, c, dx, fs, n, rs, es, rfl, _⟩ := h
    rfl
  · obtain ⟨m, c, dx, fs, n, rs, es, rfl, hm, cl, na, hd, ⟨ok, dy, p, q, h1, h2, h3⟩, bad, good⟩ := h
    refine ⟨_, (pss_cons (ps_if (pt_cmpR op_ne (pe_callB call_len_seq (by rfl) T.z_len PySem.boot_len (pa_cons (pe_fld (pv 1) rfl) pa_nil)) (pe_fld (pv 0) rfl) (nomark _))
        (pss_one (psN R.Refused rfl hr (L2N.takes_of rfl rfl rfl rfl) (pa_cons (pv 1) pa_nil)))
        pss_nil)
      (PSs.nox (pss_one (ps_ret (pv 1))))), ?_⟩
    refine ⟨_, rfl, c, C, dy, _, _, rfl, h1, TC.cl, TC.n1, rfl, p, _, rfl, .inr h2, _, rfl, m, CM, dx, _, _, rfl, hm, cl, na, hd, rfl, _, rfl, ?_⟩
    rw [List.length_map]
    refine ite2 (fun h => ?_) (fun h => ?_)
    · have ne : rs.length ≠ n := fun e => by subst e; simp at h
      exact ⟨_, rfl, thrownN (bad ne).at_⟩
    · have e : rs.length = n := by
        simp at h
        omega
      exact ⟨_, rfl, good e⟩
end
end K7
/-! a table done over and over -/
namespace K7
open L2 PySem PySem.Spec PyProof.Rows Kx
def tx (t : List Int) (x : Int) : Int := t.getD x.toNat 0
/-- a table k times -/
def it (t : List Int) : Nat → Int → Int
  | 0, x => x
  | k + 1, x => tx t (it t k x)
theorem it_add (t : List Int) (x : Int) (i : Nat) : ∀ j, it t (i + j) x = it t j (it t i x)
  | 0 => rfl
  | j + 1 => congrArg (tx t) (it_add t x i j)
/-- L goes into itself, unlike to unlike -/
structure Exc (L : List Int) (t : List Int) : Prop where
  nd : L.Nodup
  cl : ∀ x ∈ L, tx t x ∈ L
  inj : ∀ x ∈ L, ∀ y ∈ L, tx t x = tx t y → x = y
theorem nodup_le : ∀ {F L : List Int}, F.Nodup → (∀ x ∈ F, x ∈ L) → F.length ≤ L.length
  | [], _, _, _ => Nat.zero_le _
  | x :: F, L, nd, h => by
    have hx := h x (List.mem_cons_self ..)
    have nd' := List.nodup_cons.mp nd
    have := nodup_le (F := F) (L := L.erase x) nd'.2 fun y hy => by
      have ne : y ≠ x := fun z => nd'.1 (z ▸ hy)
      exact (List.mem_erase_of_ne ne).mpr (h y (List.mem_cons_of_mem _ hy))
    rw [List.length_erase_of_mem hx] at this
    have : 0 < L.length := List.length_pos_of_mem hx
    rw [List.length_cons]
    omega
section
variable {L t : List Int} {x y : Int}
theorem Exc.it_in (e : Exc L t) (hx : x ∈ L) : ∀ k, it t k x ∈ L
  | 0 => hx
  | k + 1 => e.cl _ (e.it_in hx k)
theorem Exc.it_inj (e : Exc L t) (hx : x ∈ L) (hy : y ∈ L) : ∀ {k}, it t k x = it t k y → x = y
  | 0, h => h
  | k + 1, h => e.it_inj hx hy (e.inj _ (e.it_in hx k) _ (e.it_in hy k) h)
theorem Exc.back (e : Exc L t) (hx : x ∈ L) {i k : Nat} (h : it t (i + k) x = it t i x) : it t k x = x := by
  rw [Nat.add_comm, it_add] at h
  exact e.it_inj (e.it_in hx k) hx h
/-- x comes back, at the latest behind all of L -/
theorem Exc.some_back (e : Exc L t) (hx : x ∈ L) : ∃ c, 1 ≤ c ∧ c ≤ L.length ∧ it t c x = x := by
  refine Classical.byContradiction fun no => ?_
  have nd : ((List.range (L.length + 1)).map fun i => it t i x).Nodup := by
    refine List.pairwise_map.mpr (List.pairwise_lt_range.imp_of_mem fun {i j} hi hj lt z => no ?_)
    have hj := List.mem_range.mp hj
    refine ⟨j - i, by omega, by omega, ?_⟩
    have e' : i + (j - i) = j := by omega
    exact e.back hx (i := i) (by rw [e']; exact z.symm)
  have := nodup_le nd fun y hy => by
    obtain ⟨i, _, rfl⟩ := List.mem_map.mp hy
    exact e.it_in hx i
  rw [List.length_map, List.length_range] at this
  omega
/-- x comes back for the first time -/
structure Per (t : List Int) (x : Int) (c : Nat) : Prop where
  c1 : 1 ≤ c
  back : it t c x = x
  least : ∀ j, 0 < j → j < c → it t j x ≠ x
theorem least_of {p : Nat → Prop} : ∀ n, p n → ∃ m, m ≤ n ∧ p m ∧ ∀ j, j < m → ¬ p j := by
  intro n
  induction n using Nat.strongRecOn with
  | _ n ih =>
    intro hn
    by_cases h : ∃ m, m < n ∧ p m
    · obtain ⟨m, lt, hm⟩ := h
      obtain ⟨k, hk, h1, h2⟩ := ih m lt hm
      exact ⟨k, by omega, h1, h2⟩
    · exact ⟨n, Nat.le_refl _, hn, fun j hj hp => h ⟨j, hj, hp⟩⟩
theorem Exc.per (e : Exc L t) (hx : x ∈ L) : ∃ c, c ≤ L.length ∧ Per t x c := by
  obtain ⟨c, c1, cl, hc⟩ := e.some_back hx
  obtain ⟨m, hm, ⟨m1, m2⟩, m3⟩ := least_of (p := fun c => 1 ≤ c ∧ it t c x = x) c ⟨c1, hc⟩
  exact ⟨m, by omega, m1, m2, fun j j0 jm z => m3 j jm ⟨j0, z⟩⟩
theorem it_mul {c : Nat} (h : it t c x = x) : ∀ k, it t (c * k) x = x
  | 0 => rfl
  | k + 1 => by rw [Nat.mul_succ, it_add, it_mul h k, h]
theorem it_mod {c : Nat} (h : it t c x = x) (k : Nat) : it t k x = it t (k % c) x := by
  conv => lhs; rw [← Nat.div_add_mod k c, it_add, it_mul h]
/-- where x goes -/
def orb (t : List Int) (x : Int) (c : Nat) : List Int := (List.range c).map fun i => it t i x
theorem orb_len {c : Nat} : (orb t x c).length = c := by unfold orb; rw [List.length_map, List.length_range]
theorem orb_at {c i : Nat} (h : i < c) : (orb t x c)[i]? = some (it t i x) := by
  unfold orb
  rw [List.getElem?_map, List.getElem?_range h]
  rfl
theorem orb_more {c : Nat} : orb t x (c + 1) = orb t x c ++ [it t c x] := by
  unfold orb
  rw [List.range_succ, List.map_append]
  rfl
end
/-- a table's entries are places of it -/
def InR (t : List Int) : Prop := ∀ y ∈ t, 0 ≤ y ∧ y < (t.length : Int)
theorem InR.at_ {t : List Int} (h : InR t) {x : Int} (h0 : 0 ≤ x) (h1 : x < (t.length : Int)) : (t.map V.int)[x.toNat]? = some (.int (tx t x)) ∧ 0 ≤ tx t x ∧ tx t x < (t.length : Int) := by
  have lt : x.toNat < t.length := by omega
  have e : t[x.toNat]? = some t[x.toNat] := List.getElem?_eq_getElem lt
  have e2 : tx t x = t[x.toNat] := by
    unfold tx
    rw [List.getD_eq_getElem?_getD, e]
    rfl
  rw [e2, List.getElem?_map, e]
  exact ⟨rfl, h _ (List.getElem_mem lt)⟩
theorem InR.it_in {t : List Int} (h : InR t) {x : Int} (h0 : 0 ≤ x) (h1 : x < (t.length : Int)) : ∀ k, 0 ≤ it t k x ∧ it t k x < (t.length : Int)
  | 0 => ⟨h0, h1⟩
  | k + 1 => (h.at_ (h.it_in h0 h1 k).1 (h.it_in h0 h1 k).2).2
theorem at_int {xs : List V} {x : Int} {v : V} (h0 : 0 ≤ x) (h : xs[x.toNat]? = some v) : atI xs x = some v := by
  obtain ⟨k, rfl⟩ : ∃ k : Nat, x = (k : Int) := ⟨x.toNat, by omega⟩
  exact atI_nat h
/-- tables of n places that lead L into itself, unlike to unlike -/
structure Wrl (n : Nat) (ts : List (List Int)) (L : List Int) : Prop where
  tab : ∀ t ∈ ts, t.length = n ∧ InR t ∧ Exc L t
  rng : ∀ x ∈ L, 0 ≤ x ∧ x < (n : Int)
  n8 : n ≤ 8
  nd : L.Nodup
theorem Wrl.few {n : Nat} {ts : List (List Int)} {L : List Int} (w : Wrl n ts L) : L.length ≤ n := len_le w.nd w.rng
theorem Wrl.per {n : Nat} {ts : List (List Int)} {L t : List Int} {x : Int} (w : Wrl n ts L) (ht : t ∈ ts) (hx : x ∈ L) : ∃ c, c ≤ 8 ∧ c ≤ L.length ∧ Per t x c := by
  obtain ⟨c, h1, h2⟩ := (w.tab t ht).2.2.per hx
  have := w.few
  have := w.n8
  exact ⟨c, by omega, h1, h2⟩
/-- where numbers of deeds lead -/
def byC : List (List Int) → List Nat → Int → Int
  | t :: ts, c :: cs, s => byC ts cs (it t c s)
  | _, _, s => s
theorem byC_snoc : ∀ {ts : List (List Int)} {cs : List Nat} {t : List Int} {c : Nat} {s : Int}, ts.length = cs.length → byC (ts ++ [t]) (cs ++ [c]) s = it t c (byC ts cs s)
  | [], [], _, _, _, _ => rfl
  | _ :: ts, _ :: cs, _, _, _, h => byC_snoc (ts := ts) (cs := cs) (by simpa using h)
  | [], _ :: _, _, _, _, h => by simp at h
  | _ :: _, [], _, _, _, h => by simp at h
theorem byC_in {L : List Int} : ∀ {ts : List (List Int)} {cs : List Nat} {s : Int}, (∀ t ∈ ts, Exc L t) → s ∈ L → byC ts cs s ∈ L
  | [], _, _, _, h => h
  | _ :: _, [], _, _, h => h
  | t :: ts, c :: cs, s, e, h => byC_in (ts := ts) (cs := cs) (fun t ht => e t (List.mem_cons_of_mem _ ht)) ((e t (List.mem_cons_self ..)).it_in h c)
end K7
/-! where deeds lead, many times -/
namespace K7
open L2 PySem PySem.Spec PyProof.Rows Kx RZ
theorem at_last {xs : List V} {v : V} {j : Nat} (h : xs[j]? = some v) (hl : xs.length = j + 1) : atI xs (-1) = some v := by
  have e : ixN xs.length (-1) = some j := by
    unfold ixN
    rw [hl, if_neg (by decide), if_pos (by omega)]
    congr 1
    omega
  unfold atI
  rw [e]
  exact h
theorem same_put {H H' : Hp} {S : Addr} {o : HO} (e : Same H H') (n : H S = none) : Same H (upd H' S o) := fun b u hb => by
  rw [upd_ne (fun z => by rw [z, n] at hb; cases hb)]
  exact e b u hb
def spCircle (K : PySem.W.Frag) : Sp := fun vs H Q _ => ∃ (q : Addr) (t : List Int) (s : Int) (c : Nat), vs = [.ref q, .int s] ∧ SqT K H q (t.map V.int) ∧ InR t ∧ 0 ≤ s ∧ s < (t.length : Int) ∧ Per t s c ∧ c ≤ 8 ∧
  ∀ l H', Same H H' → H l = none → H' l = some (.lst ((orb t s c).map V.int)) → Q (.ref l) H'
section
variable {P : Program} {w : World} {K : PySem.W.Frag} {mg : Str → Option Value} {base : Heap} {f : Addr} {fd : FuncData} {a : Ad} {C CM : Addr}
theorem sc_circle : FnScope ["table", "place", "places"] ["table", "place"] (defScope s_circle) := ⟨rfl, rfl, rfl, by decide +kernel, rfl, by decide +kernel, by decide +kernel⟩
theorem ok_circle (F : FnP K "circle" s_circle f fd) (T : Mg mg) : FnOk P w K mg base CX0 1 f fd ["table", "place"] (spCircle K) := by
  refine F.ok sc_circle (fun vs H Q E h => ?_) (fun cdv A outer s H vs Q E hr h => ?_)
  · obtain ⟨q, t, s, c, rfl, _⟩ := h
    rfl
  · obtain ⟨q, t, s, c, rfl, hq, ir, s0, s1, per, c8, k⟩ := h
    refine ⟨_, PSs.nox (pss_cons (ps_set (i := 2) sc_circle.nd rfl (by first | exact Or.inl rfl | exact Or.inr rfl) (pe_lst (pa_cons (pv 1) pa_nil)))
  (pss_cons (ps_while PassesOwn.never (pt_cmpR op_ne (pe_ix ix_tup (pv 0) (pe_ix ix_list (pv 2) (pe_un un_neg pe_int) (fun _ _ => rfl)) (fun _ _ => rfl)) (pv 1) (nomark _))
  (pss_one (ps_expr (pe_bm PySem.F.plainAttrs_list PySem.F.slot_list_append PySem.F.type_list_append mt_append (pv 2) (pa_cons (pe_ix ix_tup (pv 0) (pe_ix ix_list (pv 2) (pe_un un_neg pe_int) (fun _ _ => rfl)) (fun _ _ => rfl)) pa_nil)))))
  (pss_one (ps_ret (pv 2))))), ?_⟩
    have c1 := per.c1
    refine ⟨_, rfl, (by show 1 ≤ sizeLine; decide), fun l hl => ?_⟩
    have e1 := same_new (o := HO.lst [V.int s]) hl
    have u1 : upd H l (HO.lst [V.int s]) l = some (.lst ((orb t s 1).map V.int)) := upd_same
    generalize upd H l (HO.lst [V.int s]) = H1 at *
    refine ⟨fun k σ' H' => ∃ j : Nat, k = c - (j + 1) ∧ j + 1 ≤ c ∧ σ' = [some (.ref q), some (.int s), some (.ref l)] ∧ Same H H' ∧ H' l = some (.lst ((orb t s (j + 1)).map V.int)), ⟨c - 1, 0, rfl, c1, rfl, e1, u1⟩, ?_⟩
    rintro k' σ' H' ⟨j, rfl, jc, rfl, e, hl'⟩
    have la : atI ((orb t s (j + 1)).map V.int) (-1) = some (.int (it t j s)) := at_last (j := j) (by rw [List.getElem?_map, orb_at (by omega)]; rfl) (by rw [List.length_map, orb_len])
    have inr := ir.it_in s0 s1 j
    obtain ⟨g1, g2, g3⟩ := ir.at_ inr.1 inr.2
    have lb : atI (t.map V.int) (it t j s) = some (.int (it t (j + 1) s)) := at_int inr.1 g1
    refine ⟨_, rfl, _, rfl, _, rfl, l, _, _, _, rfl, rfl, SqL.of hl', la, q, _, _, _, rfl, rfl, sqT_same e hq, lb, _, rfl, rfl, _, rfl, ite2 (fun h => ?_) (fun h => ?_)⟩
    · have ne : it t (j + 1) s ≠ s := by simpa using h
      have j2 : j + 1 ≠ c := fun z => ne (by rw [z]; exact per.back)
      refine ⟨fun σ2 H2 => σ2 = [some (.ref q), some (.int s), some (.ref l)] ∧ Same H H2 ∧ H2 l = some (.lst ((orb t s (j + 1 + 1)).map V.int)), ?_, ?_⟩
      · rintro σ2 H2 ⟨rfl, e2, h2⟩
        exact ⟨c - (j + 1 + 1), by omega, j + 1, rfl, by omega, rfl, e2, h2⟩
      · refine ⟨_, rfl, .inl ⟨rfl, _, SqL.of hl'⟩, _, rfl, _, rfl, _, rfl, l, _, _, _, rfl, rfl, SqL.of hl', la, q, _, _, _, rfl, rfl, sqT_same e hq, lb, ?_⟩
        refine ⟨l, _, _, rfl, rfl, hl', by rw [List.length_map, orb_len, sizeLine_eq]; omega, rfl, same_put e hl, ?_⟩
        rw [upd_same, orb_more (c := j + 1), List.map_append, List.map_singleton]
    · have ee : it t (j + 1) s = s := by simpa using h
      have jc2 : j + 1 = c := by
        refine Classical.byContradiction fun z => per.least (j + 1) (by omega) (by omega) ee
      rw [jc2] at hl'
      exact ⟨_, rfl, k l H' e hl hl'⟩
end
end K7
/-! pairs of deeds; machines that exchange -/
namespace K7
open L2 PySem PySem.Spec PyProof.Rows Kx RZ
/-- pairs of numbers below k -/
structure PairsOf (k : Nat) (prs : List (List Int)) : Prop where
  are : ∀ pr ∈ prs, ∃ a b : Nat, pr = [(a : Int), (b : Int)] ∧ a < k ∧ b < k
  few : prs.length ≤ 16
def Rl (prs : List (List Int)) : Nat → Nat → Prop := fun a b => [(a : Int), (b : Int)] ∈ prs
def LtB (k : Nat) : Nat → Nat → Prop := fun a b => a < b ∧ b < k
/-- all pairs of numbers below k, the less one first -/
structure PairsAll (k : Nat) (prs : List (List Int)) : Prop where
  are : ∀ pr ∈ prs, ∃ a b : Nat, pr = [(a : Int), (b : Int)] ∧ a < b ∧ b < k
  all : ∀ a b : Nat, a < b → b < k → [(a : Int), (b : Int)] ∈ prs
  few : prs.length ≤ 12
theorem PairsAll.pairs {k : Nat} {prs : List (List Int)} (h : PairsAll k prs) : PairsOf k prs := ⟨fun pr hp => by
  obtain ⟨a, b, e, l1, l2⟩ := h.are pr hp
  exact ⟨a, b, e, by omega, l2⟩, Nat.le_trans h.few (by decide)⟩
theorem PairsAll.rl {k : Nat} {prs : List (List Int)} (h : PairsAll k prs) : Rl prs = LtB k := funext fun a => funext fun b => propext ⟨fun m => by
  obtain ⟨a', b', e, l1, l2⟩ := h.are _ m
  have q1 := (List.cons.inj e).1
  have q2 := (List.cons.inj (List.cons.inj e).2).1
  exact ⟨by omega, by omega⟩, fun l => h.all a b l.1 l.2⟩
def spPairs (K : PySem.W.Frag) : Sp := fun vs H Q _ => ∃ k : Nat, vs = [.int (k : Nat)] ∧ k ≤ 4 ∧ ∀ l H' ps prs, Same H H' → H l = none → H' l = some (.lst ps) → RowsBy (SqT K H') ps prs → PairsAll k prs → Q (.ref l) H'
section
variable {P : Program} {w : World} {K : PySem.W.Frag} {mg : Str → Option Value} {base : Heap} {f : Addr} {fd : FuncData} {a : Ad} {C CM : Addr}
theorem sc_pairs : FnScope ["deeds", "one", "other"] ["deeds"] (defScope s_deed_pairs) := ⟨rfl, rfl, rfl, by decide +kernel, rfl, by decide +kernel, by decide +kernel⟩
theorem ok_pairs (F : FnP K "deed_pairs" s_deed_pairs f fd) (T : Mg mg) : FnOk P w K mg base CX0 1 f fd ["deeds"] (spPairs K) := by
  refine F.ok sc_pairs (fun vs H Q E h => ?_) (fun cdv A outer s H vs Q E hr h => ?_)
  · obtain ⟨k, rfl, _⟩ := h
    rfl
  · obtain ⟨k, rfl, k4, q⟩ := h
    refine ⟨_, PSs.nox (pss_one (ps_ret (pe_lc2 (own := [("one", 1), ("other", 2)]) (vs1 := [2]) (by rfl) sc_pairs.nd (pi_range1 (by rfl) T.z_range (pa_cons (pv 0) pa_nil)) (blkOk_by (own := [("one", 1), ("other", 2)]) (N := ["deeds", "one", "other"]) (sc := defScope s_deed_pairs) (by decide +kernel)) (by decide)
      (fun _ _ _ _ _ => (pg_name (i := 1) sc_pairs.nd rfl (by first | exact Or.inl rfl | exact Or.inr rfl))) (fun _ _ _ _ _ => pts_nil)
      (fun _ _ _ _ _ => pi_range2 (by rfl) T.z_range (pa_cons (pe_op op_add (pv 1) pe_int) (pa_cons (pv 0) pa_nil)))
      (fun _ _ _ _ _ => (pg_name (i := 2) sc_pairs.nd rfl (by first | exact Or.inl rfl | exact Or.inr rfl))) (fun _ _ _ _ _ => pts_nil)
      (fun _ _ _ _ _ => pe_tup (pa_cons (pv 1) (pa_cons (pv 2) pa_nil)))))), ?_⟩
    refine ⟨_, rfl, k, rfl, by omega, by omega, fun D0 hD => ?_⟩
    let Pw : Nat → Nat → Hp → Prop := fun i j H' => ∃ ps prs, Same H H' ∧ H' D0 = some (.lst ps) ∧ RowsBy (SqT K H') ps prs ∧ (∀ pr ∈ prs, ∃ a b : Nat, pr = [(a : Int), (b : Int)] ∧ a < b ∧ b < k) ∧ (∀ a b : Nat, a < b → b < k → (a < i ∨ a = i ∧ b < i + 1 + j) → [(a : Int), (b : Int)] ∈ prs) ∧ prs.length ≤ i * 3 + j
    refine turns (n := k) (fun i H' => Pw i 0 H') ⟨[], [], same_new hD, upd_same, trivial, fun _ h => (nomatch h), fun a b ab bk h => by omega, by simp⟩ ?_ ?_
    · intro i H2 hi p2
      refine ⟨hi, ?_⟩
      rintro v H3 ⟨rfl, rfl⟩
      have i0 : (0 : Int) + (i : Int) = (i : Int) := Int.zero_add _
      rw [i0]
      refine ⟨rfl, yes ((if_pos rfl).mpr ?_)⟩
      refine ⟨_, rfl, _, _, rfl, rfl, _, rfl, _, _, rfl, ⟨by omega, by omega, by omega, by omega⟩, ?_⟩
      rw [show (((k : Nat) : Int) - ((i : Int) + 1)).toNat = k - (i + 1) by omega]
      refine turns (n := k - (i + 1)) (fun j H' => Pw i j H') p2 ?_ ?_
      · rintro j H4 hj ⟨ps, prs, e4, h4, rows, are, all, few⟩
        refine ⟨hj, ?_⟩
        rintro v H5 ⟨rfl, rfl⟩
        refine ⟨rfl, yes ((if_pos rfl).mpr ?_)⟩
        refine ⟨_, rfl, _, rfl, (by show 2 ≤ sizeLine; decide), fun t ht => ?_⟩
        have ev : (i : Int) + 1 + (j : Int) = ((i + 1 + j : Nat) : Int) := by omega
        rw [ev]
        have e5 := same_new (o := HO.tup [V.int (i : Nat), V.int ((i + 1 + j : Nat) : Int)]) ht
        have u5 : SqT K (upd H5 t (HO.tup [V.int (i : Nat), V.int ((i + 1 + j : Nat) : Int)])) t ([((i : Nat) : Int), ((i + 1 + j : Nat) : Int)].map V.int) := SqT.of upd_same
        generalize upd H5 t (HO.tup [V.int (i : Nat), V.int ((i + 1 + j : Nat) : Int)]) = H6 at *
        have lp := rows.length
        have nD : H D0 = none := hD
        have up : ∀ {p : Addr} {xs : List V}, SqT K H6 p xs → SqT K (upd H6 D0 (.lst (ps ++ [.ref t]))) p xs := fun h => sqT_lst (e5 _ _ h4) h
        refine ⟨ps, e5 _ _ h4, by rw [sizeLine_eq]; omega, ps ++ [.ref t], prs ++ [[((i : Nat) : Int), ((i + 1 + j : Nat) : Int)]], same_put (e4.trans e5) nD, upd_same, RowsBy.snoc (up u5) (rows.imp fun _ _ z => up (sqT_same e5 z)), fun pr hpr => ?_, fun a b ab bk h => ?_, by rw [List.length_append, List.length_singleton]; omega⟩
        · rcases List.mem_append.mp hpr with h | h
          · exact are pr h
          · exact ⟨i, i + 1 + j, List.mem_singleton.mp h, by omega, by omega⟩
        · by_cases h1 : a = i ∧ b = i + 1 + j
          · obtain ⟨rfl, rfl⟩ := h1
            exact List.mem_append_right _ (List.mem_singleton.mpr rfl)
          · exact List.mem_append_left _ (all a b ab bk (by omega))
      · rintro H4 ⟨ps, prs, e4, h4, rows, are, all, few⟩
        refine ⟨Nat.le_refl _, ps, prs, e4, h4, rows, are, fun a b ab bk h => all a b ab bk (by omega), ?_⟩
        omega
    · rintro H2 ⟨ps, prs, e, h2, rows, are, all, few⟩
      exact ⟨Nat.le_refl _, q D0 H2 ps prs e hD h2 rows ⟨are, fun a b ab bk => all a b ab bk (by omega), by omega⟩⟩
end
end K7
/-! machines that exchange -/
namespace K7
open L2 PySem PySem.Spec PyProof.Rows Kx RZ
/-- unlike states that come lead to unlike ones -/
def Exch (ts : List (List Int)) (s : Int) : Prop := ∀ t ∈ ts, ∀ x y, Rch ts s x → Rch ts s y → tx t x = tx t y → x = y
def spForgot (K : PySem.W.Frag) (CM : Addr) : Sp := fun vs H Q _ => ∃ (m : Addr) (n : Nat) (ts : List (List Int)) (s : Int), vs = [.ref m, .int s] ∧ McAt K CM H m n ts ∧ 0 ≤ s ∧ s < (n : Int) ∧ Exch ts s ∧ ∀ H', Same H H' → Q .non H'
def spExch (K : PySem.W.Frag) (CM : Addr) : Sp := fun vs H Q _ => ∃ (m : Addr) (n : Nat) (ts : List (List Int)) (s : Int), vs = [.ref m, .int s] ∧ McAt K CM H m n ts ∧ 0 ≤ s ∧ s < (n : Int) ∧ Exch ts s ∧ ∀ H', Same H H' → Q (.ref m) H'
theorem isBel_yes {n : Nat} {s : Int} (h0 : 0 ≤ s) (h1 : s < (n : Int)) : isBel n (.int s) = true := isBel_iff.mpr ⟨h0, h1⟩
theorem bel_ne {n : Nat} {s : Int} (h0 : 0 ≤ s) (h1 : s < (n : Int)) {p : Prop} (z : isBel n (.int s) = false) : p := by
  rw [isBel_yes h0 h1] at z
  cases z
section
variable {P : Program} {w : World} {K : PySem.W.Frag} {mg : Str → Option Value} {base : Heap} {f : Addr} {fd : FuncData} {a : Ad} {C CM : Addr}
theorem Mok.inr {n : Nat} {ts : List (List Int)} (ok : Mok n ts) {t : List Int} (h : t ∈ ts) : t.length = n ∧ InR t := ⟨ok.len t h, fun y hy => by rw [ok.len t h]; exact ok.ent t h y hy⟩
theorem sc_forgotten : FnScope ["machine", "first", "come", "deed", "table", "one", "other"] ["machine", "first"] (defScope s_forgotten) := ⟨rfl, rfl, rfl, by decide +kernel, rfl, by decide +kernel, by decide +kernel⟩
theorem ok_forgotten (F : FnP K "forgotten" s_forgotten f fd) (T : Mg mg) (TM : ClsM K mg CM) (c_reached : Cal P w K mg base (L2N.CX P w) 6 "reached" ["machine", "first"] (spReached K a CM)) : FnOk P w K mg base (L2N.CX P w) 7 f fd ["machine", "first"] (spForgot K CM) := by
  refine F.ok sc_forgotten (fun vs H Q E h => ?_) (fun cdv A outer s H vs Q E hr h => ?_)
  · obtain ⟨m, n, ts, s, rfl, _⟩ := h
    rfl
  · obtain ⟨m, n, ts, s0, rfl, hm, z0, z1, ex, good⟩ := h
    refine ⟨_, (pss_cons (ps_set (i := 2) sc_forgotten.nd rfl (by first | exact Or.inl rfl | exact Or.inr rfl) (pe_callC c_reached hr (L2N.passes_call (L2N.takes_of rfl rfl rfl rfl) (fun _ _ _ _ z => z)) (pa_cons (pv 0) (pa_cons (pv 1) pa_nil))))
      (PSs.nox (pss_cons (ps_for PassesOwn.never rfl (pi_pairs (by rfl) T.z_enumerate (pa_cons (pe_fld (pv 0) rfl) pa_nil)) (pg_tup rfl (pgs_cons (pg_name (i := 3) sc_forgotten.nd rfl (by first | exact Or.inl rfl | exact Or.inr rfl)) (pgs_cons (pg_name (i := 4) sc_forgotten.nd rfl (by first | exact Or.inl rfl | exact Or.inr rfl)) pgs_nil)))
        (pss_one (ps_for PassesOwn.never rfl (pi_tup (pv 2)) (pg_name (i := 5) sc_forgotten.nd rfl (by first | exact Or.inl rfl | exact Or.inr rfl))
          (pss_one (ps_for PassesOwn.never rfl (pi_tup (pv 2)) (pg_name (i := 6) sc_forgotten.nd rfl (by first | exact Or.inl rfl | exact Or.inr rfl))
            (pss_one (ps_if (PW.pt (pw_and (pt_cmpR op_lt (pv 5) (pv 6) (nomark _)) (pw_and1 (pt_cmpR op_eq (pe_ix ix_tup (pv 4) (pv 5) (fun _ _ => rfl)) (pe_ix ix_tup (pv 4) (pv 6) (fun _ _ => rfl)) (nomark _)))))
              (pss_one (ps_ret (pe_tup (pa_cons (pv 3) (pa_cons (pv 5) (pa_cons (pv 6) pa_nil))))))
              pss_nil)))))))
      (pss_one (ps_ret pe_non))))), ?_⟩
    obtain ⟨ok, dx, t, ps, h1, ht, rows⟩ := id hm
    have lps := rows.length
    refine ⟨_, rfl, _, rfl, m, n, ts, .int s0, rfl, hm, .int s0, fun z => bel_ne z0 z1 z, fun _ => ⟨s0, rfl, fun p L H1 e1 srt mem hp => ?_⟩⟩
    refine ⟨_, rfl, m, CM, dx, _, _, rfl, e1 _ _ h1, TM.cl, TM.n3, rfl, t, ps, rfl, for_pairs (.inr (sqT_same e1 ht)) (fun i σ' H' => Same H H' ∧ Same H1 H' ∧ ∃ x3 x4 x5 x6, σ' = [some (.ref m), some (.int s0), some (.ref p), x3, x4, x5, x6]) ⟨e1, .refl _, _, _, _, _, rfl⟩ (fun i σ' H' q => q.2.1) ?_ ?_⟩
    · rintro i y c σ' H' hy ⟨e, ep, x3, x4, x5, x6, rfl⟩ hc
      have hi : i < ts.length := by rw [← lps]; exact (List.getElem?_eq_some_iff.mp hy).1
      have ti : ts[i]? = some ts[i] := List.getElem?_eq_getElem hi
      have mt := List.getElem_mem hi
      obtain ⟨qa, r1, r2⟩ := rows.at_ ti
      rw [hy] at r1
      cases r1
      obtain ⟨tl, tr⟩ := Mok.inr ok mt
      refine ⟨c, _, rfl, SqT.of upd_same, rfl, ?_⟩
      refine ⟨_, _, rfl, _, _, rfl, rfl, ?_⟩
      have e2 := e.trans (same_new (o := HO.tup [.int (i : Int), .ref qa]) hc)
      have ep2 := ep.trans (same_new (o := HO.tup [.int (i : Int), .ref qa]) hc)
      have hp2 := sqT_same ep2 hp
      have hq2 := sqT_same e2 r2
      generalize upd H' c (.tup [.int (i : Int), .ref qa]) = G at e2 ep2 hp2 hq2 ⊢
      have num : ∀ {k : Nat} {z : V}, (L.map V.int)[k]? = some z → ∃ x, z = .int x ∧ Rch ts s0 x ∧ atI (ts[i].map V.int) x = some (.int (tx ts[i] x)) := fun {k z} hz => by
        rw [List.getElem?_map, Option.map_eq_some_iff] at hz
        obtain ⟨x, h1, h2⟩ := hz
        have rx := (mem x).mp (List.mem_of_getElem? h1)
        obtain ⟨x0, x1⟩ := ok.rch z0 z1 rx
        exact ⟨x, h2.symm, rx, at_int x0 (tr.at_ x0 (by rw [tl]; exact x1)).1⟩
      refine ⟨_, rfl, p, rfl, ⟨_, hp2⟩, for_tup (xs := L.map V.int) (fun j σ2 H2 => G = H2 ∧ ∃ x5 x6, σ2 = [some (.ref m), some (.int s0), some (.ref p), some (.int (i : Int)), some (.ref qa), x5, x6]) ⟨rfl, _, _, rfl⟩ (fun j σ2 H2 _ q => q.1 ▸ hp2) ?_ ?_⟩
      · rintro j z σ2 H2 hz ⟨rfl, x5, x6, rfl⟩
        obtain ⟨x, rfl, rx, ax⟩ := num hz
        refine ⟨_, rfl, p, rfl, ⟨_, hp2⟩, for_tup (xs := L.map V.int) (fun k σ3 H3 => G = H3 ∧ ∃ x6, σ3 = [some (.ref m), some (.int s0), some (.ref p), some (.int (i : Int)), some (.ref qa), some (.int x), x6]) ⟨rfl, _, rfl⟩ (fun j σ2 H2 _ q => q.1 ▸ hp2) ?_ ?_⟩
        · rintro k u σ3 H3 hu ⟨rfl, x6, rfl⟩
          obtain ⟨y, rfl, ry, ay⟩ := num hu
          refine ⟨_, rfl, _, rfl, _, _, rfl, rfl, _, rfl, ite2 (fun lt => ?_) (fun _ => ⟨rfl, _, rfl⟩)⟩
          refine ⟨_, rfl, _, rfl, qa, _, _, _, rfl, rfl, hq2, ax, _, rfl, _, rfl, qa, _, _, _, rfl, rfl, hq2, ay, rfl, _, rfl, ite2 (fun z => ?_) (fun _ => ⟨rfl, _, rfl⟩)⟩
          exfalso
          have exy : tx ts[i] x = tx ts[i] y := by simpa using z
          have := ex _ mt x y rx ry exy
          have lt := of_decide_eq_true lt
          omega
        · rintro σ3 H3 ⟨rfl, x6, rfl⟩
          exact ⟨rfl, _, _, rfl⟩
      · rintro σ2 H2 ⟨rfl, x5, x6, rfl⟩
        exact ⟨e2, ep2, _, _, _, _, rfl⟩
    · rintro σ' H' ⟨e, ep, x3, x4, x5, x6, rfl⟩
      exact good H' e
theorem sc_exch : FnScope ["machine", "first", "found", "deed", "one", "other"] ["machine", "first"] (defScope s_need_exchanges) := ⟨rfl, rfl, rfl, by decide +kernel, rfl, by decide +kernel, by decide +kernel⟩
theorem ok_exch (F : FnP K "need_exchanges" s_need_exchanges f fd) (T : Mg mg) (R : Er P w K mg base a) (c_forgotten : Cal P w K mg base (L2N.CX P w) 7 "forgotten" ["machine", "first"] (spForgot K CM)) : FnOk P w K mg base (L2N.CX P w) 8 f fd ["machine", "first"] (spExch K CM) := by
  refine F.ok sc_exch (fun vs H Q E h => ?_) (fun cdv A outer s H vs Q E hr h => ?_)
  · obtain ⟨m, n, ts, s, rfl, _⟩ := h
    rfl
  · obtain ⟨m, n, ts, s0, rfl, hm, z0, z1, ex, good⟩ := h
    refine ⟨_, (pss_cons (ps_set (i := 2) sc_exch.nd rfl (by first | exact Or.inl rfl | exact Or.inr rfl) (pe_callC c_forgotten hr (L2N.passes_call (E := E) (L2N.takes_of rfl rfl rfl rfl) (fun _ _ _ _ z => z)) (pa_cons (pv 0) (pa_cons (pv 1) pa_nil))))
      (pss_cons (ps_if (pt_cmpR op_notN (pv 2) pe_non (nomark _))
        (pss_cons (ps_asg (pv 2) (pg_tup rfl (pgs_cons (pg_name (i := 3) sc_exch.nd rfl (by first | exact Or.inl rfl | exact Or.inr rfl)) (pgs_cons (pg_name (i := 4) sc_exch.nd rfl (by first | exact Or.inl rfl | exact Or.inr rfl)) (pgs_cons (pg_name (i := 5) sc_exch.nd rfl (by first | exact Or.inl rfl | exact Or.inr rfl)) pgs_nil)))))
        (pss_one (psF R.Forgets rfl hr (L2N.takes_of rfl rfl rfl rfl) (pa_cons (pv 3) (pa_cons (pv 4) (pa_cons (pv 5) pa_nil))))))
        pss_nil)
      (pss_one (ps_ret (pv 0))))), ?_⟩
    refine ⟨_, rfl, _, rfl, m, n, ts, s0, rfl, hm, z0, z1, ex, fun H1 e1 => ?_⟩
    exact ⟨_, rfl, rfl, false, rfl, iteF ⟨_, rfl, good H1 e1⟩⟩
end
end K7
/-! dicts of numbers by numbers -/
namespace K7
open L2 PySem PySem.Spec PyProof.Rows Kx RZ
def dict (M : List Int) (g : Int → Int) : List (Key × V) := M.map fun x => (Sum.inl x, V.int (g x))
theorem dict_len {M : List Int} {g : Int → Int} : (dict M g).length = M.length := by unfold dict; rw [List.length_map]
theorem dict_congr {M : List Int} {g g' : Int → Int} (h : ∀ x ∈ M, g x = g' x) : dict M g = dict M g' := List.map_congr_left fun x hx => by rw [h x hx]
theorem valV_dict {g : Int → Int} {y : Int} : ∀ {M : List Int}, valV (dict M g) (.inl y) = if y ∈ M then some (.int (g y)) else none
  | [] => rfl
  | x :: M => by
    show valV ((Sum.inl x, V.int (g x)) :: dict M g) (.inl y) = _
    by_cases h : x = y
    · subst h
      rw [valV_pos (p := ((Sum.inl x : Key), V.int (g x))) rfl, if_pos (List.mem_cons_self ..)]
    · rw [valV_neg (p := ((Sum.inl x : Key), V.int (g x))) (fun z => h (Sum.inl.inj z)), valV_dict]
      by_cases m : y ∈ M
      · rw [if_pos m, if_pos (List.mem_cons_of_mem _ m)]
      · rw [if_neg m, if_neg fun z => (List.mem_cons.mp z).elim (fun e => h e.symm) m]
theorem any_dict {M : List Int} {g : Int → Int} {y : Int} : ((dict M g).any fun kv => decide (kv.1 = Sum.inl y)) = decide (y ∈ M) := by
  rw [valV_any, valV_dict]
  by_cases m : y ∈ M
  · rw [if_pos m, decide_eq_true m]
    rfl
  · rw [if_neg m, decide_eq_false m]
    rfl
theorem putK_old {M : List Int} {g : Int → Int} {y v : Int} (h : y ∈ M) : putK (dict M g) (.inl y) (.int v) = dict M fun x => if x = y then v else g x := by
  unfold putK
  rw [any_dict, decide_eq_true h, if_pos rfl]
  unfold dict
  rw [List.map_map]
  refine List.map_congr_left fun x _ => ?_
  show (if (Sum.inl x : Key) = Sum.inl y then ((Sum.inl x : Key), V.int v) else (Sum.inl x, V.int (g x))) = (Sum.inl x, V.int (if x = y then v else g x))
  by_cases e : x = y
  · rw [if_pos (congrArg _ e), if_pos e]
  · rw [if_neg (fun z => e (Sum.inl.inj z)), if_neg e]
theorem putK_more {M : List Int} {g : Int → Int} {y v : Int} (h : y ∉ M) : putK (dict M g) (.inl y) (.int v) = dict (M ++ [y]) fun x => if x = y then v else g x := by
  rw [putK_new _ (by rw [valV_dict, if_neg h])]
  unfold dict
  rw [List.map_append, List.map_singleton]
  show _ = _ ++ [((Sum.inl y : Key), V.int (if y = y then v else g y))]
  rw [if_pos rfl]
  congr 1
  refine List.map_congr_left fun x hx => ?_
  show _ = ((Sum.inl x : Key), V.int (if x = y then v else g x))
  rw [if_neg (show ¬ x = y from fun z => h (z ▸ hx))]
/-- the same number is put once more, or a new one -/
theorem putK_same {M : List Int} {g : Int → Int} {y : Int} : putK (dict M g) (.inl y) (.int (g y)) = dict (if y ∈ M then M else M ++ [y]) g := by
  by_cases m : y ∈ M
  · rw [if_pos m, putK_old m]
    exact dict_congr fun x _ => by
      by_cases e : x = y
      · rw [if_pos e, e]
      · rw [if_neg e]
  · rw [if_neg m, putK_more m]
    exact dict_congr fun x _ => by
      by_cases e : x = y
      · rw [if_pos e, e]
      · rw [if_neg e]
/-- a loop over enumerate of a list or a tuple that stays -/
theorem for_pairsS {K : PySem.W.Frag} {a : Addr} {xs : List V} {g : TG} {tb : TS} {D : Ends} {σ : L2.St} {H : Hp} (hx : Sq K H a xs) (Pv : Nat → L2.St → Hp → Prop) (h0 : Pv 0 σ H) (sl : SqL K H a xs → ∀ i σ' H', Pv i σ' H' → SqL K H' a xs) (st : SqT K H a xs → ∀ i σ' H', Pv i σ' H' → SqT K H' a xs)
    (turn : ∀ (i : Nat) (x : V) (p : Addr) σ' H', xs[i]? = some x → Pv i σ' H' → H' p = none → g (.ref p) σ' (upd H' p (.tup [.int (i : Int), x])) fun σ2 H2 => tb { D with nx := Pv (i + 1), ct := Pv (i + 1), bk := D.nx } σ2 H2)
    (fin : ∀ σ' H', Pv xs.length σ' H' → D.nx σ' H') : (SqL K H a xs ∧ forR g tb D σ (Ite K a) H) ∨ (SqT K H a xs ∧ forR g tb D σ (ItPair K a) H) := by
  refine hx.imp (fun q => ⟨q, for_by (n := xs.length) Pv h0 ?_ ?_⟩) fun q => ⟨q, for_by (n := xs.length) Pv h0 ?_ ?_⟩
  · intro i σ' H' lt pv
    have q' := sl q i σ' H' pv
    refine ⟨⟨xs, xs[i], q', List.getElem?_eq_getElem lt⟩, ?_⟩
    rintro v H2 ⟨pr, x, rfl, hn, rfl, hx⟩
    exact turn i x pr σ' H' (hx xs q') pv hn
  · exact fun σ' H' pv => ⟨⟨xs, sl q _ σ' H' pv, Nat.le_refl _⟩, fin σ' H' pv⟩
  · intro i σ' H' lt pv
    have q' := st q i σ' H' pv
    refine ⟨⟨xs, xs[i], q', List.getElem?_eq_getElem lt⟩, ?_⟩
    rintro v H2 ⟨pr, x, rfl, hn, rfl, hx⟩
    exact turn i x pr σ' H' (hx xs q') pv hn
  · exact fun σ' H' pv => ⟨⟨xs, st q _ σ' H' pv, Nat.le_refl _⟩, fin σ' H' pv⟩
theorem for_pairsT {K : PySem.W.Frag} {a : Addr} {xs : List V} {g : TG} {tb : TS} {D : Ends} {σ : L2.St} {H : Hp} (q : SqT K H a xs) (Pv : Nat → L2.St → Hp → Prop) (h0 : Pv 0 σ H) (st : ∀ i σ' H', Pv i σ' H' → SqT K H' a xs)
    (turn : ∀ (i : Nat) (x : V) (p : Addr) σ' H', xs[i]? = some x → Pv i σ' H' → H' p = none → g (.ref p) σ' (upd H' p (.tup [.int (i : Int), x])) fun σ2 H2 => tb { D with nx := Pv (i + 1), ct := Pv (i + 1), bk := D.nx } σ2 H2)
    (fin : ∀ σ' H', Pv xs.length σ' H' → D.nx σ' H') : SqT K H a xs ∧ forR g tb D σ (ItPair K a) H := by
  refine ⟨q, for_by (n := xs.length) Pv h0 ?_ ?_⟩
  · intro i σ' H' lt pv
    have q' := st i σ' H' pv
    refine ⟨⟨xs, xs[i], q', List.getElem?_eq_getElem lt⟩, ?_⟩
    rintro v H2 ⟨pr, x, rfl, hn, rfl, hx⟩
    exact turn i x pr σ' H' (hx xs q') pv hn
  · exact fun σ' H' pv => ⟨⟨xs, st _ σ' H' pv, Nat.le_refl _⟩, fin σ' H' pv⟩
end K7
/-! where all places are moved -/
namespace K7
open L2 PySem PySem.Spec PyProof.Rows Kx RZ
def spAllMoved (K : PySem.W.Frag) : Sp := fun vs H Q _ => ∃ (q p : Addr) (t L : List Int) (m n : Nat), vs = [.ref q, .ref p, .int (m : Nat)] ∧ SqT K H q (t.map V.int) ∧ SqT K H p (L.map V.int) ∧ Wrl n [t] L ∧
  ∀ l H' ps prs, Same H H' → H l = none → H' l = some (.lst ps) → RowsBy (SqT K H') ps prs → (∀ pr ∈ prs, ∃ x ∈ L, pr = [x, it t m x]) → (∀ x ∈ L, [x, it t m x] ∈ prs) → prs.length ≤ 8 → Q (.ref l) H'
section
variable {P : Program} {w : World} {K : PySem.W.Frag} {mg : Str → Option Value} {base : Heap} {f : Addr} {fd : FuncData} {a : Ad} {C CM : Addr}
theorem paired_rows {H' : Hp} {g : Int → Int} : ∀ {ts : List Addr} {M : List Int}, Paired (fun (t : Addr) (q : Key × V) => H' t = some (.tup [kV q.1, q.2])) ts (dict M g) → RowsBy (SqT K H') (ts.map V.ref) (M.map fun x => [x, g x])
  | [], [], _ => trivial
  | t :: ts, x :: M, h => by
    cases h with
    | cons h1 h2 => exact ⟨⟨t, rfl, SqT.of h1⟩, paired_rows h2⟩
  | [], _ :: _, h => nomatch h
  | _ :: _, [], h => nomatch h
theorem r1 {k : Nat} {X : Cx} (r : Room k X.A) : X.A.units + 1 < cLine := by have := r.un; omega
theorem sc_all_moved : FnScope ["table", "places", "many", "later", "place", "found", "at", "one"] ["table", "places", "many"] (defScope s_all_moved) := ⟨rfl, rfl, rfl, by decide +kernel, rfl, by decide +kernel, by decide +kernel⟩
theorem ok_all_moved (F : FnP K "_all_moved" s_all_moved f fd) (T : Mg mg) (c_circle : Cal P w K mg base CX0 1 "circle" ["table", "place"] (spCircle K)) : FnOk P w K mg base CX0 2 f fd ["table", "places", "many"] (spAllMoved K) := by
  refine F.ok sc_all_moved (fun vs H Q E h => ?_) (fun cdv A outer s H vs Q E hr h => ?_)
  · obtain ⟨q, p, t, L, m, n, rfl, _⟩ := h
    rfl
  · obtain ⟨q, p, t, L, m, n, rfl, hq, hp, wl, k⟩ := h
    refine ⟨_, PSs.nox (pss_cons (ps_set (i := 3) sc_all_moved.nd rfl (by first | exact Or.inl rfl | exact Or.inr rfl) pe_dnewK)
      (pss_cons (ps_for PassesOwn.never rfl (pi_tup (pv 1)) (pg_name (i := 4) sc_all_moved.nd rfl (by first | exact Or.inl rfl | exact Or.inr rfl))
        (pss_one (ps_if (pt_cmp (pc_dnotin (r1 hr) (pv 4) (pv 3)))
          (pss_cons (ps_set (i := 5) sc_all_moved.nd rfl (by first | exact Or.inl rfl | exact Or.inr rfl) (pe_callC c_circle hr pass0 (pa_cons (pv 0) (pa_cons (pv 4) pa_nil))))
          (pss_one (ps_for PassesOwn.never rfl (pi_pairs (by rfl) T.z_enumerate (pa_cons (pv 5) pa_nil)) (pg_tup rfl (pgs_cons (pg_name (i := 6) sc_all_moved.nd rfl (by first | exact Or.inl rfl | exact Or.inr rfl)) (pgs_cons (pg_name (i := 7) sc_all_moved.nd rfl (by first | exact Or.inl rfl | exact Or.inr rfl)) pgs_nil)))
            (pss_one (ps_dput (r1 hr) (pv 3) (pv 7) (pe_ix ix_list (pv 5) (pe_op op_mod (pe_op op_add (pv 6) (pv 2)) (pe_callB call_len_seq (by rfl) T.z_len PySem.boot_len (pa_cons (pv 5) pa_nil))) (fun _ _ => rfl)) rfl)))))
          pss_nil)))
      (pss_one (ps_ret (LiI.pe_listItems (by rfl) (pv 3) (by rfl) T.z_list bt_list))))), ?_⟩
    obtain ⟨tl, tr, te⟩ := wl.tab t (List.mem_singleton.mpr rfl)
    have few := wl.few
    have n8 := wl.n8
    refine fun D0 hD => ?_
    let g : Int → Int := it t m
    have up : ∀ {H1 H2 : Hp} {o : HO}, Same H H1 → H D0 = none → (H2 = upd H1 D0 o) → Same H H2 := fun e n z => by rw [z]; exact same_put e n
    refine ⟨_, rfl, p, rfl, ⟨_, sqT_same (same_new hD) hp⟩, ?_⟩
    refine for_tup (xs := L.map V.int) (fun i σ' H' => ∃ (M : List Int) (x4 x5 x6 x7 : Option V), σ' = [some (.ref q), some (.ref p), some (.int (m : Nat)), some (.ref D0), x4, x5, x6, x7] ∧ Same H H' ∧ H' D0 = some (.dK (dict M g)) ∧ M.Nodup ∧ (∀ x ∈ M, x ∈ L) ∧ ∀ x ∈ L.take i, x ∈ M) ⟨[], _, _, _, _, rfl, same_new hD, upd_same, .nil, (fun _ h => nomatch h), (fun _ h => nomatch h)⟩ (fun i σ' H' _ z => by
      obtain ⟨_, _, _, _, _, _, e, _⟩ := z
      exact sqT_same e hp) ?_ ?_
    · rintro i y σ' H' hy ⟨M, x4, x5, x6, x7, rfl, e, hM, nd, sub, all⟩
      obtain ⟨x, hx, rfl⟩ : ∃ x, L[i]? = some x ∧ y = .int x := by
        rw [List.getElem?_map, Option.map_eq_some_iff] at hy
        obtain ⟨z, h1, h2⟩ := hy
        exact ⟨z, h1, h2.symm⟩
      have xL := List.mem_of_getElem? hx
      have tk : L.take (i + 1) = L.take i ++ [x] := by rw [List.take_add_one, hx]; rfl
      obtain ⟨c, c8, cL, per⟩ := wl.per (List.mem_singleton.mpr rfl) xL
      obtain ⟨x0, x1⟩ := wl.rng x xL
      refine ⟨_, rfl, _, rfl, D0, _, rfl, DGet.k (k := .inl x) hM, ?_⟩
      rw [valV_dict]
      by_cases m0 : x ∈ M
      · rw [if_pos m0]
        refine ⟨_, rfl, iteF ⟨M, _, _, _, _, rfl, e, hM, nd, sub, fun z hz => ?_⟩⟩
        rw [tk] at hz
        rcases List.mem_append.mp hz with h | h
        · exact all z h
        · rw [List.mem_singleton.mp h]; exact m0
      · rw [if_neg m0]
        refine ⟨_, rfl, iteT ?_⟩
        refine ⟨_, rfl, _, rfl, q, t, x, c, rfl, sqT_same e hq, tr, x0, by rw [tl]; exact x1, per, c8, fun l H1 e1 nl hl => ?_⟩
        have lD : l ≠ D0 := fun z => by rw [z, hM] at nl; cases nl
        refine ⟨_, rfl, l, (orb t x c).map V.int, rfl, ?_⟩
        refine for_pairsS (xs := (orb t x c).map V.int) (.inl (SqL.of hl)) (fun j σ2 H2 => ∃ (M2 : List Int) (x6 x7 : Option V), σ2 = [some (.ref q), some (.ref p), some (.int (m : Nat)), some (.ref D0), some (.int x), some (.ref l), x6, x7] ∧ Same H H2 ∧ H2 D0 = some (.dK (dict M2 g)) ∧ H2 l = some (.lst ((orb t x c).map V.int)) ∧ M2.Nodup ∧ (∀ x ∈ M2, x ∈ L) ∧ (∀ x ∈ M, x ∈ M2) ∧ ∀ k, k < j → it t k x ∈ M2) ⟨M, _, _, rfl, e.trans e1, e1 _ _ hM, hl, nd, sub, fun _ h => h, fun _ h => absurd h (Nat.not_lt_zero _)⟩
          (fun _ j σ2 H2 z => by obtain ⟨_, _, _, _, _, _, h, _⟩ := z; exact SqL.of h) (fun h j σ2 H2 _ => by
            rcases h with (h | ⟨o, h⟩) | h
            · rw [hl] at h; cases h
            · rw [hl] at h; cases h
            · exact .inr h) ?_ ?_
        · rintro j y p2 σ2 H2 hy ⟨M2, x6, x7, rfl, e2, hM2, hl2, nd2, sub2, old2, all2⟩ hp2
          have hj : j < c := by
            have := (List.getElem?_eq_some_iff.mp hy).1
            rwa [List.length_map, orb_len] at this
          obtain rfl : y = .int (it t j x) := by
            rw [List.getElem?_map, orb_at hj] at hy
            exact (Option.some.inj hy).symm
          refine ⟨p2, _, rfl, SqT.of upd_same, rfl, ?_⟩
          refine ⟨_, _, rfl, _, _, rfl, rfl, ?_⟩
          have e3 := same_new (o := HO.tup [V.int (j : Nat), V.int (it t j x)]) hp2
          have e23 := e2.trans e3
          have hM3 := e3 _ _ hM2
          have hl3 := e3 _ _ hl2
          generalize upd H2 p2 (HO.tup [V.int (j : Nat), V.int (it t j x)]) = H3 at *
          have em : (((j : Nat) : Int) + ((m : Nat) : Int)) % ((c : Nat) : Int) = (((j + m) % c : Nat) : Int) := rfl
          refine ⟨_, rfl, _, rfl, _, rfl, _, _, rfl, rfl, _, rfl, l, _, rfl, .inl (SqL.of hl3), ?_⟩
          rw [List.length_map, orb_len]
          refine ⟨_, _, rfl, rfl, (by have := per.c1; show (0 : Int) < ((c : Nat) : Int); omega), l, _, _, _, rfl, rfl, SqL.of hl3, atI_nat (j := (j + m) % c) (by rw [List.getElem?_map, orb_at (Nat.mod_lt _ (by omega))]; rfl), ?_⟩
          rw [← it_mod per.back, it_add]
          have yL : it t j x ∈ L := te.it_in xL j
          have lM : M2.length ≤ 8 := by
            have := nodup_le nd2 sub2
            omega
          refine ⟨_, rfl, _, rfl, D0, _, rfl, DPut.k (k := .inl (it t j x)) hM3 (by rw [dict_len, sizeLine_eq]; omega), ?_⟩
          rw [show putK (dict M2 g) (.inl (it t j x)) (.int (it t m (it t j x))) = _ from putK_same (g := g)]
          refine ⟨if it t j x ∈ M2 then M2 else M2 ++ [it t j x], _, _, rfl, same_put e23 hD, upd_same, by rw [upd_ne lD]; exact hl3, ?_, fun z hz => ?_, fun z hz => ?_, fun k' hk => ?_⟩
          · split
            · exact nd2
            · rename_i no
              exact List.nodup_append.mpr ⟨nd2, by simp, fun a ha b hb e => no (by rw [← List.mem_singleton.mp hb, ← e]; exact ha)⟩
          · split at hz
            · exact sub2 z hz
            · rcases List.mem_append.mp hz with h | h
              · exact sub2 z h
              · rw [List.mem_singleton.mp h]; exact yL
          · have := old2 z hz
            split
            · exact this
            · exact List.mem_append_left _ this
          · by_cases kj : k' = j
            · rw [kj]
              split
              · assumption
              · exact List.mem_append_right _ (List.mem_singleton.mpr rfl)
            · have := all2 k' (by omega)
              split
              · exact this
              · exact List.mem_append_left _ this
        · rintro σ2 H2 ⟨M2, x6, x7, rfl, e2, hM2, hl2, nd2, sub2, old2, all2⟩
          rw [List.length_map, orb_len] at all2
          refine ⟨M2, _, _, _, _, rfl, e2, hM2, nd2, sub2, fun z hz => ?_⟩
          rw [tk] at hz
          rcases List.mem_append.mp hz with h | h
          · exact old2 z (all z h)
          · rw [List.mem_singleton.mp h]
            exact all2 0 per.c1
    · rintro σ' H' ⟨M, x4, x5, x6, x7, rfl, e, hM, nd, sub, all⟩
      rw [List.length_map, List.take_length] at all
      refine ⟨_, rfl, D0, _, rfl, hM, fun H2 p2 ts e2 n2 n3 n4 h2 pr => ?_⟩
      have lM : M.length ≤ 8 := by
        have := nodup_le nd sub
        omega
      refine k p2 H2 (ts.map V.ref) (M.map fun x => [x, it t m x]) (e.trans e2) ?_ h2 (paired_rows pr) (fun pr hpr => ?_) (fun x hx => List.mem_map.mpr ⟨x, all x hx, rfl⟩) (by rw [List.length_map]; exact lM)
      · cases z : H p2 with
        | none => rfl
        | some o => rw [e _ _ z] at n2; cases n2
      · obtain ⟨x, hx, rfl⟩ := List.mem_map.mp hpr
        exact ⟨x, sub x hx, rfl⟩
end
end K7
/-! how long the texts of data are; a word between two statements; parts of lists -/
namespace Kx
open L2 PySem PySem.Spec PyProof.Rows
/-- behind a statement a word of one's own -/
theorem ps_mid {X : Cx} {st : Stmt} {t : TS} (h : PS X st t) : PS X st fun E σ H => ∃ N : L2.St → Hp → Prop, t { E with nx := N } σ H ∧ ∀ σ' H', N σ' H' → E.nx σ' H' := by
  refine ⟨fun pins s σ H E I ⟨N, q, k⟩ => wpAny_mono (h.run pins s σ H { E with nx := N } I q) (fun f s' z => ?_) fun _ _ z => z⟩
  match f, z with
  | .next, ⟨σ', H', J, n⟩ => exact ⟨σ', H', J, k σ' H' n⟩
  | .brk, z => exact z
  | .cont, z => exact z
  | .ret _, z => exact z
theorem ends_nx {E : Ends} {N : L2.St → Hp → Prop} : ({ E with nx := N } : Ends).nx = N := rfl
section
variable {xs : List V} {i : Nat}
theorem cut_to (h : i ≤ xs.length) : cutV xs none (some (i : Int)) = xs.take i := by
  unfold cutV
  rw [HT.sIx_none, HT.sIx_nat, List.drop_zero, Nat.sub_zero, Nat.min_eq_left h]
theorem cut_from (h : i ≤ xs.length) : cutV xs (some (i : Int)) none = xs.drop i := by
  unfold cutV
  rw [HT.sIx_none, HT.sIx_nat, Nat.min_eq_left h]
  exact List.take_of_length_le (by rw [List.length_drop]; exact Nat.le_refl _)
end
/-- d shows, within m levels, as a text of at most L signs -/
structure OkD (m L : Nat) (d : PyData) : Prop where
  sh : d.showable = true
  nd : d.hasDict = false
  deep : d.depth ≤ m
  fit : d.shown.length ≤ L
structure OkA (m L : Nat) (ds : List PyData) : Prop where
  sh : PyData.showableAll ds = true
  nd : PyData.hasDictAll ds = false
  deep : PyData.depthAll ds ≤ m
  fit : piled (PyData.shownAll ds) ≤ L
theorem OkD.mono {m n L M : Nat} {d : PyData} (h : OkD m L d) (h1 : m ≤ n) (h2 : L ≤ M) : OkD n M d := ⟨h.sh, h.nd, Nat.le_trans h.deep h1, Nat.le_trans h.fit h2⟩
theorem OkA.mono {m n L M : Nat} {d : List PyData} (h : OkA m L d) (h1 : m ≤ n) (h2 : L ≤ M) : OkA n M d := ⟨h.sh, h.nd, Nat.le_trans h.deep h1, Nat.le_trans h.fit h2⟩
theorem okD_int {i : Int} (h : i.natAbs < 2 ^ 200) : OkD 0 1921 (.int i) := by
  have lg : i.natAbs.log2 < 1920 := by
    by_cases z : i.natAbs = 0
    · rw [z]
      decide
    · exact (Nat.log2_lt z).mpr (Nat.lt_of_lt_of_le h (Nat.pow_le_pow_right (by decide) (by decide)))
  refine ⟨?_, by simp only [PyData.hasDict], by simp only [PyData.depth]; exact Nat.le_refl _, ?_⟩
  · simp only [PyData.showable]
    exact decide_eq_true lg
  · simp only [PyData.shown]
    exact int_text_len_1921 lg
theorem okD_small {i : Int} (h : -1000000 ≤ i ∧ i ≤ 1000000) : OkD 0 1921 (.int i) := okD_int (Nat.lt_of_lt_of_le (show i.natAbs < 2 ^ 20 by omega) (Nat.pow_le_pow_right (by decide) (by decide)))
theorem okD_non : OkD 0 4 .none := ⟨rfl, by simp only [PyData.hasDict], by simp only [PyData.depth]; exact Nat.le_refl _, by decide +kernel⟩
theorem okD_bl (b : Bool) : OkD 0 5 (.bool b) := ⟨rfl, by simp only [PyData.hasDict], by simp only [PyData.depth]; exact Nat.le_refl _, by cases b <;> decide +kernel⟩
theorem okD_str {z : Str} {L : Nat} (h : (reprText z).length ≤ L) : OkD 0 L (.str z) := ⟨rfl, by simp only [PyData.hasDict], by simp only [PyData.depth]; exact Nat.le_refl _, by simp only [PyData.shown]; exact h⟩
theorem okA_nil {m : Nat} : OkA m 0 [] := ⟨by simp only [PyData.showableAll], by simp only [PyData.hasDictAll], by simp only [PyData.depthAll]; exact Nat.zero_le _, by simp only [PyData.shownAll]; exact Nat.le_refl _⟩
theorem okA_cons {m L M : Nat} {d : PyData} {ds : List PyData} (h : OkD m L d) (k : OkA m M ds) : OkA m (L + 2 + M) (d :: ds) := by
  refine ⟨?_, ?_, ?_, ?_⟩
  · simp only [PyData.showableAll, h.sh, k.sh, Bool.and_self]
  · simp only [PyData.hasDictAll, h.nd, k.nd, Bool.or_self]
  · simp only [PyData.depthAll]
    exact Nat.max_le.mpr ⟨h.deep, k.deep⟩
  · simp only [PyData.shownAll]
    rw [piled_cons]
    have := h.fit
    have := k.fit
    omega
theorem textFrom_most : ∀ (ts : List Str) (k : Nat) (acc : Str), (textFrom k acc ts).length ≤ acc.length + piled ts
  | [], k, acc => Nat.le_refl _
  | t :: r, k, acc => by
    have ih := textFrom_most r (k + 1) (acc ++ (if k > 0 then ", " else "" : String) ++ t)
    rw [strLen_append, strLen_append] at ih
    have e : (((if k > 0 then ", " else "" : String) : Str)).length ≤ 2 := by split <;> decide
    rw [piled_cons]
    change (textFrom (k + 1) _ r).length ≤ _
    omega
theorem okD_list {m L : Nat} {ds : List PyData} (h : OkA m L ds) : OkD (m + 1) (L + 4) (.list ds) := by
  refine ⟨by simp only [PyData.showable]; exact h.sh, by simp only [PyData.hasDict]; exact h.nd, by simp only [PyData.depth]; exact Nat.succ_le_succ h.deep, ?_⟩
  simp only [PyData.shown]
  unfold listText
  have := textFrom_most (PyData.shownAll ds) 0 "["
  have e1 : (("[" : String) : Str).length = 1 := rfl
  have e2 : (("]" : String) : Str).length = 1 := rfl
  have := h.fit
  rw [strLen_append, e2]
  have e3 : (Str.ofString "[").length = 1 := rfl
  omega
theorem okD_tuple {m L : Nat} {ds : List PyData} (h : OkA m L ds) : OkD (m + 1) (L + 4) (.tuple ds) := by
  refine ⟨by simp only [PyData.showable]; exact h.sh, by simp only [PyData.hasDict]; exact h.nd, by simp only [PyData.depth]; exact Nat.succ_le_succ h.deep, ?_⟩
  simp only [PyData.shown]
  unfold tupleText
  have e1 : (("(" : String) : Str).length = 1 := rfl
  have e3 : (((if (PyData.shownAll ds).length == 1 then ",)" else ")" : String) : Str)).length ≤ 2 := by split <;> decide
  have := h.fit
  simp only [strLen_append, e1]
  by_cases z : PyData.shownAll ds = []
  · have e4 : (Str.join ", " (PyData.shownAll ds)).length = 0 := by rw [z]; rfl
    omega
  · have := join_length_add _ z
    omega
theorem okA_ints : ∀ {ns : List Int}, (∀ n ∈ ns, -1000000 ≤ n ∧ n ≤ 1000000) → OkA 0 (1923 * ns.length) (ns.map PyData.int)
  | [], _ => okA_nil
  | n :: ns, h => (okA_cons (okD_small (h n List.mem_cons_self)) (okA_ints fun x hx => h x (List.mem_cons_of_mem _ hx))).mono (Nat.le_refl _) (by rw [List.length_cons]; omega)
theorem okD_nums {ns : List Int} (h : ∀ n ∈ ns, -1000000 ≤ n ∧ n ≤ 1000000) (l : ns.length ≤ 8) : OkD 1 15400 (dNums ns) := (okD_tuple (okA_ints h)).mono (Nat.le_refl _) (by omega)
theorem okA_rows : ∀ {rs : List (List Int)}, (∀ r ∈ rs, r.length ≤ 8 ∧ ∀ n ∈ r, -1000000 ≤ n ∧ n ≤ 1000000) → OkA 1 (15402 * rs.length) (rs.map dNums)
  | [], _ => okA_nil
  | r :: rs, h => (okA_cons (okD_nums (h r List.mem_cons_self).2 (h r List.mem_cons_self).1) (okA_rows fun x hx => h x (List.mem_cons_of_mem _ hx))).mono (Nat.le_refl _) (by rw [List.length_cons]; omega)
theorem okD_rows {rs : List (List Int)} (h : ∀ r ∈ rs, r.length ≤ 8 ∧ ∀ n ∈ r, -1000000 ≤ n ∧ n ≤ 1000000) (l : rs.length ≤ 1000) : OkD 2 15402004 (dRows rs) := (okD_tuple (okA_rows h)).mono (Nat.le_refl _) (by omega)
end Kx
/-! zip of three lists of one length -/
namespace Kx
open L2 PySem PySem.Spec PyProof.Rows
theorem ad {a b : Nat} (h : a ≠ b) : (show Addr from a) ≠ b := h
abbrev Trip (h : Heap) (T : Addr) (a b c : Value) : Prop := h.get? T = some { cls := .type "tuple", data := .seq #[a, b, c] }
/-- the zip that is made at n: three list iterators, their tuple, the handed tuple, the zip -/
structure Z3 (n l1 l2 l3 k : Nat) (f0 : Value) (h : Heap) : Prop where
  z : IsZip h (n + 5) (n + 3) (n + 4) f0
  t : Trip h (n + 3) (.ref n) (.ref (n + 1)) (.ref (n + 2))
  o : ∃ a b c, Trip h (n + 4) a b c
  a1 : h.IsListIter n l1 k
  a2 : h.IsListIter (n + 1) l2 k
  a3 : h.IsListIter (n + 2) l3 k
/-- what is laid elsewhere stays -/
def But3 (n : Nat) (h h' : Heap) : Prop := ∀ c o, c ≠ n → c ≠ n + 1 → c ≠ n + 2 → c ≠ n + 4 → c ≠ n + 5 → h.get? c = some o → h'.get? c = some o
section
variable {prog : Program} {w : World} {A : Around} {E : Value → Shared → Prop} {s : Shared} {n l1 l2 l3 k : Nat} {xs ys zs : Array Value} {x y u : Value}
theorem upd_trip {T : Addr} {a b c v : Value} {j : Nat} {Q : Unit → Shared → Prop} (hT : Trip s.heap T a b c)
    (q : ∀ h', h'.get? T = some { cls := .type "tuple", data := .seq ((#[a, b, c] : Array Value).setIfInBounds j v) } → Heap.SameBut T s.heap h' → Q () { s with heap := h' }) : wpAny (model prog w) A (updateSeq T (·.setIfInBounds j v)) Q E s := by
  refine wpAny_updateSeq hT rfl (q _ ?_ (Heap.SameBut.update ..))
  rw [Heap.get?_update_self _ hT rfl]
  simp [Obj.mapSeq]
theorem zip3_item {Q : Value → Shared → Prop} (Z : Z3 n l1 l2 l3 k .none s.heap) (b1 : l1 < n) (b2 : l2 < n) (b3 : l3 < n) (hl1 : s.heap.IsList l1 xs) (hl2 : s.heap.IsList l2 ys) (hl3 : s.heap.IsList l3 zs) (hx : xs[k]? = some x) (hy : ys[k]? = some y) (hu : zs[k]? = some u)
    (q : ∀ h', Z3 n l1 l2 l3 (k + 1) (rawInt s.heap.objs.size) h' → Trip h' s.heap.objs.size x y u → But3 n s.heap h' → Q (.ref s.heap.objs.size) { s with heap := h' }) :
    wpAny (model prog w) A (Builtin.«zip.__next__» ⟨[.ref (n + 5)], []⟩) (fun fin s' => ∃ v, fin = .done (.ret v) ∧ Q v s') E s := by
  obtain ⟨hz, ht, ⟨a, b, c, ho⟩, h1, h2, h3⟩ := Z
  show wpAny _ _ (field (.ref (n + 5)) 2 >>= _) _ _ _
  refine wpAny_bind (wpAny_field hz rfl (x := Value.bool false) rfl ?_)
  show wpAny _ _ (field (.ref (n + 5)) 3 >>= _) _ _ _
  refine wpAny_bind (wpAny_field hz rfl (x := Value.ref (n + 3)) rfl ?_)
  refine wpAny_bind (wpAny_seqItems ht rfl ?_)
  show wpAny _ _ (Builtin.SmallTypes.ownedTupleIsFree (.ref (n + 5)) >>= _) _ _ _
  refine wpAny_bind ?_
  unfold Builtin.SmallTypes.ownedTupleIsFree
  refine wpAny_bind (wpAny_field hz rfl (x := Value.none) rfl (wpAny_pure ?_))
  simp only [if_true]
  refine wpAny_bind (wpAny_rule ?_)
  refine wpAny_bind (wpAny_field hz rfl (x := Value.ref (n + 4)) rfl ?_)
  refine wpAny_bind (wpAny_setField_rec hz (by simp) fun g1 hz1 d1 => ?_)
  replace hz1 : IsZip g1 (n + 5) (n + 3) (n + 4) .ellipsis := hz1
  refine wpAny_bind ?_
  simp only [List.zipIdx_cons, List.zipIdx_nil, List.forIn_cons, List.forIn_nil]
  -- the first
  refine wpAny_bind (wpAny_bind (wpAny_onRaise ?_))
  show wpAny _ _ (Builtin.SmallTypes.nextOf (.ref n) >>= _) _ _ _
  refine wpAny_bind (wpAny_nextOf_list_item (h1.extBut d1.extBut (ad (by omega))) (hl1.extBut d1.extBut (ad (by omega))) hx fun g2 e2 d2 => wpAny_pure ?_)
  have ho2 : Trip g2 (n + 4) a b c := d2.extBut _ _ (ad (by omega)) (d1.extBut _ _ (ad (by omega)) ho)
  refine wpAny_bind (wpAny_seqItems ho2 rfl ?_)
  refine wpAny_bind (upd_trip ho2 fun g3 ho3 d3 => ?_)
  replace ho3 : Trip g3 (n + 4) x b c := ho3
  refine wpAny_bind (wpAny_letGo (wpAny_pure ?_))
  -- the second
  refine wpAny_bind (wpAny_bind (wpAny_onRaise ?_))
  show wpAny _ _ (Builtin.SmallTypes.nextOf (.ref (n + 1)) >>= _) _ _ _
  refine wpAny_bind (wpAny_nextOf_list_item (((h2.extBut d1.extBut (ad (by omega))).extBut d2.extBut (ad (by omega))).extBut d3.extBut (ad (by omega))) (((hl2.extBut d1.extBut (ad (by omega))).extBut d2.extBut (ad (by omega))).extBut d3.extBut (ad (by omega))) hy fun g4 e4 d4 => wpAny_pure ?_)
  have ho4 : Trip g4 (n + 4) x b c := d4.extBut _ _ (ad (by omega)) ho3
  refine wpAny_bind (wpAny_seqItems ho4 rfl ?_)
  refine wpAny_bind (upd_trip ho4 fun g5 ho5 d5 => ?_)
  replace ho5 : Trip g5 (n + 4) x y c := ho5
  refine wpAny_bind (wpAny_letGo (wpAny_pure ?_))
  -- the third
  refine wpAny_bind (wpAny_bind (wpAny_onRaise ?_))
  show wpAny _ _ (Builtin.SmallTypes.nextOf (.ref (n + 2)) >>= _) _ _ _
  refine wpAny_bind (wpAny_nextOf_list_item (((((h3.extBut d1.extBut (ad (by omega))).extBut d2.extBut (ad (by omega))).extBut d3.extBut (ad (by omega))).extBut d4.extBut (ad (by omega))).extBut d5.extBut (ad (by omega)))
    (((((hl3.extBut d1.extBut (ad (by omega))).extBut d2.extBut (ad (by omega))).extBut d3.extBut (ad (by omega))).extBut d4.extBut (ad (by omega))).extBut d5.extBut (ad (by omega))) hu fun g6 e6 d6 => wpAny_pure ?_)
  have ho6 : Trip g6 (n + 4) x y c := d6.extBut _ _ (ad (by omega)) ho5
  refine wpAny_bind (wpAny_seqItems ho6 rfl ?_)
  refine wpAny_bind (upd_trip ho6 fun g7 ho7 d7 => ?_)
  replace ho7 : Trip g7 (n + 4) x y u := ho7
  refine wpAny_bind (wpAny_letGo (wpAny_pure (wpAny_pure ?_)))
  refine wpAny_bind (wpAny_seqItems ho7 rfl ?_)
  refine wpAny_bind (wpAny_newTuple ?_)
  have sz : g7.objs.size = s.heap.objs.size := by rw [d7.1, d6.1, d5.1, d4.1, d3.1, d2.1, d1.1]
  have keep7 : ∀ c' o', c' ≠ n → c' ≠ n + 1 → c' ≠ n + 2 → c' ≠ n + 4 → c' ≠ n + 5 → s.heap.get? c' = some o' → g7.get? c' = some o' := fun c' o' n0 n1 n2 n4 n5 e =>
    d7.extBut _ _ n4 (d6.extBut _ _ n2 (d5.extBut _ _ n4 (d4.extBut _ _ n1 (d3.extBut _ _ n4 (d2.extBut _ _ n0 (d1.extBut _ _ n5 e))))))
  have hz7 : IsZip g7 (n + 5) (n + 3) (n + 4) .ellipsis := d7.extBut _ _ (ad (by omega)) (d6.extBut _ _ (ad (by omega)) (d5.extBut _ _ (ad (by omega)) (d4.extBut _ _ (ad (by omega)) (d3.extBut _ _ (ad (by omega)) (d2.extBut _ _ (ad (by omega)) hz1)))))
  have i1 : g7.IsListIter n l1 (k + 1) := ((((e2.extBut d3.extBut (ad (by omega))).extBut d4.extBut (ad (by omega))).extBut d5.extBut (ad (by omega))).extBut d6.extBut (ad (by omega))).extBut d7.extBut (ad (by omega))
  have i2 : g7.IsListIter (n + 1) l2 (k + 1) := ((e4.extBut d5.extBut (ad (by omega))).extBut d6.extBut (ad (by omega))).extBut d7.extBut (ad (by omega))
  have i3 : g7.IsListIter (n + 2) l3 (k + 1) := e6.extBut d7.extBut (ad (by omega))
  have zl : n + 5 < g7.objs.size := Heap.lt_size hz7
  show wpAny _ _ (Builtin.SmallTypes.ownedTupleHandOut (.ref (n + 5)) (.ref g7.objs.size) >>= _) _ _ _
  refine wpAny_bind ?_
  unfold Builtin.SmallTypes.ownedTupleHandOut
  have hz8 : IsZip (g7.push { cls := .type "tuple", data := .seq #[x, y, u] }) (n + 5) (n + 3) (n + 4) .ellipsis := Heap.get?_push_of_some _ hz7
  refine wpAny_bind (wpAny_setField_rec hz8 (by simp) fun g9 hz9 d9 => ?_)
  replace hz9 : IsZip g9 (n + 5) (n + 3) (n + 4) (rawInt g7.objs.size) := hz9
  refine wpAny_setField_rec hz9 (by simp) fun gA hzA dA => ?_
  replace hzA : IsZip gA (n + 5) (n + 3) (n + 4) (rawInt g7.objs.size) := hzA
  have up : ∀ c' o', c' ≠ n + 5 → g7.get? c' = some o' → gA.get? c' = some o' := fun c' o' n5 e => dA.extBut _ _ n5 (d9.extBut _ _ n5 (Heap.get?_push_of_some _ e))
  have hT : Trip gA g7.objs.size x y u := dA.extBut _ _ (Nat.ne_of_gt zl) (d9.extBut _ _ (Nat.ne_of_gt zl) (Heap.get?_push_size _ rfl))
  rw [sz] at hzA hT
  refine wpAny_pure ⟨_, rfl, ?_⟩
  show Q (.ref g7.objs.size) _
  rw [sz]
  exact q gA ⟨hzA, up _ _ (ad (by omega)) (keep7 _ _ (ad (by omega)) (ad (by omega)) (ad (by omega)) (ad (by omega)) (ad (by omega)) ht), ⟨_, _, _, up _ _ (ad (by omega)) ho7⟩, i1.at fun o' e => up _ o' (ad (by omega)) e, i2.at fun o' e => up _ o' (ad (by omega)) e, i3.at fun o' e => up _ o' (ad (by omega)) e⟩ hT
    fun c' o' n0 n1 n2 n4 n5 e => up c' o' n5 (keep7 c' o' n0 n1 n2 n4 n5 e)
theorem zip3_end {Q : Fin → Shared → Prop} (hh : A.handled = none) (Z : Z3 n l1 l2 l3 k .none s.heap) (b1 : l1 < n) (hl1 : s.heap.IsList l1 xs) (hx : xs[k]? = none)
    (hE : ∀ h' e, But3 n s.heap h' → (∃ o, h'.get? e = some o ∧ o.cls = .type "StopIteration") → E (.ref e) { s with heap := h' }) :
    wpAny (model prog w) A (Builtin.«zip.__next__» ⟨[.ref (n + 5)], []⟩) Q E s := by
  obtain ⟨hz, ht, ⟨a, b, c, ho⟩, h1, h2, h3⟩ := Z
  show wpAny _ _ (field (.ref (n + 5)) 2 >>= _) _ _ _
  refine wpAny_bind (wpAny_field hz rfl (x := Value.bool false) rfl ?_)
  show wpAny _ _ (field (.ref (n + 5)) 3 >>= _) _ _ _
  refine wpAny_bind (wpAny_field hz rfl (x := Value.ref (n + 3)) rfl ?_)
  refine wpAny_bind (wpAny_seqItems ht rfl ?_)
  show wpAny _ _ (Builtin.SmallTypes.ownedTupleIsFree (.ref (n + 5)) >>= _) _ _ _
  refine wpAny_bind ?_
  unfold Builtin.SmallTypes.ownedTupleIsFree
  refine wpAny_bind (wpAny_field hz rfl (x := Value.none) rfl (wpAny_pure ?_))
  simp only [if_true]
  refine wpAny_bind (wpAny_rule ?_)
  refine wpAny_bind (wpAny_field hz rfl (x := Value.ref (n + 4)) rfl ?_)
  refine wpAny_bind (wpAny_setField_rec hz (by simp) fun g1 hz1 d1 => ?_)
  replace hz1 : IsZip g1 (n + 5) (n + 3) (n + 4) .ellipsis := hz1
  refine wpAny_bind ?_
  simp only [List.zipIdx_cons, List.zipIdx_nil, List.forIn_cons, List.forIn_nil]
  refine wpAny_bind (wpAny_bind (wpAny_onRaise ?_))
  show wpAny _ _ (Builtin.SmallTypes.nextOf (.ref n) >>= _) _ _ _
  refine wpAny_bind (wpAny_nextOf_list_end hh (h1.extBut d1.extBut (ad (by omega))) (hl1.extBut d1.extBut (ad (by omega))) hx fun g2 e d2 he => ?_)
  obtain ⟨oe, hoe, hce⟩ := he
  have hz2 : IsZip g2 (n + 5) (n + 3) (n + 4) .ellipsis := d2 _ _ (ad (by omega)) hz1
  have ez : e ≠ n + 5 := fun z => by
    subst z
    rw [hz2] at hoe
    cases hoe
    simp at hce
  refine wpAny_setField_rec hz2 (by simp) fun g3 _ d3 => hE g3 e (fun c' o' n0 _ _ _ n5 q => d3.extBut _ _ n5 (d2 _ _ n0 (d1.extBut _ _ n5 q))) ⟨oe, d3.extBut _ _ ez hoe, hce⟩
theorem next3_item {Q : Option Value → Shared → Prop} (Z : Z3 n l1 l2 l3 k .none s.heap) (b1 : l1 < n) (b2 : l2 < n) (b3 : l3 < n) (hl1 : s.heap.IsList l1 xs) (hl2 : s.heap.IsList l2 ys) (hl3 : s.heap.IsList l3 zs) (hx : xs[k]? = some x) (hy : ys[k]? = some y) (hu : zs[k]? = some u)
    (q : ∀ h', Z3 n l1 l2 l3 (k + 1) (rawInt s.heap.objs.size) h' → Trip h' s.heap.objs.size x y u → But3 n s.heap h' → Q (some (.ref s.heap.objs.size)) { s with heap := h' }) : wpAny (model prog w) A (pyNext (.ref (n + 5))) Q E s := by
  have hT : s.TypeIs (.ref (n + 5)) "zip" := ⟨_, Z.z, rfl⟩
  unfold pyNext
  exact wpAny_bind (wpAny_attempt (wpAny_callSpecial?_slot (name := Str.ofString "__next__") hT F.slot_zip_next (wpAny_call_entry F.slot_zip_next hT F.entry_zip_next
    (zip3_item Z b1 b2 b3 hl1 hl2 hl3 hx hy hu fun h' c1 c2 c3 => wpAny_pure (q h' c1 c2 c3)) (F.args_zip_next_1 _))))
theorem next3_end {Q : Option Value → Shared → Prop} (hh : A.handled = none) (Z : Z3 n l1 l2 l3 k .none s.heap) (b1 : l1 < n) (hl1 : s.heap.IsList l1 xs) (hx : xs[k]? = none) (q : ∀ h', But3 n s.heap h' → Q none { s with heap := h' }) :
    wpAny (model prog w) A (pyNext (.ref (n + 5))) Q E s := by
  have hT : s.TypeIs (.ref (n + 5)) "zip" := ⟨_, Z.z, rfl⟩
  unfold pyNext
  refine wpAny_bind (wpAny_attempt (wpAny_callSpecial?_slot (name := Str.ofString "__next__") hT F.slot_zip_next (wpAny_call_entry F.slot_zip_next hT F.entry_zip_next (zip3_end hh Z b1 hl1 hx fun h' e hk he => ?_) (F.args_zip_next_1 _))))
  obtain ⟨o, ho, hc⟩ := he
  refine wpAny_bind (wpAny_isInstance (T := "StopIteration") (b := true) ⟨o, ho, hc⟩ isSubtype_stop ?_)
  exact wpAny_pure (q _ hk)
end
/-- how the zip is made -/
abbrev liOf (l : Addr) : Obj := { cls := .type "list_iterator", data := .fields #[.ref l, .int 0 0] }
abbrev m1 (h : Heap) (l1 : Addr) : Heap := h.push (liOf l1)
abbrev m2 (h : Heap) (l1 l2 : Addr) : Heap := (m1 h l1).push (liOf l2)
abbrev m3 (h : Heap) (l1 l2 l3 : Addr) : Heap := (m2 h l1 l2).push (liOf l3)
abbrev m4 (h : Heap) (l1 l2 l3 : Addr) : Heap := (m3 h l1 l2 l3).push { cls := .type "tuple", data := .seq #[.ref h.objs.size, .ref (m1 h l1).objs.size, .ref (m2 h l1 l2).objs.size] }
abbrev m5 (h : Heap) (l1 l2 l3 : Addr) : Heap := (m4 h l1 l2 l3).push { cls := .type "tuple", data := .seq #[.none, .none, .none] }
abbrev m6 (h : Heap) (l1 l2 l3 : Addr) : Heap := (m5 h l1 l2 l3).push { cls := .type "zip", data := .fields #[.none, .bool false, .bool false, .ref (m3 h l1 l2 l3).objs.size, .ref (m4 h l1 l2 l3).objs.size] }
theorem meets_zip3 (l1 l2 l3 : Addr) (xs ys zs : Array Value) :
    Meets (Builtin.«zip.__new__» ⟨[.type "zip", .ref l1, .ref l2, .ref l3], []⟩) (fun _ R s => s.heap.IsList l1 xs ∧ s.heap.IsList l2 ys ∧ s.heap.IsList l3 zs ∧ R (.ok (.ret (.ref (m5 s.heap l1 l2 l3).objs.size))) { s with heap := m6 s.heap l1 l2 l3 }) :=
  .of_wp fun prog w A R s h => by
    obtain ⟨hp, g, d, tk, os⟩ := s
    obtain ⟨q1, q2, q3, h⟩ := h
    have hsub := sub_zip
    have L1 : Heap.IsList (Shared.heap ⟨hp, g, d, tk, os⟩) l1 xs := q1
    have L2 : Heap.IsList (Shared.heap ⟨hp.push (liOf l1), g, d, tk, os⟩) l2 ys := Heap.IsList.push q2 _
    have L3 : Heap.IsList (Shared.heap ⟨(hp.push (liOf l1)).push (liOf l2), g, d, tk, os⟩) l3 zs := Heap.IsList.push (Heap.IsList.push q3 _) _
    wp_walk using wpAny_pyIter_list L1, wpAny_pyIter_list L2, wpAny_pyIter_list L3
    exact ⟨_, rfl, h⟩
theorem typeCall_zip3 (a b c : Value) : checkTypeCall "zip" ⟨[a, b, c], []⟩ = pure () := by kernel_rfl
theorem newCall_zip3 (a b c : Value) : checkBuiltinCall "zip.__new__" ⟨[.type "zip", a, b, c], []⟩ = pure () := by kernel_rfl
theorem args_init4 (a b c d : Value) : argsOk "object.__init__" ⟨[a, b, c, d], []⟩ := by
  unfold argsOk
  rw [signature?_of (id := "object.__init__") (n := ['_', '_', 't', 'i', 'n', 'i', '_', '_']) (o := ['t', 'c', 'e', 'j', 'b', 'o']) (by kernel_rfl) F.owner_object]
  kernel_rfl
section
variable {prog : Program} {w : World} {A : Around} {E : Value → Shared → Prop} {s : Shared}
theorem call_zip3 {l1 l2 l3 : Addr} {xs ys zs : Array Value} {Q : Value → Shared → Prop} (q1 : s.heap.IsList l1 xs) (q2 : s.heap.IsList l2 ys) (q3 : s.heap.IsList l3 zs)
    (q : ∀ h', Z3 s.heap.objs.size l1 l2 l3 0 .none h' → (∀ c o, s.heap.get? c = some o → h'.get? c = some o) → Q (.ref (s.heap.objs.size + 5)) { s with heap := h' }) :
    wpAny (model prog w) A (call (.type "zip") [.ref l1, .ref l2, .ref l3]) Q E s := by
  refine callType_new F.called_zip (by decide) (typeCall_zip3 _ _ _) (newCall_zip3 _ _ _) (fun obj => args_init4 obj _ _ _) F.entry_zip_new (meets_zip3 l1 l2 l3 xs ys zs) ⟨q1, q2, q3, ?_⟩
  have z1 : (m1 s.heap l1).objs.size = s.heap.objs.size + 1 := Heap.size_push ..
  have z2 : (m2 s.heap l1 l2).objs.size = s.heap.objs.size + 2 := by rw [Heap.size_push, z1]
  have z3 : (m3 s.heap l1 l2 l3).objs.size = s.heap.objs.size + 3 := by rw [Heap.size_push, z2]
  have z4 : (m4 s.heap l1 l2 l3).objs.size = s.heap.objs.size + 4 := by rw [Heap.size_push, z3]
  have z5 : (m5 s.heap l1 l2 l3).objs.size = s.heap.objs.size + 5 := by rw [Heap.size_push, z4]
  have p6 : (m6 s.heap l1 l2 l3).get? (m5 s.heap l1 l2 l3).objs.size = some _ := Heap.get?_push_size _ rfl
  have p5 : (m6 s.heap l1 l2 l3).get? (m4 s.heap l1 l2 l3).objs.size = some _ := Heap.get?_push_of_some _ (Heap.get?_push_size _ rfl)
  have p4 : (m6 s.heap l1 l2 l3).get? (m3 s.heap l1 l2 l3).objs.size = some _ := Heap.get?_push_of_some _ (Heap.get?_push_of_some _ (Heap.get?_push_size _ rfl))
  have p3 : (m6 s.heap l1 l2 l3).get? (m2 s.heap l1 l2).objs.size = some _ := Heap.get?_push_of_some _ (Heap.get?_push_of_some _ (Heap.get?_push_of_some _ (Heap.get?_push_size _ rfl)))
  have p2 : (m6 s.heap l1 l2 l3).get? (m1 s.heap l1).objs.size = some _ := Heap.get?_push_of_some _ (Heap.get?_push_of_some _ (Heap.get?_push_of_some _ (Heap.get?_push_of_some _ (Heap.get?_push_size _ rfl))))
  have p1 : (m6 s.heap l1 l2 l3).get? s.heap.objs.size = some _ := Heap.get?_push_of_some _ (Heap.get?_push_of_some _ (Heap.get?_push_of_some _ (Heap.get?_push_of_some _ (Heap.get?_push_of_some _ (Heap.get?_push_size _ rfl)))))
  show _ ∧ _
  rw [z3, z4, z5] at p6
  rw [z1, z2, z3] at p4
  rw [z4] at p5
  rw [z2] at p3
  rw [z1] at p2
  rw [z5]
  exact ⟨⟨_, p6, rfl⟩, q _ ⟨p6, p4, ⟨_, _, _, p5⟩, ⟨_, p1, rfl, rfl⟩, ⟨_, p2, rfl, rfl⟩, ⟨_, p3, rfl, rfl⟩⟩ fun c o e => Heap.get?_push_of_some _ (Heap.get?_push_of_some _ (Heap.get?_push_of_some _ (Heap.get?_push_of_some _ (Heap.get?_push_of_some _ (Heap.get?_push_of_some _ e)))))⟩
end
end Kx
/-! zip of a tuple and a list -/
namespace Kx
open L2 PySem PySem.Spec PyProof.Rows
abbrev Pr2 (h : Heap) (T : Addr) (a b : Value) : Prop := h.get? T = some { cls := .type "tuple", data := .seq #[a, b] }
/-- the zip that is made at n: a tuple's iterator, a list's, their tuple, the handed tuple, the zip -/
structure ZM (n l1 l2 k : Nat) (f0 : Value) (h : Heap) : Prop where
  z : IsZip h (n + 4) (n + 2) (n + 3) f0
  t : Pr2 h (n + 2) (.ref n) (.ref (n + 1))
  o : ∃ a b, Pr2 h (n + 3) a b
  a1 : h.IsTupleIter n l1 k
  a2 : h.IsListIter (n + 1) l2 k
def ButM (n : Nat) (h h' : Heap) : Prop := ∀ c o, c ≠ n → c ≠ n + 1 → c ≠ n + 3 → c ≠ n + 4 → h.get? c = some o → h'.get? c = some o
section
variable {prog : Program} {w : World} {A : Around} {E : Value → Shared → Prop} {s : Shared} {n l1 l2 k : Nat} {xs ys : Array Value} {x y : Value}
theorem upd_pr2 {T : Addr} {a b v : Value} {j : Nat} {Q : Unit → Shared → Prop} (hT : Pr2 s.heap T a b)
    (q : ∀ h', h'.get? T = some { cls := .type "tuple", data := .seq ((#[a, b] : Array Value).setIfInBounds j v) } → Heap.SameBut T s.heap h' → Q () { s with heap := h' }) : wpAny (model prog w) A (updateSeq T (·.setIfInBounds j v)) Q E s := by
  refine wpAny_updateSeq hT rfl (q _ ?_ (Heap.SameBut.update ..))
  rw [Heap.get?_update_self _ hT rfl]
  simp [Obj.mapSeq]
theorem zipM_item {Q : Value → Shared → Prop} (Z : ZM n l1 l2 k .none s.heap) (b1 : l1 < n) (b2 : l2 < n) (hl1 : s.heap.IsTuple l1 xs) (hl2 : s.heap.IsList l2 ys) (hx : xs[k]? = some x) (hy : ys[k]? = some y)
    (q : ∀ h', ZM n l1 l2 (k + 1) (rawInt s.heap.objs.size) h' → Pr2 h' s.heap.objs.size x y → ButM n s.heap h' → Q (.ref s.heap.objs.size) { s with heap := h' }) :
    wpAny (model prog w) A (Builtin.«zip.__next__» ⟨[.ref (n + 4)], []⟩) (fun fin s' => ∃ v, fin = .done (.ret v) ∧ Q v s') E s := by
  obtain ⟨hz, ht, ⟨a, b, ho⟩, h1, h2⟩ := Z
  show wpAny _ _ (field (.ref (n + 4)) 2 >>= _) _ _ _
  refine wpAny_bind (wpAny_field hz rfl (x := Value.bool false) rfl ?_)
  show wpAny _ _ (field (.ref (n + 4)) 3 >>= _) _ _ _
  refine wpAny_bind (wpAny_field hz rfl (x := Value.ref (n + 2)) rfl ?_)
  refine wpAny_bind (wpAny_seqItems ht rfl ?_)
  show wpAny _ _ (Builtin.SmallTypes.ownedTupleIsFree (.ref (n + 4)) >>= _) _ _ _
  refine wpAny_bind ?_
  unfold Builtin.SmallTypes.ownedTupleIsFree
  refine wpAny_bind (wpAny_field hz rfl (x := Value.none) rfl (wpAny_pure ?_))
  simp only [if_true]
  refine wpAny_bind (wpAny_rule ?_)
  refine wpAny_bind (wpAny_field hz rfl (x := Value.ref (n + 3)) rfl ?_)
  refine wpAny_bind (wpAny_setField_rec hz (by simp) fun g1 hz1 d1 => ?_)
  replace hz1 : IsZip g1 (n + 4) (n + 2) (n + 3) .ellipsis := hz1
  refine wpAny_bind ?_
  simp only [List.zipIdx_cons, List.zipIdx_nil, List.forIn_cons, List.forIn_nil]
  refine wpAny_bind (wpAny_bind (wpAny_onRaise ?_))
  show wpAny _ _ (Builtin.SmallTypes.nextOf (.ref n) >>= _) _ _ _
  have t1 : g1.IsTuple l1 xs := hl1.at fun o q => d1.extBut _ _ (ad (by omega)) q
  refine wpAny_bind (RZ.nextOf_tuple_item (h1.at fun o q => d1.extBut _ _ (ad (by omega)) q) t1 hx fun g2 e2 d2 => wpAny_pure ?_)
  have ho2 : Pr2 g2 (n + 3) a b := d2.extBut _ _ (ad (by omega)) (d1.extBut _ _ (ad (by omega)) ho)
  refine wpAny_bind (wpAny_seqItems ho2 rfl ?_)
  refine wpAny_bind (upd_pr2 ho2 fun g3 ho3 d3 => ?_)
  replace ho3 : Pr2 g3 (n + 3) x b := ho3
  refine wpAny_bind (wpAny_letGo (wpAny_pure ?_))
  refine wpAny_bind (wpAny_bind (wpAny_onRaise ?_))
  show wpAny _ _ (Builtin.SmallTypes.nextOf (.ref (n + 1)) >>= _) _ _ _
  refine wpAny_bind (wpAny_nextOf_list_item (((h2.extBut d1.extBut (ad (by omega))).extBut d2.extBut (ad (by omega))).extBut d3.extBut (ad (by omega))) (((hl2.extBut d1.extBut (ad (by omega))).extBut d2.extBut (ad (by omega))).extBut d3.extBut (ad (by omega))) hy fun g4 e4 d4 => wpAny_pure ?_)
  have ho4 : Pr2 g4 (n + 3) x b := d4.extBut _ _ (ad (by omega)) ho3
  refine wpAny_bind (wpAny_seqItems ho4 rfl ?_)
  refine wpAny_bind (upd_pr2 ho4 fun g5 ho5 d5 => ?_)
  replace ho5 : Pr2 g5 (n + 3) x y := ho5
  refine wpAny_bind (wpAny_letGo (wpAny_pure (wpAny_pure ?_)))
  refine wpAny_bind (wpAny_seqItems ho5 rfl ?_)
  refine wpAny_bind (wpAny_newTuple ?_)
  have sz : g5.objs.size = s.heap.objs.size := by rw [d5.1, d4.1, d3.1, d2.1, d1.1]
  have keep5 : ∀ c' o', c' ≠ n → c' ≠ n + 1 → c' ≠ n + 3 → c' ≠ n + 4 → s.heap.get? c' = some o' → g5.get? c' = some o' := fun c' o' n0 n1 n3 n4 e =>
    d5.extBut _ _ n3 (d4.extBut _ _ n1 (d3.extBut _ _ n3 (d2.extBut _ _ n0 (d1.extBut _ _ n4 e))))
  have hz5 : IsZip g5 (n + 4) (n + 2) (n + 3) .ellipsis := d5.extBut _ _ (ad (by omega)) (d4.extBut _ _ (ad (by omega)) (d3.extBut _ _ (ad (by omega)) (d2.extBut _ _ (ad (by omega)) hz1)))
  have i1 : g5.IsTupleIter n l1 (k + 1) := e2.at fun o q => d5.extBut _ _ (ad (by omega)) (d4.extBut _ _ (ad (by omega)) (d3.extBut _ _ (ad (by omega)) q))
  have i2 : g5.IsListIter (n + 1) l2 (k + 1) := e4.extBut d5.extBut (ad (by omega))
  have zl : n + 4 < g5.objs.size := Heap.lt_size hz5
  show wpAny _ _ (Builtin.SmallTypes.ownedTupleHandOut (.ref (n + 4)) (.ref g5.objs.size) >>= _) _ _ _
  refine wpAny_bind ?_
  unfold Builtin.SmallTypes.ownedTupleHandOut
  have hz8 : IsZip (g5.push { cls := .type "tuple", data := .seq #[x, y] }) (n + 4) (n + 2) (n + 3) .ellipsis := Heap.get?_push_of_some _ hz5
  refine wpAny_bind (wpAny_setField_rec hz8 (by simp) fun g9 hz9 d9 => ?_)
  replace hz9 : IsZip g9 (n + 4) (n + 2) (n + 3) (rawInt g5.objs.size) := hz9
  refine wpAny_setField_rec hz9 (by simp) fun gA hzA dA => ?_
  replace hzA : IsZip gA (n + 4) (n + 2) (n + 3) (rawInt g5.objs.size) := hzA
  have up : ∀ c' o', c' ≠ n + 4 → g5.get? c' = some o' → gA.get? c' = some o' := fun c' o' n5 e => dA.extBut _ _ n5 (d9.extBut _ _ n5 (Heap.get?_push_of_some _ e))
  have hT : Pr2 gA g5.objs.size x y := dA.extBut _ _ (Nat.ne_of_gt zl) (d9.extBut _ _ (Nat.ne_of_gt zl) (Heap.get?_push_size _ rfl))
  rw [sz] at hzA hT
  refine wpAny_pure ⟨_, rfl, ?_⟩
  show Q (.ref g5.objs.size) _
  rw [sz]
  exact q gA ⟨hzA, up _ _ (ad (by omega)) (keep5 _ _ (ad (by omega)) (ad (by omega)) (ad (by omega)) (ad (by omega)) ht), ⟨_, _, up _ _ (ad (by omega)) ho5⟩, i1.at fun o' e => up _ o' (ad (by omega)) e, i2.at fun o' e => up _ o' (ad (by omega)) e⟩ hT
    fun c' o' n0 n1 n3 n4 e => up c' o' n4 (keep5 c' o' n0 n1 n3 n4 e)
theorem zipM_end {Q : Fin → Shared → Prop} (hh : A.handled = none) (Z : ZM n l1 l2 k .none s.heap) (b1 : l1 < n) (hl1 : s.heap.IsTuple l1 xs) (hx : xs[k]? = none)
    (hE : ∀ h' e, ButM n s.heap h' → (∃ o, h'.get? e = some o ∧ o.cls = .type "StopIteration") → E (.ref e) { s with heap := h' }) :
    wpAny (model prog w) A (Builtin.«zip.__next__» ⟨[.ref (n + 4)], []⟩) Q E s := by
  obtain ⟨hz, ht, ⟨a, b, ho⟩, h1, h2⟩ := Z
  show wpAny _ _ (field (.ref (n + 4)) 2 >>= _) _ _ _
  refine wpAny_bind (wpAny_field hz rfl (x := Value.bool false) rfl ?_)
  show wpAny _ _ (field (.ref (n + 4)) 3 >>= _) _ _ _
  refine wpAny_bind (wpAny_field hz rfl (x := Value.ref (n + 2)) rfl ?_)
  refine wpAny_bind (wpAny_seqItems ht rfl ?_)
  show wpAny _ _ (Builtin.SmallTypes.ownedTupleIsFree (.ref (n + 4)) >>= _) _ _ _
  refine wpAny_bind ?_
  unfold Builtin.SmallTypes.ownedTupleIsFree
  refine wpAny_bind (wpAny_field hz rfl (x := Value.none) rfl (wpAny_pure ?_))
  simp only [if_true]
  refine wpAny_bind (wpAny_rule ?_)
  refine wpAny_bind (wpAny_field hz rfl (x := Value.ref (n + 3)) rfl ?_)
  refine wpAny_bind (wpAny_setField_rec hz (by simp) fun g1 hz1 d1 => ?_)
  replace hz1 : IsZip g1 (n + 4) (n + 2) (n + 3) .ellipsis := hz1
  refine wpAny_bind ?_
  simp only [List.zipIdx_cons, List.zipIdx_nil, List.forIn_cons, List.forIn_nil]
  refine wpAny_bind (wpAny_bind (wpAny_onRaise ?_))
  show wpAny _ _ (Builtin.SmallTypes.nextOf (.ref n) >>= _) _ _ _
  have t1 : g1.IsTuple l1 xs := hl1.at fun o q => d1.extBut _ _ (ad (by omega)) q
  refine wpAny_bind (RZ.nextOf_tuple_end hh (h1.at fun o q => d1.extBut _ _ (ad (by omega)) q) t1 hx fun g2 e d2 he => ?_)
  obtain ⟨oe, hoe, hce⟩ := he
  have hz2 : IsZip g2 (n + 4) (n + 2) (n + 3) .ellipsis := d2 _ _ (ad (by omega)) hz1
  have ez : e ≠ n + 4 := fun z => by
    subst z
    rw [hz2] at hoe
    cases hoe
    simp at hce
  refine wpAny_setField_rec hz2 (by simp) fun g3 _ d3 => hE g3 e (fun c' o' n0 _ _ n4 q => d3.extBut _ _ n4 (d2 _ _ n0 (d1.extBut _ _ n4 q))) ⟨oe, d3.extBut _ _ ez hoe, hce⟩
theorem nextM_item {Q : Option Value → Shared → Prop} (Z : ZM n l1 l2 k .none s.heap) (b1 : l1 < n) (b2 : l2 < n) (hl1 : s.heap.IsTuple l1 xs) (hl2 : s.heap.IsList l2 ys) (hx : xs[k]? = some x) (hy : ys[k]? = some y)
    (q : ∀ h', ZM n l1 l2 (k + 1) (rawInt s.heap.objs.size) h' → Pr2 h' s.heap.objs.size x y → ButM n s.heap h' → Q (some (.ref s.heap.objs.size)) { s with heap := h' }) : wpAny (model prog w) A (pyNext (.ref (n + 4))) Q E s := by
  have hT : s.TypeIs (.ref (n + 4)) "zip" := ⟨_, Z.z, rfl⟩
  unfold pyNext
  exact wpAny_bind (wpAny_attempt (wpAny_callSpecial?_slot (name := Str.ofString "__next__") hT F.slot_zip_next (wpAny_call_entry F.slot_zip_next hT F.entry_zip_next
    (zipM_item Z b1 b2 hl1 hl2 hx hy fun h' c1 c2 c3 => wpAny_pure (q h' c1 c2 c3)) (F.args_zip_next_1 _))))
theorem nextM_end {Q : Option Value → Shared → Prop} (hh : A.handled = none) (Z : ZM n l1 l2 k .none s.heap) (b1 : l1 < n) (hl1 : s.heap.IsTuple l1 xs) (hx : xs[k]? = none) (q : ∀ h', ButM n s.heap h' → Q none { s with heap := h' }) :
    wpAny (model prog w) A (pyNext (.ref (n + 4))) Q E s := by
  have hT : s.TypeIs (.ref (n + 4)) "zip" := ⟨_, Z.z, rfl⟩
  unfold pyNext
  refine wpAny_bind (wpAny_attempt (wpAny_callSpecial?_slot (name := Str.ofString "__next__") hT F.slot_zip_next (wpAny_call_entry F.slot_zip_next hT F.entry_zip_next (zipM_end hh Z b1 hl1 hx fun h' e hk he => ?_) (F.args_zip_next_1 _))))
  obtain ⟨o, ho, hc⟩ := he
  refine wpAny_bind (wpAny_isInstance (T := "StopIteration") (b := true) ⟨o, ho, hc⟩ isSubtype_stop ?_)
  exact wpAny_pure (q _ hk)
end
abbrev tiOf (l : Addr) : Obj := { cls := .type "tuple_iterator", data := .fields #[.ref l, .int 0 0] }
abbrev g1M (h : Heap) (l1 : Addr) : Heap := h.push (tiOf l1)
abbrev g2M (h : Heap) (l1 l2 : Addr) : Heap := (g1M h l1).push (liOf l2)
abbrev g3M (h : Heap) (l1 l2 : Addr) : Heap := (g2M h l1 l2).push { cls := .type "tuple", data := .seq #[.ref h.objs.size, .ref (g1M h l1).objs.size] }
abbrev g4M (h : Heap) (l1 l2 : Addr) : Heap := (g3M h l1 l2).push { cls := .type "tuple", data := .seq #[.none, .none] }
abbrev g5M (h : Heap) (l1 l2 : Addr) : Heap := (g4M h l1 l2).push { cls := .type "zip", data := .fields #[.none, .bool false, .bool false, .ref (g2M h l1 l2).objs.size, .ref (g3M h l1 l2).objs.size] }
theorem meets_zipM (l1 l2 : Addr) (xs ys : Array Value) :
    Meets (Builtin.«zip.__new__» ⟨[.type "zip", .ref l1, .ref l2], []⟩) (fun _ R s => s.heap.IsTuple l1 xs ∧ s.heap.IsList l2 ys ∧ R (.ok (.ret (.ref (g4M s.heap l1 l2).objs.size))) { s with heap := g5M s.heap l1 l2 }) :=
  .of_wp fun prog w A R s h => by
    obtain ⟨hp, g, d, tk, os⟩ := s
    obtain ⟨q1, q2, h⟩ := h
    have hsub := sub_zip
    have L1 : Heap.IsTuple (Shared.heap ⟨hp, g, d, tk, os⟩) l1 xs := q1
    have L2 : Heap.IsList (Shared.heap ⟨hp.push (tiOf l1), g, d, tk, os⟩) l2 ys := Heap.IsList.push q2 _
    wp_walk using wpAny_pyIter_tuple L1, wpAny_pyIter_list L2
    exact ⟨_, rfl, h⟩
section
variable {prog : Program} {w : World} {A : Around} {E : Value → Shared → Prop} {s : Shared}
theorem call_zipM {l1 l2 : Addr} {xs ys : Array Value} {Q : Value → Shared → Prop} (q1 : s.heap.IsTuple l1 xs) (q2 : s.heap.IsList l2 ys)
    (q : ∀ h', ZM s.heap.objs.size l1 l2 0 .none h' → (∀ c o, s.heap.get? c = some o → h'.get? c = some o) → Q (.ref (s.heap.objs.size + 4)) { s with heap := h' }) :
    wpAny (model prog w) A (call (.type "zip") [.ref l1, .ref l2]) Q E s := by
  refine callType_new F.called_zip (by decide) (F.typeCall_zip_2 _ _) (F.newCall_zip_2 _ _) (fun obj => F.args_object_init_3 obj _ _) F.entry_zip_new (meets_zipM l1 l2 xs ys) ⟨q1, q2, ?_⟩
  have z1 : (g1M s.heap l1).objs.size = s.heap.objs.size + 1 := Heap.size_push ..
  have z2 : (g2M s.heap l1 l2).objs.size = s.heap.objs.size + 2 := by rw [Heap.size_push, z1]
  have z3 : (g3M s.heap l1 l2).objs.size = s.heap.objs.size + 3 := by rw [Heap.size_push, z2]
  have z4 : (g4M s.heap l1 l2).objs.size = s.heap.objs.size + 4 := by rw [Heap.size_push, z3]
  have p5 : (g5M s.heap l1 l2).get? (g4M s.heap l1 l2).objs.size = some _ := Heap.get?_push_size _ rfl
  have p4 : (g5M s.heap l1 l2).get? (g3M s.heap l1 l2).objs.size = some _ := Heap.get?_push_of_some _ (Heap.get?_push_size _ rfl)
  have p3 : (g5M s.heap l1 l2).get? (g2M s.heap l1 l2).objs.size = some _ := Heap.get?_push_of_some _ (Heap.get?_push_of_some _ (Heap.get?_push_size _ rfl))
  have p2 : (g5M s.heap l1 l2).get? (g1M s.heap l1).objs.size = some _ := Heap.get?_push_of_some _ (Heap.get?_push_of_some _ (Heap.get?_push_of_some _ (Heap.get?_push_size _ rfl)))
  have p1 : (g5M s.heap l1 l2).get? s.heap.objs.size = some _ := Heap.get?_push_of_some _ (Heap.get?_push_of_some _ (Heap.get?_push_of_some _ (Heap.get?_push_of_some _ (Heap.get?_push_size _ rfl))))
  show _ ∧ _
  rw [z2, z3, z4] at p5
  rw [z1, z2] at p3
  rw [z3] at p4
  rw [z1] at p2
  rw [z4]
  exact ⟨⟨_, p5, rfl⟩, q _ ⟨p5, p3, ⟨_, _, p4⟩, ⟨_, p1, rfl, rfl⟩, ⟨_, p2, rfl, rfl⟩⟩ fun c o e => Heap.get?_push_of_some _ (Heap.get?_push_of_some _ (Heap.get?_push_of_some _ (Heap.get?_push_of_some _ (Heap.get?_push_of_some _ e))))⟩
end
/-- the tuple and the list as they stand at each turn -/
def ItM (K : PySem.W.Frag) (a b : Addr) : It :=
  ⟨fun i H => ∃ (xs ys : List V) (x y : V), SqT K H a xs ∧ SqL K H b ys ∧ xs[i]? = some x ∧ ys[i]? = some y,
    fun i H v H' => ∃ T x y, v = .ref T ∧ H T = none ∧ H' = upd H T (.tup [x, y]) ∧ (∀ l, SqT K H a l → l[i]? = some x) ∧ ∀ l, SqL K H b l → l[i]? = some y,
    fun i H => ∃ xs : List V, SqT K H a xs ∧ xs.length ≤ i⟩
def fpM (n : Nat) : List Addr := [n + 4, n + 2, n + 3, n, n + 1]
theorem memM {n c : Nat} (h : c ∈ fpM n) : c = n + 4 ∨ c = n + 2 ∨ c = n + 3 ∨ c = n ∨ c = n + 1 := by simpa [fpM] using h
theorem inM {n c : Nat} (h : c = n + 4 ∨ c = n + 2 ∨ c = n + 3 ∨ c = n ∨ c = n + 1) : c ∈ fpM n := by simpa [fpM] using h
theorem ltM {n c m : Nat} (h : c ∈ fpM n) (l : n + 4 < m) : c < m := by rcases memM h with q | q | q | q | q <;> omega
theorem leM {n c : Nat} (h : c ∈ fpM n) : n ≤ c := by rcases memM h with q | q | q | q | q <;> omega
theorem ButM.out {n : Nat} {h h' : Heap} (k : ButM n h h') {c : Addr} {o : Obj} (no : c ∉ fpM n) (q : h.get? c = some o) : h'.get? c = some o :=
  k c o (fun e => no (inM (.inr (.inr (.inr (.inl e)))))) (fun e => no (inM (.inr (.inr (.inr (.inr e)))))) (fun e => no (inM (.inr (.inr (.inl e))))) (fun e => no (inM (.inl e))) q
theorem turn_zipM {P : Program} {w : World} {K : PySem.W.Frag} {elts : List Expr} {kk : Nat} {tpos : Pos} {n l1 l2 : Nat} (b1 : l1 < n) (b2 : l2 < n) :
    Turn P w K (.Tuple elts kk tpos) (ItM K l1 l2) (fpM n) (n + 4) (fun i h => ZM n l1 l2 i .none h) where
  mem := inM (.inl rfl)
  obj := fun i h Z c hc => by
    obtain ⟨hz, ht, ⟨x, y, ho⟩, ⟨o1, e1, _, d1⟩, ⟨o2, e2, _, d2⟩⟩ := Z
    rcases memM hc with q | q | q | q | q
    · rw [q]; exact ⟨_, hz, fun v q => nomatch q⟩
    · rw [q]; exact ⟨_, ht, fun v q => nomatch q⟩
    · rw [q]; exact ⟨_, ho, fun v q => nomatch q⟩
    · rw [q]; exact ⟨o1, e1, fun v q => by rw [d1] at q; cases q⟩
    · rw [q]; exact ⟨o2, e2, fun v q => by rw [d2] at q; cases q⟩
  keep := fun i h h' Z k => by
    obtain ⟨hz, ht, ⟨x, y, ho⟩, h1, h2⟩ := Z
    exact ⟨k _ (inM (.inl rfl)) _ hz, k _ (inM (.inr (.inl rfl))) _ ht, ⟨x, y, k _ (inM (.inr (.inr (.inl rfl)))) _ ho⟩, h1.at fun o q => k _ (inM (.inr (.inr (.inr (.inl rfl))))) o q, h2.at fun o q => k _ (inM (.inr (.inr (.inr (.inr rfl))))) o q⟩
  item := by
    intro X hP hw hK hc i pins s σ H E I hf Z hg
    subst hP hw hK
    obtain ⟨xs, ys, x, y, hqx, hqy, hx, hy⟩ := hg
    obtain ⟨its, rv, p, _⟩ := I.tuple hqx
    obtain ⟨its2, rv2, p2, _⟩ := I.list hqy
    obtain ⟨u, hu, ru⟩ := rv.get hx
    obtain ⟨u2, hu2, ru2⟩ := rv2.get hy
    have sl : n + 4 < s.heap.objs.size := Heap.lt_size Z.z
    refine nextM_item Z b1 b2 p p2.isList (x := u) (y := u2) (by simpa using hu) (by simpa using hu2) fun h' Z' hT hk => ?_
    refine ⟨_, rfl, wpAny_letOwnedTupleGo_zip (s := { s with heap := h' }) Z'.z fun h2 z2 sb => ?_⟩
    have hT2 : h2.get? s.heap.objs.size = some { cls := .type "tuple", data := .seq #[u, u2] } := (sb.2 _ (Nat.ne_of_gt sl)).trans hT
    have new : ObjOk X.prog X.w (upd H s.heap.objs.size (.tup [x, y])) h2 s.heap.objs.size (.tup [x, y]) :=
      ⟨by show 2 ≤ sizeLine; decide, [u, u2], .cons ru (.cons ru2 .nil), ⟨_, hT2, rfl, _, rfl⟩⟩
    have kp : ∀ c o, c ∉ fpM n → s.heap.get? c = some o → h2.get? c = some o := fun c o hb q => (sb.2 c (fun e => hb (inM (.inl e)))).trans (hk.out hb q)
    have I1 : Inv X pins σ (upd H s.heap.objs.size (.tup [x, y])) { s with heap := h2 } := I.turnedNew (t' := s.toks) (ch := fpM n) kp hf (Nat.le_refl _) new
    refine ⟨.ref s.heap.objs.size, _, I1, rfl, ⟨_, x, y, rfl, I.hok.fresh (Nat.le_refl _), rfl, fun l hl => by rw [I.tuple_inj hl hqx]; exact hx, fun l hl => by rw [I.list_inj hl hqy]; exact hy⟩, ?_, fun c hcm => ?_⟩
    · obtain ⟨c1, c2, ⟨y1, y2, c3⟩, c4, c5⟩ := Z'
      exact ⟨z2, (sb.2 _ (ad (by omega))).trans c2, ⟨y1, y2, (sb.2 _ (ad (by omega))).trans c3⟩, c4.at fun o q => (sb.2 _ (ad (by omega))).trans q, c5.at fun o q => (sb.2 _ (ad (by omega))).trans q⟩
    · have hlt : c < s.heap.objs.size := ltM hcm sl
      rw [upd_ne (Nat.ne_of_lt hlt)]
      exact (hf c hcm).1
  done := by
    intro X hP hw hK hc i pins s σ H E I hf Z hg
    subst hP hw hK
    obtain ⟨xs, hqx, hend⟩ := hg
    obtain ⟨its, rv, p, _⟩ := I.tuple hqx
    have ln := rv.length
    have no : its.toArray[i]? = none := by
      simp
      omega
    refine nextM_end (I.ok.hd hc) Z b1 p no fun h' hk => ⟨rfl, ?_⟩
    exact I.turnedL (t' := s.toks) (ch := fpM n) (fun c o hb q => hk.out hb q) hf
  self := fun A i s Q E Z q => wpAny_pyIter_zip Z.z q
/-- zip of a tuple and a tuple or a list -/
def iZipB (K : PySem.W.Frag) (ta : TA) : TI := fun σ H R => ta σ H fun vs H1 => ∃ a b xs ys, vs = [.ref a, .ref b] ∧ SqT K H1 a xs ∧ ((SqL K H1 b ys ∧ R (ItM K a b) H1) ∨ (SqT K H1 b ys ∧ R (RZ.ItzT K a b) H1))
theorem pi_zipB {X : Cx} {e e2 : Expr} {ta : TA} {p pos tpos : Pos} {elts : List Expr} {kk : Nat} (hg : Gl X "zip") (hm : X.mg "zip" = none) (ha : PA X [e, e2] ta)
    (hs : starEach [e, e2] X.env = (false, eval e X.env) :: starEach [e2] X.env := by rfl) (hpl : (backTo pos (starEach [e2] X.env)).any (·.1) = false := by rfl) :
    PI X (.Tuple elts kk tpos) (.Call (.Name "zip" p) [e, e2] [] pos) (iZipB X.K ta) := by
  refine ⟨fun pins s σ H R I h => ?_⟩
  refine Call_ (ld_blt I hg hm PyProof.Rows.boot_zip (PyProof.Rows.callWith_type1 (thn (ha.run pos pins s σ H _ I h) fun us s1 ⟨vs, H1, I1, r1, q1⟩ => ?_) hs hpl))
  obtain ⟨a, b, xs, ys, ex, qx, q1⟩ := q1
  subst ex
  obtain ⟨v1, us1, rfl, r, t1⟩ : ∃ v us', us = v :: us' ∧ RelV (.ref a) v ∧ Vals [.ref b] us' := by
    cases r1 with
    | cons r t => exact ⟨_, _, rfl, r, t⟩
  clear r1
  obtain ⟨v2, rfl, r'⟩ : ∃ v, us1 = [v] ∧ RelV (.ref b) v := by
    cases t1 with
    | cons r t =>
      cases t
      exact ⟨_, rfl, r⟩
  clear t1
  obtain rfl : v1 = .ref a := r
  obtain rfl : v2 = .ref b := r'
  clear h
  obtain ⟨its, rv, p1, _⟩ := I1.tuple qx
  obtain ⟨o1, ho1, _⟩ := id p1
  rcases q1 with ⟨qy, q⟩ | ⟨qy, q⟩
  · obtain ⟨its2, rv2, p2, _⟩ := I1.list qy
    refine call_zipM (show s1.heap.IsTuple a its.toArray from p1) p2.isList fun h' Z hk => wpAny_pyIter_zip Z.z ?_
    have I2 : Inv X pins σ H1 { s1 with heap := h' } := I1.kept (t' := s1.toks) hk
    refine ⟨s1.heap.objs.size + 4, fpM s1.heap.objs.size, _, _, H1, rfl, I2, turn_zipM (Heap.lt_size ho1) p2.lt, Z, fun c' hc' => ?_, q⟩
    have hle : s1.heap.objs.size ≤ c' := leM hc'
    exact I1.fpOk hle (I1.hok.fresh hle)
  · obtain ⟨its2, rv2, p2, _⟩ := I1.tuple qy
    obtain ⟨o2, ho2, _⟩ := id p2
    refine RZ.call_zipT (show s1.heap.IsTuple a its.toArray from p1) (show s1.heap.IsTuple b its2.toArray from p2) fun h' hz hTI hTO h1 h2 hsz hk => wpAny_pyIter_zip hz ?_
    have I2 : Inv X pins σ H1 { s1 with heap := h' } := I1.kept (t' := s1.toks) hk
    refine ⟨s1.heap.objs.size + 4, fpM s1.heap.objs.size, _, _, H1, rfl, I2, RZ.turn_zipT (PySem.W.ktu_apart s1.heap.objs.size a b (Heap.lt_size ho1) (Heap.lt_size ho2)), ⟨hz, hTI, ⟨_, _, hTO⟩, h1, h2⟩, fun c' hc' => ?_, q⟩
    have hle : s1.heap.objs.size ≤ c' := leM hc'
    exact I1.fpOk hle (I1.hok.fresh hle)
theorem for_zipB {K : PySem.W.Frag} {a b : Addr} {xs ys : List V} {g : TG} {tb : TS} {D : Ends} {σ : L2.St} {H0 H : Hp} (hl : xs.length = ys.length) (hx : SqT K H0 a xs) (hy : Sq K H0 b ys) (Pv : Nat → L2.St → Hp → Prop) (h0 : Pv 0 σ H) (old : ∀ i σ H', Pv i σ H' → Same H0 H')
    (hs : ∀ (i : Nat) (x y : V) (T : Addr) (σ : L2.St) (H' : Hp), xs[i]? = some x → ys[i]? = some y → Pv i σ H' → H' T = none → g (.ref T) σ (upd H' T (.tup [x, y])) fun σ2 H2 => tb { D with nx := Pv (i + 1), ct := Pv (i + 1), bk := D.nx } σ2 H2) (hd : ∀ σ H', Pv xs.length σ H' → D.nx σ H') :
    SqT K H a xs ∧ ((SqL K H b ys ∧ forR g tb D σ (ItM K a b) H) ∨ (SqT K H b ys ∧ forR g tb D σ (RZ.ItzT K a b) H)) := by
  refine ⟨sqT_same (old 0 σ H h0) hx, hy.imp (fun q => ⟨sqL_same (old 0 σ H h0) q, for_by (n := xs.length) Pv h0 ?_ ?_⟩) fun q => ⟨sqT_same (old 0 σ H h0) q, for_by (n := xs.length) Pv h0 ?_ ?_⟩⟩
  · intro i σ' H' lt p
    have q1 := sqT_same (old i σ' H' p) hx
    have q2 := sqL_same (old i σ' H' p) q
    refine ⟨⟨xs, ys, _, _, q1, q2, List.getElem?_eq_getElem lt, List.getElem?_eq_getElem (by omega : i < ys.length)⟩, ?_⟩
    rintro v H2 ⟨T, x, y, rfl, hT, rfl, f1, f2⟩
    exact hs i x y T σ' H' (f1 xs q1) (f2 ys q2) p hT
  · exact fun σ' H' p => ⟨⟨xs, sqT_same (old _ σ' H' p) hx, Nat.le_refl _⟩, hd σ' H' p⟩
  · intro i σ' H' lt p
    have q1 := sqT_same (old i σ' H' p) hx
    have q2 := sqT_same (old i σ' H' p) q
    refine ⟨⟨xs, ys, _, _, q1, q2, List.getElem?_eq_getElem lt, List.getElem?_eq_getElem (by omega : i < ys.length)⟩, ?_⟩
    rintro v H2 ⟨T, x, y, rfl, hT, rfl, f1, f2⟩
    exact hs i x y T σ' H' (f1 xs q1) (f2 ys q2) p hT
  · exact fun σ' H' p => ⟨⟨xs, ys, sqT_same (old _ σ' H' p) hx, sqT_same (old _ σ' H' p) q, .inl (Nat.le_refl _)⟩, hd σ' H' p⟩
end Kx
/-! a, b = a list or a tuple; a loop over a list or a tuple that is older than what the loop changes -/
namespace Kx
open L2 PySem PySem.Spec PyProof.Rows
def gSq (K : PySem.W.Frag) (n : Nat) (t : TGs) : TG := fun v σ H Q => ∃ a xs, v = .ref a ∧ Sq K H a xs ∧ xs.length = n ∧ t xs σ H Q
theorem pg_sq {X : Cx} {pos : Pos} {es : List Expr} {k : Nat} {t : TGs} {n : Nat} (hc : X.calm = true) (h : PGs X es t)
    (hn : (assignEach es X.env).length = n := by rfl) (hst : (assignEach es X.env).findIdx? (·.1) = none := by rfl) : PG X (.Tuple es k pos) (gSq X.K n t) := by
  refine ⟨fun pins s σ H v u Q I r hw => ?_⟩
  obtain ⟨a, xs, e1, hq, hl, hw⟩ := hw
  rcases hq with hq | hq
  · exact (pg_lst hc h hn hst).run pins s σ H v u Q I r ⟨a, xs, e1, hq, hl, hw⟩
  · exact (pg_tup hc h hn hst).run pins s σ H v u Q I r ⟨a, xs, e1, hq, hl, hw⟩
theorem for_old {K : PySem.W.Frag} {a : Addr} {xs : List V} {g : TG} {tb : TS} {D : Ends} {σ : L2.St} {H0 H : Hp} (hx : Sq K H0 a xs) (Pv : Nat → L2.St → Hp → Prop) (h0 : Pv 0 σ H) (old : ∀ i σ' H', Pv i σ' H' → Same H0 H')
    (turn : ∀ (i : Nat) (x : V) σ' H', xs[i]? = some x → Pv i σ' H' → g x σ' H' fun σ2 H2 => tb { D with nx := Pv (i + 1), ct := Pv (i + 1), bk := D.nx } σ2 H2)
    (hd : ∀ σ' H', Pv xs.length σ' H' → D.nx σ' H') : (SqL K H a xs ∧ forR g tb D σ (Itl K a) H) ∨ (SqT K H a xs ∧ forR g tb D σ (Itt K a) H) := by
  refine hx.imp (fun q => ⟨sqL_same (old 0 σ H h0) q, for_by (n := xs.length) Pv h0 ?_ ?_⟩) fun q => ⟨sqT_same (old 0 σ H h0) q, for_by (n := xs.length) Pv h0 ?_ ?_⟩
  · intro i σ' H' lt p
    have q' := sqL_same (old i σ' H' p) q
    refine ⟨⟨xs, xs[i], q', List.getElem?_eq_getElem lt⟩, ?_⟩
    rintro v H2 ⟨rfl, hv⟩
    exact turn i v σ' _ (hv xs q') p
  · exact fun σ' H' p => ⟨⟨xs, sqL_same (old _ σ' H' p) q, Nat.le_refl _⟩, hd σ' H' p⟩
  · intro i σ' H' lt p
    have q' := sqT_same (old i σ' H' p) q
    refine ⟨⟨xs, xs[i], q', List.getElem?_eq_getElem lt⟩, ?_⟩
    rintro v H2 ⟨rfl, hv⟩
    exact turn i v σ' _ (hv xs q') p
  · exact fun σ' H' p => ⟨⟨xs, sqT_same (old _ σ' H' p) q, Nat.le_refl _⟩, hd σ' H' p⟩
end Kx
/-! what is first put together -/
namespace K7
open L2 PySem PySem.Spec PyProof.Rows Kx RZ
theorem ix_tupK {X : Cx} {K : PySem.W.Frag} (hK : X.K = K := by rfl) : IxR X (rIxT K) := by
  subst hK
  exact ix_tup
/-- what is put together first -/
inductive Seed (PR : Nat → Nat → Prop) (ts : List (List Int)) (cs : List Nat) (L : List Int) : Int → Int → Prop
  | comm (a b : Nat) (x : Int) (pr : PR a b) (ha : a < ts.length) (hb : b < ts.length) (hx : x ∈ L) : Seed PR ts cs L (tx (ts.getD b []) (tx (ts.getD a []) x)) (tx (ts.getD a []) (tx (ts.getD b []) x))
  | turn (d : Nat) (x : Int) (hd : d < ts.length) (hx : x ∈ L) : Seed PR ts cs L x (it (ts.getD d []) (cs.getD d 0) x)
def commOf (ts : List (List Int)) (a b : Nat) (x : Int) : List Int := [tx (ts.getD b []) (tx (ts.getD a []) x), tx (ts.getD a []) (tx (ts.getD b []) x)]
def turnOf (ts : List (List Int)) (cs : List Nat) (d : Nat) (x : Int) : List Int := [x, it (ts.getD d []) (cs.getD d 0) x]
def spFirst (K : PySem.W.Frag) : Sp := fun vs H Q _ => ∃ (p pl pq r : Addr) (ps pps : List V) (ts prs : List (List Int)) (L : List Int) (cs : List Nat) (n : Nat), vs = [.ref p, .ref pl, .ref pq, .ref r] ∧ SqT K H p ps ∧ RowsBy (SqT K H) ps ts ∧ SqT K H pl (L.map V.int) ∧ Sq K H pq pps ∧ RowsBy (Sq K H) pps prs ∧
  PairsOf ts.length prs ∧ Sq K H r (cs.map fun c => V.int (c : Nat)) ∧ ts.length = cs.length ∧ ts.length ≤ 4 ∧ Wrl n ts L ∧
  ∀ l H' qs sds, Same H H' → H l = none → H' l = some (.lst qs) → RowsBy (SqT K H') qs sds → (∀ sd ∈ sds, ∃ u v, sd = [u, v] ∧ Seed (Rl prs) ts cs L u v) → (∀ u v, Seed (Rl prs) ts cs L u v → [u, v] ∈ sds) → sds.length ≤ 160 → Q (.ref l) H'
theorem getD_of {ts : List (List Int)} {d : Nat} {t : List Int} (h : ts[d]? = some t) : ts.getD d [] = t := by rw [List.getD_eq_getElem?_getD, h]; rfl
theorem RowsBy.app {R : Addr → List V → Prop} : ∀ {vs us : List V} {ts ss : List (List Int)}, RowsBy R vs ts → RowsBy R us ss → RowsBy R (vs ++ us) (ts ++ ss)
  | [], _, [], _, _, h => h
  | _ :: _, _, _ :: _, _, ⟨h1, h2⟩, h => ⟨h1, RowsBy.app h2 h⟩
  | [], _, _ :: _, _, h, _ => h.elim
  | _ :: _, _, [], _, h, _ => h.elim
section
variable {P : Program} {w : World} {K : PySem.W.Frag} {mg : Str → Option Value} {base : Heap} {f : Addr} {fd : FuncData} {a : Ad} {C CM : Addr}
theorem sc_first : FnScope ["tables", "places", "pairs", "rounds", "together", "one", "other", "first", "second", "table", "turn", "place"] ["tables", "places", "pairs", "rounds"] (defScope s_first_together) := ⟨rfl, rfl, rfl, by decide +kernel, rfl, by decide +kernel, by decide +kernel⟩
theorem ok_first (F : FnP K "_first_together" s_first_together f fd) (T : Mg mg) (c_all : Cal P w K mg base CX0 2 "_all_moved" ["table", "places", "many"] (spAllMoved K)) : FnOk P w K mg base CX0 3 f fd ["tables", "places", "pairs", "rounds"] (spFirst K) := by
  refine F.ok sc_first (fun vs H Q E h => ?_) (fun cdv A outer s H vs Q E hr h => ?_)
  · obtain ⟨p, pl, pq, r, ps, pps, ts, prs, L, cs, n, rfl, _⟩ := h
    rfl
  · obtain ⟨p, pl, pq, r, ps, pps, ts, prs, L, cs, n, rfl, hp, rows, hpl, hpq, prow, po, hc, lc, l4, wl, k⟩ := h
    refine ⟨_, PSs.nox (pss_cons (ps_set (i := 4) sc_first.nd rfl (by first | exact Or.inl rfl | exact Or.inr rfl) (pe_lst pa_nil))
      (pss_cons (ps_for PassesOwn.never rfl (pi_any (pv 2)) (pg_sq rfl (pgs_cons (pg_name (i := 5) sc_first.nd rfl (by first | exact Or.inl rfl | exact Or.inr rfl)) (pgs_cons (pg_name (i := 6) sc_first.nd rfl (by first | exact Or.inl rfl | exact Or.inr rfl)) pgs_nil)))
        (pss_cons (ps_mid (ps_asg (pe_tup (pa_cons (pe_ix ix_tup (pv 0) (pv 5) (fun _ _ => rfl)) (pa_cons (pe_ix ix_tup (pv 0) (pv 6) (fun _ _ => rfl)) pa_nil))) (pg_tup rfl (pgs_cons (pg_name (i := 7) sc_first.nd rfl (by first | exact Or.inl rfl | exact Or.inr rfl)) (pgs_cons (pg_name (i := 8) sc_first.nd rfl (by first | exact Or.inl rfl | exact Or.inr rfl)) pgs_nil)))))
        (pss_one (ps_expr (pe_bm PySem.F.plainAttrs_list PySem.F.slot_list_extend PySem.F.type_list_extend mt_extend (pv 4) (pa_cons (pe_lc (own := [("place", 11)]) (by rfl) sc_first.nd (pi_tup (pv 1)) (blkOk_by (own := [("place", 11)]) (N := ["tables", "places", "pairs", "rounds", "together", "one", "other", "first", "second", "table", "turn", "place"]) (sc := defScope s_first_together) (by decide +kernel))
          (fun _ _ _ _ _ => (pg_name (i := 11) sc_first.nd rfl (by first | exact Or.inl rfl | exact Or.inr rfl))) (fun _ _ _ _ _ => pts_nil)
          (fun _ _ _ _ _ => pe_tup (pa_cons (pe_ix (ix_tupK (K := K)) (pv 8) (pe_ix (ix_tupK (K := K)) (pv 7) (pv 11) (fun _ _ => rfl)) (fun _ _ => rfl)) (pa_cons (pe_ix (ix_tupK (K := K)) (pv 7) (pe_ix (ix_tupK (K := K)) (pv 8) (pv 11) (fun _ _ => rfl)) (fun _ _ => rfl)) pa_nil)))) pa_nil))))))
      (pss_cons (ps_for PassesOwn.never rfl (pi_zipB (by rfl) T.z_zip (pa_cons (pv 0) (pa_cons (pv 3) pa_nil))) (pg_tup rfl (pgs_cons (pg_name (i := 9) sc_first.nd rfl (by first | exact Or.inl rfl | exact Or.inr rfl)) (pgs_cons (pg_name (i := 10) sc_first.nd rfl (by first | exact Or.inl rfl | exact Or.inr rfl)) pgs_nil)))
        (pss_one (ps_expr (pe_bm PySem.F.plainAttrs_list PySem.F.slot_list_extend PySem.F.type_list_extend mt_extend (pv 4) (pa_cons (pe_callC c_all hr pass0 (pa_cons (pv 9) (pa_cons (pv 1) (pa_cons (pv 10) pa_nil)))) pa_nil)))))
      (pss_one (ps_ret (pv 4)))))), ?_⟩
    have few := wl.few
    have n8 := wl.n8
    have lps := rows.length
    have lpp := prow.length
    refine ⟨(by show 0 ≤ sizeLine; decide), fun D0 hD => ?_⟩
    have nD0 : H D0 = none := hD
    let W : Nat → Nat → Hp → Prop := fun i j H' => ∃ qs sds, Same H H' ∧ H' D0 = some (.lst qs) ∧ RowsBy (SqT K H') qs sds ∧ (∀ sd ∈ sds, ∃ u v, sd = [u, v] ∧ Seed (Rl prs) ts cs L u v) ∧
      (∀ k pr, k < i → prs[k]? = some pr → ∀ a b : Nat, pr = [(a : Int), (b : Int)] → ∀ x ∈ L, commOf ts a b x ∈ sds) ∧ (∀ d, d < j → ∀ x ∈ L, turnOf ts cs d x ∈ sds) ∧ sds.length ≤ (i + j) * 8
    have w0 : W 0 0 (upd H D0 (.lst [])) := ⟨[], [], same_new hD, upd_same, trivial, (fun _ h => nomatch h), (fun _ _ h => absurd h (Nat.not_lt_zero _)), (fun _ h => absurd h (Nat.not_lt_zero _)), by simp⟩
    have hpq1 : ∀ {H' : Hp}, Same H H' → Sq K H' pq pps := fun e => hpq.same e
    generalize upd H D0 (.lst []) = H0 at w0
    obtain ⟨_, _, e0, _⟩ := id w0
    have wS : ∀ {i j : Nat} {H1 H2 : Hp}, W i j H1 → Same H1 H2 → W i j H2 := fun ⟨qs, sds, e, h, ro, z⟩ e2 => ⟨qs, sds, e.trans e2, e2 _ _ h, ro.imp fun _ _ q => sqT_same e2 q, z⟩
    refine ⟨_, rfl, pq, pps, rfl, ?_⟩
    refine for_old (hpq) (fun i σ' H' => ∃ (x5 x6 x7 x8 x9 x10 x11 : Option V), σ' = [some (.ref p), some (.ref pl), some (.ref pq), some (.ref r), some (.ref D0), x5, x6, x7, x8, x9, x10, x11] ∧ W i 0 H') ⟨_, _, _, _, _, _, _, rfl, w0⟩ (fun i σ' H' z => by
      obtain ⟨_, _, _, _, _, _, _, _, _, _, e, _⟩ := z
      exact e) ?_ ?_
    · rintro i y σ' H1 hy ⟨x5, x6, x7, x8, x9, x10, x11, rfl, w1⟩
      have hi : i < prs.length := by rw [← lpp]; exact (List.getElem?_eq_some_iff.mp hy).1
      have pi : prs[i]? = some prs[i] := List.getElem?_eq_getElem hi
      obtain ⟨q, h1, h2⟩ := prow.at_ pi
      rw [hy] at h1
      cases h1
      obtain ⟨a, b, epr, ak, bk⟩ := po.are _ (List.getElem_mem hi)
      have ab : Rl prs a b := by
        have m := List.getElem_mem hi
        rw [epr] at m
        exact m
      rw [epr] at h2
      obtain ⟨_, _, e1, _⟩ := id w1
      have ta : ts[a]? = some (ts[a]'(by omega)) := List.getElem?_eq_getElem (by omega)
      have tb : ts[b]? = some ts[b] := List.getElem?_eq_getElem bk
      obtain ⟨qa, a1, a2⟩ := rows.at_ ta
      obtain ⟨qb, b1, b2⟩ := rows.at_ tb
      have ga := getD_of ta
      have gb := getD_of tb
      obtain ⟨al, ar, ae⟩ := wl.tab _ (List.getElem_mem (show a < ts.length by omega))
      obtain ⟨bl, br, be⟩ := wl.tab _ (List.getElem_mem bk)
      generalize ts[a]'(by omega) = tA at *
      generalize ts[b] = tB at *
      refine ⟨q, _, rfl, h2.same e1, rfl, ?_⟩
      refine ⟨_, _, rfl, _, _, rfl, rfl, ?_⟩
      refine ⟨fun σ' H' => σ' = [some (.ref p), some (.ref pl), some (.ref pq), some (.ref r), some (.ref D0), some (.int (a : Nat)), some (.int (b : Nat)), some (.ref qa), some (.ref qb), x9, x10, x11] ∧ W i 0 H', ?_, ?_⟩
      · refine ⟨_, rfl, _, rfl, p, ps, _, _, rfl, rfl, sqT_same e1 hp, atI_nat a1, _, rfl, _, rfl, p, ps, _, _, rfl, rfl, sqT_same e1 hp, atI_nat b1, (by show 2 ≤ sizeLine; decide), fun t ht => ?_⟩
        refine ⟨t, _, rfl, SqT.of upd_same, rfl, ?_⟩
        exact ⟨_, _, rfl, _, _, rfl, rfl, rfl, wS w1 (same_new (o := HO.tup [.ref qa, .ref qb]) ht)⟩
      clear w1 e1
      rintro σ' H2 ⟨rfl, w2⟩
      obtain ⟨qs, sds, e2, hD2, row2, are, have1, have2, fw⟩ := w2
      refine ⟨_, rfl, .inl ⟨rfl, _, SqL.of hD2⟩, ?_⟩
      refine ⟨_, rfl, pl, rfl, ⟨_, sqT_same e2 hpl⟩, fun D5 hD5 => ?_⟩
      have n50 : D0 ≠ D5 := fun z => by rw [← z, hD2] at hD5; cases hD5
      refine turns (n := L.length) (fun j H' => ∃ us, Same H2 H' ∧ H' D5 = some (.lst us) ∧ RowsBy (SqT K H') us ((L.take j).map (commOf ts a b))) ⟨[], same_new hD5, upd_same, trivial⟩ ?_ ?_
      · rintro j H3 hj ⟨us, e3, h3, row3⟩
        have e23 := e2.trans e3
        have xj : L[j]? = some L[j] := List.getElem?_eq_getElem hj
        refine ⟨⟨_, V.int L[j], sqT_same e23 hpl, by rw [List.getElem?_map, xj]; rfl⟩, ?_⟩
        rintro v H4 ⟨rfl, hv⟩
        have ev := hv _ (sqT_same e23 hpl)
        rw [List.getElem?_map, xj] at ev
        cases ev
        have xL := List.getElem_mem hj
        have tk : L.take (j + 1) = L.take j ++ [L[j]] := by rw [List.take_add_one, xj]; rfl
        generalize L[j] = x at *
        obtain ⟨x0, x1⟩ := wl.rng x xL
        have yA := ae.cl x xL
        have yB := be.cl x xL
        obtain ⟨y0, y1⟩ := wl.rng _ yA
        obtain ⟨z0, z1⟩ := wl.rng _ yB
        refine ⟨rfl, yes ((if_pos rfl).mpr ?_)⟩
        refine ⟨_, rfl, _, rfl, _, rfl, qa, _, _, _, rfl, rfl, sqT_same e23 a2, at_int x0 (ar.at_ x0 (by rw [al]; exact x1)).1, qb, _, _, _, rfl, rfl, sqT_same e23 b2, at_int y0 (br.at_ y0 (by rw [bl]; exact y1)).1, ?_⟩
        refine ⟨_, rfl, _, rfl, _, rfl, qb, _, _, _, rfl, rfl, sqT_same e23 b2, at_int x0 (br.at_ x0 (by rw [bl]; exact x1)).1, qa, _, _, _, rfl, rfl, sqT_same e23 a2, at_int z0 (ar.at_ z0 (by rw [al]; exact z1)).1, ?_⟩
        refine ⟨(by show 2 ≤ sizeLine; decide), fun t ht => ?_⟩
        have e4 := same_new (o := HO.tup [V.int (tx tB (tx tA x)), V.int (tx tA (tx tB x))]) ht
        have u4 : SqT K (upd H4 t (HO.tup [V.int (tx tB (tx tA x)), V.int (tx tA (tx tB x))])) t ((commOf ts a b x).map V.int) := by
          unfold commOf
          rw [ga, gb]
          exact SqT.of upd_same
        generalize upd H4 t (HO.tup [V.int (tx tB (tx tA x)), V.int (tx tA (tx tB x))]) = H5 at *
        have lus := row3.length
        rw [List.length_map, List.length_take] at lus
        have h5 := e4 _ _ h3
        refine ⟨us, h5, by rw [sizeLine_eq]; omega, us ++ [.ref t], same_put (e3.trans e4) hD5, upd_same, ?_⟩
        rw [tk, List.map_append]
        exact RowsBy.snoc (sqT_lst h5 u4) (row3.imp fun _ _ z => sqT_lst h5 (sqT_same e4 z))
      · rintro H3 ⟨us, e3, h3, row3⟩
        rw [List.take_length] at row3
        refine ⟨⟨_, sqT_same (e2.trans e3) hpl, by rw [List.length_map]; exact Nat.le_refl _⟩, ?_⟩
        have h0 := e3 _ _ hD2
        have row2' := row2.imp fun _ _ z => sqT_same e3 z
        have lq := row2.length
        have lu := row3.length
        rw [List.length_map] at lu
        have lw := po.few
        refine ⟨D0, D5, qs, us, rfl, rfl, h0, h3, by rw [sizeLine_eq]; omega, _, _, _, _, _, _, _, rfl, qs ++ us, sds ++ L.map (commOf ts a b), same_put (e2.trans e3) nD0, upd_same, (row2'.imp fun _ _ z => sqT_lst h0 z).app (row3.imp fun _ _ z => sqT_lst h0 z), fun sd hsd => ?_, fun kk pr hk hpr a' b' epr' x hx => ?_, fun d hd => absurd hd (Nat.not_lt_zero _), by rw [List.length_append, List.length_map]; omega⟩
        · rcases List.mem_append.mp hsd with h | h
          · exact are sd h
          · obtain ⟨x, hx, rfl⟩ := List.mem_map.mp h
            exact ⟨_, _, rfl, .comm a b x ab ak bk hx⟩
        · by_cases ki : kk = i
          · subst ki
            rw [pi] at hpr
            have := (Option.some.inj hpr).symm.trans epr
            rw [epr'] at this
            have ea : a' = a := by
              have := (List.cons.inj this).1
              omega
            have eb : b' = b := by
              have := (List.cons.inj (List.cons.inj this).2).1
              omega
            rw [ea, eb]
            exact List.mem_append_right _ (List.mem_map.mpr ⟨x, hx, rfl⟩)
          · exact List.mem_append_left _ (have1 kk pr (by omega) hpr a' b' epr' x hx)
    · rintro σ' H1 ⟨x5, x6, x7, x8, x9, x10, x11, rfl, w1⟩
      rw [lpp] at w1
      obtain ⟨_, _, e1, _⟩ := id w1
      refine ⟨_, rfl, _, rfl, p, r, _, _, rfl, for_zipB (xs := ps) (ys := cs.map fun c => V.int (c : Nat)) (by rw [List.length_map]; omega) hp hc (fun j σ' H' => ∃ x9 x10 x11, σ' = [some (.ref p), some (.ref pl), some (.ref pq), some (.ref r), some (.ref D0), x5, x6, x7, x8, x9, x10, x11] ∧ W prs.length j H') ⟨_, _, _, rfl, w1⟩ (fun i σ' H' z => by
        obtain ⟨_, _, _, _, _, _, e, _⟩ := z
        exact e) ?_ ?_⟩
      · rintro j u y t σ' H2 hx hy ⟨x9, x10, x11, rfl, w2⟩ ht
        have hj : j < ts.length := by rw [← lps]; exact (List.getElem?_eq_some_iff.mp hx).1
        have tj : ts[j]? = some ts[j] := List.getElem?_eq_getElem hj
        have cj : cs[j]? = some (cs[j]'(by omega)) := List.getElem?_eq_getElem (by omega)
        obtain ⟨q, h1, h2⟩ := rows.at_ tj
        rw [hx] at h1
        cases h1
        rw [List.getElem?_map, cj] at hy
        cases hy
        have gj := getD_of tj
        have gc : cs.getD j 0 = cs[j]'(by omega) := by rw [List.getD_eq_getElem?_getD, cj]; rfl
        have mt := List.getElem_mem hj
        refine ⟨t, _, rfl, SqT.of upd_same, rfl, ?_⟩
        refine ⟨_, _, rfl, _, _, rfl, rfl, ?_⟩
        have w3 := wS w2 (same_new (o := HO.tup [.ref q, .int ((cs[j]'(by omega) : Nat) : Int)]) ht)
        generalize upd H2 t (HO.tup [.ref q, .int ((cs[j]'(by omega) : Nat) : Int)]) = H3 at *
        obtain ⟨qs, sds, e3, hD3, row3, are, have1, have2, fw⟩ := w3
        have wl1 : Wrl n [ts[j]] L := ⟨fun t ht => by rw [List.mem_singleton.mp ht]; exact wl.tab _ mt, wl.rng, wl.n8, wl.nd⟩
        refine ⟨_, rfl, .inl ⟨rfl, _, SqL.of hD3⟩, ?_⟩
        refine ⟨_, rfl, _, rfl, _, rfl, q, pl, ts[j], L, cs[j]'(by omega), n, rfl, sqT_same e3 h2, sqT_same e3 hpl, wl1, fun l H4 us prs' e4 nl hl row4 are4 all4 few4 => ?_⟩
        have h4 := e4 _ _ hD3
        have lD : l ≠ D0 := fun z => by rw [z, hD3] at nl; cases nl
        have row3' := row3.imp fun _ _ z => sqT_same e4 z
        have lq := row3.length
        have lu := row4.length
        have lw := po.few
        refine ⟨D0, l, qs, us, rfl, rfl, h4, hl, by rw [sizeLine_eq]; omega, _, _, _, rfl, qs ++ us, sds ++ prs', same_put (e3.trans e4) nD0, upd_same, (row3'.imp fun _ _ z => sqT_lst h4 z).app (row4.imp fun _ _ z => sqT_lst h4 z), fun sd hsd => ?_, fun kk pr hk hpr a' b' epr' x hx => List.mem_append_left _ (have1 kk pr hk hpr a' b' epr' x hx), fun d hd x hx => ?_, by rw [List.length_append]; omega⟩
        · rcases List.mem_append.mp hsd with h | h
          · exact are sd h
          · obtain ⟨x, hx, rfl⟩ := are4 sd h
            exact ⟨_, _, rfl, by have := Seed.turn (PR := Rl prs) (ts := ts) (cs := cs) j x hj hx; rwa [gj, gc] at this⟩
        · by_cases dj : d = j
          · refine List.mem_append_right _ ?_
            rw [dj]
            unfold turnOf
            rw [gj, gc]
            exact all4 x hx
          · exact List.mem_append_left _ (have2 d (by omega) x hx)
      · rintro σ' H2 ⟨x9, x10, x11, rfl, w2⟩
        obtain ⟨qs, sds, e2, hD2, row2, are, have1, have2, fw⟩ := w2
        have := po.few
        refine ⟨_, rfl, k D0 H2 qs sds e2 nD0 hD2 row2 are (fun u v sd => ?_) (by omega)⟩
        match u, v, sd with
        | _, _, .comm a b x ab ha hb hx =>
          obtain ⟨kk, hk⟩ := List.getElem?_of_mem (show [(a : Int), (b : Int)] ∈ prs from ab)
          exact have1 kk _ (List.getElem?_eq_some_iff.mp hk).1 hk a b rfl x hx
        | _, _, .turn d x hd hx => exact have2 d (by omega) x hx
end
end K7
/-! what stands above -/
namespace K7
open L2 PySem PySem.Spec PyProof.Rows Kx RZ
/-- A leads each place of L up to the one place c of its class -/
structure Frs (L : List Int) (A c : Int → Int) (ρ : Int → Nat) : Prop where
  cl : ∀ x ∈ L, A x ∈ L
  cin : ∀ x ∈ L, c x ∈ L
  idem : ∀ x ∈ L, c (c x) = c x
  up : ∀ x ∈ L, c (A x) = c x
  root : ∀ x ∈ L, (A x = x ↔ c x = x)
  low : ∀ x ∈ L, A x ≠ x → ρ (A x) < ρ x
theorem Frs.start {L : List Int} : Frs L (fun x => x) (fun x => x) (fun _ => 0) := ⟨fun _ h => h, fun _ h => h, fun _ _ => rfl, fun _ _ => rfl, fun _ _ => Iff.rfl, fun _ _ h => absurd rfl h⟩
/-- a place goes two steps up -/
theorem Frs.half {L : List Int} {A c : Int → Int} {ρ : Int → Nat} {y : Int} (f : Frs L A c ρ) (hy : y ∈ L) (ne : A y ≠ y) : Frs L (fun z => if z = y then A (A y) else A z) c ρ := by
  have le : ∀ z ∈ L, ρ (A z) ≤ ρ z := fun z hz => by
    by_cases e : A z = z
    · rw [e]; exact Nat.le_refl _
    · exact Nat.le_of_lt (f.low z hz e)
  have l1 := f.low y hy ne
  have l2 := le _ (f.cl y hy)
  have ne2 : A (A y) ≠ y := fun z => by rw [z] at l2; omega
  refine ⟨fun x hx => ?_, f.cin, f.idem, fun x hx => ?_, fun x hx => ?_, fun x hx h => ?_⟩
  · show (if x = y then A (A y) else A x) ∈ L
    split
    · exact f.cl _ (f.cl y hy)
    · exact f.cl x hx
  · show c (if x = y then A (A y) else A x) = c x
    split
    · rename_i e
      rw [f.up _ (f.cl y hy), f.up y hy, e]
    · exact f.up x hx
  · show (if x = y then A (A y) else A x) = x ↔ _
    split
    · rename_i e
      rw [e]
      exact ⟨fun z => absurd z ne2, fun z => absurd ((f.root y hy).mpr z) ne⟩
    · exact f.root x hx
  · have h : (if x = y then A (A y) else A x) ≠ x := h
    show ρ (if x = y then A (A y) else A x) < ρ x
    split
    · rename_i e
      rw [e]
      omega
    · rename_i e
      rw [if_neg e] at h
      exact f.low x hx h
theorem dget_dict {H : Hp} {d : Addr} {L : List Int} {A : Int → Int} {y : Int} (h : H d = some (.dK (dict L A))) (hy : y ∈ L) : DGet H d (.int y) (some (.int (A y))) := by
  have := DGet.k (k := .inl y) h
  rw [valV_dict, if_pos hy] at this
  exact this
def spTop : Sp := fun vs H Q _ => ∃ (d : Addr) (L : List Int) (A c : Int → Int) (ρ : Int → Nat) (x : Int), vs = [.ref d, .int x] ∧ H d = some (.dK (dict L A)) ∧ Frs L A c ρ ∧ x ∈ L ∧ L.length ≤ 8 ∧
  ∀ A' H', Frs L A' c ρ → H' d = some (.dK (dict L A')) → (∀ b o, b ≠ d → H b = some o → H' b = some o) → (∀ b, H b = none → H' b = none) → Q (.int (c x)) H'
section
variable {P : Program} {w : World} {K : PySem.W.Frag} {mg : Str → Option Value} {base : Heap} {f : Addr} {fd : FuncData} {a : Ad} {C CM : Addr}
theorem sc_top : FnScope ["above", "place"] ["above", "place"] (defScope s_top) := ⟨rfl, rfl, rfl, by decide +kernel, rfl, by decide +kernel, by decide +kernel⟩
theorem ok_top (F : FnP K "_top" s_top f fd) (T : Mg mg) : FnOk P w K mg base CX0 1 f fd ["above", "place"] spTop := by
  refine F.ok sc_top (fun vs H Q E h => ?_) (fun cdv A outer s H vs Q E hr h => ?_)
  · obtain ⟨d, L, A', c, ρ, x, rfl, _⟩ := h
    rfl
  · obtain ⟨d, L, A0, c, ρ, x, rfl, hd, fr, hx, l8, k⟩ := h
    refine ⟨_, PSs.nox (pss_cons (ps_while PassesOwn.never (pt_cmpR op_ne (pe_dget (r1 hr) (pv 0) (pv 1) (fun _ _ => rfl)) (pv 1) (nomark _))
  (pss_cons (ps_dput (r1 hr) (pv 0) (pv 1) (pe_dget (r1 hr) (pv 0) (pe_dget (r1 hr) (pv 0) (pv 1) (fun _ _ => rfl)) (fun _ _ => rfl)) rfl)
  (pss_one (ps_set (i := 1) sc_top.nd rfl (by first | exact Or.inl rfl | exact Or.inr rfl) (pe_dget (r1 hr) (pv 0) (pv 1) (fun _ _ => rfl))))))
  (pss_one (ps_ret (pv 1)))), ?_⟩
    refine ⟨fun n σ' H' => ∃ (B : Int → Int) (y : Int), n = ρ y ∧ σ' = [some (.ref d), some (.int y)] ∧ y ∈ L ∧ c y = c x ∧ Frs L B c ρ ∧ H' d = some (.dK (dict L B)) ∧ (∀ b o, b ≠ d → H b = some o → H' b = some o) ∧ ∀ b, H b = none → H' b = none, ⟨ρ x, A0, x, rfl, rfl, hx, rfl, fr, hd, fun _ _ _ h => h, fun _ h => h⟩, ?_⟩
    rintro n σ' H' ⟨B, y, rfl, rfl, hy, cy, fb, hB, keep, none_⟩
    refine ⟨_, rfl, _, rfl, d, _, rfl, dget_dict hB hy, _, rfl, rfl, _, rfl, ite2 (fun h => ?_) (fun h => ?_)⟩
    · have ne : B y ≠ y := by simpa using h
      have yB := fb.cl y hy
      have fh := fb.half hy ne
      refine ⟨fun σ2 H2 => ∃ (B2 : Int → Int) (z : Int), ρ z < ρ y ∧ σ2 = [some (.ref d), some (.int z)] ∧ z ∈ L ∧ c z = c x ∧ Frs L B2 c ρ ∧ H2 d = some (.dK (dict L B2)) ∧ (∀ b o, b ≠ d → H b = some o → H2 b = some o) ∧ ∀ b, H b = none → H2 b = none, ?_, ?_⟩
      · rintro σ2 H2 ⟨B2, z, lt, r⟩
        exact ⟨ρ z, lt, B2, z, rfl, r⟩
      · refine ⟨_, rfl, _, rfl, _, rfl, d, _, rfl, dget_dict hB hy, d, _, rfl, dget_dict hB yB, _, rfl, _, rfl, d, _, rfl, DPut.k (k := .inl y) hB (by rw [dict_len, sizeLine_eq]; omega), ?_⟩
        rw [putK_old hy]
        have h2 : upd H' d (.dK (dict L fun z => if z = y then B (B y) else B z)) d = some (.dK (dict L fun z => if z = y then B (B y) else B z)) := upd_same
        refine ⟨_, rfl, _, rfl, d, _, rfl, dget_dict h2 hy, ?_⟩
        refine ⟨_, B (B y), ?_, ?_, fb.cl _ yB, ?_, fh, upd_same, fun b o ne' hb => by rw [upd_ne ne']; exact keep b o ne' hb, fun b hb => ?_⟩
        · have l1 := fb.low y hy ne
          by_cases e : B (B y) = B y
          · rw [e]; exact l1
          · exact Nat.lt_trans (fb.low _ yB e) l1
        · show [some (V.ref d), some (V.int (if y = y then B (B y) else B y))] = _
          rw [if_pos rfl]
        · rw [fb.up _ yB, fb.up y hy, cy]
        · have hb' := none_ b hb
          rw [upd_ne (fun z => by rw [z, hB] at hb'; cases hb')]
          exact hb'
    · have e : B y = y := by simpa using h
      have cyy := (fb.root y hy).mp e
      refine ⟨_, rfl, ?_⟩
      rw [show y = c x from by rw [← cyy, cy]]
      exact k B H' fb hB keep none_
end
end K7
/-! classes that are put together -/
namespace K7
open L2 PySem PySem.Spec PyProof.Rows Kx RZ
/-- what must be one -/
inductive Tog (PR : Nat → Nat → Prop) (ts : List (List Int)) (cs : List Nat) (L : List Int) : Int → Int → Prop
  | seed {u v : Int} (h : Seed PR ts cs L u v) : Tog PR ts cs L u v
  | refl {u : Int} (h : u ∈ L) : Tog PR ts cs L u u
  | symm {u v : Int} (h : Tog PR ts cs L u v) : Tog PR ts cs L v u
  | trans {u v w : Int} (h : Tog PR ts cs L u v) (k : Tog PR ts cs L v w) : Tog PR ts cs L u w
  | step {u v : Int} (d : Nat) (hd : d < ts.length) (h : Tog PR ts cs L u v) : Tog PR ts cs L (tx (ts.getD d []) u) (tx (ts.getD d []) v)
/-- what R makes one -/
inductive Gen (L : List Int) (R : Int → Int → Prop) : Int → Int → Prop
  | of {a b : Int} (h : R a b) (ha : a ∈ L) (hb : b ∈ L) : Gen L R a b
  | refl {a : Int} (ha : a ∈ L) : Gen L R a a
  | symm {a b : Int} (h : Gen L R a b) : Gen L R b a
  | trans {a b c : Int} (h : Gen L R a b) (k : Gen L R b c) : Gen L R a c
theorem Gen.mono {L : List Int} {R R' : Int → Int → Prop} (m : ∀ a b, R a b → a ∈ L → b ∈ L → Gen L R' a b) {a b : Int} (h : Gen L R a b) : Gen L R' a b := by
  induction h with
  | of h ha hb => exact m _ _ h ha hb
  | refl ha => exact .refl ha
  | symm _ ih => exact ih.symm
  | trans _ _ i1 i2 => exact i1.trans i2
theorem Gen.eq {L : List Int} {c : Int → Int} {a b : Int} (h : Gen L (fun a b => c a = c b) a b) : c a = c b := by
  induction h with
  | of h _ _ => exact h
  | refl _ => rfl
  | symm _ ih => exact ih.symm
  | trans _ _ i1 i2 => exact i1.trans i2
section
variable {PR : Nat → Nat → Prop} {n : Nat} {ts : List (List Int)} {cs : List Nat} {L : List Int} {u v : Int}
theorem getD_mem {d : Nat} (h : d < ts.length) : ts.getD d [] ∈ ts := by
  rw [List.getD_eq_getElem?_getD, List.getElem?_eq_getElem h]
  exact List.getElem_mem h
theorem Wrl.exc (w : Wrl n ts L) {d : Nat} (h : d < ts.length) : Exc L (ts.getD d []) := (w.tab _ (getD_mem h)).2.2
theorem Seed.inL (w : Wrl n ts L) (h : Seed PR ts cs L u v) : u ∈ L ∧ v ∈ L := by
  cases h with
  | comm a b x pr ha hb hx => exact ⟨(w.exc hb).cl _ ((w.exc ha).cl _ hx), (w.exc ha).cl _ ((w.exc hb).cl _ hx)⟩
  | turn d _ hd hx => exact ⟨hx, (w.exc hd).it_in hx _⟩
theorem Tog.inL (w : Wrl n ts L) (h : Tog PR ts cs L u v) : u ∈ L ∧ v ∈ L := by
  induction h with
  | seed h => exact h.inL w
  | refl h => exact ⟨h, h⟩
  | symm _ ih => exact ⟨ih.2, ih.1⟩
  | trans _ _ i1 i2 => exact ⟨i1.1, i2.2⟩
  | step d hd _ ih => exact ⟨(w.exc hd).cl _ ih.1, (w.exc hd).cl _ ih.2⟩
end
abbrev Gp (L : List Int) (c : Int → Int) (tog : List (List Int)) : Int → Int → Prop := Gen L fun a b => c a = c b ∨ [a, b] ∈ tog
/-- what stands while classes are put together -/
structure Uni (PR : Nat → Nat → Prop) (ts : List (List Int)) (cs : List Nat) (L : List Int) (c : Int → Int) (tog : List (List Int)) : Prop where
  inL : ∀ pr ∈ tog, ∃ u v, pr = [u, v] ∧ u ∈ L ∧ v ∈ L
  sound : ∀ x ∈ L, ∀ y ∈ L, c x = c y → Tog PR ts cs L x y
  soundT : ∀ u v, [u, v] ∈ tog → Tog PR ts cs L u v
  seeds : ∀ u v, Seed PR ts cs L u v → Gp L c tog u v
  steps : ∀ x ∈ L, ∀ y ∈ L, c x = c y → ∀ d, d < ts.length → Gp L c tog (tx (ts.getD d []) x) (tx (ts.getD d []) y)
section
variable {PR : Nat → Nat → Prop} {n : Nat} {ts : List (List Int)} {cs : List Nat} {L : List Int} {c A : Int → Int} {ρ : Int → Nat} {tog rest : List (List Int)} {one other : Int}
theorem Uni.start (w : Wrl n ts L) (h1 : ∀ sd ∈ tog, ∃ u v, sd = [u, v] ∧ Seed PR ts cs L u v) (h2 : ∀ u v, Seed PR ts cs L u v → [u, v] ∈ tog) : Uni PR ts cs L (fun x => x) tog := by
  refine ⟨fun pr h => ?_, fun x hx y _ e => ?_, fun u v h => ?_, fun u v h => ?_, fun x hx y _ e d hd => ?_⟩
  · obtain ⟨u, v, rfl, sd⟩ := h1 pr h
    exact ⟨u, v, rfl, sd.inL w⟩
  · have e : x = y := e
    rw [← e]
    exact .refl hx
  · obtain ⟨u', v', e, sd⟩ := h1 _ h
    cases e
    exact .seed sd
  · exact .of (.inr (h2 u v h)) (h.inL w).1 (h.inL w).2
  · have e : x = y := e
    rw [← e]
    exact .refl ((w.exc hd).cl x hx)
/-- a pair that is one already -/
theorem Uni.skip (u : Uni PR ts cs L c (rest ++ [[one, other]])) (e : c one = c other) : Uni PR ts cs L c rest := by
  have m : ∀ {a b : Int}, Gp L c (rest ++ [[one, other]]) a b → Gp L c rest a b := fun h => h.mono fun a b r ha hb => by
    rcases r with r | r
    · exact .of (.inl r) ha hb
    · rcases List.mem_append.mp r with r | r
      · exact .of (.inr r) ha hb
      · have := List.mem_singleton.mp r
        cases this
        exact .of (.inl e) ha hb
  exact ⟨fun pr h => u.inL pr (List.mem_append_left _ h), u.sound, fun a b h => u.soundT a b (List.mem_append_left _ h), fun a b h => m (u.seeds a b h), fun x hx y hy e d hd => m (u.steps x hx y hy e d hd)⟩
/-- the class of k takes the class of d in -/
def join (c : Int → Int) (k d : Int) : Int → Int := fun x => if c x = d then k else c x
theorem join_eq {k d x y : Int} (h : c x = c y) : join c k d x = join c k d y := by unfold join; rw [h]
theorem join_or {k d x y : Int} (h : join c k d x = join c k d y) : c x = c y ∨ (c x = d ∧ c y = k) ∨ (c x = k ∧ c y = d) := by
  unfold join at h
  by_cases h1 : c x = d
  · by_cases h2 : c y = d
    · exact .inl (h1.trans h2.symm)
    · rw [if_pos h1, if_neg h2] at h
      exact .inr (.inl ⟨h1, h.symm⟩)
  · by_cases h2 : c y = d
    · rw [if_neg h1, if_pos h2] at h
      exact .inr (.inr ⟨h, h2⟩)
    · rw [if_neg h1, if_neg h2] at h
      exact .inl h
theorem Uni.put (w : Wrl n ts L) (u : Uni PR ts cs L c (rest ++ [[one, other]])) (h1 : one ∈ L) (h2 : other ∈ L) : Uni PR ts cs L (join c (c one) (c other)) (rest ++ ts.map fun t => [tx t one, tx t other]) := by
  have t12 := u.soundT one other (List.mem_append_right _ (List.mem_singleton.mpr rfl))
  have j12 : join c (c one) (c other) one = join c (c one) (c other) other := by
    unfold join
    rw [if_pos rfl]
    split <;> rfl
  have m : ∀ {a b : Int}, Gp L c (rest ++ [[one, other]]) a b → Gp L (join c (c one) (c other)) (rest ++ ts.map fun t => [tx t one, tx t other]) a b := fun h => h.mono fun a b r ha hb => by
    rcases r with r | r
    · exact .of (.inl (join_eq r)) ha hb
    · rcases List.mem_append.mp r with r | r
      · exact .of (.inr (List.mem_append_left _ r)) ha hb
      · have := List.mem_singleton.mp r
        cases this
        exact .of (.inl j12) ha hb
  have new : ∀ d, d < ts.length → Gp L (join c (c one) (c other)) (rest ++ ts.map fun t => [tx t one, tx t other]) (tx (ts.getD d []) one) (tx (ts.getD d []) other) := fun d hd =>
    .of (.inr (List.mem_append_right _ (List.mem_map.mpr ⟨_, getD_mem hd, rfl⟩))) ((w.exc hd).cl _ h1) ((w.exc hd).cl _ h2)
  refine ⟨fun pr h => ?_, fun x hx y hy e => ?_, fun a b h => ?_, fun a b h => m (u.seeds a b h), fun x hx y hy e d hd => ?_⟩
  · rcases List.mem_append.mp h with h | h
    · exact u.inL pr (List.mem_append_left _ h)
    · obtain ⟨t, ht, rfl⟩ := List.mem_map.mp h
      exact ⟨_, _, rfl, (w.tab t ht).2.2.cl _ h1, (w.tab t ht).2.2.cl _ h2⟩
  · rcases join_or e with e | ⟨e1, e2⟩ | ⟨e1, e2⟩
    · exact u.sound x hx y hy e
    · exact (u.sound x hx other h2 e1).trans (t12.symm.trans (u.sound one h1 y hy e2.symm))
    · exact (u.sound x hx one h1 e1).trans (t12.trans (u.sound other h2 y hy e2.symm))
  · rcases List.mem_append.mp h with h | h
    · exact u.soundT a b (List.mem_append_left _ h)
    · obtain ⟨t, ht, e⟩ := List.mem_map.mp h
      cases e
      obtain ⟨d, hd⟩ := List.getElem?_of_mem ht
      have := t12.step d (List.getElem?_eq_some_iff.mp hd).1
      rwa [getD_of hd] at this
  · rcases join_or e with e | ⟨e1, e2⟩ | ⟨e1, e2⟩
    · exact m (u.steps x hx y hy e d hd)
    · exact (m (u.steps x hx other h2 e1 d hd)).trans ((new d hd).symm.trans (m (u.steps one h1 y hy e2.symm d hd)))
    · exact (m (u.steps x hx one h1 e1 d hd)).trans ((new d hd).trans (m (u.steps other h2 y hy e2.symm d hd)))
/-- in the end -/
theorem Uni.done (w : Wrl n ts L) (u : Uni PR ts cs L c []) {x y : Int} (hx : x ∈ L) (hy : y ∈ L) : c x = c y ↔ Tog PR ts cs L x y := by
  refine ⟨u.sound x hx y hy, fun h => ?_⟩
  have g : ∀ {a b : Int}, Gp L c [] a b → c a = c b := fun h => Gen.eq (h.mono fun a b r ha hb => by
    rcases r with r | r
    · exact .of r ha hb
    · cases r)
  clear hx hy
  induction h with
  | seed h => exact g (u.seeds _ _ h)
  | refl _ => rfl
  | symm _ ih => exact ih.symm
  | trans _ _ i1 i2 => exact i1.trans i2
  | step d hd h ih =>
    obtain ⟨a, b⟩ := h.inL w
    exact g (u.steps _ a _ b ih d hd)
theorem Frs.join (f : Frs L A c ρ) {k d : Int} (hk : k ∈ L) (hd : d ∈ L) (ck : c k = k) (cd : c d = d) (ne : k ≠ d) : Frs L (fun z => if z = d then k else A z) (join c k d) fun z => if z = k then 0 else ρ z + 1 := by
  have jk : K7.join c k d k = k := by
    unfold K7.join
    rw [ck, if_neg ne]
  refine ⟨fun x hx => ?_, fun x hx => ?_, fun x hx => ?_, fun x hx => ?_, fun x hx => ?_, fun x hx h => ?_⟩
  · show (if x = d then k else A x) ∈ L
    split
    · exact hk
    · exact f.cl x hx
  · show (if c x = d then k else c x) ∈ L
    split
    · exact hk
    · exact f.cin x hx
  · show K7.join c k d (if c x = d then k else c x) = if c x = d then k else c x
    split
    · exact jk
    · rename_i h
      unfold K7.join
      rw [f.idem x hx, if_neg h]
  · show K7.join c k d (if x = d then k else A x) = K7.join c k d x
    split
    · rename_i e
      rw [jk, e]
      unfold K7.join
      rw [cd, if_pos rfl]
    · exact join_eq (f.up x hx)
  · show (if x = d then k else A x) = x ↔ (if c x = d then k else c x) = x
    by_cases e : x = d
    · rw [if_pos e, e, cd, if_pos rfl]
    · rw [if_neg e]
      by_cases e2 : c x = d
      · rw [if_pos e2]
        refine ⟨fun h => ?_, fun h => ?_⟩
        · exact absurd (((f.root x hx).mp h).symm.trans e2) e
        · rw [← h, ck] at e2
          exact absurd e2 ne
      · rw [if_neg e2]
        exact f.root x hx
  · have h : (if x = d then k else A x) ≠ x := h
    show (if (if x = d then k else A x) = k then 0 else ρ (if x = d then k else A x) + 1) < (if x = k then 0 else ρ x + 1)
    by_cases e : x = d
    · rw [if_pos e, if_pos rfl, e, if_neg (Ne.symm ne)]
      omega
    · rw [if_neg e] at h ⊢
      have xk : x ≠ k := fun z => by
        rw [z] at h
        exact h ((f.root k hk).mpr ck)
      have := f.low x hx h
      rw [if_neg xk]
      split <;> omega
/-- how many classes there are -/
def roots (L : List Int) (c : Int → Int) : Nat := (L.filter fun x => decide (c x = x)).length
theorem roots_join (nd : L.Nodup) {k d : Int} (hd : d ∈ L) (ck : c k = k) (cd : c d = d) (ne : k ≠ d) : roots L (K7.join c k d) + 1 = roots L c := by
  have e1 : (L.filter fun x => decide (K7.join c k d x = x)) = (L.filter fun x => decide (c x = x)).filter (fun x => decide (x ≠ d)) := by
    rw [List.filter_filter]
    refine List.filter_congr fun x _ => ?_
    rw [Bool.eq_iff_iff, Bool.and_eq_true, decide_eq_true_eq, decide_eq_true_eq, decide_eq_true_eq]
    unfold K7.join
    by_cases e : c x = d
    · rw [if_pos e]
      refine ⟨fun h => ?_, fun ⟨h1, h2⟩ => absurd (h2.symm.trans e) h1⟩
      rw [← h, ck] at e
      exact absurd e ne
    · rw [if_neg e]
      exact ⟨fun h => ⟨fun z => e (h.trans z), h⟩, fun h => h.2⟩
  unfold roots
  rw [e1]
  have nd' := nd.filter (fun x => decide (c x = x))
  have mem : d ∈ L.filter fun x => decide (c x = x) := List.mem_filter.mpr ⟨hd, decide_eq_true cd⟩
  have : (L.filter fun x => decide (c x = x)).filter (fun x => decide (x ≠ d)) = (L.filter fun x => decide (c x = x)).erase d := by
    rw [List.Nodup.erase_eq_filter nd']
    exact List.filter_congr fun x _ => by
      rw [Bool.eq_iff_iff, decide_eq_true_eq, bne_iff_ne]
  rw [this, List.length_erase_of_mem mem]
  have := List.length_pos_of_mem mem
  omega
theorem roots_le : roots L c ≤ L.length := List.length_filter_le _ _
end
end K7
/-! lots by the places of their classes -/
namespace K7
open L2 PySem PySem.Spec PyProof.Rows Kx RZ
def keysOf (c : Int → Int) (M : List Int) : List Int := M.foldl (fun ks x => if c x ∈ ks then ks else ks ++ [c x]) []
def inC (c : Int → Int) (M : List Int) (k : Int) : List Int := M.filter fun x => decide (c x = k)
def lotsOf (c : Int → Int) (M : List Int) : List (List Int) := (keysOf c M).map (inC c M)
section
variable {c : Int → Int} {M : List Int} {x k : Int}
theorem keys_snoc : keysOf c (M ++ [x]) = if c x ∈ keysOf c M then keysOf c M else keysOf c M ++ [c x] := by
  unfold keysOf
  rw [List.foldl_append]
  rfl
theorem snoc_ind {p : List Int → Prop} (h0 : p []) (h : ∀ M x, p M → p (M ++ [x])) : ∀ M, p M := fun M => by
  have : ∀ n, ∀ M : List Int, M.length = n → p M := fun n => by
    induction n with
    | zero => exact fun M e => by rw [List.length_eq_zero_iff.mp e]; exact h0
    | succ n ih =>
      intro M e
      have ne : M ≠ [] := fun z => by rw [z] at e; cases e
      rw [← List.dropLast_concat_getLast ne]
      exact h _ _ (ih _ (by rw [List.length_dropLast, e]; rfl))
  exact this _ M rfl
theorem mem_keys : ∀ {M : List Int}, k ∈ keysOf c M ↔ ∃ x ∈ M, c x = k := fun {M} => by
  refine snoc_ind (p := fun M => k ∈ keysOf c M ↔ ∃ x ∈ M, c x = k) ?_ (fun M x ih => ?_) M
  · exact ⟨fun h => (nomatch h), fun ⟨_, h, _⟩ => (nomatch h)⟩
  · rw [keys_snoc]
    constructor
    · intro h
      split at h
      · obtain ⟨y, hy, e⟩ := ih.mp h
        exact ⟨y, List.mem_append_left _ hy, e⟩
      · rcases List.mem_append.mp h with h | h
        · obtain ⟨y, hy, e⟩ := ih.mp h
          exact ⟨y, List.mem_append_left _ hy, e⟩
        · exact ⟨x, List.mem_append_right _ (List.mem_singleton.mpr rfl), (List.mem_singleton.mp h).symm⟩
    · rintro ⟨y, hy, e⟩
      rcases List.mem_append.mp hy with hy | hy
      · have := ih.mpr ⟨y, hy, e⟩
        split
        · exact this
        · exact List.mem_append_left _ this
      · rw [List.mem_singleton.mp hy] at e
        split
        · rename_i h
          rw [← e]; exact h
        · rw [← e]
          exact List.mem_append_right _ (List.mem_singleton.mpr rfl)
theorem keys_nodup : ∀ {M : List Int}, (keysOf c M).Nodup := fun {M} => by
  refine snoc_ind (p := fun M => (keysOf c M).Nodup) .nil (fun M x ih => ?_) M
  rw [keys_snoc]
  split
  · exact ih
  · rename_i no
    exact List.nodup_append.mpr ⟨ih, by simp, fun a ha b hb e => no (by rw [← List.mem_singleton.mp hb, ← e]; exact ha)⟩
theorem inC_snoc : inC c (M ++ [x]) k = if k = c x then inC c M k ++ [x] else inC c M k := by
  unfold inC
  rw [List.filter_append]
  by_cases e : c x = k
  · rw [if_pos e.symm, List.filter_cons_of_pos (by simpa using e)]
    rfl
  · rw [if_neg (Ne.symm e), List.filter_cons_of_neg (by simpa using e)]
    simp
theorem inC_new (h : k ∉ keysOf c M) : inC c M k = [] := List.filter_eq_nil_iff.mpr fun x hx => by
  intro z
  exact h (mem_keys.mpr ⟨x, hx, of_decide_eq_true z⟩)
theorem inC_len : (inC c M k).length ≤ M.length := List.length_filter_le _ _
end
/-- a dict of lists by numbers -/
def dicR (G : List (Int × Addr)) : List (Key × V) := G.map fun g => (Sum.inl g.1, V.ref g.2)
theorem valV_dicR {k : Int} : ∀ {G : List (Int × Addr)}, (k ∉ G.map Prod.fst → valV (dicR G) (.inl k) = none) ∧ (∀ v, valV (dicR G) (.inl k) = some v → ∃ a, v = .ref a ∧ (k, a) ∈ G)
  | [] => ⟨fun _ => rfl, fun v h => by cases h⟩
  | (j, b) :: G => by
    obtain ⟨h1, h2⟩ := valV_dicR (k := k) (G := G)
    have e : dicR ((j, b) :: G) = ((Sum.inl j : Key), V.ref b) :: dicR G := rfl
    by_cases z : j = k
    · subst z
      rw [e, valV_pos (p := ((Sum.inl j : Key), V.ref b)) rfl]
      exact ⟨fun h => absurd (List.mem_cons_self ..) h, fun v h => ⟨b, (Option.some.inj h).symm, List.mem_cons_self ..⟩⟩
    · rw [e, valV_neg (p := ((Sum.inl j : Key), V.ref b)) (fun q => z (Sum.inl.inj q))]
      exact ⟨fun h => h1 fun m => h (List.mem_cons_of_mem _ m), fun v h => by
        obtain ⟨a, ha, m⟩ := h2 v h
        exact ⟨a, ha, List.mem_cons_of_mem _ m⟩⟩
theorem dicR_no {k : Int} : ∀ {G : List (Int × Addr)}, valV (dicR G) (.inl k) = none → k ∉ G.map Prod.fst
  | [], _ => fun h => nomatch h
  | (j, b) :: G, h => by
    have e : dicR ((j, b) :: G) = ((Sum.inl j : Key), V.ref b) :: dicR G := rfl
    by_cases z : j = k
    · subst z
      rw [e, valV_pos (p := ((Sum.inl j : Key), V.ref b)) rfl] at h
      cases h
    · rw [e, valV_neg (p := ((Sum.inl j : Key), V.ref b)) (fun q => z (Sum.inl.inj q))] at h
      exact fun m => (List.mem_cons.mp m).elim (fun q => z q.symm) (dicR_no h)
theorem put_dicR {G : List (Int × Addr)} {k : Int} {a : Addr} (h : k ∉ G.map Prod.fst) : putK (dicR G) (.inl k) (.ref a) = dicR (G ++ [(k, a)]) := by
  rw [putK_new _ (valV_dicR.1 h)]
  unfold dicR
  rw [List.map_append]
  rfl
/-- what stands while lots are gathered: M is done -/
structure Gth (c : Int → Int) (M : List Int) (G : List (Int × Addr)) (H : Hp) : Prop where
  keys : G.map Prod.fst = keysOf c M
  nd : (G.map Prod.snd).Nodup
  lst : ∀ g ∈ G, H g.2 = some (.lst ((inC c M g.1).map V.int))
theorem Gth.old {c : Int → Int} {M : List Int} {G : List (Int × Addr)} {H H' : Hp} {x : Int} {a : Addr} (g : Gth c M G H) (m : (c x, a) ∈ G) (ha : H' a = some (.lst ((inC c M (c x) ++ [x]).map V.int))) (ke : ∀ b o, b ≠ a → H b = some o → H' b = some o) : Gth c (M ++ [x]) G H' := by
  have mk : c x ∈ keysOf c M := by rw [← g.keys]; exact List.mem_map.mpr ⟨_, m, rfl⟩
  refine ⟨by rw [keys_snoc, if_pos mk]; exact g.keys, g.nd, fun h hh => ?_⟩
  rw [inC_snoc]
  by_cases e : h.1 = c x
  · have : h = (c x, a) := by
      have nk : (G.map Prod.fst).Nodup := by rw [g.keys]; exact keys_nodup
      have inj : ∀ {G : List (Int × Addr)} {p q : Int × Addr}, (G.map Prod.fst).Nodup → p ∈ G → q ∈ G → p.1 = q.1 → p = q := fun {G} => by
        induction G with
        | nil => intro p q _ hp; cases hp
        | cons r G ih =>
          intro p q nd hp hq e
          rw [List.map_cons, List.nodup_cons] at nd
          rcases List.mem_cons.mp hp with hp | hp
          · rcases List.mem_cons.mp hq with hq | hq
            · rw [hp, hq]
            · exact absurd (List.mem_map.mpr ⟨q, hq, by rw [← e, hp]⟩) nd.1
          · rcases List.mem_cons.mp hq with hq | hq
            · exact absurd (List.mem_map.mpr ⟨p, hp, by rw [e, hq]⟩) nd.1
            · exact ih nd.2 hp hq e
      exact inj nk hh m e
    rw [if_pos e, this]
    exact ha
  · rw [if_neg e]
    refine ke _ _ (fun z => ?_) (g.lst h hh)
    have inj : ∀ {G : List (Int × Addr)} {p q : Int × Addr}, (G.map Prod.snd).Nodup → p ∈ G → q ∈ G → p.2 = q.2 → p = q := fun {G} => by
      induction G with
      | nil => intro p q _ hp; cases hp
      | cons r G ih =>
        intro p q nd hp hq e
        rw [List.map_cons, List.nodup_cons] at nd
        rcases List.mem_cons.mp hp with hp | hp
        · rcases List.mem_cons.mp hq with hq | hq
          · rw [hp, hq]
          · exact absurd (List.mem_map.mpr ⟨q, hq, by rw [← e, hp]⟩) nd.1
        · rcases List.mem_cons.mp hq with hq | hq
          · exact absurd (List.mem_map.mpr ⟨p, hp, by rw [e, hq]⟩) nd.1
          · exact ih nd.2 hp hq e
    have := inj g.nd hh m z
    rw [this] at e
    exact e rfl
theorem Gth.new {c : Int → Int} {M : List Int} {G : List (Int × Addr)} {H H' : Hp} {x : Int} {a : Addr} (g : Gth c M G H) (no : c x ∉ keysOf c M) (na : a ∉ G.map Prod.snd) (ha : H' a = some (.lst [.int x])) (ke : ∀ b o, b ≠ a → H b = some o → H' b = some o) : Gth c (M ++ [x]) (G ++ [(c x, a)]) H' := by
  refine ⟨by rw [keys_snoc, if_neg no, List.map_append, g.keys]; rfl, ?_, fun h hh => ?_⟩
  · rw [List.map_append]
    exact List.nodup_append.mpr ⟨g.nd, by simp, fun b hb d hd e => na (by have : d = a := List.mem_singleton.mp hd; rw [← this, ← e]; exact hb)⟩
  · rw [inC_snoc]
    rcases List.mem_append.mp hh with hh | hh
    · have mk : h.1 ∈ keysOf c M := by rw [← g.keys]; exact List.mem_map.mpr ⟨_, hh, rfl⟩
      rw [if_neg fun e => no (by rw [← e]; exact mk)]
      refine ke _ _ (fun z => na ?_) (g.lst h hh)
      rw [← z]
      exact List.mem_map.mpr ⟨_, hh, rfl⟩
    · rw [List.mem_singleton.mp hh, if_pos rfl, inC_new no]
      exact ha
end K7
/-! x = {k: v for ..}, x a local -/
namespace Kx
open L2 PySem PySem.Spec PyProof.Rows
section
variable {X : Cx}
theorem ps_setDc {i : Nat} {y : Str} {py : Pos} {kx vx tg iter : Expr} {ifs : List Expr} {scope : Scope} {own : List (Str × Nat)} {pos spos : Pos} {wi : TI} {g : TG} {tt : TT} {tk tv : TE} (hc : X.calm = true) (hN : X.N.Nodup) (hy : X.N[i]? = some y) (hyl : X.env.scope.names.lookup y = some .local)
    (hsw : swapsWith (.DictComp kx vx [⟨tg, iter, ifs, 0⟩] scope pos) (some (.Name y py)) spos.line X.env = pure true) (hi : PI X tg iter wi) (ok : BlkOk X.N X.env.scope scope own)
    (hg : ∀ (s : Shared) (H : Hp) (C : Addr) (cl : List (Str × Addr)) (fp : List Addr), PG (X.blk s H scope (compEnvC scope cl C X.env) fp) tg g) (ht : ∀ (s : Shared) (H : Hp) (C : Addr) (cl : List (Str × Addr)) (fp : List Addr), PTs (X.blk s H scope (compEnvC scope cl C X.env) fp) ifs tt)
    (hk : ∀ (s : Shared) (H : Hp) (C : Addr) (cl : List (Str × Addr)) (fp : List Addr), PE (X.blk s H scope (compEnvC scope cl C X.env) fp) kx tk)
    (he : ∀ (s : Shared) (H : Hp) (C : Addr) (cl : List (Str × Addr)) (fp : List Addr), PE (X.blk s H scope (compEnvC scope cl C X.env) fp) vx tv) (hs : ∀ x, foldedSetIterable iter X.env x = pure x := by intro _; rfl) :
    PS X (.Assign [.Name y py] (.DictComp kx vx [⟨tg, iter, ifs, 0⟩] scope pos) spos) (tAsg (tDc wi g tt tk tv (own.map (·.2))) (gName i)) := by
  refine ⟨fun pins s σ H D I h => ?_⟩
  rw [exec_Assign_Name_used _ _ _ _ hsw]
  refine wpAny_bind (wpAny_standAt (wpAny_bind ?_))
  show wpAny _ X.A (do let _ ← comprehension (.DictComp kx vx [⟨tg, iter, ifs, 0⟩] scope pos) scope X.env (firstIterPos [⟨tg, iter, ifs, 0⟩] pos) newDict false (eval iter X.env) (some (assign (.Name y py) X.env))) _ _ s
  have h : tDc wi g tt tk tv (own.map (·.2)) σ H (fun x H1 => gName i x σ H1 D.nx) := h
  refine wpAny_bind (thn (dc_core (Qf := fun _ s' => SP X pins D .next s') hc hN I hi ok hg ht hk he hs h fun L C s' m H' I' q hn f => ?_) fun _ s' hq => wpAny_pure (wpAny_pure hq))
  show wpAny _ _ (assign (.Name y py) X.env (.ref L)) _ _ _
  refine wpAny_assign_Name (store_ok2 (v := V.ref L) I' hN hy (.inl hyl) rfl (fun s2 I2 ⟨a, sb, ha⟩ => ?_) (.inr hyl))
  obtain ⟨f0, f1, f2, f3, f4, f5⟩ := f
  have haC : C ≠ a := by
    rcases ha with z | z
    · rw [z]; exact f1
    · exact fun e => f4 y a z e.symm
  refine ⟨m, hn.sameBut sb haC, fun h3 sb3 => ?_⟩
  exact ⟨_, H', I2.turned (t' := s2.toks) (fun b o hb e => (sb3.2 b hb).trans e) f0 f1 f3 f4 f5, q⟩
theorem sw_dict {kx vx : Expr} {gs : List Comprehension} {scope : Scope} {pos py : Pos} {y : Str} {l : Nat} {env : Env} (hk : env.scope.kind = .function) (hy : env.scope.names.lookup y = some .local) (hl : (py.line == pos.line) = true)
    (ha : (scope.names.any fun (n, k) => n == y && (k == .local || k == .cell)) = false) : swapsWith (.DictComp kx vx gs scope pos) (some (.Name y py)) l env = pure true := by
  have ky : env.kindOf y = some .local := hy
  have hb : env.blockKind = .function := by unfold Env.blockKind; rw [hk]; rfl
  unfold swapsWith
  simp only [hb, ky, ha, Expr.pos, hl]
  rfl
end
end Kx
/-! lots -/
namespace K7
open L2 PySem PySem.Spec PyProof.Rows Kx RZ
theorem pi_tupK {X : Cx} {K : PySem.W.Frag} {tg l : Expr} {tl : TE} (hl : PE X l tl) (hK : X.K = K := by rfl) : PI X tg l (iTup K tl) := by
  subst hK
  exact pi_tup hl
theorem nodup_take {L : List Int} {i : Nat} {x : Int} (nd : L.Nodup) (h : L[i]? = some x) : x ∉ L.take i := fun m => by
  obtain ⟨j, hj⟩ := List.mem_iff_getElem?.mp m
  have lt : j < i := by
    have := (List.getElem?_eq_some_iff.mp hj).1
    rw [List.length_take] at this
    omega
  rw [List.getElem?_take_of_lt lt] at hj
  have li := (List.getElem?_eq_some_iff.mp h).1
  have := List.pairwise_iff_getElem.mp nd j i (by omega) li lt
  rw [List.getElem?_eq_getElem (by omega)] at hj
  rw [List.getElem?_eq_getElem li] at h
  exact this ((Option.some.inj hj).trans (Option.some.inj h).symm)
theorem RowsBy.take {R : Addr → List V → Prop} : ∀ {vs : List V} {ts : List (List Int)} (i : Nat), RowsBy R vs ts → RowsBy R (vs.take i) (ts.take i)
  | _, _, 0, _ => by rw [List.take_zero, List.take_zero]; trivial
  | [], [], _ + 1, _ => trivial
  | _ :: _, _ :: _, i + 1, ⟨h1, h2⟩ => ⟨h1, RowsBy.take i h2⟩
  | [], _ :: _, _ + 1, h => h.elim
  | _ :: _, [], _ + 1, h => h.elim
theorem sqT_keep {K : PySem.W.Frag} {H H' : Hp} {d p : Addr} {kvs : List (Key × V)} {xs : List V} (ke : ∀ b o, b ≠ d → H b = some o → H' b = some o) (hd : H d = some (.dK kvs)) (h : SqT K H p xs) : SqT K H' p xs := by
  rcases h with (h | ⟨z, h⟩) | h
  · exact .inl (.inl (ke _ _ (ne_of h hd (fun z => nomatch z)) h))
  · exact .inl (.inr ⟨z, ke _ _ (ne_of h hd (fun z => nomatch z)) h⟩)
  · exact .inr h
/-- c tells the classes of what must be one -/
def Cls1 (PR : Nat → Nat → Prop) (ts : List (List Int)) (cs : List Nat) (L : List Int) (c : Int → Int) : Prop := ∀ x ∈ L, ∀ y ∈ L, (c x = c y ↔ Tog PR ts cs L x y)
def spLeast (K : PySem.W.Frag) : Sp := fun vs H Q _ => ∃ (p pl pq r : Addr) (ps pps : List V) (ts prs : List (List Int)) (L : List Int) (cs : List Nat) (n : Nat), vs = [.ref p, .ref pl, .ref pq, .ref r] ∧ SqT K H p ps ∧ RowsBy (SqT K H) ps ts ∧ SqT K H pl (L.map V.int) ∧ Sq K H pq pps ∧ RowsBy (Sq K H) pps prs ∧
  PairsOf ts.length prs ∧ Sq K H r (cs.map fun c => V.int (c : Nat)) ∧ ts.length = cs.length ∧ ts.length ≤ 4 ∧ Wrl n ts L ∧
  ∀ l H' qs c, Same H H' → SqT K H' l qs → RowsBy (SqT K H') qs (lotsOf c L) → Cls1 (Rl prs) ts cs L c → Q (.ref l) H'
section
variable {P : Program} {w : World} {K : PySem.W.Frag} {mg : Str → Option Value} {base : Heap} {f : Addr} {fd : FuncData} {a : Ad} {C CM : Addr}
abbrev lpN : List Str := ["tables", "places", "pairs", "rounds", "above", "together", "one", "other", "kept", "dropped", "lots", "place", "table", "lot"]
theorem sc_least : FnScope ["tables", "places", "pairs", "rounds", "above", "together", "one", "other", "kept", "dropped", "lots", "place", "table", "lot"] ["tables", "places", "pairs", "rounds"] (defScope s_least_parting) := ⟨rfl, rfl, rfl, by decide +kernel, rfl, by decide +kernel, by decide +kernel⟩
theorem ok_least (F : FnP K "least_parting" s_least_parting f fd) (T : Mg mg) (c_first : Cal P w K mg base CX0 3 "_first_together" ["tables", "places", "pairs", "rounds"] (spFirst K)) (c_top : Cal P w K mg base CX0 1 "_top" ["above", "place"] spTop) : FnOk P w K mg base CX0 4 f fd ["tables", "places", "pairs", "rounds"] (spLeast K) := by
  refine F.ok sc_least (fun vs H Q E h => ?_) (fun cdv A outer s H vs Q E hr h => ?_)
  · obtain ⟨p, pl, pq, r, ps, pps, ts, prs, L, cs, n, rfl, _⟩ := h
    rfl
  · obtain ⟨p, pl, pq, r, ps, pps, ts, prs, L, cs, n, rfl, hp, rows, hpl, hpq, prow, po, hc, lc, l4, wl, k⟩ := h
    refine ⟨_, PSs.nox (pss_cons (ps_mid (ps_setDc (i := 4) (own := [("place", 11)]) (by rfl) sc_least.nd rfl rfl (sw_dict rfl rfl rfl (by decide +kernel)) (pi_tup (pv 1)) (blkOk_by (own := [("place", 11)]) (N := ["tables", "places", "pairs", "rounds", "above", "together", "one", "other", "kept", "dropped", "lots", "place", "table", "lot"]) (sc := defScope s_least_parting) (by decide +kernel))
          (fun _ _ _ _ _ => (pg_name (i := 11) sc_least.nd rfl (by first | exact Or.inl rfl | exact Or.inr rfl))) (fun _ _ _ _ _ => pts_nil) (fun _ _ _ _ _ => pv 11) (fun _ _ _ _ _ => pv 11)))
      (pss_cons (ps_mid (ps_set (i := 5) sc_least.nd rfl (by first | exact Or.inl rfl | exact Or.inr rfl) (pe_callC c_first hr pass0 (pa_cons (pv 0) (pa_cons (pv 1) (pa_cons (pv 2) (pa_cons (pv 3) pa_nil)))))))
      (pss_cons (ps_mid (ps_while PassesOwn.never (pt_truth (pv 5) (by intro _; rfl))
        (pss_cons (ps_asg (pe_bm0 PySem.F.plainAttrs_list PySem.F.slot_list_pop PySem.F.type_list_pop mt_pop (pv 5)) (pg_tup rfl (pgs_cons (pg_name (i := 6) sc_least.nd rfl (by first | exact Or.inl rfl | exact Or.inr rfl)) (pgs_cons (pg_name (i := 7) sc_least.nd rfl (by first | exact Or.inl rfl | exact Or.inr rfl)) pgs_nil))))
        (pss_cons (ps_par (i := 8) (j := 9) (by rfl) sc_least.nd rfl rfl (by decide) rfl rfl (pa_cons (pe_callC c_top hr pass0 (pa_cons (pv 4) (pa_cons (pv 6) pa_nil))) (pa_cons (pe_callC c_top hr pass0 (pa_cons (pv 4) (pa_cons (pv 7) pa_nil))) pa_nil)) (by rfl))
        (pss_one (ps_if (pt_cmpR op_ne (pv 8) (pv 9) (nomark _))
          (pss_cons (ps_dput (r1 hr) (pv 4) (pv 9) (pv 8) rfl)
          (pss_one (ps_expr (pe_bm PySem.F.plainAttrs_list PySem.F.slot_list_extend PySem.F.type_list_extend mt_extend (pv 5) (pa_cons (pe_lc (own := [("table", 12)]) (by rfl) sc_least.nd (pi_tup (pv 0)) (blkOk_by (own := [("table", 12)]) (N := ["tables", "places", "pairs", "rounds", "above", "together", "one", "other", "kept", "dropped", "lots", "place", "table", "lot"]) (sc := defScope s_least_parting) (by decide +kernel))
            (fun _ _ _ _ _ => (pg_name (i := 12) sc_least.nd rfl (by first | exact Or.inl rfl | exact Or.inr rfl))) (fun _ _ _ _ _ => pts_nil)
            (fun _ _ _ _ _ => pe_tup (pa_cons (pe_ix (ix_tupK (K := K)) (pv 12) (pv 6) (fun _ _ => rfl)) (pa_cons (pe_ix (ix_tupK (K := K)) (pv 12) (pv 7) (fun _ _ => rfl)) pa_nil)))) pa_nil)))))
          pss_nil))))))
      (pss_cons (ps_mid (ps_set (i := 10) sc_least.nd rfl (by first | exact Or.inl rfl | exact Or.inr rfl) pe_dnewK))
      (pss_cons (ps_mid (ps_for PassesOwn.never rfl (pi_tup (pv 1)) (pg_name (i := 11) sc_least.nd rfl (by first | exact Or.inl rfl | exact Or.inr rfl))
        (pss_one (ps_expr (pe_bm PySem.F.plainAttrs_list PySem.F.slot_list_append PySem.F.type_list_append mt_append (pe_dsetd (pv 10) (pe_callC c_top hr pass0 (pa_cons (pv 4) (pa_cons (pv 11) pa_nil))) (pe_lst pa_nil) (by constructor <;> rfl)) (pa_cons (pv 11) pa_nil))))))
      (pss_one (ps_ret (pe_callTy call_tup (by rfl) T.z_tuple bt_tuple (pa_cons (pe_lock (pe_lc (own := [("lot", 13)]) (by rfl) sc_least.nd (pi_values (pv 10)) (blkOk_by (own := [("lot", 13)]) (N := ["tables", "places", "pairs", "rounds", "above", "together", "one", "other", "kept", "dropped", "lots", "place", "table", "lot"]) (sc := defScope s_least_parting) (by decide +kernel))
          (fun _ _ _ _ _ => (pg_name (i := 13) sc_least.nd rfl (by first | exact Or.inl rfl | exact Or.inr rfl))) (fun _ _ _ _ _ => pts_nil) (fun _ _ _ _ _ => pe_callTy (call_tupK (K := K)) (by rfl) T.z_tuple bt_tuple (pa_cons (pv 13) pa_nil)))) pa_nil))))))))), ?_⟩
    have few := wl.few
    have n8 := wl.n8
    refine ⟨fun σ' H' => ∃ d, σ' = [some (.ref p), some (.ref pl), some (.ref pq), some (.ref r), some (.ref d), none, none, none, none, none, none, none, none, none] ∧ Same H H' ∧ H d = none ∧ H' d = some (.dK (dict L fun x => x)), ?_, ?_⟩
    · refine ⟨_, rfl, pl, rfl, ⟨_, hpl⟩, fun D0 hD => turns (n := L.length) (fun i H' => Same H H' ∧ H' D0 = some (.dK (dict (L.take i) fun x => x))) ⟨same_new hD, upd_same⟩ ?_ ?_⟩
      · rintro i H1 hi ⟨e1, h1⟩
        have xi : L[i]? = some L[i] := List.getElem?_eq_getElem hi
        refine ⟨⟨_, V.int L[i], sqT_same e1 hpl, by rw [List.getElem?_map, xi]; rfl⟩, ?_⟩
        rintro v H2 ⟨rfl, hv⟩
        have ev := hv _ (sqT_same e1 hpl)
        rw [List.getElem?_map, xi] at ev
        cases ev
        refine ⟨rfl, yes ((if_pos rfl).mpr ?_)⟩
        refine ⟨_, rfl, _, rfl, _, .inl L[i], rfl, h1, by rw [dict_len, List.length_take, sizeLine_eq]; omega, same_put e1 hD, ?_⟩
        rw [upd_same, putK_more (nodup_take wl.nd xi), List.take_add_one, xi]
        congr 2
        exact dict_congr fun x _ => by
          by_cases e : x = L[i]
          · rw [if_pos e, e]
          · rw [if_neg e]
      · rintro H1 ⟨e1, h1⟩
        rw [List.take_length] at h1
        exact ⟨⟨_, sqT_same e1 hpl, by rw [List.length_map]; exact Nat.le_refl _⟩, D0, rfl, e1, hD, h1⟩
    rintro σ' H1 ⟨d, rfl, e1, nd, hd⟩
    refine ⟨fun σ' H' => ∃ tg, σ' = [some (.ref p), some (.ref pl), some (.ref pq), some (.ref r), some (.ref d), some (.ref tg), none, none, none, none, none, none, none, none] ∧ Same H H' ∧ H tg = none ∧ d ≠ tg ∧ H' d = some (.dK (dict L fun x => x)) ∧ ∃ qs sds, H' tg = some (.lst qs) ∧ RowsBy (SqT K H') qs sds ∧ Uni (Rl prs) ts cs L (fun x => x) sds ∧ sds.length ≤ 160, ?_, ?_⟩
    · refine ⟨_, rfl, _, rfl, _, rfl, _, rfl, p, pl, pq, r, ps, pps, ts, prs, L, cs, n, rfl, sqT_same e1 hp, rows.imp fun _ _ z => sqT_same e1 z, sqT_same e1 hpl, hpq.same e1, prow.imp fun _ _ z => z.same e1, po, hc.same e1, lc, l4, wl, fun l H2 qs sds e2 nl hl row2 are all fw => ?_⟩
      refine ⟨l, rfl, e1.trans e2, ?_, fun z => ?_, e2 _ _ hd, qs, sds, hl, row2, .start wl are all, fw⟩
      · cases z : H l with
        | none => rfl
        | some o => rw [e1 _ _ z] at nl; cases nl
      · rw [← z, hd] at nl
        cases nl
    clear e1 hd
    rintro σ' H2 ⟨tg, rfl, e2, nt, dt, hd2, qs0, sds0, ht2, row2, u0, fw0⟩
    refine ⟨fun σ' H' => ∃ (x6 x7 x8 x9 x12 : Option V) (A c : Int → Int) (ρ : Int → Nat), σ' = [some (.ref p), some (.ref pl), some (.ref pq), some (.ref r), some (.ref d), some (.ref tg), x6, x7, x8, x9, none, none, x12, none] ∧ Same H H' ∧ H' d = some (.dK (dict L A)) ∧ Frs L A c ρ ∧ Uni (Rl prs) ts cs L c [], ?_, ?_⟩
    · refine ⟨fun m σ' H' => ∃ (x6 x7 x8 x9 x12 : Option V) (A c : Int → Int) (ρ : Int → Nat) (qs : List V) (sds : List (List Int)), m = roots L c * 5 + sds.length ∧ m ≤ 200 ∧ σ' = [some (.ref p), some (.ref pl), some (.ref pq), some (.ref r), some (.ref d), some (.ref tg), x6, x7, x8, x9, none, none, x12, none] ∧ Same H H' ∧ H' d = some (.dK (dict L A)) ∧ Frs L A c ρ ∧ H' tg = some (.lst qs) ∧ RowsBy (SqT K H') qs sds ∧ Uni (Rl prs) ts cs L c sds, ⟨_, _, _, _, _, _, _, _, _, qs0, sds0, rfl, by have := roots_le (L := L) (c := fun x => x); omega, rfl, e2, hd2, .start, ht2, row2, u0⟩, ?_⟩
      rintro m σ' H3 ⟨x6, x7, x8, x9, x12, A', c, ρ, qs, sds, rfl, m200, rfl, e3, hd3, fr, ht3, row3, un⟩
      have lqs := row3.length
      cases hs : sds with
      | nil =>
        subst hs
        obtain rfl : qs = [] := List.length_eq_zero_iff.mp lqs
        exact ⟨_, rfl, false, .inl ⟨_, SqL.of ht3, rfl⟩, iteF ⟨x6, x7, x8, x9, x12, A', c, ρ, rfl, e3, hd3, fr, un⟩⟩
      | cons s0 s1 =>
      have ne : sds ≠ [] := fun z => by rw [z] at hs; cases hs
      have eds : sds = sds.dropLast ++ [sds.getLast ne] := (List.dropLast_concat_getLast ne).symm
      rw [← hs]
      clear hs
      generalize sds.getLast ne = lastp at eds
      generalize sds.dropLast = rest at eds
      subst eds
      clear ne
      obtain ⟨one, other, rfl, h1, h2⟩ := un.inL lastp (List.mem_append_right _ (List.mem_singleton.mpr rfl))
      obtain ⟨q, hq1, hq2⟩ := row3.at_ (i := rest.length) (t := [one, other]) (by rw [List.getElem?_append_right (Nat.le_refl _), Nat.sub_self]; rfl)
      rw [List.length_append, List.length_singleton] at lqs m200
      have eqs : qs = qs.dropLast ++ [.ref q] := by
        have nq : qs ≠ [] := fun z => by rw [z] at lqs; simp at lqs
        conv => lhs; rw [← List.dropLast_concat_getLast nq]
        congr 2
        rw [List.getLast_eq_getElem]
        have := List.getElem?_eq_some_iff.mp hq1
        obtain ⟨hh, e⟩ := this
        rw [← e]
        congr 1
        omega
      have rowR : RowsBy (SqT K H3) qs.dropLast rest := by
        have := row3.take rest.length
        rw [List.take_append_of_le_length (Nat.le_refl _), List.take_length] at this
        rwa [show qs.take rest.length = qs.dropLast from by rw [List.dropLast_eq_take]; congr 1; omega] at this
      have tru : true = !qs.isEmpty := by
        cases qs with
        | nil => simp at lqs
        | cons => rfl
      have lastq : qs[qs.length - 1]? = some (.ref q) := by rw [lqs]; exact hq1
      have l8 : L.length ≤ 8 := by omega
      refine ⟨_, rfl, true, .inl ⟨_, SqL.of ht3, tru⟩, iteT ?_⟩
      refine ⟨fun σ2 H5 => ∃ (x6 x7 x8 x9 x12 : Option V) (A2 c2 : Int → Int) (ρ2 : Int → Nat) (qs2 : List V) (sds2 : List (List Int)), roots L c2 * 5 + sds2.length < roots L c * 5 + (rest.length + 1) ∧ σ2 = [some (.ref p), some (.ref pl), some (.ref pq), some (.ref r), some (.ref d), some (.ref tg), x6, x7, x8, x9, none, none, x12, none] ∧ Same H H5 ∧ H5 d = some (.dK (dict L A2)) ∧ Frs L A2 c2 ρ2 ∧ H5 tg = some (.lst qs2) ∧ RowsBy (SqT K H5) qs2 sds2 ∧ Uni (Rl prs) ts cs L c2 sds2, ?_, ?_⟩
      · rintro σ2 H5 ⟨y6, y7, y8, y9, y12, A2, c2, ρ2, qs2, sds2, lt, z⟩
        exact ⟨_, by rw [List.length_append, List.length_singleton]; exact lt, y6, y7, y8, y9, y12, A2, c2, ρ2, qs2, sds2, rfl, by omega, z⟩
      refine ⟨_, rfl, .inl ⟨rfl, _, SqL.of ht3⟩, tg, qs, .ref q, rfl, rfl, ht3, lastq, ?_⟩
      have e4 : Same H (upd H3 tg (.lst qs.dropLast)) := same_put e3 nt
      have hd4 : (upd H3 tg (.lst qs.dropLast)) d = some (.dK (dict L A')) := by rw [upd_ne dt]; exact hd3
      have ht4 : (upd H3 tg (.lst qs.dropLast)) tg = some (.lst qs.dropLast) := upd_same
      have row4 : RowsBy (SqT K (upd H3 tg (.lst qs.dropLast))) qs.dropLast rest := rowR.imp fun _ _ z => sqT_lst ht3 z
      have hq4 : SqT K (upd H3 tg (.lst qs.dropLast)) q ([one, other].map V.int) := sqT_lst ht3 hq2
      generalize upd H3 tg (.lst qs.dropLast) = H4 at e4 hd4 ht4 row4 hq4 ⊢
      refine ⟨q, _, rfl, hq4, rfl, ?_⟩
      refine ⟨_, _, rfl, _, _, rfl, rfl, ?_⟩
      refine ⟨_, rfl, _, rfl, d, L, A', c, ρ, one, rfl, hd4, fr, h1, l8, fun A1 H5 fr1 hd5 ke5 no5 => ?_⟩
      have e5 : Same H H5 := fun b o hb => ke5 b o (fun z => by rw [z, nd] at hb; cases hb) (e4 b o hb)
      have ht5 := ke5 _ _ (Ne.symm dt) ht4
      have row5 := row4.imp fun _ _ z => sqT_keep ke5 hd4 z
      refine ⟨_, rfl, _, rfl, d, L, A1, c, ρ, other, rfl, hd5, fr1, h2, l8, fun A2 H6 fr2 hd6 ke6 no6 => ?_⟩
      have e6 : Same H H6 := fun b o hb => ke6 b o (fun z => by rw [z, nd] at hb; cases hb) (e5 b o hb)
      have ht6 := ke6 _ _ (Ne.symm dt) ht5
      have row6 := row5.imp fun _ _ z => sqT_keep ke6 hd5 z
      clear e4 hd4 ht4 row4 hq4 ke5 no5 ke6 no6 e5 hd5 ht5 row5 fr1 fr e3 hd3 ht3 row3 rowR hq2
      refine ⟨_, _, rfl, ?_⟩
      refine ⟨_, rfl, _, rfl, rfl, _, rfl, ite2 (fun h => ?_) (fun h => ?_)⟩
      · have ne : c one ≠ c other := by simpa using h
        have k1 := fr2.cin one h1
        have k2 := fr2.cin other h2
        refine ⟨_, rfl, _, rfl, _, rfl, d, _, rfl, DPut.k (k := .inl (c other)) hd6 (by rw [dict_len, sizeLine_eq]; omega), ?_⟩
        rw [putK_old k2]
        have fr7 := fr2.join k1 k2 (fr2.idem one h1) (fr2.idem other h2) ne
        have e7 : Same H (upd H6 d (.dK (dict L fun z => if z = c other then c one else A2 z))) := same_put e6 nd
        have hd7 : (upd H6 d (.dK (dict L fun z => if z = c other then c one else A2 z))) d = some (.dK (dict L fun z => if z = c other then c one else A2 z)) := upd_same
        have ht7 : (upd H6 d (.dK (dict L fun z => if z = c other then c one else A2 z))) tg = some (.lst qs.dropLast) := by rw [upd_ne (Ne.symm dt)]; exact ht6
        have row7 : RowsBy (SqT K (upd H6 d (.dK (dict L fun z => if z = c other then c one else A2 z)))) qs.dropLast rest := row6.imp fun _ _ z => sqT_keep (fun b o nb hb => by rw [upd_ne nb]; exact hb) hd6 z
        generalize upd H6 d (.dK (dict L fun z => if z = c other then c one else A2 z)) = H7 at e7 hd7 ht7 row7 ⊢
        have un7 := un.put wl h1 h2
        have rj := roots_join wl.nd k2 (fr2.idem one h1) (fr2.idem other h2) ne
        obtain ⟨o0, o1⟩ := wl.rng one h1
        obtain ⟨u0', u1'⟩ := wl.rng other h2
        have lps := rows.length
        refine ⟨_, rfl, .inl ⟨rfl, _, SqL.of ht7⟩, ?_⟩
        refine ⟨_, rfl, p, rfl, ⟨_, sqT_same e7 hp⟩, fun D5 hD5 => ?_⟩
        refine turns (n := ts.length) (fun j H' => ∃ us, Same H7 H' ∧ H' D5 = some (.lst us) ∧ RowsBy (SqT K H') us ((ts.take j).map fun t => [tx t one, tx t other])) ⟨[], same_new hD5, upd_same, trivial⟩ ?_ ?_
        · rintro j H8 hj ⟨us, e8, h8, row8⟩
          have e78 := e7.trans e8
          have tj : ts[j]? = some ts[j] := List.getElem?_eq_getElem hj
          obtain ⟨qa, a1, a2⟩ := rows.at_ tj
          obtain ⟨tl, tr, te⟩ := wl.tab _ (List.getElem_mem hj)
          refine ⟨⟨_, V.ref qa, sqT_same e78 hp, a1⟩, ?_⟩
          rintro v H9 ⟨rfl, hv⟩
          have ev := hv _ (sqT_same e78 hp)
          rw [a1] at ev
          cases ev
          refine ⟨rfl, yes ((if_pos rfl).mpr ?_)⟩
          refine ⟨_, rfl, _, rfl, qa, _, _, _, rfl, rfl, sqT_same e78 a2, at_int o0 (tr.at_ o0 (by rw [tl]; exact o1)).1, ?_⟩
          refine ⟨_, rfl, _, rfl, qa, _, _, _, rfl, rfl, sqT_same e78 a2, at_int u0' (tr.at_ u0' (by rw [tl]; exact u1')).1, ?_⟩
          refine ⟨(by show 2 ≤ sizeLine; decide), fun t ht => ?_⟩
          have e9 := same_new (o := HO.tup [V.int (tx ts[j] one), V.int (tx ts[j] other)]) ht
          have u9 : SqT K (upd H9 t (HO.tup [V.int (tx ts[j] one), V.int (tx ts[j] other)])) t ([tx ts[j] one, tx ts[j] other].map V.int) := SqT.of upd_same
          generalize upd H9 t (HO.tup [V.int (tx ts[j] one), V.int (tx ts[j] other)]) = H10 at *
          have lus := row8.length
          rw [List.length_map, List.length_take] at lus
          have h10 := e9 _ _ h8
          refine ⟨us, h10, by rw [sizeLine_eq]; omega, us ++ [.ref t], same_put (e8.trans e9) hD5, upd_same, ?_⟩
          rw [List.take_add_one, tj, List.map_append]
          exact RowsBy.snoc (sqT_lst h10 u9) (row8.imp fun _ _ z => sqT_lst h10 (sqT_same e9 z))
        · rintro H8 ⟨us, e8, h8, row8⟩
          rw [List.take_length] at row8
          refine ⟨⟨_, sqT_same (e7.trans e8) hp, by rw [lps]; exact Nat.le_refl _⟩, ?_⟩
          have ht8 := e8 _ _ ht7
          have hd8 := e8 _ _ hd7
          have row7' := row7.imp fun _ _ z => sqT_same e8 z
          have lq7 := row7.length
          have lu8 := row8.length
          rw [List.length_map] at lu8
          refine ⟨tg, D5, qs.dropLast, us, rfl, rfl, ht8, h8, by rw [sizeLine_eq]; omega, _, _, _, _, _, _, join c (c one) (c other), _, qs.dropLast ++ us, rest ++ ts.map fun t => [tx t one, tx t other], by rw [List.length_append, List.length_map]; omega, rfl, same_put (e7.trans e8) nt, by rw [upd_ne dt]; exact hd8, fr7, upd_same, (row7'.imp fun _ _ z => sqT_lst ht8 z).app (row8.imp fun _ _ z => sqT_lst ht8 z), un7⟩
      · have ee : c one = c other := by simpa using h
        exact ⟨_, _, _, _, _, A2, c, ρ, qs.dropLast, rest, by omega, rfl, e6, hd6, fr2, ht6, row6, un.skip ee⟩
    clear hd2 row2 ht2 u0 fw0
    rintro σ' H3 ⟨x6, x7, x8, x9, x12, A', c, ρ, rfl, e3, hd3, fr, un⟩
    have cl : Cls1 (Rl prs) ts cs L c := fun x hx y hy => un.done wl hx hy
    have l8 : L.length ≤ 8 := by omega
    clear un
    refine ⟨fun σ' H' => ∃ g, σ' = [some (.ref p), some (.ref pl), some (.ref pq), some (.ref r), some (.ref d), some (.ref tg), x6, x7, x8, x9, some (.ref g), none, x12, none] ∧ Same H H' ∧ H g = none ∧ g ≠ d ∧ H' d = some (.dK (dict L A')) ∧ H' g = some (.dK []), ?_, ?_⟩
    · refine fun g hg => ⟨g, rfl, e3.trans (same_new hg), ?_, fun z => ?_, same_new hg _ _ hd3, upd_same⟩
      · cases z : H g with
        | none => rfl
        | some o => rw [e3 _ _ z] at hg; cases hg
      · rw [z, hd3] at hg
        cases hg
    clear e3 hd3
    rintro σ' H4 ⟨g, rfl, e4, ng, gd, hd4, hg4⟩
    refine ⟨fun σ' H' => ∃ (x11 : Option V) (G : List (Int × Addr)), σ' = [some (.ref p), some (.ref pl), some (.ref pq), some (.ref r), some (.ref d), some (.ref tg), x6, x7, x8, x9, some (.ref g), x11, x12, none] ∧ Same H H' ∧ H' g = some (.dK (dicR G)) ∧ Gth c L G H', ?_, ?_⟩
    · refine ⟨_, rfl, pl, rfl, ⟨_, sqT_same e4 hpl⟩, ?_⟩
      refine for_tup (xs := L.map V.int) (fun i σ' H' => ∃ (x11 : Option V) (G : List (Int × Addr)) (A2 : Int → Int), σ' = [some (.ref p), some (.ref pl), some (.ref pq), some (.ref r), some (.ref d), some (.ref tg), x6, x7, x8, x9, some (.ref g), x11, x12, none] ∧ Same H H' ∧ H' g = some (.dK (dicR G)) ∧ Gth c (L.take i) G H' ∧ H' d = some (.dK (dict L A2)) ∧ Frs L A2 c ρ ∧ ∀ a ∈ G.map Prod.snd, H a = none) ⟨_, [], A', rfl, e4, hg4, ⟨rfl, .nil, fun _ h => nomatch h⟩, hd4, fr, fun _ h => nomatch h⟩ (fun i σ' H' _ z => by
        obtain ⟨_, _, _, _, e, _⟩ := z
        exact sqT_same e hpl) ?_ ?_
      · rintro i y σ' H5 hy ⟨x11, G, A2, rfl, e5, hg5, gt, hd5, fr2, free⟩
        obtain ⟨x, hx, rfl⟩ : ∃ x, L[i]? = some x ∧ y = .int x := by
          rw [List.getElem?_map, Option.map_eq_some_iff] at hy
          obtain ⟨z, h1, h2⟩ := hy
          exact ⟨z, h1, h2.symm⟩
        have xL := List.mem_of_getElem? hx
        have tk : L.take (i + 1) = L.take i ++ [x] := by rw [List.take_add_one, hx]; rfl
        rw [tk]
        refine ⟨_, rfl, g, rfl, .inl ⟨_, .inl hg5⟩, ?_⟩
        refine ⟨_, rfl, _, rfl, d, L, A2, c, ρ, x, rfl, hd5, fr2, xL, l8, fun A3 H6 fr3 hd6 ke6 no6 => ?_⟩
        have e6 : Same H H6 := fun b o hb => ke6 b o (fun z => by rw [z, nd] at hb; cases hb) (e5 b o hb)
        have hg6 := ke6 _ _ gd hg5
        have gt6 : Gth c (L.take i) G H6 := ⟨gt.keys, gt.nd, fun h hh => ke6 _ _ (ne_of (gt.lst h hh) hd5 (fun z => nomatch z)) (gt.lst h hh)⟩
        clear e5 hg5 gt hd5 ke6 fr2 no6
        refine ⟨(by show 0 ≤ sizeLine; decide), fun l hl => ?_⟩
        have e7 := same_new (o := HO.lst []) hl
        have u7 := upd_same (H := H6) (a := l) (o := HO.lst [])
        have nl : H l = none := by
          cases z : H l with
          | none => rfl
          | some o => rw [e6 _ _ z] at hl; cases hl
        have lG : l ∉ G.map Prod.snd := fun m => by
          obtain ⟨h, hh, z⟩ := List.mem_map.mp m
          have := gt6.lst h hh
          rw [z, hl] at this
          cases this
        have ld : l ≠ d := fun z => by rw [z, hd6] at hl; cases hl
        have lg : l ≠ g := fun z => by rw [z, hg6] at hl; cases hl
        have e67 := e6.trans e7
        have hg7 := e7 _ _ hg6
        have hd7 := e7 _ _ hd6
        have gt7 : Gth c (L.take i) G (upd H6 l (HO.lst [])) := ⟨gt6.keys, gt6.nd, fun h hh => e7 _ _ (gt6.lst h hh)⟩
        generalize upd H6 l (HO.lst []) = H7 at *
        have lk : (dicR G).length ≤ 8 := by
          have : (dicR G).length = (G.map Prod.fst).length := by unfold dicR; rw [List.length_map, List.length_map]
          rw [this, gt6.keys]
          have := nodup_le (keys_nodup (c := c) (M := L.take i)) (L := L) fun k hk => by
            obtain ⟨y, hy, rfl⟩ := mem_keys.mp hk
            exact fr3.cin y (List.mem_of_mem_take hy)
          omega
        refine ⟨dicR G, .inl (c x), hg7, rfl, by rw [sizeLine_eq]; omega, fun v hv => ?_, fun hn => ?_⟩
        · obtain ⟨a', rfl, m⟩ := valV_dicR.2 v hv
          have ha := gt7.lst _ m
          have na := free a' (List.mem_map.mpr ⟨_, m, rfl⟩)
          have ad : a' ≠ d := ne_of ha hd7 (fun z => nomatch z)
          have ag : a' ≠ g := ne_of ha hg7 (fun z => nomatch z)
          refine ⟨.inl ⟨rfl, _, SqL.of ha⟩, _, rfl, a', _, _, rfl, rfl, ha, by have := inC_len (c := c) (M := L.take i) (k := c x); rw [List.length_take] at this; show (List.map V.int (inC c (L.take i) (c x))).length < sizeLine; rw [List.length_map, sizeLine_eq]; omega, ?_⟩
          exact ⟨_, G, A3, rfl, same_put e67 na, by rw [upd_ne (Ne.symm ag)]; exact hg7, gt7.old m (by rw [upd_same, List.map_append]; rfl) (fun b o nb hb => by rw [upd_ne nb]; exact hb), by rw [upd_ne (Ne.symm ad)]; exact hd7, fr3, free⟩
        · have no := dicR_no hn
          rw [put_dicR no]
          have u8 : (upd H7 g (.dK (dicR (G ++ [(c x, l)])))) l = some (.lst []) := by rw [upd_ne lg]; exact u7
          refine ⟨.inl ⟨rfl, _, SqL.of u8⟩, _, rfl, l, _, _, rfl, rfl, u8, (by show 0 < sizeLine; decide), ?_⟩
          refine ⟨_, G ++ [(c x, l)], A3, rfl, same_put (same_put e67 ng) nl, by rw [upd_ne (Ne.symm lg)]; exact upd_same, ?_, by rw [upd_ne (Ne.symm ld), upd_ne (Ne.symm gd)]; exact hd7, fr3, fun b hb => ?_⟩
          · have gt8 : Gth c (L.take i) G (upd H7 g (.dK (dicR (G ++ [(c x, l)])))) := ⟨gt7.keys, gt7.nd, fun h hh => by rw [upd_ne (ne_of (gt7.lst h hh) hg7 (fun z => nomatch z))]; exact gt7.lst h hh⟩
            exact gt8.new (by rw [← gt7.keys]; exact no) lG upd_same (fun b o nb hb => by rw [upd_ne nb]; exact hb)
          · rw [List.map_append] at hb
            rcases List.mem_append.mp hb with hb | hb
            · exact free b hb
            · have : b = l := List.mem_singleton.mp hb
              rw [this]; exact nl
      · rintro σ' H5 ⟨x11, G, A2, rfl, e5, hg5, gt, hd5, fr2, free⟩
        rw [List.length_map, List.take_length] at gt
        exact ⟨_, G, rfl, e5, hg5, gt⟩
    have frin := fr.cin
    clear e4 hd4 hg4 fr
    rintro σ' H5 ⟨x11, G, rfl, e5, hg5, gt⟩
    refine ⟨g, .dK (dicR G), hg5, trivial, fun od => ?_⟩
    refine ⟨_, rfl, g, od, dicR G, rfl, upd_same, fun D0 hD => ?_⟩
    have lG : G.length = (keysOf c L).length := by rw [← gt.keys, List.length_map]
    have lk : G.length ≤ 8 := by
      rw [lG]
      have := nodup_le (keys_nodup (c := c) (M := L)) (L := L) fun k hk => by
        obtain ⟨y, hy, rfl⟩ := mem_keys.mp hk
        exact frin y hy
      omega
    have gD : g ≠ D0 := fun z => by rw [← z, upd_same] at hD; cases hD
    have nD : H5 D0 = none := by rw [upd_ne (Ne.symm gD)] at hD; exact hD
    refine turns (n := G.length) (fun i H' => ∃ us, H' g = some (.frz od (.dK (dicR G))) ∧ (∀ b o, b ≠ g → H5 b = some o → H' b = some o) ∧ H' D0 = some (.lst us) ∧ RowsBy (SqT K H') us (((keysOf c L).take i).map (inC c L))) ⟨[], by rw [upd_ne gD]; exact upd_same, fun b o nb hb => by rw [upd_ne (fun z => by rw [z, nD] at hb; cases hb), upd_ne nb]; exact hb, upd_same, trivial⟩ ?_ ?_
    · rintro i H6 hi ⟨us, f6, ke6, h6, row6⟩
      have gi : G[i]? = some G[i] := List.getElem?_eq_getElem hi
      have ki : (keysOf c L)[i]? = some G[i].1 := by rw [← gt.keys, List.getElem?_map, gi]; rfl
      refine ⟨⟨f6, by unfold dicR; rw [List.length_map]; exact hi⟩, ?_⟩
      rintro v H7 ⟨rfl, kk, hv⟩
      have hv' : v = .ref G[i].2 := by
        unfold dicR at hv
        rw [List.getElem?_map, gi] at hv
        have := Option.some.inj hv
        exact (congrArg Prod.snd this).symm
      subst hv'
      have ha := gt.lst _ (List.getElem_mem hi)
      have ha7 := ke6 _ _ (ne_of ha hg5 (fun z => nomatch z)) ha
      refine ⟨rfl, yes ((if_pos rfl).mpr ?_)⟩
      refine ⟨_, rfl, G[i].2, _, rfl, .inl (SqL.of ha7), fun t H8 e8 ht => ?_⟩
      have lus := row6.length
      rw [List.length_map, List.length_take] at lus
      have h8 := e8 _ _ h6
      refine ⟨us, h8, by rw [sizeLine_eq]; omega, us ++ [.ref t], by rw [upd_ne gD]; exact e8 _ _ f6, fun b o nb hb => ?_, upd_same, ?_⟩
      · rw [upd_ne (fun z => by rw [z, nD] at hb; cases hb)]
        exact e8 _ _ (ke6 b o nb hb)
      · rw [List.take_add_one, ki, List.map_append]
        exact RowsBy.snoc (sqT_lst h8 ht) (row6.imp fun _ _ z => sqT_lst h8 (sqT_same e8 z))
    · rintro H6 ⟨us, f6, ke6, h6, row6⟩
      refine ⟨⟨f6, by unfold dicR; rw [List.length_map]; exact Nat.le_refl _⟩, f6, ?_⟩
      rw [lG, List.take_length] at row6
      have un : ∀ {p : Addr} {xs : List V}, SqT K H6 p xs → SqT K (upd H6 g (.dK (dicR G))) p xs := fun {p xs} h => by
        rcases h with (h | ⟨z, h⟩) | h
        · exact .inl (.inl (by rw [upd_ne (ne_of h f6 (fun z => nomatch z))]; exact h))
        · exact .inl (.inr ⟨z, by rw [upd_ne (ne_of h f6 (fun z => nomatch z))]; exact h⟩)
        · exact .inr h
      refine ⟨D0, us, rfl, .inl (SqL.of (by rw [upd_ne (Ne.symm gD)]; exact h6)), fun t H7 e7 ht => ?_⟩
      exact k t H7 us c (fun b o hb => e7 b o (by rw [upd_ne (fun z => by rw [z, ng] at hb; cases hb)]; exact ke6 b o (fun z => by rw [z, ng] at hb; cases hb) (e5 b o hb))) ht (row6.imp fun _ _ z => sqT_same e7 (un z)) cl
end
end K7
/-! lots of a machine and counters -/
namespace K7
open L2 PySem PySem.Spec PyProof.Rows Kx RZ
/-- a machine that exchanges, and the states that come -/
structure Mch (n : Nat) (ts : List (List Int)) (s : Int) (L : List Int) : Prop where
  ok : Mok n ts
  s0 : 0 ≤ s
  s1 : s < (n : Int)
  ex : Exch ts s
  srt : L.Pairwise (· < ·)
  mem : ∀ x, x ∈ L ↔ Rch ts s x
theorem Mch.sL {n : Nat} {ts : List (List Int)} {s : Int} {L : List Int} (h : Mch n ts s L) : s ∈ L := (h.mem s).mpr .refl
theorem Mch.wrl {n : Nat} {ts : List (List Int)} {s : Int} {L : List Int} (h : Mch n ts s L) : Wrl n ts L := by
  have nd : L.Nodup := h.srt.imp fun a => Int.ne_of_lt a
  refine ⟨fun t ht => ⟨(Mok.inr h.ok ht).1, (Mok.inr h.ok ht).2, nd, fun x hx => ?_, fun x hx y hy e => h.ex t ht x y ((h.mem x).mp hx) ((h.mem y).mp hy) e⟩, fun x hx => h.ok.rch h.s0 h.s1 ((h.mem x).mp hx), h.ok.n8, nd⟩
  obtain ⟨d, hd⟩ := List.getElem?_of_mem ht
  have := ((h.mem x).mp hx).step (List.getElem?_eq_some_iff.mp hd).1
  rw [show nx ts d x = tx t x from by unfold nx tx; rw [getD_of hd]] at this
  exact (h.mem _).mpr this
theorem sorted_eq : ∀ {L M : List Int}, L.Pairwise (· < ·) → M.Pairwise (· < ·) → (∀ x, x ∈ L ↔ x ∈ M) → L = M
  | [], [], _, _, _ => rfl
  | x :: L, [], _, _, h => absurd ((h x).mp (List.mem_cons_self ..)) (by simp)
  | [], y :: M, _, _, h => absurd ((h y).mpr (List.mem_cons_self ..)) (by simp)
  | x :: L, y :: M, p, q, h => by
    obtain ⟨p1, p2⟩ := List.pairwise_cons.mp p
    obtain ⟨q1, q2⟩ := List.pairwise_cons.mp q
    have e : x = y := by
      rcases List.mem_cons.mp ((h x).mp (List.mem_cons_self ..)) with a | a
      · exact a
      · rcases List.mem_cons.mp ((h y).mpr (List.mem_cons_self ..)) with b | b
        · exact b.symm
        · have := q1 x a
          have := p1 y b
          omega
    subst e
    rw [sorted_eq p2 q2 fun z => ?_]
    have := h z
    constructor
    · intro hz
      rcases List.mem_cons.mp (this.mp (List.mem_cons_of_mem _ hz)) with a | a
      · have := p1 z hz
        omega
      · exact a
    · intro hz
      rcases List.mem_cons.mp (this.mpr (List.mem_cons_of_mem _ hz)) with a | a
      · have := q1 z hz
        omega
      · exact a
def natsOf (rs : List Int) : List Nat := rs.map Int.toNat
theorem nats_back {rs : List Int} (h : ∀ r ∈ rs, 0 ≤ r) : (natsOf rs).map (fun c => V.int (c : Nat)) = rs.map V.int := by
  unfold natsOf
  rw [List.map_map]
  exact List.map_congr_left fun r hr => by
    show V.int ((r.toNat : Nat) : Int) = V.int r
    rw [Int.toNat_of_nonneg (h r hr)]
theorem nats_len {rs : List Int} : (natsOf rs).length = rs.length := List.length_map ..
def spSettled (K : PySem.W.Frag) (CM : Addr) : Sp := fun vs H Q _ => ∃ (m pq r : Addr) (pps : List V) (n : Nat) (ts prs : List (List Int)) (s : Int) (cs : List Nat) (L : List Int), vs = [.ref m, .int s, .ref pq, .ref r] ∧ McAt K CM H m n ts ∧ Sq K H pq pps ∧ RowsBy (Sq K H) pps prs ∧ PairsOf ts.length prs ∧
  Sq K H r (cs.map fun c => V.int (c : Nat)) ∧ ts.length = cs.length ∧ Mch n ts s L ∧ ∀ l H' qs c, Same H H' → SqT K H' l qs → RowsBy (SqT K H') qs (lotsOf c L) → Cls1 (Rl prs) ts cs L c → Q (.ref l) H'
def spLots (K : PySem.W.Frag) (C CM : Addr) : Sp := fun vs H Q _ => ∃ (m c : Addr) (n : Nat) (ts : List (List Int)) (s : Int) (rs es L : List Int), vs = [.ref m, .int s, .ref c] ∧ McAt K CM H m n ts ∧ CnAt K C H c rs es ∧ rs.length = ts.length ∧ Mch n ts s L ∧
  ∀ l H' qs c, Same H H' → SqT K H' l qs → RowsBy (SqT K H') qs (lotsOf c L) → Cls1 (LtB ts.length) ts (natsOf rs) L c → Q (.ref l) H'
section
variable {P : Program} {w : World} {K : PySem.W.Frag} {mg : Str → Option Value} {base : Heap} {f : Addr} {fd : FuncData} {a : Ad} {C CM : Addr}
theorem sc_settled : FnScope ["machine", "first", "pairs", "rounds"] ["machine", "first", "pairs", "rounds"] (defScope s_settled) := ⟨rfl, rfl, rfl, by decide +kernel, rfl, by decide +kernel, by decide +kernel⟩
theorem ok_settled (F : FnP K "settled" s_settled f fd) (T : Mg mg) (TM : ClsM K mg CM) (c_exch : Cal P w K mg base (L2N.CX P w) 8 "need_exchanges" ["machine", "first"] (spExch K CM)) (c_least : Cal P w K mg base CX0 4 "least_parting" ["tables", "places", "pairs", "rounds"] (spLeast K)) (c_reached : Cal P w K mg base (L2N.CX P w) 6 "reached" ["machine", "first"] (spReached K a CM)) :
    FnOk P w K mg base (L2N.CX P w) 9 f fd ["machine", "first", "pairs", "rounds"] (spSettled K CM) := by
  refine F.ok sc_settled (fun vs H Q E h => ?_) (fun cdv A outer s H vs Q E hr h => ?_)
  · obtain ⟨m, pq, r, pps, n, ts, prs, s, cs, L, rfl, _⟩ := h
    rfl
  · obtain ⟨m, pq, r, pps, n, ts, prs, s0, cs, L, rfl, hm, hpq, prow, po, hc, lc, mc, k⟩ := h
    refine ⟨_, (pss_cons (ps_expr (pe_callC c_exch hr (L2N.passes_call (E := E) (L2N.takes_of rfl rfl rfl rfl) (fun _ _ _ _ z => z)) (pa_cons (pv 0) (pa_cons (pv 1) pa_nil))))
      (pss_one (ps_ret (pe_callC c_least hr pass0 (pa_cons (pe_fld (pv 0) rfl) (pa_cons (pe_callC c_reached hr (L2N.passes_call (E := E) (L2N.takes_of rfl rfl rfl rfl) (fun _ _ _ _ z => z)) (pa_cons (pv 0) (pa_cons (pv 1) pa_nil))) (pa_cons (pv 2) (pa_cons (pv 3) pa_nil)))))))), ?_⟩
    refine ⟨_, rfl, _, rfl, m, n, ts, s0, rfl, hm, mc.s0, mc.s1, mc.ex, fun H1 e1 => ?_⟩
    obtain ⟨ok, dx, t, ps, h1, h2, h3⟩ := id (hm.same e1)
    refine ⟨_, rfl, m, CM, dx, _, _, rfl, h1, TM.cl, TM.n3, rfl, ?_⟩
    refine ⟨_, rfl, _, rfl, m, n, ts, .int s0, rfl, hm.same e1, .int s0, fun z => bel_ne mc.s0 mc.s1 z, fun _ => ⟨s0, rfl, fun p L' H2 e2 srt mem hp => ?_⟩⟩
    have eL : L' = L := sorted_eq srt mc.srt fun x => (mem x).trans (mc.mem x).symm
    subst eL
    have e12 := e1.trans e2
    refine ⟨_, rfl, _, rfl, t, p, pq, r, ps, pps, ts, prs, L', cs, n, rfl, sqT_same e2 h2, h3.imp fun _ _ z => sqT_same e2 z, hp, hpq.same e12, prow.imp fun _ _ z => z.same e12, po, hc.same e12, lc, ok.l4, mc.wrl, fun l H3 qs c e3 hl hq cl => k l H3 qs c (e12.trans e3) hl hq cl⟩
theorem sc_lots : FnScope ["machine", "first", "counters"] ["machine", "first", "counters"] (defScope s_lots_of) := ⟨rfl, rfl, rfl, by decide +kernel, rfl, by decide +kernel, by decide +kernel⟩
theorem ok_lots (F : FnP K "lots_of" s_lots_of f fd) (T : Mg mg) (TM : ClsM K mg CM) (TC : ClsC K mg C) (c_state : Cal P w K mg base (L2N.CX P w) 3 "need_state" ["machine", "state"] (spState K a CM)) (c_fit : Cal P w K mg base (L2N.CX P w) 3 "need_fit" ["machine", "counters"] (spNeedFit K a C CM)) (c_settled : Cal P w K mg base (L2N.CX P w) 9 "settled" ["machine", "first", "pairs", "rounds"] (spSettled K CM)) (c_pairs : Cal P w K mg base CX0 1 "deed_pairs" ["deeds"] (spPairs K)) :
    FnOk P w K mg base (L2N.CX P w) 10 f fd ["machine", "first", "counters"] (spLots K C CM) := by
  refine F.ok sc_lots (fun vs H Q E h => ?_) (fun cdv A outer s H vs Q E hr h => ?_)
  · obtain ⟨m, c, n, ts, s, rs, es, L, rfl, _⟩ := h
    rfl
  · obtain ⟨m, c, n, ts, s0, rs, es, L, rfl, hm, hc, lc, mc, k⟩ := h
    refine ⟨_, (pss_cons (ps_expr (pe_callC c_state hr (L2N.passes_call (E := E) (L2N.takes_of rfl rfl rfl rfl) (fun _ _ _ _ z => z)) (pa_cons (pv 0) (pa_cons (pv 1) pa_nil))))
      (pss_cons (ps_expr (pe_callC c_fit hr (L2N.passes_call (E := E) (L2N.takes_of rfl rfl rfl rfl) (fun _ _ _ _ z => z)) (pa_cons (pv 0) (pa_cons (pv 2) pa_nil))))
      (pss_one (ps_ret (pe_callC c_settled hr (L2N.passes_call (E := E) (L2N.takes_of rfl rfl rfl rfl) (fun _ _ _ _ z => z)) (pa_cons (pv 0) (pa_cons (pv 1) (pa_cons (pe_callC c_pairs hr pass0 (pa_cons (pe_fld (pv 0) rfl) pa_nil)) (pa_cons (pe_fld (pv 2) rfl) pa_nil))))))))), ?_⟩
    obtain ⟨ok, dx, t, ps, h1, h2, h3⟩ := id hm
    obtain ⟨cok, dy, p, q, c1, c2, c3⟩ := id hc
    refine ⟨_, rfl, _, rfl, m, n, ts, .int s0, rfl, hm, .int s0, fun z => bel_ne mc.s0 mc.s1 z, fun _ => ?_⟩
    refine ⟨_, rfl, _, rfl, m, c, dx, _, ts.length, rs, es, rfl, h1, TM.cl, TM.n1, rfl, hc, fun z => absurd lc z, fun _ => ?_⟩
    refine ⟨_, rfl, _, rfl, _, rfl, m, CM, dx, _, _, rfl, h1, TM.cl, TM.n1, rfl, ts.length, rfl, ok.l4, fun l H1 ps' prs e1 nl hl prow po => ?_⟩
    refine ⟨_, rfl, c, C, dy, _, _, rfl, e1 _ _ c1, TC.cl, TC.n1, rfl, ?_⟩
    exact ⟨m, l, p, ps', n, ts, prs, s0, natsOf rs, L, rfl, hm.same e1, .inl (SqL.of hl), prow.imp fun _ _ z => .inr z, po.pairs, by rw [nats_back fun r hr => (cok.r r hr).1]; exact .inr (sqT_same e1 c2), by rw [nats_len]; exact lc.symm, mc, fun l H3 qs c e3 hl hq cl => k l H3 qs c (e1.trans e3) hl hq (po.rl ▸ cl)⟩
end
end K7
/-! lots: which they are, how great -/
namespace K7
open L2 PySem PySem.Spec PyProof.Rows Kx RZ
section
variable {c c' : Int → Int} {L : List Int} {x k : Int}
theorem mem_inC : x ∈ inC c L k ↔ x ∈ L ∧ c x = k := by
  unfold inC
  rw [List.mem_filter, decide_eq_true_eq]
theorem mem_lots {l : List Int} : l ∈ lotsOf c L ↔ ∃ x ∈ L, l = inC c L (c x) := by
  unfold lotsOf
  rw [List.mem_map]
  constructor
  · rintro ⟨k, hk, rfl⟩
    obtain ⟨x, hx, rfl⟩ := mem_keys.mp hk
    exact ⟨x, hx, rfl⟩
  · rintro ⟨x, hx, rfl⟩
    exact ⟨c x, mem_keys.mpr ⟨x, hx, rfl⟩, rfl⟩
theorem reps (h : ∀ x ∈ L, ∀ y ∈ L, (c x = c y ↔ c' x = c' y)) : ∀ M : List Int, (∀ x ∈ M, x ∈ L) → ∃ R : List Int, (∀ x ∈ R, x ∈ M) ∧ keysOf c M = R.map c ∧ keysOf c' M = R.map c' := by
  refine snoc_ind (p := fun M => (∀ x ∈ M, x ∈ L) → ∃ R : List Int, (∀ x ∈ R, x ∈ M) ∧ keysOf c M = R.map c ∧ keysOf c' M = R.map c') (fun _ => ⟨[], (fun _ h => nomatch h), rfl, rfl⟩) fun M x ih sub => ?_
  obtain ⟨R, r1, r2, r3⟩ := ih fun y hy => sub y (List.mem_append_left _ hy)
  have xL := sub x (List.mem_append_right _ (List.mem_singleton.mpr rfl))
  have same : c x ∈ keysOf c M ↔ c' x ∈ keysOf c' M := by
    rw [mem_keys, mem_keys]
    constructor
    · rintro ⟨y, hy, e⟩
      exact ⟨y, hy, (h y (sub y (List.mem_append_left _ hy)) x xL).mp e⟩
    · rintro ⟨y, hy, e⟩
      exact ⟨y, hy, (h y (sub y (List.mem_append_left _ hy)) x xL).mpr e⟩
  rw [keys_snoc, keys_snoc]
  by_cases m : c x ∈ keysOf c M
  · rw [if_pos m, if_pos (same.mp m)]
    exact ⟨R, fun y hy => List.mem_append_left _ (r1 y hy), r2, r3⟩
  · rw [if_neg m, if_neg fun z => m (same.mpr z)]
    refine ⟨R ++ [x], fun y hy => ?_, by rw [r2, List.map_append]; rfl, by rw [r3, List.map_append]; rfl⟩
    rcases List.mem_append.mp hy with hy | hy
    · exact List.mem_append_left _ (r1 y hy)
    · exact List.mem_append_right _ hy
theorem inC_eq (h : ∀ x ∈ L, ∀ y ∈ L, (c x = c y ↔ c' x = c' y)) (hx : x ∈ L) : inC c L (c x) = inC c' L (c' x) := List.filter_congr fun y hy => by
  rw [Bool.eq_iff_iff, decide_eq_true_eq, decide_eq_true_eq]
  exact h y hy x hx
theorem lots_eq (h : ∀ x ∈ L, ∀ y ∈ L, (c x = c y ↔ c' x = c' y)) : lotsOf c L = lotsOf c' L := by
  obtain ⟨R, r1, r2, r3⟩ := reps h L fun _ h => h
  unfold lotsOf
  rw [r2, r3, List.map_map, List.map_map]
  exact List.map_congr_left fun x hx => inC_eq h (r1 x hx)
theorem Cls1.eq {PR : Nat → Nat → Prop} {ts : List (List Int)} {cs : List Nat} (h : Cls1 PR ts cs L c) (h' : Cls1 PR ts cs L c') : ∀ x ∈ L, ∀ y ∈ L, (c x = c y ↔ c' x = c' y) := fun x hx y hy => (h x hx y hy).trans (h' x hx y hy).symm
/-- the class of x in L -/
def cls (c : Int → Int) (L : List Int) (x : Int) : List Int := inC c L (c x)
theorem mem_cls {y : Int} : y ∈ cls c L x ↔ y ∈ L ∧ c y = c x := mem_inC
theorem cls_nodup (nd : L.Nodup) : (cls c L x).Nodup := nd.filter _
section
variable {PR : Nat → Nat → Prop} {n : Nat} {ts : List (List Int)} {cs : List Nat}
theorem cls_step (w : Wrl n ts L) (h : Cls1 PR ts cs L c) {t : List Int} (ht : t ∈ ts) (hx : x ∈ L) : (cls c L x).length ≤ (cls c L (tx t x)).length := by
  have te := (w.tab t ht).2.2
  obtain ⟨d, hd⟩ := List.getElem?_of_mem ht
  have ld := (List.getElem?_eq_some_iff.mp hd).1
  have := nodup_le (F := (cls c L x).map (tx t)) (L := cls c L (tx t x)) ?_ fun y hy => ?_
  · rwa [List.length_map] at this
  · refine List.pairwise_map.mpr ((cls_nodup w.nd).imp_of_mem fun {a b} ha hb ne z => ne ?_)
    exact te.inj a (mem_cls.mp ha).1 b (mem_cls.mp hb).1 z
  · obtain ⟨z, hz, rfl⟩ := List.mem_map.mp hy
    obtain ⟨zL, ze⟩ := mem_cls.mp hz
    refine mem_cls.mpr ⟨te.cl z zL, (h _ (te.cl z zL) _ (te.cl x hx)).mpr ?_⟩
    have := ((h z zL x hx).mp ze).step d ld
    rwa [getD_of hd] at this
theorem cls_it (w : Wrl n ts L) (h : Cls1 PR ts cs L c) {t : List Int} (ht : t ∈ ts) (hx : x ∈ L) : ∀ k, (cls c L x).length ≤ (cls c L (it t k x)).length
  | 0 => Nat.le_refl _
  | k + 1 => Nat.le_trans (cls_it w h ht hx k) (cls_step w h ht ((w.tab t ht).2.2.it_in hx k))
theorem cls_same (w : Wrl n ts L) (h : Cls1 PR ts cs L c) {t : List Int} (ht : t ∈ ts) (hx : x ∈ L) : (cls c L (tx t x)).length = (cls c L x).length := by
  have te := (w.tab t ht).2.2
  obtain ⟨p, _, _, per⟩ := w.per ht hx
  have c1 := per.c1
  have : it t (p - 1) (tx t x) = x := by
    have e : it t (1 + (p - 1)) x = x := by rw [show 1 + (p - 1) = p by omega]; exact per.back
    rw [it_add] at e
    exact e
  have a := cls_it w h ht (te.cl x hx) (p - 1)
  rw [this] at a
  have b := cls_step w h ht hx
  omega
/-- all lots are equally great -/
theorem cls_len {s : Int} (mc : Mch n ts s L) (h : Cls1 PR ts cs L c) (hx : x ∈ L) : (cls c L x).length = (cls c L s).length := by
  obtain ⟨row, h1, e⟩ := (mc.mem x).mp hx
  have w := mc.wrl
  have := closed_all (ts := ts) (F := L.filter fun x => decide ((cls c L x).length = (cls c L s).length)) (fun y hy d hd => ?_) (row := row) (s := s) (List.mem_filter.mpr ⟨mc.sL, decide_eq_true rfl⟩) h1
  · rw [← e] at this
    exact of_decide_eq_true (List.mem_filter.mp this).2
  · obtain ⟨yL, ye⟩ := List.mem_filter.mp hy
    have ye := of_decide_eq_true ye
    have m := getD_mem (ts := ts) hd
    have e1 : nx ts d y = tx (ts.getD d []) y := rfl
    refine List.mem_filter.mpr ⟨by rw [e1]; exact (w.exc hd).cl y yL, decide_eq_true ?_⟩
    rw [e1, cls_same w h m yL, ye]
end
end
end K7
/-! the lot that holds a state; the fold -/
namespace K7
open L2 PySem PySem.Spec PyProof.Rows Kx RZ
theorem op_inK {X : Cx} {K : PySem.W.Frag} (hK : X.K = K := by rfl) : OpR X (compareOp .In) (rIn K false) := by
  subst hK
  exact op_in_seq
/-- q from behind j on -/
def oneFrom (q : Addr) (j i : Nat) : List V := if j < i then [.ref q] else []
theorem oneFrom_yes {q : Addr} {j i : Nat} (h : j < i) : oneFrom q j i = [.ref q] := if_pos h
theorem oneFrom_no {q : Addr} {j i : Nat} (h : ¬ j < i) : oneFrom q j i = [] := if_neg h
def spSize (K : PySem.W.Frag) (C CM : Addr) : Sp := fun vs H Q _ => ∃ (m c : Addr) (n : Nat) (ts : List (List Int)) (s : Int) (rs es L : List Int), vs = [.ref m, .int s, .ref c] ∧ McAt K CM H m n ts ∧ CnAt K C H c rs es ∧ rs.length = ts.length ∧ Mch n ts s L ∧
  ∀ c H', Same H H' → Cls1 (LtB ts.length) ts (natsOf rs) L c → Q (.int ((cls c L s).length : Nat)) H'
section
variable {P : Program} {w : World} {K : PySem.W.Frag} {mg : Str → Option Value} {base : Heap} {f : Addr} {fd : FuncData} {a : Ad} {C CM : Addr}
theorem sc_fold_size : FnScope ["machine", "first", "counters"] ["machine", "first", "counters"] (defScope s_fold_size) := ⟨rfl, rfl, rfl, by decide +kernel, rfl, by decide +kernel, by decide +kernel⟩
theorem ok_fold_size (F : FnP K "fold_size" s_fold_size f fd) (T : Mg mg) (c_lots : Cal P w K mg base (L2N.CX P w) 10 "lots_of" ["machine", "first", "counters"] (spLots K C CM)) : FnOk P w K mg base (L2N.CX P w) 11 f fd ["machine", "first", "counters"] (spSize K C CM) := by
  refine F.ok sc_fold_size (fun vs H Q E h => ?_) (fun cdv A outer s H vs Q E hr h => ?_)
  · obtain ⟨m, c, n, ts, s, rs, es, L, rfl, _⟩ := h
    rfl
  · obtain ⟨m, c, n, ts, s0, rs, es, L, rfl, hm, hc, lc, mc, k⟩ := h
    refine ⟨_, (pss_one (ps_ret (pe_callB call_len_seq (by rfl) T.z_len PySem.boot_len (pa_cons (pe_ix ix_tup (pe_callC c_lots hr (L2N.passes_call (E := E) (L2N.takes_of rfl rfl rfl rfl) (fun _ _ _ _ z => z)) (pa_cons (pv 0) (pa_cons (pv 1) (pa_cons (pv 2) pa_nil)))) pe_int (fun _ _ => rfl)) pa_nil)))), ?_⟩
    refine ⟨_, rfl, _, rfl, _, rfl, m, c, n, ts, s0, rs, es, L, rfl, hm, hc, lc, mc, fun l H1 qs cl e1 hl hq hcl => ?_⟩
    obtain ⟨l0, h0⟩ : ∃ l0, (lotsOf cl L)[0]? = some l0 := by
      have : 0 < (lotsOf cl L).length := List.length_pos_of_mem (mem_lots.mpr ⟨s0, mc.sL, rfl⟩)
      exact ⟨_, List.getElem?_eq_getElem this⟩
    obtain ⟨x, hx, rfl⟩ := mem_lots.mp (List.mem_of_getElem? h0)
    obtain ⟨q, q1, q2⟩ := hq.at_ h0
    refine ⟨l, qs, 0, _, rfl, rfl, hl, atI_nat (j := 0) q1, q, _, rfl, .inr q2, ?_⟩
    rw [List.length_map, show (inC cl L (cl x)).length = (cls cl L s0).length from cls_len mc hcl hx]
    exact k cl H1 e1 hcl
end
end K7
/-! the law's draws -/
namespace K7
open PySem PySem.Spec PyProof.Rows L2 Kx RZ
/-- a source of draws -/
def bx (t : Int × Int) : HO := .lst [.int t.1, .int t.2]
/-- from H to H' only the source at b has moved, things were made -/
def Mv (b : Addr) (H H' : Hp) : Prop := (∀ c o, c ≠ b → H c = some o → H' c = some o) ∧ ∃ t, H' b = some (bx t)
theorem Mv.refl {b : Addr} {H : Hp} {t : Int × Int} (h : H b = some (bx t)) : Mv b H H := ⟨fun _ _ _ h => h, t, h⟩
theorem Mv.trans {b : Addr} {H H1 H2 : Hp} (h : Mv b H H1) (g : Mv b H1 H2) : Mv b H H2 := ⟨fun c o ne q => g.1 c o ne (h.1 c o ne q), g.2⟩
theorem Mv.same {b : Addr} {H H1 H2 : Hp} (h : Mv b H H1) (g : Same H1 H2) : Mv b H H2 := ⟨fun c o ne q => g c o (h.1 c o ne q), h.2.elim fun t q => ⟨t, g _ _ q⟩⟩
theorem Mv.upd {b : Addr} {H : Hp} (t : Int × Int) : Mv b H (L2.upd H b (bx t)) := ⟨fun c o ne q => by rw [upd_ne ne]; exact q, t, upd_same⟩
section
variable {K : PySem.W.Frag} {b a : Addr} {H H' : Hp} {t : Int × Int} {xs : List V}
theorem Mv.rd {u : HO} (m : Mv b H H') (hb : H b = some (bx t)) (n1 : ∀ ys, u ≠ .lst ys) (h : Rd H a u) : Rd H' a u := by
  rcases h with h | ⟨z, h⟩
  · exact .inl (m.1 _ _ (ne_of h hb (n1 _)) h)
  · exact .inr ⟨z, m.1 _ _ (ne_of h hb (fun z => nomatch z)) h⟩
theorem Mv.sqT (m : Mv b H H') (hb : H b = some (bx t)) (h : SqT K H a xs) : SqT K H' a xs := h.imp (m.rd hb fun _ z => nomatch z) id
theorem Mv.sqL (m : Mv b H H') (ne : a ≠ b) (h : SqL K H a xs) : SqL K H' a xs := h.imp (fun h => h.elim (fun h => .inl (m.1 _ _ ne h)) fun ⟨z, h⟩ => .inr ⟨z, m.1 _ _ ne h⟩) id
theorem Mv.tupD (m : Mv b H H') (hb : H b = some (bx t)) (h : TupD H a xs) : TupD H' a xs := h.elim fun o h => ⟨o, m.1 _ _ (ne_of h.1 hb (fun z => nomatch z)) h.1, h.2⟩
theorem Mv.mc {C c : Addr} {n : Nat} {ts : List (List Int)} (m : Mv b H H') (hb : H b = some (bx t)) (h : McAt K C H c n ts) : McAt K C H' c n ts := by
  obtain ⟨ok, dx, p, ps, h1, h2, h3⟩ := h
  exact ⟨ok, dx, p, ps, m.1 _ _ (ne_of h1 hb (fun z => nomatch z)) h1, m.sqT hb h2, h3.imp fun _ _ q => m.sqT hb q⟩
end
def spTake : Sp := fun vs H Q _ => ∃ (b : Addr) (t : Int × Int) (many : Int), vs = [.ref b, .int many] ∧ H b = some (bx t) ∧ 0 < many ∧ many < 1073741824 ∧
  ∀ (r : Int) (H' : Hp), 0 ≤ r → r < many → Mv b H H' → Q (.int r) H'
def spPick (K : PySem.W.Frag) : Sp := fun vs H Q _ => ∃ (b a : Addr) (t : Int × Int) (xs : List V), vs = [.ref b, .ref a] ∧ H b = some (bx t) ∧ a ≠ b ∧ SqL K H a xs ∧ 0 < xs.length ∧ xs.length < 1073741824 ∧
  ∀ (v : V) (H' : Hp), v ∈ xs → Mv b H H' → Q v H'
def spBox (K : PySem.W.Frag) : Sp := fun vs H Q _ => ∃ (a : Addr) (ns : List Int) (k : Nat), vs = [.ref a, .int (k : Int)] ∧ SqL K H a (ns.map V.int) ∧ ns.length ≤ 63 ∧
  ∀ (H' : Hp) (b : Addr) (t : Int × Int), Same H H' → H b = none → H' b = some (bx t) → Q (.ref b) H'
section
variable {P : Program} {w : World} {K : PySem.W.Frag} {mg : Str → Option Value} {base : Heap} {f : Addr} {fd : FuncData} {a : Ad} {C CM : Addr}
theorem sc_law_take : FnScope ["box", "many", "digit", "raw"] ["box", "many"] (defScope s_law_take) := ⟨rfl, rfl, rfl, by decide +kernel, rfl, by decide +kernel, by decide +kernel⟩
theorem ok_take (F : FnP K "_law_take" s_law_take f fd) (T : Mg mg) : FnOk P w K mg base CX0 1 f fd ["box", "many"] spTake := by
  refine F.ok sc_law_take (fun vs H Q E h => ?_) (fun cdv A outer s H vs Q E hr h => ?_)
  · obtain ⟨b, t, many, rfl, _⟩ := h
    rfl
  · obtain ⟨b, ⟨x, y⟩, many, rfl, hb, h0, h1, k⟩ := h
    refine ⟨_, PSs.nox (pss_cons (ps_if (pt_cmpR op_gt (pe_ix ix_list (pv 0) pe_int (fun _ _ => rfl)) pe_int (nomark _))
  (pss_cons (ps_set (i := 2) sc_law_take.nd rfl (by first | exact Or.inl rfl | exact Or.inr rfl) (pe_op op_mod (pe_callTy call_int1 (by rfl) T.z_int (by decide +kernel) (pa_cons (pe_ix ix_list (pv 0) pe_int (fun _ _ => rfl)) pa_nil)) (pv 1)))
  (pss_cons (ps_asg (pe_op op_fdivN (pe_ix ix_list (pv 0) pe_int (fun _ _ => rfl)) (pv 1)) (pg_sub (pv 0) pe_int set_list))
  (pss_one (ps_ret (pv 2)))))
  pss_nil)
  (pss_cons (ps_set (i := 3) sc_law_take.nd rfl (by first | exact Or.inl rfl | exact Or.inr rfl) (pe_op op_mod (pe_callTy call_int1 (by rfl) T.z_int (by decide +kernel) (pa_cons (pe_op op_add (pe_op op_mul (pe_ix ix_list (pv 0) pe_int (fun _ _ => rfl)) pe_int) pe_int) pa_nil)) pe_int))
  (pss_cons (ps_asg (pe_op op_add (pe_op op_mod (pe_callTy call_int1 (by rfl) T.z_int (by decide +kernel) (pa_cons (pe_op op_add (pe_op op_mul (pv 3) pe_int) pe_int) pa_nil)) pe_int) pe_int) (pg_sub (pv 0) pe_int set_list))
  (pss_one (ps_ret (pe_op op_mod (pe_callTy call_int1 (by rfl) T.z_int (by decide +kernel) (pa_cons (pe_op op_fdiv (pe_op op_add (pe_op op_mul (pv 3) pe_int) (pe_ix ix_list (pv 0) pe_int (fun _ _ => rfl))) pe_int) pa_nil)) (pv 1))))))), ?_⟩
    refine ⟨_, rfl, b, _, 0, _, rfl, rfl, SqL.of hb, rfl, _, _, rfl, rfl, _, rfl, ?_⟩
    refine ite2 (fun hx => ?_) (fun hx => ?_)
    · refine ⟨_, rfl, b, _, 0, _, rfl, rfl, SqL.of hb, rfl, .inl ⟨_, rfl, _, rfl, _, _, rfl, rfl, h0, ?_⟩⟩
      refine ⟨_, rfl, b, _, 0, _, rfl, rfl, SqL.of hb, rfl, _, rfl, _, _, rfl, rfl, ⟨by omega, by omega⟩, ?_⟩
      refine ⟨_, rfl, b, _, 0, 0, rfl, rfl, hb, rfl, ?_⟩
      exact ⟨_, rfl, k _ _ (Int.emod_nonneg _ (by omega)) (Int.emod_lt_of_pos _ h0) (Mv.upd (x.fdiv many, y))⟩
    · refine ⟨_, rfl, b, _, 1, _, rfl, rfl, SqL.of hb, rfl, _, _, rfl, rfl, .inr ⟨by decide, by decide⟩, _, _, rfl, rfl, .inl ⟨_, rfl, _, _, rfl, rfl, (by show (0 : Int) < 2147483399; decide), ?_⟩⟩
      refine ⟨_, rfl, _, _, rfl, rfl, .inr ⟨by decide, by decide⟩, _, _, rfl, rfl, .inl ⟨_, rfl, _, _, rfl, rfl, (by show (0 : Int) < 2147483587; decide), _, _, rfl, rfl, ?_⟩⟩
      refine ⟨_, rfl, b, _, 1, 1, rfl, rfl, hb, rfl, ?_⟩
      refine ⟨_, rfl, _, _, rfl, rfl, .inr ⟨by decide, by decide⟩, ?_⟩
      refine ⟨_, rfl, b, _, 1, _, rfl, rfl, SqL.of upd_same, rfl, _, _, rfl, rfl, _, _, rfl, rfl, ⟨by decide, by decide⟩, .inl ⟨_, rfl, _, rfl, _, _, rfl, rfl, h0, ?_⟩⟩
      exact k _ _ (Int.emod_nonneg _ (by omega)) (Int.emod_lt_of_pos _ h0) (Mv.upd (x, ((y * 40692 + 73) % 2147483399 * 39373 + 29) % 2147483587 + 1))
theorem sc_law_pick : FnScope ["box", "some"] ["box", "some"] (defScope s_law_pick) := ⟨rfl, rfl, rfl, by decide +kernel, rfl, by decide +kernel, by decide +kernel⟩
theorem ok_pick (F : FnP K "_law_pick" s_law_pick f fd) (T : Mg mg) (c__law_take : Cal P w K mg base CX0 1 "_law_take" ["box", "many"] spTake) : FnOk P w K mg base CX0 2 f fd ["box", "some"] (spPick K) := by
  refine F.ok sc_law_pick (fun vs H Q E h => ?_) (fun cdv A outer s H vs Q E hr h => ?_)
  · obtain ⟨b, a, t, xs, rfl, _⟩ := h
    rfl
  · obtain ⟨b, a, t, xs, rfl, hb, ne, hs, h0, h1, k⟩ := h
    refine ⟨_, PSs.nox (pss_one (ps_ret (pe_ix ix_list (pv 1) (pe_callC c__law_take hr pass0 (pa_cons (pv 0) (pa_cons (pe_callB call_len_seq (by rfl) T.z_len PySem.boot_len (pa_cons (pv 1) pa_nil)) pa_nil))) (fun _ _ => rfl)))), ?_⟩
    refine ⟨_, rfl, _, rfl, _, rfl, a, xs, rfl, .inl hs, b, t, _, rfl, hb, by omega, by omega, fun r H' r0 r1 m => ?_⟩
    obtain ⟨i, rfl⟩ : ∃ i : Nat, r = (i : Int) := ⟨r.toNat, by omega⟩
    have hx : xs[i]? = some xs[i] := List.getElem?_eq_getElem (by omega)
    exact ⟨a, xs, _, _, rfl, rfl, m.sqL ne hs, atI_nat hx, k _ H' (List.mem_of_getElem? hx) m⟩
theorem sc_law_box : FnScope ["script", "k", "cell", "great"] ["script", "k"] (defScope s_law_box) := ⟨rfl, rfl, rfl, by decide +kernel, rfl, by decide +kernel, by decide +kernel⟩
theorem ok_box (F : FnP K "_law_box" s_law_box f fd) (T : Mg mg) : FnOk P w K mg base CX0 1 f fd ["script", "k"] (spBox K) := by
  refine F.ok sc_law_box (fun vs H Q E h => ?_) (fun cdv A outer s H vs Q E hr h => ?_)
  · obtain ⟨a, ns, kk, rfl, _⟩ := h
    rfl
  · obtain ⟨a, ns, kk, rfl, hs, hl, k⟩ := h
    refine ⟨_, PSs.nox (pss_cons (ps_set (i := 2) sc_law_box.nd rfl (by first | exact Or.inl rfl | exact Or.inr rfl) (pe_op op_add (pe_op op_mul pe_int (pv 1)) pe_int))
  (pss_cons (ps_mid (ps_if (pt_cmpR op_lt (pv 1) (pe_callB call_len_seq (by rfl) T.z_len PySem.boot_len (pa_cons (pv 0) pa_nil)) (nomark _))
  (pss_one (ps_set (i := 2) sc_law_box.nd rfl (by first | exact Or.inl rfl | exact Or.inr rfl) (pe_callB call_abs (by rfl) T.z_abs (by decide +kernel) (pa_cons (pe_callTy call_int1 (by rfl) T.z_int (by decide +kernel) (pa_cons (pe_ix ix_list (pv 0) (pv 1) (fun _ _ => rfl)) pa_nil)) pa_nil))))
  (pss_one (ps_if (pt_cmpR op_gt (pe_callB call_len_seq (by rfl) T.z_len PySem.boot_len (pa_cons (pv 0) pa_nil)) pe_int (nomark _))
  (pss_one (ps_set (i := 2) sc_law_box.nd rfl (by first | exact Or.inl rfl | exact Or.inr rfl) (pe_op op_add (pv 2) (pe_op op_mul (pe_op op_mod (pe_callTy call_int1 (by rfl) T.z_int (by decide +kernel) (pa_cons (pe_callB call_abs (by rfl) T.z_abs (by decide +kernel) (pa_cons (pe_callTy call_int1 (by rfl) T.z_int (by decide +kernel) (pa_cons (pe_ix ix_list (pv 0) (pe_op op_mod (pe_callTy call_int1 (by rfl) T.z_int (by decide +kernel) (pa_cons (pv 1) pa_nil)) (pe_callB call_len_seq (by rfl) T.z_len PySem.boot_len (pa_cons (pv 0) pa_nil))) (fun _ _ => rfl)) pa_nil)) pa_nil)) pa_nil)) pe_int) pe_int))))
  pss_nil))))
  (pss_cons (ps_mid (ps_set (i := 3) sc_law_box.nd rfl (by first | exact Or.inl rfl | exact Or.inr rfl) (pe_ifExp (pt_cmpR op_ge (pv 2) (pe_op op_pow pe_int pe_int) (nomark _)) (pv 2) pe_int)))
  (pss_one (ps_ret (pe_lst (pa_cons (pv 3) (pa_cons (pe_op op_add (pe_op op_mod (pe_callTy call_int1 (by rfl) T.z_int (by decide +kernel) (pa_cons (pe_op op_add (pe_op op_mul (pe_op op_mod (pe_callTy call_int1 (by rfl) T.z_int (by decide +kernel) (pa_cons (pv 2) pa_nil)) pe_int) pe_int) (pe_op op_mul pe_int (pv 1))) pa_nil)) pe_int) pe_int) pa_nil)))))))), ?_⟩
    refine ⟨_, rfl, _, _, rfl, rfl, .inl ⟨by decide, by decide⟩, _, _, rfl, rfl, ?_⟩
    refine ⟨fun σ' H' => ∃ c : Int, σ' = [some (.ref a), some (.int (kk : Nat)), some (.int c), none] ∧ H' = H, ?_, ?_⟩
    · refine ⟨_, rfl, _, rfl, a, _, rfl, .inl hs, _, _, rfl, rfl, _, rfl, ?_⟩
      rw [List.length_map]
      refine ite2 (fun h1 => ?_) (fun h1 => ?_)
      · have hk : kk < ns.length := by simpa using h1
        have hx : (ns.map V.int)[kk]? = some (V.int ns[kk]) := by rw [List.getElem?_map, List.getElem?_eq_getElem hk]; rfl
        exact ⟨_, rfl, _, rfl, a, _, _, _, rfl, rfl, hs, atI_nat hx, .inl ⟨_, rfl, _, rfl, _, rfl, rfl⟩⟩
      · refine ⟨_, rfl, a, _, rfl, .inl hs, _, _, rfl, rfl, _, rfl, ?_⟩
        rw [List.length_map]
        refine ite2 (fun h2 => ?_) (fun h2 => ?_)
        · have hk : 0 < ns.length := by simpa using h2
          have hm : (kk : Int) % (ns.length : Int) = ((kk % ns.length : Nat) : Int) := rfl
          have lt : kk % ns.length < ns.length := Nat.mod_lt _ hk
          have hx : (ns.map V.int)[kk % ns.length]? = some (V.int ns[kk % ns.length]) := by rw [List.getElem?_map, List.getElem?_eq_getElem lt]; rfl
          have hat : atI (ns.map V.int) ((kk : Int) % (((ns.map V.int).length : Nat) : Int)) = some (V.int ns[kk % ns.length]) := by
            rw [List.length_map, hm]
            exact atI_nat hx
          refine ⟨_, rfl, _, rfl, _, rfl, .inl ⟨_, rfl, _, rfl, a, _, rfl, .inl hs, _, _, rfl, rfl, (by rw [List.length_map]; omega), ?_⟩⟩
          exact ⟨a, _, _, _, rfl, rfl, hs, hat, .inl ⟨_, rfl, _, rfl, .inl ⟨_, rfl, _, _, rfl, rfl, (by show (0 : Int) < 2147483587; decide), _, _, rfl, rfl, .inr ⟨by decide, by decide⟩, _, _, rfl, rfl, _, rfl, rfl⟩⟩⟩
        · exact ⟨_, rfl, rfl⟩
    rintro σ' H' ⟨c, rfl, rfl⟩
    refine ⟨fun σ' H2 => ∃ g : Int, σ' = [some (.ref a), some (.int (kk : Nat)), some (.int c), some (.int g)] ∧ H2 = H', ?_, ?_⟩
    · refine ⟨_, rfl, _, _, rfl, rfl, ⟨by decide, by decide, by decide⟩, _, _, rfl, rfl, _, rfl, ite2 (fun _ => ?_) (fun _ => ?_)⟩
      · exact ⟨_, rfl, _, rfl, rfl⟩
      · exact ⟨_, rfl, rfl⟩
    rintro σ' H2 ⟨g, rfl, rfl⟩
    refine ⟨_, rfl, _, rfl, .inl ⟨_, rfl, _, _, rfl, rfl, (by show (0 : Int) < 2147483587; decide), _, _, rfl, rfl, .inr ⟨by decide, by decide⟩, ?_⟩⟩
    refine ⟨_, rfl, _, _, rfl, rfl, .inl ⟨by decide, by decide⟩, _, _, rfl, rfl, .inl ⟨_, rfl, _, _, rfl, rfl, (by show (0 : Int) < 2147483587; decide), _, _, rfl, rfl, ?_⟩⟩
    exact ⟨(by show 2 ≤ sizeLine; decide), fun p hp => k _ p (_, _) (same_new hp) hp upd_same⟩
end
end K7
/-! numbers in a drawn order -/
namespace K7
open PySem PySem.Spec PyProof.Rows L2 Kx RZ TL
theorem Mv.free {b D : Addr} {H H' : Hp} (m : Mv b H H') (h : H' D = .none) : H D = .none ∧ D ≠ b := by
  have ne : D ≠ b := fun z => by
    obtain ⟨t, ht⟩ := m.2
    rw [z, ht] at h
    cases h
  refine ⟨?_, ne⟩
  cases e : H D with
  | none => rfl
  | some o => rw [m.1 _ _ ne e] at h; cases h
theorem Mv.put {b D : Addr} {H H' : Hp} {o : HO} (m : Mv b H H') (h1 : H D = .none) (h2 : D ≠ b) : Mv b H (L2.upd H' D o) := by
  refine ⟨fun c u ne q => ?_, ?_⟩
  · rw [upd_ne (fun z => by rw [z, h1] at q; cases q)]
    exact m.1 c u ne q
  · obtain ⟨t, ht⟩ := m.2
    exact ⟨t, by rw [upd_ne (Ne.symm h2)]; exact ht⟩
theorem cut_perm {zs : List V} {j : Nat} (h : j < zs.length) : ([zs[j]] ++ zs.eraseIdx j).Perm zs := by
  have e : zs = zs.take j ++ zs[j] :: zs.drop (j + 1) := by rw [← List.drop_eq_getElem_cons h, List.take_append_drop]
  rw [List.eraseIdx_eq_take_drop_succ]
  conv => rhs; rw [e]
  have := (List.perm_middle (a := zs[j]) (l₁ := zs.take j) (l₂ := zs.drop (j + 1))).symm
  simpa using this
def rng (n : Nat) : List Int := (List.range n).map Int.ofNat
theorem rng_len {n : Nat} : (rng n).length = n := by unfold rng; rw [List.length_map, List.length_range]
theorem mem_rng {n : Nat} {x : Int} : x ∈ rng n ↔ 0 ≤ x ∧ x < (n : Int) := by
  unfold rng
  rw [List.mem_map]
  constructor
  · rintro ⟨i, hi, rfl⟩
    have := List.mem_range.mp hi
    exact ⟨Int.natCast_nonneg i, Int.ofNat_lt.mpr this⟩
  · rintro ⟨h0, h1⟩
    exact ⟨x.toNat, List.mem_range.mpr (by omega), Int.toNat_of_nonneg h0⟩
theorem rng_nodup {n : Nat} : (rng n).Nodup := List.pairwise_map.mpr (List.nodup_range.imp fun ne e => ne (Int.ofNat.inj e))
theorem rgV_rng {n : Nat} : rgV 0 (n : Int) = (rng n).map V.int := by
  unfold rgV rng
  rw [Int.sub_zero, Int.toNat_natCast, List.map_map]
  exact List.map_congr_left fun i _ => by rw [Int.zero_add]; rfl
def valI : V → Int
  | .int i => i
  | _ => 0
theorem perm_ints : ∀ {ys : List V} {xs : List Int}, ys.Perm (xs.map V.int) → ∃ zs : List Int, ys = zs.map V.int ∧ zs.Perm xs := fun {ys xs} p => by
  have all : ∀ y ∈ ys, ∃ x, y = V.int x := fun y hy => by
    obtain ⟨x, _, e⟩ := List.mem_map.mp (p.mem_iff.mp hy)
    exact ⟨x, e.symm⟩
  have e : ys = (ys.map valI).map V.int := by
    rw [List.map_map]
    conv => lhs; rw [← List.map_id ys]
    refine List.map_congr_left fun y hy => ?_
    obtain ⟨x, rfl⟩ := all y hy
    rfl
  refine ⟨ys.map valI, e, ?_⟩
  have := p.map valI
  rw [List.map_map] at this
  rw [show (valI ∘ V.int) = id from rfl, List.map_id] at this
  exact this
def spMixed (K : PySem.W.Frag) : Sp := fun vs H Q _ => ∃ (b : Addr) (t : Int × Int) (n : Nat), vs = [.ref b, .int (n : Nat)] ∧ H b = some (bx t) ∧ n ≤ 9 ∧ ∀ l (xs : List Int) H', xs.Perm (rng n) → Mv b H H' → H l = none → l ≠ b → H' l = some (.lst (xs.map V.int)) → Q (.ref l) H'
section
variable {P : Program} {w : World} {K : PySem.W.Frag} {mg : Str → Option Value} {base : Heap} {f : Addr} {fd : FuncData} {a : Ad} {C CM : Addr}
theorem sc_mixed : FnScope ["box", "many", "found", "left", "turn"] ["box", "many"] (defScope s_law_mixed) := ⟨rfl, rfl, rfl, by decide +kernel, rfl, by decide +kernel, by decide +kernel⟩
theorem ok_mixed (F : FnP K "_law_mixed" s_law_mixed f fd) (T : Mg mg) (c_take : Cal P w K mg base CX0 1 "_law_take" ["box", "many"] spTake) : FnOk P w K mg base CX0 2 f fd ["box", "many"] (spMixed K) := by
  refine F.ok sc_mixed (fun vs H Q E h => ?_) (fun cdv A outer s H vs Q E hr h => ?_)
  · obtain ⟨b, t, n, rfl, _⟩ := h
    rfl
  · obtain ⟨b, t, n, rfl, hb, n9, k⟩ := h
    refine ⟨_, PSs.nox (pss_cons (ps_mid (ps_par (i := 2) (j := 3) (by rfl) sc_mixed.nd rfl rfl (by decide) rfl rfl (pa_cons (pe_lst pa_nil) (pa_cons (pe_listRg rfl (by rfl) T.z_list (prg_1 (by rfl) T.z_range (pv 1))) pa_nil)) (by rfl)))
      (pss_cons (ps_for PassesOwn.never rfl (pi_range1 (by rfl) T.z_range (pa_cons (pv 1) pa_nil)) (pg_name (i := 4) sc_mixed.nd rfl (by first | exact Or.inl rfl | exact Or.inr rfl))
        (pss_one (ps_expr (pe_bm PySem.F.plainAttrs_list PySem.F.slot_list_append PySem.F.type_list_append mt_append (pv 2) (pa_cons (pe_bm PySem.F.plainAttrs_list PySem.F.slot_list_pop PySem.F.type_list_pop mt_popAt (pv 3) (pa_cons (pe_callC c_take hr pass0 (pa_cons (pv 0) (pa_cons (pe_callB call_len_seq (by rfl) T.z_len PySem.boot_len (pa_cons (pv 3) pa_nil)) pa_nil))) pa_nil)) pa_nil)))))
      (pss_one (ps_ret (pv 2))))), ?_⟩
    refine ⟨fun σ' H' => ∃ (S L : Addr), σ' = [some (.ref b), some (.int (n : Nat)), some (.ref S), some (.ref L), none] ∧ Mv b H H' ∧ H S = none ∧ H L = none ∧ S ≠ b ∧ L ≠ b ∧ S ≠ L ∧ H' S = some (.lst []) ∧ H' L = some (.lst ((rng n).map V.int)), ?_, ?_⟩
    · refine ⟨(by show 0 ≤ sizeLine; decide), fun S hS => ?_⟩
      have e1 := same_new (o := HO.lst []) hS
      refine ⟨_, rfl, n, rfl, RgOk.of_le (by decide) (by omega) (by decide) (by omega), fun L hL => ?_⟩
      rw [rgV_rng]
      have m0 := Mv.refl hb
      have SL : S ≠ L := fun z => by rw [← z, upd_same] at hL; cases hL
      have nS := m0.free hS
      have m1 := m0.same e1
      have nL := m1.free hL
      exact ⟨_, _, rfl, S, L, rfl, m1.put nL.1 nL.2, nS.1, nL.1, nS.2, nL.2, SL, by rw [upd_ne SL]; exact upd_same, upd_same⟩
    rintro σ' H1 ⟨S, L, rfl, m1, nS, nL, Sb, Lb, SL, hS1, hL1⟩
    have len0 : ((rng n).map V.int).length = n := by rw [List.length_map, rng_len]
    refine ⟨_, rfl, n, rfl, by omega, by omega, for_range (lo := 0) (n := n) (fun i σ' H' => ∃ (x : Option V) (ys zs : List V), σ' = [some (.ref b), some (.int (n : Nat)), some (.ref S), some (.ref L), x] ∧ Mv b H H' ∧ H' S = some (.lst ys) ∧ H' L = some (.lst zs) ∧ ys.length = i ∧ (ys ++ zs).Perm ((rng n).map V.int)) ⟨_, [], _, rfl, m1, hS1, hL1, rfl, List.Perm.refl _⟩ ?_ ?_⟩
    · rintro i σ' H2 hi ⟨x, ys, zs, rfl, m2, hS2, hL2, ly, pm⟩
      obtain ⟨t2, hb2⟩ := m2.2
      have lz : ys.length + zs.length = n := by rw [← List.length_append, pm.length_eq, len0]
      refine ⟨_, rfl, .inl ⟨rfl, _, SqL.of hS2⟩, _, rfl, .inl ⟨rfl, _, SqL.of hL2⟩, _, rfl, _, rfl, L, zs, rfl, .inl (SqL.of hL2), b, t2, _, rfl, hb2, by omega, by omega, fun r H3 r0 r1 m3 => ?_⟩
      obtain ⟨j, rfl⟩ : ∃ j : Nat, r = (j : Int) := ⟨r.toNat, by omega⟩
      have hj : j < zs.length := by omega
      have m23 := m2.trans m3
      have hS3 := m3.1 _ _ Sb hS2
      have hL3 := m3.1 _ _ Lb hL2
      refine ⟨L, zs, j, j, zs[j], rfl, rfl, hL3, by omega, by omega, ?_, List.getElem?_eq_getElem hj, ?_⟩
      · rw [seqIndex_of (by omega) (by omega), Int.toNat_natCast]
      · have hS4 : (upd H3 L (.lst (zs.eraseIdx j))) S = some (.lst ys) := by rw [upd_ne SL]; exact hS3
        refine ⟨S, ys, zs[j], rfl, rfl, hS4, by rw [sizeLine_eq]; omega, _, ys ++ [zs[j]], zs.eraseIdx j, rfl, (m23.put nL Lb).put nS Sb, upd_same, by rw [upd_ne (Ne.symm SL)]; exact upd_same, by rw [List.length_append, ly]; rfl, ?_⟩
        rw [List.append_assoc]
        exact (List.Perm.append_left ys (cut_perm hj)).trans pm
    · rintro σ' H2 ⟨x, ys, zs, rfl, m2, hS2, hL2, ly, pm⟩
      have lz : ys.length + zs.length = n := by rw [← List.length_append, pm.length_eq, len0]
      obtain rfl : zs = [] := List.length_eq_zero_iff.mp (by omega)
      rw [List.append_nil] at pm
      obtain ⟨xs, rfl, px⟩ := perm_ints pm
      exact ⟨_, rfl, k S xs H2 px m2 nS Sb hS2⟩
end
end K7
/-! an exchange is drawn -/
namespace K7
open PySem PySem.Spec PyProof.Rows L2 Kx RZ TL
/-- an exchange of n places -/
structure Swp (n : Nat) (xs : List Int) : Prop where
  len : xs.length = n
  nd : xs.Nodup
  ent : ∀ x ∈ xs, 0 ≤ x ∧ x < (n : Int)
theorem Swp.perm {n : Nat} {xs : List Int} (p : xs.Perm (rng n)) : Swp n xs := ⟨by rw [p.length_eq, rng_len], (p.nodup_iff).mpr rng_nodup, fun x hx => mem_rng.mp (p.mem_iff.mp hx)⟩
/-- by a rule -/
def ruled (n : Nat) (g : Int → Int) : List Int := (rng n).map g
theorem ruled_len {n : Nat} {g : Int → Int} : (ruled n g).length = n := by unfold ruled; rw [List.length_map, rng_len]
theorem ruled_at {n i : Nat} {g : Int → Int} (h : i < n) : ((ruled n g).map V.int)[i]? = some (.int (g (i : Int))) := by
  unfold ruled rng
  rw [List.getElem?_map, List.getElem?_map, List.getElem?_map, List.getElem?_range h]
  rfl
theorem swp_ruled {n : Nat} {g : Int → Int} (h1 : ∀ x, 0 ≤ x → x < (n : Int) → 0 ≤ g x ∧ g x < (n : Int)) (h2 : ∀ x y, 0 ≤ x → x < (n : Int) → 0 ≤ y → y < (n : Int) → g x = g y → x = y) : Swp n (ruled n g) := by
  refine ⟨ruled_len, ?_, fun z hz => ?_⟩
  · exact List.pairwise_map.mpr (rng_nodup.imp_of_mem fun {x y} hx hy ne e => ne (h2 x y (mem_rng.mp hx).1 (mem_rng.mp hx).2 (mem_rng.mp hy).1 (mem_rng.mp hy).2 e))
  · obtain ⟨x, hx, rfl⟩ := List.mem_map.mp hz
    obtain ⟨a, b⟩ := mem_rng.mp hx
    exact h1 x a b
theorem turn_of {n : Nat} {o x : Int} (o0 : 0 ≤ o) (o1 : o < (n : Int)) (x0 : 0 ≤ x) (x1 : x < (n : Int)) : (x + o) % (n : Int) = if x + o < n then x + o else x + o - n := by
  split
  · exact Int.emod_eq_of_lt (by omega) (by assumption)
  · rw [← Int.sub_emod_right]
    exact Int.emod_eq_of_lt (by omega) (by omega)
theorem swp_turn {n : Nat} {o : Int} (o0 : 0 ≤ o) (o1 : o < (n : Int)) : Swp n (ruled n fun x => (x + o) % (n : Int)) := by
  refine swp_ruled (fun x x0 x1 => ?_) (fun x y x0 x1 y0 y1 e => ?_)
  · rw [turn_of o0 o1 x0 x1]
    split <;> omega
  · have e : (x + o) % (n : Int) = (y + o) % (n : Int) := e
    rw [turn_of o0 o1 x0 x1, turn_of o0 o1 y0 y1] at e
    split at e <;> split at e <;> omega
theorem swp_two {n : Nat} {a b : Int} (a0 : 0 ≤ a) (a1 : a < (n : Int)) (b0 : 0 ≤ b) (b1 : b < (n : Int)) : Swp n (ruled n fun x => if x = a then b else if x = b then a else x) := by
  refine swp_ruled (fun x x0 x1 => ?_) (fun x y x0 x1 y0 y1 e => ?_)
  · show 0 ≤ (if x = a then b else if x = b then a else x) ∧ _
    split
    · exact ⟨b0, b1⟩
    · split
      · exact ⟨a0, a1⟩
      · exact ⟨x0, x1⟩
  · have e : (if x = a then b else if x = b then a else x) = (if y = a then b else if y = b then a else y) := e
    split at e <;> split at e <;> (try split at e) <;> (try split at e) <;> omega
theorem swp_idle {n : Nat} : Swp n (rng n) := ⟨rng_len, rng_nodup, fun x hx => mem_rng.mp hx⟩
def spExchange (K : PySem.W.Frag) : Sp := fun vs H Q _ => ∃ (b : Addr) (t : Int × Int) (n : Nat), vs = [.ref b, .int (n : Nat)] ∧ H b = some (bx t) ∧ 1 ≤ n ∧ n ≤ 9 ∧ ∀ l (xs : List Int) H', Swp n xs → Mv b H H' → H l = none → l ≠ b → H' l = some (.lst (xs.map V.int)) → Q (.ref l) H'
section
variable {P : Program} {w : World} {K : PySem.W.Frag} {mg : Str → Option Value} {base : Heap} {f : Addr} {fd : FuncData} {a : Ad} {C CM : Addr}
theorem sc_exchange : FnScope ["box", "many", "style", "one", "other", "state"] ["box", "many"] (defScope s_law_exchange) := ⟨rfl, rfl, rfl, by decide +kernel, rfl, by decide +kernel, by decide +kernel⟩
theorem ok_exchange (F : FnP K "_law_exchange" s_law_exchange f fd) (T : Mg mg) (c_take : Cal P w K mg base CX0 1 "_law_take" ["box", "many"] spTake) (c_mixed : Cal P w K mg base CX0 2 "_law_mixed" ["box", "many"] (spMixed K)) : FnOk P w K mg base CX0 3 f fd ["box", "many"] (spExchange K) := by
  refine F.ok sc_exchange (fun vs H Q E h => ?_) (fun cdv A outer s H vs Q E hr h => ?_)
  · obtain ⟨b, t, n, rfl, _⟩ := h
    rfl
  · obtain ⟨b, t, n, rfl, hb, n1, n9, k⟩ := h
    refine ⟨_, PSs.nox (pss_cons (ps_mid (ps_asg (pe_tup (pa_cons (pe_callC c_take hr pass0 (pa_cons (pv 0) (pa_cons pe_int pa_nil))) (pa_cons (pe_callC c_take hr pass0 (pa_cons (pv 0) (pa_cons (pv 1) pa_nil))) (pa_cons (pe_callC c_take hr pass0 (pa_cons (pv 0) (pa_cons (pv 1) pa_nil))) pa_nil)))) (pg_tup rfl (pgs_cons (pg_name (i := 2) sc_exchange.nd rfl (by first | exact Or.inl rfl | exact Or.inr rfl)) (pgs_cons (pg_name (i := 3) sc_exchange.nd rfl (by first | exact Or.inl rfl | exact Or.inr rfl)) (pgs_cons (pg_name (i := 4) sc_exchange.nd rfl (by first | exact Or.inl rfl | exact Or.inr rfl)) pgs_nil))))))
      (pss_cons (ps_mid (ps_if (PW.pt (pw_and (pt_cmpR op_eq (pv 2) pe_int (nomark _)) (pw_and1 (pt_cmpR op_eq (pe_callC c_take hr pass0 (pa_cons (pv 0) (pa_cons pe_int pa_nil))) pe_int (nomark _)))))
        (pss_one (ps_ret (pe_listRg rfl (by rfl) T.z_list (prg_1 (by rfl) T.z_range (pv 1)))))
        pss_nil))
      (pss_cons (ps_mid (ps_if (pt_cmpR op_eq (pv 2) pe_int (nomark _))
        (pss_one (ps_ret (pe_lc (own := [("state", 5)]) (by rfl) sc_exchange.nd (pi_range1 (by rfl) T.z_range (pa_cons (pv 1) pa_nil)) (blkOk_by (own := [("state", 5)]) (N := ["box", "many", "style", "one", "other", "state"]) (sc := defScope s_law_exchange) (by decide +kernel))
          (fun _ _ _ _ _ => (pg_name (i := 5) sc_exchange.nd rfl (by first | exact Or.inl rfl | exact Or.inr rfl))) (fun _ _ _ _ _ => pts_nil) (fun _ _ _ _ _ => pe_op op_mod (pe_callTy call_int1 (by rfl) T.z_int (by decide +kernel) (pa_cons (pe_op op_add (pv 5) (pv 3)) pa_nil)) (pv 1)))))
        pss_nil))
      (pss_cons (ps_mid (ps_if (pt_cmpR op_eq (pv 2) pe_int (nomark _))
        (pss_one (ps_ret (pe_lc (own := [("state", 5)]) (by rfl) sc_exchange.nd (pi_range1 (by rfl) T.z_range (pa_cons (pv 1) pa_nil)) (blkOk_by (own := [("state", 5)]) (N := ["box", "many", "style", "one", "other", "state"]) (sc := defScope s_law_exchange) (by decide +kernel))
          (fun _ _ _ _ _ => (pg_name (i := 5) sc_exchange.nd rfl (by first | exact Or.inl rfl | exact Or.inr rfl))) (fun _ _ _ _ _ => pts_nil) (fun _ _ _ _ _ => pe_ifExp (pt_cmpR op_eq (pv 5) (pv 3) (nomark _)) (pv 4) (pe_ifExp (pt_cmpR op_eq (pv 5) (pv 4) (nomark _)) (pv 3) (pv 5))))))
        pss_nil))
      (pss_one (ps_ret (pe_callC c_mixed hr pass0 (pa_cons (pv 0) (pa_cons (pv 1) pa_nil))))))))), ?_⟩
    refine ⟨fun σ' H' => ∃ (st o u : Int), σ' = [some (.ref b), some (.int (n : Nat)), some (.int st), some (.int o), some (.int u), none] ∧ Mv b H H' ∧ 0 ≤ o ∧ o < n ∧ 0 ≤ u ∧ u < n, ?_, ?_⟩
    · refine ⟨_, rfl, b, t, 5, rfl, hb, by decide, by decide, fun st H1 _ _ m1 => ?_⟩
      obtain ⟨t1, hb1⟩ := m1.2
      refine ⟨_, rfl, _, rfl, b, t1, (n : Nat), rfl, hb1, by omega, by omega, fun o H2 o0 o1 m2 => ?_⟩
      obtain ⟨t2, hb2⟩ := m2.2
      refine ⟨_, rfl, _, rfl, b, t2, (n : Nat), rfl, hb2, by omega, by omega, fun u H3 u0 u1 m3 => ?_⟩
      refine ⟨(by show 3 ≤ sizeLine; decide), fun p hp => ?_⟩
      have e4 := same_new (o := HO.tup [V.int st, .int o, .int u]) hp
      refine ⟨p, _, rfl, SqT.of upd_same, rfl, ?_⟩
      exact ⟨_, _, rfl, _, _, rfl, _, _, rfl, rfl, st, o, u, rfl, ((m1.trans m2).trans m3).same e4, o0, o1, u0, u1⟩
    rintro σ' H1 ⟨st, o, u, rfl, m1, o0, o1, u0, u1⟩
    obtain ⟨t1, hb1⟩ := m1.2
    refine ⟨fun σ' H' => σ' = [some (.ref b), some (.int (n : Nat)), some (.int st), some (.int o), some (.int u), none] ∧ Mv b H H', ?_, ?_⟩
    · refine ⟨_, rfl, rfl, _, rfl, ite2 (fun _ => ?_) (fun _ => ⟨rfl, m1⟩)⟩
      refine ⟨_, rfl, b, t1, 2, rfl, hb1, by decide, by decide, fun r H2 _ _ m2 => ?_⟩
      have m12 := m1.trans m2
      refine ⟨rfl, _, rfl, ite2 (fun _ => ?_) (fun _ => ⟨rfl, m12⟩)⟩
      refine ⟨_, rfl, n, rfl, RgOk.of_le (by decide) (by omega) (by decide) (by omega), fun L hL => ?_⟩
      rw [rgV_rng]
      have f := m12.free hL
      exact k L _ _ swp_idle (m12.put f.1 f.2) f.1 f.2 upd_same
    rintro σ' H2 ⟨rfl, m2⟩
    have go : ∀ (g : Int → Int) (D0 : Addr), H2 D0 = none → Swp n (ruled n g) → ∀ H', Part H2 D0 ((ruled n g).map V.int) n H' → Q (.ref D0) H' := fun g D0 hD sw H' pt => by
      obtain ⟨hl, e⟩ := pt.done (by rw [List.length_map, ruled_len]; exact Nat.le_refl _)
      have f := m2.free hD
      exact k D0 _ H' sw (m2.same e) f.1 f.2 hl
    refine ⟨fun σ' H' => σ' = [some (.ref b), some (.int (n : Nat)), some (.int st), some (.int o), some (.int u), none] ∧ H' = H2, ?_, ?_⟩
    · refine ⟨_, rfl, rfl, _, rfl, ite2 (fun _ => ?_) (fun _ => ⟨rfl, rfl⟩)⟩
      refine ⟨_, rfl, n, rfl, by omega, by omega, fun D0 hD => ?_⟩
      refine turns (n := n) (Part H2 D0 ((ruled n fun x => (x + o) % (n : Int)).map V.int)) (Part.zero hD) ?_ ?_
      · intro i H3 hi pt
        refine ⟨hi, ?_⟩
        rintro v H4 ⟨rfl, rfl⟩
        rw [show (0 : Int) + (i : Int) = (i : Int) from Int.zero_add _]
        refine ⟨rfl, yes ((if_pos rfl).mpr ?_)⟩
        refine ⟨_, rfl, _, rfl, _, _, rfl, rfl, .inl ⟨_, rfl, _, rfl, _, _, rfl, rfl, (by show (0 : Int) < ((n : Nat) : Int); omega), ?_⟩⟩
        exact pt.step hD (Same.refl _) (ruled_at hi) (by rw [List.length_map, ruled_len, sizeLine_eq]; omega)
      · intro H3 pt
        exact ⟨Nat.le_refl _, go _ D0 hD (swp_turn o0 o1) H3 pt⟩
    rintro σ' H3 ⟨rfl, rfl⟩
    refine ⟨fun σ' H' => σ' = [some (.ref b), some (.int (n : Nat)), some (.int st), some (.int o), some (.int u), none] ∧ H' = H3, ?_, ?_⟩
    · refine ⟨_, rfl, rfl, _, rfl, ite2 (fun _ => ?_) (fun _ => ⟨rfl, rfl⟩)⟩
      refine ⟨_, rfl, n, rfl, by omega, by omega, fun D0 hD => ?_⟩
      refine turns (n := n) (Part H3 D0 ((ruled n fun x => if x = o then u else if x = u then o else x).map V.int)) (Part.zero hD) ?_ ?_
      · intro i H4 hi pt
        refine ⟨hi, ?_⟩
        rintro v H5 ⟨rfl, rfl⟩
        rw [show (0 : Int) + (i : Int) = (i : Int) from Int.zero_add _]
        refine ⟨rfl, yes ((if_pos rfl).mpr ?_)⟩
        have stp : ∀ y, y = V.int (if (i : Int) = o then u else if (i : Int) = u then o else i) → ∃ acc, H5 D0 = some (.lst acc) ∧ acc.length < sizeLine ∧ Part H3 D0 ((ruled n fun x => if x = o then u else if x = u then o else x).map V.int) (i + 1) (upd H5 D0 (.lst (acc ++ [y]))) := fun y ey => by
          rw [ey]
          exact pt.step hD (Same.refl _) (ruled_at hi) (by rw [List.length_map, ruled_len, sizeLine_eq]; omega)
        refine ⟨_, rfl, _, rfl, rfl, _, rfl, ite2 (fun h => ?_) (fun h => ?_)⟩
        · have e : (i : Int) = o := by simpa using h
          exact ⟨_, rfl, stp _ (by rw [if_pos e])⟩
        · have e : ¬ (i : Int) = o := by simpa using h
          refine ⟨_, rfl, _, rfl, rfl, _, rfl, ite2 (fun h2 => ?_) (fun h2 => ?_)⟩
          · have e2 : (i : Int) = u := by simpa using h2
            exact ⟨_, rfl, stp _ (by rw [if_neg e, if_pos e2])⟩
          · have e2 : ¬ (i : Int) = u := by simpa using h2
            exact ⟨_, rfl, stp _ (by rw [if_neg e, if_neg e2])⟩
      · intro H4 pt
        exact ⟨Nat.le_refl _, go _ D0 hD (swp_two o0 o1 u0 u1) H4 pt⟩
    rintro σ' H4 ⟨rfl, rfl⟩
    obtain ⟨t4, hb4⟩ := m2.2
    refine ⟨_, rfl, _, rfl, b, t4, n, rfl, hb4, n9, fun l xs H5 pm m5 nl lb hl => k l xs H5 (.perm pm) (m2.trans m5) ?_ lb hl⟩
    exact (m2.free nl).1
end
end K7
/-! tables are drawn that exchange -/
namespace K7
open PySem PySem.Spec PyProof.Rows L2 Kx RZ TL
/-- t leads the first k names among themselves, unlike to unlike -/
def Leads (nm : List Int) (k : Nat) (t : List Int) : Prop := ∃ row, Swp k row ∧ ∀ i, i < k → tx t (nm.getD i 0) = nm.getD (row.getD i 0).toNat 0
theorem getD_at {l : List Int} {i : Nat} (h : i < l.length) : l[i]? = some (l.getD i 0) := by
  rw [List.getD_eq_getElem?_getD, List.getElem?_eq_getElem h]
  rfl
theorem nd_at {l : List Int} (nd : l.Nodup) {i j : Nat} (hi : i < l.length) (hj : j < l.length) (e : l.getD i 0 = l.getD j 0) : i = j := by
  have a := getD_at hi
  have b := getD_at hj
  rcases Nat.lt_trichotomy i j with h | h | h
  · have := List.pairwise_iff_getElem.mp nd i j hi hj h
    rw [List.getElem?_eq_getElem hi, Option.some.injEq] at a
    rw [List.getElem?_eq_getElem hj, Option.some.injEq] at b
    rw [a, b] at this
    exact absurd e this
  · exact h
  · have := List.pairwise_iff_getElem.mp nd j i hj hi h
    rw [List.getElem?_eq_getElem hi, Option.some.injEq] at a
    rw [List.getElem?_eq_getElem hj, Option.some.injEq] at b
    rw [a, b] at this
    exact absurd e.symm this
theorem row_in {k : Nat} {row : List Int} (h : Swp k row) {i : Nat} (hi : i < k) : row[i]? = some (row.getD i 0) ∧ 0 ≤ row.getD i 0 ∧ row.getD i 0 < (k : Int) := by
  have a := getD_at (l := row) (by rw [h.len]; exact hi)
  exact ⟨a, h.ent _ (List.mem_of_getElem? a)⟩
theorem exch_of {n k : Nat} {nm : List Int} {ts : List (List Int)} {i0 : Nat} (sw : Swp n nm) (kn : k ≤ n) (h : ∀ t ∈ ts, Leads nm k t) (hi : i0 < k) : Exch ts (nm.getD i0 0) := by
  have inF : ∀ x, Rch ts (nm.getD i0 0) x → ∃ i, i < k ∧ x = nm.getD i 0 := fun x ⟨row, h1, e⟩ => by
    have m : ∀ {y : Int}, y ∈ nm.take k ↔ ∃ i, i < k ∧ y = nm.getD i 0 := fun {y} => by
      constructor
      · intro hy
        obtain ⟨i, hi⟩ := List.mem_iff_getElem?.mp hy
        have li := (List.getElem?_eq_some_iff.mp hi).1
        rw [List.length_take] at li
        rw [List.getElem?_take_of_lt (by omega)] at hi
        exact ⟨i, by omega, by rw [List.getD_eq_getElem?_getD, hi]; rfl⟩
      · rintro ⟨i, hi, rfl⟩
        have a := getD_at (l := nm) (i := i) (by rw [sw.len]; omega)
        exact List.mem_of_getElem? (i := i) (by rw [List.getElem?_take_of_lt hi]; exact a)
    have := closed_all (ts := ts) (F := nm.take k) (fun y hy d hd => ?_) (row := row) (s := nm.getD i0 0) (m.mpr ⟨i0, hi, rfl⟩) h1
    · rw [← e] at this
      exact m.mp this
    · obtain ⟨i, hi, rfl⟩ := m.mp hy
      obtain ⟨row, sr, er⟩ := h _ (getD_mem hd)
      have r := row_in sr hi
      rw [show nx ts d (nm.getD i 0) = tx (ts.getD d []) (nm.getD i 0) from rfl, er i hi]
      exact m.mpr ⟨_, by omega, rfl⟩
  intro t ht x y rx ry e
  obtain ⟨i, hi, rfl⟩ := inF x rx
  obtain ⟨j, hj, rfl⟩ := inF y ry
  obtain ⟨row, sr, er⟩ := h t ht
  rw [er i hi, er j hj] at e
  have ri := row_in sr hi
  have rj := row_in sr hj
  have e2 := nd_at sw.nd (by rw [sw.len]; omega) (by rw [sw.len]; omega) e
  have e3 : row.getD i 0 = row.getD j 0 := by omega
  rw [nd_at sr.nd (by rw [sr.len]; exact hi) (by rw [sr.len]; exact hj) e3]
def spTables (K : PySem.W.Frag) : Sp := fun vs H Q _ => ∃ (b : Addr) (t : Int × Int) (most deeds : Nat), vs = [.ref b, .int (most : Nat), .int (deeds : Nat)] ∧ H b = some (bx t) ∧ 1 ≤ most ∧ most ≤ 8 ∧ 1 ≤ deeds ∧ deeds ≤ 4 ∧
  ∀ p tt (ps : List V) (n : Nat) (ts : List (List Int)) (s : Int) H', Mv b H H' → SqT K H' p [.ref tt, .int s] → SqT K H' tt ps → RowsBy (SqT K H') ps ts → Mok n ts → 0 ≤ s → s < (n : Int) → Exch ts s → Q (.ref p) H'
section
variable {P : Program} {w : World} {K : PySem.W.Frag} {mg : Str → Option Value} {base : Heap} {f : Addr} {fd : FuncData} {a : Ad} {C CM : Addr}
theorem sc_tables : FnScope ["box", "most", "deeds", "inner", "whole", "names", "tables", "deed", "row", "table", "state"] ["box", "most", "deeds"] (defScope s_law_tables) := ⟨rfl, rfl, rfl, by decide +kernel, rfl, by decide +kernel, by decide +kernel⟩
theorem ok_tables (F : FnP K "_law_tables" s_law_tables f fd) (T : Mg mg) (c_take : Cal P w K mg base CX0 1 "_law_take" ["box", "many"] spTake) (c_mixed : Cal P w K mg base CX0 2 "_law_mixed" ["box", "many"] (spMixed K)) (c_exchange : Cal P w K mg base CX0 3 "_law_exchange" ["box", "many"] (spExchange K)) : FnOk P w K mg base CX0 4 f fd ["box", "most", "deeds"] (spTables K) := by
  refine F.ok sc_tables (fun vs H Q E h => ?_) (fun cdv A outer s H vs Q E hr h => ?_)
  · obtain ⟨b, t, most, deeds, rfl, _⟩ := h
    rfl
  · obtain ⟨b, t, most, deeds, rfl, hb, m1, m8, d1, d4, k⟩ := h
    refine ⟨_, PSs.nox (pss_cons (ps_mid (ps_set (i := 3) sc_tables.nd rfl (by first | exact Or.inl rfl | exact Or.inr rfl) (pe_op op_add pe_int (pe_callC c_take hr pass0 (pa_cons (pv 0) (pa_cons (pv 1) pa_nil))))))
      (pss_cons (ps_mid (ps_set (i := 4) sc_tables.nd rfl (by first | exact Or.inl rfl | exact Or.inr rfl) (pe_op op_add (pv 3) (pe_ifExp (pt_cmpR op_eq (pe_callC c_take hr pass0 (pa_cons (pv 0) (pa_cons pe_int pa_nil))) pe_int (nomark _)) (pe_callC c_take hr pass0 (pa_cons (pv 0) (pa_cons (pe_op op_sub pe_int (pv 3)) pa_nil))) pe_int))))
      (pss_cons (ps_mid (ps_par (i := 5) (j := 6) (by rfl) sc_tables.nd rfl rfl (by decide) rfl rfl (pa_cons (pe_callC c_mixed hr pass0 (pa_cons (pv 0) (pa_cons (pv 4) pa_nil))) (pa_cons (pe_lst pa_nil) pa_nil)) (by rfl)))
      (pss_cons (ps_mid (ps_for PassesOwn.never rfl (pi_range1 (by rfl) T.z_range (pa_cons (pe_op op_add pe_int (pe_callC c_take hr pass0 (pa_cons (pv 0) (pa_cons (pv 2) pa_nil)))) pa_nil)) (pg_name (i := 7) sc_tables.nd rfl (by first | exact Or.inl rfl | exact Or.inr rfl))
        (pss_cons (ps_mid (ps_par (i := 8) (j := 9) (by rfl) sc_tables.nd rfl rfl (by decide) rfl rfl (pa_cons (pe_callC c_exchange hr pass0 (pa_cons (pv 0) (pa_cons (pv 3) pa_nil))) (pa_cons (pe_op op_rep (pe_lst (pa_cons pe_int pa_nil)) (pv 4)) pa_nil)) (by rfl)))
        (pss_cons (ps_mid (ps_for PassesOwn.never rfl (pi_range1 (by rfl) T.z_range (pa_cons (pv 4) pa_nil)) (pg_name (i := 10) sc_tables.nd rfl (by first | exact Or.inl rfl | exact Or.inr rfl))
          (pss_one (ps_asg (pe_ifExp (pt_cmpR op_lt (pv 10) (pv 3) (nomark _)) (pe_ix ix_list (pv 5) (pe_ix ix_list (pv 8) (pv 10) (fun _ _ => rfl)) (fun _ _ => rfl)) (pe_callC c_take hr pass0 (pa_cons (pv 0) (pa_cons (pv 4) pa_nil)))) (pg_sub (pv 9) (pe_ix ix_list (pv 5) (pv 10) (fun _ _ => rfl)) set_list)))))
        (pss_one (ps_expr (pe_bm PySem.F.plainAttrs_list PySem.F.slot_list_append PySem.F.type_list_append mt_append (pv 6) (pa_cons (pe_callTy call_tup (by rfl) T.z_tuple bt_tuple (pa_cons (pv 9) pa_nil)) pa_nil))))))))
      (pss_one (ps_ret (pe_tup (pa_cons (pe_callTy call_tup (by rfl) T.z_tuple bt_tuple (pa_cons (pv 6) pa_nil)) (pa_cons (pe_ix ix_list (pv 5) (pe_callC c_take hr pass0 (pa_cons (pv 0) (pa_cons (pv 3) pa_nil))) (fun _ _ => rfl)) pa_nil))))))))), ?_⟩
    refine ⟨fun σ' H' => ∃ inn : Nat, σ' = [some (.ref b), some (.int (most : Nat)), some (.int (deeds : Nat)), some (.int (inn : Nat)), none, none, none, none, none, none, none] ∧ Mv b H H' ∧ 1 ≤ inn ∧ inn ≤ 8, ?_, ?_⟩
    · refine ⟨_, rfl, _, rfl, b, t, (most : Nat), rfl, hb, by omega, by omega, fun r H1 r0 r1 mv => ?_⟩
      obtain ⟨r, rfl⟩ : ∃ j : Nat, r = (j : Int) := ⟨r.toNat, by omega⟩
      refine ⟨_, _, rfl, rfl, 1 + r, ?_, mv, by omega, by omega⟩
      have : (1 : Int) + (r : Int) = ((1 + r : Nat) : Int) := by omega
      rw [← this]
      rfl
    rintro σ' H1 ⟨inn, rfl, mv1, i1, i8⟩
    refine ⟨fun σ' H' => ∃ n : Nat, σ' = [some (.ref b), some (.int (most : Nat)), some (.int (deeds : Nat)), some (.int (inn : Nat)), some (.int (n : Nat)), none, none, none, none, none, none] ∧ Mv b H H' ∧ inn ≤ n ∧ n ≤ 8, ?_, ?_⟩
    · obtain ⟨t1, hb1⟩ := mv1.2
      refine ⟨_, rfl, _, rfl, b, t1, 4, rfl, hb1, by decide, by decide, fun r H2 _ _ mv2 => ?_⟩
      have mv12 := mv1.trans mv2
      obtain ⟨t2, hb2⟩ := mv2.2
      refine ⟨rfl, _, rfl, ite2 (fun _ => ?_) (fun _ => ?_)⟩
      · refine ⟨_, rfl, _, rfl, _, _, rfl, rfl, b, t2, _, rfl, hb2, by omega, by omega, fun r H3 r0 r1 mv3 => ?_⟩
        obtain ⟨r, rfl⟩ : ∃ j : Nat, r = (j : Int) := ⟨r.toNat, by omega⟩
        refine ⟨_, _, rfl, rfl, inn + r, ?_, mv12.trans mv3, by omega, by omega⟩
        rfl
      · exact ⟨_, _, rfl, rfl, inn, congrArg (fun z : Int => [some (V.ref b), some (.int (most : Nat)), some (.int (deeds : Nat)), some (.int (inn : Nat)), some (.int z), none, none, none, none, none, none]) (Int.add_zero (inn : Int)), mv12, Nat.le_refl _, i8⟩
    clear mv1
    rintro σ' H2 ⟨n, rfl, mv2, nn, n8⟩
    refine ⟨fun σ' H' => ∃ (Na Ta : Addr) (nm : List Int), σ' = [some (.ref b), some (.int (most : Nat)), some (.int (deeds : Nat)), some (.int (inn : Nat)), some (.int (n : Nat)), some (.ref Na), some (.ref Ta), none, none, none, none] ∧ Mv b H H' ∧ H Na = none ∧ Na ≠ b ∧ H Ta = none ∧ Ta ≠ b ∧ Ta ≠ Na ∧ H' Na = some (.lst (nm.map V.int)) ∧ H' Ta = some (.lst []) ∧ Swp n nm, ?_, ?_⟩
    · obtain ⟨t2, hb2⟩ := mv2.2
      refine ⟨_, rfl, _, rfl, b, t2, n, rfl, hb2, by omega, fun l xs H3 pm mv3 nl lb hl => ?_⟩
      refine ⟨(by show 0 ≤ sizeLine; decide), fun Ta hT => ?_⟩
      have mv23 := mv2.trans mv3
      have fl := mv2.free nl
      have ft := mv23.free hT
      have tl : Ta ≠ l := fun z => by rw [z, hl] at hT; cases hT
      exact ⟨_, _, rfl, l, Ta, xs, rfl, mv23.put ft.1 ft.2, fl.1, lb, ft.1, ft.2, tl, by rw [upd_ne (Ne.symm tl)]; exact hl, upd_same, .perm pm⟩
    clear mv2
    rintro σ' H3 ⟨Na, Ta, nm, rfl, mv3, nN, Nb, nT, Tb, TN, hN, hT, sw⟩
    let Wt : Nat → Hp → Prop := fun i H' => ∃ (ps : List V) (ts : List (List Int)), Mv b H H' ∧ H' Na = some (.lst (nm.map V.int)) ∧ H' Ta = some (.lst ps) ∧ RowsBy (SqT K H') ps ts ∧ ts.length = i ∧ ∀ t ∈ ts, t.length = n ∧ (∀ x ∈ t, 0 ≤ x ∧ x < (n : Int)) ∧ Leads nm inn t
    have wS : ∀ {i : Nat} {H1 H2 : Hp}, Wt i H1 → Same H1 H2 → Wt i H2 := fun ⟨ps, ts, m, h1, h2, h3, h4⟩ e => ⟨ps, ts, m.same e, e _ _ h1, e _ _ h2, h3.imp fun _ _ z => sqT_same e z, h4⟩
    have wM : ∀ {i : Nat} {H1 H2 : Hp}, Wt i H1 → Mv b H1 H2 → Wt i H2 := fun ⟨ps, ts, m, h1, h2, h3, h4⟩ e => ⟨ps, ts, m.trans e, e.1 _ _ Nb h1, e.1 _ _ Tb h2, h3.imp fun _ _ z => m.2.elim fun t hb => e.sqT hb z, h4⟩
    have w0 : Wt 0 H3 := ⟨[], [], mv3, hN, hT, trivial, rfl, fun _ h => nomatch h⟩
    obtain ⟨t3, hb3⟩ := mv3.2
    refine ⟨fun σ' H' => ∃ (d : Nat) (x7 x8 x9 x10 : Option V), σ' = [some (.ref b), some (.int (most : Nat)), some (.int (deeds : Nat)), some (.int (inn : Nat)), some (.int (n : Nat)), some (.ref Na), some (.ref Ta), x7, x8, x9, x10] ∧ Wt d H' ∧ 1 ≤ d ∧ d ≤ 4, ?_, ?_⟩
    · refine ⟨_, rfl, _, rfl, b, t3, (deeds : Nat), rfl, hb3, by omega, by omega, fun r H4 r0 r1 mv4 => ?_⟩
      obtain ⟨r, rfl⟩ : ∃ j : Nat, r = (j : Int) := ⟨r.toNat, by omega⟩
      refine ⟨_, _, rfl, rfl, 1 + r, ?_, by omega, by omega, ?_⟩
      · rfl
      refine for_range (lo := 0) (n := 1 + r) (fun i σ' H' => ∃ (x7 x8 x9 x10 : Option V), σ' = [some (.ref b), some (.int (most : Nat)), some (.int (deeds : Nat)), some (.int (inn : Nat)), some (.int (n : Nat)), some (.ref Na), some (.ref Ta), x7, x8, x9, x10] ∧ Wt i H') ⟨_, _, _, _, rfl, wM w0 mv4⟩ ?_ ?_
      · rintro i σ' H5 hi ⟨x7, x8, x9, x10, rfl, w5⟩
        obtain ⟨_, _, m5, h5N, _⟩ := id w5
        obtain ⟨t5, hb5⟩ := m5.2
        refine ⟨fun σ' H' => ∃ (Ra Tb' : Addr) (row : List Int), σ' = [some (.ref b), some (.int (most : Nat)), some (.int (deeds : Nat)), some (.int (inn : Nat)), some (.int (n : Nat)), some (.ref Na), some (.ref Ta), some (.int ((0 : Int) + (i : Int))), some (.ref Ra), some (.ref Tb'), x10] ∧ Wt i H' ∧ Ra ≠ b ∧ Tb' ≠ b ∧ Ra ≠ Tb' ∧ Tb' ≠ Na ∧ Tb' ≠ Ta ∧ H Tb' = none ∧ H' Ra = some (.lst (row.map V.int)) ∧ H' Tb' = some (.lst ((List.replicate n (0 : Int)).map V.int)) ∧ Swp inn row, ?_, ?_⟩
        · refine ⟨_, rfl, _, rfl, b, t5, inn, rfl, hb5, i1, by omega, fun Ra row H6 sr m6 nR Rb hR => ?_⟩
          have w6 := wM w5 m6
          refine ⟨(by show 1 ≤ sizeLine; decide), fun l hl => ?_⟩
          have e7 := same_new (o := HO.lst [V.int 0]) hl
          have u7 := upd_same (H := H6) (a := l) (o := HO.lst [V.int 0])
          have w7 := wS w6 e7
          have hR7 := e7 _ _ hR
          generalize upd H6 l (HO.lst [V.int 0]) = H7 at *
          refine ⟨_, rfl, l, (n : Nat), _, rfl, rfl, u7, by omega, by omega, (by show 1 * _ ≤ sizeLine; rw [sizeLine_eq]; omega), fun p hp => ?_⟩
          have e8 := same_new (o := HO.lst (List.replicate (n : Int).toNat [V.int 0]).flatten) hp
          have u8 := upd_same (H := H7) (a := p) (o := HO.lst (List.replicate (n : Int).toNat [V.int 0]).flatten)
          rw [Int.toNat_natCast, List.flatten_replicate_singleton] at *
          obtain ⟨_, _, m7, h7N, h7T, _⟩ := id w7
          have f := m7.free hp
          refine ⟨_, _, rfl, Ra, p, row, rfl, wS w7 e8, Rb, f.2, fun z => ?_, fun z => ?_, fun z => ?_, f.1, e8 _ _ hR7, by rw [upd_same, List.map_replicate], sr⟩
          · rw [← z, hR7] at hp; cases hp
          · rw [z, h7N] at hp; cases hp
          · rw [z, h7T] at hp; cases hp
        clear w5 m5 h5N hb5
        rintro σ' H6 ⟨Ra, Tb', row, rfl, w6, Rb, Tbb, RT, TbN, TbT, nTb, hR6, hTb6, sr⟩
        refine ⟨fun σ' H' => ∃ (y10 : Option V) (tl : List Int), σ' = [some (.ref b), some (.int (most : Nat)), some (.int (deeds : Nat)), some (.int (inn : Nat)), some (.int (n : Nat)), some (.ref Na), some (.ref Ta), some (.int ((0 : Int) + (i : Int))), some (.ref Ra), some (.ref Tb'), y10] ∧ Wt i H' ∧ H' Tb' = some (.lst (tl.map V.int)) ∧ tl.length = n ∧ (∀ x ∈ tl, 0 ≤ x ∧ x < (n : Int)) ∧ Leads nm inn tl, ?_, ?_⟩
        · refine ⟨_, rfl, n, rfl, by omega, by omega, for_range (lo := 0) (n := n) (fun j σ' H' => ∃ (y10 : Option V) (tl : List Int), σ' = [some (.ref b), some (.int (most : Nat)), some (.int (deeds : Nat)), some (.int (inn : Nat)), some (.int (n : Nat)), some (.ref Na), some (.ref Ta), some (.int ((0 : Int) + (i : Int))), some (.ref Ra), some (.ref Tb'), y10] ∧ Wt i H' ∧ H' Ra = some (.lst (row.map V.int)) ∧ H' Tb' = some (.lst (tl.map V.int)) ∧ tl.length = n ∧ (∀ x ∈ tl, 0 ≤ x ∧ x < (n : Int)) ∧ ∀ q, q < inn → q < j → tx tl (nm.getD q 0) = nm.getD (row.getD q 0).toNat 0) ⟨_, _, rfl, w6, hR6, hTb6, by rw [List.length_replicate], fun x hx => by rw [(List.mem_replicate.mp hx).2]; omega, fun q _ h => absurd h (Nat.not_lt_zero _)⟩ ?_ ?_⟩
          · rintro j σ' H7 hj ⟨y10, tl, rfl, w7, hR7, hTb7, tlen, tent, tld⟩
            rw [show (0 : Int) + (j : Int) = (j : Int) from Int.zero_add _]
            obtain ⟨_, _, m7, h7N, _⟩ := id w7
            obtain ⟨t7, hb7⟩ := m7.2
            have nj := row_in sw hj
            have put : ∀ (v : Int) (H8 : Hp), Wt i H8 → H8 Ra = some (.lst (row.map V.int)) → H8 Tb' = some (.lst (tl.map V.int)) → 0 ≤ v → v < (n : Int) → (j < inn → v = nm.getD (row.getD j 0).toNat 0) →
                ∃ (y10 : Option V) (tl' : List Int), [some (V.ref b), some (.int (most : Nat)), some (.int (deeds : Nat)), some (.int (inn : Nat)), some (.int (n : Nat)), some (.ref Na), some (.ref Ta), some (.int ((0 : Int) + (i : Int))), some (.ref Ra), some (.ref Tb'), some (V.int (j : Nat))] = [some (V.ref b), some (.int (most : Nat)), some (.int (deeds : Nat)), some (.int (inn : Nat)), some (.int (n : Nat)), some (.ref Na), some (.ref Ta), some (.int ((0 : Int) + (i : Int))), some (.ref Ra), some (.ref Tb'), y10] ∧ Wt i (upd H8 Tb' (.lst ((tl.map V.int).set (nm.getD j 0).toNat (.int v)))) ∧ (upd H8 Tb' (.lst ((tl.map V.int).set (nm.getD j 0).toNat (.int v)))) Ra = some (.lst (row.map V.int)) ∧ (upd H8 Tb' (.lst ((tl.map V.int).set (nm.getD j 0).toNat (.int v)))) Tb' = some (.lst (tl'.map V.int)) ∧ tl'.length = n ∧ (∀ x ∈ tl', 0 ≤ x ∧ x < (n : Int)) ∧ ∀ q, q < inn → q < j + 1 → tx tl' (nm.getD q 0) = nm.getD (row.getD q 0).toNat 0 := fun v H8 w8 hR8 hTb8 v0 v1 ev => by
              obtain ⟨ps, ts, m8, h8N, h8T, r8, l8, a8⟩ := w8
              refine ⟨_, tl.set (nm.getD j 0).toNat v, rfl, ⟨ps, ts, m8.put nTb Tbb, by rw [upd_ne (Ne.symm TbN)]; exact h8N, by rw [upd_ne (Ne.symm TbT)]; exact h8T, r8.imp fun _ _ z => sqT_lst hTb8 z, l8, a8⟩, by rw [upd_ne RT]; exact hR8, by rw [upd_same, List.map_set], by rw [List.length_set]; exact tlen, fun x hx => ?_, fun q hq qj => ?_⟩
              · rcases List.mem_or_eq_of_mem_set hx with h | h
                · exact tent x h
                · rw [h]; exact ⟨v0, v1⟩
              · unfold tx
                have qn := row_in sw (show q < n by omega)
                by_cases e : q = j
                · subst e
                  rw [List.getD_eq_getElem?_getD, List.getElem?_set_self (by omega)]
                  exact ev hq
                · have ne : (nm.getD j 0).toNat ≠ (nm.getD q 0).toNat := fun z => e (nd_at sw.nd (by rw [sw.len]; omega) (by rw [sw.len]; exact hj) (by omega))
                  rw [List.getD_eq_getElem?_getD, List.getElem?_set_ne ne, ← List.getD_eq_getElem?_getD]
                  exact tld q hq (by omega)
            have set : ∀ {H8 : Hp}, H8 Na = some (.lst (nm.map V.int)) → atI (nm.map V.int) (j : Int) = some (V.int (nm.getD j 0)) := fun _ => atI_nat (by rw [List.getElem?_map, nj.1]; rfl)
            have ixn : ixN (tl.map V.int).length (nm.getD j 0) = some (nm.getD j 0).toNat := by
              unfold ixN
              rw [if_pos nj.2.1, if_pos (by rw [List.length_map, tlen]; exact nj.2.2)]
            refine ⟨_, rfl, _, rfl, _, _, rfl, rfl, _, rfl, ite2 (fun h => ?_) (fun h => ?_)⟩
            · have ji : j < inn := by
                have := of_decide_eq_true h
                omega
              have rj := row_in sr ji
              have nr := row_in sw (show (row.getD j 0).toNat < n by omega)
              refine ⟨_, rfl, _, rfl, _, rfl, Ra, _, _, _, rfl, rfl, SqL.of hR7, atI_nat (j := j) (by rw [List.getElem?_map, rj.1]; rfl), Na, _, _, _, rfl, rfl, SqL.of h7N, at_int rj.2.1 (by rw [List.getElem?_map, nr.1]; rfl), ?_⟩
              refine ⟨_, rfl, _, rfl, _, rfl, Na, _, _, _, rfl, rfl, SqL.of h7N, set h7N, Tb', _, _, _, rfl, rfl, hTb7, ixn, ?_⟩
              exact put _ H7 w7 hR7 hTb7 nr.2.1 nr.2.2 fun _ => rfl
            · have ji : ¬ j < inn := fun z => h (decide_eq_true (by omega))
              refine ⟨_, rfl, _, rfl, b, t7, (n : Nat), rfl, hb7, by omega, by omega, fun v H8 v0 v1 m8 => ?_⟩
              have h8N := m8.1 _ _ Nb h7N
              refine ⟨_, rfl, _, rfl, _, rfl, Na, _, _, _, rfl, rfl, SqL.of h8N, set h8N, Tb', _, _, _, rfl, rfl, m8.1 _ _ Tbb hTb7, ixn, ?_⟩
              exact put v H8 (wM w7 m8) (m8.1 _ _ Rb hR7) (m8.1 _ _ Tbb hTb7) v0 v1 fun z => absurd z ji
          · rintro σ' H7 ⟨y10, tl, rfl, w7, hR7, hTb7, tlen, tent, tld⟩
            exact ⟨_, tl, rfl, w7, hTb7, tlen, tent, row, sr, fun q hq => tld q hq (by omega)⟩
        clear w6 hR6 hTb6
        rintro σ' H7 ⟨y10, tl, rfl, w7, hTb7, tlen, tent, tld⟩
        obtain ⟨ps, ts, m7, h7N, h7T, r7, l7, a7⟩ := w7
        refine ⟨_, rfl, .inl ⟨rfl, _, SqL.of h7T⟩, ?_⟩
        refine ⟨_, rfl, Tb', _, rfl, .inl (SqL.of hTb7), fun q H8 e8 hq => ?_⟩
        have lp := r7.length
        have h8T := e8 _ _ h7T
        refine ⟨Ta, ps, _, rfl, rfl, h8T, by rw [sizeLine_eq]; omega, _, _, _, _, rfl, ps ++ [.ref q], ts ++ [tl], (m7.same e8).put nT Tb, by rw [upd_ne (Ne.symm TN)]; exact e8 _ _ h7N, upd_same, RowsBy.snoc (R := SqT K (upd H8 Ta (.lst (ps ++ [.ref q])))) (sqT_lst h8T hq) (r7.imp fun _ _ z => sqT_lst h8T (sqT_same e8 z)), by rw [List.length_append, l7]; rfl, fun t ht => ?_⟩
        rcases List.mem_append.mp ht with h | h
        · exact a7 t h
        · rw [List.mem_singleton.mp h]
          exact ⟨tlen, tent, tld⟩
      · rintro σ' H5 ⟨x7, x8, x9, x10, rfl, w5⟩
        exact ⟨1 + r, _, _, _, _, rfl, w5, by omega, by omega⟩
    rintro σ' H4 ⟨d, x7, x8, x9, x10, rfl, ⟨ps, ts, m4, h4N, h4T, r4, l4, a4⟩, d1', d4'⟩
    refine ⟨_, rfl, Ta, ps, rfl, .inl (SqL.of h4T), fun tt H5 e5 htt => ?_⟩
    have m5 := m4.same e5
    obtain ⟨t5, hb5⟩ := m5.2
    refine ⟨_, rfl, _, rfl, _, rfl, b, t5, (inn : Nat), rfl, hb5, by omega, by omega, fun r H6 r0 r1 m6 => ?_⟩
    obtain ⟨r, rfl⟩ : ∃ j : Nat, r = (j : Int) := ⟨r.toNat, by omega⟩
    have nr := row_in sw (show r < n by omega)
    refine ⟨Na, _, _, _, rfl, rfl, SqL.of (m6.1 _ _ Nb (e5 _ _ h4N)), atI_nat (j := r) (by rw [List.getElem?_map, nr.1]; rfl), (by show 2 ≤ sizeLine; decide), fun p hp => ?_⟩
    have e7 := same_new (o := HO.tup [.ref tt, V.int (nm.getD r 0)]) hp
    have ok : Mok n ts := ⟨by omega, by omega, by omega, n8, fun t ht => (a4 t ht).1, fun t ht => (a4 t ht).2.1⟩
    exact k p tt ps n ts (nm.getD r 0) _ ((m5.trans m6).same e7) (SqT.of upd_same) (sqT_same e7 (m6.sqT hb5 htt)) (r4.imp fun _ _ z => sqT_same e7 (m6.sqT hb5 (sqT_same e5 z))) ok nr.2.1 nr.2.2 (exch_of sw nn (fun t ht => (a4 t ht).2.2) (by omega))
end
end K7
/-! the states that come, by the law -/
namespace K7
open PySem PySem.Spec PyProof.Rows L2 Kx RZ TL
def spCome (K : PySem.W.Frag) : Sp := fun vs H Q _ => ∃ (tt : Addr) (ps : List V) (n : Nat) (ts : List (List Int)) (s : Int), vs = [.ref tt, .int s] ∧ SqT K H tt ps ∧ RowsBy (SqT K H) ps ts ∧ Mok n ts ∧ 0 ≤ s ∧ s < (n : Int) ∧
  ∀ l (L : List Int) H', Same H H' → H l = none → L.Pairwise (· < ·) → (∀ x, x ∈ L ↔ Rch ts s x) → H' l = some (.lst (L.map V.int)) → Q (.ref l) H'
theorem Fnd.next {ts : List (List Int)} {s : Int} {L G : List Int} {j : Nat} (f : Fnd ts s (L ++ G) j) (hj : j < L.length) (h : ∀ d, d < ts.length → nx ts d (L.getD j 0) ∈ L ++ G) : Fnd ts s (L ++ G) (j + 1) where
  nd := f.nd
  rch := f.rch
  st := f.st
  le := by rw [List.length_append]; omega
  done := fun i x hi hx d hd => by
    by_cases e : i = j
    · subst e
      rw [List.getElem?_append_left hj] at hx
      have : L.getD i 0 = x := by rw [List.getD_eq_getElem?_getD, hx]; rfl
      rw [← this]
      exact h d hd
    · exact f.done i x (by omega) hx d hd
section
variable {P : Program} {w : World} {K : PySem.W.Frag} {mg : Str → Option Value} {base : Heap} {f : Addr} {fd : FuncData} {a : Ad} {C CM : Addr}
theorem sc_come : FnScope ["tables", "first", "found", "turn", "table"] ["tables", "first"] (defScope s_law_come) := ⟨rfl, rfl, rfl, by decide +kernel, rfl, by decide +kernel, by decide +kernel⟩
theorem ok_come (F : FnP K "_law_come" s_law_come f fd) (T : Mg mg) : FnOk P w K mg base CX0 1 f fd ["tables", "first"] (spCome K) := by
  refine F.ok sc_come (fun vs H Q E h => ?_) (fun cdv A outer s H vs Q E hr h => ?_)
  · obtain ⟨tt, ps, n, ts, s, rfl, _⟩ := h
    rfl
  · obtain ⟨tt, ps, n, ts, s0, rfl, htt, rows, ok, z0, z1, k⟩ := h
    refine ⟨_, PSs.nox (pss_cons (ps_set (i := 2) sc_come.nd rfl (by first | exact Or.inl rfl | exact Or.inr rfl) (pe_lst (pa_cons (pv 1) pa_nil)))
  (pss_cons (ps_for PassesOwn.never rfl (pi_range1 (by rfl) T.z_range (pa_cons pe_int pa_nil)) (pg_name (i := 3) sc_come.nd rfl (by first | exact Or.inl rfl | exact Or.inr rfl))
  (pss_one (ps_if (pt_cmpR op_lt (pv 3) (pe_callB call_len_seq (by rfl) T.z_len PySem.boot_len (pa_cons (pv 2) pa_nil)) (nomark _))
  (pss_one (ps_for PassesOwn.never rfl (pi_tup (pv 0)) (pg_name (i := 4) sc_come.nd rfl (by first | exact Or.inl rfl | exact Or.inr rfl))
  (pss_one (ps_if (pt_cmpR op_notIn_seq (pe_ix ix_tup (pv 4) (pe_ix ix_list (pv 2) (pv 3) (fun _ _ => rfl)) (fun _ _ => rfl)) (pv 2) (by rfl))
  (pss_one (ps_expr (pe_bm PySem.F.plainAttrs_list PySem.F.slot_list_append PySem.F.type_list_append mt_append (pv 2) (pa_cons (pe_ix ix_tup (pv 4) (pe_ix ix_list (pv 2) (pv 3) (fun _ _ => rfl)) (fun _ _ => rfl)) pa_nil))))
  pss_nil))))
  pss_nil)))
  (pss_one (ps_ret (pe_callB cr_sorted (by rfl) T.z_sorted (by decide +kernel) (pa_cons (pv 2) pa_nil)))))), ?_⟩
    have n8 := ok.n8
    have lps := rows.length
    refine ⟨_, rfl, (by show 1 ≤ sizeLine; decide), fun Fa hF => ?_⟩
    have e1 := same_new (o := HO.lst [V.int s0]) hF
    have u1 : upd H Fa (HO.lst [V.int s0]) Fa = some (.lst (([s0] : List Int).map V.int)) := upd_same
    have nF : H Fa = none := hF
    generalize upd H Fa (HO.lst [V.int s0]) = H1 at *
    refine ⟨8, rfl, by decide, by decide, for_range (lo := 0) (n := 8) (fun i σ' H' => ∃ (x3 x4 : Option V) (L : List Int), σ' = [some (.ref tt), some (.int s0), some (.ref Fa), x3, x4] ∧ Same H H' ∧ H' Fa = some (.lst (L.map V.int)) ∧ Fnd ts s0 L (min i L.length)) ⟨_, _, [s0], rfl, e1, u1, ⟨by simp, fun x hx => by rw [List.mem_singleton.mp hx]; exact .refl, List.mem_singleton.mpr rfl, Nat.min_le_right _ _, fun i x hi => by omega⟩⟩ ?_ ?_⟩
    · rintro i σ' H2 hi ⟨x3, x4, L, rfl, e2, h2, fn⟩
      rw [show (0 : Int) + (i : Int) = (i : Int) from Int.zero_add _]
      refine ⟨_, rfl, _, rfl, Fa, _, rfl, .inl (SqL.of h2), _, _, rfl, rfl, _, rfl, ite2 (fun lt => ?_) (fun ge => ?_)⟩
      · rw [List.length_map] at lt
        have lt : i < L.length := by
          have := of_decide_eq_true lt
          omega
        rw [Nat.min_eq_left (by omega)] at fn
        have ex := getD_at lt
        have hx := ok.rch z0 z1 (fn.rch _ (List.mem_of_getElem? ex))
        refine ⟨_, rfl, tt, rfl, ⟨ps, sqT_same e2 htt⟩, ?_⟩
        refine for_tup (xs := ps) (fun j σ3 H3 => ∃ (x4 : Option V) (G : List Int), σ3 = [some (.ref tt), some (.int s0), some (.ref Fa), some (.int (i : Int)), x4] ∧ Same H H3 ∧ H3 Fa = some (.lst ((L ++ G).map V.int)) ∧ Fnd ts s0 (L ++ G) i ∧ ∀ d, d < j → nx ts d (L.getD i 0) ∈ L ++ G) ⟨_, [], rfl, e2, by rw [List.append_nil]; exact h2, by rw [List.append_nil]; exact fn, fun d h => absurd h (Nat.not_lt_zero _)⟩ (fun j σ3 H3 _ z => by
          obtain ⟨_, _, _, e, _⟩ := z
          exact sqT_same e htt) ?_ ?_
        · rintro j y σ3 H3 hy ⟨x4, G, rfl, e3, h3, f3, cl3⟩
          have hj : j < ts.length := by rw [← lps]; exact (List.getElem?_eq_some_iff.mp hy).1
          have tj : ts[j]? = some ts[j] := List.getElem?_eq_getElem hj
          obtain ⟨q, b1, b2⟩ := rows.at_ tj
          rw [hy] at b1
          cases b1
          obtain ⟨tl, tr⟩ := Mok.inr ok (List.getElem_mem hj)
          have en : nx ts j (L.getD i 0) = tx ts[j] (L.getD i 0) := by unfold nx tx; rw [getD_of tj]
          have a1 : atI ((L ++ G).map V.int) (i : Int) = some (V.int (L.getD i 0)) := atI_nat (by rw [List.getElem?_map, List.getElem?_append_left lt, ex]; rfl)
          have a2 : atI (ts[j].map V.int) (L.getD i 0) = some (V.int (tx ts[j] (L.getD i 0))) := at_int hx.1 (tr.at_ hx.1 (by rw [tl]; exact hx.2)).1
          have rx : Rch ts s0 (tx ts[j] (L.getD i 0)) := by
            rw [← en]
            exact (fn.rch _ (List.mem_of_getElem? ex)).step hj
          have lG : (L ++ G).length ≤ n := len_le f3.nd fun x hx => ok.rch z0 z1 (f3.rch x hx)
          refine ⟨_, rfl, _, rfl, _, rfl, Fa, _, _, _, rfl, rfl, SqL.of h3, a1, q, _, _, _, rfl, rfl, sqT_same e3 b2, a2, ?_⟩
          refine ⟨_, rfl, Fa, _, rfl, .inl (SqL.of h3), rfl, flat_nums, ?_⟩
          rw [inV_nums]
          by_cases m : tx ts[j] (L.getD i 0) ∈ L ++ G
          · rw [decide_eq_true m]
            refine ⟨_, rfl, iteF ⟨_, G, rfl, e3, h3, f3, fun d hd => ?_⟩⟩
            by_cases dj : d = j
            · rw [dj, en]; exact m
            · exact cl3 d (by omega)
          · rw [decide_eq_false m]
            refine ⟨_, rfl, iteT ?_⟩
            refine ⟨_, rfl, .inl ⟨rfl, _, SqL.of h3⟩, _, rfl, _, rfl, _, rfl, Fa, _, _, _, rfl, rfl, SqL.of h3, a1, q, _, _, _, rfl, rfl, sqT_same e3 b2, a2, ?_⟩
            refine ⟨Fa, _, _, rfl, rfl, h3, by rw [List.length_map, sizeLine_eq]; omega, _, G ++ [tx ts[j] (L.getD i 0)], rfl, same_put e3 nF, ?_, ?_, fun d hd => ?_⟩
            · rw [upd_same, ← List.append_assoc, List.map_append (l₁ := L ++ G)]
              rfl
            · rw [← List.append_assoc]
              exact f3.more rx m
            · rw [← List.append_assoc]
              by_cases dj : d = j
              · rw [dj, en]
                exact List.mem_append_right _ (List.mem_singleton.mpr rfl)
              · exact List.mem_append_left _ (cl3 d (by omega))
        · rintro σ3 H3 ⟨x4, G, rfl, e3, h3, f3, cl3⟩
          have f4 := f3.next lt fun d hd => cl3 d (by rw [lps]; exact hd)
          refine ⟨_, _, L ++ G, rfl, e3, h3, ?_⟩
          rw [Nat.min_eq_left (by rw [List.length_append]; omega)]
          exact f4
      · rw [List.length_map] at ge
        have ge : L.length ≤ i := by simpa using ge
        refine ⟨_, _, L, rfl, e2, h2, ?_⟩
        rw [Nat.min_eq_right (by omega)]
        rw [Nat.min_eq_right ge] at fn
        exact fn
    · rintro σ' H2 ⟨x3, x4, L, rfl, e2, h2, fn⟩
      have lL : L.length ≤ n := len_le fn.nd fun x hx => ok.rch z0 z1 (fn.rch x hx)
      rw [Nat.min_eq_right (by omega)] at fn
      refine ⟨_, rfl, Fa, L, rfl, SqL.of h2, by omega, fun M p pm srt hp => ?_⟩
      have np : H p = none := by
        cases z : H p with
        | none => rfl
        | some o => rw [e2 _ _ z] at hp; cases hp
      exact k p M _ (e2.trans (same_new hp)) np (lt_of_le srt ((pm.nodup_iff).mpr fn.nd)) (fun x => (pm.mem_iff).trans (fn.all x)) upd_same
end
end K7
/-! labels that are made one -/
namespace K7
open L2 PySem PySem.Spec PyProof.Rows Kx RZ
def eqP (c : Int → Int) (pr : List Int) : Prop := ∀ u v, pr = [u, v] → c u = c v
/-- what stands while labels are made one -/
structure Lb (PR : Nat → Nat → Prop) (ts : List (List Int)) (cs : List Nat) (L : List Int) (c : Int → Int) (tog : List (List Int)) : Prop where
  sound : ∀ x ∈ L, ∀ y ∈ L, c x = c y → Tog PR ts cs L x y
  soundT : ∀ pr ∈ tog, ∃ u v, pr = [u, v] ∧ Tog PR ts cs L u v
  seeds : ∀ u v, Seed PR ts cs L u v → [u, v] ∈ tog
  cin : ∀ x ∈ L, c x ∈ L
  idem : ∀ x ∈ L, c (c x) = c x
section
variable {PR : Nat → Nat → Prop} {n : Nat} {ts : List (List Int)} {cs : List Nat} {L : List Int} {c c0 : Int → Int} {tog : List (List Int)} {u v x y : Int}
theorem Lb.start (h1 : ∀ sd ∈ tog, ∃ u v, sd = [u, v] ∧ Seed PR ts cs L u v) (h2 : ∀ u v, Seed PR ts cs L u v → [u, v] ∈ tog) : Lb PR ts cs L (fun x => x) tog :=
  ⟨fun x hx y _ e => by rw [show x = y from e] at hx ⊢; exact .refl hx, fun pr hp => by
    obtain ⟨u, v, e, s⟩ := h1 pr hp
    exact ⟨u, v, e, .seed s⟩, h2, fun _ h => h, fun _ _ => rfl⟩
theorem Lb.merge (w : Wrl n ts L) (h : Lb PR ts cs L c tog) (m : [u, v] ∈ tog) : Lb PR ts cs L (join c (c v) (c u)) tog := by
  obtain ⟨u', v', e, t⟩ := h.soundT _ m
  cases e
  obtain ⟨hu, hv⟩ := t.inL w
  refine ⟨fun x hx y hy e => ?_, h.soundT, h.seeds, fun x hx => ?_, fun x hx => ?_⟩
  · rcases join_or e with e | ⟨e1, e2⟩ | ⟨e1, e2⟩
    · exact h.sound x hx y hy e
    · exact (h.sound x hx u hu e1).trans (t.trans (h.sound v hv y hy e2.symm))
    · exact (h.sound x hx v hv e1).trans (t.symm.trans (h.sound u hu y hy e2.symm))
  · unfold join
    split
    · exact h.cin v hv
    · exact h.cin x hx
  · unfold join
    by_cases e : c x = c u
    · rw [if_pos e, h.idem v hv]
      split <;> rfl
    · rw [if_neg e, h.idem x hx, if_neg e]
theorem join_pair : join c (c v) (c u) u = join c (c v) (c u) v := by
  unfold join
  rw [if_pos rfl]
  split <;> rfl
theorem join_none (e : c u = c v) : join c (c v) (c u) = c := funext fun x => by
  unfold join
  split
  · rename_i h
    rw [h, e]
  · rfl
/-- what stands while the pairs are gone through: i are done -/
structure Ps (PR : Nat → Nat → Prop) (ts : List (List Int)) (cs : List Nat) (L : List Int) (c0 c : Int → Int) (tog : List (List Int)) (i : Nat) : Prop where
  lb : Lb PR ts cs L c tog
  eq : ∀ pr ∈ tog.take i, eqP c pr
  same : (∀ pr ∈ tog.take i, eqP c0 pr) → c = c0
  less : (∃ pr ∈ tog.take i, ¬ eqP c0 pr) → roots L c < roots L c0
theorem Ps.init (h : Lb PR ts cs L c tog) : Ps PR ts cs L c c tog 0 := ⟨h, (fun _ h => nomatch h), fun _ => rfl, fun ⟨_, h, _⟩ => nomatch h⟩
theorem Ps.step (w : Wrl n ts L) {i : Nat} (h : Ps PR ts cs L c0 c tog i) (m : tog[i]? = some [u, v]) : Ps PR ts cs L c0 (join c (c v) (c u)) tog (i + 1) := by
  have mem := List.mem_of_getElem? m
  obtain ⟨u', v', e', t⟩ := h.lb.soundT _ mem
  cases e'
  obtain ⟨hu, hv⟩ := t.inL w
  have tk : tog.take (i + 1) = tog.take i ++ [[u, v]] := by rw [List.take_add_one, m]; rfl
  have ca : (∀ pr ∈ tog.take i, eqP c0 pr) ∨ ∃ pr ∈ tog.take i, ¬ eqP c0 pr := by
    by_cases z : ∃ pr ∈ tog.take i, ¬ eqP c0 pr
    · exact .inr z
    · exact .inl fun pr hp => Classical.byContradiction fun q => z ⟨pr, hp, q⟩
  refine ⟨h.lb.merge w mem, fun pr hp => ?_, fun al => ?_, fun ex => ?_⟩
  · rw [tk] at hp
    rcases List.mem_append.mp hp with hp | hp
    · exact fun a b e => join_eq (h.eq pr hp a b e)
    · rw [List.mem_singleton.mp hp]
      intro a b e
      cases e
      exact join_pair
  · rw [tk] at al
    have e := h.same fun pr hp => al pr (List.mem_append_left _ hp)
    have e2 := al [u, v] (List.mem_append_right _ (List.mem_singleton.mpr rfl)) u v rfl
    rw [e, join_none e2]
  · by_cases e : c u = c v
    · rw [join_none e]
      rcases ca with ca | ca
      · have e0 := h.same ca
        obtain ⟨pr, hp, no⟩ := ex
        rw [tk] at hp
        rcases List.mem_append.mp hp with hp | hp
        · exact absurd (ca pr hp) no
        · rw [List.mem_singleton.mp hp] at no
          exact absurd (fun a b z => by cases z; rw [← e0]; exact e) no
      · exact h.less ca
    · have r := roots_join (c := c) w.nd (k := c v) (d := c u) (h.lb.cin u hu) (h.lb.idem v hv) (h.lb.idem u hu) (Ne.symm e)
      rcases ca with ca | ca
      · rw [← h.same ca]
        omega
      · have := h.less ca
        omega
/-- classes go into classes -/
def Clo (ts : List (List Int)) (L : List Int) (c : Int → Int) : Prop := ∀ x ∈ L, ∀ y ∈ L, c x = c y → ∀ t ∈ ts, c (tx t x) = c (tx t y)
/-- what stands while pairs are added: those of p are done -/
structure Ad2 (PR : Nat → Nat → Prop) (ts : List (List Int)) (cs : List Nat) (L : List Int) (c : Int → Int) (tog : List (List Int)) (p : Int → Int → Prop) : Prop where
  lb : Lb PR ts cs L c tog
  kept : Clo ts L c → ∀ pr ∈ tog, eqP c pr
  or_ : ((∀ pr ∈ tog, eqP c pr) ∧ ∀ x ∈ L, ∀ y ∈ L, p x y → c x = c y → ∀ t ∈ ts, c (tx t x) = c (tx t y)) ∨ ∃ pr ∈ tog, ¬ eqP c pr
theorem Ad2.init (h : Lb PR ts cs L c tog) (e : ∀ pr ∈ tog, eqP c pr) {p : Int → Int → Prop} (no : ∀ x y, ¬ p x y) : Ad2 PR ts cs L c tog p := ⟨h, fun _ => e, .inl ⟨e, fun x _ y _ h => absurd h (no x y)⟩⟩
theorem Ad2.imp {p q : Int → Int → Prop} (h : Ad2 PR ts cs L c tog p) (i : ∀ x ∈ L, ∀ y ∈ L, q x y → p x y) : Ad2 PR ts cs L c tog q := ⟨h.lb, h.kept, h.or_.imp (fun ⟨a, b⟩ => ⟨a, fun x hx y hy hq => b x hx y hy (i x hx y hy hq)⟩) id⟩
/-- the pairs that one pair adds -/
def addOf (ts : List (List Int)) (c : Int → Int) (x y : Int) : List (List Int) := (ts.filter fun t => decide (c (tx t x) ≠ c (tx t y))).map fun t => [tx t x, tx t y]
theorem Ad2.skip {p q : Int → Int → Prop} (h : Ad2 PR ts cs L c tog p) (ne : c x ≠ c y) (i : ∀ a ∈ L, ∀ b ∈ L, q a b → p a b ∨ (a = x ∧ b = y)) : Ad2 PR ts cs L c tog q :=
  ⟨h.lb, h.kept, h.or_.imp (fun ⟨z, b⟩ => ⟨z, fun a ha d hd hq e => (i a ha d hd hq).elim (fun k => b a ha d hd k e) fun k => absurd (by rw [← k.1, ← k.2]; exact e) ne⟩) id⟩
theorem Ad2.put {p q : Int → Int → Prop} (h : Ad2 PR ts cs L c tog p) (w : Wrl n ts L) (hx : x ∈ L) (hy : y ∈ L) (e : c x = c y) (i : ∀ a ∈ L, ∀ b ∈ L, q a b → p a b ∨ (a = x ∧ b = y)) : Ad2 PR ts cs L c (tog ++ addOf ts c x y) q := by
  have txy := h.lb.sound x hx y hy e
  have inn : ∀ {pr}, pr ∈ addOf ts c x y → ∃ t ∈ ts, c (tx t x) ≠ c (tx t y) ∧ pr = [tx t x, tx t y] := fun hp => by
    obtain ⟨t, ht, rfl⟩ := List.mem_map.mp hp
    obtain ⟨h1, h2⟩ := List.mem_filter.mp ht
    exact ⟨t, h1, of_decide_eq_true h2, rfl⟩
  refine ⟨⟨h.lb.sound, fun pr hp => ?_, fun u v s => List.mem_append_left _ (h.lb.seeds u v s), h.lb.cin, h.lb.idem⟩, fun cl pr hp => ?_, ?_⟩
  · rcases List.mem_append.mp hp with hp | hp
    · exact h.lb.soundT pr hp
    · obtain ⟨t, ht, _, rfl⟩ := inn hp
      obtain ⟨d, hd⟩ := List.getElem?_of_mem ht
      have := txy.step d (List.getElem?_eq_some_iff.mp hd).1
      rw [getD_of hd] at this
      exact ⟨_, _, rfl, this⟩
  · rcases List.mem_append.mp hp with hp | hp
    · exact h.kept cl pr hp
    · obtain ⟨t, ht, no, rfl⟩ := inn hp
      exact absurd (cl x hx y hy e t ht) no
  · rcases h.or_ with ⟨a, b⟩ | ⟨pr, hp, no⟩
    · by_cases z : ∃ t ∈ ts, c (tx t x) ≠ c (tx t y)
      · obtain ⟨t, ht, no⟩ := z
        exact .inr ⟨_, List.mem_append_right _ (List.mem_map.mpr ⟨t, List.mem_filter.mpr ⟨ht, decide_eq_true no⟩, rfl⟩), fun q => no (q _ _ rfl)⟩
      · refine .inl ⟨fun pr hp => ?_, fun a' ha d hd hq e' t ht => ?_⟩
        · rcases List.mem_append.mp hp with hp | hp
          · exact a pr hp
          · obtain ⟨t, ht, no, rfl⟩ := inn hp
            exact absurd ⟨t, ht, no⟩ z
        · rcases i a' ha d hd hq with k | ⟨k1, k2⟩
          · exact b a' ha d hd k e' t ht
          · rw [k1, k2]
            exact Classical.byContradiction fun no => z ⟨t, ht, no⟩
    · exact .inr ⟨pr, List.mem_append_left _ hp, no⟩
/-- what stands behind k rounds -/
structure Rd9 (PR : Nat → Nat → Prop) (ts : List (List Int)) (cs : List Nat) (L : List Int) (c : Int → Int) (tog : List (List Int)) (k : Nat) : Prop where
  lb : Lb PR ts cs L c tog
  or_ : k = 0 ∨ ((∀ pr ∈ tog, eqP c pr) ∧ Clo ts L c) ∨ ((∃ pr ∈ tog, ¬ eqP c pr) ∧ roots L c + k ≤ 9)
theorem Rd9.next (l8 : L.length ≤ 8) {k : Nat} {tog' : List (List Int)} (h : Rd9 PR ts cs L c0 tog k) (p : Ps PR ts cs L c0 c tog tog.length) (a : Ad2 PR ts cs L c tog' fun _ _ => True) : Rd9 PR ts cs L c tog' (k + 1) := by
  have tk : tog.take tog.length = tog := List.take_length
  refine ⟨a.lb, .inr ?_⟩
  rcases a.or_ with ⟨h1, h2⟩ | no
  · exact .inl ⟨h1, fun x hx y hy e t ht => h2 x hx y hy trivial e t ht⟩
  · refine .inr ⟨no, ?_⟩
    rcases h.or_ with h | ⟨h1, h2⟩ | ⟨h1, h2⟩
    · have := roots_le (L := L) (c := c)
      omega
    · have e := p.same (by rw [tk]; exact h1)
      rw [← e] at h2
      obtain ⟨pr, hp, q⟩ := no
      exact absurd (a.kept h2 pr hp) q
    · have := p.less (by rw [tk]; exact h1)
      omega
theorem Rd9.done (w : Wrl n ts L) (hs : u ∈ L) (h : Rd9 PR ts cs L c tog 9) : Cls1 PR ts cs L c := by
  have pos : 0 < roots L c := by
    unfold roots
    exact List.length_pos_of_mem (List.mem_filter.mpr ⟨h.lb.cin u hs, decide_eq_true (h.lb.idem u hs)⟩)
  rcases h.or_ with z | ⟨h1, h2⟩ | ⟨_, z⟩
  · cases z
  · refine fun x hx y hy => ⟨h.lb.sound x hx y hy, fun t => ?_⟩
    clear hx hy
    induction t with
    | seed s => exact h1 _ (h.lb.seeds _ _ s) _ _ rfl
    | refl _ => rfl
    | symm _ ih => exact ih.symm
    | trans _ _ i1 i2 => exact i1.trans i2
    | step d hd t ih =>
      obtain ⟨a, b⟩ := t.inL w
      exact h2 _ a _ b ih _ (getD_mem hd)
  · omega
end
end K7
/-! a statement leads from one word to the next -/
namespace K7
open L2 PySem PySem.Spec PyProof.Rows Kx RZ
def HT {ι : Type} (X : Cx) (s : Stmt) (A B : ι → L2.St → Hp → Prop) : Prop := ∃ t : TS, PS X s t ∧ ∀ i (D : Ends) σ H, A i σ H → (∀ σ' H', B i σ' H' → D.nx σ' H') → t D σ H
def HTs {ι : Type} (X : Cx) (ss : List Stmt) (A B : ι → L2.St → Hp → Prop) : Prop := ∃ t : TS, PSs X ss t ∧ ∀ i (D : Ends) σ H, A i σ H → (∀ σ' H', B i σ' H' → D.nx σ' H') → t D σ H
section
variable {ι κ : Type} {X : Cx} {s : Stmt} {ss : List Stmt}
theorem HTs.cons {A B C : ι → L2.St → Hp → Prop} (h : HT X s A B) (g : HTs X ss B C) : HTs X (s :: ss) A C := by
  obtain ⟨t, h1, h2⟩ := h
  obtain ⟨u, g1, g2⟩ := g
  exact ⟨_, pss_cons h1 g1, fun n D σ H a k => h2 n { D with nx := u D } σ H a fun σ' H' b => g2 n D σ' H' b k⟩
theorem HTs.one {A B : ι → L2.St → Hp → Prop} (h : HT X s A B) : HTs X [s] A B := by
  obtain ⟨t, h1, h2⟩ := h
  exact ⟨_, pss_one h1, h2⟩
/-- the words told by other indices -/
theorem HT.by {A B : ι → L2.St → Hp → Prop} {A' B' : κ → L2.St → Hp → Prop} (h : HT X s A B) (k : ∀ j σ H, A' j σ H → ∃ i, A i σ H ∧ ∀ σ' H', B i σ' H' → B' j σ' H') : HT X s A' B' := by
  obtain ⟨t, h1, h2⟩ := h
  exact ⟨t, h1, fun j D σ H a kk => by
    obtain ⟨i, ai, bi⟩ := k j σ H a
    exact h2 i D σ H ai fun σ' H' b => kk σ' H' (bi σ' H' b)⟩
theorem HTs.by {A B : ι → L2.St → Hp → Prop} {A' B' : κ → L2.St → Hp → Prop} (h : HTs X ss A B) (k : ∀ j σ H, A' j σ H → ∃ i, A i σ H ∧ ∀ σ' H', B i σ' H' → B' j σ' H') : HTs X ss A' B' := by
  obtain ⟨t, h1, h2⟩ := h
  exact ⟨t, h1, fun j D σ H a kk => by
    obtain ⟨i, ai, bi⟩ := k j σ H a
    exact h2 i D σ H ai fun σ' H' b => kk σ' H' (bi σ' H' b)⟩
end
def nthS : List Stmt → Nat → Stmt
  | s :: _, 0 => s
  | _ :: r, n + 1 => nthS r n
  | [], _ => .Pass ⟨0, 0, 0, 0⟩
def inS : Stmt → List Stmt
  | .For _ _ b _ _ => b
  | _ => []
def valS : Stmt → Option Expr
  | .Assign _ e _ => some e
  | _ => none
def scopeS : Option Expr → Scope → Scope
  | some (.ListComp _ _ s _), _ => s
  | _, d => d
end K7
/-! _law_parted: what stands, the first statements -/
namespace K7
open L2 PySem PySem.Spec PyProof.Rows Kx RZ
/-- what is told by states: i are done, and of the next a pairs and d deeds -/
structure Sk (ts prs : List (List Int)) (cs : List Nat) (L : List Int) (tog : List (List Int)) (i a d : Nat) : Prop where
  are : ∀ sd ∈ tog, ∃ u v, sd = [u, v] ∧ Seed (Rl prs) ts cs L u v
  comm : ∀ j x, L[j]? = some x → ∀ k pr, prs[k]? = some pr → (j < i ∨ (j = i ∧ k < a)) → ∀ b e : Nat, pr = [(b : Int), (e : Int)] → commOf ts b e x ∈ tog
  turn : ∀ j x, L[j]? = some x → ∀ e, e < ts.length → (j < i ∨ (j = i ∧ e < d)) → turnOf ts cs e x ∈ tog
  len : tog.length ≤ i * 20 + a + d
section
variable {ts prs : List (List Int)} {cs : List Nat} {L : List Int} {tog : List (List Int)} {i a d : Nat} {x : Int}
theorem Sk.init : Sk ts prs cs L [] 0 0 0 := ⟨(fun _ h => nomatch h), (fun _ _ _ _ _ _ h => by omega), (fun _ _ _ _ _ h => by omega), Nat.zero_le _⟩
theorem Sk.addC (h : Sk ts prs cs L tog i a d) (hx : L[i]? = some x) {b e : Nat} (hp : prs[a]? = some [(b : Int), (e : Int)]) (bt : b < ts.length) (et : e < ts.length) : Sk ts prs cs L (tog ++ [commOf ts b e x]) i (a + 1) d := by
  refine ⟨fun sd hs => ?_, fun j y hy k pr hpr lt b' e' epr => ?_, fun j y hy k hk lt => List.mem_append_left _ (h.turn j y hy k hk lt), by rw [List.length_append, List.length_singleton]; have := h.len; omega⟩
  · rcases List.mem_append.mp hs with hs | hs
    · exact h.are sd hs
    · rw [List.mem_singleton.mp hs]
      exact ⟨_, _, rfl, .comm b e x (List.mem_of_getElem? hp) bt et (List.mem_of_getElem? hx)⟩
  · by_cases z : j = i ∧ k = a
    · obtain ⟨rfl, rfl⟩ := z
      rw [hpr] at hp
      rw [hx] at hy
      cases hy
      have q := (Option.some.inj hp).symm.trans epr
      obtain ⟨q1, q2⟩ : (b : Int) = (b' : Int) ∧ (e : Int) = (e' : Int) := by simpa using q
      rw [show b = b' by omega, show e = e' by omega]
      exact List.mem_append_right _ (List.mem_singleton.mpr rfl)
    · exact List.mem_append_left _ (h.comm j y hy k pr hpr (by omega) b' e' epr)
theorem Sk.addT (h : Sk ts prs cs L tog i a d) (hx : L[i]? = some x) (hd : d < ts.length) : Sk ts prs cs L (tog ++ [turnOf ts cs d x]) i a (d + 1) := by
  refine ⟨fun sd hs => ?_, fun j y hy k pr hpr lt b' e' epr => List.mem_append_left _ (h.comm j y hy k pr hpr lt b' e' epr), fun j y hy k hk lt => ?_, by rw [List.length_append, List.length_singleton]; have := h.len; omega⟩
  · rcases List.mem_append.mp hs with hs | hs
    · exact h.are sd hs
    · rw [List.mem_singleton.mp hs]
      exact ⟨_, _, rfl, .turn d x hd (List.mem_of_getElem? hx)⟩
  · by_cases z : j = i ∧ k = d
    · obtain ⟨rfl, rfl⟩ := z
      rw [hx] at hy
      cases hy
      exact List.mem_append_right _ (List.mem_singleton.mpr rfl)
    · exact List.mem_append_left _ (h.turn j y hy k hk (by omega))
theorem Sk.next (h : Sk ts prs cs L tog i prs.length ts.length) (p16 : prs.length ≤ 16) (t4 : ts.length ≤ 4) : Sk ts prs cs L tog (i + 1) 0 0 := by
  refine ⟨h.are, fun j y hy k pr hpr lt b e epr => h.comm j y hy k pr hpr ?_ b e epr, fun j y hy k hk lt => h.turn j y hy k hk (by omega), by have := h.len; omega⟩
  have := (List.getElem?_eq_some_iff.mp hpr).1
  omega
theorem Sk.all (h : Sk ts prs cs L tog L.length 0 0) (po : PairsOf ts.length prs) : ∀ u v, Seed (Rl prs) ts cs L u v → [u, v] ∈ tog := fun u v s => by
  cases s with
  | comm b e x be hb he hx =>
    obtain ⟨j, hj⟩ := List.getElem?_of_mem hx
    obtain ⟨k, hk⟩ := List.getElem?_of_mem (show [(b : Int), (e : Int)] ∈ prs from be)
    exact h.comm j x hj k _ hk (.inl (List.getElem?_eq_some_iff.mp hj).1) b e rfl
  | turn e x he hx =>
    obtain ⟨j, hj⟩ := List.getElem?_of_mem hx
    exact h.turn j u hj e he (.inl (List.getElem?_eq_some_iff.mp hj).1)
end
/-- what is given -/
structure Giv (K : PySem.W.Frag) (H : Hp) (tt pq r : Addr) (ps pps : List V) (ts prs : List (List Int)) (s : Int) (cs : List Nat) (n : Nat) : Prop where
  tt : SqT K H tt ps
  rows : RowsBy (SqT K H) ps ts
  pq : H pq = some (.lst pps)
  prow : RowsBy (SqT K H) pps prs
  po : PairsOf ts.length prs
  r : H r = some (.lst (cs.map fun c => V.int (c : Nat)))
  lc : ts.length = cs.length
  l4 : ts.length ≤ 4
  c60 : ∀ c ∈ cs, c ≤ 60
  ok : Mok n ts
  s0 : 0 ≤ s
  s1 : s < (n : Int)
  ex : Exch ts s
/-- the objects that are made -/
structure Gq where
  lc : Addr
  dl : Addr
  td : Addr
  L : List Int
  c : Int → Int
  us : List V
  tog : List (List Int)
/-- what stands -/
structure Wq (K : PySem.W.Frag) (H0 : Hp) (n : Nat) (ts : List (List Int)) (s : Int) (q : Gq) (H : Hp) : Prop where
  mch : Mch n ts s q.L
  old : Same H0 H
  come : H q.lc = some (.lst (q.L.map V.int))
  lab : H q.dl = some (.dK (dict q.L q.c))
  told : H q.td = some (.lst q.us)
  rows : RowsBy (SqT K H) q.us q.tog
  nl : H0 q.dl = none
  nt : H0 q.td = none
  ne : q.lc ≠ q.td
section
variable {K : PySem.W.Frag} {H0 H : Hp} {n : Nat} {ts : List (List Int)} {s : Int} {q : Gq}
theorem Wq.push (h : Wq K H0 n ts s q H) {t : Addr} {pr : List Int} (ht : H t = none) : Wq K H0 n ts s { q with us := q.us ++ [.ref t], tog := q.tog ++ [pr] } (upd (upd H t (.tup (pr.map V.int))) q.td (.lst (q.us ++ [.ref t]))) := by
  have e1 := same_new (o := HO.tup (pr.map V.int)) ht
  have u1 : SqT K (upd H t (.tup (pr.map V.int))) t (pr.map V.int) := SqT.of upd_same
  generalize upd H t (.tup (pr.map V.int)) = H1 at *
  have td1 := e1 _ _ h.told
  have up : ∀ {b o}, b ≠ q.td → H b = some o → upd H1 q.td (.lst (q.us ++ [.ref t])) b = some o := fun ne hb => by rw [upd_ne ne]; exact e1 _ _ hb
  exact ⟨h.mch, same_put (h.old.trans e1) h.nt, up h.ne h.come, up (ne_of h.lab h.told fun z => nomatch z) h.lab, upd_same, RowsBy.snoc (R := SqT K _) (sqT_lst td1 u1) (h.rows.imp fun _ _ z => sqT_lst td1 (sqT_same e1 z)), h.nl, h.nt, h.ne⟩
theorem Wq.relab (h : Wq K H0 n ts s q H) (c' : Int → Int) : Wq K H0 n ts s { q with c := c' } (upd H q.dl (.dK (dict q.L c'))) :=
  ⟨h.mch, same_put h.old h.nl, by rw [upd_ne (ne_of h.come h.lab fun z => nomatch z)]; exact h.come, upd_same, by rw [upd_ne (ne_of h.told h.lab fun z => nomatch z)]; exact h.told,
    h.rows.imp fun b xs z => sqT_keep (fun b o ne hb => by rw [upd_ne ne]; exact hb) h.lab z, h.nl, h.nt, h.ne⟩
theorem Wq.same (h : Wq K H0 n ts s q H) {H' : Hp} (e : Same H H') : Wq K H0 n ts s q H' :=
  ⟨h.mch, h.old.trans e, e _ _ h.come, e _ _ h.lab, e _ _ h.told, h.rows.imp fun _ _ z => sqT_same e z, h.nl, h.nt, h.ne⟩
end
abbrev sgP (tt : Addr) (s : Int) (pq r : Addr) (x4 x5 x6 x7 x8 x9 x10 x11 x12 x13 x14 x15 x16 : Option V) : L2.St := [some (.ref tt), some (.int s), some (.ref pq), some (.ref r), x4, x5, x6, x7, x8, x9, x10, x11, x12, x13, x14, x15, x16]
abbrev sgQ (tt : Addr) (s : Int) (pq r : Addr) (q : Gq) (x6 x8 x9 x10 x11 x12 x13 x14 x15 x16 : Option V) : L2.St := sgP tt s pq r (some (.ref q.lc)) (some (.ref q.dl)) x6 (some (.ref q.td)) x8 x9 x10 x11 x12 x13 x14 x15 x16
theorem sclaw_parted : FnScope ["tables", "first", "pairs", "rounds", "come", "label", "state", "told", "one", "other", "deed", "there", "turn", "old", "new", "lots", "table"] ["tables", "first", "pairs", "rounds"] (defScope s_law_parted) := ⟨rfl, rfl, rfl, by decide +kernel, rfl, by decide +kernel, by decide +kernel⟩
abbrev XP (P : Program) (w : World) (K : PySem.W.Frag) (mg : Str → Option Value) (base : Heap) (f : Addr) (cdv : Value) (A : Around) (outer : List Env) (st : Shared) (H : Hp) (E : XK) : Cx := (cxOf CX0 P w K mg base ["tables", "first", "pairs", "rounds", "come", "label", "state", "told", "one", "other", "deed", "there", "turn", "old", "new", "lots", "table"] "_law_parted" (defScope s_law_parted) f cdv A outer st H E).nox
abbrev parS : List Stmt := defBody s_law_parted
/-- what the statements know -/
structure Lp (P : Program) (w : World) (K : PySem.W.Frag) (mg : Str → Option Value) (base : Heap) (f : Addr) (cdv : Value) (A : Around) (outer : List Env) (st : Shared) (H0 : Hp) (tt pq r : Addr) (ps pps : List V) (ts prs : List (List Int)) (s : Int) (cs : List Nat) (n : Nat) : Prop where
  T : Mg mg
  come : Cal P w K mg base CX0 1 "_law_come" ["tables", "first"] (spCome K)
  hr : Room 1 (A.deeper (envOfC "_law_parted" (defScope s_law_parted) st.heap.objs.size f cdv))
  giv : Giv K H0 tt pq r ps pps ts prs s cs n
section
variable {P : Program} {w : World} {K : PySem.W.Frag} {mg : Str → Option Value} {base : Heap} {f : Addr} {cdv : Value} {A : Around} {outer : List Env} {st : Shared} {H0 : Hp} {E : XK} {tt pq r : Addr} {ps pps : List V} {ts prs : List (List Int)} {s : Int} {cs : List Nat} {n : Nat}
variable (Z : Lp P w K mg base f cdv A outer st H0 tt pq r ps pps ts prs s cs n)
include Z
theorem p0 : HT (ι := Unit) (XP P w K mg base f cdv A outer st H0 E) (nthS parS 0) (fun _ σ H => σ = sgP tt s pq r none none none none none none none none none none none none none ∧ H = H0)
    (fun _ σ H => ∃ lc dl L, σ = sgP tt s pq r (some (.ref lc)) (some (.ref dl)) none none none none none none none none none none none ∧ Same H0 H ∧ Mch n ts s L ∧ H lc = some (.lst (L.map V.int)) ∧ H0 lc = none ∧ H dl = some (.dK []) ∧ H0 dl = none) := by
  obtain ⟨T, c_come, hr, G⟩ := Z
  refine ⟨_, (ps_asg (pe_tup (pa_cons (pe_callC c_come hr pass0 (pa_cons (pv 0) (pa_cons (pv 1) pa_nil))) (pa_cons pe_dnewK pa_nil))) (pg_tup rfl (pgs_cons (pg_name (i := 4) sclaw_parted.nd rfl (by first | exact Or.inl rfl | exact Or.inr rfl)) (pgs_cons (pg_name (i := 5) sclaw_parted.nd rfl (by first | exact Or.inl rfl | exact Or.inr rfl)) pgs_nil)))), ?_⟩
  rintro _ D σ H ⟨rfl, rfl⟩ kk
  refine ⟨_, rfl, _, rfl, tt, ps, n, ts, s, rfl, G.tt, G.rows, G.ok, G.s0, G.s1, fun lc L H1 e1 nl srt mem hl => ?_⟩
  refine fun dl hd => ⟨(by show 2 ≤ sizeLine; decide), fun t ht => ?_⟩
  have e2 := same_new (o := HO.dK []) hd
  have ndl : H dl = none := by
    cases z : H dl with
    | none => rfl
    | some o => rw [e1 _ _ z] at hd; cases hd
  have u2 : upd H1 dl (HO.dK []) dl = some (.dK []) := upd_same
  generalize upd H1 dl (HO.dK []) = H2 at e2 u2 ht ⊢
  have e3 := same_new (o := HO.tup [.ref lc, .ref dl]) ht
  have u3 : SqT K (upd H2 t (HO.tup [.ref lc, .ref dl])) t [.ref lc, .ref dl] := SqT.of upd_same
  generalize upd H2 t (HO.tup [.ref lc, .ref dl]) = H3 at e3 u3 ⊢
  exact ⟨t, _, rfl, u3, rfl, _, _, rfl, _, _, rfl, rfl, kk _ _ ⟨lc, dl, L, rfl, e1.trans (e2.trans e3), ⟨G.ok, G.s0, G.s1, G.ex, srt, mem⟩, e3 _ _ (e2 _ _ hl), nl, e3 _ _ u2, ndl⟩⟩
end
end K7
/-! _law_parted: labels, what is told -/
namespace K7
open L2 PySem PySem.Spec PyProof.Rows Kx RZ
section
variable {P : Program} {w : World} {K : PySem.W.Frag} {mg : Str → Option Value} {base : Heap} {f : Addr} {cdv : Value} {A : Around} {outer : List Env} {st : Shared} {H0 : Hp} {E : XK} {tt pq r : Addr} {ps pps : List V} {ts prs : List (List Int)} {s : Int} {cs : List Nat} {n : Nat}
variable (Z : Lp P w K mg base f cdv A outer st H0 tt pq r ps pps ts prs s cs n)
include Z
theorem p1 : HT (ι := Unit) (XP P w K mg base f cdv A outer st H0 E) (nthS parS 1) (fun _ σ H => ∃ lc dl L, σ = sgP tt s pq r (some (.ref lc)) (some (.ref dl)) none none none none none none none none none none none ∧ Same H0 H ∧ Mch n ts s L ∧ H lc = some (.lst (L.map V.int)) ∧ H0 lc = none ∧ H dl = some (.dK []) ∧ H0 dl = none)
    (fun _ σ H => ∃ lc dl x6 L, σ = sgP tt s pq r (some (.ref lc)) (some (.ref dl)) x6 none none none none none none none none none none ∧ Same H0 H ∧ Mch n ts s L ∧ H lc = some (.lst (L.map V.int)) ∧ H0 lc = none ∧ H dl = some (.dK (dict L fun x => x)) ∧ H0 dl = none) := by
  obtain ⟨T, c_come, hr, G⟩ := Z
  refine ⟨_, (ps_for PassesOwn.never rfl (pi_list (pv 4)) (pg_name (i := 6) sclaw_parted.nd rfl (by first | exact Or.inl rfl | exact Or.inr rfl))
  (pss_one (ps_dput (r1 hr) (pv 5) (pv 6) (pv 6) rfl))), ?_⟩
  rintro _ D σ H ⟨lc, dl, L, rfl, e1, mch, hl, nl, hd, nd⟩ kk
  refine ⟨_, rfl, lc, rfl, ⟨_, SqL.of hl⟩, ?_⟩
  refine for_list (xs := L.map V.int) (fun i σ' H' => ∃ x6, σ' = sgP tt s pq r (some (.ref lc)) (some (.ref dl)) x6 none none none none none none none none none none ∧ Same H0 H' ∧ H' lc = some (.lst (L.map V.int)) ∧ H' dl = some (.dK (dict (L.take i) fun x => x))) ⟨_, rfl, e1, hl, by rw [List.take_zero]; exact hd⟩ (fun i σ' H' _ z => by
    obtain ⟨_, _, _, h, _⟩ := z
    exact SqL.of h) ?_ ?_
  · rintro i y σ' H' hy ⟨x6, rfl, e', hl', hd'⟩
    obtain ⟨hi, rfl⟩ : ∃ h : i < L.length, y = V.int L[i] := by
      rw [List.getElem?_map] at hy
      obtain ⟨z, hz, rfl⟩ := Option.map_eq_some_iff.mp hy
      obtain ⟨h, rfl⟩ := List.getElem?_eq_some_iff.mp hz
      exact ⟨h, rfl⟩
    have few := mch.wrl.few
    have n8 := mch.wrl.n8
    have no := nodup_take mch.wrl.nd (List.getElem?_eq_getElem hi)
    refine ⟨_, rfl, _, rfl, _, rfl, dl, _, rfl, DPut.k (k := .inl L[i]) hd' (by rw [dict_len, List.length_take, sizeLine_eq]; omega), ?_⟩
    refine ⟨_, rfl, same_put e' nd, by rw [upd_ne (ne_of hl' hd' fun z => nomatch z)]; exact hl', ?_⟩
    rw [upd_same, List.take_add_one, List.getElem?_eq_getElem hi]
    have := putK_same (M := L.take i) (g := fun x => x) (y := L[i])
    rw [if_neg no] at this
    rw [this]
    rfl
  · rintro σ' H' ⟨x6, rfl, e', hl', hd'⟩
    rw [List.length_map, List.take_length] at hd'
    exact kk _ _ ⟨lc, dl, x6, L, rfl, e', mch, hl', nl, hd', nd⟩
theorem p2 : HT (ι := Unit) (XP P w K mg base f cdv A outer st H0 E) (nthS parS 2) (fun _ σ H => ∃ lc dl x6 L, σ = sgP tt s pq r (some (.ref lc)) (some (.ref dl)) x6 none none none none none none none none none none ∧ Same H0 H ∧ Mch n ts s L ∧ H lc = some (.lst (L.map V.int)) ∧ H0 lc = none ∧ H dl = some (.dK (dict L fun x => x)) ∧ H0 dl = none)
    (fun _ σ H => ∃ (q : Gq) (x6 x8 x9 x10 x11 x12 : Option V), σ = sgQ tt s pq r q x6 x8 x9 x10 x11 x12 none none none none ∧ Wq K H0 n ts s q H ∧ q.c = (fun x => x) ∧ Sk ts prs cs q.L q.tog 0 0 0) := by
  obtain ⟨T, c_come, hr, G⟩ := Z
  refine ⟨_, (ps_set (i := 7) sclaw_parted.nd rfl (by first | exact Or.inl rfl | exact Or.inr rfl) (pe_lst pa_nil)), ?_⟩
  rintro _ D σ H ⟨lc, dl, x6, L, rfl, e1, mch, hl, nl, hd, nd⟩ kk
  refine ⟨(by show 0 ≤ sizeLine; decide), fun td ht => kk _ _ ?_⟩
  have ntd : H0 td = none := by
    cases z : H0 td with
    | none => rfl
    | some o =>
      have := e1 _ _ z
      rw [show H td = none from ht] at this
      cases this
  have e2 := same_new (o := HO.lst []) ht
  exact ⟨⟨lc, dl, td, L, fun x => x, [], []⟩, x6, none, none, none, none, none, rfl, ⟨mch, e1.trans e2, e2 _ _ hl, e2 _ _ hd, upd_same, trivial, nd, ntd, fun z => by
    have z : lc = td := z
    rw [z] at hl
    rw [show H td = none from ht] at hl
    cases hl⟩, rfl, Sk.init⟩
end
end K7
/-! _law_parted: what is told by states -/
namespace K7
open L2 PySem PySem.Spec PyProof.Rows Kx RZ
/-- a state of the loop: state i, a pairs, d deeds done -/
abbrev B3 (K : PySem.W.Frag) (H0 : Hp) (tt pq r : Addr) (ts prs : List (List Int)) (s : Int) (cs : List Nat) (n : Nat) (a d : Nat) (z : Nat × Addr) (σ : L2.St) (H : Hp) : Prop := ∃ (q : Gq) (x : Int) (x8 x9 x10 x11 x12 : Option V), σ = sgQ tt s pq r q (some (.int x)) x8 x9 x10 x11 x12 none none none none ∧ Wq K H0 n ts s q H ∧ q.c = (fun x => x) ∧ q.L[z.1]? = some x ∧ (z.1 < 8 ∧ q.lc = z.2) ∧ Sk ts prs cs q.L q.tog z.1 a d
section
variable {P : Program} {w : World} {K : PySem.W.Frag} {mg : Str → Option Value} {base : Heap} {f : Addr} {cdv : Value} {A : Around} {outer : List Env} {st : Shared} {H0 : Hp} {E : XK} {tt pq r : Addr} {ps pps : List V} {ts prs : List (List Int)} {s : Int} {cs : List Nat} {n : Nat}
variable (Z : Lp P w K mg base f cdv A outer st H0 tt pq r ps pps ts prs s cs n)
include Z
theorem p3a : HT (ι := Nat × Addr) (XP P w K mg base f cdv A outer st H0 E) (nthS (inS (nthS parS 3)) 0) (B3 K H0 tt pq r ts prs s cs n 0 0) (B3 K H0 tt pq r ts prs s cs n prs.length 0) := by
  obtain ⟨T, c_come, hr, G⟩ := Z
  refine ⟨_, (ps_for PassesOwn.never rfl (pi_list (pv 2)) (pg_tup rfl (pgs_cons (pg_name (i := 8) sclaw_parted.nd rfl (by first | exact Or.inl rfl | exact Or.inr rfl)) (pgs_cons (pg_name (i := 9) sclaw_parted.nd rfl (by first | exact Or.inl rfl | exact Or.inr rfl)) pgs_nil)))
  (pss_one (ps_expr (pe_bm PySem.F.plainAttrs_list PySem.F.slot_list_append PySem.F.type_list_append mt_append (pv 7) (pa_cons (pe_tup (pa_cons (pe_ix (ix_tupK (K := K)) (pe_ix (ix_tupK (K := K)) (pv 0) (pv 9) (fun _ _ => rfl)) (pe_ix (ix_tupK (K := K)) (pe_ix (ix_tupK (K := K)) (pv 0) (pv 8) (fun _ _ => rfl)) (pv 6) (fun _ _ => rfl)) (fun _ _ => rfl)) (pa_cons (pe_ix (ix_tupK (K := K)) (pe_ix (ix_tupK (K := K)) (pv 0) (pv 8) (fun _ _ => rfl)) (pe_ix (ix_tupK (K := K)) (pe_ix (ix_tupK (K := K)) (pv 0) (pv 9) (fun _ _ => rfl)) (pv 6) (fun _ _ => rfl)) (fun _ _ => rfl)) pa_nil))) pa_nil))))), ?_⟩
  rintro z D σ H ⟨q, x, x8, x9, x10, x11, x12, rfl, wq, qc, hx, i8, sk⟩ kk
  have lpp := G.prow.length
  refine ⟨_, rfl, pq, rfl, ⟨_, SqL.of (wq.old _ _ G.pq)⟩, ?_⟩
  refine for_list (xs := pps) (fun a σ' H' => B3 K H0 tt pq r ts prs s cs n a 0 z σ' H') ⟨q, x, x8, x9, x10, x11, x12, rfl, wq, qc, hx, i8, sk⟩ (fun i σ' H' _ z => by
    obtain ⟨_, _, _, _, _, _, _, _, w, _⟩ := z
    exact SqL.of (w.old _ _ G.pq)) ?_ ?_
  · rintro k y σ' H1 hy ⟨q1, x1, y8, y9, y10, y11, y12, rfl, w1, qc1, hx1, i81, sk1⟩
    have hk : k < prs.length := by rw [← lpp]; exact (List.getElem?_eq_some_iff.mp hy).1
    have pk : prs[k]? = some prs[k] := List.getElem?_eq_getElem hk
    obtain ⟨qp, h1, h2⟩ := G.prow.at_ pk
    rw [hy] at h1
    cases h1
    obtain ⟨a, b, epr, ak, bk⟩ := G.po.are _ (List.getElem_mem hk)
    rw [epr] at h2 pk
    have ta : ts[a]? = some (ts[a]'(by omega)) := List.getElem?_eq_getElem (by omega)
    have tb : ts[b]? = some ts[b] := List.getElem?_eq_getElem bk
    obtain ⟨qa, a1, a2⟩ := G.rows.at_ ta
    obtain ⟨qb, b1, b2⟩ := G.rows.at_ tb
    have ga := getD_of ta
    have gb := getD_of tb
    have wl := w1.mch.wrl
    obtain ⟨al, ar, ae⟩ := wl.tab _ (List.getElem_mem (show a < ts.length by omega))
    obtain ⟨bl, br, be⟩ := wl.tab _ (List.getElem_mem bk)
    generalize ts[a]'(by omega) = tA at a2 ga al ar ae ta
    generalize ts[b] = tB at b2 gb bl br be tb
    have e1 := w1.old
    have xL := List.mem_of_getElem? hx1
    obtain ⟨x0, x1'⟩ := wl.rng x1 xL
    have yA := ae.cl x1 xL
    have yB := be.cl x1 xL
    obtain ⟨y0, y1⟩ := wl.rng _ yA
    obtain ⟨z0, z1⟩ := wl.rng _ yB
    refine ⟨qp, _, rfl, sqT_same e1 h2, rfl, ?_⟩
    refine ⟨_, _, rfl, _, _, rfl, rfl, ?_⟩
    refine ⟨_, rfl, .inl ⟨rfl, _, SqL.of w1.told⟩, ?_⟩
    refine ⟨_, rfl, _, rfl, tt, ps, _, _, rfl, rfl, sqT_same e1 G.tt, atI_nat b1, _, rfl, _, rfl, tt, ps, _, _, rfl, rfl, sqT_same e1 G.tt, atI_nat a1, _, rfl, qa, _, _, _, rfl, rfl, sqT_same e1 a2, at_int x0 (ar.at_ x0 (by rw [al]; exact x1')).1, qb, _, _, _, rfl, rfl, sqT_same e1 b2, at_int y0 (br.at_ y0 (by rw [bl]; exact y1)).1, ?_⟩
    refine ⟨_, rfl, _, rfl, tt, ps, _, _, rfl, rfl, sqT_same e1 G.tt, atI_nat a1, _, rfl, _, rfl, tt, ps, _, _, rfl, rfl, sqT_same e1 G.tt, atI_nat b1, _, rfl, qb, _, _, _, rfl, rfl, sqT_same e1 b2, at_int x0 (br.at_ x0 (by rw [bl]; exact x1')).1, qa, _, _, _, rfl, rfl, sqT_same e1 a2, at_int z0 (ar.at_ z0 (by rw [al]; exact z1)).1, ?_⟩
    refine ⟨(by show 2 ≤ sizeLine; decide), fun t ht => ?_⟩
    have lw := w1.rows.length
    have lsk := sk1.len
    have pf := G.po.few
    have ep : commOf ts a b x1 = [tx tB (tx tA x1), tx tA (tx tB x1)] := by unfold commOf; rw [ga, gb]
    have wp := w1.push (pr := commOf ts a b x1) ht
    have e4 := same_new (o := HO.tup ((commOf ts a b x1).map V.int)) ht
    rw [ep] at wp e4
    refine ⟨q1.td, _, _, rfl, rfl, e4 _ _ w1.told, by rw [sizeLine_eq]; omega, ?_⟩
    exact ⟨{ q1 with us := q1.us ++ [.ref t], tog := q1.tog ++ [[tx tB (tx tA x1), tx tA (tx tB x1)]] }, x1, _, _, _, _, _, rfl, wp, qc1, hx1, i81, by rw [← ep]; exact sk1.addC hx1 pk ak bk⟩
  · rintro σ' H1 h
    rw [lpp] at h
    exact kk _ _ h
theorem p3b : HT (ι := Nat × Addr) (XP P w K mg base f cdv A outer st H0 E) (nthS (inS (nthS parS 3)) 1) (B3 K H0 tt pq r ts prs s cs n prs.length 0) (B3 K H0 tt pq r ts prs s cs n prs.length ts.length) := by
  obtain ⟨T, c_come, hr, G⟩ := Z
  refine ⟨_, (ps_for PassesOwn.never rfl (pi_range1 (by rfl) T.z_range (pa_cons (pe_callB call_len_seq (by rfl) T.z_len PySem.boot_len (pa_cons (pv 0) pa_nil)) pa_nil)) (pg_name (i := 10) sclaw_parted.nd rfl (by first | exact Or.inl rfl | exact Or.inr rfl))
  (pss_cons (ps_set (i := 11) sclaw_parted.nd rfl (by first | exact Or.inl rfl | exact Or.inr rfl) (pv 6))
  (pss_cons (ps_for PassesOwn.never rfl (pi_range1 (by rfl) T.z_range (pa_cons (pe_ix ix_list (pv 3) (pv 10) (fun _ _ => rfl)) pa_nil)) (pg_name (i := 12) sclaw_parted.nd rfl (by first | exact Or.inl rfl | exact Or.inr rfl))
  (pss_one (ps_set (i := 11) sclaw_parted.nd rfl (by first | exact Or.inl rfl | exact Or.inr rfl) (pe_ix (ix_tupK (K := K)) (pe_ix (ix_tupK (K := K)) (pv 0) (pv 10) (fun _ _ => rfl)) (pv 11) (fun _ _ => rfl)))))
  (pss_one (ps_expr (pe_bm PySem.F.plainAttrs_list PySem.F.slot_list_append PySem.F.type_list_append mt_append (pv 7) (pa_cons (pe_tup (pa_cons (pv 6) (pa_cons (pv 11) pa_nil))) pa_nil))))))), ?_⟩
  rintro z D σ H ⟨q, x, x8, x9, x10, x11, x12, rfl, wq, qc, hx, i8, sk⟩ kk
  have lps := G.rows.length
  have l4 := G.l4
  refine ⟨_, rfl, tt, ps, rfl, .inr (sqT_same wq.old G.tt), ps.length, rfl, by omega, by omega, for_range (lo := 0) (n := ps.length) (fun d σ' H' => B3 K H0 tt pq r ts prs s cs n prs.length d z σ' H') ⟨q, x, x8, x9, x10, x11, x12, rfl, wq, qc, hx, i8, sk⟩ ?_ ?_⟩
  · rintro d σ' H1 hd ⟨q1, x1, y8, y9, y10, y11, y12, rfl, w1, qc1, hx1, i81, sk1⟩
    rw [show (0 : Int) + (d : Int) = (d : Int) from Int.zero_add _]
    have hd' : d < ts.length := by omega
    have td : ts[d]? = some ts[d] := List.getElem?_eq_getElem hd'
    obtain ⟨qd, a1, a2⟩ := G.rows.at_ td
    have gd := getD_of td
    have wl := w1.mch.wrl
    obtain ⟨al, ar, ae⟩ := wl.tab _ (List.getElem_mem hd')
    generalize ts[d] = tD at a2 gd al ar ae td
    have e1 := w1.old
    have xL := List.mem_of_getElem? hx1
    have cd : cs[d]? = some (cs.getD d 0) := by
      have : d < cs.length := by rw [← G.lc]; exact hd'
      rw [List.getD_eq_getElem?_getD, List.getElem?_eq_getElem this]
      rfl
    have c60 := G.c60 _ (List.mem_of_getElem? cd)
    refine ⟨_, rfl, ?_⟩
    refine ⟨_, rfl, _, rfl, r, _, _, _, rfl, rfl, SqL.of (e1 _ _ G.r), atI_nat (by rw [List.getElem?_map, cd]; rfl), cs.getD d 0, rfl, by omega, by omega, ?_⟩
    refine for_range (lo := 0) (n := cs.getD d 0) (fun j σ' H' => ∃ y12, σ' = sgQ tt s pq r q1 (some (.int x1)) y8 y9 (some (.int (d : Int))) (some (.int (it tD j x1))) y12 none none none none ∧ H' = H1) ⟨_, rfl, rfl⟩ ?_ ?_
    · rintro j σ3 H3 hj ⟨y12, rfl, rfl⟩
      obtain ⟨x0, x1'⟩ := wl.rng _ (ae.it_in xL j)
      exact ⟨_, rfl, _, rfl, tt, ps, _, _, rfl, rfl, sqT_same e1 G.tt, atI_nat a1, _, rfl, qd, _, _, _, rfl, rfl, sqT_same e1 a2, at_int x0 (ar.at_ x0 (by rw [al]; exact x1')).1, _, rfl, rfl⟩
    · rintro σ3 H3 ⟨y12, rfl, rfl⟩
      refine ⟨_, rfl, .inl ⟨rfl, _, SqL.of w1.told⟩, _, rfl, _, rfl, (by show 2 ≤ sizeLine; decide), fun t ht => ?_⟩
      have lw := w1.rows.length
      have lsk := sk1.len
      have pf := G.po.few
      have ep : turnOf ts cs d x1 = [x1, it tD (cs.getD d 0) x1] := by unfold turnOf; rw [gd]
      have wp := w1.push (pr := turnOf ts cs d x1) ht
      have e4 := same_new (o := HO.tup ((turnOf ts cs d x1).map V.int)) ht
      rw [ep] at wp e4
      refine ⟨q1.td, _, _, rfl, rfl, e4 _ _ w1.told, by rw [sizeLine_eq]; omega, ?_⟩
      exact ⟨{ q1 with us := q1.us ++ [.ref t], tog := q1.tog ++ [[x1, it tD (cs.getD d 0) x1]] }, x1, _, _, _, _, _, rfl, wp, qc1, hx1, i81, by rw [← ep]; exact sk1.addT hx1 hd'⟩
  · rintro σ' H1 h
    rw [lps] at h
    exact kk _ _ h
/-- behind a statement that is a loop -/
theorem p3 : HT (ι := Unit) (XP P w K mg base f cdv A outer st H0 E) (nthS parS 3) (fun _ σ H => ∃ (q : Gq) (x6 x8 x9 x10 x11 x12 : Option V), σ = sgQ tt s pq r q x6 x8 x9 x10 x11 x12 none none none none ∧ Wq K H0 n ts s q H ∧ q.c = (fun x => x) ∧ Sk ts prs cs q.L q.tog 0 0 0)
    (fun _ σ H => ∃ (q : Gq) (x6 x8 x9 x10 x11 x12 : Option V), σ = sgQ tt s pq r q x6 x8 x9 x10 x11 x12 none none none none ∧ Wq K H0 n ts s q H ∧ Rd9 (Rl prs) ts cs q.L q.c q.tog 0 ∧ q.tog.length ≤ 160) := by
  obtain ⟨tb, hb1, hb2⟩ := HTs.cons (p3a (E := E) Z) (HTs.one (p3b Z))
  obtain ⟨T, c_come, hr, G⟩ := Z
  refine ⟨_, ps_for PassesOwn.never rfl (pi_list (pv 4)) (pg_name (i := 6) sclaw_parted.nd rfl (by first | exact Or.inl rfl | exact Or.inr rfl)) hb1, ?_⟩
  rintro _ D σ H ⟨q, x6, x8, x9, x10, x11, x12, rfl, wq, qc, sk⟩ kk
  have few := wq.mch.wrl.few
  have n8 := wq.mch.wrl.n8
  refine ⟨_, rfl, q.lc, rfl, ⟨_, SqL.of wq.come⟩, ?_⟩
  refine for_list (xs := q.L.map V.int) (fun i σ' H' => ∃ (q1 : Gq) (x6 x8 x9 x10 x11 x12 : Option V), σ' = sgQ tt s pq r q1 x6 x8 x9 x10 x11 x12 none none none none ∧ Wq K H0 n ts s q1 H' ∧ q1.c = (fun x => x) ∧ Sk ts prs cs q1.L q1.tog i 0 0 ∧ q1.L = q.L ∧ q1.lc = q.lc) ⟨q, x6, x8, x9, x10, x11, x12, rfl, wq, qc, sk, rfl, rfl⟩ (fun i σ' H' _ z => by
    obtain ⟨_, _, _, _, _, _, _, _, w, _, _, e1, e2⟩ := z
    rw [← e1, ← e2]
    exact SqL.of w.come) ?_ ?_
  · rintro i y σ' H' hy ⟨q1, x6, x8, x9, x10, x11, x12, rfl, w1, qc1, sk1, e1, e2⟩
    obtain ⟨hi, rfl⟩ : ∃ h : i < q.L.length, y = V.int q.L[i] := by
      rw [List.getElem?_map] at hy
      obtain ⟨z, hz, rfl⟩ := Option.map_eq_some_iff.mp hy
      obtain ⟨h, rfl⟩ := List.getElem?_eq_some_iff.mp hz
      exact ⟨h, rfl⟩
    refine hb2 (i, q.lc) _ _ _ ⟨q1, q.L[i], x8, x9, x10, x11, x12, rfl, w1, qc1, by rw [e1]; exact List.getElem?_eq_getElem hi, ⟨by show i < 8; omega, e2⟩, sk1⟩ ?_
    rintro σ2 H2 ⟨q2, x, x8, x9, x10, x11, x12, rfl, w2, qc2, hx2, i82, sk2⟩
    exact ⟨q2, _, x8, x9, x10, x11, x12, rfl, w2, qc2, sk2.next G.po.few G.l4, sorted_eq w2.mch.srt wq.mch.srt fun x => (w2.mch.mem x).trans (wq.mch.mem x).symm, i82.2⟩
  · rintro σ' H' ⟨q1, x6, x8, x9, x10, x11, x12, rfl, w1, qc1, sk1, e1, e2⟩
    rw [List.length_map, ← e1] at sk1
    have := sk1.len
    refine kk _ _ ⟨q1, x6, x8, x9, x10, x11, x12, rfl, w1, ⟨?_, .inl rfl⟩, by rw [e1] at this; omega⟩
    rw [qc1]
    exact Lb.start sk1.are (sk1.all G.po)
end
end K7
/-! _law_parted: labels are made one -/
namespace K7
open L2 PySem PySem.Spec PyProof.Rows Kx RZ
/-- labels while the states are gone through -/
def mixd (L : List Int) (j : Nat) (c c' : Int → Int) : Int → Int := fun x => if x ∈ L.take j then c' x else c x
theorem mixd_zero {L : List Int} {c c' : Int → Int} : mixd L 0 c c' = c := funext fun x => by unfold mixd; rw [List.take_zero, if_neg (fun h => nomatch h)]
theorem mixd_all {L : List Int} {c c' : Int → Int} : dict L (mixd L L.length c c') = dict L c' := dict_congr fun x hx => by unfold mixd; rw [List.take_length, if_pos hx]
theorem mixd_step {L : List Int} (nd : L.Nodup) {j : Nat} {x : Int} (hx : L[j]? = some x) {c c' : Int → Int} : dict L (fun z => if z = x then c' x else mixd L j c c' z) = dict L (mixd L (j + 1) c c') := dict_congr fun z hz => by
  unfold mixd
  have tk : L.take (j + 1) = L.take j ++ [x] := by rw [List.take_add_one, hx]; rfl
  rw [tk]
  by_cases e : z = x
  · rw [if_pos e, if_pos (List.mem_append_right _ (List.mem_singleton.mpr e)), e]
  · rw [if_neg e]
    by_cases m : z ∈ L.take j
    · rw [if_pos m, if_pos (List.mem_append_left _ m)]
    · rw [if_neg m, if_neg fun h => (List.mem_append.mp h).elim m fun h => e (List.mem_singleton.mp h)]
theorem mixd_at {L : List Int} (nd : L.Nodup) {j : Nat} {x : Int} (hx : L[j]? = some x) {c c' : Int → Int} : mixd L j c c' x = c x := by
  unfold mixd
  rw [if_neg (nodup_take nd hx)]
section
variable {P : Program} {w : World} {K : PySem.W.Frag} {mg : Str → Option Value} {base : Heap} {f : Addr} {cdv : Value} {A : Around} {outer : List Env} {st : Shared} {H0 : Hp} {E : XK} {tt pq r : Addr} {ps pps : List V} {ts prs : List (List Int)} {s : Int} {cs : List Nat} {n : Nat}
/-- behind k rounds -/
abbrev T4 (K : PySem.W.Frag) (H0 : Hp) (tt pq r : Addr) (ts prs : List (List Int)) (s : Int) (cs : List Nat) (n : Nat) (k : Nat) (σ : L2.St) (H : Hp) : Prop := ∃ (q : Gq) (x6 x8 x9 x10 x11 x12 x13 x14 x16 : Option V), σ = sgQ tt s pq r q x6 x8 x9 x10 x11 x12 x13 x14 none x16 ∧ Wq K H0 n ts s q H ∧ Rd9 (Rl prs) ts cs q.L q.c q.tog k ∧ (q.tog.length ≤ 160 + 256 * k ∧ k < 10)
/-- and the pairs gone through -/
abbrev M4 (K : PySem.W.Frag) (H0 : Hp) (tt pq r : Addr) (ts prs : List (List Int)) (s : Int) (cs : List Nat) (n : Nat) (k : Nat) (σ : L2.St) (H : Hp) : Prop := ∃ (q : Gq) (c0 : Int → Int) (x6 x8 x9 x10 x11 x12 x13 x14 x16 : Option V), σ = sgQ tt s pq r q x6 x8 x9 x10 x11 x12 x13 x14 none x16 ∧ Wq K H0 n ts s q H ∧ Rd9 (Rl prs) ts cs q.L c0 q.tog k ∧ Ps (Rl prs) ts cs q.L c0 q.c q.tog q.tog.length ∧ (q.tog.length ≤ 160 + 256 * k ∧ k < 10)
variable (Z : Lp P w K mg base f cdv A outer st H0 tt pq r ps pps ts prs s cs n)
include Z
theorem p4a : HT (ι := Nat) (XP P w K mg base f cdv A outer st H0 E) (nthS (inS (nthS parS 4)) 0) (T4 K H0 tt pq r ts prs s cs n) (M4 K H0 tt pq r ts prs s cs n) := by
  obtain ⟨T, c_come, hr, G⟩ := Z
  refine ⟨_, (ps_for PassesOwn.never rfl (pi_list (pv 7)) (pg_tup rfl (pgs_cons (pg_name (i := 8) sclaw_parted.nd rfl (by first | exact Or.inl rfl | exact Or.inr rfl)) (pgs_cons (pg_name (i := 9) sclaw_parted.nd rfl (by first | exact Or.inl rfl | exact Or.inr rfl)) pgs_nil)))
  (pss_cons (ps_par (i := 13) (j := 14) (by rfl) sclaw_parted.nd rfl rfl (by decide) rfl rfl (pa_cons (pe_dget (r1 hr) (pv 5) (pv 8) (fun _ _ => rfl)) (pa_cons (pe_dget (r1 hr) (pv 5) (pv 9) (fun _ _ => rfl)) pa_nil)) (by rfl))
  (pss_one (ps_for PassesOwn.never rfl (pi_list (pv 4)) (pg_name (i := 6) sclaw_parted.nd rfl (by first | exact Or.inl rfl | exact Or.inr rfl))
  (pss_one (ps_dput (r1 hr) (pv 5) (pv 6) (pe_ifExp (pt_cmpR op_eq (pe_dget (r1 hr) (pv 5) (pv 6) (fun _ _ => rfl)) (pv 13) (nomark _)) (pv 14) (pe_dget (r1 hr) (pv 5) (pv 6) (fun _ _ => rfl))) rfl)))))), ?_⟩
  rintro k D σ H ⟨q, x6, x8, x9, x10, x11, x12, x13, x14, x16, rfl, wq, rd, ln⟩ kk
  have wl := wq.mch.wrl
  have few := wl.few
  have n8 := wl.n8
  have lu := wq.rows.length
  refine ⟨_, rfl, q.td, rfl, ⟨_, SqL.of wq.told⟩, ?_⟩
  refine for_list (xs := q.us) (fun i σ' H' => ∃ (c : Int → Int) (x6 x8 x9 x13 x14 : Option V), σ' = sgQ tt s pq r q x6 x8 x9 x10 x11 x12 x13 x14 none x16 ∧ Wq K H0 n ts s { q with c := c } H' ∧ Ps (Rl prs) ts cs q.L q.c c q.tog i) ⟨q.c, x6, x8, x9, x13, x14, rfl, wq, Ps.init rd.lb⟩ (fun i σ' H' _ z => by
    obtain ⟨_, _, _, _, _, _, _, w, _⟩ := z
    exact SqL.of w.told) ?_ ?_
  · rintro i y σ' H1 hy ⟨c, x6, x8, x9, x13, x14, rfl, w1, p1⟩
    have hi : i < q.tog.length := by rw [← lu]; exact (List.getElem?_eq_some_iff.mp hy).1
    have ti : q.tog[i]? = some q.tog[i] := List.getElem?_eq_getElem hi
    obtain ⟨t, h1, h2⟩ := w1.rows.at_ ti
    rw [hy] at h1
    cases h1
    obtain ⟨u, v, epr, tg⟩ := p1.lb.soundT _ (List.getElem_mem hi)
    rw [epr] at h2 ti
    obtain ⟨hu, hv⟩ := tg.inL wl
    have p2 := p1.step wl ti
    refine ⟨t, _, rfl, h2, rfl, ?_⟩
    refine ⟨_, _, rfl, _, _, rfl, rfl, ?_⟩
    refine ⟨_, rfl, _, rfl, q.dl, _, rfl, dget_dict w1.lab hu, _, rfl, _, rfl, q.dl, _, rfl, dget_dict w1.lab hv, _, _, rfl, ?_⟩
    refine ⟨_, rfl, q.lc, rfl, ⟨_, SqL.of w1.come⟩, ?_⟩
    refine for_list (xs := q.L.map V.int) (fun j σ' H' => ∃ (x6 : Option V), σ' = sgQ tt s pq r q x6 (some (.int u)) (some (.int v)) x10 x11 x12 (some (.int (c u))) (some (.int (c v))) none x16 ∧ Wq K H0 n ts s { q with c := mixd q.L j c (join c (c v) (c u)) } H') ⟨_, rfl, by rw [mixd_zero]; exact w1⟩ (fun i σ' H' _ z => by
      obtain ⟨_, _, w⟩ := z
      exact SqL.of w.come) ?_ ?_
    · rintro j y σ' H3 hy ⟨x6, rfl, w3⟩
      obtain ⟨x, hx, rfl⟩ : ∃ x, q.L[j]? = some x ∧ y = V.int x := by
        rw [List.getElem?_map] at hy
        obtain ⟨z, hz, rfl⟩ := Option.map_eq_some_iff.mp hy
        exact ⟨z, hz, rfl⟩
      have xL := List.mem_of_getElem? hx
      have ma := mixd_at (c := c) (c' := join c (c v) (c u)) wl.nd hx
      have g := dget_dict w3.lab xL
      rw [show ({ q with c := mixd q.L j c (join c (c v) (c u)) } : Gq).c x = c x from ma] at g
      have fin : ∀ y : Int, y = join c (c v) (c u) x → ∃ H4, DPut H3 q.dl (.int x) (.int y) H4 ∧ Wq K H0 n ts s { q with c := mixd q.L (j + 1) c (join c (c v) (c u)) } H4 := by
        rintro y rfl
        refine ⟨_, DPut.k (k := .inl x) w3.lab (by rw [dict_len, sizeLine_eq]; show q.L.length < _; omega), ?_⟩
        have := w3.relab (mixd q.L (j + 1) c (join c (c v) (c u)))
        rw [putK_old xL]
        rw [show dict q.L (mixd q.L (j + 1) c (join c (c v) (c u))) = _ from (mixd_step wl.nd hx).symm] at this
        exact this
      refine ⟨_, rfl, _, rfl, q.dl, _, rfl, g, _, rfl, rfl, _, rfl, ite2 (fun h => ?_) (fun h => ?_)⟩
      · have e : c x = c u := by simpa using h
        obtain ⟨H4, d4, w4⟩ := fin (c v) (by unfold join; rw [if_pos e])
        exact ⟨_, rfl, _, rfl, _, rfl, q.dl, _, rfl, d4, _, rfl, w4⟩
      · have e : c x ≠ c u := by simpa using h
        obtain ⟨H4, d4, w4⟩ := fin (c x) (by unfold join; rw [if_neg e])
        exact ⟨_, rfl, _, rfl, q.dl, _, rfl, g, _, rfl, _, rfl, q.dl, _, rfl, d4, _, rfl, w4⟩
    · rintro σ' H3 ⟨x6, rfl, w3⟩
      rw [List.length_map] at w3
      have e : Wq K H0 n ts s { q with c := join c (c v) (c u) } H3 := ⟨w3.mch, w3.old, w3.come, by rw [← mixd_all (c := c)]; exact w3.lab, w3.told, w3.rows, w3.nl, w3.nt, w3.ne⟩
      exact ⟨_, _, _, _, _, _, rfl, e, p2⟩
  · rintro σ' H1 ⟨c, x6, x8, x9, x13, x14, rfl, w1, p1⟩
    rw [lu] at p1
    exact kk _ _ ⟨{ q with c := c }, q.c, x6, x8, x9, x10, x11, x12, x13, x14, x16, rfl, w1, rd, p1, ln⟩
end
end K7
/-! _law_parted: pairs are added -/
namespace K7
open L2 PySem PySem.Spec PyProof.Rows Kx RZ
section
variable {P : Program} {w : World} {K : PySem.W.Frag} {mg : Str → Option Value} {base : Heap} {f : Addr} {cdv : Value} {A : Around} {outer : List Env} {st : Shared} {H0 : Hp} {E : XK} {tt pq r : Addr} {ps pps : List V} {ts prs : List (List Int)} {s : Int} {cs : List Nat} {n : Nat}
/-- two states at hand -/
structure G2 where
  q : Gq
  x : Int
  y : Int
  x6 : Option V
  x10 : Option V
  x11 : Option V
  x12 : Option V
  x13 : Option V
  x14 : Option V
  x16 : Option V
abbrev sg2 (tt : Addr) (s : Int) (pq r : Addr) (z : G2) (q : Gq) (x16 : Option V) : L2.St := sgQ tt s pq r q z.x6 (some (.int z.x)) (some (.int z.y)) z.x10 z.x11 z.x12 z.x13 z.x14 none x16
def ifS : Stmt → List Stmt
  | .If _ b _ _ => b
  | _ => []
variable (Z : Lp P w K mg base f cdv A outer st H0 tt pq r ps pps ts prs s cs n)
include Z
theorem p4c : HT (ι := G2) (XP P w K mg base f cdv A outer st H0 E) (nthS (ifS (nthS (inS (nthS (inS (nthS (inS (nthS parS 4)) 1)) 0)) 0)) 0)
    (fun z σ H => σ = sg2 tt s pq r z z.q z.x16 ∧ Wq K H0 n ts s z.q H ∧ z.x ∈ z.q.L ∧ z.y ∈ z.q.L ∧ z.q.us.length ≤ 5000)
    (fun z σ H => ∃ td us x16, σ = sg2 tt s pq r z { z.q with td := td, us := us, tog := z.q.tog ++ addOf ts z.q.c z.x z.y } x16 ∧ Wq K H0 n ts s { z.q with td := td, us := us, tog := z.q.tog ++ addOf ts z.q.c z.x z.y } H) := by
  obtain ⟨T, c_come, hr, G⟩ := Z
  refine ⟨_, (ps_set (i := 7) sclaw_parted.nd rfl (by first | exact Or.inl rfl | exact Or.inr rfl) (pe_op op_cat (pv 7) (pe_lc (own := [("table", 16)]) (by rfl) sclaw_parted.nd (pi_tupK (K := K) (pv 0)) (blkOk_by (own := [("table", 16)]) (N := ["tables", "first", "pairs", "rounds", "come", "label", "state", "told", "one", "other", "deed", "there", "turn", "old", "new", "lots", "table"]) (sc := defScope s_law_parted) (by decide +kernel)) (fun _ _ _ _ _ => (pg_name (i := 16) sclaw_parted.nd rfl (by first | exact Or.inl rfl | exact Or.inr rfl))) (fun _ _ _ _ _ => (pts_one (pt_cmpR op_ne (pe_dget (r1 hr) (pv 5) (pe_ix (ix_tupK (K := K)) (pv 16) (pv 8) (fun _ _ => rfl)) (fun _ _ => rfl)) (pe_dget (r1 hr) (pv 5) (pe_ix (ix_tupK (K := K)) (pv 16) (pv 9) (fun _ _ => rfl)) (fun _ _ => rfl)) (nomark _)))) (fun _ _ _ _ _ => (pe_tup (pa_cons (pe_ix (ix_tupK (K := K)) (pv 16) (pv 8) (fun _ _ => rfl)) (pa_cons (pe_ix (ix_tupK (K := K)) (pv 16) (pv 9) (fun _ _ => rfl)) pa_nil))))))), ?_⟩
  rintro z D σ H ⟨rfl, wq, hx, hy, lu⟩ kk
  have wl := wq.mch.wrl
  have lps := G.rows.length
  have l4 := G.l4
  obtain ⟨q, x, y, x6, x10, x11, x12, x13, x14, x16⟩ := z
  dsimp only at wq hx hy lu kk ⊢
  refine ⟨_, rfl, _, rfl, tt, rfl, ⟨_, sqT_same wq.old G.tt⟩, fun D0 hD => ?_⟩
  have nD : H0 D0 = none := by
    cases z : H0 D0 with
    | none => rfl
    | some o =>
      have := wq.old _ _ z
      rw [show H D0 = none from hD] at this
      cases this
  refine lc_tup (xs := ps) (fun i H' => ∃ us, Same H H' ∧ H' D0 = some (.lst us) ∧ RowsBy (SqT K H') us (addOf (ts.take i) q.c x y)) ⟨[], same_new hD, upd_same, trivial⟩ (fun i H' _ z => by
    obtain ⟨_, e, _⟩ := z
    exact sqT_same (wq.old.trans e) G.tt) ?_ ?_
  · rintro i v H1 hv ⟨us, e1, h1, row1⟩
    have hi : i < ts.length := by rw [← lps]; exact (List.getElem?_eq_some_iff.mp hv).1
    have ti : ts[i]? = some ts[i] := List.getElem?_eq_getElem hi
    obtain ⟨qt, b1, b2⟩ := G.rows.at_ ti
    rw [hv] at b1
    cases b1
    obtain ⟨al, ar, ae⟩ := wl.tab _ (List.getElem_mem hi)
    have tk : ts.take (i + 1) = ts.take i ++ [ts[i]] := by rw [List.take_add_one, ti]; rfl
    generalize ts[i] = t at al ar ae b2 ti tk
    have e01 := wq.old.trans e1
    obtain ⟨x0, x1⟩ := wl.rng x hx
    obtain ⟨y0, y1⟩ := wl.rng y hy
    have tX := ae.cl x hx
    have tY := ae.cl y hy
    have w1 := wq.same e1
    have la := row1.length
    have lb : (addOf (ts.take i) q.c x y).length ≤ 4 := by
      unfold addOf
      rw [List.length_map]
      exact Nat.le_trans (List.length_filter_le _ _) (by rw [List.length_take]; omega)
    refine ⟨rfl, ?_⟩
    refine ⟨_, rfl, _, rfl, _, rfl, qt, _, _, _, rfl, rfl, sqT_same e01 b2, at_int x0 (ar.at_ x0 (by rw [al]; exact x1)).1, q.dl, _, rfl, dget_dict w1.lab tX, ?_⟩
    refine ⟨_, rfl, _, rfl, _, rfl, qt, _, _, _, rfl, rfl, sqT_same e01 b2, at_int y0 (ar.at_ y0 (by rw [al]; exact y1)).1, q.dl, _, rfl, dget_dict w1.lab tY, ?_⟩
    refine ⟨rfl, _, rfl, ite2 (fun h => ?_) (fun h => ?_)⟩
    · have ne : q.c (tx t x) ≠ q.c (tx t y) := by simpa using h
      refine ⟨_, rfl, _, rfl, qt, _, _, _, rfl, rfl, sqT_same e01 b2, at_int x0 (ar.at_ x0 (by rw [al]; exact x1)).1, _, rfl, _, rfl, qt, _, _, _, rfl, rfl, sqT_same e01 b2, at_int y0 (ar.at_ y0 (by rw [al]; exact y1)).1, (by show 2 ≤ sizeLine; decide), fun p hp => ?_⟩
      have e2 := same_new (o := HO.tup [.int (tx t x), .int (tx t y)]) hp
      have u2 : SqT K (upd H1 p (HO.tup [.int (tx t x), .int (tx t y)])) p (([tx t x, tx t y] : List Int).map V.int) := SqT.of upd_same
      generalize upd H1 p (HO.tup [.int (tx t x), .int (tx t y)]) = H2 at e2 u2 ⊢
      have h2 := e2 _ _ h1
      refine ⟨us, h2, by rw [sizeLine_eq]; omega, us ++ [.ref p], same_put (e1.trans e2) hD, upd_same, ?_⟩
      have ea : addOf (ts.take (i + 1)) q.c x y = addOf (ts.take i) q.c x y ++ [[tx t x, tx t y]] := by
        unfold addOf
        rw [tk, List.filter_append, List.map_append]
        rw [List.filter_cons_of_pos (by simpa using ne)]
        rfl
      rw [ea]
      exact RowsBy.snoc (R := SqT K _) (sqT_lst h2 u2) (row1.imp fun _ _ z => sqT_lst h2 (sqT_same e2 z))
    · have eq : q.c (tx t x) = q.c (tx t y) := by simpa using h
      refine ⟨us, e1, h1, ?_⟩
      have ea : addOf (ts.take (i + 1)) q.c x y = addOf (ts.take i) q.c x y := by
        unfold addOf
        rw [tk, List.filter_append, List.map_append]
        rw [List.filter_cons_of_neg (by simpa using eq)]
        simp
      rw [ea]
      exact row1
  · rintro H1 ⟨us, e1, h1, row1⟩
    rw [lps, List.take_length] at row1
    have w1 := wq.same e1
    have la := row1.length
    have lb : (addOf ts q.c x y).length ≤ 4 := by
      unfold addOf
      rw [List.length_map]
      exact Nat.le_trans (List.length_filter_le _ _) l4
    refine ⟨q.td, D0, _, _, rfl, rfl, w1.told, h1, by rw [sizeLine_eq]; omega, fun p hp => kk _ _ ⟨p, q.us ++ us, x16, rfl, ?_⟩⟩
    have e2 := same_new (o := HO.lst (q.us ++ us)) hp
    have nP : H0 p = none := by
      cases z : H0 p with
      | none => rfl
      | some o =>
        have := w1.old _ _ z
        rw [show H1 p = none from hp] at this
        cases this
    exact ⟨w1.mch, w1.old.trans e2, e2 _ _ w1.come, e2 _ _ w1.lab, upd_same, (w1.rows.imp fun _ _ z => sqT_same e2 z).app (row1.imp fun _ _ z => sqT_same e2 z), w1.nl, nP, fun z => by
      have c := w1.come
      rw [z, show H1 p = none from hp] at c
      cases c⟩
/-- the pairs x, y that are gone through -/
def pd (L : List Int) (i j : Nat) (x y : Int) : Prop := x ∈ L.take i ∨ (L[i]? = some x ∧ y ∈ L.take j)
omit Z in
theorem pd_step {L : List Int} {i j : Nat} {x y a b : Int} (hx : L[i]? = some x) (hy : L[j]? = some y) (h : pd L i (j + 1) a b) : pd L i j a b ∨ (a = x ∧ b = y) := by
  have tk : L.take (j + 1) = L.take j ++ [y] := by rw [List.take_add_one, hy]; rfl
  rcases h with h | ⟨h1, h2⟩
  · exact .inl (.inl h)
  · rw [tk] at h2
    rcases List.mem_append.mp h2 with h2 | h2
    · exact .inl (.inr ⟨h1, h2⟩)
    · rw [hx] at h1
      exact .inr ⟨(Option.some.inj h1).symm, List.mem_singleton.mp h2⟩
omit Z in
theorem pd_next {L : List Int} {i : Nat} {a b : Int} (hb : b ∈ L) (h : pd L (i + 1) 0 a b) : pd L i L.length a b := by
  rcases h with h | ⟨_, h2⟩
  · rw [List.take_add_one] at h
    rcases List.mem_append.mp h with h | h
    · exact .inl h
    · refine .inr ⟨?_, by rw [List.take_length]; exact hb⟩
      cases z : L[i]? with
      | none => rw [z] at h; cases h
      | some v =>
        rw [z] at h
        rw [List.mem_singleton.mp h]
  · rw [List.take_zero] at h2
    cases h2
theorem p4b : HT (ι := Nat) (XP P w K mg base f cdv A outer st H0 E) (nthS (inS (nthS parS 4)) 1) (M4 K H0 tt pq r ts prs s cs n) (fun k σ H => T4 K H0 tt pq r ts prs s cs n (k + 1) σ H ∨ 9 < k + 1) := by
  obtain ⟨tb, hb1, hb2⟩ := p4c (E := E) Z
  obtain ⟨T, c_come, hr, G⟩ := Z
  refine ⟨_, (ps_for PassesOwn.never rfl (pi_list (pv 4)) (pg_name (i := 8) sclaw_parted.nd rfl (by first | exact Or.inl rfl | exact Or.inr rfl))
  (pss_one (ps_for PassesOwn.never rfl (pi_list (pv 4)) (pg_name (i := 9) sclaw_parted.nd rfl (by first | exact Or.inl rfl | exact Or.inr rfl))
  (pss_one (ps_if (pt_cmpR op_eq (pe_dget (r1 hr) (pv 5) (pv 8) (fun _ _ => rfl)) (pe_dget (r1 hr) (pv 5) (pv 9) (fun _ _ => rfl)) (nomark _))
  (pss_one hb1)
  pss_nil))))), ?_⟩
  rintro k D σ H ⟨q, c0, x6, x8, x9, x10, x11, x12, x13, x14, x16, rfl, wq, rd, pz0, ln⟩ kk
  have wl := wq.mch.wrl
  have few := wl.few
  have n8 := wl.n8
  have l4 := G.l4
  have add4 : ∀ x y : Int, (addOf ts q.c x y).length ≤ 4 := fun x y => by
    unfold addOf
    rw [List.length_map]
    exact Nat.le_trans (List.length_filter_le _ _) l4
  refine ⟨_, rfl, q.lc, rfl, ⟨_, SqL.of wq.come⟩, ?_⟩
  refine for_list (xs := q.L.map V.int) (fun i σ' H' => ∃ (td : Addr) (us : List V) (tog : List (List Int)) (x8 x9 x16 : Option V), σ' = sgQ tt s pq r { q with td := td, us := us, tog := tog } x6 x8 x9 x10 x11 x12 x13 x14 none x16 ∧ Wq K H0 n ts s { q with td := td, us := us, tog := tog } H' ∧ Ad2 (Rl prs) ts cs q.L q.c tog (pd q.L i 0) ∧ tog.length ≤ q.tog.length + 32 * i) ⟨q.td, q.us, q.tog, x8, x9, x16, rfl, wq, Ad2.init pz0.lb (fun pr hp => pz0.eq pr (by rw [List.take_length]; exact hp)) fun x y h => h.elim (fun h => by rw [List.take_zero] at h; cases h) fun h => (by have h2 := h.2; rw [List.take_zero] at h2; cases h2), Nat.le_refl _⟩ (fun i σ' H' _ z => by
    obtain ⟨_, _, _, _, _, _, _, w, _⟩ := z
    exact SqL.of w.come) ?_ ?_
  · rintro i v σ' H1 hv ⟨td, us, tog, x8, x9, x16, rfl, w1, a1, n1⟩
    obtain ⟨x, hx, rfl⟩ : ∃ x, q.L[i]? = some x ∧ v = V.int x := by
      rw [List.getElem?_map] at hv
      obtain ⟨z, hz, rfl⟩ := Option.map_eq_some_iff.mp hv
      exact ⟨z, hz, rfl⟩
    have hi : i < q.L.length := (List.getElem?_eq_some_iff.mp hx).1
    have xL := List.mem_of_getElem? hx
    refine ⟨_, rfl, q.lc, rfl, ⟨_, SqL.of w1.come⟩, ?_⟩
    refine for_list (xs := q.L.map V.int) (fun j σ' H' => ∃ (td : Addr) (us : List V) (tog : List (List Int)) (x9 x16 : Option V), σ' = sgQ tt s pq r { q with td := td, us := us, tog := tog } x6 (some (.int x)) x9 x10 x11 x12 x13 x14 none x16 ∧ Wq K H0 n ts s { q with td := td, us := us, tog := tog } H' ∧ Ad2 (Rl prs) ts cs q.L q.c tog (pd q.L i j) ∧ tog.length ≤ q.tog.length + 32 * i + 4 * j) ⟨td, us, tog, x9, x16, rfl, w1, a1, n1⟩ (fun i σ' H' _ z => by
      obtain ⟨_, _, _, _, _, _, w, _⟩ := z
      exact SqL.of w.come) ?_ ?_
    · rintro j v σ' H2 hv ⟨td, us, tog, x9, x16, rfl, w2, a2, n2⟩
      obtain ⟨y, hy, rfl⟩ : ∃ x, q.L[j]? = some x ∧ v = V.int x := by
        rw [List.getElem?_map] at hv
        obtain ⟨z, hz, rfl⟩ := Option.map_eq_some_iff.mp hv
        exact ⟨z, hz, rfl⟩
      have yL := List.mem_of_getElem? hy
      have hj : j < q.L.length := (List.getElem?_eq_some_iff.mp hy).1
      refine ⟨_, rfl, _, rfl, q.dl, _, rfl, dget_dict w2.lab xL, _, rfl, _, rfl, q.dl, _, rfl, dget_dict w2.lab yL, rfl, _, rfl, ite2 (fun h => ?_) (fun h => ?_)⟩
      · have e : q.c x = q.c y := by simpa using h
        have lu := w2.rows.length
        refine hb2 ⟨{ q with td := td, us := us, tog := tog }, x, y, x6, x10, x11, x12, x13, x14, x16⟩ _ _ _ ⟨rfl, w2, xL, yL, ?_⟩ ?_
        · show us.length ≤ 5000
          have : us.length = tog.length := lu
          omega
        · rintro σ3 H3 ⟨td', us', x16', rfl, w3⟩
          refine ⟨td', us', _, _, _, rfl, w3, a2.put wl xL yL e fun a ha b hb h => pd_step hx hy h, ?_⟩
          have := add4 x y
          rw [List.length_append]
          show tog.length + (addOf ts q.c x y).length ≤ _
          omega
      · have ne : q.c x ≠ q.c y := by simpa using h
        exact ⟨td, us, tog, _, _, rfl, w2, a2.skip ne fun a ha b hb h => pd_step hx hy h, by omega⟩
    · rintro σ' H2 ⟨td, us, tog, x9, x16, rfl, w2, a2, n2⟩
      rw [List.length_map] at a2 n2
      exact ⟨td, us, tog, _, _, _, rfl, w2, a2.imp fun x hx y hy h => pd_next hy h, by omega⟩
  · rintro σ' H1 ⟨td, us, tog, x8, x9, x16, rfl, w1, a1, n1⟩
    rw [List.length_map] at a1 n1
    refine kk _ _ ?_
    by_cases k9 : 9 < k + 1
    · exact .inr k9
    · refine .inl ⟨{ q with td := td, us := us, tog := tog }, _, _, _, _, _, _, _, _, _, rfl, w1, Rd9.next (show q.L.length ≤ 8 by omega) rd pz0 (a1.imp fun x hx y hy _ => .inl (by rw [List.take_length]; exact hx)), ?_, by omega⟩
      show tog.length ≤ _
      omega
theorem p4 : HT (ι := Unit) (XP P w K mg base f cdv A outer st H0 E) (nthS parS 4) (fun _ σ H => ∃ (q : Gq) (x6 x8 x9 x10 x11 x12 : Option V), σ = sgQ tt s pq r q x6 x8 x9 x10 x11 x12 none none none none ∧ Wq K H0 n ts s q H ∧ Rd9 (Rl prs) ts cs q.L q.c q.tog 0 ∧ q.tog.length ≤ 160)
    (fun _ σ H => ∃ (q : Gq) (x6 x8 x9 x10 x11 x12 x13 x14 x16 : Option V), σ = sgQ tt s pq r q x6 x8 x9 x10 x11 x12 x13 x14 none x16 ∧ Wq K H0 n ts s q H ∧ Cls1 (Rl prs) ts cs q.L q.c) := by
  obtain ⟨tb, hb1, hb2⟩ := HTs.cons (p4a (E := E) Z) (HTs.one (p4b Z))
  obtain ⟨T, c_come, hr, G⟩ := Z
  refine ⟨_, ps_for PassesOwn.never rfl (pi_range1 (by rfl) T.z_range (pa_cons pe_int pa_nil)) (pg_name (i := 12) sclaw_parted.nd rfl (by first | exact Or.inl rfl | exact Or.inr rfl)) hb1, ?_⟩
  rintro _ D σ H ⟨q, x6, x8, x9, x10, x11, x12, rfl, wq, rd, ln⟩ kk
  refine ⟨9, rfl, by decide, by decide, for_range (lo := 0) (n := 9) (fun k σ' H' => T4 K H0 tt pq r ts prs s cs n k σ' H') ⟨q, x6, x8, x9, x10, x11, x12, _, _, _, rfl, wq, rd, by omega, by decide⟩ ?_ ?_⟩
  · rintro k σ' H1 hk ⟨q, x6, x8, x9, x10, x11, x12, x13, x14, x16, rfl, w1, rd1, ln1⟩
    refine hb2 k _ _ _ ⟨q, x6, x8, x9, x10, x11, _, x13, x14, x16, rfl, w1, rd1, ln1⟩ ?_
    rintro σ2 H2 (h | h)
    · exact h
    · omega
  · rintro σ' H1 ⟨q, x6, x8, x9, x10, x11, x12, x13, x14, x16, rfl, w1, rd1, ln1⟩
    exact kk _ _ ⟨q, x6, x8, x9, x10, x11, x12, x13, x14, x16, rfl, w1, rd1.done w1.mch.wrl w1.mch.sL⟩
end
end K7
/-! _law_parted: lots in their order (pure) -/
namespace K7
open L2 PySem PySem.Spec PyProof.Rows Kx RZ
def hd (l : List Int) : Int := l.headD 0
section
variable {PR : Nat → Nat → Prop} {n : Nat} {ts : List (List Int)} {cs : List Nat} {L : List Int} {c : Int → Int} {x y s : Int}
theorem hd_mem {l : List Int} (h : l ≠ []) : hd l ∈ l := by
  cases l with
  | nil => exact absurd rfl h
  | cons a r => exact List.mem_cons_self ..
theorem hd_app {l r : List Int} (h : l ≠ []) : hd (l ++ r) = hd l := by
  cases l with
  | nil => exact absurd rfl h
  | cons a r => rfl
theorem cls_ne (hx : x ∈ L) : cls c L x ≠ [] := fun z => by
  have : x ∈ cls c L x := mem_cls.mpr ⟨hx, rfl⟩
  rw [z] at this
  cases this
theorem hd_cls (hx : x ∈ L) : hd (cls c L x) ∈ L ∧ cls c L (hd (cls c L x)) = cls c L x := by
  obtain ⟨h1, h2⟩ := mem_cls.mp (hd_mem (cls_ne (c := c) hx))
  refine ⟨h1, ?_⟩
  show inC c L (c (hd (cls c L x))) = inC c L (c x)
  rw [h2]
theorem inC_ne {M : List Int} {k : Int} (h : k ∈ keysOf c M) : inC c M k ≠ [] := fun z => by
  obtain ⟨x, hx, e⟩ := mem_keys.mp h
  have : x ∈ inC c M k := mem_inC.mpr ⟨hx, e⟩
  rw [z] at this
  cases this
theorem heads : ∀ M : List Int, M.Pairwise (· < ·) → ((keysOf c M).map fun k => hd (inC c M k)).Pairwise (· < ·) := by
  refine snoc_ind (p := fun M => M.Pairwise (· < ·) → ((keysOf c M).map fun k => hd (inC c M k)).Pairwise (· < ·)) (fun _ => .nil) fun M x ih srt => ?_
  obtain ⟨s1, _, s3⟩ := List.pairwise_append.mp srt
  have old : ∀ k ∈ keysOf c M, hd (inC c (M ++ [x]) k) = hd (inC c M k) := fun k hk => by
    rw [inC_snoc]
    split
    · exact hd_app (inC_ne hk)
    · rfl
  have eq : (keysOf c M).map (fun k => hd (inC c (M ++ [x]) k)) = (keysOf c M).map fun k => hd (inC c M k) := List.map_congr_left old
  rw [keys_snoc]
  split
  · rw [eq]
    exact ih s1
  · rename_i no
    rw [List.map_append, eq]
    refine List.pairwise_append.mpr ⟨ih s1, List.pairwise_singleton .., fun a ha b hb => ?_⟩
    obtain ⟨k, hk, rfl⟩ := List.mem_map.mp ha
    have hb := List.mem_singleton.mp hb
    rw [hb]
    show hd (inC c M k) < hd (inC c (M ++ [x]) (c x))
    rw [inC_snoc, if_pos rfl, inC_new no]
    exact s3 _ (mem_inC.mp (hd_mem (inC_ne hk))).1 _ (List.mem_singleton.mpr rfl)
theorem code_hd {l m : List Int} (e : l.length = m.length) (h1 : TS.Bd 8 l) (h2 : TS.Bd 8 m) (nl : l ≠ []) (lt : hd l < hd m) : TS.code 8 l < TS.code 8 m := by
  cases l with
  | nil => exact absurd rfl nl
  | cons a r =>
    cases m with
    | nil => cases e
    | cons b q => exact TS.code_lt (by simpa using e) h1.tail h2.tail lt
theorem cls_bd (mc : Mch n ts s L) (hx : x ∈ L) : TS.Bd 8 (cls c L x) := fun y hy => by
  obtain ⟨h0, h1⟩ := mc.wrl.rng y (mem_cls.mp hy).1
  have := mc.wrl.n8
  omega
/-- a list of the lots that stands in the order of codes -/
theorem lots_sorted (mc : Mch n ts s L) (cl : Cls1 PR ts cs L c) {B : List (List Int)} (nd : B.Nodup) (sub : ∀ l ∈ B, ∃ x ∈ L, l = cls c L x) (all : ∀ x ∈ L, cls c L x ∈ B) (pw : B.Pairwise fun l m => TS.code 8 l ≤ TS.code 8 m) : B = lotsOf c L := by
  have inj : ∀ l ∈ B, l = cls c L (hd l) := fun l hl => by
    obtain ⟨x, hx, rfl⟩ := sub l hl
    exact (hd_cls hx).2.symm
  have inj2 : ∀ l ∈ lotsOf c L, l = cls c L (hd l) := fun l hl => by
    obtain ⟨x, hx, rfl⟩ := mem_lots.mp hl
    exact (hd_cls (c := c) hx).2.symm
  have p1 : (B.map hd).Pairwise (· < ·) := by
    refine List.pairwise_map.mpr ((List.Pairwise.and pw nd).imp_of_mem fun {l m} hl hm h => ?_)
    obtain ⟨le, ne⟩ := h
    obtain ⟨x, hx, el⟩ := sub l hl
    obtain ⟨y, hy, em⟩ := sub m hm
    have ln : l.length = m.length := by rw [el, em, cls_len mc cl hx, cls_len mc cl hy]
    rcases Int.lt_trichotomy (hd l) (hd m) with h | h | h
    · exact h
    · exact absurd (by rw [inj l hl, h, ← inj m hm]) ne
    · have := code_hd ln.symm (by rw [em]; exact cls_bd mc hy) (by rw [el]; exact cls_bd mc hx) (by rw [em]; exact cls_ne hy) h
      omega
  have p2 : ((lotsOf c L).map hd).Pairwise (· < ·) := by
    unfold lotsOf
    rw [List.map_map]
    exact heads L mc.srt
  have e : B.map hd = (lotsOf c L).map hd := sorted_eq p1 p2 fun z => by
    rw [List.mem_map, List.mem_map]
    constructor
    · rintro ⟨l, hl, rfl⟩
      obtain ⟨x, hx, rfl⟩ := sub l hl
      exact ⟨_, mem_lots.mpr ⟨x, hx, rfl⟩, rfl⟩
    · rintro ⟨l, hl, rfl⟩
      obtain ⟨x, hx, rfl⟩ := mem_lots.mp hl
      exact ⟨_, all x hx, rfl⟩
  have m1 : (B.map hd).map (cls c L) = B := by
    rw [List.map_map]
    exact (List.map_congr_left fun l hl => (inj l hl).symm).trans (List.map_id B)
  have m2 : ((lotsOf c L).map hd).map (cls c L) = lotsOf c L := by
    rw [List.map_map]
    exact (List.map_congr_left fun l hl => (inj2 l hl).symm).trans (List.map_id _)
  rw [← m1, e, m2]
end
end K7
/-! _law_parted: its end -/
namespace K7
open L2 PySem PySem.Spec PyProof.Rows Kx RZ
theorem call_tupleK {X : Cx} {K : PySem.W.Frag} (hK : X.K = K := by rfl) : CallR X (.type "tuple") (fun xs H Q => ∃ p ys, xs = [.ref p] ∧ ((SqL K H p ys ∧ ∀ l, H l = none → Q (.ref l) (upd H l (.tup ys))) ∨ (SqT K H p ys ∧ Q (.ref p) H))) := by
  subst hK
  exact call_tuple_of
theorem call_tupDK {X : Cx} {K : PySem.W.Frag} (hK : X.K = K := by rfl) : CallR X (.type "tuple") (fun xs H Q => ∃ p ys, xs = [.ref p] ∧ SqD K H p ys ∧ ∀ q H', Same H H' → TupD H' q ys → Q (.ref q) H') := by
  subst hK
  exact call_tupD
theorem tupD_lst {H : Hp} {D : Addr} {u u' xs : List V} {q : Addr} (hD : H D = some (.lst u)) (h : TupD H q xs) : TupD (upd H D (.lst u')) q xs := by
  obtain ⟨o, h1, h2⟩ := h
  exact ⟨o, by rw [upd_ne (ne_of h1 hD fun z => nomatch z)]; exact h1, h2⟩
theorem pi_listK {X : Cx} {K : PySem.W.Frag} {tg l : Expr} {tl : TE} (hl : PE X l tl) (hK : X.K = K := by rfl) : PI X tg l (iList K tl) := by
  subst hK
  exact pi_list hl
section
variable {P : Program} {w : World} {K : PySem.W.Frag} {mg : Str → Option Value} {base : Heap} {f : Addr} {cdv : Value} {A : Around} {outer : List Env} {st : Shared} {H0 : Hp} {E : XK} {tt pq r : Addr} {ps pps : List V} {ts prs : List (List Int)} {s : Int} {cs : List Nat} {n : Nat} {fd : FuncData}
theorem p5 (Z : Lp P w K mg base f cdv A outer st H0 tt pq r ps pps ts prs s cs n) : HT (ι := Unit) (XP P w K mg base f cdv A outer st H0 E) (nthS parS 5) (fun _ σ H => ∃ (q : Gq) (x6 x8 x9 x10 x11 x12 x13 x14 x16 : Option V), σ = sgQ tt s pq r q x6 x8 x9 x10 x11 x12 x13 x14 none x16 ∧ Wq K H0 n ts s q H ∧ Cls1 (Rl prs) ts cs q.L q.c)
    (fun _ σ H => ∃ (q : Gq) (lo : Addr) (ks : List (Addr × List Int)) (x6 x8 x9 x10 x11 x12 x13 x14 x16 : Option V), σ = sgQ tt s pq r q x6 x8 x9 x10 x11 x12 x13 x14 (some (.ref lo)) x16 ∧ Wq K H0 n ts s q H ∧ Cls1 (Rl prs) ts cs q.L q.c ∧ H lo = some (.lst (ks.map fun p => V.ref p.1)) ∧ (∀ p ∈ ks, TupD H p.1 (p.2.map V.int)) ∧ ks.map (·.2) = q.L.map (cls q.c q.L)) := by
  obtain ⟨T, c_come, hr, G⟩ := Z
  refine ⟨_, (ps_setLc (i := 15) (own := [("one", 8)]) (by rfl) sclaw_parted.nd rfl rfl (sw_true rfl rfl rfl (by decide +kernel)) (pi_list (pv 4)) (blkOk_by (own := [("one", 8)]) (N := ["tables", "first", "pairs", "rounds", "come", "label", "state", "told", "one", "other", "deed", "there", "turn", "old", "new", "lots", "table"]) (sc := defScope s_law_parted) (by decide +kernel)) (fun _ _ _ _ _ => (pg_name (i := 8) sclaw_parted.nd rfl (by first | exact Or.inl rfl | exact Or.inr rfl))) (fun _ _ _ _ _ => pts_nil) (fun _ _ _ _ _ => (pe_callTy (call_tupDK (K := K)) (by rfl) T.z_tuple (by decide +kernel) (pa_cons (pe_lc (own := [("state", 6)]) (by rfl) sclaw_parted.nd (pi_listK (K := K) (pv 4)) (by refine blkOk_by ?_; rfl) (fun _ _ _ _ _ => (pg_name (i := 6) sclaw_parted.nd rfl (by first | exact Or.inl rfl | exact Or.inr rfl))) (fun _ _ _ _ _ => (pts_one (pt_cmpR op_eq (pe_dget (r1 hr) (pv 5) (pv 6) (fun _ _ => rfl)) (pe_dget (r1 hr) (pv 5) (pv 8) (fun _ _ => rfl)) (nomark _)))) (fun _ _ _ _ _ => (pv 6))) pa_nil)))), ?_⟩
  rintro _ D σ H ⟨q, x6, x8, x9, x10, x11, x12, x13, x14, x16, rfl, wq, cl⟩ kk
  have few := wq.mch.wrl.few
  have n8 := wq.mch.wrl.n8
  refine ⟨_, rfl, q.lc, rfl, ⟨_, SqL.of wq.come⟩, fun D0 hD => ?_⟩
  refine lc_list (xs := q.L.map V.int) (fun i H' => ∃ ks : List (Addr × List Int), Same H H' ∧ H' D0 = some (.lst (ks.map fun p => V.ref p.1)) ∧ (∀ p ∈ ks, TupD H' p.1 (p.2.map V.int)) ∧ ks.map (·.2) = (q.L.take i).map (cls q.c q.L)) ⟨[], same_new hD, upd_same, (fun _ h => nomatch h), by rw [List.take_zero]; rfl⟩ (fun i H' _ z => by
    obtain ⟨_, e, _⟩ := z
    exact SqL.of (e _ _ wq.come)) ?_ ?_
  · rintro i v H1 hv ⟨ks, e1, h1, r1', m1⟩
    obtain ⟨x, hx, rfl⟩ : ∃ x, q.L[i]? = some x ∧ v = V.int x := by
      rw [List.getElem?_map] at hv
      obtain ⟨z, hz, rfl⟩ := Option.map_eq_some_iff.mp hv
      exact ⟨z, hz, rfl⟩
    have xL := List.mem_of_getElem? hx
    have w1 := wq.same e1
    have lk : ks.length = (q.L.take i).length := by
      have := congrArg List.length m1
      rwa [List.length_map, List.length_map] at this
    rw [List.length_take] at lk
    refine ⟨rfl, yes ((if_pos rfl).mpr ?_)⟩
    refine ⟨_, rfl, q.lc, rfl, ⟨_, SqL.of w1.come⟩, fun D5 hD5 => ?_⟩
    refine lc_list (xs := q.L.map V.int) (fun j H' => Same H1 H' ∧ H' D5 = some (.lst ((inC q.c (q.L.take j) (q.c x)).map V.int))) ⟨same_new hD5, by rw [List.take_zero]; exact upd_same⟩ (fun i H' _ z => SqL.of (z.1 _ _ w1.come)) ?_ ?_
    · rintro j v H2 hv ⟨e2, h2⟩
      obtain ⟨y, hy, rfl⟩ : ∃ x, q.L[j]? = some x ∧ v = V.int x := by
        rw [List.getElem?_map] at hv
        obtain ⟨z, hz, rfl⟩ := Option.map_eq_some_iff.mp hv
        exact ⟨z, hz, rfl⟩
      have yL := List.mem_of_getElem? hy
      have w2 := w1.same e2
      have tk : q.L.take (j + 1) = q.L.take j ++ [y] := by rw [List.take_add_one, hy]; rfl
      have li : (inC q.c (q.L.take j) (q.c x)).length ≤ (q.L.take j).length := inC_len
      rw [List.length_take] at li
      refine ⟨rfl, ?_⟩
      refine ⟨_, rfl, _, rfl, q.dl, _, rfl, dget_dict w2.lab yL, _, rfl, _, rfl, q.dl, _, rfl, dget_dict w2.lab xL, rfl, _, rfl, ite2 (fun h => ?_) (fun h => ?_)⟩
      · have e : q.c y = q.c x := by simpa using h
        refine ⟨_, rfl, _, h2, by rw [List.length_map, sizeLine_eq]; omega, same_put e2 hD5, ?_⟩
        rw [upd_same, tk, inC_snoc, if_pos e.symm, List.map_append]
        rfl
      · have ne : q.c y ≠ q.c x := by simpa using h
        refine ⟨e2, ?_⟩
        rw [tk, inC_snoc, if_neg (Ne.symm ne)]
        exact h2
    · rintro H2 ⟨e2, h2⟩
      rw [List.length_map, List.take_length] at h2
      refine ⟨D5, _, rfl, .inl (SqL.of h2), fun t H3 e3 u3 => ?_⟩
      have e13 := e2.trans e3
      have h3 := e13 _ _ h1
      refine ⟨_, h3, by rw [List.length_map, sizeLine_eq]; omega, ks ++ [(t, cls q.c q.L x)], same_put (e1.trans e13) hD, ?_, fun p hp => ?_, ?_⟩
      · rw [upd_same, List.map_append]
        rfl
      · rcases List.mem_append.mp hp with hp | hp
        · exact tupD_lst h3 (TupD.same e13 (r1' p hp))
        · rw [List.mem_singleton.mp hp]
          exact tupD_lst h3 u3
      · rw [List.map_append, m1, List.take_add_one, hx, List.map_append]
        rfl
  · rintro H1 ⟨ks, e1, h1, r1', m1⟩
    rw [List.length_map, List.take_length] at m1
    exact kk _ _ ⟨q, D0, ks, _, _, _, _, _, _, _, _, _, rfl, wq.same e1, cl, h1, r1', m1⟩
end
end K7
/-! _law_parted -/
namespace K7
open L2 PySem PySem.Spec PyProof.Rows Kx RZ
def spParted (K : PySem.W.Frag) : Sp := fun vs H Q _ => ∃ (tt pq r : Addr) (ps pps : List V) (ts prs : List (List Int)) (s : Int) (cs : List Nat) (n : Nat), vs = [.ref tt, .int s, .ref pq, .ref r] ∧ Giv K H tt pq r ps pps ts prs s cs n ∧
  ∀ l H' qs c L, Same H H' → Mch n ts s L → SqT K H' l qs → RowsBy (fun q xs => TupD H' q xs) qs (lotsOf c L) → Cls1 (Rl prs) ts cs L c → Q (.ref l) H'
theorem rows_of {R : Addr → List V → Prop} : ∀ {ks : List (Addr × List Int)}, (∀ p ∈ ks, R p.1 (p.2.map V.int)) → RowsBy R (ks.map fun p => V.ref p.1) (ks.map (·.2))
  | [], _ => trivial
  | p :: ks, h => ⟨⟨p.1, rfl, h p (List.mem_cons_self ..)⟩, rows_of fun q hq => h q (List.mem_cons_of_mem _ hq)⟩
section
variable {P : Program} {w : World} {K : PySem.W.Frag} {mg : Str → Option Value} {base : Heap} {f : Addr} {fd : FuncData} {a : Ad} {C CM : Addr}
theorem ok_parted (F : FnP K "_law_parted" s_law_parted f fd) (T : Mg mg) (c_come : Cal P w K mg base CX0 1 "_law_come" ["tables", "first"] (spCome K)) : FnOk P w K mg base CX0 2 f fd ["tables", "first", "pairs", "rounds"] (spParted K) := by
  refine F.ok sclaw_parted (fun vs H Q E h => ?_) (fun cdv A outer st H vs Q E hr h => ?_)
  · obtain ⟨tt, pq, r, ps, pps, ts, prs, s, cs, n, rfl, _⟩ := h
    rfl
  · obtain ⟨tt, pq, r, ps, pps, ts, prs, s, cs, n, rfl, G, k⟩ := h
    have Z : Lp P w K mg base f cdv A outer st H tt pq r ps pps ts prs s cs n := ⟨T, c_come, hr, G⟩
    obtain ⟨t0, a0, b0⟩ := p0 (E := E) Z
    obtain ⟨t1, a1, b1⟩ := p1 (E := E) Z
    obtain ⟨t2, a2, b2⟩ := p2 (E := E) Z
    obtain ⟨t3, a3, b3⟩ := p3 (E := E) Z
    obtain ⟨t4, a4, b4⟩ := p4 (E := E) Z
    obtain ⟨t5, a5, b5⟩ := p5 (E := E) Z
    refine ⟨_, PSs.nox (pss_cons a0 (pss_cons a1 (pss_cons a2 (pss_cons a3 (pss_cons a4 (pss_cons a5 (pss_one (ps_ret (pe_callTy (call_tupleK (K := K)) (by rfl) T.z_tuple (by decide +kernel) (pa_cons (pe_callB (cr_sortedT (by rfl)) (by rfl) T.z_sorted (by decide +kernel) (pa_cons (pe_callTy (cr_setOfT (by rfl) (Room.units hr)) (by rfl) T.z_set (by decide +kernel) (pa_cons (pv 15) pa_nil)) pa_nil)) pa_nil)))))))))), ?_⟩
    refine b0 () _ _ _ ⟨rfl, rfl⟩ fun σ0 H1 h0 => b1 () _ _ _ h0 fun σ1 H1 h1 => b2 () _ _ _ h1 fun σ2 H2 h2 => b3 () _ _ _ h2 fun σ3 H3 h3 => b4 () _ _ _ h3 fun σ4 H4 h4 => b5 () _ _ _ h4 fun σ5 H5 h5 => ?_
    obtain ⟨q, lo, ks, x6, x8, x9, x10, x11, x12, x13, x14, x16, rfl, w5, cl, hlo, rk, mk⟩ := h5
    have mc := w5.mch
    have few := mc.wrl.few
    have n8 := mc.wrl.n8
    have lk : ks.length = q.L.length := by
      have := congrArg List.length mk
      rwa [List.length_map, List.length_map] at this
    have mem : ∀ p ∈ ks, ∃ x ∈ q.L, p.2 = cls q.c q.L x := fun p hp => by
      have : p.2 ∈ ks.map (·.2) := List.mem_map.mpr ⟨p, hp, rfl⟩
      rw [mk] at this
      obtain ⟨x, hx, e⟩ := List.mem_map.mp this
      exact ⟨x, hx, e.symm⟩
    refine ⟨_, rfl, lo, ks, rfl, SqL.of hlo, fun p hp => (rk p hp).sqT, by omega, fun S L hS sub all => ?_⟩
    let H6 := upd H5 S (SetTO P w S L)
    have e6 : Same H5 H6 := same_new (o := SetTO P w S L) hS
    have u6 : H6 S = some (SetTO P w S L) := upd_same
    refine ⟨S, L, (cls q.c q.L s).length, 8, rfl, u6, fun p hp => sqT_same e6 (rk p (sub p hp)).sqT, List.length_pos_of_mem (mem_cls.mpr ⟨mc.sL, rfl⟩), fun p hp => ?_, fun L' l pm nd l64 pw hl => ?_⟩
    · obtain ⟨x, hx, e⟩ := mem p (sub p hp)
      rw [e]
      exact ⟨cls_len mc cl hx, cls_bd mc hx⟩
    · let H7 := upd H6 l (HO.lst (L'.map fun q => V.ref q.1))
      have e7 : Same H6 H7 := same_new hl
      have u7 : H7 l = some (.lst (L'.map fun q => V.ref q.1)) := upd_same
      refine ⟨l, _, rfl, .inl ⟨SqL.of u7, fun t ht => ?_⟩⟩
      let H8 := upd H7 t (HO.tup (L'.map fun q => V.ref q.1))
      have e8 : Same H7 H8 := same_new ht
      have u8 : SqT K H8 t (L'.map fun q => V.ref q.1) := SqT.of upd_same
      have e58 := e6.trans (e7.trans e8)
      have eq := lots_sorted mc cl nd (fun l hl => by
        obtain ⟨p, hp, rfl⟩ := List.mem_map.mp hl
        exact mem p (sub p (pm.mem_iff.mp hp))) (fun x hx => by
        have : cls q.c q.L x ∈ ks.map (·.2) := by rw [mk]; exact List.mem_map.mpr ⟨x, hx, rfl⟩
        obtain ⟨p, hp, e⟩ := List.mem_map.mp this
        rw [← e]
        obtain ⟨p', hp', e'⟩ := List.mem_map.mp (all p hp)
        exact List.mem_map.mpr ⟨p', pm.mem_iff.mpr hp', e'⟩) (List.pairwise_map.mpr pw)
      refine k t H8 _ q.c q.L (w5.old.trans e58) mc u8 ?_ cl
      rw [← eq]
      exact rows_of fun p hp => TupD.same e58 (rk p (sub p (pm.mem_iff.mp hp)))
end
end K7
/-! _law_pairs, _law_shown -/
namespace K7
open L2 PySem PySem.Spec PyProof.Rows Kx RZ
/-- what a counter shows of a number -/
def shw (t e m : Int) : Int := if t = 0 ∨ m < e then m else e + (m - e) % t
def spLShown : Sp := fun vs H Q _ => ∃ t e m : Int, vs = [.int t, .int e, .int m] ∧ 0 ≤ t ∧ Q (.int (shw t e m)) H
section
variable {P : Program} {w : World} {K : PySem.W.Frag} {mg : Str → Option Value} {base : Heap} {f : Addr} {fd : FuncData} {a : Ad} {C CM : Addr}
theorem sclaw_shown : FnScope ["turn", "rest", "many"] ["turn", "rest", "many"] (defScope s_law_shown) := ⟨rfl, rfl, rfl, by decide +kernel, rfl, by decide +kernel, by decide +kernel⟩
theorem ok_law_shown (F : FnP K "_law_shown" s_law_shown f fd) (T : Mg mg) : FnOk P w K mg base CX0 1 f fd ["turn", "rest", "many"] spLShown := by
  refine F.ok sclaw_shown (fun vs H Q E h => ?_) (fun cdv A outer st H vs Q E hr h => ?_)
  · obtain ⟨t, e, m, rfl, _⟩ := h
    rfl
  · obtain ⟨t, e, m, rfl, t0, k⟩ := h
    refine ⟨_, PSs.nox (pss_one (ps_ret (pe_ifExp (PW.pt (pw_or (pt_cmpR op_eq (pv 0) pe_int (nomark _)) (pw_or1 (pt_cmpR op_lt (pv 2) (pv 1) (nomark _))))) (pv 2) (pe_op op_add (pv 1) (pe_op op_mod (pe_callTy call_int1 (by rfl) T.z_int (by decide +kernel) (pa_cons (pe_op op_sub (pv 2) (pv 1)) pa_nil)) (pv 0)))))), ?_⟩
    unfold shw at k
    refine ⟨_, rfl, rfl, _, rfl, ite2 (fun h => ?_) (fun h => ?_)⟩
    · have e0 : t = 0 := by simpa using h
      rw [if_pos (.inl e0)] at k
      exact ite2 (fun _ => ⟨_, rfl, k⟩) (fun z => absurd rfl z)
    · have e0 : t ≠ 0 := by simpa using h
      refine ⟨_, rfl, _, rfl, _, _, rfl, rfl, _, rfl, ?_⟩
      refine ite2 (fun h2 => ?_) (fun h2 => ?_)
      · have lt : m < e := by simpa using h2
        rw [if_pos (.inr lt)] at k
        exact ⟨_, rfl, k⟩
      · have ge : ¬ m < e := by simpa using h2
        rw [if_neg (fun z => z.elim e0 ge)] at k
        exact ⟨_, rfl, _, rfl, _, rfl, _, _, rfl, rfl, .inl ⟨_, rfl, _, rfl, _, _, rfl, rfl, (by show (0 : Int) < t; omega), _, _, rfl, rfl, k⟩⟩
def spLPairs (K : PySem.W.Frag) : Sp := fun vs H Q _ => ∃ k : Nat, vs = [.int (k : Nat)] ∧ k ≤ 4 ∧ ∀ l H' ps prs, Same H H' → H l = none → H' l = some (.lst ps) → RowsBy (SqT K H') ps prs → PairsAll k prs → Q (.ref l) H'
theorem sclaw_pairs : FnScope ["deeds", "found", "other", "one"] ["deeds"] (defScope s_law_pairs) := ⟨rfl, rfl, rfl, by decide +kernel, rfl, by decide +kernel, by decide +kernel⟩
/-- what stands behind the pairs of i deeds and j more -/
structure Pq (k : Nat) (prs : List (List Int)) (i : Nat) : Prop where
  are : ∀ pr ∈ prs, ∃ a b : Nat, pr = [(a : Int), (b : Int)] ∧ a < b ∧ b < k
  all : ∀ a b : Nat, a < b → b < i → [(a : Int), (b : Int)] ∈ prs
  few : prs.length ≤ i * 3
theorem ok_law_pairs (F : FnP K "_law_pairs" s_law_pairs f fd) (T : Mg mg) : FnOk P w K mg base CX0 1 f fd ["deeds"] (spLPairs K) := by
  refine F.ok sclaw_pairs (fun vs H Q E h => ?_) (fun cdv A outer st H vs Q E hr h => ?_)
  · obtain ⟨k, rfl, _⟩ := h
    rfl
  · obtain ⟨k, rfl, k4, q⟩ := h
    refine ⟨_, PSs.nox (pss_cons (ps_set (i := 1) sclaw_pairs.nd rfl (by first | exact Or.inl rfl | exact Or.inr rfl) (pe_lst pa_nil))
  (pss_cons (ps_for PassesOwn.never rfl (pi_range1 (by rfl) T.z_range (pa_cons (pv 0) pa_nil)) (pg_name (i := 2) sclaw_pairs.nd rfl (by first | exact Or.inl rfl | exact Or.inr rfl))
  (pss_one (ps_set (i := 1) sclaw_pairs.nd rfl (by first | exact Or.inl rfl | exact Or.inr rfl) (pe_op op_cat (pv 1) (pe_lc (own := [("one", 3)]) (by rfl) sclaw_pairs.nd (pi_range1 (by rfl) T.z_range (pa_cons (pv 2) pa_nil)) (blkOk_by (own := [("one", 3)]) (N := ["deeds", "found", "other", "one"]) (sc := defScope s_law_pairs) (by decide +kernel)) (fun _ _ _ _ _ => (pg_name (i := 3) sclaw_pairs.nd rfl (by first | exact Or.inl rfl | exact Or.inr rfl))) (fun _ _ _ _ _ => pts_nil) (fun _ _ _ _ _ => (pe_tup (pa_cons (pv 3) (pa_cons (pv 2) pa_nil)))))))))
  (pss_one (ps_ret (pv 1))))), ?_⟩
    refine ⟨(by show 0 ≤ sizeLine; decide), fun D0 hD => ?_⟩
    refine ⟨_, rfl, k, rfl, by omega, by omega, for_range (lo := 0) (n := k) (fun i σ' H' => ∃ (l : Addr) (ps : List V) (prs : List (List Int)) (x2 x3 : Option V), σ' = [some (.int (k : Nat)), some (.ref l), x2, x3] ∧ Same H H' ∧ H l = none ∧ H' l = some (.lst ps) ∧ RowsBy (SqT K H') ps prs ∧ Pq k prs i) ⟨D0, [], [], _, _, rfl, same_new hD, hD, upd_same, trivial, ⟨(fun _ h => nomatch h), fun a b _ h => absurd h (Nat.not_lt_zero _), Nat.zero_le _⟩⟩ ?_ ?_⟩
    · rintro i σ' H1 hi ⟨l, ps, prs, x2, x3, rfl, e1, nl, h1, rows, pq⟩
      rw [show (0 : Int) + (i : Int) = (i : Int) from Int.zero_add _]
      refine ⟨_, rfl, _, rfl, i, rfl, by omega, by omega, fun D5 hD5 => ?_⟩
      have n5 : H D5 = none := by
        cases z : H D5 with
        | none => rfl
        | some o =>
          have := e1 _ _ z
          rw [show H1 D5 = none from hD5] at this
          cases this
      refine lc_range (lo := 0) (n := i) (fun j H' => ∃ us, Same H1 H' ∧ H' D5 = some (.lst us) ∧ RowsBy (SqT K H') us ((List.range j).map fun a : Nat => [(a : Int), (i : Int)])) ⟨[], same_new hD5, upd_same, trivial⟩ ?_ ?_
      · rintro j H2 hj ⟨us, e2, h2, r2⟩
        rw [show (0 : Int) + (j : Int) = (j : Int) from Int.zero_add _]
        refine ⟨rfl, yes ((if_pos rfl).mpr ?_)⟩
        refine ⟨_, rfl, _, rfl, (by show 2 ≤ sizeLine; decide), fun t ht => ?_⟩
        have e3 := same_new (o := HO.tup [V.int (j : Nat), V.int (i : Nat)]) ht
        have u3 : SqT K (upd H2 t (HO.tup [V.int (j : Nat), V.int (i : Nat)])) t (([(j : Int), (i : Int)] : List Int).map V.int) := SqT.of upd_same
        generalize upd H2 t (HO.tup [V.int (j : Nat), V.int (i : Nat)]) = H3 at e3 u3 ⊢
        have h3 := e3 _ _ h2
        have lu := r2.length
        rw [List.length_map, List.length_range] at lu
        refine ⟨us, h3, by rw [sizeLine_eq]; omega, us ++ [.ref t], same_put (e2.trans e3) hD5, upd_same, ?_⟩
        rw [List.range_succ, List.map_append]
        exact RowsBy.snoc (R := SqT K _) (sqT_lst h3 u3) (r2.imp fun _ _ z => sqT_lst h3 (sqT_same e3 z))
      · rintro H2 ⟨us, e2, h2, r2⟩
        have lu := r2.length
        rw [List.length_map, List.length_range] at lu
        have lp := rows.length
        have few := pq.few
        refine ⟨l, D5, ps, us, rfl, rfl, e2 _ _ h1, h2, by rw [sizeLine_eq]; omega, fun p hp => ?_⟩
        have e3 := same_new (o := HO.lst (ps ++ us)) hp
        have np : H p = none := by
          cases z : H p with
          | none => rfl
          | some o =>
            have := e2 _ _ (e1 _ _ z)
            rw [show H2 p = none from hp] at this
            cases this
        refine ⟨p, ps ++ us, prs ++ (List.range i).map fun a : Nat => [(a : Int), (i : Int)], _, _, rfl, e1.trans (e2.trans e3), np, upd_same, (rows.imp fun _ _ z => sqT_same (e2.trans e3) z).app (r2.imp fun _ _ z => sqT_same e3 z), ?_⟩
        refine ⟨fun pr hp => ?_, fun a b ab bi => ?_, by rw [List.length_append, List.length_map, List.length_range]; omega⟩
        · rcases List.mem_append.mp hp with hp | hp
          · exact pq.are pr hp
          · obtain ⟨a, ha, rfl⟩ := List.mem_map.mp hp
            exact ⟨a, i, rfl, List.mem_range.mp ha, hi⟩
        · by_cases e : b = i
          · subst e
            exact List.mem_append_right _ (List.mem_map.mpr ⟨a, List.mem_range.mpr ab, rfl⟩)
          · exact List.mem_append_left _ (pq.all a b ab (by omega))
    · rintro σ' H1 ⟨l, ps, prs, x2, x3, rfl, e1, nl, h1, rows, pq⟩
      exact ⟨_, rfl, q l H1 ps prs e1 nl h1 rows ⟨pq.are, pq.all, by have := pq.few; omega⟩⟩
end
end K7
/-! deeds in any order, numbers that are shown (pure) -/
namespace K7
open L2 PySem PySem.Spec PyProof.Rows Kx RZ
section
variable {n : Nat} {ts : List (List Int)} {cs : List Nat} {L : List Int} {x u v : Int}
theorem at_mem {t : List Int} (h : t ∈ ts) : ∃ d, d < ts.length ∧ ts.getD d [] = t := by
  obtain ⟨d, hd⟩ := List.getElem?_of_mem h
  exact ⟨d, (List.getElem?_eq_some_iff.mp hd).1, getD_of hd⟩
theorem tx_tog {t : List Int} (ht : t ∈ ts) (h : Tog (LtB ts.length) ts cs L u v) : Tog (LtB ts.length) ts cs L (tx t u) (tx t v) := by
  obtain ⟨d, hd, rfl⟩ := at_mem ht
  exact h.step d hd
theorem it_tog {t : List Int} (ht : t ∈ ts) (h : Tog (LtB ts.length) ts cs L u v) : ∀ k, Tog (LtB ts.length) ts cs L (it t k u) (it t k v)
  | 0 => h
  | k + 1 => tx_tog ht (it_tog ht h k)
theorem comm1 {t e : List Int} (w : Wrl n ts L) (ht : t ∈ ts) (he : e ∈ ts) (hx : x ∈ L) : Tog (LtB ts.length) ts cs L (tx e (tx t x)) (tx t (tx e x)) := by
  obtain ⟨a, ha, rfl⟩ := at_mem ht
  obtain ⟨b, hb, rfl⟩ := at_mem he
  rcases Nat.lt_trichotomy a b with h | h | h
  · exact .seed (.comm a b x ⟨h, hb⟩ ha hb hx)
  · subst h
    exact .refl ((w.tab _ ht).2.2.cl _ ((w.tab _ ht).2.2.cl _ hx))
  · exact (Tog.seed (.comm b a x ⟨h, ha⟩ hb ha hx)).symm
theorem comm_it {t e : List Int} (w : Wrl n ts L) (ht : t ∈ ts) (he : e ∈ ts) (hx : x ∈ L) : ∀ k, Tog (LtB ts.length) ts cs L (tx e (it t k x)) (it t k (tx e x))
  | 0 => .refl ((w.tab _ he).2.2.cl _ hx)
  | k + 1 => (comm1 w ht he ((w.tab _ ht).2.2.it_in hx k)).trans (tx_tog ht (comm_it w ht he hx k))
theorem byC_tog : ∀ {ts' : List (List Int)} {ns : List Nat} {u v : Int}, (∀ t ∈ ts', t ∈ ts) → Tog (LtB ts.length) ts cs L u v → Tog (LtB ts.length) ts cs L (byC ts' ns u) (byC ts' ns v)
  | [], _, _, _, _, h => h
  | _ :: _, [], _, _, _, h => h
  | t :: ts', c :: ns, u, v, m, h => byC_tog (ts' := ts') (ns := ns) (fun t ht => m t (List.mem_cons_of_mem _ ht)) (it_tog (m t (List.mem_cons_self ..)) h c)
theorem byC_L (w : Wrl n ts L) {ts' : List (List Int)} {ns : List Nat} (m : ∀ t ∈ ts', t ∈ ts) (hx : x ∈ L) : byC ts' ns x ∈ L := byC_in (fun t ht => (w.tab _ (m t ht)).2.2) hx
theorem byC_tx {e : List Int} (w : Wrl n ts L) (he : e ∈ ts) : ∀ {ts' : List (List Int)} {ns : List Nat} {x : Int}, (∀ t ∈ ts', t ∈ ts) → x ∈ L → Tog (LtB ts.length) ts cs L (byC ts' ns (tx e x)) (tx e (byC ts' ns x))
  | [], _, _, _, hx => .refl ((w.tab _ he).2.2.cl _ hx)
  | _ :: _, [], _, _, hx => .refl ((w.tab _ he).2.2.cl _ hx)
  | t :: ts', c :: ns, x, m, hx => by
    have ht := m t (List.mem_cons_self ..)
    have m' : ∀ t ∈ ts', t ∈ ts := fun t ht => m t (List.mem_cons_of_mem _ ht)
    exact (byC_tog (ns := ns) m' (comm_it w ht he hx c).symm).trans (byC_tx w he m' ((w.tab _ ht).2.2.it_in hx c))
theorem byC_it {e : List Int} (w : Wrl n ts L) (he : e ∈ ts) {ts' : List (List Int)} {ns : List Nat} (m : ∀ t ∈ ts', t ∈ ts) (hx : x ∈ L) : ∀ k, Tog (LtB ts.length) ts cs L (byC ts' ns (it e k x)) (it e k (byC ts' ns x))
  | 0 => .refl (byC_L w m hx)
  | k + 1 => (byC_tx w he m ((w.tab _ he).2.2.it_in hx k)).trans (tx_tog he (byC_it w he m hx k))
/-- m deeds of kind d more -/
theorem byC_add (w : Wrl n ts L) : ∀ {ts' : List (List Int)} {ns : List Nat} {x : Int} {d m : Nat}, (∀ t ∈ ts', t ∈ ts) → ts'.length = ns.length → d < ts'.length → x ∈ L → Tog (LtB ts.length) ts cs L (it (ts'.getD d []) m (byC ts' ns x)) (byC ts' (ns.set d (ns.getD d 0 + m)) x)
  | t :: ts', c :: ns, x, 0, m, mm, _, _, hx => by
    have ht := mm t (List.mem_cons_self ..)
    have m' : ∀ t ∈ ts', t ∈ ts := fun t ht => mm t (List.mem_cons_of_mem _ ht)
    show Tog (LtB ts.length) ts cs L (it t m (byC ts' ns (it t c x))) (byC ts' ns (it t (c + m) x))
    rw [it_add]
    exact (byC_it w ht m' ((w.tab _ ht).2.2.it_in hx c) m).symm
  | t :: ts', c :: ns, x, d + 1, m, mm, hl, hd, hx => by
    have ht := mm t (List.mem_cons_self ..)
    exact byC_add w (ts' := ts') (ns := ns) (fun t ht => mm t (List.mem_cons_of_mem _ ht)) (by simpa using hl) (by simpa using hd) ((w.tab _ ht).2.2.it_in hx c)
  | [], _, _, _, _, _, _, hd, _ => by simp at hd
  | _ :: _, [], _, _, _, _, hl, _, _ => by simp at hl
theorem turn_mul {t : List Int} {r : Nat} (w : Wrl n ts L) (ht : t ∈ ts) (h : ∀ x ∈ L, Tog (LtB ts.length) ts cs L x (it t r x)) (hx : x ∈ L) : ∀ k, Tog (LtB ts.length) ts cs L x (it t (r * k) x)
  | 0 => .refl hx
  | k + 1 => by
    rw [Nat.mul_succ, it_add]
    exact (turn_mul w ht h hx k).trans (h _ ((w.tab _ ht).2.2.it_in hx _))
theorem it_modT {t : List Int} {r : Nat} (w : Wrl n ts L) (ht : t ∈ ts) (h : ∀ x ∈ L, Tog (LtB ts.length) ts cs L x (it t r x)) (hx : x ∈ L) (a : Nat) : Tog (LtB ts.length) ts cs L (it t (a % r) x) (it t a x) := by
  have e : it t a x = it t (a % r) (it t (r * (a / r)) x) := by rw [← it_add, Nat.div_add_mod]
  rw [e]
  exact it_tog ht (turn_mul w ht h hx _) _
/-- numbers that are alike by their rounds -/
theorem byC_mod (w : Wrl n ts L) : ∀ {ts' : List (List Int)} {rs ns ms : List Nat} {x : Int}, (∀ (k : Nat) (t : List Int) (r : Nat), ts'[k]? = some t → rs[k]? = some r → t ∈ ts ∧ ∀ x ∈ L, Tog (LtB ts.length) ts cs L x (it t r x)) → ts'.length = rs.length → ns.length = rs.length → ms.length = rs.length →
    (∀ k : Nat, ns.getD k 0 % rs.getD k 0 = ms.getD k 0 % rs.getD k 0) → x ∈ L → Tog (LtB ts.length) ts cs L (byC ts' ns x) (byC ts' ms x)
  | [], _, _, _, _, _, _, _, _, _, hx => .refl hx
  | t :: ts', r :: rs, a :: ns, b :: ms, x, h, h1, h2, h3, h4, hx => by
    obtain ⟨ht, hr⟩ := h 0 t r rfl rfl
    have m' : ∀ t ∈ ts', t ∈ ts := fun t ht => by
      obtain ⟨k, hk⟩ := List.getElem?_of_mem ht
      have lt := (List.getElem?_eq_some_iff.mp hk).1
      have l2 : k < rs.length := by
        have : ts'.length = rs.length := by simpa using h1
        omega
      exact (h (k + 1) t rs[k] hk (List.getElem?_eq_getElem l2)).1
    have e : a % r = b % r := h4 0
    have ab : Tog (LtB ts.length) ts cs L (it t a x) (it t b x) := by
      have := (it_modT w ht hr hx a).symm
      rw [e] at this
      exact this.trans (it_modT w ht hr hx b)
    exact (byC_tog (ns := ns) m' ab).trans (byC_mod w (fun k t r h5 h6 => h (k + 1) t r h5 h6) (by simpa using h1) (by simpa using h2) (by simpa using h3) (fun k => h4 (k + 1)) ((w.tab _ ht).2.2.it_in hx b))
  | _ :: _, [], _, _, _, _, h1, _, _, _, _ => by simp at h1
  | _ :: _, _ :: _, [], _, _, _, _, h2, _, _, _ => by simp at h2
  | _ :: _, _ :: _, _ :: _, [], _, _, _, _, h3, _, _ => by simp at h3
end
/-- what counters show of numbers -/
def shwL (rs es ns : List Int) : List Int := (List.range rs.length).map fun k => shw (rs.getD k 0) (es.getD k 0) (ns.getD k 0)
theorem shwL_len {rs es ns : List Int} : (shwL rs es ns).length = rs.length := by unfold shwL; rw [List.length_map, List.length_range]
theorem shwL_at {rs es ns : List Int} {k : Nat} (h : k < rs.length) : (shwL rs es ns)[k]? = some (shw (rs.getD k 0) (es.getD k 0) (ns.getD k 0)) := by
  unfold shwL
  rw [List.getElem?_map, List.getElem?_range h]
  rfl
theorem shw_nn {r e m : Int} (r0 : 0 ≤ r) (e0 : 0 ≤ e) (m0 : 0 ≤ m) : 0 ≤ shw r e m := by
  unfold shw
  split
  · exact m0
  · rename_i h
    have := Int.emod_nonneg (m - e) (fun z => h (.inl z))
    omega
theorem shw_mod {r e m : Int} : shw r e m % r = m % r := by
  unfold shw
  split
  · rfl
  · rw [Int.add_emod_emod]
    congr 1
    omega
theorem shown_tog {n : Nat} {ts : List (List Int)} {L rs es ns : List Int} {x : Int} (w : Wrl n ts L) (lr : rs.length = ts.length) (ln : ns.length = ts.length) (r0 : ∀ r ∈ rs, 0 ≤ r) (e0 : ∀ e ∈ es, 0 ≤ e) (n0 : ∀ m ∈ ns, 0 ≤ m) (hx : x ∈ L) :
    Tog (LtB ts.length) ts (natsOf rs) L (byC ts (natsOf ns) x) (byC ts (natsOf (shwL rs es ns)) x) := by
  have gd : ∀ {l : List Int} {k : Nat}, (∀ r ∈ l, 0 ≤ r) → 0 ≤ l.getD k 0 := fun {l k} h => by
    rw [List.getD_eq_getElem?_getD]
    cases z : l[k]? with
    | none => exact Int.le_refl _
    | some y => exact h y (List.mem_of_getElem? z)
  have gn : ∀ {l : List Int} {k : Nat}, (natsOf l).getD k 0 = (l.getD k 0).toNat := fun {l k} => by
    unfold natsOf
    rw [List.getD_eq_getElem?_getD, List.getElem?_map, List.getD_eq_getElem?_getD]
    cases l[k]? <;> rfl
  refine byC_mod w (rs := natsOf rs) (fun k t r ht hr => ?_) (by rw [nats_len, lr]) (by rw [nats_len, nats_len, ln, lr]) (by rw [nats_len, nats_len, shwL_len]) (fun k => ?_) hx
  · have lt := (List.getElem?_eq_some_iff.mp ht).1
    refine ⟨List.mem_of_getElem? ht, fun y hy => ?_⟩
    have := Tog.seed (Seed.turn (PR := LtB ts.length) (ts := ts) (cs := natsOf rs) (L := L) k y lt hy)
    rw [getD_of ht, List.getD_eq_getElem?_getD, hr] at this
    exact this
  · rw [gn, gn, gn]
    by_cases lt : k < rs.length
    · have e : (shwL rs es ns).getD k 0 = shw (rs.getD k 0) (es.getD k 0) (ns.getD k 0) := by
        rw [List.getD_eq_getElem?_getD, shwL_at lt]
        rfl
      rw [e, ← Int.toNat_emod (gd n0) (gd r0), ← Int.toNat_emod (shw_nn (gd r0) (gd e0) (gd n0)) (gd r0), shw_mod]
    · have e1 : (shwL rs es ns).getD k 0 = 0 := by
        rw [List.getD_eq_getElem?_getD, List.getElem?_eq_none (by rw [shwL_len]; omega)]
        rfl
      have e2 : ns.getD k 0 = 0 := by
        rw [List.getD_eq_getElem?_getD, List.getElem?_eq_none (by omega)]
        rfl
      rw [e1, e2]
end K7
/-! walks over state, standing and showing (pure) -/
namespace K7
open L2 PySem PySem.Spec PyProof.Rows Kx RZ
/-- state, standing, showing -/
abbrev Pnt := Int × Int × List Int
structure WkP where
  ts : List (List Int)
  ws : List (List Int)
  rs : List Int
  es : List Int
  s : Int
  y : Int
def WkP.nxt (W : WkP) (p : Pnt) (d : Nat) : Pnt := (tx (W.ts.getD d []) p.1, tx (W.ws.getD d []) p.2.1, p.2.2.set d (shw (W.rs.getD d 0) (W.es.getD d 0) (p.2.2.getD d 0 + 1)))
def WkP.p0 (W : WkP) : Pnt := (W.s, W.y, List.replicate W.ts.length 0)
/-- what rows lead to -/
inductive WkP.Pt (W : WkP) : Pnt → Prop
  | start : W.Pt W.p0
  | step (p : Pnt) (d : Nat) (hd : d < W.ts.length) (h : W.Pt p) : W.Pt (W.nxt p d)
theorem byC_zero : ∀ {ts : List (List Int)} {cs : List Nat} {s : Int}, (∀ c ∈ cs, c = 0) → byC ts cs s = s
  | [], _, _, _ => rfl
  | _ :: _, [], _, _ => rfl
  | t :: ts, c :: cs, s, h => by
    have c0 := h c (List.mem_cons_self ..)
    subst c0
    exact byC_zero (ts := ts) (cs := cs) fun c hc => h c (List.mem_cons_of_mem _ hc)
theorem getD_nn {l : List Int} {k : Nat} (h : ∀ r ∈ l, 0 ≤ r) : 0 ≤ l.getD k 0 := by
  rw [List.getD_eq_getElem?_getD]
  cases z : l[k]? with
  | none => exact Int.le_refl _
  | some y => exact h y (List.mem_of_getElem? z)
theorem getD_set {l : List Int} {d k : Nat} {v : Int} (hd : d < l.length) : (l.set d v).getD k 0 = if k = d then v else l.getD k 0 := by
  rw [List.getD_eq_getElem?_getD, List.getElem?_set]
  by_cases e : d = k
  · rw [if_pos e, if_pos (by omega), if_pos e.symm]
    rfl
  · rw [if_neg e, if_neg (Ne.symm e), List.getD_eq_getElem?_getD]
theorem nats_at {l : List Int} {k : Nat} : (natsOf l).getD k 0 = (l.getD k 0).toNat := by
  unfold natsOf
  rw [List.getD_eq_getElem?_getD, List.getElem?_map, List.getD_eq_getElem?_getD]
  cases l[k]? <;> rfl
theorem nats_set {l : List Int} {d : Nat} {v : Int} : natsOf (l.set d v) = (natsOf l).set d v.toNat := by
  unfold natsOf
  rw [List.map_set]
/-- what is told of a point -/
structure PtOk (ts : List (List Int)) (L rs : List Int) (s : Int) (p : Pnt) : Prop where
  x : p.1 ∈ L
  len : p.2.2.length = ts.length
  nn : ∀ v ∈ p.2.2, 0 ≤ v
  tog : Tog (LtB ts.length) ts (natsOf rs) L p.1 (byC ts (natsOf p.2.2) s)
theorem mem_set {l : List Int} {d : Nat} {v x : Int} (h : x ∈ l.set d v) : x = v ∨ x ∈ l := by
  rcases List.mem_or_eq_of_mem_set h with h | h
  · exact .inr h
  · exact .inl h
theorem pt_ok {n : Nat} {W : WkP} {L : List Int} (mc : Mch n W.ts W.s L) (lr : W.rs.length = W.ts.length) (r0 : ∀ r ∈ W.rs, 0 ≤ r) (e0 : ∀ e ∈ W.es, 0 ≤ e) {p : Pnt} (h : W.Pt p) : PtOk W.ts L W.rs W.s p := by
  have w := mc.wrl
  induction h with
  | start =>
    refine ⟨mc.sL, List.length_replicate, fun v hv => by rw [(List.mem_replicate.mp hv).2]; exact Int.le_refl _, ?_⟩
    show Tog _ _ _ _ W.s (byC W.ts (natsOf (List.replicate W.ts.length 0)) W.s)
    rw [byC_zero fun c hc => by
      unfold natsOf at hc
      obtain ⟨z, hz, rfl⟩ := List.mem_map.mp hc
      rw [(List.mem_replicate.mp hz).2]
      rfl]
    exact .refl mc.sL
  | step p d hd hp ih =>
    obtain ⟨hx, hl, hn, ht⟩ := ih
    obtain ⟨x, y, sh⟩ := p
    dsimp only at hx hl hn ht
    have td := getD_mem hd
    have nv : 0 ≤ shw (W.rs.getD d 0) (W.es.getD d 0) (sh.getD d 0 + 1) := shw_nn (getD_nn r0) (getD_nn e0) (by have := getD_nn (k := d) hn; omega)
    refine ⟨(w.exc hd).cl _ hx, by show (sh.set d _).length = _; rw [List.length_set]; exact hl, fun v hv => ?_, ?_⟩
    · rcases mem_set hv with e | hv
      · rw [e]; exact nv
      · exact hn v hv
    · show Tog _ _ _ _ (tx (W.ts.getD d []) x) (byC W.ts (natsOf (sh.set d (shw (W.rs.getD d 0) (W.es.getD d 0) (sh.getD d 0 + 1)))) W.s)
      have t1 := ht.step d hd
      have t2 := byC_add (ts := W.ts) (cs := natsOf W.rs) w (ns := natsOf sh) (x := W.s) (d := d) (m := 1) (fun _ h => h) (by rw [nats_len, hl]) hd mc.sL
      refine (t1.trans t2).trans (byC_mod w (rs := natsOf W.rs) (fun k t r ht hr => ?_) (by rw [nats_len, lr]) (by rw [List.length_set, nats_len, nats_len, hl, lr]) (by rw [nats_len, nats_len, List.length_set, hl, lr]) (fun k => ?_) mc.sL)
      · have lt := (List.getElem?_eq_some_iff.mp ht).1
        refine ⟨List.mem_of_getElem? ht, fun y hy => ?_⟩
        have := Tog.seed (Seed.turn (PR := LtB W.ts.length) (ts := W.ts) (cs := natsOf W.rs) (L := L) k y lt hy)
        rw [getD_of ht, List.getD_eq_getElem?_getD, hr] at this
        exact this
      · have e1 : (natsOf sh).set d ((natsOf sh).getD d 0 + 1) = natsOf (sh.set d (sh.getD d 0 + 1)) := by
          rw [nats_set, nats_at]
          congr 1
          have := getD_nn (k := d) hn
          omega
        rw [e1, nats_at, nats_at, nats_at]
        have dl : d < sh.length := by rw [hl]; exact hd
        rw [getD_set dl, getD_set dl]
        by_cases e : k = d
        · subst e
          rw [if_pos rfl, if_pos rfl]
          have a := getD_nn (k := k) hn
          rw [← Int.toNat_emod (by omega) (getD_nn r0), ← Int.toNat_emod nv (getD_nn r0), shw_mod]
        · rw [if_neg e, if_neg e]
/-- k deeds of kind d more, counted round -/
def addm (rs : List Int) (d k : Nat) (sh : List Int) : List Int := sh.set d ((sh.getD d 0 + (k : Int)) % rs.getD d 0)
section
variable {rs sh : List Int} {d e k j : Nat}
theorem addm_len : (addm rs d k sh).length = sh.length := List.length_set ..
theorem addm_add (hd : d < sh.length) : addm rs d k (addm rs d j sh) = addm rs d (j + k) sh := by
  unfold addm
  rw [getD_set hd, if_pos rfl, List.set_set, Int.emod_add_emod]
  congr 2
  omega
theorem addm_comm (hd : d < sh.length) (he : e < sh.length) (ne : d ≠ e) : addm rs d k (addm rs e j sh) = addm rs e j (addm rs d k sh) := by
  unfold addm
  rw [getD_set he, if_neg ne, getD_set hd, if_neg (Ne.symm ne), List.set_comm _ _ (Ne.symm ne)]
theorem set_self (hd : d < sh.length) : sh.set d (sh.getD d 0) = sh := by
  refine List.ext_getElem? fun i => ?_
  rw [List.getElem?_set]
  by_cases e : d = i
  · subst e
    rw [if_pos rfl, if_pos hd, List.getD_eq_getElem?_getD, List.getElem?_eq_getElem hd]
    rfl
  · rw [if_neg e]
theorem addm_mul (hd : d < sh.length) (h0 : 0 ≤ sh.getD d 0) (h1 : sh.getD d 0 < rs.getD d 0) (m : Nat) : addm rs d ((rs.getD d 0).toNat * m) sh = sh := by
  unfold addm
  have : sh.getD d 0 + (((rs.getD d 0).toNat * m : Nat) : Int) = sh.getD d 0 + rs.getD d 0 * (m : Int) := by
    rw [Int.natCast_mul, Int.toNat_of_nonneg (by omega)]
  rw [this, Int.add_mul_emod_self_left, Int.emod_eq_of_lt h0 h1, set_self hd]
end
/-- counters that go round, one standing -/
structure Rnd (n : Nat) (W : WkP) (L : List Int) : Prop where
  mc : Mch n W.ts W.s L
  lr : W.rs.length = W.ts.length
  r1 : ∀ r ∈ W.rs, 0 < r
  e0 : ∀ k, W.es.getD k 0 = 0
  ws : ∀ d, d < W.ts.length → W.ws.getD d [] = [0]
  y : W.y = 0
section
variable {n : Nat} {W : WkP} {L sh : List Int} {x u v : Int} {d : Nat}
theorem Rnd.rat (R : Rnd n W L) (hd : d < W.ts.length) : 0 < W.rs.getD d 0 := by
  rw [List.getD_eq_getElem?_getD, List.getElem?_eq_getElem (by rw [R.lr]; exact hd)]
  exact R.r1 _ (List.getElem_mem _)
theorem Rnd.r0 (R : Rnd n W L) : ∀ r ∈ W.rs, 0 ≤ r := fun r hr => Int.le_of_lt (R.r1 r hr)
theorem Rnd.nxt (R : Rnd n W L) (hd : d < W.ts.length) (hn : ∀ v ∈ sh, 0 ≤ v) : W.nxt (x, 0, sh) d = (tx (W.ts.getD d []) x, 0, addm W.rs d 1 sh) := by
  unfold WkP.nxt addm shw
  rw [R.ws d hd, R.e0]
  have a := getD_nn (k := d) hn
  have b := R.rat hd
  show (_, _, sh.set d (if W.rs.getD d 0 = 0 ∨ sh.getD d 0 + 1 < 0 then _ else _)) = _
  rw [if_neg (by omega), Int.zero_add, Int.sub_zero]
  rfl
/-- a point's standing and what its counters show -/
theorem Rnd.rng (R : Rnd n W L) {p : Pnt} (h : W.Pt p) : p.2.1 = 0 ∧ p.2.2.length = W.ts.length ∧ ∀ d, d < W.ts.length → 0 ≤ p.2.2.getD d 0 ∧ p.2.2.getD d 0 < W.rs.getD d 0 := by
  induction h with
  | start =>
    refine ⟨R.y, List.length_replicate, fun d hd => ?_⟩
    have := R.rat hd
    show 0 ≤ (List.replicate W.ts.length (0 : Int)).getD d 0 ∧ (List.replicate W.ts.length (0 : Int)).getD d 0 < _
    rw [List.getD_eq_getElem?_getD, List.getElem?_replicate, if_pos hd]
    exact ⟨Int.le_refl _, this⟩
  | step p d hd hp ih =>
    obtain ⟨x, y, sh⟩ := p
    obtain ⟨h1, h2, h3⟩ := ih
    dsimp only at h1 h2 h3
    subst h1
    have hn : ∀ v ∈ sh, 0 ≤ v := fun v hv => by
      obtain ⟨k, hk⟩ := List.getElem?_of_mem hv
      have lt := (List.getElem?_eq_some_iff.mp hk).1
      have := (h3 k (by omega)).1
      rwa [List.getD_eq_getElem?_getD, hk] at this
    rw [R.nxt hd hn]
    refine ⟨rfl, by rw [addm_len]; exact h2, fun k hk => ?_⟩
    show 0 ≤ (addm W.rs d 1 sh).getD k 0 ∧ (addm W.rs d 1 sh).getD k 0 < _
    unfold addm
    rw [getD_set (by omega)]
    have b := R.rat hd
    by_cases e : k = d
    · rw [if_pos e, e]
      exact ⟨Int.emod_nonneg _ (by omega), Int.emod_lt_of_pos _ b⟩
    · rw [if_neg e]
      exact h3 k hk
theorem Rnd.nn (R : Rnd n W L) {p : Pnt} (h : W.Pt p) : ∀ v ∈ p.2.2, 0 ≤ v := fun v hv => by
  obtain ⟨_, h2, h3⟩ := R.rng h
  obtain ⟨k, hk⟩ := List.getElem?_of_mem hv
  have lt := (List.getElem?_eq_some_iff.mp hk).1
  have := (h3 k (by omega)).1
  rwa [List.getD_eq_getElem?_getD, hk] at this
theorem Rnd.zero (R : Rnd n W L) (hd : d < W.ts.length) (h : W.Pt (x, 0, sh)) (m : Nat) : addm W.rs d ((W.rs.getD d 0).toNat * m) sh = sh := by
  obtain ⟨_, h2, h3⟩ := R.rng h
  exact addm_mul (by show d < sh.length; have : sh.length = W.ts.length := h2; omega) (h3 d hd).1 (h3 d hd).2 m
/-- going on -/
theorem Rnd.go (R : Rnd n W L) (hd : d < W.ts.length) (h : W.Pt (x, 0, sh)) : ∀ k, W.Pt (it (W.ts.getD d []) k x, 0, addm W.rs d k sh)
  | 0 => by
    have := R.zero hd h 0
    rw [Nat.mul_zero] at this
    rw [this]
    exact h
  | k + 1 => by
    have p := R.go hd h k
    have q := WkP.Pt.step _ d hd p
    rw [R.nxt hd (R.nn p)] at q
    have l : sh.length = W.ts.length := (R.rng h).2.1
    rw [addm_add (by omega)] at q
    exact q
theorem back840 {n : Nat} {ts : List (List Int)} {t : List Int} (w : Wrl n ts L) (ht : t ∈ ts) (hx : x ∈ L) (k : Nat) : it t (840 * k) x = x := by
  obtain ⟨c, c8, _, p⟩ := w.per ht hx
  have c1 := p.c1
  have : ∃ m, 840 = c * m := by
    have : c = 1 ∨ c = 2 ∨ c = 3 ∨ c = 4 ∨ c = 5 ∨ c = 6 ∨ c = 7 ∨ c = 8 := by omega
    rcases this with h | h | h | h | h | h | h | h <;> subst h
    · exact ⟨840, rfl⟩
    · exact ⟨420, rfl⟩
    · exact ⟨280, rfl⟩
    · exact ⟨210, rfl⟩
    · exact ⟨168, rfl⟩
    · exact ⟨140, rfl⟩
    · exact ⟨120, rfl⟩
    · exact ⟨105, rfl⟩
  obtain ⟨m, hm⟩ := this
  rw [hm, Nat.mul_assoc]
  exact it_mul p.back _
/-- a deed undone -/
theorem Rnd.undo (R : Rnd n W L) (hd : d < W.ts.length) (hx : x ∈ L) (h : W.Pt (tx (W.ts.getD d []) x, 0, sh)) : W.Pt (x, 0, addm W.rs d ((W.rs.getD d 0).toNat * 840 - 1) sh) := by
  have p := R.go hd h ((W.rs.getD d 0).toNat * 840 - 1)
  have b := R.rat hd
  have e : it (W.ts.getD d []) ((W.rs.getD d 0).toNat * 840 - 1) (tx (W.ts.getD d []) x) = x := by
    have := it_add (W.ts.getD d []) x 1 ((W.rs.getD d 0).toNat * 840 - 1)
    rw [show 1 + ((W.rs.getD d 0).toNat * 840 - 1) = 840 * (W.rs.getD d 0).toNat by omega, back840 R.mc.wrl (getD_mem hd) hx] at this
    exact this.symm
  rwa [e] at p
theorem Rnd.comm (R : Rnd n W L) {a b : Nat} (ne : a ≠ b) (ha : a < W.ts.length) (hb : b < W.ts.length) (hx : x ∈ L) (h : W.Pt (tx (W.ts.getD b []) (tx (W.ts.getD a []) x), 0, sh)) : W.Pt (tx (W.ts.getD a []) (tx (W.ts.getD b []) x), 0, sh) := by
  have w := R.mc.wrl
  have l : sh.length = W.ts.length := (R.rng h).2.1
  have p1 := R.undo hb ((w.exc ha).cl x hx) h
  have p2 := R.undo ha hx p1
  have p3 := R.go hb p2 1
  have p4 := R.go ha p3 1
  have ra := R.rat ha
  have rb := R.rat hb
  generalize hA : (W.rs.getD a 0).toNat * 840 = A at p1 p2 p3 p4
  generalize hB : (W.rs.getD b 0).toNat * 840 = B at p1 p2 p3 p4
  have e1 : addm W.rs a 1 (addm W.rs b 1 (addm W.rs a (A - 1) (addm W.rs b (B - 1) sh))) = sh := by
    rw [addm_comm (d := b) (e := a) (by rw [addm_len]; omega) (by rw [addm_len]; omega) (Ne.symm ne), addm_add (by simp only [addm_len]; omega), addm_add (by omega)]
    rw [show B - 1 + 1 = B by omega, show A - 1 + 1 = A by omega, ← hB, R.zero hb h, ← hA, R.zero ha h]
  rw [e1] at p4
  exact p4
/-- what must be one is open together -/
theorem Rnd.tog (R : Rnd n W L) (t : Tog (LtB W.ts.length) W.ts (natsOf W.rs) L u v) : ∀ sh, W.Pt (u, 0, sh) ↔ W.Pt (v, 0, sh) := by
  have w := R.mc.wrl
  induction t with
  | seed s =>
    cases s with
    | comm a b x pr ha hb hx => exact fun sh => ⟨R.comm (Nat.ne_of_lt pr.1) ha hb hx, R.comm (Ne.symm (Nat.ne_of_lt pr.1)) hb ha hx⟩
    | turn d x hd hx =>
      rename_i uu
      intro sh
      rw [nats_at]
      have rd := R.rat hd
      refine ⟨fun h => ?_, fun h => ?_⟩
      · have p := R.go hd h ((W.rs.getD d 0).toNat * 1)
        rw [R.zero hd h, Nat.mul_one] at p
        exact p
      · have p := R.go hd h ((W.rs.getD d 0).toNat * 839)
        rw [R.zero hd h] at p
        rw [← it_add, show (W.rs.getD d 0).toNat + (W.rs.getD d 0).toNat * 839 = 840 * (W.rs.getD d 0).toNat by omega, back840 w (getD_mem hd) hx] at p
        exact p
  | refl _ => exact fun sh => Iff.rfl
  | symm _ ih => exact fun sh => (ih sh).symm
  | trans _ _ i1 i2 => exact fun sh => (i1 sh).trans (i2 sh)
  | step d hd t ih =>
    obtain ⟨hu, hv⟩ := t.inL w
    have half : ∀ {u v : Int}, u ∈ L → (∀ sh, W.Pt (u, 0, sh) ↔ W.Pt (v, 0, sh)) → ∀ sh, W.Pt (tx (W.ts.getD d []) u, 0, sh) → W.Pt (tx (W.ts.getD d []) v, 0, sh) := fun {u v} hu i sh h => by
      have l : sh.length = W.ts.length := (R.rng h).2.1
      have p := R.go hd ((i _).mp (R.undo hd hu h)) 1
      have rd := R.rat hd
      rw [addm_add (by omega), show (W.rs.getD d 0).toNat * 840 - 1 + 1 = (W.rs.getD d 0).toNat * 840 by omega, R.zero hd h] at p
      exact p
    exact fun sh => ⟨half hu ih sh, half hv (fun sh => (ih sh).symm) sh⟩
/-- the states that a showing leaves open are a class -/
theorem Rnd.open_ (R : Rnd n W L) (h : W.Pt (x, 0, sh)) : x ∈ L ∧ ∀ v, W.Pt (v, 0, sh) ↔ v ∈ L ∧ Tog (LtB W.ts.length) W.ts (natsOf W.rs) L v x := by
  have e0 : ∀ e ∈ W.es, 0 ≤ e := fun e he => by
    obtain ⟨k, hk⟩ := List.getElem?_of_mem he
    have := R.e0 k
    rw [List.getD_eq_getElem?_getD, hk] at this
    rw [show e = 0 from this]
    exact Int.le_refl _
  have o := pt_ok R.mc R.lr R.r0 e0 h
  refine ⟨o.x, fun v => ⟨fun hv => ?_, fun ⟨hv, t⟩ => (R.tog t sh).mpr h⟩⟩
  have ov := pt_ok R.mc R.lr R.r0 e0 hv
  exact ⟨ov.x, ov.tog.trans o.tog.symm⟩
/-- each state is open somewhere -/
theorem Rnd.some_ (R : Rnd n W L) (hx : x ∈ L) : ∃ sh, W.Pt (x, 0, sh) := by
  obtain ⟨row, h1, e⟩ := (R.mc.mem x).mp hx
  classical
  have st : W.Pt (W.s, 0, List.replicate W.ts.length 0) := by
    have := WkP.Pt.start (W := W)
    unfold WkP.p0 at this
    rwa [R.y] at this
  have := closed_all (ts := W.ts) (F := L.filter fun x => decide (∃ sh, W.Pt (x, 0, sh))) (fun y hy d hd => ?_) (row := row) (s := W.s) (List.mem_filter.mpr ⟨R.mc.sL, decide_eq_true ⟨_, st⟩⟩) h1
  · rw [← e] at this
    exact of_decide_eq_true (List.mem_filter.mp this).2
  · obtain ⟨yL, yp⟩ := List.mem_filter.mp hy
    obtain ⟨sh, hs⟩ := of_decide_eq_true yp
    refine List.mem_filter.mpr ⟨(R.mc.wrl.exc hd).cl y yL, decide_eq_true ⟨_, R.go hd hs 1⟩⟩
end
end K7
/-! a walk, point by point (pure) -/
namespace K7
open L2 PySem PySem.Spec PyProof.Rows Kx RZ
/-- tables, counters of a walk -/
structure WkOk (n m : Nat) (W : WkP) : Prop where
  okT : Mok n W.ts
  s0 : 0 ≤ W.s
  s1 : W.s < (n : Int)
  lw : W.ws.length = W.ts.length
  wl : ∀ t ∈ W.ws, t.length = m ∧ InR t
  y0 : 0 ≤ W.y
  y1 : W.y < (m : Int)
  lr : W.rs.length = W.ts.length
  le : W.es.length = W.ts.length
  r0 : ∀ r ∈ W.rs, 0 ≤ r
  e0 : ∀ e ∈ W.es, 0 ≤ e
structure PtR (n m k : Nat) (p : Pnt) : Prop where
  x0 : 0 ≤ p.1
  x1 : p.1 < (n : Int)
  y0 : 0 ≤ p.2.1
  y1 : p.2.1 < (m : Int)
  len : p.2.2.length = k
theorem WkOk.nxt {n m : Nat} {W : WkP} (ok : WkOk n m W) {p : Pnt} (h : PtR n m W.ts.length p) {d : Nat} (hd : d < W.ts.length) : PtR n m W.ts.length (W.nxt p d) := by
  obtain ⟨h1, h2, h3, h4, h5⟩ := h
  have hd' : d < W.ws.length := by rw [ok.lw]; exact hd
  obtain ⟨l1, r1⟩ := Mok.inr ok.okT (getD_mem hd)
  obtain ⟨l2, r2⟩ := ok.wl _ (getD_mem hd')
  have a := (r1.at_ h1 (by rw [l1]; exact h2)).2
  have b := (r2.at_ h3 (by rw [l2]; exact h4)).2
  exact ⟨a.1, by rw [l1] at a; exact a.2, b.1, by rw [l2] at b; exact b.2, by show (p.2.2.set d _).length = _; rw [List.length_set]; exact h5⟩
theorem WkOk.pt {n m : Nat} {W : WkP} (ok : WkOk n m W) {p : Pnt} (h : W.Pt p) : PtR n m W.ts.length p := by
  induction h with
  | start => exact ⟨ok.s0, ok.s1, ok.y0, ok.y1, List.length_replicate⟩
  | step p d hd _ ih => exact ok.nxt ih hd
/-- t points are gone on from, and the next one by d deeds -/
structure Wi (W : WkP) (hs : List Pnt) (t d : Nat) : Prop where
  nd : hs.Nodup
  p0 : hs[0]? = some W.p0
  pt : ∀ p ∈ hs, W.Pt p
  tl : t ≤ hs.length
  clo : ∀ i p, i < t → hs[i]? = some p → ∀ e, e < W.ts.length → W.nxt p e ∈ hs
  next : ∀ p, hs[t]? = some p → ∀ e, e < d → e < W.ts.length → W.nxt p e ∈ hs
  len : hs.length ≤ 1 + 4 * t + d
section
variable {W : WkP} {hs : List Pnt} {t d : Nat} {p : Pnt}
theorem Wi.init : Wi W [W.p0] 0 0 := ⟨by simp, rfl, fun p hp => by rw [List.mem_singleton.mp hp]; exact .start, Nat.zero_le _, fun _ _ h => absurd h (Nat.not_lt_zero _), fun _ _ _ h => absurd h (Nat.not_lt_zero _), Nat.le_refl _⟩
theorem Wi.skip (h : Wi W hs t d) (hp : hs[t]? = some p) (m : W.nxt p d ∈ hs) : Wi W hs t (d + 1) := by
  refine ⟨h.nd, h.p0, h.pt, h.tl, h.clo, fun q hq e he hk => ?_, by have := h.len; omega⟩
  by_cases z : e = d
  · rw [hp] at hq
    rw [z, ← Option.some.inj hq]
    exact m
  · exact h.next q hq e (by omega) hk
theorem Wi.more (h : Wi W hs t d) (hp : hs[t]? = some p) (hd : d < W.ts.length) (no : W.nxt p d ∉ hs) : Wi W (hs ++ [W.nxt p d]) t (d + 1) := by
  have lt := (List.getElem?_eq_some_iff.mp hp).1
  have at_ : ∀ {i : Nat} {q : Pnt}, i ≤ t → (hs ++ [W.nxt p d])[i]? = some q → hs[i]? = some q := fun {i q} hi hq => by
    rwa [List.getElem?_append_left (by omega)] at hq
  refine ⟨List.nodup_append.mpr ⟨h.nd, by simp, fun a ha b hb e => no (by rw [← List.mem_singleton.mp hb, ← e]; exact ha)⟩, by rw [List.getElem?_append_left (by omega)]; exact h.p0, fun q hq => ?_, by rw [List.length_append]; have := h.tl; omega, fun i q hi hq e he => List.mem_append_left _ (h.clo i q hi (at_ (by omega) hq) e he), fun q hq e he hk => ?_, by rw [List.length_append, List.length_singleton]; have := h.len; omega⟩
  · rcases List.mem_append.mp hq with hq | hq
    · exact h.pt q hq
    · rw [List.mem_singleton.mp hq]
      exact .step p d hd (h.pt p (List.mem_of_getElem? hp))
  · have hq' := at_ (Nat.le_refl _) hq
    by_cases z : e = d
    · rw [hp] at hq'
      rw [z, ← Option.some.inj hq']
      exact List.mem_append_right _ (List.mem_singleton.mpr rfl)
    · exact List.mem_append_left _ (h.next q hq' e (by omega) hk)
theorem Wi.on (h : Wi W hs t W.ts.length) (hp : hs[t]? = some p) (l4 : W.ts.length ≤ 4) : Wi W hs (t + 1) 0 := by
  have lt := (List.getElem?_eq_some_iff.mp hp).1
  refine ⟨h.nd, h.p0, h.pt, lt, fun i q hi hq e he => ?_, fun _ _ e h => absurd h (Nat.not_lt_zero _), by have := h.len; omega⟩
  by_cases z : i = t
  · rw [z] at hq
    exact h.next q hq e he he
  · exact h.clo i q (by omega) hq e he
theorem Wi.all (h : Wi W hs hs.length 0) : ∀ p, W.Pt p ↔ p ∈ hs := fun p => by
  refine ⟨fun hp => ?_, h.pt p⟩
  induction hp with
  | start => exact List.mem_of_getElem? h.p0
  | step p d hd _ ih =>
    obtain ⟨i, hi⟩ := List.getElem?_of_mem ih
    exact h.clo i p (List.getElem?_eq_some_iff.mp hi).1 hi d hd
end
end K7
/-! t.index(x): a tuple of flat values -/
namespace Kx
open L2 PySem PySem.Spec PyProof.Rows
theorem mt_tup_indexF {X : Cx} {K : PySem.W.Frag} (hK : X.K = K := by rfl) : MtR X "tuple.index" (fun x xs H Q => ∃ (a : Addr) (ys : List V) (y : V) (j : Nat) (z : V), x = V.ref a ∧ xs = [y] ∧ SqT K H a ys ∧ flatV y = true ∧ ys.all flatV = true ∧ ys[j]? = some z ∧ eqV z y = true ∧ (∀ (m : Nat) (z' : V), m < j → ys[m]? = some z' → eqV z' y = false) ∧ Q (.int (j : Nat)) H) := by
  subst hK
  intro pins s σ H x xs v us Q I rx rxs h
  obtain ⟨a, ys, y, j, z, rfl, rfl, hs, fy, fys, hz, hzj, hno, q⟩ := h
  cases rx
  cases rxs with
  | cons ry rt =>
    rename_i uy ut
    cases rt
    obtain ⟨its, rv, pl, hlen⟩ := I.tuple hs
    obtain ⟨⟨cls, dd, data, sl⟩, ho, hc, n, hd⟩ := pl
    simp only at hc hd
    subst hc hd
    obtain ⟨u, hu, ru⟩ := rv.get hz
    obtain ⟨hjl, hje⟩ := List.getElem?_eq_some_iff.mp hu
    have hvl := rv.length
    have hj : j < its.toArray.size := by simpa using hjl
    refine call_meets PySem.F.slot_tuple_index ⟨_, ho, rfl⟩ PySem.F.entry_tuple_index (PySem.F.args_tuple_index_2 _ _)
      (TI.tuple_indexAt a its.toArray n dd sl uy (eqU y) j hj ?_ ?_) ⟨ho, fun u' hu' => mem_eqAt ry fy rv fys u' (by simpa using hu'), ⟨.int (j : Nat), H, I.tok _, ⟨_, rfl⟩, q⟩⟩
    · have e1 : its.toArray[j] = u := by simpa using hje
      rw [e1, eqU_of ru (flat_at fys hz)]
      exact hzj
    · intro m hm hmj
      have hml : m < its.length := by simpa using hm
      have hmy : m < ys.length := by omega
      have hy' : ys[m]? = some ys[m] := List.getElem?_eq_getElem hmy
      obtain ⟨u2, hu2, ru2⟩ := rv.get hy'
      obtain ⟨_, hme⟩ := List.getElem?_eq_some_iff.mp hu2
      have e1 : its.toArray[m] = u2 := by simpa using hme
      rw [e1, eqU_of ru2 (flat_at fys hy')]
      exact hno m _ hmj hy'
end Kx
/-! sum(ts, ()): tuples of whole numbers -/
namespace PySem
open Sem (wp)
def accT (rows : Nat → List Value) (i : Nat) : List Value := (List.range i).flatMap rows
theorem accT_succ {rows : Nat → List Value} {i : Nat} : accT rows (i + 1) = accT rows i ++ rows i := by
  unfold accT
  rw [List.range_succ, List.flatMap_append]
  simp
theorem accT_len {rows : Nat → List Value} : ∀ {i n : Nat}, i ≤ n → (accT rows i).length ≤ (accT rows n).length
  | i, 0, h => by rw [Nat.le_zero.mp h]; exact Nat.le_refl _
  | i, n + 1, h => by
    rcases Nat.lt_or_ge i (n + 1) with lt | ge
    · rw [accT_succ, List.length_append]
      have := accT_len (rows := rows) (Nat.le_of_lt_succ lt)
      omega
    · rw [Nat.le_antisymm h ge]
      exact Nat.le_refl _
section
variable {prog : Program} {w : World} {A : Around} {R : Result → Shared → Prop}
theorem isTup_kept {h h' : Heap} {a : Addr} {its : Array Value} (k : ∀ o, h.get? a = some o → h'.get? a = some o) (x : h.IsTuple a its) : h'.IsTuple a its := by
  obtain ⟨o, ho, r⟩ := x
  exact ⟨o, k o ho, r⟩
/-- t + u of any two -/
theorem add_tups {E : Value → Shared → Prop} {s : Shared} {t b : Addr} {vs ws : List Value} {Q : Value → Shared → Prop} (ht : s.heap.IsTuple t vs.toArray) (hb : s.heap.IsTuple b ws.toArray) (hsz : vs.length + ws.length ≤ sizeLine)
    (h : ∀ r h', (∀ c o, s.heap.get? c = some o → h'.get? c = some o) → h'.IsTuple r (vs ++ ws).toArray → ((r = t ∧ ws = []) ∨ (r = b ∧ vs = []) ∨ s.heap.objs.size ≤ r) → Q (.ref r) { s with heap := h' }) : wpAny (model prog w) A (binaryOp .Add (.ref t) (.ref b)) Q E s := by
  by_cases e : vs = []
  · subst e
    exact L2.cat_tup0 ht hb (h b s.heap (fun _ _ q => q) (by simpa using hb) (.inr (.inl ⟨rfl, rfl⟩)))
  · refine HT.cat_tup ht hb e (fun z => ?_) (fun z => ?_) hsz
    · subst z
      exact h t s.heap (fun _ _ q => q) (by simpa using ht) (.inl ⟨rfl, rfl⟩)
    · exact h _ _ (fun _ _ q => Heap.get?_push_of_some _ q) ⟨_, Heap.get?_push_size _ rfl, rfl, 0, rfl⟩ (.inr (.inr (Nat.le_refl _)))
theorem sum_loop_tups {I ax S : Addr} {items : Array Value} {h0 : Heap} (hh : A.in1.handled = none) (hne : ax ≠ I) (rows : Nat → List Value) (Good : Addr → List Value → Prop)
    (hrow : ∀ i v, items[i]? = some v → ∃ b, v = .ref b ∧ h0.IsTuple b (rows i).toArray ∧ Good b (rows i)) (bigI : h0.objs.size ≤ I) (bigS : h0.objs.size ≤ S) (SI : S ≠ I) (Sax : S ≠ ax) (len : (accT rows items.size).length ≤ sizeLine) :
    ∀ (k i : Nat) (s : Shared) (t : Addr) (c : Nat), items.size - i = k → i ≤ items.size → (s.heap.IsTupleIter I ax i ∧ s.heap.IsTuple ax items) → s.heap.get? S = some { cls := .type "list", dict := none, data := .seq #[.ref t] c, slots := #[] } →
      s.heap.IsTuple t (accT rows i).toArray → (Good t (accT rows i) ∨ h0.objs.size ≤ t) → (∀ b o, h0.get? b = some o → s.heap.get? b = some o) →
      (∀ h' tk t', (∀ b o, h0.get? b = some o → h'.get? b = some o) → h'.IsTuple t' (accT rows items.size).toArray → (Good t' (accT rows items.size) ∨ h0.objs.size ≤ t') → R (.ok (.ret (.ref t'))) { s with heap := h', toks := tk }) →
      codeAny (model prog w) A (.builtin "sum.loop" ⟨[.ref I, .ref S, rawInt 2, rawInt 0], []⟩) R s := by
  have W := Walks.tuple (prog := prog) (w := w) hh I ax hne items
  intro k
  induction k with
  | zero =>
    intro i s t c hk hi hst hS ht good keep hR
    have hin : i = items.size := by omega
    subst hin
    refine codeAny_builtin F.entry_sum_loop ?_
    rw [Around.under_plainId F.plain_sum_loop _]
    show wpAny _ A.in1 (seqItems? (.ref S) >>= _) _ _ s
    refine wpAny_bind (wpAny_seqItems hS rfl ?_)
    show wpAny _ A.in1 (tryCatch (pyNext (.ref I)) _ >>= _) _ _ s
    refine wpAny_bind (wpAny_tryCatch (W.done s _ _ hst fun h' tk hm => ?_))
    refine wpAny_pure (hR h' tk t (fun b o e => hm b o (fun hb => ?_) (keep b o e)) (isTup_kept (fun o e => hm t o (fun hb => ?_) e) ht) good)
    · have hb := List.mem_singleton.mp hb
      have := Heap.lt_size e
      rw [hb] at this
      exact absurd (Nat.lt_of_lt_of_le this bigI) (Nat.lt_irrefl _)
    · have hb := List.mem_singleton.mp hb
      subst hb
      obtain ⟨o1, h1, c1, _⟩ := hst.1
      obtain ⟨o2, h2, c2, _⟩ := ht
      rw [h1] at h2
      cases h2
      rw [c1] at c2
      exact absurd c2 (by decide)
  | succ k ih =>
    intro i s t c hk hi hst hS ht good keep hR
    have hlt : i < items.size := by omega
    refine codeAny_builtin F.entry_sum_loop ?_
    rw [Around.under_plainId F.plain_sum_loop _]
    show wpAny _ A.in1 (seqItems? (.ref S) >>= _) _ _ s
    refine wpAny_bind (wpAny_seqItems hS rfl ?_)
    show wpAny _ A.in1 (tryCatch (pyNext (.ref I)) _ >>= _) _ _ s
    refine wpAny_bind (wpAny_tryCatch (W.item i s _ _ hlt hst fun v h1 tk1 hP hst1 hm => ?_))
    obtain ⟨b, rfl, hb0, gb⟩ := hrow i v hP
    have tI : t ∉ [I] := fun hb => by
      have hb := List.mem_singleton.mp hb
      subst hb
      obtain ⟨o1, h1, c1, _⟩ := hst.1
      obtain ⟨o2, h2, c2, _⟩ := ht
      rw [h1] at h2
      cases h2
      rw [c1] at c2
      exact absurd c2 (by decide)
    have keep1 : ∀ b o, h0.get? b = some o → h1.get? b = some o := fun b o e => hm b o (fun hb => by
      have hb := List.mem_singleton.mp hb
      have := Heap.lt_size e
      rw [hb] at this
      exact absurd (Nat.lt_of_lt_of_le this bigI) (Nat.lt_irrefl _)) (keep b o e)
    have ht1 := isTup_kept (fun o e => hm t o tI e) ht
    have hb1 := isTup_kept (fun o e => keep1 b o e) hb0
    have hS1 := hm S _ (fun hb => SI (List.mem_singleton.mp hb)) hS
    have la := accT_len (rows := rows) (show i + 1 ≤ items.size from hlt)
    rw [accT_succ, List.length_append] at la
    show wpAny _ A.in1 ((holding [Value.ref b] (binaryOp .Add (.ref t) (.ref b))).attempt >>= _) _ _ _
    refine wpAny_bind (wpAny_attempt (wpAny_holding (add_tups ht1 hb1 (by omega) fun r h2 k2 hr cas => ?_)))
    have hS2 := k2 _ _ hS1
    show wpAny _ A.in1 (updateSeq S (fun _ => #[.ref r]) >>= _) _ _ _
    refine wpAny_bind (wpAny_updateSeq hS2 rfl ?_)
    have hS3 := Heap.get?_update_self (Obj.mapSeq fun _ => #[Value.ref r]) hS2 rfl
    refine wpAny_bind (wpAny_letGo ?_)
    have up : ∀ {a : Addr} {o : Obj}, a ≠ S → h2.get? a = some o → ((h2.update S (Obj.mapSeq fun _ => #[Value.ref r])).update S (Obj.mapSeq fun _ => #[Value.ref r])).get? a = some o := fun ne e => (Heap.get?_update_other _ _ (Ne.symm ne)).trans ((Heap.get?_update_other _ _ (Ne.symm ne)).trans e)
    have rS : r ≠ S := fun z => by
      subst z
      obtain ⟨o2, h2', c2, _⟩ := hr
      rw [hS2] at h2'
      cases h2'
      have c3 : Value.type "list" = Value.type "tuple" := c2
      exact absurd c3 (by decide)
    have IS : I ≠ S := Ne.symm SI
    refine wpAny_bind (wpAny_updateSeq hS3 rfl (wpAny_pure ⟨plainId_quiet F.plain_sum_loop _, ih (i + 1) _ r _ (by omega) hlt ⟨?_, ?_⟩ (Heap.get?_update_self _ hS3 rfl) ?_ ?_ (fun b o e => up (fun z => ?_) (k2 _ _ (keep1 b o e))) fun h' tk t' e1 e2 e3 => hR h' tk t' e1 e2 e3⟩))
    · obtain ⟨o, ho, q⟩ := hst1.1
      exact ⟨o, up IS (k2 _ _ ho), q⟩
    · exact isTup_kept (fun o e => up (Ne.symm Sax) (k2 _ _ e)) hst1.2
    · rw [accT_succ]
      exact isTup_kept (fun o e => up rS e) hr
    · rcases cas with ⟨rfl, e⟩ | ⟨rfl, e⟩ | ge
      · rw [accT_succ, e, List.append_nil]
        exact good
      · rw [accT_succ, e, List.nil_append]
        exact .inl gb
      · refine .inr (Nat.le_trans ?_ ge)
        exact Nat.le_of_lt (Nat.lt_of_le_of_lt bigS (Heap.lt_size hS1))
    · have := Heap.lt_size e
      rw [z] at this
      exact absurd (Nat.lt_of_lt_of_le this bigS) (Nat.lt_irrefl _)
end

section
variable {prog : Program} {w : World} {A : Around} {E : Value → Shared → Prop} {s : Shared}
theorem args_sum2 (a b : Value) : argsOk "sum" ⟨[a, b], []⟩ := by unfold argsOk; kernel_rfl
theorem sum_tups {a t0 : Addr} {items : Array Value} {Q : Value → Shared → Prop} (hh : A.handled = none) (ha : s.heap.IsTuple a items) (ht : s.heap.IsTuple t0 ([] : List Value).toArray) (rows : Nat → List Value) (Good : Addr → List Value → Prop)
    (hrow : ∀ i v, items[i]? = some v → ∃ b, v = .ref b ∧ s.heap.IsTuple b (rows i).toArray ∧ Good b (rows i)) (g0 : Good t0 []) (len : (accT rows items.size).length ≤ sizeLine)
    (h : ∀ h' tk t', (∀ b o, s.heap.get? b = some o → h'.get? b = some o) → h'.IsTuple t' (accT rows items.size).toArray → (Good t' (accT rows items.size) ∨ s.heap.objs.size ≤ t') → Q (.ref t') { s with heap := h', toks := tk }) :
    wpAny (model prog w) A (call (.builtin "sum") [.ref a, .ref t0]) Q E s := by
  refine call_function_tree F.kind_sum F.plain_sum F.entry_sum (args_sum2 _ _) ?_
  unfold Builtin.«sum»
  simp only [List.length_cons, List.length_nil]
  rw [if_neg (by decide)]
  refine wpAny_bind (wpAny_of_eq (show Builtin.Builtins.bindParams "sum" ["start"] 0 ⟨[.ref t0], []⟩ = pure [some (.ref t0)] from rfl) ?_)
  refine wpAny_bind (wpAny_pyIter_tuple ha ?_)
  refine wpAny_bind (wpAny_pure ?_)
  simp only [List.forIn_cons, List.forIn_nil]
  have hT : Shared.TypeIs { s with heap := s.heap.push { cls := .type "tuple_iterator", data := .fields #[.ref a, .int 0 0] } } (.ref t0) "tuple" := by
    obtain ⟨o, ho, hc, _⟩ := ht
    exact ⟨o, Heap.get?_push_of_some _ ho, hc⟩
  refine wpAny_bind (wpAny_bind (wpAny_bind (wpAny_isInstance (T := "tuple") (b := false) hT F.sub_tuple_str ?_)))
  simp only [Bool.false_eq_true, if_false]
  refine wpAny_pure (wpAny_bind (wpAny_bind (wpAny_isInstance (T := "tuple") (b := false) hT F.sub_tuple_bytes ?_)))
  simp only [Bool.false_eq_true, if_false]
  refine wpAny_pure (wpAny_bind (wpAny_bind (wpAny_isInstance (T := "tuple") (b := false) hT F.sub_tuple_bytearray ?_)))
  simp only [Bool.false_eq_true, if_false]
  refine wpAny_pure (wpAny_pure ?_)
  refine wpAny_bind (wpAny_newObj_type ?_)
  have lta : a < s.heap.objs.size := by
    obtain ⟨o, ho, _⟩ := ha
    exact Heap.lt_size ho
  have z1 : (s.heap.push { cls := .type "tuple_iterator", data := .fields #[.ref a, .int 0 0] }).objs.size = s.heap.objs.size + 1 := Heap.size_push ..
  have kp : ∀ {o1 o2 : Obj} b o, s.heap.get? b = some o → ((s.heap.push o1).push o2).get? b = some o := fun b o e => Heap.get?_push_of_some _ (Heap.get?_push_of_some _ e)
  refine wpAny_pure ⟨plainId_quiet F.plain_sum_loop _, sum_loop_tups (by simp [hh]) (Nat.ne_of_lt lta) rows Good hrow (Nat.le_refl _) (by rw [z1]; exact Nat.le_succ _) (by rw [z1]; exact Nat.ne_of_gt (Nat.lt_succ_self _)) (by rw [z1]; exact Nat.ne_of_gt (Nat.lt_succ_of_lt lta)) len items.size 0 _ t0 0 rfl (Nat.zero_le _) ⟨⟨_, Heap.get?_push_of_some _ (Heap.get?_push_size _ rfl), rfl, rfl⟩, isTup_kept (fun o e => kp _ o e) ha⟩ (Heap.get?_push_size _ rfl) (isTup_kept (fun o e => kp _ o e) ht) (.inl g0) (fun b o e => kp b o e) fun h' tk t' e1 e2 e3 => ?_⟩
  exact h h' tk t' e1 e2 e3
end
end PySem
/-! sum(ts, ()): the rule -/
namespace Kx
open L2 PySem PySem.Spec PyProof.Rows
theorem vals_ints_inj : ∀ {xs ys : List Int} {us : List Value}, Vals (xs.map V.int) us → Vals (ys.map V.int) us → xs = ys
  | [], [], _, _, _ => rfl
  | x :: xs, y :: ys, _, .cons r1 t1, .cons r2 t2 => by
    obtain ⟨k1, rfl⟩ := r1
    obtain ⟨k2, e⟩ := r2
    cases e
    rw [vals_ints_inj t1 t2]
  | [], _ :: _, _, h1, h2 => by cases h1; cases h2
  | _ :: _, [], _, h1, h2 => by cases h2; cases h1
def rSumT (K : PySem.W.Frag) : List V → Hp → VK → Prop := fun vs H Q => ∃ (a t0 : Addr) (ps : List V) (rs : List (List Int)), vs = [V.ref a, V.ref t0] ∧ SqT K H a ps ∧ SqT K H t0 [] ∧ ps.length = rs.length ∧
  (∀ (i : Nat) (row : List Int), rs[i]? = some row → ∃ q, ps[i]? = some (V.ref q) ∧ SqT K H q (row.map V.int)) ∧ rs.flatten.length ≤ sizeLine ∧ ∀ r H', Same H H' → SqT K H' r (rs.flatten.map V.int) → Q (.ref r) H'
theorem cr_sumT {X : Cx} {K : PySem.W.Frag} (hc : X.calm = true) (hK : X.K = K := by rfl) : CallR X (.builtin "sum") (rSumT K) := by
  subst hK
  intro pins s σ H vs us Q I r h
  obtain ⟨a, t0, ps, rs, rfl, ha, h0, lp, row, ll, q⟩ := h
  cases r with
  | cons r1 rt =>
    cases rt with
    | cons r2 rt =>
      cases rt
      cases r1
      cases r2
      obtain ⟨its, rv, pa, _⟩ := I.tuple ha
      obtain ⟨e0, re0, p0, _⟩ := I.tuple h0
      cases re0
      have ex : ∀ i : Nat, ∃ us : List Value, ∀ row : List Int, rs[i]? = some row → ∃ q, ps[i]? = some (V.ref q) ∧ SqT X.K H q (row.map V.int) ∧ Vals (row.map V.int) us ∧ s.heap.IsTuple q us.toArray := fun i => by
        cases z : rs[i]? with
        | none => exact ⟨[], fun row e => by cases e⟩
        | some rw_ =>
          obtain ⟨q, hq, hs⟩ := row i rw_ z
          obtain ⟨us, ru, pu, _⟩ := I.tuple hs
          exact ⟨us, fun row e => by cases e; exact ⟨q, hq, hs, ru, pu⟩⟩
      let rowsV : Nat → List Value := fun i => (ex i).choose
      have hv : ∀ (i : Nat) (row : List Int), rs[i]? = some row → ∃ q, ps[i]? = some (V.ref q) ∧ SqT X.K H q (row.map V.int) ∧ Vals (row.map V.int) (rowsV i) ∧ s.heap.IsTuple q (rowsV i).toArray := fun i => (ex i).choose_spec
      have li : its.length = rs.length := by rw [← lp, rv.length]
      have acc : ∀ n, n ≤ rs.length → Vals (((rs.take n).flatten).map V.int) (accT rowsV n) := fun n => by
        induction n with
        | zero =>
          intro _
          rw [List.take_zero]
          exact .nil
        | succ n ih =>
          intro hn
          have hlt : n < rs.length := hn
          obtain ⟨_, _, _, v, _⟩ := hv n _ (List.getElem?_eq_getElem hlt)
          rw [accT_succ, List.take_add_one, List.getElem?_eq_getElem hlt, List.flatten_append, List.map_append]
          refine (ih (Nat.le_of_lt hlt)).append ?_
          simpa using v
      have accE := acc rs.length (Nat.le_refl _)
      rw [List.take_length] at accE
      have sz : its.toArray.size = rs.length := by rw [List.size_toArray]; exact li
      refine sum_tups (items := its.toArray) (I.ok.hd hc) pa p0 rowsV (fun t vs => ∃ xs : List Int, SqT X.K H t (xs.map V.int) ∧ Vals (xs.map V.int) vs) (fun i v hi => ?_) ⟨[], h0, .nil⟩ ?_ fun h' tk t' k1 k2 k3 => ?_
      · have hi' : its[i]? = some v := by simpa using hi
        have lt : i < rs.length := by rw [← li]; exact (List.getElem?_eq_some_iff.mp hi').1
        obtain ⟨q, h1, h2, h3, h4⟩ := hv i _ (List.getElem?_eq_getElem lt)
        obtain ⟨u, hu, ru⟩ := rv.get h1
        rw [hu] at hi'
        cases hi'
        cases ru
        exact ⟨q, rfl, h4, _, h2, h3⟩
      · rw [sz, ← accE.length, List.length_map]
        exact ll
      · rw [sz] at k2 k3
        rcases k3 with ⟨xs, g1, g2⟩ | ge
        · have e := vals_ints_inj g2 accE
          rw [e] at g1
          exact ⟨.ref t', H, I.kept k1, rfl, q t' H (fun _ _ z => z) g1⟩
        · exact ⟨.ref t', _, I.laid (o := .tup (rs.flatten.map V.int)) k1 ge ⟨by rw [List.length_map]; exact ll, _, accE, k2⟩, rfl, q t' _ (same_new (I.hok.fresh ge)) (SqT.of upd_same)⟩
end Kx
/-! keys of a dict: tuples of m whole numbers and a tuple of such behind them -/
namespace PySem
open Sem (wp)
abbrev NK : Type := List Int × List Int
section
variable {prog : Program} {w : World}
structure NestAt (prog : Program) (w : World) (m : Nat) (h : Heap) (k : NK) (a : Addr) : Prop where
  len : k.1.length = m
  ex : ∃ (o : Obj) (items : Array Value) (n : Nat) (b : Addr) (vs : List Value), h.get? a = some o ∧ o.cls = .type "tuple" ∧ o.data = .seq items n ∧ items.toList = vs ++ [.ref b] ∧ ItemsAre (intKind prog w) k.1 vs ∧ IsTupleKey (intKind prog w) h k.2 b
def nestHash (prog : Program) (w : World) (k : NK) : Int := reduceHash (Builtin.Tuple.tupleHashOf (k.1.map (intKind prog w).hash ++ [tupleKeyHash (intKind prog w) k.2]))
variable {m : Nat} {h h' : Heap} {k k' : NK} {a b : Addr} {A : Around} {E : Value → Shared → Prop} {s : Shared}
theorem NestAt.ty (x : NestAt prog w m s.heap k a) : s.TypeIs (.ref a) "tuple" := by
  obtain ⟨_, o, _, _, _, _, ho, hc, _⟩ := x
  exact ⟨o, ho, hc⟩
theorem NestAt.inj (x : NestAt prog w m h k a) (y : NestAt prog w m h k' a) : k = k' := by
  obtain ⟨l1, o, i1, n1, b1, v1, h1, _, d1, e1, r1, t1⟩ := x
  obtain ⟨l2, o2, i2, n2, b2, v2, h2, _, d2, e2, r2, t2⟩ := y
  rw [h1] at h2
  cases h2
  rw [d1] at d2
  cases d2
  rw [e1] at e2
  obtain ⟨e3, e4⟩ := List.append_inj' e2 rfl
  subst e3
  cases e4
  exact Prod.ext (r1.inj r2) (t1.inj t2)
theorem NestAt.stays {d : Addr} {o : Obj} {es : Array DictEntry} {ep : Nat} (x : NestAt prog w m h k a) (ho : h.get? d = some o) (hd : o.data = .dict es ep) (sb : Heap.SameBut d h h') : NestAt prog w m h' k a := by
  obtain ⟨l1, o1, i1, n1, b1, v1, h1, c1, d1, e1, r1, t1⟩ := x
  have ne : a ≠ d := fun z => by
    subst z
    rw [ho] at h1
    cases h1
    rw [hd] at d1
    cases d1
  exact ⟨l1, o1, i1, n1, b1, v1, (sb.2 a ne).trans h1, c1, d1, e1, r1, t1.keeps ho hd sb⟩
theorem nest_hash {Q : Int → Shared → Prop} (hu : A.units + 1 < cLine) (x : NestAt prog w m s.heap k a) (q : Q (nestHash prog w k) { s with toks := s.toks + (k.1.length + k.2.length + 2) }) : wpAny (model prog w) A (pyHash (.ref a)) Q E s := by
  have T := x.ty
  obtain ⟨l1, o, items, n, b, vs, ho, -, hd, ev, rv, tb⟩ := x
  unfold pyHash
  first | unfold pyHashByItsType | skip
  first | refine wpAny_bind (wpAny_cRoomFor_or (.inr (Nat.lt_of_succ_lt hu)) ?_) | skip
  refine wpAny_bind (wpAny_specialOf T F.slot_tuple_hash.lookup ?_)
  show wpAny _ _ (if (some (Value.builtin "tuple.__hash__") == some Value.none) = true then _ else _) Q E s
  rw [if_neg (by rw [beq_builtin_none]; exact Bool.false_ne_true)]
  refine wpAny_bind (wpAny_specialOf T F.slot_tuple_hash.lookup ?_)
  show wpAny _ _ (callSpecialIfBoundUnlessNone? (.ref a) "__hash__" _ >>= _) Q E s
  refine wpAny_bind (wpAny_callSpecialIfBoundUnlessNone?_slot T F.slot_tuple_hash (wpAny_call_entry F.slot_tuple_hash T F.entry_tuple_hash ?_ (F.args_tuple_hash_1 _)))
  show wpAny _ _ (Builtin.Tuple.tupleItemsOf (.ref a) >>= _) _ _ s
  refine wpAny_bind (wpAny_tupleItemsOf ho hd ?_)
  refine wpAny_bind ?_
  rw [← Array.forIn_toList, ev]
  refine wpAny_forIn_list _ (fun rest (c : Array Int) s' => (∃ done left us, k.1 = done ++ left ∧ rest = us ++ [.ref b] ∧ ItemsAre (intKind prog w) left us ∧ c.toList = done.map (intKind prog w).hash ∧ s' = { s with toks := s.toks + done.length }) ∨
    (rest = [] ∧ c.toList = k.1.map (intKind prog w).hash ++ [tupleKeyHash (intKind prog w) k.2] ∧ s' = { s with toks := s.toks + (k.1.length + k.2.length + 1) })) _ ?_ ?_ _ _ (.inl ⟨[], k.1, vs, rfl, rfl, rv, rfl, rfl⟩)
  · rintro x rest c s' (⟨done, left, us, e1, e2, r1, e3, rfl⟩ | ⟨e1, _⟩)
    · cases r1 with
      | nil =>
        rw [List.nil_append] at e2
        obtain ⟨rfl, rfl⟩ : x = .ref b ∧ rest = [] := by simpa using e2
        rw [List.append_nil] at e1
        subst e1
        refine wpAny_bind (wpAny_pyHash_tuple hu tb ?_)
        have fin : (c.push (tupleKeyHash (intKind prog w) k.2)).toList = k.1.map (intKind prog w).hash ++ [tupleKeyHash (intKind prog w) k.2] := by simp [e3]
        first
          | exact wpAny_pure (.inr ⟨rfl, fin, by simp [Nat.add_assoc]⟩)
          | exact wpAny_bind (wpAny_pure (wpAny_pure (.inr ⟨rfl, fin, by simp [Nat.add_assoc]⟩)))
      | @cons y u left' us' h1 r2 =>
        rw [List.cons_append] at e2
        obtain ⟨rfl, rfl⟩ : x = u ∧ rest = us' ++ [.ref b] := by simpa using e2
        refine wpAny_bind ((intKind prog w).pyHash h1 ?_)
        first
          | exact wpAny_pure (.inl ⟨done ++ [y], left', us', by simp [e1], rfl, r2, by simp [e3], by simp [Nat.add_assoc]⟩)
          | exact wpAny_bind (wpAny_pure (wpAny_pure (.inl ⟨done ++ [y], left', us', by simp [e1], rfl, r2, by simp [e3], by simp [Nat.add_assoc]⟩)))
    · cases e1
  · rintro c s' (⟨done, left, us, e1, e2, _⟩ | ⟨_, e2, rfl⟩)
    · simp at e2
    · show wpAny _ _ (retInt (Builtin.Tuple.tupleHashOf c.toList)) _ _ _
      rw [e2]
      refine wpAny_ret_mkInt ?_
      generalize eh : Builtin.Tuple.tupleHashOf (k.1.map (intKind prog w).hash ++ [tupleKeyHash (intKind prog w) k.2]) = hh
      show wpAny _ _ (if (decide (-(2 : Int) ^ 63 ≤ hh) && decide (hh < 2 ^ 63)) = true then _ else _) Q E _
      unfold nestHash reduceHash at q
      rw [eh] at q
      by_cases z : (decide (-(2 : Int) ^ 63 ≤ hh) && decide (hh < 2 ^ 63)) = true
      · rw [if_pos z]
        rw [if_pos z] at q
        exact wpAny_pure (by simpa [Nat.add_assoc] using q)
      · rw [if_neg z]
        rw [if_neg z] at q
        exact wpAny_bind (wpAny_rule (wpAny_pure (by simpa [Nat.add_assoc] using q)))
theorem zip_snoc {α β : Type} : ∀ {xs : List α} {ys : List β} {x : α} {y : β}, xs.length = ys.length → List.zip (xs ++ [x]) (ys ++ [y]) = List.zip xs ys ++ [(x, y)]
  | [], [], _, _, _ => rfl
  | _ :: xs, _ :: ys, _, _, e => congrArg _ (zip_snoc (xs := xs) (ys := ys) (by simpa using e))
  | [], _ :: _, _, _, e => by simp at e
  | _ :: _, [], _, _, e => by simp at e
theorem nest_eq_tree {P : Fin → Shared → Prop} (hu : A.units < cLine) (x : NestAt prog w m s.heap k a) (y : NestAt prog w m s.heap k' b) (q : P (.done (.ret (.bool (decide (k = k'))))) s) : wpAny (model prog w) A (Builtin.«tuple.__eq__» ⟨[.ref a, .ref b], []⟩) P E s := by
  have T := y.ty
  obtain ⟨l1, o1, i1, n1, b1, v1, h1, -, d1, e1, r1, t1⟩ := x
  obtain ⟨l2, o2, i2, n2, b2, v2, h2, -, d2, e2, r2, t2⟩ := y
  have ll : v1.length = v2.length := by rw [← r1.length, ← r2.length, l1, l2]
  show wpAny _ _ (isInstance (.ref b) (.type "tuple") >>= _) _ _ s
  refine wpAny_bind (wpAny_isInstance T isSubtype_tuple_tuple ?_)
  simp only [Bool.not_true, Bool.false_eq_true, if_false]
  refine wpAny_bind (wpAny_tupleItemsOf h1 d1 ?_)
  refine wpAny_bind (wpAny_tupleItemsOf h2 d2 ?_)
  refine wpAny_bind ?_
  refine wpAny_forIn_list _ (fun rest r s' => r.1 = none ∧ s' = s ∧ ((∃ x' y' xs' ys', rest = List.zip xs' ys' ++ [(.ref b1, .ref b2)] ∧ xs'.length = ys'.length ∧ ItemsAre (intKind prog w) x' xs' ∧ ItemsAre (intKind prog w) y' ys' ∧ (decide (k = k') = decide (x' = y' ∧ k.2 = k'.2))) ∨ (rest = [] ∧ k = k'))) _ ?_ ?_ _ _
    ⟨rfl, rfl, .inl ⟨k.1, k'.1, v1, v2, by rw [e1, e2, zip_snoc ll], ll, r1, r2, by rw [Bool.eq_iff_iff]; simp [Prod.ext_iff]⟩⟩
  · rintro ⟨u, v⟩ rest r s' ⟨hr, rfl, ⟨x', y', xs', ys', hz, lx, hx', hy', hd⟩ | ⟨e, _⟩⟩
    · cases hx' with
      | nil =>
        cases hy' with
        | cons _ _ => simp at lx
        | nil =>
          obtain ⟨⟨rfl, rfl⟩, rfl⟩ : (u = .ref b1 ∧ v = .ref b2) ∧ rest = [] := by simpa using hz
          refine wpAny_bind (wpAny_eqBool_tuple hu t1 t2 ?_)
          have e : decide (k.2 = k'.2) = decide (k = k') := by rw [hd]; simp
          rw [e]
          by_cases z : k = k'
          · rw [decide_eq_true z]
            simp only [Bool.not_true, Bool.false_eq_true, if_false]
            exact wpAny_pure ⟨rfl, rfl, .inr ⟨trivial, z⟩⟩
          · rw [decide_eq_false z] at q ⊢
            simp only [Bool.not_false, if_true]
            exact wpAny_bind (wpAny_pure (wpAny_pure (wpAny_pure q)))
      | @cons c1 u' x'' xs'' g1 hx'' =>
        cases hy' with
        | nil => simp at lx
        | @cons c2 v' y'' ys'' g2 hy'' =>
          obtain ⟨⟨rfl, rfl⟩, rfl⟩ : (u = u' ∧ v = v') ∧ rest = List.zip xs'' ys'' ++ [(.ref b1, .ref b2)] := by simpa using hz
          refine wpAny_bind ((intKind prog w).eqBool (a := c1) (b := c2) g1 g2 ?_)
          by_cases z : c1 = c2
          · subst z
            rw [decide_eq_true rfl]
            simp only [Bool.not_true, Bool.false_eq_true, if_false]
            exact wpAny_pure ⟨rfl, rfl, .inl ⟨x'', y'', xs'', ys'', rfl, by simpa using lx, hx'', hy'', by rw [hd]; simp⟩⟩
          · rw [decide_eq_false z]
            simp only [Bool.not_false, if_true]
            have f : decide (k = k') = false := by rw [hd]; simp [z]
            rw [f] at q
            exact wpAny_bind (wpAny_pure (wpAny_pure (wpAny_pure q)))
    · cases e
  · rintro ⟨r1', r2'⟩ s' ⟨hr, rfl, ⟨x', y', xs', ys', hz, _⟩ | ⟨_, e⟩⟩
    · simp at hz
    · simp only at hr
      subst hr
      refine wpAny_pure ?_
      have sz : (i1.size == i2.size) = decide (k = k') := by
        rw [decide_eq_true e]
        have s1 : i1.size = v1.length + 1 := by rw [← Array.length_toList, e1]; simp
        have s2 : i2.size = v2.length + 1 := by rw [← Array.length_toList, e2]; simp
        rw [s1, s2, ll]
        exact beq_self_eq_true _
      show P (.done (.ret (.bool (i1.size == i2.size)))) s'
      rw [sz]
      exact q
theorem nest_eq {Q : Bool → Shared → Prop} (hu : A.units + 4 < cLine) (x : NestAt prog w m s.heap k a) (y : NestAt prog w m s.heap k' b) (q : Q (decide (k = k')) s) : wpAny (model prog w) A (eqBool (.ref a) (.ref b)) Q E s := by
  unfold eqBool
  try with_reducible refine wpAny_holding ?_
  show wpAny _ _ (if (Value.ref a == Value.ref b) = true then _ else _) Q E s
  by_cases ab : (Value.ref a == Value.ref b) = true
  · rw [if_pos ab]
    have e : a = b := by have := eq_of_beq ab; injection this
    subst e
    have := x.inj y
    subst this
    exact wpAny_bind (wpAny_rule (wpAny_pure (by simpa using q)))
  · rw [if_neg ab]
    exact wpAny_bind (wpAny_richCompare_same_room (op := .Eq) x.ty y.ty F.slot_tuple_eq (wpAny_call_entry F.slot_tuple_eq x.ty F.entry_tuple_eq (nest_eq_tree (by show _ < cLine; simp only [PyProof.Rows.units_in1]; omega) x y ⟨_, rfl, (fun e => nomatch e), wpAny_truthy_bool q⟩) (F.args_tuple_eq_2 _ _)) (by omega))
theorem quiet_ints {ks : List Int} {Q : Bool → Shared → Prop} (i : Nat) (x : IsTupleKey (intKind prog w) s.heap ks b) (q : Q true s) : wpAny (model prog w) A (eqIsQuiet (i + 1) (.ref b)) Q E s := by
  have T := x.typeIs
  obtain ⟨o, items, n, ho, -, hd, ri⟩ := x
  unfold eqIsQuiet
  refine wpAny_bind (wpAny_specialOf T F.slot_tuple_eq.lookup ?_)
  show wpAny _ _ (isInstance (.ref b) (.type "tuple") >>= _) _ _ s
  refine wpAny_bind (wpAny_isInstance T isSubtype_tuple_tuple ?_)
  simp only [Bool.not_true, Bool.false_eq_true, if_false]
  refine wpAny_bind (wpAny_seqItems ho hd ?_)
  refine wpAny_bind ?_
  show wpAny _ _ (forIn items _ _) _ _ s
  rw [← Array.forIn_toList]
  refine wpAny_forIn_list _ (fun rest r s' => r.1 = none ∧ s' = s ∧ ∀ v ∈ rest, carriedByValue v = true) _ ?_ ?_ _ _ ⟨rfl, rfl, ri.byValue⟩
  · rintro v rest r s' ⟨hr, rfl, al⟩
    rw [eqIsQuiet_byValue _ (al v (List.mem_cons_self ..))]
    refine wpAny_bind (wpAny_pure ?_)
    simp only [Bool.not_true, Bool.false_eq_true, if_false]
    exact wpAny_pure ⟨rfl, rfl, fun u hu => al u (List.mem_cons_of_mem _ hu)⟩
  · rintro ⟨r1, r2⟩ s' ⟨hr, rfl, _⟩
    simp only at hr
    subst hr
    exact wpAny_pure q
theorem nest_quiet {Q : Bool → Shared → Prop} (x : NestAt prog w m s.heap k a) (q : Q true s) : wpAny (model prog w) A (eqIsQuiet 8 (.ref a)) Q E s := by
  have T := x.ty
  obtain ⟨l1, o, items, n, b, vs, ho, -, hd, ev, rv, tb⟩ := x
  unfold eqIsQuiet
  refine wpAny_bind (wpAny_specialOf T F.slot_tuple_eq.lookup ?_)
  show wpAny _ _ (isInstance (.ref a) (.type "tuple") >>= _) _ _ s
  refine wpAny_bind (wpAny_isInstance T isSubtype_tuple_tuple ?_)
  simp only [Bool.not_true, Bool.false_eq_true, if_false]
  refine wpAny_bind (wpAny_seqItems ho hd ?_)
  refine wpAny_bind ?_
  show wpAny _ _ (forIn items _ _) _ _ s
  rw [← Array.forIn_toList, ev]
  refine wpAny_forIn_list _ (fun rest r s' => r.1 = none ∧ s' = s ∧ ∀ v ∈ rest, carriedByValue v = true ∨ v = .ref b) _ ?_ ?_ _ _ ⟨rfl, rfl, fun v hv => ?_⟩
  · rintro v rest r s' ⟨hr, rfl, al⟩
    have go : ∀ {Q : Bool → Shared → Prop} {A : Around}, Q true s' → wpAny (model prog w) A (eqIsQuiet 7 v) Q E s' := fun q => by
      rcases al v (List.mem_cons_self ..) with c | rfl
      · rw [eqIsQuiet_byValue _ c]
        exact wpAny_pure q
      · exact quiet_ints 6 tb q
    refine wpAny_bind (go ?_)
    simp only [Bool.not_true, Bool.false_eq_true, if_false]
    exact wpAny_pure ⟨rfl, rfl, fun u hu => al u (List.mem_cons_of_mem _ hu)⟩
  · rintro ⟨r1, r2⟩ s' ⟨hr, rfl, _⟩
    simp only at hr
    subst hr
    exact wpAny_pure q
  · rcases List.mem_append.mp hv with h | h
    · exact .inl (rv.byValue v h)
    · exact .inr (List.mem_singleton.mp h)
end
/-- keys of m whole numbers and a tuple of such -/
def nestKind {prog : Program} {w : World} (m : Nat) : HeapKind prog w NK where
  is := NestAt prog w m
  hash := nestHash prog w
  draws := fun k => k.1.length + k.2.length + 2
  room := fun A => A.units + 4 < cLine
  inj := fun x y => x.inj y
  keeps := fun x ho hd sb => x.stays ho hd sb
  pyHash := fun hu x q => nest_hash (by omega) x q
  eqBool := fun hu x y q => nest_eq hu x y q
  quiet := fun x q => nest_quiet x q
end PySem
/-! a dict of such keys, each with True: {}, k not in d, d[k] = True -/
namespace Kx
open L2 PySem PySem.Spec PyProof.Rows
abbrev rowsN (xs : List (NK × Addr)) : List (NK × Addr × Value) := xs.map fun x => (x.1, x.2, Value.bool true)
structure NestR (P : Program) (w : World) (m : Nat) (d : Addr) (xs : List (NK × Addr)) (h : Heap) : Prop where
  ob : ∃ (o : Obj) (es : Array DictEntry) (ep : Nat), h.get? d = some o ∧ o.ExactDict ∧ o.data = .dict es ep ∧ es.toList = (rowsN xs).map (entryOfKey (nestKind (prog := P) (w := w) m))
  nd : (xs.map (·.1)).Nodup
  few : xs.length ≤ sizeLine
  own : (d == sysModules) = false
def NestO (P : Program) (w : World) (m : Nat) (d : Addr) (xs : List (NK × Addr)) : HO := .ext (NestR P w m d xs)
/-- such a key stands at a -/
def KeyN (K : PySem.W.Frag) (H : Hp) (m : Nat) (k : NK) (a : Addr) : Prop := k.1.length = m ∧ ∃ b, SqT K H a (k.1.map V.int ++ [.ref b]) ∧ SqT K H b (k.2.map V.int)
theorem KeyN.same {K : PySem.W.Frag} {H H' : Hp} {m : Nat} {k : NK} {a : Addr} (e : Same H H') (h : KeyN K H m k a) : KeyN K H' m k a := ⟨h.1, h.2.elim fun b q => ⟨b, sqT_same e q.1, sqT_same e q.2⟩⟩
theorem nestR_ok {P : Program} {w : World} {m : Nat} {d : Addr} {xs : List (NK × Addr)} {H : Hp} {h : Heap} (r : NestR P w m d xs h) : ObjOk P w H h d (NestO P w m d xs) := by
  obtain ⟨⟨o, es, ep, h1, h2⟩, nd, few, own⟩ := id r
  refine ⟨r, ⟨o, h1⟩, fun g1 g2 q k => ?_⟩
  obtain ⟨⟨o', es', ep', h1', h2'⟩, q2, q3, q4⟩ := q
  exact ⟨⟨o', es', ep', k o' h1', h2'⟩, q2, q3, q4⟩
theorem items_ints {P : Program} {w : World} : ∀ {k : List Int} {us : List Value}, Vals (k.map V.int) us → ItemsAre (PySem.intKind P w) k us
  | [], _, .nil => .nil
  | i :: k, _, .cons r t => by
    obtain ⟨tk, rfl⟩ := r
    exact .cons (by simp [PySem.intKind, Value.isInt]) (items_ints t)
theorem vals_snoc : ∀ {xs : List V} {y : V} {us : List Value}, Vals (xs ++ [y]) us → ∃ vs u, us = vs ++ [u] ∧ Vals xs vs ∧ RelV y u
  | [], _, _, .cons r .nil => ⟨[], _, rfl, .nil, r⟩
  | x :: xs, y, _, .cons r t => by
    obtain ⟨vs, u, e, h1, h2⟩ := vals_snoc (xs := xs) t
    exact ⟨_ :: vs, u, by rw [e]; rfl, .cons r h1, h2⟩
section
variable {X : Cx} {pins : List (Addr × Obj)} {σ : L2.St} {H : Hp} {s : Shared} {m : Nat} {k : NK} {a d : Addr} {xs : List (NK × Addr)}
theorem key_ints (I : Inv X pins σ H s) {ns : List Int} (h : SqT X.K H a (ns.map V.int)) : IsTupleKey (PySem.intKind X.prog X.w) s.heap ns a := by
  obtain ⟨its, r, ⟨o, ho, hc, n, hd⟩, _⟩ := I.tuple h
  exact ⟨o, its.toArray, n, ho, hc, hd, by simpa using items_ints r⟩
theorem nest_of (I : Inv X pins σ H s) (h : KeyN X.K H m k a) : NestAt X.prog X.w m s.heap k a := by
  obtain ⟨l, b, h1, h2⟩ := h
  obtain ⟨its, r, ⟨o, ho, hc, n, hd⟩, _⟩ := I.tuple h1
  obtain ⟨vs, u, e, r1, r2⟩ := vals_snoc r
  cases r2
  exact ⟨l, o, its.toArray, n, b, vs, ho, hc, hd, by simpa using e, items_ints r1, key_ints I h2⟩
theorem nest_dict (I : Inv X pins σ H s) (hd : H d = some (NestO X.prog X.w m d xs)) (ks : ∀ x ∈ xs, KeyN X.K H m x.1 x.2) : NestR X.prog X.w m d xs s.heap ∧ s.heap.DictOfH (nestKind (prog := X.prog) (w := X.w) m) d (rowsN xs) := by
  have r : NestR X.prog X.w m d xs s.heap := (I.hok d _ hd).1
  obtain ⟨⟨o, es, ep, h1, h2, h3, h4⟩, nd, few, own⟩ := id r
  refine ⟨r, o, es, ep, h1, h2, h3, h4, fun x hx => ?_, by rw [List.map_map]; exact nd⟩
  obtain ⟨y, hy, rfl⟩ := List.mem_map.mp hx
  exact nest_of I (ks y hy)
theorem at_rows {k : NK} : (atKey (rowsN xs) k).isSome = decide (k ∈ xs.map (·.1)) := by
  unfold atKey
  rw [Option.isSome_map, Bool.eq_iff_iff, List.find?_isSome, decide_eq_true_eq, List.mem_map]
  constructor
  · rintro ⟨x, hx, e⟩
    obtain ⟨y, hy, rfl⟩ := List.mem_map.mp hx
    exact ⟨y, hy, of_decide_eq_true e⟩
  · rintro ⟨y, hy, rfl⟩
    exact ⟨_, List.mem_map.mpr ⟨y, hy, rfl⟩, decide_eq_true rfl⟩
end
section
variable {X : Cx}
/-- k not in d -/
def rNotInN (K : PySem.W.Frag) (P : Program) (w : World) : R2 := fun x y H Q => ∃ (d a : Addr) (xs : List (NK × Addr)) (m : Nat) (k : NK), x = .ref a ∧ y = .ref d ∧ H d = some (NestO P w m d xs) ∧ KeyN K H m k a ∧ (∀ x ∈ xs, KeyN K H m x.1 x.2) ∧ Q (.bl (!decide (k ∈ xs.map (·.1)))) H
theorem op_notInN (hu : X.A.units + 64 < cLine) : OpR X (compareOp .NotIn) (rNotInN X.K X.prog X.w) := by
  intro pins s σ H x y v u Q I rx ry h
  obtain ⟨d, a, xs, m, k, rfl, rfl, hd, hk, ks, q⟩ := h
  cases rx
  cases ry
  obtain ⟨r, dd⟩ := nest_dict I hd ks
  refine wpAny_notIn_heap (knd := nestKind (prog := X.prog) (w := X.w) m) (by show _ + 4 < _; simp only [units_in1]; omega) (nest_of I hk) r.own dd ?_
  rw [at_rows]
  exact ⟨.bl _, H, I.tok _, rfl, q⟩
/-- d[k] = True -/
def rSetN (K : PySem.W.Frag) (P : Program) (w : World) : V → V → V → Hp → (Hp → Prop) → Prop := fun o i v H Q => ∃ (d a : Addr) (xs : List (NK × Addr)) (m : Nat) (k : NK), o = .ref d ∧ i = .ref a ∧ v = .bl true ∧ H d = some (NestO P w m d xs) ∧ KeyN K H m k a ∧ (∀ x ∈ xs, KeyN K H m x.1 x.2) ∧
  k ∉ xs.map (·.1) ∧ xs.length < sizeLine ∧ Q (upd H d (NestO P w m d (xs ++ [(k, a)])))
theorem set_nest (hu : X.A.units + 64 < cLine) : PSet X (rSetN X.K X.prog X.w) := by
  intro pins s σ H o i v ov iv u Q I ro ri rv h
  obtain ⟨d, a, xs, m, k, rfl, rfl, rfl, hd, hk, ks, no, few, q⟩ := h
  cases ro
  cases ri
  cases rv
  obtain ⟨r, dd⟩ := nest_dict I hd ks
  refine wpAny_setItem_heap (knd := nestKind (prog := X.prog) (w := X.w) m) (hsz := by rw [List.length_map]; omega) (by show _ + 4 < _; simp only [units_in1]; omega) (nest_of I hk) dd fun h' dd' hs => ?_
  have new : atKey (rowsN xs) k = none := by
    have := at_rows (xs := xs) (k := k)
    rw [decide_eq_false no] at this
    exact Option.isNone_iff_eq_none.mp (by rw [← Option.not_isSome, this]; rfl)
  rw [storedH_new new] at dd'
  obtain ⟨q1, es, ep, h1, h2, h3, h4, _, h5⟩ := dd'
  have e : rowsN xs ++ [(k, a, Value.bool true)] = rowsN (xs ++ [(k, a)]) := by rw [show rowsN (xs ++ [(k, a)]) = rowsN xs ++ rowsN [(k, a)] from List.map_append ..]; rfl
  rw [e] at h4 h5
  refine ⟨_, d_write I (by rw [hd]; exact True.intro) hs ⟨q1, h1⟩ (nestR_ok ⟨⟨q1, es, ep, h1, h2, h3, h4⟩, by rw [List.map_map] at h5; exact h5, by rw [List.length_append, List.length_singleton]; omega, r.own⟩), q⟩
/-- {}, to be such a dict -/
def tDNewN (P : Program) (w : World) (m : Nat) : TE := fun _ H Q => ∀ p, H p = none → Q (.ref p) (upd H p (NestO P w m p []))
theorem pe_dnewN {pos : Pos} (m : Nat) : PE X (.Dict [] [] pos) (tDNewN X.prog X.w m) := ⟨fun pins s σ H Q I h =>
  wpAny_Dict_empty ⟨.ref s.heap.objs.size, _, I.laid (a := s.heap.objs.size) (o := NestO X.prog X.w m s.heap.objs.size []) (t' := s.toks) (fun _ _ q => Heap.get?_push_of_some _ q) (Nat.le_refl _)
    (nestR_ok ⟨⟨_, #[], 0, Heap.get?_push_size _ rfl, ⟨rfl, rfl, rfl⟩, rfl, rfl⟩, List.nodup_nil, Nat.zero_le _, beq_eq_false_iff_ne.mpr (Ne.symm (Nat.ne_of_lt I.big))⟩), rfl, h _ (I.hok.fresh (Nat.le_refl _))⟩⟩
end
end Kx
/-! tuples that stand as they were made: t * k, t[lo:hi], t + u -/
namespace Kx
open L2 PySem PySem.Spec PyProof.Rows
/-- t * k -/
def rTimesX : R2 := fun x y H Q => ∃ (t : Addr) (k : Nat) (xs : List V), x = .ref t ∧ y = .int (k : Int) ∧ H t = some (.tup xs) ∧ xs ≠ [] ∧ 1 ≤ k ∧ k ≤ 1000 ∧ xs.length ≤ 1000 ∧
  ∀ p H', Same H H' → H' p = some (.tup (List.replicate k xs).flatten) → Q (.ref p) H'
theorem op_timesX {X : Cx} : OpR X (binaryOp .Mult) rTimesX := by
  intro pins st σ H x y v u Q I rx ry h
  obtain ⟨t, k, xs, rfl, rfl, hT, ne, k1, hk, hz, q⟩ := h
  by_cases e : k = 1
  · subst e
    cases rx
    obtain ⟨tk, rfl⟩ := ry
    obtain ⟨its, r, ⟨⟨cls, dct, data, slo⟩, ho, hc, n, hd⟩, hs⟩ := I.tuple (SqT.of hT)
    simp only at hc hd
    subst hc hd
    refine wpAny_binaryOp_repeat_ref (T := "tuple") (U := "int") (by decide) ⟨_, ho, rfl⟩ (fun s' => typeIs_int s' 1 tk) noFill_tuple_mul F.fills_int_mul F.slot_int_rmul repeat_tuple F.slot_int_index.lookup
      (call_meets F.slot_int_rmul (typeIs_int st 1 tk) F.entry_int_rmul (F.args_int_rmul_2 _ _) (int_rmul_tuple 1 tk t its.toArray n dct slo)
        ⟨ho, rfl, ⟨_, ho, rfl⟩, call_meets F.slot_tuple_mul ⟨_, ho, rfl⟩ F.entry_tuple_mul (F.args_tuple_mul_2 _ _) (times_one t its.toArray n dct slo tk) ⟨ho, ?_⟩⟩)
    have e1 : (List.replicate 1 xs).flatten = xs := by simp
    rw [e1] at q
    exact ⟨.ref t, H, I, rfl, q t H (Same.refl H) hT⟩
  · refine op_repT pins st σ H _ _ v u Q I rx ry ⟨t, _, xs, rfl, rfl, SqT.of hT, ne, by omega, by omega, hz, fun p hp => ?_⟩
    exact q p _ (same_new hp) (by rw [upd_same, Int.toNat_natCast])
/-- t[lo:hi] -/
def rCutX : V → Option Int → Option Int → Hp → VK → Prop := fun x lo hi H Q => ∃ a xs, x = .ref a ∧ H a = some (.tup xs) ∧ ∀ p H', Same H H' → H' p = some (.tup (cutV xs lo hi)) → Q (.ref p) H'
theorem sl_cutX {X : Cx} : SlR X rCutX := by
  intro pins s σ H x v vl vu lo hi sl Q I rx hs pl pu ⟨a, xs, e, h, q⟩
  refine sl_tupA pins s σ H x v vl vu lo hi sl Q I rx hs pl pu ⟨a, xs, e, SqT.of h, fun ⟨z1, z2⟩ => q a H (Same.refl H) ?_, fun _ p hp => q p _ (same_new hp) upd_same⟩
  unfold cutV
  rw [z1, z2, List.drop_zero, Nat.sub_zero, List.take_length]
  exact h
/-- t + u -/
def rCatX : R2 := fun x y H Q => ∃ (a b : Addr) (xs ys : List V), x = .ref a ∧ y = .ref b ∧ H a = some (.tup xs) ∧ H b = some (.tup ys) ∧ xs.length + ys.length ≤ sizeLine ∧ ∀ p H', Same H H' → H' p = some (.tup (xs ++ ys)) → Q (.ref p) H'
theorem op_catX {X : Cx} : OpR X (binaryOp .Add) rCatX := by
  intro pins st σ H x y v u Q I rx ry h
  obtain ⟨a, b, xs, ys, rfl, rfl, h1, h2, fits, key⟩ := h
  refine op_catA pins st σ H _ _ v u Q I rx ry ⟨a, b, xs, ys, rfl, rfl, SqT.of h1, SqT.of h2, fits, fun e => ?_, fun _ e => ?_, fun _ _ p hp => key p _ (same_new hp) upd_same⟩
  · subst e
    exact key b H (Same.refl H) h2
  · subst e
    exact key a H (Same.refl H) (by rw [List.append_nil]; exact h1)
/-- one item anew -/
theorem cut_put {xs : List V} {d : Nat} {v : V} (hd : d < xs.length) : cutV xs none (some (d : Int)) ++ [v] ++ cutV xs (some ((d : Int) + 1)) none = xs.set d v := by
  have e : (d : Int) + 1 = ((d + 1 : Nat) : Int) := rfl
  unfold cutV
  rw [e, HT.sIx_none, HT.sIx_none, HT.sIx_nat, HT.sIx_nat, List.drop_zero, Nat.sub_zero, Nat.min_eq_left (by omega), Nat.min_eq_left (by omega), List.set_eq_take_append_cons_drop, if_pos hd, List.append_assoc, List.take_of_length_le (l := xs.drop (d + 1)) (by rw [List.length_drop]; omega)]
  rfl
end Kx
/-! _law_opened: what stands -/
namespace K7
open L2 PySem PySem.Spec PyProof.Rows Kx RZ
/-- a point's tuple -/
def PtAt (H : Hp) (a : Addr) (p : Pnt) : Prop := ∃ b, H a = some (.tup [.int p.1, .int p.2.1, .ref b]) ∧ H b = some (.tup (p.2.2.map V.int))
def keyP (p : Pnt) : NK := ([p.1, p.2.1], p.2.2)
theorem keyP_inj {p q : Pnt} (h : keyP p = keyP q) : p = q := by
  obtain ⟨x, y, sh⟩ := p
  obtain ⟨x', y', sh'⟩ := q
  have h1 := congrArg Prod.fst h
  have h2 : sh = sh' := congrArg Prod.snd h
  obtain ⟨e1, e2⟩ : x = x' ∧ y = y' := by simpa [keyP] using h1
  rw [e1, e2, h2]
theorem PtAt.same {H H' : Hp} {a : Addr} {p : Pnt} (h : PtAt H a p) (e : ∀ b us, H b = some (.tup us) → H' b = some (.tup us)) : PtAt H' a p := h.elim fun b q => ⟨b, e _ _ q.1, e _ _ q.2⟩
theorem PtAt.key {K : PySem.W.Frag} {H : Hp} {a : Addr} {p : Pnt} (h : PtAt H a p) : KeyN K H 2 (keyP p) a := h.elim fun b q => ⟨rfl, b, SqT.of q.1, SqT.of q.2⟩
/-- the list of states and standings at l -/
def FAt (H : Hp) (ha l : Addr) (prs : List (List Int)) : Prop := l ≠ ha ∧ ∃ us, H l = some (.lst us) ∧ RowsBy (fun q xs => H q = some (.tup xs)) us prs
theorem FAt.same {H H' : Hp} {ha l : Addr} {prs : List (List Int)} (h : FAt H ha l prs) (e : ∀ b us, H b = some (.tup us) → H' b = some (.tup us)) (e2 : ∀ us, H l = some (.lst us) → H' l = some (.lst us)) : FAt H' ha l prs := by
  obtain ⟨h1, us, h2, h3⟩ := h
  exact ⟨h1, us, e2 _ h2, h3.imp fun _ _ z => e _ _ z⟩
/-- what found holds -/
def kvOf (fs : List (List Int × Addr)) : List (List L2.Key × V) := fs.map fun e => (e.1.map Sum.inl, V.ref e.2)
theorem inl_inj : ∀ {a b : List Int}, a.map (Sum.inl : Int → L2.Key) = b.map Sum.inl → a = b
  | [], [], _ => rfl
  | [], _ :: _, h => nomatch h
  | _ :: _, [], h => nomatch h
  | x :: a, y :: b, h => by
    rw [List.map_cons, List.map_cons] at h
    obtain ⟨h1, h2⟩ := List.cons.inj h
    rw [Sum.inl.inj h1, inl_inj h2]
theorem inl_kV {sh : List Int} : (sh.map (Sum.inl : Int → L2.Key)).map kV = sh.map V.int := by
  rw [List.map_map]
  rfl
theorem val_kv {sh : List Int} {l : Addr} : ∀ {fs : List (List Int × Addr)}, (fs.map (·.1)).Nodup → (sh, l) ∈ fs → valV (kvOf fs) (sh.map Sum.inl) = some (V.ref l)
  | [], _, h => nomatch h
  | e :: fs, nd, h => by
    obtain ⟨n1, n2⟩ := List.nodup_cons.mp (show (e.1 :: fs.map (·.1)).Nodup from nd)
    rcases List.mem_cons.mp h with h | h
    · subst h
      exact valV_pos (p := (sh.map Sum.inl, V.ref l)) rfl
    · have ne : e.1 ≠ sh := fun z => n1 (by rw [z]; exact List.mem_map.mpr ⟨_, h, rfl⟩)
      show valV ((e.1.map Sum.inl, V.ref e.2) :: kvOf fs) (sh.map Sum.inl) = _
      rw [valV_neg (p := (e.1.map Sum.inl, V.ref e.2)) fun z => ne (inl_inj z)]
      exact val_kv n2 h
theorem val_no {sh : List Int} : ∀ {fs : List (List Int × Addr)}, sh ∉ fs.map (·.1) → valV (kvOf fs) (sh.map Sum.inl) = none
  | [], _ => rfl
  | e :: fs, h => by
    have ne : e.1 ≠ sh := fun z => h (by rw [← z]; exact List.mem_cons_self)
    show valV ((e.1.map Sum.inl, V.ref e.2) :: kvOf fs) (sh.map Sum.inl) = _
    rw [valV_neg (p := (e.1.map Sum.inl, V.ref e.2)) fun z => ne (inl_inj z)]
    exact val_no fun z => h (List.mem_cons_of_mem _ z)
def putF (fs : List (List Int × Addr)) (sh : List Int) (p : Addr) : List (List Int × Addr) := if sh ∈ fs.map (·.1) then fs.map fun e => if e.1 = sh then (e.1, p) else e else fs ++ [(sh, p)]
theorem kv_put {fs : List (List Int × Addr)} {sh : List Int} {p : Addr} : putK (kvOf fs) (sh.map Sum.inl) (V.ref p) = kvOf (putF fs sh p) := by
  unfold putK putF
  have e : ((kvOf fs).any fun kv => decide (kv.1 = sh.map Sum.inl)) = decide (sh ∈ fs.map (·.1)) := by
    rw [Bool.eq_iff_iff, List.any_eq_true, decide_eq_true_eq, List.mem_map]
    unfold kvOf
    constructor
    · rintro ⟨kv, h, z⟩
      obtain ⟨e, he, rfl⟩ := List.mem_map.mp h
      exact ⟨e, he, inl_inj (of_decide_eq_true z)⟩
    · rintro ⟨e, he, rfl⟩
      exact ⟨_, List.mem_map.mpr ⟨e, he, rfl⟩, decide_eq_true rfl⟩
  rw [e]
  by_cases z : sh ∈ fs.map (·.1)
  · rw [if_pos (decide_eq_true z), if_pos z]
    unfold kvOf
    rw [List.map_map, List.map_map]
    refine List.map_congr_left fun e he => ?_
    show (if e.1.map Sum.inl = sh.map Sum.inl then (e.1.map Sum.inl, V.ref p) else (e.1.map Sum.inl, V.ref e.2)) = _
    show _ = ((if e.1 = sh then (e.1, p) else e).1.map Sum.inl, V.ref (if e.1 = sh then (e.1, p) else e).2)
    by_cases q : e.1 = sh
    · rw [if_pos (by rw [q]), if_pos q]
    · rw [if_neg (fun w => q (inl_inj w)), if_neg q]
  · rw [if_neg (by simpa using z), if_neg z]
    unfold kvOf
    rw [List.map_append]
    rfl
theorem putF_mem {fs : List (List Int × Addr)} {sh : List Int} {p : Addr} {e : List Int × Addr} (h : e ∈ putF fs sh p) : (e ∈ fs ∧ e.1 ≠ sh) ∨ e = (sh, p) := by
  unfold putF at h
  split at h
  · obtain ⟨d, hd, rfl⟩ := List.mem_map.mp h
    by_cases q : d.1 = sh
    · rw [if_pos q, q]; exact .inr rfl
    · rw [if_neg q]; exact .inl ⟨hd, q⟩
  · rename_i no
    rcases List.mem_append.mp h with h | h
    · exact .inl ⟨h, fun z => no (List.mem_map.mpr ⟨e, h, z⟩)⟩
    · exact .inr (List.mem_singleton.mp h)
theorem putF_keys {fs : List (List Int × Addr)} {sh : List Int} {p : Addr} : (putF fs sh p).map (·.1) = if sh ∈ fs.map (·.1) then fs.map (·.1) else fs.map (·.1) ++ [sh] := by
  unfold putF
  split
  · rw [List.map_map]
    refine List.map_congr_left fun e _ => ?_
    show (if e.1 = sh then (e.1, p) else e).1 = e.1
    split <;> rfl
  · rw [List.map_append]
    rfl
theorem putF_nd {fs : List (List Int × Addr)} {sh : List Int} {p : Addr} (h : (fs.map (·.1)).Nodup) : ((putF fs sh p).map (·.1)).Nodup := by
  rw [putF_keys]
  split
  · exact h
  · rename_i no
    exact List.nodup_append.mpr ⟨h, by simp, fun a ha b hb z => no (by rw [← List.mem_singleton.mp hb, ← z]; exact ha)⟩
theorem putF_len {fs : List (List Int × Addr)} {sh : List Int} {p : Addr} : (putF fs sh p).length ≤ fs.length + 1 := by
  unfold putF
  split
  · rw [List.length_map]; omega
  · rw [List.length_append, List.length_singleton]; omega
/-- the objects -/
structure Go where
  ha : Addr
  da : Addr
  fa : Addr
  as : List Addr
  hs : List Pnt
  fs : List (List Int × Addr)
abbrev prsOf (hs : List Pnt) (sh : List Int) : List (List Int) := (hs.filter fun p => decide (p.2.2 = sh)).map fun p => [p.1, p.2.1]
/-- what stands: of t points the showings are found -/
structure Gw (P : Program) (w : World) (H0 : Hp) (g : Go) (t : Nat) (H : Hp) : Prop where
  old : Same H0 H
  nh : H0 g.ha = none
  nd : H0 g.da = none
  nf : H0 g.fa = none
  here : H g.ha = some (.lst (g.as.map V.ref))
  there : H g.da = some (NestO P w 2 g.da ((g.hs.map keyP).zip g.as))
  found : H g.fa = some (.dT (kvOf g.fs))
  la : g.as.length = g.hs.length
  pts : ∀ (i : Nat) (p : Pnt) (a : Addr), g.hs[i]? = some p → g.as[i]? = some a → PtAt H a p
  fat : ∀ e ∈ g.fs, FAt H g.ha e.2 (prsOf (g.hs.take t) e.1)
  fnd : (g.fs.map (·.1)).Nodup
  fky : ∀ sh, sh ∈ g.fs.map (·.1) ↔ ∃ p ∈ g.hs.take t, p.2.2 = sh
  flen : g.fs.length ≤ t
section
variable {P : Program} {w : World} {H0 H H' : Hp} {g : Go} {t : Nat}
theorem Gw.same (h : Gw P w H0 g t H) (e : Same H H') : Gw P w H0 g t H' :=
  ⟨h.old.trans e, h.nh, h.nd, h.nf, e _ _ h.here, e _ _ h.there, e _ _ h.found, h.la, fun i p a h1 h2 => (h.pts i p a h1 h2).same fun _ _ z => e _ _ z, fun d hd => (h.fat d hd).same (fun _ _ z => e _ _ z) fun _ z => e _ _ z, h.fnd, h.fky, h.flen⟩
theorem Gw.new (h : Gw P w H0 g t H) {a : Addr} (ha : H a = none) : H0 a = none := by
  cases z : H0 a with
  | none => rfl
  | some o =>
    have := h.old _ _ z
    rw [ha] at this
    cases this
/-- a point comes -/
theorem Gw.come (h : Gw P w H0 g t H) {a : Addr} {p : Pnt} (tl : t ≤ g.hs.length) (hp : PtAt H a p) : Gw P w H0 { g with as := g.as ++ [a], hs := g.hs ++ [p] } t (upd (upd H g.da (NestO P w 2 g.da ((g.hs.map keyP).zip g.as ++ [(keyP p, a)]))) g.ha (.lst (g.as.map V.ref ++ [.ref a]))) := by
  have hd : g.ha ≠ g.da := ne_of h.here h.there fun z => nomatch z
  have hf : g.ha ≠ g.fa := ne_of h.here h.found fun z => nomatch z
  have df : g.da ≠ g.fa := ne_of h.there h.found fun z => nomatch z
  have tup : ∀ b us, H b = some (.tup us) → (upd (upd H g.da (NestO P w 2 g.da ((g.hs.map keyP).zip g.as ++ [(keyP p, a)]))) g.ha (.lst (g.as.map V.ref ++ [.ref a]))) b = some (.tup us) := fun b us z => by
    rw [upd_ne (ne_of z h.here fun z => nomatch z), upd_ne (ne_of z h.there fun z => nomatch z)]
    exact z
  have zs : (((g.hs ++ [p]).map keyP).zip (g.as ++ [a])) = (g.hs.map keyP).zip g.as ++ [(keyP p, a)] := by
    rw [List.map_append]
    exact zip_snoc (by rw [List.length_map, h.la])
  have tk : (g.hs ++ [p]).take t = g.hs.take t := List.take_append_of_le_length tl
  refine ⟨same_put (same_put h.old h.nd) h.nh, h.nh, h.nd, h.nf, by rw [upd_same, List.map_append]; rfl, ?_, ?_, by rw [List.length_append, List.length_append, h.la]; rfl, fun i q b h1 h2 => ?_, fun e he => ?_, h.fnd, fun sh => ?_, h.flen⟩
  · rw [upd_ne (Ne.symm hd)]
    show upd H g.da _ g.da = some (NestO P w 2 g.da (((g.hs ++ [p]).map keyP).zip (g.as ++ [a])))
    rw [upd_same, zs]
  · rw [upd_ne (Ne.symm hf), upd_ne (Ne.symm df)]
    exact h.found
  · by_cases z : i < g.hs.length
    · rw [List.getElem?_append_left z] at h1
      rw [List.getElem?_append_left (by rw [h.la]; exact z)] at h2
      exact (h.pts i q b h1 h2).same tup
    · have : i = g.hs.length := by
        have := (List.getElem?_eq_some_iff.mp h1).1
        rw [List.length_append, List.length_singleton] at this
        omega
      subst this
      rw [List.getElem?_append_right (Nat.le_refl _), Nat.sub_self] at h1
      rw [← h.la, List.getElem?_append_right (Nat.le_refl _), Nat.sub_self] at h2
      cases h1
      cases h2
      exact hp.same tup
  · rw [tk]
    refine (h.fat e he).same tup fun us z => ?_
    rw [upd_ne (h.fat e he).1, upd_ne (ne_of z h.there fun z => nomatch z)]
    exact z
  · rw [tk]
    exact h.fky sh
/-- one more is found -/
theorem Gw.find (h : Gw P w H0 g t H) {p : Pnt} (hp : g.hs[t]? = some p) {q l : Addr} (hq : H q = some (.tup [.int p.1, .int p.2.1])) (us : List V) (hl : H l = some (.lst (us ++ [.ref q]))) (hr : RowsBy (fun q xs => H q = some (.tup xs)) us (prsOf (g.hs.take t) p.2.2)) (lh : l ≠ g.ha) :
    Gw P w H0 { g with fs := putF g.fs p.2.2 l } (t + 1) (upd H g.fa (.dT (kvOf (putF g.fs p.2.2 l)))) := by
  have hf : g.ha ≠ g.fa := ne_of h.here h.found fun z => nomatch z
  have df : g.da ≠ g.fa := ne_of h.there h.found fun z => nomatch z
  have lf : l ≠ g.fa := ne_of hl h.found fun z => nomatch z
  have tup : ∀ b us, H b = some (.tup us) → (upd H g.fa (.dT (kvOf (putF g.fs p.2.2 l)))) b = some (.tup us) := fun b us z => by
    rw [upd_ne (ne_of z h.found fun z => nomatch z)]
    exact z
  have tk : g.hs.take (t + 1) = g.hs.take t ++ [p] := by rw [List.take_add_one, hp]; rfl
  have prs : ∀ sh, prsOf (g.hs.take (t + 1)) sh = prsOf (g.hs.take t) sh ++ if p.2.2 = sh then [[p.1, p.2.1]] else [] := fun sh => by
    unfold prsOf
    rw [tk, List.filter_append, List.map_append]
    congr 1
    by_cases z : p.2.2 = sh
    · rw [if_pos z, List.filter_cons_of_pos (by simpa using z)]
      rfl
    · rw [if_neg z, List.filter_cons_of_neg (by simpa using z)]
      rfl
  refine ⟨same_put h.old h.nf, h.nh, h.nd, h.nf, by rw [upd_ne hf]; exact h.here, by rw [upd_ne df]; exact h.there, upd_same, h.la, fun i q b h1 h2 => (h.pts i q b h1 h2).same tup, fun e he => ?_, putF_nd h.fnd, fun sh => ?_, Nat.le_trans putF_len (Nat.succ_le_succ h.flen)⟩
  · rcases putF_mem he with ⟨he, ne⟩ | rfl
    · show FAt _ g.ha e.2 (prsOf (g.hs.take (t + 1)) e.1)
      rw [prs, if_neg (Ne.symm ne), List.append_nil]
      refine (h.fat e he).same tup fun us z => ?_
      rw [upd_ne (ne_of z h.found fun z => nomatch z)]
      exact z
    · show FAt _ g.ha l (prsOf (g.hs.take (t + 1)) p.2.2)
      rw [prs, if_pos rfl]
      refine ⟨lh, us ++ [.ref q], by rw [upd_ne lf]; exact hl, RowsBy.snoc (R := fun q xs => upd H g.fa _ q = some (.tup xs)) (tup _ _ hq) (hr.imp fun _ _ z => tup _ _ z)⟩
  · show sh ∈ (putF g.fs p.2.2 l).map (·.1) ↔ ∃ r ∈ g.hs.take (t + 1), r.2.2 = sh
    rw [tk, putF_keys]
    constructor
    · intro m
      have : sh ∈ g.fs.map (·.1) ∨ sh = p.2.2 := by
        split at m
        · exact .inl m
        · rcases List.mem_append.mp m with m | m
          · exact .inl m
          · exact .inr (List.mem_singleton.mp m)
      rcases this with m | rfl
      · obtain ⟨r, hr, e⟩ := (h.fky sh).mp m
        exact ⟨r, List.mem_append_left _ hr, e⟩
      · exact ⟨p, List.mem_append_right _ (List.mem_singleton.mpr rfl), rfl⟩
    · rintro ⟨r, hr, rfl⟩
      rcases List.mem_append.mp hr with hr | hr
      · have m := (h.fky r.2.2).mpr ⟨r, hr, rfl⟩
        split
        · exact m
        · exact List.mem_append_left _ m
      · rw [List.mem_singleton.mp hr]
        split
        · rename_i m
          exact m
        · exact List.mem_append_right _ (List.mem_singleton.mpr rfl)
end
end K7
/-! _law_opened: the first statements -/
namespace K7
open L2 PySem PySem.Spec PyProof.Rows Kx RZ
structure GivO (K : PySem.W.Frag) (H : Hp) (tt r e wt : Addr) (ps vs : List V) (n m : Nat) (W : WkP) : Prop where
  tt : SqT K H tt ps
  rows : RowsBy (SqT K H) ps W.ts
  r : SqL K H r (W.rs.map V.int)
  e : SqL K H e (W.es.map V.int)
  wt : SqL K H wt vs
  wrows : RowsBy (SqT K H) vs W.ws
  ok : WkOk n m W
theorem sclaw_opened : FnScope ["tables", "first", "rounds", "rests", "witness", "start", "here", "there", "found", "turn", "state", "standing", "showing", "deed", "number", "after"] ["tables", "first", "rounds", "rests", "witness", "start"] (defScope s_law_opened) := ⟨rfl, rfl, rfl, by decide +kernel, rfl, by decide +kernel, by decide +kernel⟩
abbrev XO (P : Program) (w : World) (K : PySem.W.Frag) (mg : Str → Option Value) (base : Heap) (f : Addr) (cdv : Value) (A : Around) (outer : List Env) (st : Shared) (H : Hp) (E : XK) : Cx := (cxOf CX0 P w K mg base ["tables", "first", "rounds", "rests", "witness", "start", "here", "there", "found", "turn", "state", "standing", "showing", "deed", "number", "after"] "_law_opened" (defScope s_law_opened) f cdv A outer st H E).nox
abbrev opS : List Stmt := defBody s_law_opened
/-- what is given -/
structure Ga where
  tt : Addr
  r : Addr
  e : Addr
  wt : Addr
  ps : List V
  vs : List V
  n : Nat
  m : Nat
  W : WkP
abbrev sgO (a : Ga) (x6 x7 x8 x9 x10 x11 x12 x13 x14 x15 : Option V) : L2.St := [some (.ref a.tt), some (.int a.W.s), some (.ref a.r), some (.ref a.e), some (.ref a.wt), some (.int a.W.y), x6, x7, x8, x9, x10, x11, x12, x13, x14, x15]
abbrev sgG (a : Ga) (g : Go) (x9 x10 x11 x12 x13 x14 x15 : Option V) : L2.St := sgO a (some (.ref g.ha)) (some (.ref g.da)) (some (.ref g.fa)) x9 x10 x11 x12 x13 x14 x15
structure Lo (P : Program) (w : World) (K : PySem.W.Frag) (mg : Str → Option Value) (base : Heap) (f : Addr) (cdv : Value) (A : Around) (outer : List Env) (st : Shared) (H0 : Hp) (a : Ga) : Prop where
  T : Mg mg
  shown : Cal P w K mg base CX0 1 "_law_shown" ["turn", "rest", "many"] spLShown
  hr : Room 1 (A.deeper (envOfC "_law_opened" (defScope s_law_opened) st.heap.objs.size f cdv))
  giv : GivO K H0 a.tt a.r a.e a.wt a.ps a.vs a.n a.m a.W
section
variable {P : Program} {w : World} {K : PySem.W.Frag} {mg : Str → Option Value} {base : Heap} {f : Addr} {cdv : Value} {A : Around} {outer : List Env} {st : Shared} {H0 : Hp} {E : XK} {a : Ga}
variable (Z : Lo P w K mg base f cdv A outer st H0 a)
include Z
theorem o0 : HT (ι := Unit) (XO P w K mg base f cdv A outer st H0 E) (nthS opS 0) (fun _ σ H => σ = sgO a none none none none none none none none none none ∧ H = H0)
    (fun _ σ H => ∃ (ha da fa c : Addr), σ = sgO a (some (.ref ha)) (some (.ref da)) (some (.ref fa)) none none none none none none none ∧ Same H0 H ∧ H0 ha = none ∧ H0 da = none ∧ H0 fa = none ∧ H ha = some (.lst [.ref c]) ∧ H da = some (NestO P w 2 da []) ∧ H fa = some (.dT []) ∧ PtAt H c a.W.p0) := by
  obtain ⟨T, c_shown, hr, G⟩ := Z
  refine ⟨_, (ps_par3 (i := 6) (j := 7) (l := 8) (by rfl) sclaw_opened.nd rfl rfl rfl (by decide) (by decide) (by decide) rfl rfl rfl (pa_cons (pe_lst (pa_cons (pe_tup (pa_cons (pv 1) (pa_cons (pv 5) (pa_cons (pe_op op_timesX (pe_tup (pa_cons pe_int pa_nil)) (pe_callB call_len_seq (by rfl) T.z_len PySem.boot_len (pa_cons (pv 0) pa_nil))) pa_nil)))) pa_nil)) (pa_cons (pe_dnewN 2) (pa_cons pe_dnewT pa_nil))) (by rfl)), ?_⟩
  rintro _ D σ H ⟨rfl, rfl⟩ kk
  have l1 := G.ok.okT.l1
  have l4 := G.ok.okT.l4
  have lps := G.rows.length
  refine ⟨_, rfl, _, rfl, (by show 1 ≤ sizeLine; decide), fun t0 ht0 => ?_⟩
  have e0 := same_new (o := HO.tup [.int 0]) ht0
  have u0 : upd H t0 (HO.tup [.int 0]) t0 = some (.tup [.int 0]) := upd_same
  generalize upd H t0 (HO.tup [.int 0]) = H1 at e0 u0 ⊢
  refine ⟨_, rfl, a.tt, a.ps, rfl, .inr (sqT_same e0 G.tt), ?_⟩
  refine ⟨t0, a.ps.length, [.int 0], rfl, rfl, u0, by simp, by omega, by omega, by decide, fun b H2 e2 hb => ?_⟩
  rw [show (List.replicate a.ps.length [V.int 0]).flatten = (List.replicate a.W.ts.length (0 : Int)).map V.int by rw [List.flatten_replicate_singleton, List.map_replicate, lps]] at hb
  refine ⟨(by show 3 ≤ sizeLine; decide), fun c hc => ?_⟩
  have e3 := same_new (o := HO.tup [.int a.W.s, .int a.W.y, .ref b]) hc
  have u3 : upd H2 c (HO.tup [.int a.W.s, .int a.W.y, .ref b]) c = some (.tup [.int a.W.s, .int a.W.y, .ref b]) := upd_same
  generalize upd H2 c (HO.tup [.int a.W.s, .int a.W.y, .ref b]) = H3 at e3 u3 ⊢
  have pc : PtAt H3 c a.W.p0 := ⟨b, u3, e3 _ _ hb⟩
  refine ⟨(by show 1 ≤ sizeLine; decide), fun ha hha => ?_⟩
  have n3 := e0.trans (e2.trans e3)
  have e4 := same_new (o := HO.lst [.ref c]) hha
  have u4 : upd H3 ha (HO.lst [.ref c]) ha = some (.lst [.ref c]) := upd_same
  generalize upd H3 ha (HO.lst [.ref c]) = H4 at e4 u4 ⊢
  refine fun da hda => ?_
  let H5 := upd H4 da (NestO P w 2 da [])
  have e5 : Same H4 H5 := same_new (o := NestO P w 2 da []) hda
  have u5 : H5 da = some (NestO P w 2 da []) := upd_same
  refine fun fa hfa => ?_
  let H6 := upd H5 fa (HO.dT [])
  have e6 : Same H5 H6 := same_new (o := HO.dT []) hfa
  have u6 : H6 fa = some (HO.dT []) := upd_same
  have back : ∀ {Hx : Hp} {x : Addr}, Same H Hx → Hx x = none → H x = none := fun {Hx x} e h => by
    cases z : H x with
    | none => rfl
    | some o =>
      have := e _ _ z
      rw [h] at this
      cases this
  have e56 := e5.trans e6
  exact ⟨_, _, _, rfl, kk _ _ ⟨ha, da, fa, c, rfl, n3.trans (e4.trans e56), back n3 hha, back (n3.trans e4) hda, back (n3.trans (e4.trans e5)) hfa, e56 _ _ u4, e6 _ _ u5, u6, pc.same fun _ _ z => (e4.trans e56) _ _ z⟩⟩
/-- what stands before the walk goes on: point t -/
abbrev B0 (P : Program) (w : World) (H0 : Hp) (a : Ga) (t : Nat) (σ : L2.St) (H : Hp) : Prop := ∃ (g : Go) (x9 x10 x11 x12 x13 x14 x15 : Option V), σ = sgG a g x9 x10 x11 x12 x13 x14 x15 ∧ Gw P w H0 g t H ∧ Wi a.W g.hs t 0
theorem o1 : HT (ι := Unit) (XO P w K mg base f cdv A outer st H0 E) (nthS opS 1) (fun _ σ H => ∃ (ha da fa c : Addr), σ = sgO a (some (.ref ha)) (some (.ref da)) (some (.ref fa)) none none none none none none none ∧ Same H0 H ∧ H0 ha = none ∧ H0 da = none ∧ H0 fa = none ∧ H ha = some (.lst [.ref c]) ∧ H da = some (NestO P w 2 da []) ∧ H fa = some (.dT []) ∧ PtAt H c a.W.p0)
    (fun _ σ H => B0 P w H0 a 0 σ H) := by
  obtain ⟨T, c_shown, hr, G⟩ := Z
  refine ⟨_, (ps_asg pe_bl (pg_sub (pv 7) (pe_ix ix_list (pv 6) pe_int (fun _ _ => rfl)) (set_nest (r64 hr)))), ?_⟩
  rintro _ D σ H ⟨ha, da, fa, c, rfl, e1, nh, nd, nf, hh, hd, hf, pc⟩ kk
  refine ⟨_, rfl, _, rfl, ha, _, _, _, rfl, rfl, SqL.of hh, rfl, ?_⟩
  refine ⟨da, c, [], 2, keyP a.W.p0, rfl, rfl, rfl, hd, pc.key, (fun _ h => nomatch h), (fun h => nomatch h), (by show 0 < sizeLine; decide), ?_⟩
  have dh : ha ≠ da := ne_of hh hd fun z => nomatch z
  have df : fa ≠ da := ne_of hf hd fun z => nomatch z
  have tup : ∀ b us, H b = some (.tup us) → upd H da (NestO P w 2 da ([] ++ [(keyP a.W.p0, c)])) b = some (.tup us) := fun b us z => by
    rw [upd_ne (ne_of z hd fun z => nomatch z)]
    exact z
  refine kk _ _ ⟨⟨ha, da, fa, [c], [a.W.p0], []⟩, _, _, _, _, _, _, _, rfl, ⟨same_put e1 nd, nh, nd, nf, by rw [upd_ne dh]; exact hh, upd_same, by rw [upd_ne df]; exact hf, rfl, fun i p b h1 h2 => ?_, (fun _ h => nomatch h), List.nodup_nil, fun sh => ?_, Nat.zero_le _⟩, .init⟩
  · obtain rfl : i = 0 := by
      have : i < 1 := (List.getElem?_eq_some_iff.mp h1).1
      omega
    cases h1
    cases h2
    exact pc.same tup
  · constructor
    · intro h
      cases h
    · rintro ⟨p, hp, _⟩
      cases hp
end
end K7
/-! _law_opened: the walk -/
namespace K7
open L2 PySem PySem.Spec PyProof.Rows Kx RZ
section
variable {P : Program} {w : World} {K : PySem.W.Frag} {mg : Str → Option Value} {base : Heap} {f : Addr} {cdv : Value} {A : Around} {outer : List Env} {st : Shared} {H0 : Hp} {E : XK} {a : Ga}
/-- at point t: tf are found, d deeds are done -/
abbrev C1 (P : Program) (w : World) (H0 : Hp) (a : Ga) (t tf d : Nat) (σ : L2.St) (H : Hp) : Prop := ∃ (g : Go) (p : Pnt) (b : Addr) (x13 x14 x15 : Option V), σ = sgG a g (some (.int (t : Nat))) (some (.int p.1)) (some (.int p.2.1)) (some (.ref b)) x13 x14 x15 ∧ Gw P w H0 g tf H ∧ Wi a.W g.hs t d ∧ g.hs[t]? = some p ∧ H b = some (.tup (p.2.2.map V.int))
variable (Z : Lo P w K mg base f cdv A outer st H0 a)
include Z
theorem b1 : HT (ι := Nat) (XO P w K mg base f cdv A outer st H0 E) (nthS (inS (nthS opS 2)) 1) (fun t σ H => ∃ (g : Go) (x10 x11 x12 x13 x14 x15 : Option V), σ = sgG a g (some (.int (t : Nat))) x10 x11 x12 x13 x14 x15 ∧ Gw P w H0 g t H ∧ Wi a.W g.hs t 0 ∧ t < g.hs.length) (fun t σ H => C1 P w H0 a t t 0 σ H) := by
  obtain ⟨T, c_shown, hr, G⟩ := Z
  refine ⟨_, (ps_asg (pe_ix ix_list (pv 6) (pv 9) (fun _ _ => rfl)) (pg_tup rfl (pgs_cons (pg_name (i := 10) sclaw_opened.nd rfl (by first | exact Or.inl rfl | exact Or.inr rfl)) (pgs_cons (pg_name (i := 11) sclaw_opened.nd rfl (by first | exact Or.inl rfl | exact Or.inr rfl)) (pgs_cons (pg_name (i := 12) sclaw_opened.nd rfl (by first | exact Or.inl rfl | exact Or.inr rfl)) pgs_nil))))), ?_⟩
  rintro t D σ H ⟨g, x10, x11, x12, x13, x14, x15, rfl, gw, wi, lt⟩ kk
  have hp : g.hs[t]? = some g.hs[t] := List.getElem?_eq_getElem lt
  have la : t < g.as.length := by rw [gw.la]; exact lt
  have hA : g.as[t]? = some g.as[t] := List.getElem?_eq_getElem la
  have pa := gw.pts t _ _ hp hA
  obtain ⟨b, b1, b2⟩ := id pa
  refine ⟨_, rfl, _, rfl, g.ha, _, _, _, rfl, rfl, SqL.of gw.here, atI_nat (by rw [List.getElem?_map, hA]; rfl), ?_⟩
  exact ⟨_, _, rfl, SqT.of b1, rfl, _, _, rfl, _, _, rfl, _, _, rfl, rfl, kk _ _ ⟨g, _, b, x13, x14, x15, rfl, gw, wi, hp, b2⟩⟩
theorem b2 : HT (ι := Nat) (XO P w K mg base f cdv A outer st H0 E) (nthS (inS (nthS opS 2)) 2) (fun t σ H => C1 P w H0 a t t 0 σ H ∧ t < 5000) (fun t σ H => C1 P w H0 a t (t + 1) 0 σ H) := by
  obtain ⟨T, c_shown, hr, G⟩ := Z
  refine ⟨_, (ps_dput (r1 hr) (pv 8) (pv 12) (pe_op op_cat (pe_dget2 (r1 hr) (pv 8) (pv 12) (pe_lst pa_nil) ⟨rfl, rfl, rfl, rfl⟩) (pe_lst (pa_cons (pe_tup (pa_cons (pv 10) (pa_cons (pv 11) pa_nil))) pa_nil))) rfl), ?_⟩
  rintro t D σ H ⟨⟨g, p, b, x13, x14, x15, rfl, gw, wi, hp, hb⟩, t5⟩ kk
  have wl := wi.len
  have get : DGet H g.fa (.ref b) (valV (kvOf g.fs) (p.2.2.map Sum.inl)) := DGet.t gw.found (by rw [inl_kV]; exact hb)
  refine ⟨_, rfl, g.fa, rfl, .inr ⟨_, .inl gw.found⟩, _, rfl, (by show 0 ≤ sizeLine; decide), fun l0 hl0 => ?_⟩
  have e0 := same_new (o := HO.lst []) hl0
  have u0 : upd H l0 (HO.lst []) l0 = some (.lst []) := upd_same
  have n0 : l0 ≠ g.ha := fun z => by
    have := gw.here
    rw [← z, show H l0 = none from hl0] at this
    cases this
  generalize upd H l0 (HO.lst []) = H1 at e0 u0 ⊢
  have g1 := gw.same e0
  have get1 : DGet H1 g.fa (.ref b) (valV (kvOf g.fs) (p.2.2.map Sum.inl)) := DGet.t g1.found (by rw [inl_kV]; exact e0 _ _ hb)
  refine ⟨_, get1, ?_⟩
  refine ⟨_, rfl, _, rfl, (by show 2 ≤ sizeLine; decide), fun q hq => ?_⟩
  have e1 := same_new (o := HO.tup [.int p.1, .int p.2.1]) hq
  have u1 : upd H1 q (HO.tup [.int p.1, .int p.2.1]) q = some (.tup [.int p.1, .int p.2.1]) := upd_same
  generalize upd H1 q (HO.tup [.int p.1, .int p.2.1]) = H2 at e1 u1 ⊢
  have g2 := g1.same e1
  refine ⟨(by show 1 ≤ sizeLine; decide), fun l1 hl1 => ?_⟩
  have e2 := same_new (o := HO.lst [.ref q]) hl1
  have u2 : upd H2 l1 (HO.lst [.ref q]) l1 = some (.lst [.ref q]) := upd_same
  generalize upd H2 l1 (HO.lst [.ref q]) = H3 at e2 u2 ⊢
  have g3 := g2.same e2
  have e03 := e0.trans (e1.trans e2)
  -- what was found there before
  obtain ⟨l, us, el, hl, hus, len⟩ : ∃ (l : Addr) (us : List V), ((valV (kvOf g.fs) (p.2.2.map Sum.inl)).getD (.ref l0)) = .ref l ∧ H3 l = some (.lst us) ∧ RowsBy (fun q xs => H3 q = some (.tup xs)) us (prsOf (g.hs.take t) p.2.2) ∧ us.length ≤ 30000 := by
    by_cases m : p.2.2 ∈ g.fs.map (·.1)
    · obtain ⟨e, he, ee⟩ := List.mem_map.mp m
      obtain ⟨_, us, h1, h2⟩ := g3.fat e he
      rw [ee] at h2
      refine ⟨e.2, us, ?_, h1, h2, ?_⟩
      · rw [val_kv gw.fnd (l := e.2) (by rw [← ee]; exact he)]
        rfl
      · rw [h2.length]
        unfold prsOf
        rw [List.length_map]
        exact Nat.le_trans (List.length_filter_le _ _) (by rw [List.length_take]; omega)
    · refine ⟨l0, [], ?_, (e1.trans e2) _ _ u0, ?_, Nat.zero_le _⟩
      · rw [val_no m]
        rfl
      · have : (g.hs.take t).filter (fun r => decide (r.2.2 = p.2.2)) = [] := List.filter_eq_nil_iff.mpr fun r hr z => m ((gw.fky _).mpr ⟨r, hr, of_decide_eq_true z⟩)
        unfold prsOf
        rw [this]
        trivial
  rw [el]
  refine ⟨l, l1, us, [.ref q], rfl, rfl, hl, u2, by rw [sizeLine_eq]; show us.length + 1 ≤ _; omega, fun ln hln => ?_⟩
  have e4 := same_new (o := HO.lst (us ++ [.ref q])) hln
  have u4 : upd H3 ln (HO.lst (us ++ [.ref q])) ln = some (.lst (us ++ [.ref q])) := upd_same
  have n4 : ln ≠ g.ha := fun z => by
    have := g3.here
    rw [← z, show H3 ln = none from hln] at this
    cases this
  generalize upd H3 ln (HO.lst (us ++ [.ref q])) = H4 at e4 u4 ⊢
  have g4 := g3.same e4
  have fl := g4.flen
  have hb4 := (e03.trans e4) _ _ hb
  refine ⟨_, rfl, _, rfl, g.fa, _, rfl, DPut.t (k := p.2.2.map Sum.inl) (v := .ref ln) g4.found (by rw [inl_kV]; exact hb4) (by unfold kvOf; rw [List.length_map, sizeLine_eq]; omega), ?_⟩
  rw [kv_put]
  refine kk _ _ ⟨{ g with fs := putF g.fs p.2.2 ln }, p, b, x13, x14, x15, rfl, g4.find hp ((e2.trans e4) _ _ u1) us u4 (hus.imp fun _ _ z => e4 _ _ z) n4, wi, hp, ?_⟩
  rw [upd_ne (ne_of hb4 g4.found fun z => nomatch z)]
  exact hb4
end
end K7
/-! _law_opened: one point's deeds -/
namespace K7
open L2 PySem PySem.Spec PyProof.Rows Kx RZ
theorem ints_at {l : List Int} {d : Nat} (h : d < l.length) : atI (l.map V.int) ((d : Nat) : Int) = some (V.int (l.getD d 0)) := atI_nat (by rw [List.getElem?_map, getD_at h]; rfl)
theorem dot {W : WkP} {p : Pnt} {d : Nat} : W.nxt p d = (tx (W.ts.getD d []) p.1, tx (W.ws.getD d []) p.2.1, p.2.2.set d (shw (W.rs.getD d 0) (W.es.getD d 0) (p.2.2.getD d 0 + 1))) := rfl
section
variable {P : Program} {w : World} {K : PySem.W.Frag} {mg : Str → Option Value} {base : Heap} {f : Addr} {cdv : Value} {A : Around} {outer : List Env} {st : Shared} {H0 : Hp} {E : XK} {a : Ga}
variable (Z : Lo P w K mg base f cdv A outer st H0 a)
include Z
theorem b3 : HT (ι := Nat) (XO P w K mg base f cdv A outer st H0 E) (nthS (inS (nthS opS 2)) 3) (fun t σ H => C1 P w H0 a t (t + 1) 0 σ H ∧ t < 5000) (fun t σ H => C1 P w H0 a t (t + 1) a.W.ts.length σ H) := by
  obtain ⟨T, c_shown, hr, G⟩ := Z
  refine ⟨_, (ps_for PassesOwn.never rfl (pi_range1 (by rfl) T.z_range (pa_cons (pe_callB call_len_seq (by rfl) T.z_len PySem.boot_len (pa_cons (pv 0) pa_nil)) pa_nil)) (pg_name (i := 13) sclaw_opened.nd rfl (by first | exact Or.inl rfl | exact Or.inr rfl))
  (pss_cons (ps_set (i := 14) sclaw_opened.nd rfl (by first | exact Or.inl rfl | exact Or.inr rfl) (pe_callC c_shown hr pass0 (pa_cons (pe_ix ix_list (pv 2) (pv 13) (fun _ _ => rfl)) (pa_cons (pe_ix ix_list (pv 3) (pv 13) (fun _ _ => rfl)) (pa_cons (pe_op op_add (pe_ix (ix_tupK (K := K)) (pv 12) (pv 13) (fun _ _ => rfl)) pe_int) pa_nil)))))
  (pss_cons (ps_set (i := 15) sclaw_opened.nd rfl (by first | exact Or.inl rfl | exact Or.inr rfl) (pe_tup (pa_cons (pe_ix (ix_tupK (K := K)) (pe_ix (ix_tupK (K := K)) (pv 0) (pv 13) (fun _ _ => rfl)) (pv 10) (fun _ _ => rfl)) (pa_cons (pe_ix (ix_tupK (K := K)) (pe_ix ix_list (pv 4) (pv 13) (fun _ _ => rfl)) (pv 11) (fun _ _ => rfl)) (pa_cons (pe_op op_catX (pe_op op_catX (pe_slice sl_cutX (pv 12) po_none (po_some (pv 13))) (pe_tup (pa_cons (pv 14) pa_nil))) (pe_slice sl_cutX (pv 12) (po_some (pe_op op_add (pv 13) pe_int)) po_none)) pa_nil)))))
  (pss_one (ps_if (pt_cmpR (op_notInN (r64 hr)) (pv 15) (pv 7) (by rfl))
  (pss_cons (ps_asg pe_bl (pg_sub (pv 7) (pv 15) (set_nest (r64 hr))))
  (pss_one (ps_expr (pe_bm PySem.F.plainAttrs_list PySem.F.slot_list_append PySem.F.type_list_append mt_append (pv 6) (pa_cons (pv 15) pa_nil)))))
  pss_nil))))), ?_⟩
  rintro t D σ H ⟨⟨g, p, b, x13, x14, x15, rfl, gw, wi, hp, hb⟩, t5⟩ kk
  have lps := G.rows.length
  have l4 := G.ok.okT.l4
  have lvs := G.wrows.length
  refine ⟨_, rfl, a.tt, a.ps, rfl, .inr (sqT_same gw.old G.tt), ?_⟩
  refine ⟨a.ps.length, rfl, by omega, by omega, for_range (lo := 0) (n := a.ps.length) (fun d σ' H' => C1 P w H0 a t (t + 1) d σ' H') ⟨g, p, b, x13, x14, x15, rfl, gw, wi, hp, hb⟩ ?_ ?_⟩
  · rintro d σ' H1 hd ⟨g, p, b, x13, x14, x15, rfl, gw, wi, hp, hb⟩
    rw [show (0 : Int) + (d : Int) = (d : Int) from Int.zero_add _]
    rw [lps] at hd
    have wl := wi.len
    have pr := G.ok.pt (wi.pt p (List.mem_of_getElem? hp))
    have lsh := pr.len
    have td : a.W.ts[d]? = some a.W.ts[d] := List.getElem?_eq_getElem hd
    have hdw : d < a.W.ws.length := by rw [G.ok.lw]; exact hd
    have wd : a.W.ws[d]? = some a.W.ws[d] := List.getElem?_eq_getElem hdw
    obtain ⟨qt, t1, t2⟩ := G.rows.at_ td
    obtain ⟨qw, w1, w2⟩ := G.wrows.at_ wd
    obtain ⟨tl, tr⟩ := Mok.inr G.ok.okT (List.getElem_mem hd)
    obtain ⟨wl', wr⟩ := G.ok.wl _ (List.getElem_mem hdw)
    have gt := getD_of td
    have gw' := getD_of wd
    generalize a.W.ts[d] = tA at t2 tl tr gt td
    generalize a.W.ws[d] = tB at w2 wl' wr gw' wd
    have rat := ints_at (l := a.W.rs) (d := d) (by rw [G.ok.lr]; exact hd)
    have eat := ints_at (l := a.W.es) (d := d) (by rw [G.ok.le]; exact hd)
    have sat := ints_at (l := p.2.2) (d := d) (by rw [lsh]; exact hd)
    have old := gw.old
    refine ⟨_, rfl, _, rfl, a.r, _, _, _, rfl, rfl, sqL_same old G.r, rat, ?_⟩
    refine ⟨_, rfl, _, rfl, a.e, _, _, _, rfl, rfl, sqL_same old G.e, eat, ?_⟩
    refine ⟨_, rfl, _, rfl, b, _, _, _, rfl, rfl, SqT.of hb, sat, _, _, rfl, rfl, ?_⟩
    refine ⟨_, _, _, rfl, getD_nn G.ok.r0, ?_⟩
    refine ⟨_, rfl, _, rfl, a.tt, a.ps, _, _, rfl, rfl, sqT_same old G.tt, atI_nat t1, _, rfl, qt, _, _, _, rfl, rfl, sqT_same old t2, at_int pr.x0 (tr.at_ pr.x0 (by rw [tl]; exact pr.x1)).1, ?_⟩
    refine ⟨_, rfl, _, rfl, a.wt, _, _, _, rfl, rfl, sqL_same old G.wt, atI_nat w1, _, rfl, qw, _, _, _, rfl, rfl, sqT_same old w2, at_int pr.y0 (wr.at_ pr.y0 (by rw [wl']; exact pr.y1)).1, ?_⟩
    refine ⟨_, rfl, _, rfl, _, rfl, b, _, rfl, hb, fun c1 H2 e2 h2 => ?_⟩
    refine ⟨_, rfl, (by show 1 ≤ sizeLine; decide), fun c2 hc2 => ?_⟩
    let nv := shw (a.W.rs.getD d 0) (a.W.es.getD d 0) (p.2.2.getD d 0 + 1)
    have e3 := same_new (o := HO.tup [.int nv]) hc2
    have u3 : upd H2 c2 (HO.tup [.int nv]) c2 = some (.tup [.int nv]) := upd_same
    refine ⟨c1, c2, _, _, rfl, rfl, e3 _ _ h2, u3, ?_, fun c3 H4 e4 h4 => ?_⟩
    · have := cutV_length (p.2.2.map V.int) none (some (d : Int))
      rw [List.length_map] at this
      rw [List.length_singleton, sizeLine_eq]
      omega
    have e24 := e2.trans (e3.trans e4)
    refine ⟨_, rfl, _, rfl, _, _, rfl, rfl, _, rfl, b, _, rfl, e24 _ _ hb, fun c5 H5 e5 h5 => ?_⟩
    refine ⟨c3, c5, _, _, rfl, rfl, e5 _ _ h4, h5, ?_, fun c6 H6 e6 h6 => ?_⟩
    · have a1 := cutV_length (p.2.2.map V.int) none (some (d : Int))
      have a2 := cutV_length (p.2.2.map V.int) (some ((d : Int) + 1)) none
      rw [List.length_map] at a1 a2
      rw [List.length_append, List.length_singleton, sizeLine_eq]
      omega
    rw [cut_put (by rw [List.length_map, lsh]; exact hd)] at h6
    have e26 := e24.trans (e5.trans e6)
    refine ⟨(by show 3 ≤ sizeLine; decide), fun c hc => ?_⟩
    have e7 := same_new (o := HO.tup [.int (tx tA p.1), .int (tx tB p.2.1), .ref c6]) hc
    have u7 : upd H6 c (HO.tup [.int (tx tA p.1), .int (tx tB p.2.1), .ref c6]) c = some (.tup [.int (tx tA p.1), .int (tx tB p.2.1), .ref c6]) := upd_same
    generalize upd H6 c (HO.tup [.int (tx tA p.1), .int (tx tB p.2.1), .ref c6]) = H7 at e7 u7 ⊢
    have pc : PtAt H7 c (a.W.nxt p d) := by
      rw [dot, gt, gw']
      exact ⟨c6, u7, by rw [e7 _ _ h6]; show some (HO.tup _) = some (HO.tup _); rw [List.map_set]⟩
    have g7 := gw.same (e26.trans e7)
    have hb7 := (e26.trans e7) _ _ hb
    have fk : ((g.hs.map keyP).zip g.as).map (·.1) = g.hs.map keyP := List.map_fst_zip (by rw [List.length_map, gw.la]; exact Nat.le_refl _)
    have keys : ∀ x ∈ (g.hs.map keyP).zip g.as, KeyN K H7 2 x.1 x.2 := fun x hx => by
      obtain ⟨i, hi⟩ := List.getElem?_of_mem hx
      obtain ⟨i1, i2⟩ := List.getElem?_zip_eq_some.mp hi
      rw [List.getElem?_map] at i1
      obtain ⟨q, hq, eq⟩ := Option.map_eq_some_iff.mp i1
      rw [← eq]
      exact (g7.pts i q _ hq i2).key
    refine ⟨_, rfl, _, rfl, g.da, c, _, 2, keyP (a.W.nxt p d), rfl, rfl, g7.there, pc.key, keys, ?_⟩
    rw [fk]
    by_cases m : a.W.nxt p d ∈ g.hs
    · rw [decide_eq_true (List.mem_map.mpr ⟨_, m, rfl⟩ : keyP (a.W.nxt p d) ∈ g.hs.map keyP)]
      exact ⟨_, rfl, iteF ⟨g, p, b, _, _, _, rfl, g7, wi.skip hp m, hp, hb7⟩⟩
    · have no : keyP (a.W.nxt p d) ∉ g.hs.map keyP := fun z => by
        obtain ⟨q, hq, e⟩ := List.mem_map.mp z
        exact m (by rw [← keyP_inj e]; exact hq)
      rw [decide_eq_false no]
      refine ⟨_, rfl, iteT ?_⟩
      refine ⟨_, rfl, _, rfl, g.da, c, _, 2, keyP (a.W.nxt p d), rfl, rfl, rfl, g7.there, pc.key, keys, by rw [fk]; exact no, ?_, ?_⟩
      · rw [List.length_zip, List.length_map, gw.la, Nat.min_self, sizeLine_eq]
        omega
      have hd' : g.ha ≠ g.da := ne_of g7.here g7.there fun z => nomatch z
      refine ⟨_, rfl, .inl ⟨rfl, _, SqL.of (by rw [upd_ne hd']; exact g7.here)⟩, ?_⟩
      have tl' : t + 1 ≤ g.hs.length := (List.getElem?_eq_some_iff.mp hp).1
      have cm := g7.come tl' pc
      have lth := (List.getElem?_eq_some_iff.mp hp).1
      refine ⟨_, rfl, g.ha, _, _, rfl, rfl, (by rw [upd_ne hd']; exact g7.here), by rw [List.length_map, gw.la, sizeLine_eq]; omega, ?_⟩
      refine ⟨{ g with as := g.as ++ [c], hs := g.hs ++ [a.W.nxt p d] }, p, b, _, _, _, rfl, cm, wi.more hp hd m, ?_, ?_⟩
      · show (g.hs ++ [a.W.nxt p d])[t]? = some p
        rw [List.getElem?_append_left lth]
        exact hp
      · rw [upd_ne (ne_of hb7 g7.here fun z => nomatch z), upd_ne (ne_of hb7 g7.there fun z => nomatch z)]
        exact hb7
  · rintro σ' H1 h
    rw [lps] at h
    exact kk _ _ h
end
end K7
/-! _law_opened: the loop, the lists sorted -/
namespace K7
open L2 PySem PySem.Spec PyProof.Rows Kx RZ
section
variable {P : Program} {w : World} {K : PySem.W.Frag} {mg : Str → Option Value} {base : Heap} {f : Addr} {cdv : Value} {A : Around} {outer : List Env} {st : Shared} {H0 : Hp} {E : XK} {a : Ga}
/-- behind the walk -/
abbrev B2 (P : Program) (w : World) (H0 : Hp) (a : Ga) (σ : L2.St) (H : Hp) : Prop := ∃ (t : Nat) (g : Go) (x9 x10 x11 x12 x13 x14 x15 : Option V), σ = sgG a g x9 x10 x11 x12 x13 x14 x15 ∧ Gw P w H0 g t H ∧ Wi a.W g.hs t 0 ∧ t ≤ 5000 ∧ (g.hs.length ≤ 5000 → t = g.hs.length)
variable (Z : Lo P w K mg base f cdv A outer st H0 a)
include Z
theorem rest : HTs (ι := Nat) (XO P w K mg base f cdv A outer st H0 E) [nthS (inS (nthS opS 2)) 1, nthS (inS (nthS opS 2)) 2, nthS (inS (nthS opS 2)) 3] (fun t σ H => (∃ (g : Go) (x10 x11 x12 x13 x14 x15 : Option V), σ = sgG a g (some (.int (t : Nat))) x10 x11 x12 x13 x14 x15 ∧ Gw P w H0 g t H ∧ Wi a.W g.hs t 0 ∧ t < g.hs.length) ∧ t < 5000) (fun t σ H => B0 P w H0 a (t + 1) σ H) := by
  have l4 := Z.giv.ok.okT.l4
  have h1 : HT (ι := Nat) (XO P w K mg base f cdv A outer st H0 E) (nthS (inS (nthS opS 2)) 1) (fun t σ H => (∃ (g : Go) (x10 x11 x12 x13 x14 x15 : Option V), σ = sgG a g (some (.int (t : Nat))) x10 x11 x12 x13 x14 x15 ∧ Gw P w H0 g t H ∧ Wi a.W g.hs t 0 ∧ t < g.hs.length) ∧ t < 5000) (fun t σ H => C1 P w H0 a t t 0 σ H ∧ t < 5000) := HT.by (b1 Z) fun t σ H h => ⟨t, h.1, fun _ _ q => ⟨q, h.2⟩⟩
  have h2 : HT (ι := Nat) (XO P w K mg base f cdv A outer st H0 E) (nthS (inS (nthS opS 2)) 2) (fun t σ H => C1 P w H0 a t t 0 σ H ∧ t < 5000) (fun t σ H => C1 P w H0 a t (t + 1) 0 σ H ∧ t < 5000) := HT.by (b2 Z) fun t σ H h => ⟨t, h, fun _ _ q => ⟨q, h.2⟩⟩
  have h3 : HT (ι := Nat) (XO P w K mg base f cdv A outer st H0 E) (nthS (inS (nthS opS 2)) 3) (fun t σ H => C1 P w H0 a t (t + 1) 0 σ H ∧ t < 5000) (fun t σ H => B0 P w H0 a (t + 1) σ H) := HT.by (b3 Z) fun t σ H h => ⟨t, h, fun _ _ q => by
    obtain ⟨g, p, b, x13, x14, x15, e, gw, wi, hp, hb⟩ := q
    exact ⟨g, _, _, _, _, _, _, _, e, gw, wi.on hp l4⟩⟩
  exact HTs.cons h1 (HTs.cons h2 (HTs.one h3))
theorem o2 : HT (ι := Unit) (XO P w K mg base f cdv A outer st H0 E) (nthS opS 2) (fun _ σ H => B0 P w H0 a 0 σ H) (fun _ σ H => B2 P w H0 a σ H) := by
  obtain ⟨tb, hb1, hb2⟩ := rest (E := E) Z
  obtain ⟨T, c_shown, hr, G⟩ := Z
  refine ⟨_, (ps_for PassesOwn.never rfl (pi_range1 (by rfl) T.z_range (pa_cons pe_int pa_nil)) (pg_name (i := 9) sclaw_opened.nd rfl (by first | exact Or.inl rfl | exact Or.inr rfl))
  (pss_cons (ps_if (pt_cmpR op_eq (pv 9) (pe_callB call_len_seq (by rfl) T.z_len PySem.boot_len (pa_cons (pv 6) pa_nil)) (nomark _))
  (pss_one ps_break)
  pss_nil) hb1)), ?_⟩
  rintro _ D σ H h0 kk
  refine ⟨5000, rfl, by decide, by decide, for_range (lo := 0) (n := 5000) (fun t σ' H' => B0 P w H0 a t σ' H') h0 ?_ ?_⟩
  · rintro t σ' H1 ht ⟨g, x9, x10, x11, x12, x13, x14, x15, rfl, gw, wi⟩
    rw [show (0 : Int) + (t : Int) = (t : Int) from Int.zero_add _]
    refine ⟨_, rfl, _, rfl, g.ha, _, rfl, .inl (SqL.of gw.here), ?_⟩
    refine ⟨rfl, _, rfl, ite2 (fun h => ?_) (fun h => ?_)⟩
    · have e : t = g.hs.length := by
        have e := of_decide_eq_true h
        rw [List.length_map, gw.la] at e
        cases e
        rfl
      exact kk _ _ ⟨t, g, _, _, _, _, _, _, _, rfl, gw, wi, by omega, fun _ => e⟩
    · have ne : t ≠ g.hs.length := fun z => h (by rw [List.length_map, gw.la, z]; exact decide_eq_true rfl)
      have tl := wi.tl
      exact hb2 t _ _ _ ⟨⟨g, _, _, _, _, _, _, rfl, gw, wi, by omega⟩, ht⟩ fun _ _ q => q
  · rintro σ' H1 ⟨g, x9, x10, x11, x12, x13, x14, x15, rfl, gw, wi⟩
    have tl := wi.tl
    exact kk _ _ ⟨5000, g, _, _, _, _, _, _, _, rfl, gw, wi, Nat.le_refl _, fun h => by omega⟩
end
end K7
/-! _law_opened: the lists sorted -/
namespace K7
open L2 PySem PySem.Spec PyProof.Rows Kx RZ
/-- not behind -/
def Lx (p q : List Int) : Prop := ∀ x y x' y', p = [x, y] → q = [x', y'] → x < x' ∨ (x = x' ∧ y ≤ y')
/-- the pair that stands at v -/
def pairAt (H : Hp) (v : V) : Int × Int := match v with
  | .ref t => match H t with
    | some (.tup [.int i, .int j]) => (i, j)
    | _ => (0, 0)
  | _ => (0, 0)
theorem pairAt_of {H : Hp} {t : Addr} {i j : Int} (h : H t = some (.tup [.int i, .int j])) : pairAt H (.ref t) = (i, j) := by
  simp only [pairAt, h]
def prOf (H : Hp) (v : V) : List Int := [(pairAt H v).1, (pairAt H v).2]
theorem rows_prs {H : Hp} : ∀ {us : List V} {prs : List (List Int)}, (∀ pr ∈ prs, ∃ x y, pr = [x, y]) → RowsBy (fun q xs => H q = some (.tup xs)) us prs → prs = us.map (prOf H) ∧ ∀ v ∈ us, ∃ t, v = .ref t ∧ H t = some (.tup [.int (pairAt H v).1, .int (pairAt H v).2])
  | [], [], _, _ => ⟨rfl, fun _ h => nomatch h⟩
  | v :: us, pr :: prs, h, ⟨⟨t, h1, h2⟩, h3⟩ => by
    obtain ⟨x, y, e⟩ := h pr List.mem_cons_self
    subst e h1
    have h2 : H t = some (.tup [.int x, .int y]) := h2
    have pa := pairAt_of h2
    obtain ⟨i1, i2⟩ := rows_prs (fun p hp => h p (List.mem_cons_of_mem _ hp)) h3
    refine ⟨?_, fun v hv => ?_⟩
    · rw [List.map_cons, ← i1]
      unfold prOf
      rw [pa]
    · rcases List.mem_cons.mp hv with e | hv
      · rw [e]
        exact ⟨t, rfl, by rw [pa]; exact h2⟩
      · exact i2 v hv
  | [], _ :: _, _, h => h.elim
  | _ :: _, [], _, h => h.elim
theorem rows_back {H : Hp} : ∀ {us : List V}, (∀ v ∈ us, ∃ t, v = .ref t ∧ H t = some (.tup [.int (pairAt H v).1, .int (pairAt H v).2])) → RowsBy (fun q xs => H q = some (.tup xs)) us (us.map (prOf H))
  | [], _ => trivial
  | v :: us, h => by
    obtain ⟨t, e, ht⟩ := h v List.mem_cons_self
    exact ⟨⟨t, e, ht⟩, rows_back fun u hu => h u (List.mem_cons_of_mem _ hu)⟩
theorem srt_lx {H : Hp} {ys : List V} (h : SrtO.Srtd (ltP (pairAt H)) ys) : (ys.map (prOf H)).Pairwise Lx := by
  refine List.pairwise_map.mpr (List.Pairwise.imp (fun {u v} q => ?_) h)
  intro x y x' y' e1 e2
  have q := SrtO.lexB_no.mp q
  unfold prOf at e1 e2
  obtain ⟨a1, a2⟩ : (pairAt H u).1 = x ∧ (pairAt H u).2 = y := by simpa using e1
  obtain ⟨c1, c2⟩ : (pairAt H v).1 = x' ∧ (pairAt H v).2 = y' := by simpa using e2
  rw [a1, a2, c1, c2] at q
  omega
theorem key_at {H : Hp} {kvs : List (List L2.Key × V)} {bs : List Addr} (h : IsKeys H kvs bs) {i : Nat} {kv : List L2.Key × V} (e : kvs[i]? = some kv) : ∃ b, bs[i]? = some b ∧ H b = some (.tup (kv.1.map kV)) := by
  unfold IsKeys at h
  induction h generalizing i with
  | nil => cases e
  | @cons p b ps qs r t ih =>
    cases i with
    | zero =>
      cases e
      exact ⟨b, rfl, r⟩
    | succ i => exact ih (by simpa using e)
theorem keys_len {H : Hp} {kvs : List (List L2.Key × V)} {bs : List Addr} (h : IsKeys H kvs bs) : bs.length = kvs.length := by
  unfold IsKeys at h
  induction h with
  | nil => rfl
  | cons _ _ ih => rw [List.length_cons, List.length_cons, ih]
theorem putF_set {fs : List (List Int × Addr)} {sh : List Int} {l p : Addr} {i : Nat} (nd : (fs.map (·.1)).Nodup) (h : fs[i]? = some (sh, l)) : putF fs sh p = fs.set i (sh, p) := by
  unfold putF
  rw [if_pos (List.mem_map.mpr ⟨_, List.mem_of_getElem? h, rfl⟩)]
  refine List.ext_getElem? fun j => ?_
  rw [List.getElem?_map, List.getElem?_set]
  have li := (List.getElem?_eq_some_iff.mp h).1
  by_cases e : i = j
  · subst e
    rw [if_pos rfl, if_pos li, h]
    show some (if sh = sh then (sh, p) else (sh, l)) = _
    rw [if_pos rfl]
  · rw [if_neg e]
    cases z : fs[j]? with
    | none => rfl
    | some d =>
      have ne : d.1 ≠ sh := fun w => e (by
        have lj := (List.getElem?_eq_some_iff.mp z).1
        have hi : (fs.map (·.1))[i]? = some sh := by rw [List.getElem?_map, h]; rfl
        have hj : (fs.map (·.1))[j]? = some sh := by rw [List.getElem?_map, z, ← w]; rfl
        exact (List.getElem?_inj (by rw [List.length_map]; exact li) nd).mp (hi.trans hj.symm))
      show some (if d.1 = sh then (d.1, p) else d) = _
      rw [if_neg ne]
section
variable {P : Program} {w : World} {K : PySem.W.Frag} {mg : Str → Option Value} {base : Heap} {f : Addr} {cdv : Value} {A : Around} {outer : List Env} {st : Shared} {H0 : Hp} {E : XK} {a : Ga}
/-- of the showings i are sorted -/
structure Sd (H0 : Hp) (ha fa : Addr) (as : List V) (hs : List Pnt) (fs : List (List Int × Addr)) (i : Nat) (fs' : List (List Int × Addr)) (H : Hp) : Prop where
  old : Same H0 H
  nf : H0 fa = none
  here : H ha = some (.lst as)
  found : H fa = some (.dT (kvOf fs'))
  keys : fs'.map (·.1) = fs.map (·.1)
  at_ : ∀ (j : Nat) (e : List Int × Addr), fs'[j]? = some e → ∃ prs, FAt H ha e.2 prs ∧ prs.Perm (prsOf hs e.1) ∧ (j < i → prs.Pairwise Lx)
theorem Sd.same {ha fa : Addr} {as : List V} {hs : List Pnt} {fs fs' : List (List Int × Addr)} {i : Nat} {H H' : Hp} (h : Sd H0 ha fa as hs fs i fs' H) (e : Same H H') : Sd H0 ha fa as hs fs i fs' H' :=
  ⟨h.old.trans e, h.nf, e _ _ h.here, e _ _ h.found, h.keys, fun j d hd => by
    obtain ⟨prs, h1, h2⟩ := h.at_ j d hd
    exact ⟨prs, h1.same (fun _ _ z => e _ _ z) fun _ z => e _ _ z, h2⟩⟩
variable (Z : Lo P w K mg base f cdv A outer st H0 a)
include Z
theorem o3 : HT (ι := Unit) (XO P w K mg base f cdv A outer st H0 E) (nthS opS 3) (fun _ σ H => B2 P w H0 a σ H)
    (fun _ σ H => ∃ (t : Nat) (g : Go) (fs' : List (List Int × Addr)) (x9 x10 x11 x12 x13 x14 x15 : Option V), σ = sgG a g x9 x10 x11 x12 x13 x14 x15 ∧ Sd H0 g.ha g.fa (g.as.map V.ref) (g.hs.take t) g.fs g.fs.length fs' H ∧ g.as.length = g.hs.length ∧ Wi a.W g.hs t 0 ∧ (g.hs.length ≤ 5000 → t = g.hs.length) ∧ (g.fs.map (·.1)).Nodup ∧ (∀ sh, sh ∈ g.fs.map (·.1) ↔ ∃ p ∈ g.hs.take t, p.2.2 = sh) ∧ g.fs.length ≤ 5000) := by
  obtain ⟨T, c_shown, hr, G⟩ := Z
  refine ⟨_, (ps_for PassesOwn.never rfl (pi_list (pe_callTy (call_list_dT (by rfl)) (by rfl) T.z_list bt_list (pa_cons (pv 8) pa_nil))) (pg_name (i := 12) sclaw_opened.nd rfl (by first | exact Or.inl rfl | exact Or.inr rfl))
  (pss_one (ps_dput (r1 hr) (pv 8) (pv 12) (pe_callB cr_sortedPO (by rfl) T.z_sorted (by decide +kernel) (pa_cons (pe_dget (r1 hr) (pv 8) (pv 12) (fun _ _ => rfl)) pa_nil)) rfl))), ?_⟩
  rintro _ D σ H ⟨t, g, x9, x10, x11, x12, x13, x14, x15, rfl, gw, wi, t5, tl⟩ kk
  refine ⟨_, rfl, g.fa, _, rfl, .inl gw.found, fun lb bs hlb ks => ?_⟩
  have e0 := same_new (o := HO.lst (bs.map V.ref)) hlb
  have u0 : upd H lb (HO.lst (bs.map V.ref)) lb = some (.lst (bs.map V.ref)) := upd_same
  have ks' : ∀ (i : Nat) (e : List Int × Addr), g.fs[i]? = some e → ∃ b, bs[i]? = some b ∧ upd H lb (HO.lst (bs.map V.ref)) b = some (.tup (e.1.map V.int)) := fun i e he => by
    obtain ⟨b, h1, h2⟩ := key_at ks (i := i) (kv := (e.1.map Sum.inl, V.ref e.2)) (by unfold kvOf; rw [List.getElem?_map, he]; rfl)
    exact ⟨b, h1, e0 _ _ (by rw [h2, inl_kV])⟩
  have lbs : bs.length = g.fs.length := by
    have := keys_len ks
    unfold kvOf at this
    rwa [List.length_map] at this
  have nlh : lb ≠ g.fa := fun z => by
    have := gw.found
    rw [← z, show H lb = none from hlb] at this
    cases this
  generalize upd H lb (HO.lst (bs.map V.ref)) = H1 at e0 u0 ks' ⊢
  have g1 := gw.same e0
  have fl := g1.flen
  have s0 : Sd H0 g.ha g.fa (g.as.map V.ref) (g.hs.take t) g.fs 0 g.fs H1 := ⟨g1.old, g1.nf, g1.here, g1.found, rfl, fun j e he => ⟨_, g1.fat e (List.mem_of_getElem? he), List.Perm.refl _, fun h => absurd h (Nat.not_lt_zero _)⟩⟩
  refine ⟨lb, rfl, ⟨_, SqL.of u0⟩, ?_⟩
  refine for_list (xs := bs.map V.ref) (fun i σ' H' => ∃ (fs' : List (List Int × Addr)) (x12 : Option V), σ' = sgG a g x9 x10 x11 x12 x13 x14 x15 ∧ Sd H0 g.ha g.fa (g.as.map V.ref) (g.hs.take t) g.fs i fs' H' ∧ H' lb = some (.lst (bs.map V.ref)) ∧ ∀ (i : Nat) (e : List Int × Addr), g.fs[i]? = some e → ∃ b, bs[i]? = some b ∧ H' b = some (.tup (e.1.map V.int))) ⟨g.fs, _, rfl, s0, u0, ks'⟩ (fun i σ' H' _ z => by
    obtain ⟨_, _, _, _, h, _⟩ := z
    exact SqL.of h) ?_ ?_
  · rintro i v σ' H2 hv ⟨fs', x12, rfl, sd, hl, kt⟩
    rw [List.getElem?_map] at hv
    obtain ⟨b, hb, rfl⟩ := Option.map_eq_some_iff.mp hv
    have li : i < g.fs.length := by rw [← lbs]; exact (List.getElem?_eq_some_iff.mp hb).1
    have ge : g.fs[i]? = some g.fs[i] := List.getElem?_eq_getElem li
    obtain ⟨b', hb1, hb2⟩ := kt i _ ge
    rw [hb] at hb1
    cases hb1
    have lf : fs'.length = g.fs.length := by
      have := congrArg List.length sd.keys
      rwa [List.length_map, List.length_map] at this
    have fe : fs'[i]? = some (g.fs[i].1, (fs'[i]'(by omega)).2) := by
      rw [List.getElem?_eq_getElem (by omega)]
      have k1 : (fs'.map (·.1))[i]? = (g.fs.map (·.1))[i]? := by rw [sd.keys]
      rw [List.getElem?_map, List.getElem?_map, ge, List.getElem?_eq_getElem (by omega)] at k1
      have k2 : (fs'[i]'(by omega)).1 = g.fs[i].1 := Option.some.inj k1
      rw [← k2]
    generalize g.fs[i].1 = sh at fe hb2
    generalize (fs'[i]'(by omega)).2 = l at fe
    have nd' : (fs'.map (·.1)).Nodup := by rw [sd.keys]; exact gw.fnd
    obtain ⟨prs, ⟨lh, us, h1, h2⟩, pm, _⟩ := sd.at_ i _ fe
    have two : ∀ pr ∈ prs, ∃ x y, pr = [x, y] := fun pr hp => by
      obtain ⟨q, _, e⟩ := List.mem_map.mp (pm.mem_iff.mp hp)
      exact ⟨q.1, q.2.1, e.symm⟩
    obtain ⟨ep, et⟩ := rows_prs two h2
    have get : DGet H2 g.fa (.ref b) (some (.ref l)) := by
      have := DGet.t sd.found (b := b) (k := sh.map Sum.inl) (by rw [inl_kV]; exact hb2)
      rwa [val_kv nd' (List.mem_of_getElem? fe)] at this
    refine ⟨_, rfl, _, rfl, g.fa, _, rfl, get, l, us, pairAt H2, rfl, SqL.of h1, et, fun ys p srt stb hp => ?_⟩
    have e3 := same_new (o := HO.lst ys) hp
    have u3 : upd H2 p (HO.lst ys) p = some (.lst ys) := upd_same
    have np : p ≠ g.ha := fun z => by
      have := sd.here
      rw [← z, show H2 p = none from hp] at this
      cases this
    generalize upd H2 p (HO.lst ys) = H3 at e3 u3 ⊢
    have sd3 := sd.same e3
    have hb3 := e3 _ _ hb2
    have bf : b ≠ g.fa := ne_of hb3 sd3.found fun z => nomatch z
    refine ⟨_, rfl, _, rfl, g.fa, _, rfl, DPut.t (k := sh.map Sum.inl) (v := .ref p) sd3.found (by rw [inl_kV]; exact hb3) (by unfold kvOf; rw [List.length_map, sizeLine_eq]; omega), ?_⟩
    rw [kv_put]
    have tup : ∀ c us, H3 c = some (.tup us) → upd H3 g.fa (.dT (kvOf (putF fs' sh p))) c = some (.tup us) := fun c us z => by
      rw [upd_ne (ne_of z sd3.found fun z => nomatch z)]
      exact z
    have lst : ∀ c us, H3 c = some (.lst us) → upd H3 g.fa (.dT (kvOf (putF fs' sh p))) c = some (.lst us) := fun c us z => by
      rw [upd_ne (ne_of z sd3.found fun z => nomatch z)]
      exact z
    refine ⟨putF fs' sh p, _, rfl, ⟨same_put sd3.old sd3.nf, sd3.nf, lst _ _ sd3.here, upd_same, ?_, fun j e he => ?_⟩, lst _ _ (e3 _ _ hl), fun j e he => ?_⟩
    · rw [putF_keys, if_pos (List.mem_map.mpr ⟨_, List.mem_of_getElem? fe, rfl⟩), sd.keys]
    · rw [putF_set nd' fe, List.getElem?_set] at he
      by_cases z : i = j
      · subst z
        rw [if_pos rfl, if_pos (by omega)] at he
        cases he
        have pys : ∀ v ∈ ys, ∃ t, v = V.ref t ∧ H2 t = some (.tup [.int (pairAt H2 v).1, .int (pairAt H2 v).2]) := fun v hv => et v (stb.perm.mem_iff.mp hv)
        refine ⟨ys.map (prOf H2), ⟨np, ys, lst _ _ u3, (rows_back pys).imp fun _ _ z => tup _ _ (e3 _ _ z)⟩, ?_, fun _ => srt_lx srt⟩
        rw [ep] at pm
        exact (stb.perm.map (prOf H2)).trans pm
      · rw [if_neg z] at he
        obtain ⟨prs', h1', h2', h3'⟩ := sd3.at_ j e he
        exact ⟨prs', h1'.same tup fun us z => lst _ _ z, h2', fun lt => h3' (by omega)⟩
    · obtain ⟨c, c1, c2⟩ := kt j e he
      exact ⟨c, c1, tup _ _ (e3 _ _ c2)⟩
  · rintro σ' H2 ⟨fs', x12, rfl, sd, hl, kt⟩
    rw [List.length_map, lbs] at sd
    exact kk _ _ ⟨t, g, fs', _, _, _, _, _, _, _, rfl, sd, gw.la, wi, tl, gw.fnd, gw.fky, by omega⟩
end
end K7
/-! _law_opened -/
namespace K7
open L2 PySem PySem.Spec PyProof.Rows Kx RZ
/-- what a walk tells: by showing the states and standings -/
structure OpenAt (H : Hp) (W : WkP) (fa : Addr) (fs : List (List Int × Addr)) : Prop where
  found : H fa = some (.dT (kvOf fs))
  nd : (fs.map (·.1)).Nodup
  few : fs.length ≤ 5000
  key : ∀ sh, sh ∈ fs.map (·.1) ↔ ∃ x y, W.Pt (x, y, sh)
  at_ : ∀ e ∈ fs, ∃ us prs, H e.2 = some (.lst us) ∧ RowsBy (fun q xs => H q = some (.tup xs)) us prs ∧ prs.Nodup ∧ prs.Pairwise Lx ∧ (∀ pr ∈ prs, ∃ x y, pr = [x, y]) ∧ ∀ x y, [x, y] ∈ prs ↔ W.Pt (x, y, e.1)
  tot : ∃ hs : List Pnt, hs.Nodup ∧ hs.length ≤ 5000 ∧ ∀ p, W.Pt p ↔ p ∈ hs
theorem mem_prs {hs : List Pnt} {sh : List Int} {x y : Int} : [x, y] ∈ prsOf hs sh ↔ (x, y, sh) ∈ hs := by
  unfold prsOf
  rw [List.mem_map]
  constructor
  · rintro ⟨p, hp, e⟩
    obtain ⟨h1, h2⟩ := List.mem_filter.mp hp
    have h2 := of_decide_eq_true h2
    obtain ⟨e1, e2⟩ : p.1 = x ∧ p.2.1 = y := by simpa using e
    rw [← e1, ← e2, ← h2]
    exact h1
  · intro h
    exact ⟨_, List.mem_filter.mpr ⟨h, decide_eq_true rfl⟩, rfl⟩
theorem prs_nd {hs : List Pnt} {sh : List Int} (nd : hs.Nodup) : (prsOf hs sh).Nodup := by
  unfold prsOf
  refine List.pairwise_map.mpr ((nd.filter _).imp_of_mem fun {p q} hp hq ne e => ne ?_)
  have h1 := of_decide_eq_true (List.mem_filter.mp hp).2
  have h2 := of_decide_eq_true (List.mem_filter.mp hq).2
  obtain ⟨e1, e2⟩ : p.1 = q.1 ∧ p.2.1 = q.2.1 := by simpa using e
  exact Prod.ext e1 (Prod.ext e2 (h1.trans h2.symm))
def spOpened (K : PySem.W.Frag) : Sp := fun vs H Q _ => ∃ a : Ga, vs = [.ref a.tt, .int a.W.s, .ref a.r, .ref a.e, .ref a.wt, .int a.W.y] ∧ GivO K H a.tt a.r a.e a.wt a.ps a.vs a.n a.m a.W ∧
  (∀ H', Same H H' → Q .non H') ∧ ∀ fa fs H', Same H H' → H fa = none → OpenAt H' a.W fa fs → Q (.ref fa) H'
section
variable {P : Program} {w : World} {K : PySem.W.Frag} {mg : Str → Option Value} {base : Heap} {f : Addr} {fd : FuncData}
theorem ok_opened (F : FnP K "_law_opened" s_law_opened f fd) (T : Mg mg) (c_shown : Cal P w K mg base CX0 1 "_law_shown" ["turn", "rest", "many"] spLShown) : FnOk P w K mg base CX0 2 f fd ["tables", "first", "rounds", "rests", "witness", "start"] (spOpened K) := by
  refine F.ok sclaw_opened (fun vs H Q E h => ?_) (fun cdv A outer st H vs Q E hr h => ?_)
  · obtain ⟨a, rfl, _⟩ := h
    rfl
  · obtain ⟨a, rfl, G, k0, k1⟩ := h
    have Z : Lo P w K mg base f cdv A outer st H a := ⟨T, c_shown, hr, G⟩
    obtain ⟨t0, a0, b0⟩ := o0 (E := E) Z
    obtain ⟨t1, a1, b1⟩ := o1 (E := E) Z
    obtain ⟨t2, a2, b2⟩ := o2 (E := E) Z
    obtain ⟨t3, a3, b3⟩ := o3 (E := E) Z
    refine ⟨_, PSs.nox (pss_cons a0 (pss_cons a1 (pss_cons a2 (pss_cons a3 (pss_one (ps_ret (pe_ifExp (pt_cmpR op_le (pe_callB call_len_seq (by rfl) T.z_len PySem.boot_len (pa_cons (pv 6) pa_nil)) pe_int (nomark _)) (pv 8) pe_non))))))), ?_⟩
    refine b0 () _ _ _ ⟨rfl, rfl⟩ fun σ0 H1 h0 => b1 () _ _ _ h0 fun σ1 H1 h1 => b2 () _ _ _ h1 fun σ2 H2 h2 => b3 () _ _ _ h2 fun σ3 H3 h3 => ?_
    obtain ⟨t, g, fs', x9, x10, x11, x12, x13, x14, x15, rfl, sd, la, wi, tl, fnd, fky, fl⟩ := h3
    refine ⟨_, rfl, g.ha, _, rfl, .inl (SqL.of sd.here), _, _, rfl, rfl, _, rfl, ite2 (fun h => ?_) (fun h => ?_)⟩
    · have le : g.hs.length ≤ 5000 := by
        have := of_decide_eq_true h
        rw [List.length_map, la] at this
        omega
      have et := tl le
      rw [et] at wi fky sd
      rw [List.take_length] at fky sd
      have all := wi.all
      have lf : fs'.length = g.fs.length := by
        have := congrArg List.length sd.keys
        rwa [List.length_map, List.length_map] at this
      refine ⟨_, rfl, k1 g.fa fs' H3 sd.old sd.nf ⟨sd.found, by rw [sd.keys]; exact fnd, by omega, fun sh => ?_, fun e he => ?_, ⟨g.hs, wi.nd, le, all⟩⟩⟩
      · rw [sd.keys, fky]
        constructor
        · rintro ⟨p, hp, rfl⟩
          exact ⟨p.1, p.2.1, (all _).mpr hp⟩
        · rintro ⟨x, y, hp⟩
          exact ⟨_, (all _).mp hp, rfl⟩
      · obtain ⟨j, hj⟩ := List.getElem?_of_mem he
        obtain ⟨prs, ⟨_, us, h1, h2⟩, pm, srt⟩ := sd.at_ j e hj
        refine ⟨us, prs, h1, h2, (pm.nodup_iff).mpr (prs_nd wi.nd), srt (by rw [← lf]; exact (List.getElem?_eq_some_iff.mp hj).1), fun pr hp => ?_, fun x y => ?_⟩
        · obtain ⟨q, _, e⟩ := List.mem_map.mp (pm.mem_iff.mp hp)
          exact ⟨q.1, q.2.1, e.symm⟩
        · rw [pm.mem_iff, mem_prs, all]
    · exact k0 H3 sd.old
end
end K7
/-! _law_rounds -/
namespace K7
open L2 PySem PySem.Spec PyProof.Rows Kx RZ
def spLRounds (K : PySem.W.Frag) : Sp := fun vs H Q _ => ∃ (b : Addr) (t : Int × Int) (k : Nat) (full : Bool), vs = [.ref b, .int (k : Nat), .bl full] ∧ H b = some (bx t) ∧ k ≤ 4 ∧
  ∀ (l : Addr) (rs : List Int) (H' : Hp), Mv b H H' → H l = none → l ≠ b → H' l = some (.lst (rs.map V.int)) → rs.length = k → (∀ r ∈ rs, 0 ≤ r ∧ r ≤ 12 ∧ (full = false → 1 ≤ r)) → Q (.ref l) H'
def SomeR (full : Bool) (xs : List Int) : Prop := 0 < xs.length ∧ xs.length ≤ 8 ∧ ∀ r ∈ xs, 0 ≤ r ∧ r ≤ 12 ∧ (full = false → 1 ≤ r)
section
variable {P : Program} {w : World} {K : PySem.W.Frag} {mg : Str → Option Value} {base : Heap} {f : Addr} {fd : FuncData}
theorem sclaw_rounds : FnScope ["box", "deeds", "full", "some", "deed"] ["box", "deeds", "full"] (defScope s_law_rounds) := ⟨rfl, rfl, rfl, by decide +kernel, rfl, by decide +kernel, by decide +kernel⟩
theorem ok_rounds (F : FnP K "_law_rounds" s_law_rounds f fd) (T : Mg mg) (c_pick : Cal P w K mg base CX0 2 "_law_pick" ["box", "some"] (spPick K)) : FnOk P w K mg base CX0 3 f fd ["box", "deeds", "full"] (spLRounds K) := by
  refine F.ok sclaw_rounds (fun vs H Q E h => ?_) (fun cdv A outer st H vs Q E hr h => ?_)
  · obtain ⟨b, t, k, full, rfl, _⟩ := h
    rfl
  · obtain ⟨b, t, k, full, rfl, hb, k4, q⟩ := h
    refine ⟨_, PSs.nox (pss_cons (ps_mid (ps_set (i := 3) sclaw_rounds.nd rfl (by first | exact Or.inl rfl | exact Or.inr rfl) (pe_op op_cat (pe_lst (pa_cons pe_int (pa_cons pe_int (pa_cons pe_int (pa_cons pe_int (pa_cons (pe_ifExp (pt_val (pv 2)) pe_int pe_int) pa_nil)))))) (pe_ifExp (pt_cmpR op_lt (pv 1) pe_int (nomark _)) (pe_lst (pa_cons pe_int (pa_cons pe_int (pa_cons (pe_ifExp (pt_cmpR op_lt (pv 1) pe_int (nomark _)) pe_int pe_int) pa_nil)))) (pe_lst pa_nil)))))
  (pss_one (ps_ret (pe_lc (own := [("deed", 4)]) (by rfl) sclaw_rounds.nd (pi_range1 (by rfl) T.z_range (pa_cons (pv 1) pa_nil)) (blkOk_by (own := [("deed", 4)]) (N := ["box", "deeds", "full", "some", "deed"]) (sc := defScope s_law_rounds) (by decide +kernel)) (fun _ _ _ _ _ => (pg_name (i := 4) sclaw_rounds.nd rfl (by first | exact Or.inl rfl | exact Or.inr rfl))) (fun _ _ _ _ _ => pts_nil) (fun _ _ _ _ _ => (pe_callC c_pick hr pass0 (pa_cons (pv 0) (pa_cons (pv 3) pa_nil)))))))), ?_⟩
    refine ⟨fun σ' H' => ∃ (l : Addr) (xs : List Int), σ' = [some (.ref b), some (.int (k : Nat)), some (.bl full), some (.ref l), none] ∧ H l = none ∧ Same H H' ∧ H' l = some (.lst (xs.map V.int)) ∧ SomeR full xs, ?_, ?_⟩
    · have back : ∀ {Hx : Hp} {x : Addr}, Same H Hx → Hx x = none → H x = none := fun {Hx x} e h => by
        cases z : H x with
        | none => rfl
        | some o =>
          have := e _ _ z
          rw [h] at this
          cases this
      have go : ∀ (z : Int), (0 ≤ z ∧ z ≤ 12 ∧ (full = false → 1 ≤ z)) → ∀ l1 : Addr, H l1 = none → ∀ (ys : List Int) (l2 : Addr) (H2 : Hp), Same (upd H l1 (.lst ([1, 2, 3, 2, z].map V.int))) H2 → H2 l2 = some (.lst (ys.map V.int)) → ys.length ≤ 3 → (∀ r ∈ ys, 1 ≤ r ∧ r ≤ 12) → ∀ p, H2 p = none →
          ∃ (l : Addr) (xs : List Int), [some (V.ref b), some (.int (k : Nat)), some (.bl full), some (.ref p), none] = [some (V.ref b), some (.int (k : Nat)), some (.bl full), some (.ref l), none] ∧ H l = none ∧ Same H (upd H2 p (.lst ([1, 2, 3, 2, z].map V.int ++ ys.map V.int))) ∧ (upd H2 p (.lst ([1, 2, 3, 2, z].map V.int ++ ys.map V.int))) l = some (.lst (xs.map V.int)) ∧ SomeR full xs := fun z hz l1 n1 ys l2 H2 e2 h2 ly ay p hp => by
        refine ⟨p, [1, 2, 3, 2, z] ++ ys, rfl, back ((same_new n1).trans e2) hp, ((same_new n1).trans e2).trans (same_new hp), by rw [upd_same, List.map_append], ?_, ?_, fun r hr => ?_⟩
        · rw [List.length_append]; show 0 < 5 + _; omega
        · rw [List.length_append]; show 5 + _ ≤ 8; omega
        · rcases List.mem_append.mp hr with hr | hr
          · simp only [List.mem_cons, List.not_mem_nil, or_false] at hr
            rcases hr with rfl | rfl | rfl | rfl | rfl
            · exact ⟨by decide, by decide, fun _ => by decide⟩
            · exact ⟨by decide, by decide, fun _ => by decide⟩
            · exact ⟨by decide, by decide, fun _ => by decide⟩
            · exact ⟨by decide, by decide, fun _ => by decide⟩
            · exact hz
          · have := ay r hr
            exact ⟨by omega, this.2, fun _ => this.1⟩
      cases full
      all_goals
        first
        | refine ⟨_, rfl, false, rfl, iteF ?_⟩
        | refine ⟨_, rfl, true, rfl, iteT ?_⟩
        refine ⟨(by show 5 ≤ sizeLine; decide), fun l1 n1 => ?_⟩
        refine ⟨_, rfl, _, _, rfl, rfl, _, rfl, ite2 (fun h => ?_) (fun h => ?_)⟩
        · refine ⟨_, rfl, _, _, rfl, rfl, _, rfl, ite2 (fun h => ?_) (fun h => ?_)⟩
          · refine ⟨(by show 3 ≤ sizeLine; decide), fun l2 n2 => ?_⟩
            exact ⟨l1, l2, _, _, rfl, rfl, same_new n2 _ _ upd_same, upd_same, (by show 8 ≤ sizeLine; decide), fun p hp => go _ (by decide) l1 n1 [4, 6, 12] l2 _ (same_new n2) upd_same (by decide) (by decide) p hp⟩
          · refine ⟨(by show 3 ≤ sizeLine; decide), fun l2 n2 => ?_⟩
            exact ⟨l1, l2, _, _, rfl, rfl, same_new n2 _ _ upd_same, upd_same, (by show 8 ≤ sizeLine; decide), fun p hp => go _ (by decide) l1 n1 [4, 6, 5] l2 _ (same_new n2) upd_same (by decide) (by decide) p hp⟩
        · refine ⟨(by show 0 ≤ sizeLine; decide), fun l2 n2 => ?_⟩
          exact ⟨l1, l2, _, _, rfl, rfl, same_new n2 _ _ upd_same, upd_same, (by show 5 ≤ sizeLine; decide), fun p hp => go _ (by decide) l1 n1 [] l2 _ (same_new n2) upd_same (by decide) (by decide) p hp⟩
    · rintro σ' H1 ⟨l, xs, rfl, nl, e1, hl, x0, x8, xa⟩
      have lb : l ≠ b := fun z => by
        rw [z, hb] at nl
        cases nl
      have hb1 := e1 _ _ hb
      have mr := (Mv.refl hb).same e1
      refine ⟨_, rfl, k, rfl, by omega, by omega, fun D0 hD => ?_⟩
      have fr := mr.free hD
      have lD : l ≠ D0 := fun z => by
        rw [z, show H1 D0 = none from hD] at hl
        cases hl
      refine lc_range (lo := 0) (n := k) (fun i H' => ∃ rs : List Int, H' D0 = some (.lst (rs.map V.int)) ∧ Mv b H H' ∧ H' l = some (.lst (xs.map V.int)) ∧ rs.length = i ∧ ∀ r ∈ rs, 0 ≤ r ∧ r ≤ 12 ∧ (full = false → 1 ≤ r)) ⟨[], upd_same, mr.put fr.1 fr.2, by rw [upd_ne lD]; exact hl, rfl, (fun _ h => nomatch h)⟩ ?_ ?_
      · rintro i H8 hi ⟨rs, h8, m8, hl8, l8, a8⟩
        obtain ⟨t8, hb8⟩ := m8.2
        refine ⟨rfl, yes ((if_pos rfl).mpr ?_)⟩
        refine ⟨_, rfl, _, rfl, b, l, t8, _, rfl, hb8, lb, SqL.of hl8, by rw [List.length_map]; exact x0, by rw [List.length_map]; omega, fun v HA hv mA => ?_⟩
        obtain ⟨r, hr, rfl⟩ := List.mem_map.mp hv
        refine ⟨_, mA.1 _ _ fr.2 h8, by rw [List.length_map, sizeLine_eq]; omega, rs ++ [r], ?_, (m8.trans mA).put fr.1 fr.2, ?_, by rw [List.length_append, l8]; rfl, fun x hx => ?_⟩
        · rw [upd_same, List.map_append]
          rfl
        · rw [upd_ne lD]
          exact mA.1 _ _ lb hl8
        · rcases List.mem_append.mp hx with hx | hx
          · exact a8 x hx
          · rw [List.mem_singleton.mp hx]
            exact xa r hr
      · rintro H8 ⟨rs, h8, m8, hl8, l8, a8⟩
        exact q D0 rs H8 m8 fr.1 fr.2 h8 l8 a8
end
end K7
/-! set(xs), xs a list of ever so many tuples of whole numbers, few of them unlike -/
namespace Kx
open L2 PySem PySem.Spec PyProof.Rows
/-- at most 62 unlike ones -/
def FewT (ks : List (Addr × List Int)) : Prop := ∃ M : List (List Int), M.length ≤ 62 ∧ ∀ p ∈ ks, p.2 ∈ M
theorem nodup_len {α : Type} [DecidableEq α] : ∀ {A B : List α}, A.Nodup → (∀ x ∈ A, x ∈ B) → A.length ≤ B.length
  | [], _, _, _ => Nat.zero_le _
  | x :: A, B, nd, h => by
    obtain ⟨n1, n2⟩ := List.nodup_cons.mp nd
    have hx := h x List.mem_cons_self
    have := nodup_len (A := A) (B := B.erase x) n2 fun y hy => (List.mem_erase_of_ne (fun z => n1 (by rw [← z]; exact hy))).mpr (h y (List.mem_cons_of_mem _ hy))
    rw [List.length_erase_of_mem hx] at this
    have := List.length_pos_of_mem hx
    rw [List.length_cons]
    omega
theorem FewT.le {ks L : List (Addr × List Int)} (f : FewT ks) (sub : ∀ p ∈ L, p ∈ ks) (nd : (L.map (·.2)).Nodup) : L.length + 1 < 64 := by
  obtain ⟨M, m1, m2⟩ := f
  have := nodup_len nd fun x hx => by
    obtain ⟨p, hp, rfl⟩ := List.mem_map.mp hx
    exact m2 p (sub p hp)
  rw [List.length_map] at this
  omega
section
variable {P : Program} {w : World} {A : Around} {E : Value → Shared → Prop} {s : Shared}
/-- what is known of the list's items: of an older heap -/
structure OldT (P : Program) (w : World) (ks : List (Addr × List Int)) (hp : Heap) : Prop where
  few : FewT ks
  are : ∀ p ∈ ks, IsT P w hp p.2 p.1
def Later (hp : Heap) (s : Shared) : Prop := ∀ b o, hp.get? b = some o → s.heap.get? b = some o
/-- how far the set at S is -/
def SoFar (P : Program) (w : World) (ks : List (Addr × List Int)) (S : Addr) (i : Nat) (h : Heap) : Prop := ∃ L es ep t, SetTR P w h S L es ep t ∧ Got ks i L
theorem more_setM {I S : Addr} {fp wr : List Addr} {G : Array GenState → Array GenState → Prop} {n : Nat} {Pv : Nat → Value → Prop} {St : Nat → Shared → Prop} {ks : List (Addr × List Int)} {hp : Heap}
    (wk : WalksS P w A.in1 I fp wr G n Pv St) (out : S ∉ fp) (en : n = ks.length) (old : OldT P w ks hp) (val : ∀ i v, Pv i v → ∃ p, ks[i]? = some p ∧ v = .ref p.1) (nS : hp.get? S = none) (nw : ∀ b ∈ wr, hp.get? b = none) (room : A.in1.units < cLine) :
    ∀ (left i : Nat) (s : Shared) (R : Result → Shared → Prop), i + left = n → St i s → Later hp s → SoFar P w ks S i s.heap → (∀ s', Moved (S :: wr) G s s' → SoFar P w ks S n s'.heap → Later hp s' → R (.ok (.ret .none)) s') →
      codeAny (model P w) A (.builtin "set.update.loop" ⟨[.ref S, .ref I], []⟩) R s := by
  have offS : S ∉ wr := fun z => out (wk.sub _ z)
  have wider : ∀ b ∈ wr, b ∈ S :: wr := fun b z => List.mem_cons_of_mem _ z
  have stay : ∀ {s1 s2 : Shared}, Moved wr G s1 s2 → Later hp s1 → Later hp s2 := fun mv lt b o e => mv.heap b o (fun z => by
    rw [nw b z] at e
    cases e) (lt b o e)
  intro left
  induction left with
  | zero =>
    rintro i s R le st lt ⟨L, es, ep, t, tr, got⟩ q
    obtain rfl : i = n := by omega
    refine codeAny_builtin F.entry_set_update_loop ?_
    rw [Around.under_plainId F.plain_set_update_loop _]
    show wpAny _ A.in1 (pyNext (.ref I) >>= _) _ _ s
    refine wpAny_bind (wk.done s _ _ st fun s2 mv => ?_)
    show wpAny _ A.in1 (ret Value.none) _ _ s2
    have lt2 := stay mv lt
    have inK : ∀ p ∈ L, p ∈ ks := fun p z => List.mem_of_mem_take (got.sub p z)
    exact wpAny_pure (q s2 (mv.mono wider) ⟨L, es, ep, t, tr.keep (fun o e => mv.heap S o offS e) fun p z => isT_keep (old.are p (inK p z)) lt2, got⟩ lt2)
  | succ left ih =>
    rintro i s R le st lt ⟨L, es, ep, t, tr, got⟩ q
    refine codeAny_builtin F.entry_set_update_loop ?_
    rw [Around.under_plainId F.plain_set_update_loop _]
    show wpAny _ A.in1 (pyNext (.ref I) >>= _) _ _ s
    refine wpAny_bind (wk.item i s _ _ (by omega) st fun v s2 pv st2 mv => ?_)
    obtain ⟨p, at_, rfl⟩ := val i v pv
    have lt2 := stay mv lt
    have inK : ∀ p ∈ L, p ∈ ks := fun p z => List.mem_of_mem_take (got.sub p z)
    have tr2 : SetTR P w s2.heap S L es ep t := tr.keep (fun o e => mv.heap S o offS e) fun q z => isT_keep (old.are q (inK q z)) lt2
    have isp : IsT P w s2.heap p.2 p.1 := isT_keep (old.are p (List.mem_of_getElem? at_)) lt2
    show wpAny _ A.in1 (holding [Value.ref p.1] (setAdd S (.ref p.1)) >>= _) _ _ s2
    refine wpAny_bind (wpAny_holding ?_)
    unfold setAdd
    refine wpAny_holding (wpAny_bind (wpAny_pyHash_tuple room isp ?_))
    refine add_at (s := { s2 with toks := s2.toks + (p.2.length + 1) }) tr2 isp room (old.few.le inK tr2.nd) fun b h' L' es' ep' t' sb tr3 c1 c2 => ?_
    have got2 : Got ks (i + 1) L' := by
      by_cases z : p.2 ∈ L.map (·.2)
      · rw [c1 z]
        exact got.same at_ z
      · exact got.more at_ (c2 z)
    have lt3 : ∀ b o, hp.get? b = some o → h'.get? b = some o := fun b o e => (sb.2 b (fun z => by
      rw [z, nS] at e
      cases e)).trans (lt2 b o e)
    have fr : ∀ b ∈ fp, ∀ o, s2.heap.get? b = some o → h'.get? b = some o := fun b hb o e => by
      rw [sb.2 b fun z => out (by rw [← z]; exact hb)]
      exact e
    refine wpAny_pure ⟨plainId_quiet F.plain_set_update_loop _, ih (i + 1) _ R (by omega) (wk.frame _ s2 _ _ st2 (Nat.le_add_right _ _) fr) lt3 ⟨L', es', ep', t', tr3, got2⟩ fun s4 mv4 far lt4 => ?_⟩
    exact q s4 (Moved.trans wk.gtrans ((mv.mono wider).then_heap (Nat.le_add_right _ _) fun b o z e => by
      rw [sb.2 b fun y => z (by rw [y]; exact List.mem_cons_self)]
      exact e) mv4) far lt4
/-- the set as it is made -/
abbrev emptyS (w : World) : Obj := { cls := .type "set", dict := none, data := .set #[] 0 (.fresh 0 0 (!w.params.followText "set-order")) }
theorem call_setM {l : Addr} {items : Array Value} {ks : List (Addr × List Int)} {Q : Value → Shared → Prop} (hh : A.handled = none) (hl : s.heap.IsList l items) (hit : items.toList = ks.map fun p => Value.ref p.1) (old : OldT P w ks s.heap) (hu : A.units + 3 < cLine)
    (q : ∀ (h' : Heap) (tk : Nat), SoFar P w ks s.heap.objs.size ks.length h' → (∀ b o, s.heap.get? b = some o → h'.get? b = some o) → Q (.ref s.heap.objs.size) { s with heap := h', toks := tk }) : wpAny (model P w) A (call (.type "set") [.ref l]) Q E s := by
  have zn : items.size = ks.length := by
    have := congrArg List.length hit
    rwa [Array.length_toList, List.length_map] at this
  obtain ⟨c, tl, hmro⟩ := F.called_set.mro
  have hmade := F.called_set.made
  have hsub := F.called_set.sub
  refine wpAny_call (codeAny_of_tree ?_)
  show wpAny _ _ (callAny (.type "set") _) _ _ _
  refine wpAny_pure ⟨Code.quiet_builtin _ (by decide +kernel), codeAny_builtin F.entry_type_call ?_⟩
  rw [Around.under_plain (weight_type_call_type "set" [.ref l] []) rfl]
  have h1 := F.called_set.notType
  have h2 := F.called_set.canCreate
  have hct := F.typeCall_set_1 (.ref l)
  repeat (any_goals (first | assumption | wp_step))
  refine codeAny_mono (code_set_led1 (.ref l) (E := E) (Q₁ := fun obj s₁ => obj = .ref s.heap.objs.size ∧ s₁ = { s with heap := s.heap.push (emptyS w) }) ⟨rfl, rfl⟩) fun r s₁ hr => ?_
  match r, hr with
  | .error e, hr => exact hr
  | .ok (.ret obj), hr =>
    obtain ⟨rfl, rfl⟩ := hr
    have hS : (s.heap.push (emptyS w)).get? s.heap.objs.size = some (emptyS w) := Heap.get?_push_size _ rfl
    have hT : Shared.TypeIs { s with heap := s.heap.push (emptyS w) } (.ref s.heap.objs.size) "set" := ⟨_, hS, rfl⟩
    have hli := F.called_set.init.lookup
    have hbi := F.called_set.init.bind (.ref s.heap.objs.size)
    repeat (any_goals (first | assumption | wp_step))
    refine codeAny_mono (codeAny_call_builtin (R := wants (fun r s₂ => r = .none ∧ ∃ h' tk, s₂ = { s with heap := h', toks := tk } ∧ SoFar P w ks s.heap.objs.size ks.length h' ∧ (∀ b o, s.heap.get? b = some o → h'.get? b = some o)) E) F.called_set.init.plain F.entry_set_init (check_set_init_1 hT ?_)) fun r₂ s₂ hr₂ => ?_
    · obtain ⟨⟨ocls, odict, odata, oslots⟩, hol, hcl, nl, hdl⟩ := hl
      simp only at hcl hdl
      subst hcl hdl
      have holP : (s.heap.push (emptyS w)).get? l = some { cls := .type "list", dict := odict, data := .seq items nl, slots := oslots } := Heap.get?_push_of_some _ hol
      have hsls := F.sub_list_set
      have hslf := F.sub_list_frozenset
      have hne : (Value.type "list" == Value.type "dict") = false := by decide
      have hl1 : (s.heap.push (emptyS w)).IsList l items := ⟨_, holP, rfl, nl, rfl⟩
      unfold Builtin.«set.__init__» noKeywords Builtin.Frozenset.updateFrom
      generalize hPI : pyIter = PI
      wp_walk
      subst hPI
      refine wpAny_pyIter_list hl1 (wpAny_bind (wpAny_runValue ?_))
      have lS : l < s.heap.objs.size := Heap.lt_size hol
      have hh3 : A.in1.in1.in1.handled = none := by simp [hh]
      have off : l ≠ (s.heap.push (emptyS w)).objs.size := by
        rw [Heap.size_push]
        exact Nat.ne_of_lt (Nat.lt_succ_of_lt lS)
      have offS : s.heap.objs.size ∉ [(s.heap.push (emptyS w)).objs.size, l] := by
        rw [Heap.size_push]
        simp only [List.mem_cons, List.mem_singleton, List.not_mem_nil, or_false, not_or]
        exact ⟨Nat.ne_of_lt (Nat.lt_succ_self _), Nat.ne_of_gt lS⟩
      have val : ∀ (i : Nat) (v : Value), items[i]? = some v → ∃ p, ks[i]? = some p ∧ v = .ref p.1 := fun i v hv => by
        have z : items.toList[i]? = some v := by rw [Array.getElem?_toList]; exact hv
        rw [hit, List.getElem?_map] at z
        obtain ⟨p, e1, e2⟩ := Option.map_eq_some_iff.mp z
        exact ⟨p, e1, e2.symm⟩
      have fresh : ∀ b, s.heap.objs.size ≤ b → s.heap.get? b = none := fun b hb => by
        cases z : s.heap.get? b with
        | none => rfl
        | some o => exact absurd (Nat.lt_of_lt_of_le (Heap.lt_size z) hb) (Nat.lt_irrefl _)
      refine more_setM ((Walks.list hh3 _ l off items).toS) offS zn old val (fresh _ (Nat.le_refl _)) (fun b hb => fresh b (by
        rw [List.mem_singleton.mp hb, Heap.size_push]
        exact Nat.le_succ _)) hu items.size 0 _ _ (Nat.zero_add _) ⟨⟨_, Heap.get?_push_size _ rfl, rfl, rfl⟩, hl1.push _⟩ (fun b o e => Heap.get?_push_of_some _ (Heap.get?_push_of_some _ e)) ?_ ?_
      · exact ⟨[], #[], 0, _, setTR_fresh (Heap.get?_push_of_some _ hS), Got.zero ks⟩
      · intro s' hm far lt
        obtain ⟨h', g2, d', tk', os'⟩ := s'
        obtain rfl : g2 = s.gens := hm.gens
        obtain rfl : d' = s.drawn := hm.drawn
        obtain rfl : os' = s.os := hm.os
        show wpAny _ _ _ _ _ _
        refine wpAny_pure ?_
        show wpAny _ _ (ret Value.none) _ _ _
        rw [zn] at far
        exact wpAny_pure ⟨rfl, h', tk', rfl, far, lt⟩
    · match r₂, hr₂ with
      | .error e, hr₂ => exact hr₂
      | .ok (.ret r), hr₂ =>
        obtain ⟨rfl, h', tk, rfl, far, lt⟩ := hr₂
        repeat (any_goals (first | assumption | wp_step))
        exact q _ _ far lt
      | .ok .next, hr₂ => exact hr₂.elim
      | .ok .brk, hr₂ => exact hr₂.elim
      | .ok .cont, hr₂ => exact hr₂.elim
  | .ok .next, hr => exact hr.elim
  | .ok .brk, hr => exact hr.elim
  | .ok .cont, hr => exact hr.elim
end
/-- set(xs), xs a list of tuples of whole numbers, few of them unlike -/
def rSetM (K : PySem.W.Frag) (P : Program) (w : World) : List V → Hp → VK → Prop := fun xs H Q => ∃ (l : Addr) (ks : List (Addr × List Int)), xs = [V.ref l] ∧ SqL K H l (ks.map fun p => V.ref p.1) ∧ (∀ p ∈ ks, SqT K H p.1 (p.2.map V.int)) ∧ FewT ks ∧
  ∀ a L, H a = none → (∀ p ∈ L, p ∈ ks) → (∀ p ∈ ks, p.2 ∈ L.map (·.2)) → Q (.ref a) (upd H a (SetTO P w a L))
theorem cr_setM {X : Cx} (hc : X.calm = true) (hu : X.A.units + 64 < cLine) : CallR X (.type "set") (rSetM X.K X.prog X.w) := by
  intro pins s σ H xs us Q I r h
  obtain ⟨l, ks, rfl, hl, hk, hf, q⟩ := h
  rw [Vals.ref1 r]
  obtain ⟨its, rv, pl, hz⟩ := I.list hl
  refine call_setM (P := X.prog) (w := X.w) (ks := ks) (I.ok.hd hc) pl.isList (by simpa using refs_of_vals rv) ⟨hf, fun p hp => I.isT (hk p hp)⟩ (by omega) fun h' tk far keep => ?_
  obtain ⟨L, es, ep, t, tr, got⟩ := far
  exact ⟨.ref s.heap.objs.size, upd H s.heap.objs.size (SetTO X.prog X.w s.heap.objs.size L), I.laid (t' := tk) keep (Nat.le_refl _) (setTO_new tr.t0), rfl, q _ L (I.hok.fresh (Nat.le_refl _)) (fun p hp => List.mem_of_mem_take (got.sub p hp)) fun p hp => got.all p (by rw [List.take_length]; exact hp)⟩
end Kx
/-! where only tables move; a body whose code object is known -/
namespace Kx
open L2 PySem PySem.Spec PyProof.Rows
section
variable {P : Program} {w : World} {K : PySem.W.Frag} {mg : Str → Option Value} {base : Heap} {x qual : Str} {params : Arguments} {body : List Stmt} {scope : Scope} {dvs : List V} {kws : List (Str × V)} {f c : Addr} {fd : FuncData}
/-- a def's body, its code object known -/
theorem okGc {CX : CXT} {N ps : List Str} {k : Nat} {sp : Sp} (F : FunD K x qual params body scope dvs kws f fd) (hc : fd.code = .ref c) (S : FnScope N ps scope) (len : ∀ vs H Q E, sp vs H Q E → vs.length = ps.length)
    (hbody : ∀ (A : Around) (outer : List Env) (s : Shared) (H : Hp) (vs : List V) (Q : VK) (E : XK), Lone A → Room k (A.deeper (envOfC qual scope s.heap.objs.size f (.ref c))) → sp vs H Q E →
      ∃ t, PSs (cxOf CX P w K mg base N qual scope f (.ref c) A outer s H E) body t ∧ t { nx := fun _ H' => Q .non H', rt := Q } (start N vs) H) : FnG P w K mg base CX (k + 1) f fd ps sp := by
  obtain ⟨oc, od, dV, kV, doc, pm, an, cdv, ct, osl, rfl, lk, hcd, -, -⟩ := F.ex
  have hc : cdv = .ref c := hc
  subst hc
  exact ⟨len, fun A outer s H args us vs Q E hr lone e0 hb hv hs => LamX.run_ofS lk hcd S hr e0 hb hv (len _ _ _ _ hs) fun hr' => hbody A outer s H vs Q E lone hr' hs⟩
end
/-! ### where only tables move -/
section
variable {K : PySem.W.Frag} {H H' : Hp} {a : Addr} {xs : List V}
theorem ext_rd (e : LamX.ExtN H H') {u : HO} (n : ∀ ps, u ≠ .tbl ps) (h : Rd H a u) : Rd H' a u := h.elim (fun q => .inl (e _ _ q n)) fun ⟨z, q⟩ => .inr ⟨z, e _ _ q fun _ z => nomatch z⟩
theorem ext_sqT (e : LamX.ExtN H H') (h : SqT K H a xs) : SqT K H' a xs := h.imp (ext_rd e fun _ z => nomatch z) id
theorem ext_sqL (e : LamX.ExtN H H') (h : SqL K H a xs) : SqL K H' a xs := h.imp (ext_rd e fun _ z => nomatch z) id
theorem ext_sq (e : LamX.ExtN H H') (h : Sq K H a xs) : Sq K H' a xs := h.imp (ext_sqL e) (ext_sqT e)
theorem ext_of (e : Same H H') : LamX.ExtN H H' := fun b o q _ => e b o q
theorem ext_kn {v : V} (e : LamX.ExtN H H') (h : Kn K H v) : Kn K H' v := by
  cases h with
  | non => exact .non
  | bl b => exact .bl b
  | int i => exact .int i
  | str x => exact .str x
  | seq q => exact .seq (ext_sq e q)
theorem tabs_same {T : List (Addr × Str)} (t : LamX.Tabs T H) (e : Same H H') : LamX.Tabs T H' := t.ext e
/-- t == u, t != u: tuples of rows -/
def rRowsEq (K : PySem.W.Frag) (neg : Bool) : R2 := fun x y H Q => ∃ (xs ys : List (List Int)), Dp K H x (dRows xs) ∧ Dp K H y (dRows ys) ∧ Q (.bl (neg != decide (xs = ys))) H
theorem op_eqRows {X : Cx} (hu : X.A.units + 64 < cLine) : OpR X (compareOp .Eq) (rRowsEq X.K false) := by
  intro pins st σ H x y v u Q I rx ry ⟨xs, ys, h1, h2, q⟩
  refine op_eqD hu pins st σ H _ _ v u Q I rx ry ⟨_, _, h1, h2, shaped_rows xs, shaped_rows ys, ?_⟩
  simp only [PyData.eqv, eqv_rows]
  rwa [Bool.false_bne] at q
theorem op_neRows {X : Cx} (hu : X.A.units + 64 < cLine) : OpR X (compareOp .NotEq) (rRowsEq X.K true) := by
  intro pins st σ H x y v u Q I rx ry ⟨xs, ys, h1, h2, q⟩
  refine op_neD hu pins st σ H _ _ v u Q I rx ry ⟨_, _, h1, h2, shaped_rows xs, shaped_rows ys, ?_⟩
  simp only [PyData.eqv, eqv_rows]
  rwa [Bool.true_bne] at q
end
end Kx
/-! _law_walk_right -/
namespace K7
open L2 PySem PySem.Spec PyProof.Rows Kx RZ
theorem _root_.Kx.OkD.d60 {m L : Nat} {d : PyData} (h : OkD m L d) (hm : m ≤ 60 := by decide) : d.depth ≤ 60 := Nat.le_trans h.deep hm
theorem _root_.Kx.OkD.line {m L : Nat} {d : PyData} (h : OkD m L d) (hL : L ≤ sizeLine := by decide) : d.shown.length ≤ sizeLine := Nat.le_trans h.fit hL
theorem cr_setMK {X : Cx} {K : PySem.W.Frag} (hc : X.calm = true) (hu : X.A.units + 64 < cLine) (hK : X.K = K := by rfl) : CallR X (.type "set") (rSetM K X.prog X.w) := by
  subst hK
  exact cr_setM hc hu
/-- what a showing leaves open are a lot's states -/
theorem st_of {n : Nat} {W : WkP} {L sh : List Int} {c : Int → Int} {prs : List (List Int)} (R : Rnd n W L) (cl : Cls1 (LtB W.ts.length) W.ts (natsOf W.rs) L c) (key : ∃ x y, W.Pt (x, y, sh)) (nd : prs.Nodup) (srt : prs.Pairwise Lx) (two : ∀ pr ∈ prs, ∃ x y, pr = [x, y]) (mem : ∀ x y, [x, y] ∈ prs ↔ W.Pt (x, y, sh)) :
    ∃ x0 ∈ L, prs = (cls c L x0).map fun x => [x, 0] := by
  obtain ⟨x0, y0, h0⟩ := key
  have y00 : y0 = 0 := (R.rng h0).1
  subst y00
  obtain ⟨hx0, op⟩ := R.open_ h0
  refine ⟨x0, hx0, ?_⟩
  have form : ∀ pr ∈ prs, pr = [hd pr, 0] := fun pr hp => by
    obtain ⟨x, y, rfl⟩ := two pr hp
    have : y = 0 := (R.rng ((mem x y).mp hp)).1
    rw [this]
    rfl
  have e1 : prs = (prs.map hd).map fun x => [x, 0] := by
    rw [List.map_map]
    conv => lhs; rw [← List.map_id prs]
    exact List.map_congr_left fun pr hp => form pr hp
  have asc : (prs.map hd).Pairwise (· < ·) := by
    refine List.pairwise_map.mpr (List.Pairwise.imp_of_mem (fun {p q} hp hq r => ?_) (List.pairwise_and_iff.mpr ⟨srt, nd⟩))
    have a := r.1 _ _ _ _ (form p hp) (form q hq)
    have ne : hd p ≠ hd q := fun z => r.2 (by rw [form p hp, form q hq, z])
    omega
  have e2 : prs.map hd = cls c L x0 := sorted_eq asc (R.mc.srt.filter _) fun x => by
    have m1 : x ∈ prs.map hd ↔ [x, 0] ∈ prs := by
      rw [List.mem_map]
      constructor
      · rintro ⟨pr, hp, rfl⟩
        rw [← form pr hp]
        exact hp
      · intro h
        exact ⟨_, h, rfl⟩
    rw [m1, mem, op, mem_cls]
    exact ⟨fun ⟨h1, h2⟩ => ⟨h1, (cl x h1 x0 hx0).mpr h2⟩, fun ⟨h1, h2⟩ => ⟨h1, (cl x h1 x0 hx0).mp h2⟩⟩
  rw [← e2]
  exact e1
theorem keys_few {c : Int → Int} : ∀ M : List Int, (keysOf c M).length ≤ M.length := by
  refine snoc_ind (p := fun M => (keysOf c M).length ≤ M.length) (Nat.le_refl _) fun M x ih => ?_
  rw [keys_snoc, List.length_append, List.length_singleton]
  split
  · omega
  · rw [List.length_append, List.length_singleton]
    omega
theorem lots_few {c : Int → Int} {L : List Int} : (lotsOf c L).length ≤ L.length := by
  unfold lotsOf
  rw [List.length_map]
  exact keys_few L
def spWalk (K : PySem.W.Frag) : Sp := fun vs H Q _ => ∃ (tt r lo : Addr) (ps qs : List V) (n : Nat) (ts : List (List Int)) (s : Int) (rs L : List Int) (c : Int → Int), vs = [.ref tt, .int s, .ref r, .ref lo] ∧ SqT K H tt ps ∧ RowsBy (SqT K H) ps ts ∧ SqL K H r (rs.map V.int) ∧ rs.length = ts.length ∧ (∀ r ∈ rs, 0 < r) ∧ Mch n ts s L ∧
  SqT K H lo qs ∧ RowsBy (SqT K H) qs (lotsOf c L) ∧ Cls1 (LtB ts.length) ts (natsOf rs) L c ∧ ∀ H', Same H H' → Q (.bl true) H'
theorem zero_rep {k : Nat} : (List.replicate k [V.int 0]).flatten = (List.replicate k (0 : Int)).map V.int := by rw [List.flatten_replicate_singleton, List.map_replicate]
theorem rows_rep {K : PySem.W.Frag} {H : Hp} {q : Addr} {t : List Int} (h : SqT K H q (t.map V.int)) : ∀ k, RowsBy (SqT K H) (List.replicate k (V.ref q)) (List.replicate k t)
  | 0 => trivial
  | k + 1 => ⟨⟨q, rfl, h⟩, rows_rep h k⟩
section
variable {P : Program} {w : World} {K : PySem.W.Frag} {mg : Str → Option Value} {base : Heap} {f f2 : Addr} {fd : FuncData}
theorem sclaw_walk_right : FnScope ["tables", "first", "rounds", "lots", "idle", "opened", "due", "showing", "state", "standing"] ["tables", "first", "rounds", "lots"] (defScope s_law_walk_right) := ⟨rfl, rfl, rfl, by decide +kernel, rfl, by decide +kernel, by decide +kernel⟩
theorem ok_walk (F : FnP K "_law_walk_right" s_law_walk_right f fd) (hcode : fd.code = .ref f2) (T : Mg mg) (c_opened : Cal P w K mg base CX0 2 "_law_opened" ["tables", "first", "rounds", "rests", "witness", "start"] (spOpened K)) : FnG P w K mg base CX0 3 f fd ["tables", "first", "rounds", "lots"] (spWalk K) := by
  refine okGc F hcode sclaw_walk_right (fun vs H Q E h => ?_) (fun A outer st H vs Q E lone hr h => ?_)
  · obtain ⟨tt, r, lo, ps, qs, n, ts, s, rs, L, c, rfl, _⟩ := h
    rfl
  · obtain ⟨tt, r, lo, ps, qs, n, ts, s, rs, L, c, rfl, htt, rows, hr', lr, r1', mc, hlo, lrows, cl, k⟩ := h
    have cs : CallR (cxOf CX0 P w K mg base ["tables", "first", "rounds", "lots", "idle", "opened", "due", "showing", "state", "standing"] "_law_walk_right" (defScope s_law_walk_right) f (.ref f2) A outer st H E).nox (.builtin "repr") (rShow K) := call_show lone (r64 hr)
    refine ⟨_, PSs.nox (pss_cons (ps_set (i := 4) sclaw_walk_right.nd rfl (by first | exact Or.inl rfl | exact Or.inr rfl) (pe_op op_rep (pe_lst (pa_cons (pe_tup (pa_cons pe_int pa_nil)) pa_nil)) (pe_callB call_len_seq (by rfl) T.z_len PySem.boot_len (pa_cons (pv 0) pa_nil))))
      (pss_cons (ps_set (i := 5) sclaw_walk_right.nd rfl (by first | exact Or.inl rfl | exact Or.inr rfl) (pe_callC c_opened hr pass0 (pa_cons (pv 0) (pa_cons (pv 1) (pa_cons (pv 2) (pa_cons (pe_op op_rep (pe_lst (pa_cons pe_int pa_nil)) (pe_callB call_len_seq (by rfl) T.z_len PySem.boot_len (pa_cons (pv 0) pa_nil))) (pa_cons (pv 4) (pa_cons pe_int pa_nil))))))))
      (pss_cons (ps_if (pt_cmpR op_isN (pv 5) pe_non (nomark _))
        (pss_one (ps_ret pe_bl))
        pss_nil)
      (pss_cons (ps_set (i := 6) sclaw_walk_right.nd rfl (by first | exact Or.inl rfl | exact Or.inr rfl) (pe_callB (cr_sortedT (by rfl)) (by rfl) T.z_sorted (by decide +kernel) (pa_cons (pe_callTy (cr_setMK (K := K) (by rfl) (Room.units hr)) (by rfl) T.z_set (by decide +kernel) (pa_cons (pe_lock (pe_lc (own := [("showing", 7)]) (by rfl) sclaw_walk_right.nd (pi_keys (pv 5)) (blkOk_by (own := [("showing", 7)]) (N := ["tables", "first", "rounds", "lots", "idle", "opened", "due", "showing", "state", "standing"]) (sc := defScope s_law_walk_right) (by decide +kernel)) (fun _ _ _ _ _ => (pg_name (i := 7) sclaw_walk_right.nd rfl (by first | exact Or.inl rfl | exact Or.inr rfl))) (fun _ _ _ _ _ => pts_nil)
          (fun _ _ _ _ _ => pe_callTy (call_tupleK (K := K)) (by rfl) T.z_tuple (by decide +kernel) (pa_cons (pe_lc (own := [("state", 8), ("standing", 9)]) (g := gTup K 2 (gCons (gName 8) (gCons (gName 9) gNil))) (by rfl) sclaw_walk_right.nd (pi_listK (K := K) (pe_dget (r1 hr) (pv 5) (pv 7) (fun _ _ => rfl))) (by refine blkOk_by ?_; rfl)
            (fun _ _ _ _ _ => (pg_tup rfl (pgs_cons (pg_name (i := 8) sclaw_walk_right.nd rfl (by first | exact Or.inl rfl | exact Or.inr rfl)) (pgs_cons (pg_name (i := 9) sclaw_walk_right.nd rfl (by first | exact Or.inl rfl | exact Or.inr rfl)) pgs_nil)))) (fun _ _ _ _ _ => pts_nil) (fun _ _ _ _ _ => (pv 8))) pa_nil)))) pa_nil)) pa_nil)))
      (pss_one (ps_ret (pe_cmpR op_eq (pe_callB cs (by rfl) T.z_repr (by decide +kernel) (pa_cons (pv 3) pa_nil)) (pe_callB cs (by rfl) T.z_repr (by decide +kernel) (pa_cons (pe_callTy (call_tupleK (K := K)) (by rfl) T.z_tuple (by decide +kernel) (pa_cons (pv 6) pa_nil)) pa_nil)) (nomark _)))))))), ?_⟩
    have lps := rows.length
    have l1 := mc.ok.l1
    have l4 : ts.length ≤ 4 := mc.ok.l4
    have wl := mc.wrl
    have few := wl.few
    have n8 := wl.n8
    let W : WkP := ⟨ts, List.replicate ts.length [0], rs, List.replicate ts.length 0, s, 0⟩
    have esz : ∀ k, (List.replicate ts.length (0 : Int)).getD k 0 = 0 := fun k => by
      rw [List.getD_eq_getElem?_getD, List.getElem?_replicate]
      split <;> rfl
    have R : Rnd n W L := ⟨mc, lr, r1', esz, fun d hd => by
      show (List.replicate ts.length [(0 : Int)]).getD d [] = [0]
      rw [List.getD_eq_getElem?_getD, List.getElem?_replicate, if_pos hd]
      rfl, rfl⟩
    have ok : WkOk n 1 W := ⟨mc.ok, mc.s0, mc.s1, List.length_replicate, fun t ht => by
      rw [(List.mem_replicate.mp ht).2]
      exact ⟨rfl, fun y hy => by rw [List.mem_singleton.mp hy]; decide⟩, Int.le_refl _, (by show (0 : Int) < ((1 : Nat) : Int); decide), lr, List.length_replicate, fun r hr => Int.le_of_lt (r1' r hr), fun e he => by rw [(List.mem_replicate.mp he).2]; exact Int.le_refl _⟩
    refine ⟨(by show 1 ≤ sizeLine; decide), fun t0 ht0 => ?_⟩
    have e0 := same_new (o := HO.tup [.int 0]) ht0
    have u0 : SqT K (upd H t0 (HO.tup [.int 0])) t0 (([0] : List Int).map V.int) := SqT.of upd_same
    generalize upd H t0 (HO.tup [.int 0]) = H1 at e0 u0 ⊢
    refine ⟨(by show 1 ≤ sizeLine; decide), fun l0 hl0 => ?_⟩
    have e1 := same_new (o := HO.lst [.ref t0]) hl0
    have u1 : upd H1 l0 (HO.lst [.ref t0]) l0 = some (.lst [.ref t0]) := upd_same
    generalize upd H1 l0 (HO.lst [.ref t0]) = H2 at e1 u1 ⊢
    have e02 := e0.trans e1
    refine ⟨_, rfl, tt, ps, rfl, .inr (sqT_same e02 htt), ?_⟩
    refine ⟨l0, _, _, rfl, rfl, u1, by omega, by omega, by rw [sizeLine_eq]; show 1 * _ ≤ _; omega, fun p hp => ?_⟩
    rw [Int.toNat_natCast, List.flatten_replicate_singleton, lps]
    have e2 := same_new (o := HO.lst (List.replicate ts.length (V.ref t0))) hp
    have u2 : upd H2 p (HO.lst (List.replicate ts.length (V.ref t0))) p = some (.lst (List.replicate ts.length (V.ref t0))) := upd_same
    generalize upd H2 p (HO.lst (List.replicate ts.length (V.ref t0))) = H3 at e2 u2 ⊢
    have e03 := e02.trans e2
    refine ⟨_, rfl, _, rfl, _, rfl, (by show 1 ≤ sizeLine; decide), fun l1 hl1 => ?_⟩
    have e3 := same_new (o := HO.lst [.int 0]) hl1
    have u3 : upd H3 l1 (HO.lst [.int 0]) l1 = some (.lst [.int 0]) := upd_same
    generalize upd H3 l1 (HO.lst [.int 0]) = H4 at e3 u3 ⊢
    have e04 := e03.trans e3
    refine ⟨_, rfl, tt, ps, rfl, .inr (sqT_same e04 htt), ?_⟩
    refine ⟨l1, _, _, rfl, rfl, u3, by omega, by omega, by rw [sizeLine_eq]; show 1 * _ ≤ _; omega, fun p1 hp1 => ?_⟩
    rw [Int.toNat_natCast, zero_rep, lps]
    have e4 := same_new (o := HO.lst ((List.replicate ts.length (0 : Int)).map V.int)) hp1
    have u4 : upd H4 p1 (HO.lst ((List.replicate ts.length (0 : Int)).map V.int)) p1 = some (.lst ((List.replicate ts.length (0 : Int)).map V.int)) := upd_same
    generalize upd H4 p1 (HO.lst ((List.replicate ts.length (0 : Int)).map V.int)) = H5 at e4 u4 ⊢
    have e05 := e04.trans e4
    have e25 := e3.trans e4
    refine ⟨_, rfl, ⟨tt, r, p1, p, ps, List.replicate ts.length (V.ref t0), n, 1, W⟩, rfl, ⟨sqT_same e05 htt, rows.imp fun _ _ z => sqT_same e05 z, sqL_same e05 hr', SqL.of u4, SqL.of (e25 _ _ u2), rows_rep (sqT_same (e1.trans (e2.trans e25)) u0) ts.length, ok⟩, fun H6 e6 => ?_, fun fa fs H6 e6 nf op => ?_⟩
    · exact ⟨_, rfl, rfl, _, rfl, ite2 (fun _ => k H6 (e05.trans e6)) (fun h => absurd rfl h)⟩
    · refine ⟨_, rfl, rfl, _, rfl, ite2 (fun h => absurd (of_decide_eq_true h) (fun z => nomatch z)) (fun _ => ?_)⟩
      have e06 := e05.trans e6
      refine ⟨fa, .dT (kvOf fs), op.found, trivial, fun od => ⟨_, rfl, fa, od, rfl, .inr ⟨kvOf fs, upd_same, fun D0 hD => ?_⟩⟩⟩
      have fD : fa ≠ D0 := fun z => by rw [← z, upd_same] at hD; cases hD
      have nD : H6 D0 = none := by rw [upd_ne (Ne.symm fD)] at hD; exact hD
      have lkv : (kvOf fs).length = fs.length := by unfold kvOf; rw [List.length_map]
      have few5 := op.few
      refine turns (n := fs.length) (fun i H' => ∃ ks : List (Addr × List Int), H' fa = some (.frz od (.dT (kvOf fs))) ∧ (∀ b o, b ≠ fa → H6 b = some o → H' b = some o) ∧ H' D0 = some (.lst (ks.map fun p => V.ref p.1)) ∧ (∀ p ∈ ks, SqT K H' p.1 (p.2.map V.int)) ∧ (∀ p ∈ ks, ∃ x ∈ L, p.2 = cls c L x) ∧ ks.length = i ∧ ∀ j e, j < i → fs[j]? = some e → ∀ x ∈ L, W.Pt (x, 0, e.1) → cls c L x ∈ ks.map (·.2)) ⟨[], by rw [upd_ne fD]; exact upd_same, fun b o nb hb => by rw [upd_ne (fun z => by rw [z, nD] at hb; cases hb), upd_ne nb]; exact hb, upd_same, (fun _ h => nomatch h), (fun _ h => nomatch h), rfl, fun j e h => absurd h (Nat.not_lt_zero _)⟩ ?_ ?_
      · rintro i H7 hi ⟨ks, f7, ke7, h7, row7, are7, len7, all7⟩
        have fi : fs[i]? = some fs[i] := List.getElem?_eq_getElem hi
        have kvi : (kvOf fs)[i]? = some (fs[i].1.map Sum.inl, V.ref fs[i].2) := by unfold kvOf; rw [List.getElem?_map, fi]; rfl
        refine ⟨⟨f7, by rw [lkv]; exact hi⟩, ?_⟩
        rintro v H8 ⟨rfl, kk, vv, q, hv, rfl, hq⟩
        rw [kvi] at hv
        cases hv
        have me := List.getElem_mem hi
        obtain ⟨us, prs, a1, a2, a3, a4, a5, a6⟩ := op.at_ _ me
        have key := (op.key fs[i].1).mp (List.mem_map.mpr ⟨_, me, rfl⟩)
        generalize fs[i] = e at fi kvi me a1 a2 a3 a4 a5 a6 key hq
        obtain ⟨x0, hx0, ep⟩ := st_of R cl key a3 a4 a5 a6
        have a1' := ke7 _ _ (ne_of a1 op.found fun z => nomatch z) a1
        have a2' : RowsBy (fun q xs => H8 q = some (.tup xs)) us prs := a2.imp fun b xs z => ke7 b (.tup xs) (ne_of (show H6 b = some (.tup xs) from z) op.found fun z => nomatch z) z
        have lc8 : (cls c L x0).length ≤ L.length := inC_len
        have get : DGet H8 fa (.ref q) (some (.ref e.2)) := by
          rw [← val_kv op.nd (l := e.2) (sh := e.1) me]
          exact .inr ⟨kvOf fs, _, q, .inr ⟨od, f7⟩, rfl, hq, rfl⟩
        refine ⟨rfl, yes ((if_pos rfl).mpr ?_)⟩
        refine ⟨_, rfl, _, rfl, fa, _, rfl, get, e.2, rfl, ⟨_, SqL.of a1'⟩, fun D5 hD5 => ?_⟩
        have nD5 : D5 ≠ fa := fun z => by
          rw [z] at hD5
          rw [show H8 fa = none from hD5] at f7
          cases f7
        have lus := a2'.length
        rw [ep, List.length_map] at lus
        refine lc_list (xs := us) (fun j H' => Same H8 H' ∧ H' D5 = some (.lst (((cls c L x0).take j).map V.int))) ⟨same_new hD5, by rw [List.take_zero]; exact upd_same⟩ (fun i H' _ z => SqL.of (z.1 _ _ a1')) ?_ ?_
        · rintro j v H9 hv ⟨e9, h9⟩
          have lj : j < (cls c L x0).length := by rw [← lus]; exact (List.getElem?_eq_some_iff.mp hv).1
          have cj : (cls c L x0)[j]? = some (cls c L x0)[j] := List.getElem?_eq_getElem lj
          obtain ⟨q', q1, q2⟩ := a2'.at_ (i := j) (t := [(cls c L x0)[j], 0]) (by rw [ep, List.getElem?_map, cj]; rfl)
          rw [hv] at q1
          cases q1
          have tk : (cls c L x0).take (j + 1) = (cls c L x0).take j ++ [(cls c L x0)[j]] := by rw [List.take_add_one, cj]; rfl
          generalize (cls c L x0)[j] = y at q2 tk cj
          refine ⟨q', _, rfl, SqT.of (e9 _ _ q2), rfl, ?_⟩
          refine ⟨_, _, rfl, _, _, rfl, rfl, rfl, yes ((if_pos rfl).mpr ?_)⟩
          refine ⟨_, rfl, _, h9, by rw [List.length_map, List.length_take, sizeLine_eq]; omega, same_put e9 hD5, ?_⟩
          rw [upd_same, tk, List.map_append]
          rfl
        · rintro H9 ⟨e9, h9⟩
          rw [lus, List.take_length] at h9
          refine ⟨D5, _, rfl, .inl ⟨SqL.of h9, fun t ht => ?_⟩⟩
          have e10 := same_new (o := HO.tup ((cls c L x0).map V.int)) ht
          have u10 : SqT K (upd H9 t (HO.tup ((cls c L x0).map V.int))) t ((cls c L x0).map V.int) := SqT.of upd_same
          generalize upd H9 t (HO.tup ((cls c L x0).map V.int)) = H10 at e10 u10 ⊢
          have e8 := e9.trans e10
          have h10 := e8 _ _ h7
          refine ⟨_, h10, by rw [List.length_map, sizeLine_eq]; omega, ks ++ [(t, cls c L x0)], by rw [upd_ne fD]; exact e8 _ _ f7, fun b o nb hb => ?_, ?_, fun p hp => ?_, fun p hp => ?_, by rw [List.length_append, len7]; rfl, fun j d hj hd x hx hpx => ?_⟩
          · rw [upd_ne (fun z => by rw [z, nD] at hb; cases hb)]
            exact e8 _ _ (ke7 b o nb hb)
          · rw [upd_same, List.map_append]
            rfl
          · rcases List.mem_append.mp hp with hp | hp
            · exact sqT_lst h10 (sqT_same e8 (row7 p hp))
            · rw [List.mem_singleton.mp hp]
              exact sqT_lst h10 u10
          · rcases List.mem_append.mp hp with hp | hp
            · exact are7 p hp
            · rw [List.mem_singleton.mp hp]
              exact ⟨x0, hx0, rfl⟩
          · rw [List.map_append]
            by_cases z : j = i
            · refine List.mem_append_right _ (List.mem_singleton.mpr ?_)
              rw [z, fi] at hd
              cases hd
              have m1 : [x, 0] ∈ prs := (a6 x 0).mpr hpx
              rw [ep] at m1
              obtain ⟨x', hx', e'⟩ := List.mem_map.mp m1
              have : x' = x := by simpa using e'
              subst this
              have := (mem_cls.mp hx').2
              show inC c L _ = inC c L _
              rw [this]
            · exact List.mem_append_left _ (all7 j d (by omega) hd x hx hpx)
      · rintro H7 ⟨ks, f7, ke7, h7, row7, are7, len7, all7⟩
        refine ⟨⟨f7, by rw [lkv]; exact Nat.le_refl _⟩, f7, ?_⟩
        have un : ∀ {p : Addr} {xs : List V}, SqT K H7 p xs → SqT K (upd H7 fa (.dT (kvOf fs))) p xs := fun {p xs} h => by
          rcases h with (h | ⟨z, h⟩) | h
          · exact .inl (.inl (by rw [upd_ne (ne_of h f7 (fun z => nomatch z))]; exact h))
          · exact .inl (.inr ⟨z, by rw [upd_ne (ne_of h f7 (fun z => nomatch z))]; exact h⟩)
          · exact .inr h
        let H8 := upd H7 fa (.dT (kvOf fs))
        have h8 : H8 D0 = some (.lst (ks.map fun p => V.ref p.1)) := by show upd H7 fa _ D0 = _; rw [upd_ne (Ne.symm fD)]; exact h7
        have e68 : Same H6 H8 := fun b o hb => by
          show upd H7 fa _ b = _
          by_cases z : b = fa
          · rw [z, upd_same, ← hb, z]
            exact op.found.symm
          · rw [upd_ne z]
            exact ke7 b o z hb
        have row8 : ∀ p ∈ ks, SqT K H8 p.1 (p.2.map V.int) := fun p hp => un (row7 p hp)
        have few62 : FewT ks := ⟨L.map fun x => cls c L x, by rw [List.length_map]; omega, fun p hp => by
          obtain ⟨x, hx, ee⟩ := are7 p hp
          rw [ee]
          exact List.mem_map.mpr ⟨x, hx, rfl⟩⟩
        refine ⟨D0, ks, rfl, SqL.of h8, row8, few62, fun S M hS sub all => ?_⟩
        let H9 := upd H8 S (SetTO P w S M)
        have e9 : Same H8 H9 := same_new (o := SetTO P w S M) hS
        have u9 : H9 S = some (SetTO P w S M) := upd_same
        refine ⟨S, M, (cls c L s).length, 8, rfl, u9, fun p hp => sqT_same e9 (row8 p (sub p hp)), List.length_pos_of_mem (mem_cls.mpr ⟨mc.sL, rfl⟩), fun p hp => ?_, fun M' l pm nd l64 pw hl => ?_⟩
        · obtain ⟨x, hx, ee⟩ := are7 p (sub p hp)
          rw [ee]
          exact ⟨cls_len mc cl hx, cls_bd mc hx⟩
        · let HA := upd H9 l (HO.lst (M'.map fun q => V.ref q.1))
          have eA : Same H9 HA := same_new hl
          have uA : HA l = some (.lst (M'.map fun q => V.ref q.1)) := upd_same
          have eq := lots_sorted mc cl nd (fun l hl => by
            obtain ⟨p, hp, rfl⟩ := List.mem_map.mp hl
            exact are7 p (sub p (pm.mem_iff.mp hp))) (fun x hx => by
            obtain ⟨sh, hsh⟩ := R.some_ hx
            obtain ⟨d, hd, ed⟩ := List.mem_map.mp ((op.key sh).mpr ⟨x, 0, hsh⟩)
            obtain ⟨j, hj⟩ := List.getElem?_of_mem hd
            have m1 := all7 j d (List.getElem?_eq_some_iff.mp hj).1 hj x hx (by rw [ed]; exact hsh)
            obtain ⟨p, hp, ep⟩ := List.mem_map.mp m1
            rw [← ep]
            obtain ⟨p', hp', e'⟩ := List.mem_map.mp (all p hp)
            exact List.mem_map.mpr ⟨p', pm.mem_iff.mpr hp', e'⟩) (List.pairwise_map.mpr pw)
          have e8A := e9.trans eA
          have rowA : RowsBy (SqT K HA) (M'.map fun q => V.ref q.1) (lotsOf c L) := by
            rw [← eq]
            exact rows_of fun p hp => sqT_same e8A (row8 p (sub p (pm.mem_iff.mp hp)))
          have e0A := e06.trans (e68.trans e8A)
          have inn : ∀ l ∈ lotsOf c L, l.length ≤ 8 ∧ ∀ y ∈ l, -1000000 ≤ y ∧ y ≤ 1000000 := fun l hl => by
            obtain ⟨x, hx, rfl⟩ := mem_lots.mp hl
            have : (inC c L (c x)).length ≤ L.length := inC_len
            refine ⟨by omega, fun y hy => ?_⟩
            have := wl.rng y (mem_inC.mp hy).1
            omega
          have ll : (lotsOf c L).length ≤ 1000 := by
            have := lrows.length
            have : (lotsOf c L).length ≤ L.length := lots_few
            omega
          have od : OkD 2 15402004 (dRows (lotsOf c L)) := okD_rows inn ll
          refine ⟨_, rfl, _, _, rfl, dp_rows (sqT_same e0A hlo) (lrows.imp fun _ _ z => sqT_same e0A z), od.sh, od.nd, od.d60, od.line, ?_⟩
          refine ⟨_, rfl, l, _, rfl, .inl ⟨SqL.of uA, fun t ht => ?_⟩⟩
          have eB := same_new (o := HO.tup (M'.map fun q => V.ref q.1)) ht
          have uB : SqT K (upd HA t (HO.tup (M'.map fun q => V.ref q.1))) t (M'.map fun q => V.ref q.1) := SqT.of upd_same
          refine ⟨_, _, rfl, dp_rows uB (rowA.imp fun _ _ z => sqT_same eB z), od.sh, od.nd, od.d60, od.line, ?_⟩
          refine ⟨rfl, ?_⟩
          rw [decide_eq_true rfl]
          exact k _ (e0A.trans eB)
end
end K7
/-! one machine asked beside unlike counters (pure) -/
namespace K7
open L2 PySem PySem.Spec PyProof.Rows Kx RZ
section
variable {PR : Nat → Nat → Prop} {ts : List (List Int)} {cs : List Nat} {L : List Int} {u v : Int}
theorem tog_eq (h : ∀ u v, Seed PR ts cs L u v → u = v) (t : Tog PR ts cs L u v) : u = v := by
  induction t with
  | seed s => exact h _ _ s
  | refl _ => rfl
  | symm _ ih => exact ih.symm
  | trans _ _ i1 i2 => exact i1.trans i2
  | step d _ _ ih => rw [ih]
theorem cls_id (h : ∀ u v, Seed PR ts cs L u v → u = v) : Cls1 PR ts cs L fun x => x := fun x hx y _ => ⟨fun e => by
  rw [show x = y from e] at hx ⊢
  exact .refl hx, tog_eq h⟩
theorem cls_one (h : ∀ x ∈ L, ∀ y ∈ L, Tog PR ts cs L x y) : Cls1 PR ts cs L fun _ => 0 := fun x hx y hy => ⟨fun _ => h x hx y hy, fun _ => rfl⟩
end
def apT : List (List Int) := [[1, 0, 3, 4, 2], [0, 1, 3, 4, 2]]
def askS : Nat → Int
  | 1 => 2
  | 2 => 2
  | _ => 0
def askR : Nat → List Int
  | 2 => [3, 3]
  | 3 => [3, 3]
  | _ => [2, 1]
def askD : List (List (List Int)) := [[[0], [1]], [[2, 3, 4]], [[2], [3], [4]], [[0, 1]], [[0], [1]]]
def askN : List Int := [1, 3, 1, 2, 1]
theorem apM : Mok 5 apT := by
  refine ⟨by decide, by decide, by decide, by decide, fun t ht => ?_, fun t ht => ?_⟩
  · simp only [apT, List.mem_cons, List.not_mem_nil, or_false] at ht
    rcases ht with rfl | rfl <;> rfl
  · simp only [apT, List.mem_cons, List.not_mem_nil, or_false] at ht
    rcases ht with rfl | rfl <;> decide
theorem apX (s : Int) (L : List Int) (hs : s ∈ L) (s0 : 0 ≤ s) (s5 : s < 5) (srt : L.Pairwise (· < ·)) (cl : ∀ t ∈ apT, ∀ x ∈ L, tx t x ∈ L) (inj : ∀ t ∈ apT, ∀ x ∈ L, ∀ y ∈ L, tx t x = tx t y → x = y) (rch : ∀ x ∈ L, Rch apT s x) : Mch 5 apT s L := by
  have inL : ∀ x, Rch apT s x → x ∈ L := fun x ⟨row, h1, e⟩ => by
    rw [e]
    exact closed_all (ts := apT) (F := L) (fun y hy d hd => cl _ (getD_mem hd) y hy) hs h1
  exact ⟨apM, s0, s5, fun t ht x y rx ry e => inj t ht x (inL x rx) y (inL y ry) e, srt, fun x => ⟨rch x, inL x⟩⟩
theorem seed_id {rs L : List Int} (h1 : ∀ x ∈ L, tx (apT.getD 1 []) (tx (apT.getD 0 []) x) = tx (apT.getD 0 []) (tx (apT.getD 1 []) x)) (h2 : ∀ x ∈ L, it (apT.getD 0 []) ((natsOf rs).getD 0 0) x = x) (h3 : ∀ x ∈ L, it (apT.getD 1 []) ((natsOf rs).getD 1 0) x = x) : ∀ u v, Seed (LtB 2) apT (natsOf rs) L u v → u = v := fun u v s => by
  cases s with
  | comm a b x pr ha hb hx =>
    obtain ⟨l1, l2⟩ := pr
    obtain rfl : a = 0 := by omega
    obtain rfl : b = 1 := by omega
    exact h1 x hx
  | turn d x hd hx =>
    have hd : d < 2 := hd
    have : d = 0 ∨ d = 1 := by omega
    rcases this with rfl | rfl
    · exact (h2 _ hx).symm
    · exact (h3 _ hx).symm
theorem mch0 : Mch 5 apT 0 [0, 1] := apX 0 [0, 1] (by decide) (by decide) (by decide) (by decide) (by decide) (by decide) fun x hx => by
  simp only [List.mem_cons, List.not_mem_nil, or_false] at hx
  rcases hx with rfl | rfl
  · exact .refl
  · exact Rch.step (ts := apT) (s := 0) (x := 0) (d := 0) .refl (by decide)
theorem mch2 : Mch 5 apT 2 [2, 3, 4] := apX 2 [2, 3, 4] (by decide) (by decide) (by decide) (by decide) (by decide) (by decide) fun x hx => by
  have r3 : Rch apT 2 3 := Rch.step (ts := apT) (s := 2) (x := 2) (d := 0) .refl (by decide)
  simp only [List.mem_cons, List.not_mem_nil, or_false] at hx
  rcases hx with rfl | rfl | rfl
  · exact .refl
  · exact r3
  · exact Rch.step (ts := apT) (s := 2) (x := 3) (d := 0) r3 (by decide)
theorem asks : ∀ i, i < 5 → ∃ L, Mch 5 apT (askS i) L ∧ (askR i).length = 2 ∧ ∀ c, Cls1 (LtB 2) apT (natsOf (askR i)) L c → lotsOf c L = askD.getD i [] ∧ ((cls c L (askS i)).length : Int) = askN.getD i 0 := by
  have go : ∀ (i : Nat) (s : Int) (L : List Int) (rs : List Int) (c0 : Int → Int), Cls1 (LtB 2) apT (natsOf rs) L c0 → s ∈ L → lotsOf c0 L = askD.getD i [] → ((cls c0 L s).length : Int) = askN.getD i 0 → ∀ c, Cls1 (LtB 2) apT (natsOf rs) L c → lotsOf c L = askD.getD i [] ∧ ((cls c L s).length : Int) = askN.getD i 0 := fun i s L rs c0 h0 hs e1 e2 c h => by
    have q := h.eq h0
    rw [lots_eq q, show cls c L s = cls c0 L s from inC_eq q hs]
    exact ⟨e1, e2⟩
  intro i hi
  have : i = 0 ∨ i = 1 ∨ i = 2 ∨ i = 3 ∨ i = 4 := by omega
  have a0 : Cls1 (LtB 2) apT (natsOf [2, 1]) [0, 1] fun x => x := cls_id (seed_id (by decide) (by decide) (by decide))
  rcases this with rfl | rfl | rfl | rfl | rfl
  · exact ⟨[0, 1], mch0, rfl, go 0 0 [0, 1] [2, 1] _ a0 (by decide) (by decide) (by decide)⟩
  · refine ⟨[2, 3, 4], mch2, rfl, go 1 2 [2, 3, 4] [2, 1] _ (cls_one ?_) (by decide) (by decide) (by decide)⟩
    have s : ∀ x ∈ ([2, 3, 4] : List Int), Tog (LtB 2) apT (natsOf [2, 1]) [2, 3, 4] x (it (apT.getD 1 []) 1 x) := fun x hx => .seed (.turn 1 x (by decide) hx)
    have s2 : Tog (LtB 2) apT (natsOf [2, 1]) [2, 3, 4] 2 3 := s 2 (by decide)
    have s3 : Tog (LtB 2) apT (natsOf [2, 1]) [2, 3, 4] 3 4 := s 3 (by decide)
    have all : ∀ x ∈ ([2, 3, 4] : List Int), Tog (LtB 2) apT (natsOf [2, 1]) [2, 3, 4] 2 x := fun x hx => by
      simp only [List.mem_cons, List.not_mem_nil, or_false] at hx
      rcases hx with rfl | rfl | rfl
      · exact .refl (by decide)
      · exact s2
      · exact s2.trans s3
    exact fun x hx y hy => (all x hx).symm.trans (all y hy)
  · exact ⟨[2, 3, 4], mch2, rfl, go 2 2 [2, 3, 4] [3, 3] _ (cls_id (seed_id (by decide) (by decide) (by decide))) (by decide) (by decide) (by decide)⟩
  · refine ⟨[0, 1], mch0, rfl, go 3 0 [0, 1] [3, 3] _ (cls_one ?_) (by decide) (by decide) (by decide)⟩
    have s1 : Tog (LtB 2) apT (natsOf [3, 3]) [0, 1] 0 1 := .seed (.turn (PR := LtB 2) (ts := apT) (cs := natsOf [3, 3]) (L := [0, 1]) 0 0 (by decide) (by decide))
    have all : ∀ x ∈ ([0, 1] : List Int), Tog (LtB 2) apT (natsOf [3, 3]) [0, 1] 0 x := fun x hx => by
      simp only [List.mem_cons, List.not_mem_nil, or_false] at hx
      rcases hx with rfl | rfl
      · exact .refl (by decide)
      · exact s1
    exact fun x hx y hy => (all x hx).symm.trans (all y hy)
  · exact ⟨[0, 1], mch0, rfl, go 4 0 [0, 1] [2, 1] _ a0 (by decide) (by decide) (by decide)⟩
/-- rows of rows -/
def Lr (K : PySem.W.Frag) (H : Hp) : List V → List (List (List Int)) → Prop
  | [], [] => True
  | v :: us, d :: ds => (∃ q qs, v = .ref q ∧ SqT K H q qs ∧ RowsBy (SqT K H) qs d) ∧ Lr K H us ds
  | _, _ => False
theorem Lr.imp {K : PySem.W.Frag} {H H' : Hp} (e : ∀ q xs, SqT K H q xs → SqT K H' q xs) : ∀ {us : List V} {ds : List (List (List Int))}, Lr K H us ds → Lr K H' us ds
  | [], [], _ => trivial
  | _ :: _, _ :: _, ⟨⟨q, qs, h1, h2, h3⟩, h⟩ => ⟨⟨q, qs, h1, e _ _ h2, h3.imp e⟩, Lr.imp e h⟩
  | [], _ :: _, h => h.elim
  | _ :: _, [], h => h.elim
theorem Lr.snoc {K : PySem.W.Frag} {H : Hp} {q : Addr} {qs : List V} {d : List (List Int)} (h2 : SqT K H q qs) (h3 : RowsBy (SqT K H) qs d) : ∀ {us : List V} {ds : List (List (List Int))}, Lr K H us ds → Lr K H (us ++ [.ref q]) (ds ++ [d])
  | [], [], _ => ⟨⟨q, qs, rfl, h2, h3⟩, trivial⟩
  | _ :: _, _ :: _, ⟨h, k⟩ => ⟨h, Lr.snoc h2 h3 k⟩
  | [], _ :: _, h => h.elim
  | _ :: _, [], h => h.elim
theorem Lr.dp {K : PySem.W.Frag} {H : Hp} : ∀ {us : List V} {ds : List (List (List Int))}, Lr K H us ds → DpAll K H us (ds.map dRows)
  | [], [], _ => .nil
  | _ :: _, _ :: _, ⟨⟨q, qs, h1, h2, h3⟩, h⟩ => by
    rw [h1]
    exact .cons (dp_rows h2 h3) (Lr.dp h)
  | [], _ :: _, h => h.elim
  | _ :: _, [], h => h.elim
theorem Lr.length {K : PySem.W.Frag} {H : Hp} : ∀ {us : List V} {ds : List (List (List Int))}, Lr K H us ds → us.length = ds.length
  | [], [], _ => rfl
  | _ :: _, _ :: _, ⟨_, h⟩ => congrArg Nat.succ (Lr.length h)
  | [], _ :: _, h => h.elim
  | _ :: _, [], h => h.elim
end K7
/-! _law_apart_right -/
namespace K7
open L2 PySem PySem.Spec PyProof.Rows Kx RZ
def spApart : Sp := fun vs H Q _ => vs = [] ∧ ∀ H', Same H H' → Q (.bl true) H'
/-- what is asked stands -/
structure Apa (K : PySem.W.Frag) (C CM : Addr) (ap two thr : Addr) (H : Hp) : Prop where
  mc : McAt K CM H ap 5 apT
  c2 : CnAt K C H two [2, 1] [0, 0]
  c3 : CnAt K C H thr [3, 3] [0, 0]
theorem Apa.same {K : PySem.W.Frag} {C CM ap two thr : Addr} {H H' : Hp} (h : Apa K C CM ap two thr H) (e : Same H H') : Apa K C CM ap two thr H' := ⟨h.mc.same e, h.c2.same e, h.c3.same e⟩
def thOf (two thr : Addr) : Nat → Addr
  | 2 => thr
  | 3 => thr
  | _ => two
structure Asx (K : PySem.W.Frag) (two thr : Addr) (xs : List V) (H : Hp) : Prop where
  len : xs.length = 5
  at_ : ∀ i, i < 5 → ∃ a, xs[i]? = some (.ref a) ∧ SqT K H a [.int (askS i), .ref (thOf two thr i)]
theorem Asx.same {K : PySem.W.Frag} {two thr : Addr} {xs : List V} {H H' : Hp} (h : Asx K two thr xs H) (e : Same H H') : Asx K two thr xs H' := ⟨h.len, fun i hi => (h.at_ i hi).elim fun a q => ⟨a, q.1, sqT_same e q.2⟩⟩
theorem cn_of {K : PySem.W.Frag} {C CM ap two thr : Addr} {H : Hp} (h : Apa K C CM ap two thr H) {i : Nat} (hi : i < 5) : CnAt K C H (thOf two thr i) (askR i) [0, 0] := by
  have : i = 0 ∨ i = 1 ∨ i = 2 ∨ i = 3 ∨ i = 4 := by omega
  rcases this with rfl | rfl | rfl | rfl | rfl
  · exact h.c2
  · exact h.c2
  · exact h.c3
  · exact h.c3
  · exact h.c2
section
variable {P : Program} {w : World} {K : PySem.W.Frag} {mg : Str → Option Value} {base : Heap} {f : Addr} {cdv : Value} {A : Around} {outer : List Env} {st : Shared} {H0 : Hp} {E : XK} {fd : FuncData} {a : Ad} {C CM t0 : Addr}
theorem sclaw_apart_right : FnScope ["apart", "two", "threes", "asked", "dues", "first", "some"] [] (defScope s_law_apart_right) := ⟨rfl, rfl, rfl, by decide +kernel, rfl, by decide +kernel, by decide +kernel⟩
abbrev XA (P : Program) (w : World) (K : PySem.W.Frag) (mg : Str → Option Value) (base : Heap) (f : Addr) (cdv : Value) (A : Around) (outer : List Env) (st : Shared) (H : Hp) (E : XK) : Cx := (cxOf CX0 P w K mg base ["apart", "two", "threes", "asked", "dues", "first", "some"] "_law_apart_right" (defScope s_law_apart_right) f cdv A outer st H E).nox
abbrev apS : List Stmt := defBody s_law_apart_right
structure La (P : Program) (w : World) (K : PySem.W.Frag) (mg : Str → Option Value) (base : Heap) (f : Addr) (cdv : Value) (A : Around) (outer : List Env) (st : Shared) (a : Ad) (C CM t0 : Addr) : Prop where
  T : Mg mg
  TC : ClsC K mg C
  TM : ClsM K mg CM
  M : Mks P w K mg base a C CM t0
  lots : Cal P w K mg base (L2N.CX P w) 10 "lots_of" ["machine", "first", "counters"] (spLots K C CM)
  size : Cal P w K mg base (L2N.CX P w) 11 "fold_size" ["machine", "first", "counters"] (spSize K C CM)
  hr : Room 11 (A.deeper (envOfC "_law_apart_right" (defScope s_law_apart_right) st.heap.objs.size f cdv))
variable (Z : La P w K mg base f cdv A outer st a C CM t0)
include Z
theorem a0 : HT (ι := Unit) (XA P w K mg base f cdv A outer st H0 E) (nthS apS 0) (fun _ σ H => σ = [none, none, none, none, none, none, none] ∧ H = H0)
    (fun _ σ H => ∃ ap two thr, σ = [some (.ref ap), some (.ref two), some (.ref thr), none, none, none, none] ∧ Same H0 H ∧ Apa K C CM ap two thr H) := by
  obtain ⟨T, TC, TM, M, c_lots, c_size, hr⟩ := Z
  have nil := M.nil
  refine ⟨_, (ps_asg (pe_tup (pa_cons (pe_mac (K := K) M TM hr pzN (pa_cons (pe_lst (pa_cons (pe_tup (pa_cons pe_int (pa_cons pe_int (pa_cons pe_int (pa_cons pe_int (pa_cons pe_int pa_nil)))))) (pa_cons (pe_tup (pa_cons pe_int (pa_cons pe_int (pa_cons pe_int (pa_cons pe_int (pa_cons pe_int pa_nil)))))) pa_nil))) pa_nil)) (pa_cons (pe_cnt1 (K := K) M TC hr pzN (pa_cons (pe_tup (pa_cons pe_int (pa_cons pe_int pa_nil))) pa_nil)) (pa_cons (pe_cnt1 (K := K) M TC hr pzN (pa_cons (pe_tup (pa_cons pe_int (pa_cons pe_int pa_nil))) pa_nil)) pa_nil)))) (pg_tup rfl (pgs_cons (pg_name (i := 0) sclaw_apart_right.nd rfl (by first | exact Or.inl rfl | exact Or.inr rfl)) (pgs_cons (pg_name (i := 1) sclaw_apart_right.nd rfl (by first | exact Or.inl rfl | exact Or.inr rfl)) (pgs_cons (pg_name (i := 2) sclaw_apart_right.nd rfl (by first | exact Or.inl rfl | exact Or.inr rfl)) pgs_nil))))), ?_⟩
  rintro _ D σ H ⟨rfl, rfl⟩ kk
  refine ⟨(by show 5 ≤ sizeLine; decide), fun r0 hr0 => ?_⟩
  have e0 := same_new (o := HO.tup [.int 1, .int 0, .int 3, .int 4, .int 2]) hr0
  have u0 : SqT K (upd H r0 (HO.tup [.int 1, .int 0, .int 3, .int 4, .int 2])) r0 (([1, 0, 3, 4, 2] : List Int).map V.int) := SqT.of upd_same
  generalize upd H r0 (HO.tup [.int 1, .int 0, .int 3, .int 4, .int 2]) = H1 at e0 u0 ⊢
  refine ⟨(by show 5 ≤ sizeLine; decide), fun r1 hr1 => ?_⟩
  have e1 := same_new (o := HO.tup [.int 0, .int 1, .int 3, .int 4, .int 2]) hr1
  have u1 : SqT K (upd H1 r1 (HO.tup [.int 0, .int 1, .int 3, .int 4, .int 2])) r1 (([0, 1, 3, 4, 2] : List Int).map V.int) := SqT.of upd_same
  generalize upd H1 r1 (HO.tup [.int 0, .int 1, .int 3, .int 4, .int 2]) = H2 at e1 u1 ⊢
  refine ⟨(by show 2 ≤ sizeLine; decide), fun l hl => ?_⟩
  have e2 := same_new (o := HO.lst [.ref r0, .ref r1]) hl
  have u2 : SqL K (upd H2 l (HO.lst [.ref r0, .ref r1])) l [.ref r0, .ref r1] := SqL.of upd_same
  generalize upd H2 l (HO.lst [.ref r0, .ref r1]) = H3 at e2 u2 ⊢
  have rows : RowsBy (Sq K H3) [.ref r0, .ref r1] apT := ⟨⟨r0, rfl, .inr (sqT_same (e1.trans e2) u0)⟩, ⟨r1, rfl, .inr (sqT_same e2 u1)⟩, trivial⟩
  refine fun x dx hx hdx ne => mc_make apM (.inl u2) rows hx hdx ne fun H4 e4 mc4 => ?_
  have e04 := e0.trans (e1.trans (e2.trans e4))
  refine ⟨(by show 2 ≤ sizeLine; decide), fun p1 hp1 => ?_⟩
  have e5 := same_new (o := HO.tup [.int 2, .int 1]) hp1
  have u5 : SqT K (upd H4 p1 (HO.tup [.int 2, .int 1])) p1 (([2, 1] : List Int).map V.int) := SqT.of upd_same
  generalize upd H4 p1 (HO.tup [.int 2, .int 1]) = H5 at e5 u5 ⊢
  refine fun x2 dx2 hx2 hdx2 ne2 => make_good (rs := [2, 1]) (es := [0, 0]) ⟨by decide, by decide, by decide, by decide, by decide⟩ (.seq (.inr u5)) (.inl ⟨.seq (.inr (nil _)), rfl⟩) hx2 hdx2 ne2 fun H6 e6 cn6 => ?_
  refine ⟨(by show 2 ≤ sizeLine; decide), fun p2 hp2 => ?_⟩
  have e7 := same_new (o := HO.tup [.int 3, .int 3]) hp2
  have u7 : SqT K (upd H6 p2 (HO.tup [.int 3, .int 3])) p2 (([3, 3] : List Int).map V.int) := SqT.of upd_same
  generalize upd H6 p2 (HO.tup [.int 3, .int 3]) = H7 at e7 u7 ⊢
  refine fun x3 dx3 hx3 hdx3 ne3 => make_good (rs := [3, 3]) (es := [0, 0]) ⟨by decide, by decide, by decide, by decide, by decide⟩ (.seq (.inr u7)) (.inl ⟨.seq (.inr (nil _)), rfl⟩) hx3 hdx3 ne3 fun H8 e8 cn8 => ?_
  refine ⟨(by show 3 ≤ sizeLine; decide), fun t ht => ?_⟩
  have e9 := same_new (o := HO.tup [.ref x, .ref x2, .ref x3]) ht
  have u9 : SqT K (upd H8 t (HO.tup [.ref x, .ref x2, .ref x3])) t [.ref x, .ref x2, .ref x3] := SqT.of upd_same
  generalize upd H8 t (HO.tup [.ref x, .ref x2, .ref x3]) = H9 at e9 u9 ⊢
  have e69 := e7.trans (e8.trans e9)
  have e49 := e5.trans (e6.trans e69)
  exact ⟨t, _, rfl, u9, rfl, _, _, rfl, _, _, rfl, _, _, rfl, rfl, kk _ _ ⟨x, x2, x3, rfl, e04.trans e49, mc4.same e49, cn6.same e69, cn8.same e9⟩⟩
theorem a1 : HT (ι := Unit) (XA P w K mg base f cdv A outer st H0 E) (nthS apS 1) (fun _ σ H => ∃ ap two thr, σ = [some (.ref ap), some (.ref two), some (.ref thr), none, none, none, none] ∧ Same H0 H ∧ Apa K C CM ap two thr H)
    (fun _ σ H => ∃ ap two thr al xs, σ = [some (.ref ap), some (.ref two), some (.ref thr), some (.ref al), none, none, none] ∧ Same H0 H ∧ Apa K C CM ap two thr H ∧ H al = some (.lst xs) ∧ Asx K two thr xs H) := by
  obtain ⟨T, TC, TM, M, c_lots, c_size, hr⟩ := Z
  refine ⟨_, (ps_set (i := 3) sclaw_apart_right.nd rfl (by first | exact Or.inl rfl | exact Or.inr rfl) (pe_lst (pa_cons (pe_tup (pa_cons pe_int (pa_cons (pv 1) pa_nil))) (pa_cons (pe_tup (pa_cons pe_int (pa_cons (pv 1) pa_nil))) (pa_cons (pe_tup (pa_cons pe_int (pa_cons (pv 2) pa_nil))) (pa_cons (pe_tup (pa_cons pe_int (pa_cons (pv 2) pa_nil))) (pa_cons (pe_tup (pa_cons pe_int (pa_cons (pv 1) pa_nil))) pa_nil))))))), ?_⟩
  rintro _ D σ H ⟨ap, two, thr, rfl, e, ha⟩ kk
  have mk : ∀ {H : Hp} {p : Addr} {i : Int} {c : Addr}, H p = none → Same H (upd H p (HO.tup [.int i, .ref c])) ∧ SqT K (upd H p (HO.tup [.int i, .ref c])) p [.int i, .ref c] := fun h => ⟨same_new h, SqT.of upd_same⟩
  refine ⟨_, rfl, (by show 2 ≤ sizeLine; decide), fun p0 h0 => ?_⟩
  obtain ⟨e0, u0⟩ := mk (i := 0) (c := two) h0
  generalize upd H p0 (HO.tup [.int 0, .ref two]) = H1 at e0 u0 ⊢
  refine ⟨_, rfl, (by show 2 ≤ sizeLine; decide), fun p1 h1 => ?_⟩
  obtain ⟨e1, u1⟩ := mk (i := 2) (c := two) h1
  generalize upd H1 p1 (HO.tup [.int 2, .ref two]) = H2 at e1 u1 ⊢
  refine ⟨_, rfl, (by show 2 ≤ sizeLine; decide), fun p2 h2 => ?_⟩
  obtain ⟨e2, u2⟩ := mk (i := 2) (c := thr) h2
  generalize upd H2 p2 (HO.tup [.int 2, .ref thr]) = H3 at e2 u2 ⊢
  refine ⟨_, rfl, (by show 2 ≤ sizeLine; decide), fun p3 h3 => ?_⟩
  obtain ⟨e3, u3⟩ := mk (i := 0) (c := thr) h3
  generalize upd H3 p3 (HO.tup [.int 0, .ref thr]) = H4 at e3 u3 ⊢
  refine ⟨_, rfl, (by show 2 ≤ sizeLine; decide), fun p4 h4 => ?_⟩
  obtain ⟨e4, u4⟩ := mk (i := 0) (c := two) h4
  generalize upd H4 p4 (HO.tup [.int 0, .ref two]) = H5 at e4 u4 ⊢
  refine ⟨(by show 5 ≤ sizeLine; decide), fun l hl => ?_⟩
  have e5 := same_new (o := HO.lst [.ref p0, .ref p1, .ref p2, .ref p3, .ref p4]) hl
  have u5 : upd H5 l (HO.lst [.ref p0, .ref p1, .ref p2, .ref p3, .ref p4]) l = some (.lst [.ref p0, .ref p1, .ref p2, .ref p3, .ref p4]) := upd_same
  generalize upd H5 l (HO.lst [.ref p0, .ref p1, .ref p2, .ref p3, .ref p4]) = H6 at e5 u5 ⊢
  have e46 := e4.trans e5
  have e36 := e3.trans e46
  have e26 := e2.trans e36
  have e16 := e1.trans e26
  have e06 := e0.trans e16
  refine kk _ _ ⟨ap, two, thr, l, _, rfl, e.trans e06, ha.same e06, u5, rfl, fun i hi => ?_⟩
  have : i = 0 ∨ i = 1 ∨ i = 2 ∨ i = 3 ∨ i = 4 := by omega
  rcases this with rfl | rfl | rfl | rfl | rfl
  · exact ⟨p0, rfl, sqT_same e16 u0⟩
  · exact ⟨p1, rfl, sqT_same e26 u1⟩
  · exact ⟨p2, rfl, sqT_same e36 u2⟩
  · exact ⟨p3, rfl, sqT_same e46 u3⟩
  · exact ⟨p4, rfl, sqT_same e5 u4⟩
end
end K7
/-! _law_apart_right: its end -/
namespace K7
open L2 PySem PySem.Spec PyProof.Rows Kx RZ
section
variable {P : Program} {w : World} {K : PySem.W.Frag} {mg : Str → Option Value} {base : Heap} {f : Addr} {cdv : Value} {A : Around} {outer : List Env} {st : Shared} {H0 : Hp} {E : XK} {fd : FuncData} {a : Ad} {C CM t0 : Addr}
theorem a2 (Z : La P w K mg base f cdv A outer st a C CM t0) : HT (ι := Unit) (XA P w K mg base f cdv A outer st H0 E) (nthS apS 2) (fun _ σ H => ∃ ap two thr al xs, σ = [some (.ref ap), some (.ref two), some (.ref thr), some (.ref al), none, none, none] ∧ Same H0 H ∧ Apa K C CM ap two thr H ∧ H al = some (.lst xs) ∧ Asx K two thr xs H)
    (fun _ σ H => ∃ ap two thr al xs dl ds, σ = [some (.ref ap), some (.ref two), some (.ref thr), some (.ref al), some (.ref dl), none, none] ∧ Same H0 H ∧ Apa K C CM ap two thr H ∧ H al = some (.lst xs) ∧ Asx K two thr xs H ∧ H dl = some (.lst ds) ∧ Lr K H ds askD) := by
  obtain ⟨T, TC, TM, M, c_lots, c_size, hr⟩ := Z
  refine ⟨_, (ps_set (i := 4) sclaw_apart_right.nd rfl (by first | exact Or.inl rfl | exact Or.inr rfl) (pe_lst (pa_cons (pe_tup (pa_cons (pe_tup (pa_cons pe_int pa_nil)) (pa_cons (pe_tup (pa_cons pe_int pa_nil)) pa_nil))) (pa_cons (pe_tup (pa_cons (pe_tup (pa_cons pe_int (pa_cons pe_int (pa_cons pe_int pa_nil)))) pa_nil)) (pa_cons (pe_tup (pa_cons (pe_tup (pa_cons pe_int pa_nil)) (pa_cons (pe_tup (pa_cons pe_int pa_nil)) (pa_cons (pe_tup (pa_cons pe_int pa_nil)) pa_nil)))) (pa_cons (pe_tup (pa_cons (pe_tup (pa_cons pe_int (pa_cons pe_int pa_nil))) pa_nil)) (pa_cons (pe_tup (pa_cons (pe_tup (pa_cons pe_int pa_nil)) (pa_cons (pe_tup (pa_cons pe_int pa_nil)) pa_nil))) pa_nil))))))), ?_⟩
  rintro _ D σ H ⟨ap, two, thr, al, xs, rfl, e, ha, hal, hx⟩ kk
  refine ⟨(by show 1 ≤ sizeLine; decide), fun p0 h0 => ?_⟩
  have e0 := same_new (o := HO.tup [.int 0]) h0
  have u0 : SqT K (upd H p0 (HO.tup [.int 0])) p0 (([0] : List Int).map V.int) := SqT.of upd_same
  generalize upd H p0 (HO.tup [.int 0]) = H1 at e0 u0 ⊢
  refine ⟨(by show 1 ≤ sizeLine; decide), fun p1 h1 => ?_⟩
  have e1 := same_new (o := HO.tup [.int 1]) h1
  have u1 : SqT K (upd H1 p1 (HO.tup [.int 1])) p1 (([1] : List Int).map V.int) := SqT.of upd_same
  generalize upd H1 p1 (HO.tup [.int 1]) = H2 at e1 u1 ⊢
  refine ⟨(by show 2 ≤ sizeLine; decide), fun p2 h2 => ?_⟩
  have e2 := same_new (o := HO.tup [.ref p0, .ref p1]) h2
  have u2 : SqT K (upd H2 p2 (HO.tup [.ref p0, .ref p1])) p2 [.ref p0, .ref p1] := SqT.of upd_same
  generalize upd H2 p2 (HO.tup [.ref p0, .ref p1]) = H3 at e2 u2 ⊢
  refine ⟨(by show 3 ≤ sizeLine; decide), fun p3 h3 => ?_⟩
  have e3 := same_new (o := HO.tup [.int 2, .int 3, .int 4]) h3
  have u3 : SqT K (upd H3 p3 (HO.tup [.int 2, .int 3, .int 4])) p3 (([2, 3, 4] : List Int).map V.int) := SqT.of upd_same
  generalize upd H3 p3 (HO.tup [.int 2, .int 3, .int 4]) = H4 at e3 u3 ⊢
  refine ⟨(by show 1 ≤ sizeLine; decide), fun p4 h4 => ?_⟩
  have e4 := same_new (o := HO.tup [.ref p3]) h4
  have u4 : SqT K (upd H4 p4 (HO.tup [.ref p3])) p4 [.ref p3] := SqT.of upd_same
  generalize upd H4 p4 (HO.tup [.ref p3]) = H5 at e4 u4 ⊢
  refine ⟨(by show 1 ≤ sizeLine; decide), fun p5 h5 => ?_⟩
  have e5 := same_new (o := HO.tup [.int 2]) h5
  have u5 : SqT K (upd H5 p5 (HO.tup [.int 2])) p5 (([2] : List Int).map V.int) := SqT.of upd_same
  generalize upd H5 p5 (HO.tup [.int 2]) = H6 at e5 u5 ⊢
  refine ⟨(by show 1 ≤ sizeLine; decide), fun p6 h6 => ?_⟩
  have e6 := same_new (o := HO.tup [.int 3]) h6
  have u6 : SqT K (upd H6 p6 (HO.tup [.int 3])) p6 (([3] : List Int).map V.int) := SqT.of upd_same
  generalize upd H6 p6 (HO.tup [.int 3]) = H7 at e6 u6 ⊢
  refine ⟨(by show 1 ≤ sizeLine; decide), fun p7 h7 => ?_⟩
  have e7 := same_new (o := HO.tup [.int 4]) h7
  have u7 : SqT K (upd H7 p7 (HO.tup [.int 4])) p7 (([4] : List Int).map V.int) := SqT.of upd_same
  generalize upd H7 p7 (HO.tup [.int 4]) = H8 at e7 u7 ⊢
  refine ⟨(by show 3 ≤ sizeLine; decide), fun p8 h8 => ?_⟩
  have e8 := same_new (o := HO.tup [.ref p5, .ref p6, .ref p7]) h8
  have u8 : SqT K (upd H8 p8 (HO.tup [.ref p5, .ref p6, .ref p7])) p8 [.ref p5, .ref p6, .ref p7] := SqT.of upd_same
  generalize upd H8 p8 (HO.tup [.ref p5, .ref p6, .ref p7]) = H9 at e8 u8 ⊢
  refine ⟨(by show 2 ≤ sizeLine; decide), fun p9 h9 => ?_⟩
  have e9 := same_new (o := HO.tup [.int 0, .int 1]) h9
  have u9 : SqT K (upd H9 p9 (HO.tup [.int 0, .int 1])) p9 (([0, 1] : List Int).map V.int) := SqT.of upd_same
  generalize upd H9 p9 (HO.tup [.int 0, .int 1]) = H10 at e9 u9 ⊢
  refine ⟨(by show 1 ≤ sizeLine; decide), fun p10 h10 => ?_⟩
  have e10 := same_new (o := HO.tup [.ref p9]) h10
  have u10 : SqT K (upd H10 p10 (HO.tup [.ref p9])) p10 [.ref p9] := SqT.of upd_same
  generalize upd H10 p10 (HO.tup [.ref p9]) = H11 at e10 u10 ⊢
  refine ⟨(by show 1 ≤ sizeLine; decide), fun p11 h11 => ?_⟩
  have e11 := same_new (o := HO.tup [.int 0]) h11
  have u11 : SqT K (upd H11 p11 (HO.tup [.int 0])) p11 (([0] : List Int).map V.int) := SqT.of upd_same
  generalize upd H11 p11 (HO.tup [.int 0]) = H12 at e11 u11 ⊢
  refine ⟨(by show 1 ≤ sizeLine; decide), fun p12 h12 => ?_⟩
  have e12 := same_new (o := HO.tup [.int 1]) h12
  have u12 : SqT K (upd H12 p12 (HO.tup [.int 1])) p12 (([1] : List Int).map V.int) := SqT.of upd_same
  generalize upd H12 p12 (HO.tup [.int 1]) = H13 at e12 u12 ⊢
  refine ⟨(by show 2 ≤ sizeLine; decide), fun p13 h13 => ?_⟩
  have e13 := same_new (o := HO.tup [.ref p11, .ref p12]) h13
  have u13 : SqT K (upd H13 p13 (HO.tup [.ref p11, .ref p12])) p13 [.ref p11, .ref p12] := SqT.of upd_same
  generalize upd H13 p13 (HO.tup [.ref p11, .ref p12]) = H14 at e13 u13 ⊢
  refine ⟨(by show 5 ≤ sizeLine; decide), fun p14 h14 => ?_⟩
  have e14 := same_new (o := HO.lst [.ref p2, .ref p4, .ref p8, .ref p10, .ref p13]) h14
  have u14 : (upd H14 p14 (HO.lst [.ref p2, .ref p4, .ref p8, .ref p10, .ref p13])) p14 = some (.lst [.ref p2, .ref p4, .ref p8, .ref p10, .ref p13]) := upd_same
  generalize upd H14 p14 (HO.lst [.ref p2, .ref p4, .ref p8, .ref p10, .ref p13]) = H15 at e14 u14 ⊢
  have t15 : Same H15 H15 := Same.refl _
  have t14 := e14.trans t15
  have t13 := e13.trans t14
  have t12 := e12.trans t13
  have t11 := e11.trans t12
  have t10 := e10.trans t11
  have t9 := e9.trans t10
  have t8 := e8.trans t9
  have t7 := e7.trans t8
  have t6 := e6.trans t7
  have t5 := e5.trans t6
  have t4 := e4.trans t5
  have t3 := e3.trans t4
  have t2 := e2.trans t3
  have t1 := e1.trans t2
  have t0 := e0.trans t1
  exact kk _ _ ⟨ap, two, thr, al, xs, p14, _, rfl, e.trans t0, ha.same t0, t0 _ _ hal, hx.same t0, u14, ⟨⟨p2, _, rfl, sqT_same t3 u2, ⟨⟨p0, rfl, sqT_same t1 u0⟩, ⟨⟨p1, rfl, sqT_same t2 u1⟩, trivial⟩⟩⟩, ⟨⟨p4, _, rfl, sqT_same t5 u4, ⟨⟨p3, rfl, sqT_same t4 u3⟩, trivial⟩⟩, ⟨⟨p8, _, rfl, sqT_same t9 u8, ⟨⟨p5, rfl, sqT_same t6 u5⟩, ⟨⟨p6, rfl, sqT_same t7 u6⟩, ⟨⟨p7, rfl, sqT_same t8 u7⟩, trivial⟩⟩⟩⟩, ⟨⟨p10, _, rfl, sqT_same t11 u10, ⟨⟨p9, rfl, sqT_same t10 u9⟩, trivial⟩⟩, ⟨⟨p13, _, rfl, sqT_same t14 u13, ⟨⟨p11, rfl, sqT_same t12 u11⟩, ⟨⟨p12, rfl, sqT_same t13 u12⟩, trivial⟩⟩⟩, trivial⟩⟩⟩⟩⟩⟩
theorem ok_apart (F : FnP K "_law_apart_right" s_law_apart_right f fd) (T : Mg mg) (TC : ClsC K mg C) (TM : ClsM K mg CM) (M : Mks P w K mg base a C CM t0) (c_lots : Cal P w K mg base (L2N.CX P w) 10 "lots_of" ["machine", "first", "counters"] (spLots K C CM)) (c_size : Cal P w K mg base (L2N.CX P w) 11 "fold_size" ["machine", "first", "counters"] (spSize K C CM)) : FnOk P w K mg base CX0 12 f fd [] spApart := by
  refine F.ok sclaw_apart_right (fun vs H Q E h => ?_) (fun cdv A outer st H vs Q E hr h => ?_)
  · obtain ⟨rfl, _⟩ := h
    rfl
  · obtain ⟨rfl, k⟩ := h
    have Z : La P w K mg base f cdv A outer st a C CM t0 := ⟨T, TC, TM, M, c_lots, c_size, hr⟩
    obtain ⟨q0, x0, y0⟩ := a0 (E := E) (H0 := H) Z
    obtain ⟨q1, x1, y1⟩ := a1 (E := E) (H0 := H) Z
    obtain ⟨q2, x2, y2⟩ := a2 (E := E) (H0 := H) Z
    refine ⟨_, PSs.nox (pss_cons x0 (pss_cons x1 (pss_cons x2 (pss_one (ps_ret (pe_and (pe_cmpR (op_eqD (r64 hr)) (pe_lc (own := [("first", 5), ("some", 6)]) (g := gTup K 2 (gCons (gName 5) (gCons (gName 6) gNil))) (by rfl) sclaw_apart_right.nd (pi_list (pv 3)) (blkOk_by (own := [("first", 5), ("some", 6)]) (N := ["apart", "two", "threes", "asked", "dues", "first", "some"]) (sc := defScope s_law_apart_right) (by decide +kernel)) (fun _ _ _ _ _ => (pg_tup rfl (pgs_cons (pg_name (i := 5) sclaw_apart_right.nd rfl (by first | exact Or.inl rfl | exact Or.inr rfl)) (pgs_cons (pg_name (i := 6) sclaw_apart_right.nd rfl (by first | exact Or.inl rfl | exact Or.inr rfl)) pgs_nil)))) (fun _ _ _ _ _ => pts_nil) (fun _ _ _ _ _ => (pe_callC c_lots hr pzN (pa_cons (pv 0) (pa_cons (pv 5) (pa_cons (pv 6) pa_nil)))))) (pv 4) (nomark _)) (pe_one (pe_cmpR (op_eqD (r64 hr)) (pe_lc (own := [("first", 5), ("some", 6)]) (g := gTup K 2 (gCons (gName 5) (gCons (gName 6) gNil))) (by rfl) sclaw_apart_right.nd (pi_list (pv 3)) (blkOk_by (own := [("first", 5), ("some", 6)]) (N := ["apart", "two", "threes", "asked", "dues", "first", "some"]) (sc := defScope s_law_apart_right) (by decide +kernel)) (fun _ _ _ _ _ => (pg_tup rfl (pgs_cons (pg_name (i := 5) sclaw_apart_right.nd rfl (by first | exact Or.inl rfl | exact Or.inr rfl)) (pgs_cons (pg_name (i := 6) sclaw_apart_right.nd rfl (by first | exact Or.inl rfl | exact Or.inr rfl)) pgs_nil)))) (fun _ _ _ _ _ => pts_nil) (fun _ _ _ _ _ => (pe_callC c_size hr pzN (pa_cons (pv 0) (pa_cons (pv 5) (pa_cons (pv 6) pa_nil)))))) (pe_lst (pa_cons pe_int (pa_cons pe_int (pa_cons pe_int (pa_cons pe_int (pa_cons pe_int pa_nil)))))) (nomark _))))))))), ?_⟩
    refine y0 () _ _ _ ⟨rfl, rfl⟩ fun σ H1 h => y1 () _ _ _ h fun σ H1 h => y2 () _ _ _ h fun σ H1 h => ?_
    obtain ⟨ap, two, thr, al, xs, dl, ds, rfl, e, ha, hal, hx, hdl, hds⟩ := h
    refine ⟨_, rfl, al, rfl, ⟨_, SqL.of hal⟩, fun D0 hD => ?_⟩
    have nD : H D0 = none := by
      cases z : H D0 with
      | none => rfl
      | some o =>
        have := e _ _ z
        rw [show H1 D0 = none from hD] at this
        cases this
    refine lc_list (xs := xs) (fun i H' => ∃ us, Same H1 H' ∧ H' D0 = some (.lst us) ∧ Lr K H' us (askD.take i)) ⟨[], same_new hD, upd_same, trivial⟩ (fun i H' _ z => by
      obtain ⟨_, e, _⟩ := z
      exact SqL.of (e _ _ hal)) ?_ ?_
    · rintro i v H2 hv ⟨us, e2, h2, lr⟩
      have hi : i < 5 := by rw [← hx.len]; exact (List.getElem?_eq_some_iff.mp hv).1
      obtain ⟨b, b1, b2⟩ := hx.at_ i hi
      rw [hv] at b1
      cases b1
      have ha2 := ha.same e2
      obtain ⟨L, mc, l2, al2⟩ := asks i hi
      refine ⟨b, _, rfl, sqT_same e2 b2, rfl, ?_⟩
      refine ⟨_, _, rfl, _, _, rfl, rfl, rfl, yes ((if_pos rfl).mpr ?_)⟩
      refine ⟨_, rfl, _, rfl, _, rfl, ap, thOf two thr i, 5, apT, askS i, askR i, [0, 0], L, rfl, ha2.mc, cn_of ha2 hi, l2, mc, fun l H3 qs c e3 hl rows cl => ?_⟩
      have al3 := (al2 c cl).1
      rw [al3] at rows
      have h3 := e3 _ _ h2
      have ai : askD[i]? = some (askD.getD i []) := by
        rw [List.getD_eq_getElem?_getD, List.getElem?_eq_getElem (show i < askD.length from hi)]
        rfl
      have tk : askD.take (i + 1) = askD.take i ++ [askD.getD i []] := by rw [List.take_add_one, ai]; rfl
      have lu := lr.length
      refine ⟨us, h3, by rw [lu, List.length_take, sizeLine_eq]; omega, us ++ [.ref l], same_put (e2.trans e3) hD, upd_same, ?_⟩
      rw [tk]
      exact Lr.snoc (sqT_lst h3 hl) (rows.imp fun _ _ z => sqT_lst h3 z) (lr.imp fun _ _ z => sqT_lst h3 (sqT_same e3 z))
    · rintro H2 ⟨us, e2, h2, lr⟩
      rw [hx.len, show askD.take 5 = askD from rfl] at lr
      refine ⟨_, rfl, .list (askD.map dRows), .list (askD.map dRows), .lst (SqL.of h2) lr.dp, .lst (SqL.of (e2 _ _ hdl)) (hds.imp fun _ _ z => sqT_same e2 z).dp, by decide +kernel, by decide +kernel, ?_⟩
      rw [show PyData.eqv (.list (askD.map dRows)) (.list (askD.map dRows)) = true by decide +kernel]
      refine ⟨true, rfl, iteT ?_⟩
      refine ⟨_, rfl, al, rfl, ⟨_, SqL.of (e2 _ _ hal)⟩, fun D5 hD5 => ?_⟩
      refine lc_list (xs := xs) (fun i H' => Same H2 H' ∧ H' D5 = some (.lst ((askN.take i).map V.int))) ⟨same_new hD5, upd_same⟩ (fun i H' _ z => SqL.of (z.1 _ _ (e2 _ _ hal))) ?_ ?_
      · rintro i v H3 hv ⟨e3, h3⟩
        have hi : i < 5 := by rw [← hx.len]; exact (List.getElem?_eq_some_iff.mp hv).1
        obtain ⟨b, b1, b2⟩ := hx.at_ i hi
        rw [hv] at b1
        cases b1
        have e13 := e2.trans e3
        have ha3 := ha.same e13
        obtain ⟨L, mc, l2, al2⟩ := asks i hi
        refine ⟨b, _, rfl, sqT_same e13 b2, rfl, ?_⟩
        refine ⟨_, _, rfl, _, _, rfl, rfl, rfl, yes ((if_pos rfl).mpr ?_)⟩
        refine ⟨_, rfl, _, rfl, _, rfl, ap, thOf two thr i, 5, apT, askS i, askR i, [0, 0], L, rfl, ha3.mc, cn_of ha3 hi, l2, mc, fun c H4 e4 cl => ?_⟩
        rw [(al2 c cl).2]
        have h4 := e4 _ _ h3
        have ai : askN[i]? = some (askN.getD i 0) := getD_at (show i < askN.length from hi)
        have tk : askN.take (i + 1) = askN.take i ++ [askN.getD i 0] := by rw [List.take_add_one, ai]; rfl
        refine ⟨_, h4, by rw [List.length_map, List.length_take, sizeLine_eq]; omega, same_put (e3.trans e4) hD5, ?_⟩
        rw [upd_same, tk, List.map_append]
        rfl
      · rintro H3 ⟨e3, h3⟩
        rw [hx.len, show askN.take 5 = askN from rfl] at h3
        refine ⟨(by show 5 ≤ sizeLine; decide), fun l hl => ?_⟩
        have e4 := same_new (o := HO.lst (askN.map V.int)) hl
        have u4 : upd H3 l (HO.lst (askN.map V.int)) l = some (.lst (askN.map V.int)) := upd_same
        refine ⟨.list (askN.map PyData.int), .list (askN.map PyData.int), .lst (SqL.of (e4 _ _ h3)) (dpAll_nums askN), .lst (SqL.of u4) (dpAll_nums askN), by decide +kernel, by decide +kernel, ?_⟩
        rw [show PyData.eqv (.list (askN.map PyData.int)) (.list (askN.map PyData.int)) = true by decide +kernel]
        exact k _ (e.trans (e2.trans (e3.trans e4)))
end
end K7
/-! the law: what stands -/
namespace K7
open L2 PySem PySem.Spec PyProof.Rows Kx RZ
def kwR3 : List V → List V → List V := fun _ zs => [zs.getD 2 .non, zs.getD 1 .non, zs.getD 0 .non]
def kwR4 : List V → List V → List V := fun _ zs => [zs.getD 3 .non, zs.getD 2 .non, zs.getD 1 .non, zs.getD 0 .non]
/-- what the law calls -/
structure FnL (P : Program) (w : World) (K : PySem.W.Frag) (mg : Str → Option Value) (base : Heap) (a : Ad) (C CM : Addr) : Prop where
  box : Cal P w K mg base CX0 1 "_law_box" ["script", "k"] (spBox K)
  take : Cal P w K mg base CX0 1 "_law_take" ["box", "many"] spTake
  pick : Cal P w K mg base CX0 2 "_law_pick" ["box", "some"] (spPick K)
  tables : Cal P w K mg base CX0 4 "_law_tables" ["box", "most", "deeds"] (spTables K)
  rounds : Cal P w K mg base CX0 3 "_law_rounds" ["box", "deeds", "full"] (spLRounds K)
  parted : Cal P w K mg base CX0 2 "_law_parted" ["tables", "first", "pairs", "rounds"] (spParted K)
  pairs : Cal P w K mg base CX0 1 "_law_pairs" ["deeds"] (spLPairs K)
  walk : CalG P w K mg base CX0 3 "_law_walk_right" ["tables", "first", "rounds", "lots"] (spWalk K)
  apart : Cal P w K mg base CX0 12 "_law_apart_right" [] spApart
  settled : Cal P w K mg base (L2N.CX P w) 9 "settled" ["machine", "first", "pairs", "rounds"] (spSettled K CM)
  settledK : CalN P w K mg base (L2N.CX P w) 9 0 "settled" ["machine", "first", "pairs", "rounds"] ["rounds", "pairs", "first", "machine"] kwR4 (spSettled K CM)
  lots : Cal P w K mg base (L2N.CX P w) 10 "lots_of" ["machine", "first", "counters"] (spLots K C CM)
  lotsK : CalN P w K mg base (L2N.CX P w) 10 0 "lots_of" ["machine", "first", "counters"] ["counters", "first", "machine"] kwR3 (spLots K C CM)
  size : Cal P w K mg base (L2N.CX P w) 11 "fold_size" ["machine", "first", "counters"] (spSize K C CM)
  sizeK : CalN P w K mg base (L2N.CX P w) 11 0 "fold_size" ["machine", "first", "counters"] ["counters", "first", "machine"] kwR3 (spSize K C CM)
theorem sclaw : FnScope ["script", "k", "box", "tables", "first", "machine", "deeds", "rounds", "pairs", "deed", "due", "kept", "counters", "pair", "lot"] ["script"] (defScope s_law) := ⟨rfl, rfl, rfl, by decide +kernel, rfl, by decide +kernel, by decide +kernel⟩
abbrev XL (P : Program) (w : World) (K : PySem.W.Frag) (mg : Str → Option Value) (base : Heap) (f cc : Addr) (A : Around) (outer : List Env) (st : Shared) (H : Hp) (E : XK) : Cx := (cxOf CX0 P w K mg base ["script", "k", "box", "tables", "first", "machine", "deeds", "rounds", "pairs", "deed", "due", "kept", "counters", "pair", "lot"] "law" (defScope s_law) f (.ref cc) A outer st H E).nox
abbrev lawS : List Stmt := inS (nthS (defBody s_law) 0)
structure Lz (P : Program) (w : World) (K : PySem.W.Frag) (mg : Str → Option Value) (base : Heap) (f cc : Addr) (A : Around) (outer : List Env) (st : Shared) (H0 : Hp) (a : Ad) (C CM t0 : Addr) (sc : Addr) (scn : List Int) : Prop where
  T : Mg mg
  TC : ClsC K mg C
  TM : ClsM K mg CM
  M : Mks P w K mg base a C CM t0
  F : FnL P w K mg base a C CM
  lone : Lone (A.deeper (envOfC "law" (defScope s_law) st.heap.objs.size f (.ref cc)))
  hr : Room 13 (A.deeper (envOfC "law" (defScope s_law) st.heap.objs.size f (.ref cc)))
  hs : SqL K H0 sc (scn.map V.int)
  hl : scn.length ≤ 63
/-- what the law has at hand -/
structure Gl where
  b : Addr
  tt : Addr
  ps : List V
  n : Nat
  ts : List (List Int)
  s : Int
  m : Addr
  rd : Addr
  rs : List Int
  pq : Addr
  pps : List V
  prs : List (List Int)
  du : Addr
  qs : List V
  L : List Int
  c : Int → Int
  cc : Addr
  es : List Int
abbrev sgL (sc : Addr) (k : Nat) (x2 x3 x4 x5 x6 x7 x8 x9 x10 x11 x12 : Option V) : L2.St := [some (.ref sc), some (.int (k : Nat)), x2, x3, x4, x5, x6, x7, x8, x9, x10, x11, x12, none, none]
structure J1 (H0 : Hp) (g : Gl) (H : Hp) : Prop where
  old : Same H0 H
  nb : H0 g.b = none
  box : ∃ t, H g.b = some (bx t)
structure J2 (K : PySem.W.Frag) (H0 : Hp) (g : Gl) (H : Hp) : Prop extends J1 H0 g H where
  tt : SqT K H g.tt g.ps
  rows : RowsBy (SqT K H) g.ps g.ts
  ok : Mok g.n g.ts
  s0 : 0 ≤ g.s
  s1 : g.s < (g.n : Int)
  ex : Exch g.ts g.s
structure J3 (K : PySem.W.Frag) (CM : Addr) (H0 : Hp) (g : Gl) (H : Hp) : Prop extends J2 K H0 g H where
  mac : McAt K CM H g.m g.n g.ts
structure J4 (K : PySem.W.Frag) (CM : Addr) (H0 : Hp) (g : Gl) (H : Hp) : Prop extends J3 K CM H0 g H where
  rd : H g.rd = some (.lst (g.rs.map V.int))
  rb : g.rd ≠ g.b
  lr : g.rs.length = g.ts.length
  r12 : ∀ r ∈ g.rs, 0 ≤ r ∧ r ≤ 12
structure J5 (K : PySem.W.Frag) (CM : Addr) (H0 : Hp) (g : Gl) (H : Hp) : Prop extends J4 K CM H0 g H where
  pq : H g.pq = some (.lst g.pps)
  pb : g.pq ≠ g.b
  prow : RowsBy (SqT K H) g.pps g.prs
  are : ∀ pr ∈ g.prs, ∃ a b : Nat, pr = [(a : Int), (b : Int)] ∧ a < g.ts.length ∧ b < g.ts.length
  few : g.prs.length ≤ 16
/-- the law's own lots -/
structure J6 (K : PySem.W.Frag) (CM : Addr) (H0 : Hp) (g : Gl) (PR : Nat → Nat → Prop) (H : Hp) : Prop extends J4 K CM H0 g H where
  mc : Mch g.n g.ts g.s g.L
  du : SqT K H g.du g.qs
  drow : RowsBy (SqT K H) g.qs (lotsOf g.c g.L)
  cl : Cls1 PR g.ts (natsOf g.rs) g.L g.c
structure J7 (K : PySem.W.Frag) (C CM : Addr) (H0 : Hp) (g : Gl) (H : Hp) : Prop extends J6 K CM H0 g (LtB g.ts.length) H where
  cn : CnAt K C H g.cc g.rs g.es
section
variable {K : PySem.W.Frag} {C CM : Addr} {H0 H H' : Hp} {g : Gl} {PR : Nat → Nat → Prop}
theorem J1.mv (h : J1 H0 g H) (m : Mv g.b H H') : J1 H0 g H' := ⟨fun c o e => m.1 c o (fun z => by rw [z, h.nb] at e; cases e) (h.old c o e), h.nb, m.2⟩
theorem J1.same (h : J1 H0 g H) (e : Same H H') : J1 H0 g H' := ⟨h.old.trans e, h.nb, h.box.elim fun t q => ⟨t, e _ _ q⟩⟩
theorem J2.mv (h : J2 K H0 g H) (m : Mv g.b H H') : J2 K H0 g H' := by
  obtain ⟨t, hb⟩ := h.box
  exact { h.toJ1.mv m with tt := m.sqT hb h.tt, rows := h.rows.imp fun _ _ z => m.sqT hb z, ok := h.ok, s0 := h.s0, s1 := h.s1, ex := h.ex }
theorem J2.same (h : J2 K H0 g H) (e : Same H H') : J2 K H0 g H' := { h.toJ1.same e with tt := sqT_same e h.tt, rows := h.rows.imp fun _ _ z => sqT_same e z, ok := h.ok, s0 := h.s0, s1 := h.s1, ex := h.ex }
theorem J3.mv (h : J3 K CM H0 g H) (m : Mv g.b H H') : J3 K CM H0 g H' := by
  obtain ⟨t, hb⟩ := h.box
  exact { h.toJ2.mv m with mac := m.mc hb h.mac }
theorem J3.same (h : J3 K CM H0 g H) (e : Same H H') : J3 K CM H0 g H' := { h.toJ2.same e with mac := h.mac.same e }
theorem J4.mv (h : J4 K CM H0 g H) (m : Mv g.b H H') : J4 K CM H0 g H' := { h.toJ3.mv m with rd := m.1 _ _ h.rb h.rd, rb := h.rb, lr := h.lr, r12 := h.r12 }
theorem J4.same (h : J4 K CM H0 g H) (e : Same H H') : J4 K CM H0 g H' := { h.toJ3.same e with rd := e _ _ h.rd, rb := h.rb, lr := h.lr, r12 := h.r12 }
theorem J5.mv (h : J5 K CM H0 g H) (m : Mv g.b H H') : J5 K CM H0 g H' := by
  obtain ⟨t, hb⟩ := h.box
  exact { h.toJ4.mv m with pq := m.1 _ _ h.pb h.pq, pb := h.pb, prow := h.prow.imp fun _ _ z => m.sqT hb z, are := h.are, few := h.few }
theorem J5.same (h : J5 K CM H0 g H) (e : Same H H') : J5 K CM H0 g H' := { h.toJ4.same e with pq := e _ _ h.pq, pb := h.pb, prow := h.prow.imp fun _ _ z => sqT_same e z, are := h.are, few := h.few }
theorem J6.mv (h : J6 K CM H0 g PR H) (m : Mv g.b H H') : J6 K CM H0 g PR H' := by
  obtain ⟨t, hb⟩ := h.box
  exact { h.toJ4.mv m with mc := h.mc, du := m.sqT hb h.du, drow := h.drow.imp fun _ _ z => m.sqT hb z, cl := h.cl }
theorem J6.same (h : J6 K CM H0 g PR H) (e : Same H H') : J6 K CM H0 g PR H' := { h.toJ4.same e with mc := h.mc, du := sqT_same e h.du, drow := h.drow.imp fun _ _ z => sqT_same e z, cl := h.cl }
theorem J7.same (h : J7 K C CM H0 g H) (e : Same H H') : J7 K C CM H0 g H' := { h.toJ6.same e with cn := h.cn.same e }
end
section
variable {P : Program} {w : World} {K : PySem.W.Frag} {mg : Str → Option Value} {base : Heap} {f cc : Addr} {A : Around} {outer : List Env} {st : Shared} {H0 : Hp} {E : XK} {a : Ad} {C CM t0 : Addr} {sc : Addr} {scn : List Int}
variable (Z : Lz P w K mg base f cc A outer st H0 a C CM t0 sc scn)
include Z
theorem q0 : HT (ι := Nat) (XL P w K mg base f cc A outer st H0 E) (nthS lawS 0) (fun k σ H => ∃ x2 x3 x4 x5 x6 x7 x8 x9 x10 x11 x12, σ = sgL sc k x2 x3 x4 x5 x6 x7 x8 x9 x10 x11 x12 ∧ Same H0 H)
    (fun k σ H => ∃ (g : Gl) (x3 x4 x5 x6 x7 x8 x9 x10 x11 x12 : Option V), σ = sgL sc k (some (.ref g.b)) x3 x4 x5 x6 x7 x8 x9 x10 x11 x12 ∧ J1 H0 g H) := by
  obtain ⟨T, TC, TM, M, F, lone, hr, hs, hl⟩ := Z
  refine ⟨_, (ps_set (i := 2) sclaw.nd rfl (by first | exact Or.inl rfl | exact Or.inr rfl) (pe_callC F.box hr pass0 (pa_cons (pv 0) (pa_cons (pv 1) pa_nil)))), ?_⟩
  rintro k D σ H ⟨x2, x3, x4, x5, x6, x7, x8, x9, x10, x11, x12, rfl, e⟩ kk
  refine ⟨_, rfl, _, rfl, sc, scn, k, rfl, sqL_same e hs, hl, fun H1 b t e1 nb hb => kk _ _ ⟨⟨b, b, [], 0, [], 0, b, b, [], b, [], [], b, [], [], id, b, []⟩, _, _, _, _, _, _, _, _, _, _, rfl, e.trans e1, ?_, t, hb⟩⟩
  cases z : H0 b with
  | none => rfl
  | some o =>
    rw [e _ _ z] at nb
    cases nb
theorem q1 : HT (ι := Nat) (XL P w K mg base f cc A outer st H0 E) (nthS lawS 1) (fun k σ H => ∃ (g : Gl) (x3 x4 x5 x6 x7 x8 x9 x10 x11 x12 : Option V), σ = sgL sc k (some (.ref g.b)) x3 x4 x5 x6 x7 x8 x9 x10 x11 x12 ∧ J1 H0 g H)
    (fun k σ H => ∃ (g : Gl) (x5 x6 x7 x8 x9 x10 x11 x12 : Option V), σ = sgL sc k (some (.ref g.b)) (some (.ref g.tt)) (some (.int g.s)) x5 x6 x7 x8 x9 x10 x11 x12 ∧ J2 K H0 g H) := by
  obtain ⟨T, TC, TM, M, F, lone, hr, hs, hl⟩ := Z
  refine ⟨_, (ps_asg (pe_callC F.tables hr pass0 (pa_cons (pv 2) (pa_cons (pe_callC F.pick hr pass0 (pa_cons (pv 2) (pa_cons (pe_lst (pa_cons pe_int (pa_cons pe_int (pa_cons pe_int pa_nil)))) pa_nil))) (pa_cons (pe_callC F.pick hr pass0 (pa_cons (pv 2) (pa_cons (pe_lst (pa_cons pe_int (pa_cons pe_int (pa_cons pe_int pa_nil)))) pa_nil))) pa_nil)))) (pg_tup rfl (pgs_cons (pg_name (i := 3) sclaw.nd rfl (by first | exact Or.inl rfl | exact Or.inr rfl)) (pgs_cons (pg_name (i := 4) sclaw.nd rfl (by first | exact Or.inl rfl | exact Or.inr rfl)) pgs_nil)))), ?_⟩
  rintro k D σ H ⟨g, x3, x4, x5, x6, x7, x8, x9, x10, x11, x12, rfl, j⟩ kk
  obtain ⟨t, hb⟩ := j.box
  refine ⟨_, rfl, _, rfl, (by show 3 ≤ sizeLine; decide), fun l hl1 => ?_⟩
  have e1 := same_new (o := HO.lst [.int 5, .int 4, .int 8]) hl1
  have u1 : SqL K (upd H l (HO.lst [.int 5, .int 4, .int 8])) l [.int 5, .int 4, .int 8] := SqL.of upd_same
  generalize upd H l (HO.lst [.int 5, .int 4, .int 8]) = H1 at e1 u1 ⊢
  have j1 := j.same e1
  refine ⟨g.b, l, t, _, rfl, e1 _ _ hb, fun z => (by rw [z] at hl1; rw [show H g.b = none from hl1] at hb; cases hb), u1, (by show 0 < 3; decide), (by show 3 < 1073741824; decide), fun v H2 hv m2 => ?_⟩
  obtain ⟨most, ⟨a1, a2⟩, rfl⟩ : ∃ k : Nat, (1 ≤ k ∧ k ≤ 8) ∧ v = .int (k : Int) := by
    simp only [List.mem_cons, List.not_mem_nil, or_false] at hv
    rcases hv with rfl | rfl | rfl
    · exact ⟨5, by decide, rfl⟩
    · exact ⟨4, by decide, rfl⟩
    · exact ⟨8, by decide, rfl⟩
  have j2 := j1.mv m2
  obtain ⟨t2, hb2⟩ := j2.box
  refine ⟨_, rfl, (by show 3 ≤ sizeLine; decide), fun l hl1 => ?_⟩
  have e3 := same_new (o := HO.lst [.int 3, .int 4, .int 3]) hl1
  have u3 : SqL K (upd H2 l (HO.lst [.int 3, .int 4, .int 3])) l [.int 3, .int 4, .int 3] := SqL.of upd_same
  generalize upd H2 l (HO.lst [.int 3, .int 4, .int 3]) = H3 at e3 u3 ⊢
  have j3 := j2.same e3
  refine ⟨g.b, l, t2, _, rfl, e3 _ _ hb2, fun z => (by rw [z] at hl1; rw [show H2 g.b = none from hl1] at hb2; cases hb2), u3, (by show 0 < 3; decide), (by show 3 < 1073741824; decide), fun v H4 hv m4 => ?_⟩
  obtain ⟨deeds, ⟨a3, a4⟩, rfl⟩ : ∃ k : Nat, (1 ≤ k ∧ k ≤ 4) ∧ v = .int (k : Int) := by
    simp only [List.mem_cons, List.not_mem_nil, or_false] at hv
    rcases hv with rfl | rfl | rfl
    · exact ⟨3, by decide, rfl⟩
    · exact ⟨4, by decide, rfl⟩
    · exact ⟨3, by decide, rfl⟩
  have j4 := j3.mv m4
  obtain ⟨t4, hb4⟩ := j4.box
  refine ⟨g.b, t4, most, deeds, rfl, hb4, a1, a2, a3, a4, fun p tt ps n ts s H5 m5 hp htt rows ok s0 s1 ex => ?_⟩
  have j5 := j4.mv m5
  exact ⟨p, _, rfl, hp, rfl, _, _, rfl, _, _, rfl, rfl, kk _ _ ⟨{ g with tt := tt, ps := ps, n := n, ts := ts, s := s }, _, _, _, _, _, _, _, _, rfl, { j5 with tt := htt, rows := rows, ok := ok, s0 := s0, s1 := s1, ex := ex }⟩⟩
theorem q2 : HT (ι := Nat) (XL P w K mg base f cc A outer st H0 E) (nthS lawS 2) (fun k σ H => ∃ (g : Gl) (x5 x6 x7 x8 x9 x10 x11 x12 : Option V), σ = sgL sc k (some (.ref g.b)) (some (.ref g.tt)) (some (.int g.s)) x5 x6 x7 x8 x9 x10 x11 x12 ∧ J2 K H0 g H)
    (fun k σ H => ∃ (g : Gl) (x7 x8 x9 x10 x11 x12 : Option V), σ = sgL sc k (some (.ref g.b)) (some (.ref g.tt)) (some (.int g.s)) (some (.ref g.m)) (some (.int (g.ts.length : Nat))) x7 x8 x9 x10 x11 x12 ∧ J3 K CM H0 g H) := by
  obtain ⟨T, TC, TM, M, F, lone, hr, hs, hl⟩ := Z
  refine ⟨_, (ps_par (i := 5) (j := 6) (by rfl) sclaw.nd rfl rfl (by decide) rfl rfl (pa_cons (pe_mac (K := K) M TM hr pzN (pa_cons (pv 3) pa_nil)) (pa_cons (pe_callB call_len_seq (by rfl) T.z_len PySem.boot_len (pa_cons (pv 3) pa_nil)) pa_nil)) (by rfl)), ?_⟩
  rintro k D σ H ⟨g, x5, x6, x7, x8, x9, x10, x11, x12, rfl, j⟩ kk
  have lps := j.rows.length
  refine ⟨_, rfl, fun x dx hx hdx ne => mc_make j.ok (.inr j.tt) (j.rows.imp fun _ _ z => .inr z) hx hdx ne fun H1 e1 mc1 => ?_⟩
  have j1 := j.same e1
  refine ⟨_, rfl, g.tt, g.ps, rfl, .inr j1.tt, ?_⟩
  refine ⟨_, _, rfl, kk _ _ ⟨{ g with m := x }, x7, x8, x9, x10, x11, x12, ?_, { j1 with mac := mc1 }⟩⟩
  rw [lps]
  rfl
theorem q3 : HT (ι := Nat) (XL P w K mg base f cc A outer st H0 E) (nthS lawS 3) (fun k σ H => ∃ (g : Gl) (x7 x8 x9 x10 x11 x12 : Option V), σ = sgL sc k (some (.ref g.b)) (some (.ref g.tt)) (some (.int g.s)) (some (.ref g.m)) (some (.int (g.ts.length : Nat))) x7 x8 x9 x10 x11 x12 ∧ J3 K CM H0 g H)
    (fun k σ H => ∃ (g : Gl) (x8 x9 x10 x11 x12 : Option V), σ = sgL sc k (some (.ref g.b)) (some (.ref g.tt)) (some (.int g.s)) (some (.ref g.m)) (some (.int (g.ts.length : Nat))) (some (.ref g.rd)) x8 x9 x10 x11 x12 ∧ J4 K CM H0 g H) := by
  obtain ⟨T, TC, TM, M, F, lone, hr, hs, hl⟩ := Z
  refine ⟨_, (ps_set (i := 7) sclaw.nd rfl (by first | exact Or.inl rfl | exact Or.inr rfl) (pe_callC F.rounds hr pass0 (pa_cons (pv 2) (pa_cons (pv 6) (pa_cons pe_bl pa_nil))))), ?_⟩
  rintro k D σ H ⟨g, x7, x8, x9, x10, x11, x12, rfl, j⟩ kk
  obtain ⟨t, hb⟩ := j.box
  refine ⟨_, rfl, _, rfl, g.b, t, g.ts.length, true, rfl, hb, j.ok.l4, fun l rs H1 m1 nl lb hl1 lrs ars => ?_⟩
  have j1 := j.mv m1
  exact kk _ _ ⟨{ g with rd := l, rs := rs }, _, _, _, _, _, rfl, { j1 with rd := hl1, rb := lb, lr := lrs, r12 := fun r hr => ⟨(ars r hr).1, (ars r hr).2.1⟩ }⟩
end
end K7
/-! the law: pairs are drawn -/
namespace K7
open L2 PySem PySem.Spec PyProof.Rows Kx RZ
theorem ix_seqK {X : Cx} {K : PySem.W.Frag} (hK : X.K = K := by rfl) : IxR X (rIxT K) := by
  subst hK
  exact ix_tup
abbrev sg8 (sc : Addr) (k : Nat) (g : Gl) (x8 x9 x10 x11 x12 : Option V) : L2.St := sgL sc k (some (.ref g.b)) (some (.ref g.tt)) (some (.int g.s)) (some (.ref g.m)) (some (.int (g.ts.length : Nat))) (some (.ref g.rd)) x8 x9 x10 x11 x12
section
variable {P : Program} {w : World} {K : PySem.W.Frag} {mg : Str → Option Value} {base : Heap} {f cc : Addr} {A : Around} {outer : List Env} {st : Shared} {H0 : Hp} {E : XK} {a : Ad} {C CM t0 : Addr} {sc : Addr} {scn : List Int}
variable (Z : Lz P w K mg base f cc A outer st H0 a C CM t0 sc scn)
include Z
theorem q4 : HT (ι := Nat) (XL P w K mg base f cc A outer st H0 E) (nthS lawS 4) (fun k σ H => ∃ (g : Gl) (x8 x9 x10 x11 x12 : Option V), σ = sg8 sc k g x8 x9 x10 x11 x12 ∧ J4 K CM H0 g H)
    (fun k σ H => ∃ (g : Gl) (x9 x10 x11 x12 : Option V), σ = sg8 sc k g (some (.ref g.pq)) x9 x10 x11 x12 ∧ J5 K CM H0 g H ∧ g.prs.length ≤ 12) := by
  obtain ⟨T, TC, TM, M, F, lone, hr, hs, hl⟩ := Z
  refine ⟨_, (ps_setLc (i := 8) (own := [("pair", 13)]) (by rfl) sclaw.nd rfl rfl (sw_true rfl rfl rfl (by decide +kernel)) (pi_list (pe_callC F.pairs hr pass0 (pa_cons (pv 6) pa_nil))) (blkOk_by (own := [("pair", 13)]) (N := ["script", "k", "box", "tables", "first", "machine", "deeds", "rounds", "pairs", "deed", "due", "kept", "counters", "pair", "lot"]) (sc := defScope s_law) (by decide +kernel)) (fun _ _ _ _ _ => (pg_name (i := 13) sclaw.nd rfl (by first | exact Or.inl rfl | exact Or.inr rfl))) (fun _ _ _ _ _ => (pts_one (pt_cmpR op_eq (pe_callC F.take hr pass0 (pa_cons (pv 2) (pa_cons pe_int pa_nil))) pe_int (nomark _)))) (fun _ _ _ _ _ => (pv 13))), ?_⟩
  rintro k D σ H ⟨g, x8, x9, x10, x11, x12, rfl, j⟩ kk
  have l4 := j.ok.l4
  refine ⟨_, rfl, g.ts.length, rfl, l4, fun l H1 ps prs e1 nl hl1 rows all => ?_⟩
  have j1 := j.same e1
  obtain ⟨t1, hb1⟩ := j1.box
  refine ⟨l, rfl, ⟨_, SqL.of hl1⟩, fun D0 hD => ?_⟩
  have fr := (Mv.refl hb1).free hD
  have lb : l ≠ g.b := fun z => by
    obtain ⟨t, hb⟩ := j.box
    rw [z, hb] at nl
    cases nl
  have lD : l ≠ D0 := fun z => by
    rw [z, show H1 D0 = none from hD] at hl1
    cases hl1
  have lps := rows.length
  refine lc_list (xs := ps) (fun i H' => ∃ us qs, Mv g.b H1 H' ∧ H' D0 = some (.lst us) ∧ RowsBy (SqT K H') us qs ∧ (∀ q ∈ qs, q ∈ prs) ∧ qs.length ≤ i ∧ H' l = some (.lst ps)) ⟨[], [], (Mv.refl hb1).put fr.1 fr.2, upd_same, trivial, (fun _ h => nomatch h), Nat.le_refl _, by rw [upd_ne lD]; exact hl1⟩ (fun i H' _ z => by
    obtain ⟨_, _, _, _, _, _, _, h⟩ := z
    exact SqL.of h) ?_ ?_
  · rintro i v H2 hv ⟨us, qs, m2, h2, r2, in2, le2, hl2⟩
    have hi : i < prs.length := by rw [← lps]; exact (List.getElem?_eq_some_iff.mp hv).1
    have pi : prs[i]? = some prs[i] := List.getElem?_eq_getElem hi
    obtain ⟨q, b1, b2⟩ := rows.at_ pi
    rw [hv] at b1
    cases b1
    have mem := List.getElem_mem hi
    generalize prs[i] = pr at b2 mem pi
    obtain ⟨t2, hb2⟩ := m2.2
    refine ⟨rfl, ?_⟩
    refine ⟨_, rfl, g.b, t2, 2, rfl, hb2, by decide, by decide, fun r H3 r0 r1 m3 => ?_⟩
    have m13 := m2.trans m3
    have h3 := m3.1 _ _ fr.2 h2
    have r3 := r2.imp fun _ _ z => m3.sqT hb2 z
    have hl3 := m3.1 _ _ lb hl2
    have lus := r2.length
    have pf := all.few
    refine ⟨rfl, _, rfl, ite2 (fun _ => ?_) (fun _ => ?_)⟩
    · refine ⟨_, rfl, us, h3, by rw [sizeLine_eq]; omega, us ++ [.ref q], qs ++ [pr], m13.put fr.1 fr.2, upd_same, ?_, fun x hx => ?_, by rw [List.length_append, List.length_singleton]; omega, by rw [upd_ne lD]; exact hl3⟩
      · exact RowsBy.snoc (R := SqT K _) (sqT_lst h3 (m13.sqT hb1 b2)) (r3.imp fun _ _ z => sqT_lst h3 z)
      · rcases List.mem_append.mp hx with hx | hx
        · exact in2 x hx
        · rw [List.mem_singleton.mp hx]; exact mem
    · exact ⟨us, qs, m13, h3, r3, in2, by omega, hl3⟩
  · rintro H2 ⟨us, qs, m2, h2, r2, in2, le2, hl2⟩
    have j2 := j1.mv m2
    have pf := all.few
    refine kk _ _ ⟨{ g with pq := D0, pps := us, prs := qs }, _, _, _, _, rfl, { j2 with pq := h2, pb := fr.2, prow := r2, are := fun pr hp => ?_, few := by show qs.length ≤ 16; omega }, by show qs.length ≤ 12; omega⟩
    obtain ⟨x, y, e, xy, yk⟩ := all.are pr (in2 pr hp)
    exact ⟨x, y, e, Nat.lt_trans xy yk, yk⟩
theorem q5 : HT (ι := Nat) (XL P w K mg base f cc A outer st H0 E) (nthS lawS 5) (fun k σ H => ∃ (g : Gl) (x9 x10 x11 x12 : Option V), σ = sg8 sc k g (some (.ref g.pq)) x9 x10 x11 x12 ∧ J5 K CM H0 g H ∧ g.prs.length ≤ 12)
    (fun k σ H => ∃ (g : Gl) (x9 x10 x11 x12 : Option V), σ = sg8 sc k g (some (.ref g.pq)) x9 x10 x11 x12 ∧ J5 K CM H0 g H ∧ g.prs.length ≤ 12) := by
  obtain ⟨T, TC, TM, M, F, lone, hr, hs, hl⟩ := Z
  refine ⟨_, (ps_setLc (i := 8) (own := [("pair", 13)]) (by rfl) sclaw.nd rfl rfl (sw_true rfl rfl rfl (by decide +kernel)) (pi_list (pv 8)) (blkOk_by (own := [("pair", 13)]) (N := ["script", "k", "box", "tables", "first", "machine", "deeds", "rounds", "pairs", "deed", "due", "kept", "counters", "pair", "lot"]) (sc := defScope s_law) (by decide +kernel)) (fun _ _ _ _ _ => (pg_name (i := 13) sclaw.nd rfl (by first | exact Or.inl rfl | exact Or.inr rfl))) (fun _ _ _ _ _ => pts_nil) (fun _ _ _ _ _ => (pe_ifExp (pt_cmpR op_eq (pe_callC F.take hr pass0 (pa_cons (pv 2) (pa_cons pe_int pa_nil))) pe_int (nomark _)) (pv 13) (pe_tup (pa_cons (pe_ix (ix_seqK (K := K)) (pv 13) pe_int (fun _ _ => rfl)) (pa_cons (pe_ix (ix_seqK (K := K)) (pv 13) pe_int (fun _ _ => rfl)) pa_nil)))))), ?_⟩
  rintro k D σ H ⟨g, x9, x10, x11, x12, rfl, j, pf⟩ kk
  obtain ⟨t1, hb1⟩ := j.box
  have lps := j.prow.length
  refine ⟨_, rfl, g.pq, rfl, ⟨_, SqL.of j.pq⟩, fun D0 hD => ?_⟩
  have fr := (Mv.refl hb1).free hD
  have lD : g.pq ≠ D0 := fun z => by
    have := j.pq
    rw [z, show H D0 = none from hD] at this
    cases this
  refine lc_list (xs := g.pps) (fun i H' => ∃ us qs, Mv g.b H H' ∧ H' D0 = some (.lst us) ∧ RowsBy (SqT K H') us qs ∧ (∀ pr ∈ qs, ∃ a b : Nat, pr = [(a : Int), (b : Int)] ∧ a < g.ts.length ∧ b < g.ts.length) ∧ qs.length ≤ i ∧ H' g.pq = some (.lst g.pps)) ⟨[], [], (Mv.refl hb1).put fr.1 fr.2, upd_same, trivial, (fun _ h => nomatch h), Nat.le_refl _, by rw [upd_ne lD]; exact j.pq⟩ (fun i H' _ z => by
    obtain ⟨_, _, _, _, _, _, _, h⟩ := z
    exact SqL.of h) ?_ ?_
  · rintro i v H2 hv ⟨us, qs, m2, h2, r2, in2, le2, hl2⟩
    have hi : i < g.prs.length := by rw [← lps]; exact (List.getElem?_eq_some_iff.mp hv).1
    have pi : g.prs[i]? = some g.prs[i] := List.getElem?_eq_getElem hi
    obtain ⟨q, b1, b2⟩ := j.prow.at_ pi
    rw [hv] at b1
    cases b1
    obtain ⟨x, y, epr, xk, yk⟩ := j.are _ (List.getElem_mem hi)
    rw [epr] at b2
    obtain ⟨t2, hb2⟩ := m2.2
    refine ⟨rfl, yes ((if_pos rfl).mpr ?_)⟩
    refine ⟨_, rfl, g.b, t2, 2, rfl, hb2, by decide, by decide, fun r H3 r0 r1 m3 => ?_⟩
    have m13 := m2.trans m3
    have h3 := m3.1 _ _ fr.2 h2
    have r3 := r2.imp fun _ _ z => m3.sqT hb2 z
    have hl3 := m3.1 _ _ j.pb hl2
    have lus := r2.length
    have b3 := m13.sqT hb1 b2
    refine ⟨rfl, _, rfl, ite2 (fun _ => ?_) (fun _ => ?_)⟩
    · refine ⟨_, rfl, us, h3, by rw [sizeLine_eq]; omega, us ++ [.ref q], qs ++ [[(x : Int), (y : Int)]], m13.put fr.1 fr.2, upd_same, ?_, fun pr hx => ?_, by rw [List.length_append, List.length_singleton]; omega, by rw [upd_ne lD]; exact hl3⟩
      · exact RowsBy.snoc (R := SqT K _) (sqT_lst h3 b3) (r3.imp fun _ _ z => sqT_lst h3 z)
      · rcases List.mem_append.mp hx with hx | hx
        · exact in2 pr hx
        · exact ⟨x, y, List.mem_singleton.mp hx, xk, yk⟩
    · refine ⟨_, rfl, q, _, _, _, rfl, rfl, b3, rfl, _, rfl, q, _, _, _, rfl, rfl, b3, rfl, (by show 2 ≤ sizeLine; decide), fun p hp => ?_⟩
      have e4 := same_new (o := HO.tup [.int (y : Int), .int (x : Int)]) hp
      have u4 : SqT K (upd H3 p (HO.tup [.int (y : Int), .int (x : Int)])) p (([(y : Int), (x : Int)] : List Int).map V.int) := SqT.of upd_same
      have h4 := e4 _ _ h3
      refine ⟨us, h4, by rw [sizeLine_eq]; omega, us ++ [.ref p], qs ++ [[(y : Int), (x : Int)]], (m13.same e4).put fr.1 fr.2, upd_same, ?_, fun pr hx => ?_, by rw [List.length_append, List.length_singleton]; omega, by rw [upd_ne lD]; exact e4 _ _ hl3⟩
      · exact RowsBy.snoc (R := SqT K _) (sqT_lst h4 u4) (r3.imp fun _ _ z => sqT_lst h4 (sqT_same e4 z))
      · rcases List.mem_append.mp hx with hx | hx
        · exact in2 pr hx
        · exact ⟨y, x, List.mem_singleton.mp hx, yk, xk⟩
  · rintro H2 ⟨us, qs, m2, h2, r2, in2, le2, hl2⟩
    have j2 := j.mv m2
    exact kk _ _ ⟨{ g with pq := D0, pps := us, prs := qs }, _, _, _, _, rfl, { j2 with pq := h2, pb := fr.2, prow := r2, are := in2, few := by show qs.length ≤ 16; omega }, by show qs.length ≤ 12; omega⟩
end
end K7
/-! the law: pairs twice told; own lots; settled -/
namespace K7
open L2 PySem PySem.Spec PyProof.Rows Kx RZ
theorem iteF_ {b : Bool} {A B : Prop} (e : b = false) (h : B) : if b = true then A else B := by
  rw [e]
  exact iteF h
theorem cut_one {xs : List V} : cutV xs none (some 1) = xs.take 1 := by
  have e : (1 : Int) = ((1 : Nat) : Int) := rfl
  unfold cutV
  rw [e, HT.sIx_none, HT.sIx_nat, List.drop_zero, Nat.sub_zero]
  cases xs with
  | nil => rfl
  | cons x xs =>
    rw [List.length_cons, Nat.min_eq_left (by omega)]
/-- what is kept of pairs and rounds -/
def dKept (prs : List (List Int)) (rs : List Int) : PyData := .list [.list (prs.map dNums), .list (rs.map PyData.int)]
theorem okD_kept {prs : List (List Int)} {rs : List Int} (h1 : ∀ r ∈ prs, r.length ≤ 8 ∧ ∀ n ∈ r, -1000000 ≤ n ∧ n ≤ 1000000) (l1 : prs.length ≤ 16) (h2 : ∀ n ∈ rs, -1000000 ≤ n ∧ n ≤ 1000000) (l2 : rs.length ≤ 4) : OkD 3 400000 (dKept prs rs) := by
  have a : OkD 2 250000 (.list (prs.map dNums)) := (okD_list (okA_rows h1)).mono (Nat.le_refl _) (by omega)
  have b : OkD 2 10000 (.list (rs.map PyData.int)) := (okD_list (okA_ints h2)).mono (by decide) (by omega)
  exact (okD_list (okA_cons a (okA_cons b (okA_nil (m := 2))))).mono (Nat.le_refl _) (by decide)
theorem dp_kept {K : PySem.W.Frag} {H : Hp} {l pq rd : Addr} {pps : List V} {prs : List (List Int)} {rs : List Int} (hl : H l = some (.lst [.ref pq, .ref rd])) (hp : H pq = some (.lst pps)) (hr : RowsBy (SqT K H) pps prs) (hd : H rd = some (.lst (rs.map V.int))) : Dp K H (.ref l) (dKept prs rs) :=
  .lst (SqL.of hl) (.cons (.lst (SqL.of hp) (dp_rows.go hr)) (.cons (.lst (SqL.of hd) (dpAll_nums rs)) .nil))
theorem J5.okK {K : PySem.W.Frag} {CM : Addr} {H0 H : Hp} {g : Gl} (j : J5 K CM H0 g H) : OkD 3 400000 (dKept g.prs g.rs) := by
  have l4 := j.ok.l4
  refine okD_kept (fun r hr => ?_) j.few (fun n hn => by have := j.r12 n hn; omega) (by rw [j.lr]; exact l4)
  obtain ⟨x, y, rfl, xk, yk⟩ := j.are r hr
  refine ⟨(by show 2 ≤ 8; decide), fun n hn => ?_⟩
  simp only [List.mem_cons, List.not_mem_nil, or_false] at hn
  rcases hn with rfl | rfl <;> omega
theorem J5.pin {K : PySem.W.Frag} {CM : Addr} {H0 H : Hp} {g : Gl} (j : J5 K CM H0 g H) : PairsOf g.ts.length g.prs := ⟨j.are, j.few⟩
theorem J6.okR {K : PySem.W.Frag} {CM : Addr} {H0 H : Hp} {g : Gl} {PR : Nat → Nat → Prop} (j : J6 K CM H0 g PR H) : OkD 2 15402004 (dRows (lotsOf g.c g.L)) := by
  have wl := j.mc.wrl
  have few := wl.few
  have n8 := wl.n8
  have ll : (lotsOf g.c g.L).length ≤ g.L.length := lots_few
  refine okD_rows (fun l hl => ?_) (by omega)
  obtain ⟨x, hx, rfl⟩ := mem_lots.mp hl
  have : (inC g.c g.L (g.c x)).length ≤ g.L.length := inC_len
  refine ⟨by omega, fun y hy => ?_⟩
  have := wl.rng y (mem_inC.mp hy).1
  omega
theorem J6.dp {K : PySem.W.Frag} {CM : Addr} {H0 H H' : Hp} {g : Gl} {PR : Nat → Nat → Prop} (j : J6 K CM H0 g PR H) (e : Same H H') : Dp K H' (.ref g.du) (dRows (lotsOf g.c g.L)) := dp_rows (sqT_same e j.du) (j.drow.imp fun _ _ z => sqT_same e z)
section
variable {P : Program} {w : World} {K : PySem.W.Frag} {mg : Str → Option Value} {base : Heap} {f cc : Addr} {A : Around} {outer : List Env} {st : Shared} {H0 : Hp} {E : XK} {a : Ad} {C CM t0 : Addr} {sc : Addr} {scn : List Int}
variable (Z : Lz P w K mg base f cc A outer st H0 a C CM t0 sc scn)
include Z
theorem q6 : HT (ι := Nat) (XL P w K mg base f cc A outer st H0 E) (nthS lawS 6) (fun k σ H => ∃ (g : Gl) (x9 x10 x11 x12 : Option V), σ = sg8 sc k g (some (.ref g.pq)) x9 x10 x11 x12 ∧ J5 K CM H0 g H ∧ g.prs.length ≤ 12)
    (fun k σ H => ∃ (g : Gl) (x9 x10 x11 x12 : Option V), σ = sg8 sc k g (some (.ref g.pq)) x9 x10 x11 x12 ∧ J5 K CM H0 g H) := by
  obtain ⟨T, TC, TM, M, F, lone, hr, hs, hl⟩ := Z
  refine ⟨_, (ps_if (pt_cmpR op_eq (pe_callC F.take hr pass0 (pa_cons (pv 2) (pa_cons pe_int pa_nil))) pe_int (nomark _))
  (pss_cons (ps_set (i := 9) sclaw.nd rfl (by first | exact Or.inl rfl | exact Or.inr rfl) (pe_callC F.take hr pass0 (pa_cons (pv 2) (pa_cons (pv 6) pa_nil))))
  (pss_one (ps_set (i := 8) sclaw.nd rfl (by first | exact Or.inl rfl | exact Or.inr rfl) (pe_op op_cat (pe_op op_cat (pe_lst (pa_cons (pe_tup (pa_cons (pv 9) (pa_cons (pv 9) pa_nil))) pa_nil)) (pv 8)) (pe_slice sl_list (pv 8) po_none (po_some pe_int))))))
  pss_nil), ?_⟩
  rintro k D σ H ⟨g, x9, x10, x11, x12, rfl, j, pf⟩ kk
  obtain ⟨t, hb⟩ := j.box
  have l1 := j.ok.l1
  have l4 := j.ok.l4
  refine ⟨_, rfl, g.b, t, 3, rfl, hb, by decide, by decide, fun r H1 r0 r1 m1 => ?_⟩
  have j1 := j.mv m1
  obtain ⟨t1, hb1⟩ := j1.box
  refine ⟨rfl, _, rfl, ite2 (fun _ => ?_) (fun _ => ?_)⟩
  · refine ⟨_, rfl, _, rfl, g.b, t1, (g.ts.length : Nat), rfl, hb1, by omega, by omega, fun d H2 d0 d1 m2 => ?_⟩
    obtain ⟨d, rfl⟩ : ∃ n : Nat, d = (n : Int) := ⟨d.toNat, by omega⟩
    have j2 := j1.mv m2
    refine ⟨_, rfl, _, rfl, (by show 2 ≤ sizeLine; decide), fun q hq => ?_⟩
    have e3 := same_new (o := HO.tup [.int (d : Int), .int (d : Int)]) hq
    have u3 : SqT K (upd H2 q (HO.tup [.int (d : Int), .int (d : Int)])) q (([(d : Int), (d : Int)] : List Int).map V.int) := SqT.of upd_same
    generalize upd H2 q (HO.tup [.int (d : Int), .int (d : Int)]) = H3 at e3 u3 ⊢
    have j3 := j2.same e3
    refine ⟨(by show 1 ≤ sizeLine; decide), fun l hl1 => ?_⟩
    have e4 := same_new (o := HO.lst [.ref q]) hl1
    have u4 : upd H3 l (HO.lst [.ref q]) l = some (.lst [.ref q]) := upd_same
    generalize upd H3 l (HO.lst [.ref q]) = H4 at e4 u4 ⊢
    have j4 := j3.same e4
    have lps := j4.prow.length
    refine ⟨_, rfl, l, g.pq, _, _, rfl, rfl, u4, j4.pq, by rw [sizeLine_eq]; show 1 + _ ≤ _; omega, fun p hp => ?_⟩
    have e5 := same_new (o := HO.lst ([V.ref q] ++ g.pps)) hp
    have u5 : upd H4 p (HO.lst ([V.ref q] ++ g.pps)) p = some (.lst ([V.ref q] ++ g.pps)) := upd_same
    generalize upd H4 p (HO.lst ([V.ref q] ++ g.pps)) = H5 at e5 u5 ⊢
    have j5 := j4.same e5
    refine ⟨_, rfl, _, rfl, g.pq, _, rfl, SqL.of j5.pq, fun p2 hp2 => ?_⟩
    rw [cut_one]
    have e6 := same_new (o := HO.lst (g.pps.take 1)) hp2
    have u6 : upd H5 p2 (HO.lst (g.pps.take 1)) p2 = some (.lst (g.pps.take 1)) := upd_same
    generalize upd H5 p2 (HO.lst (g.pps.take 1)) = H6 at e6 u6 ⊢
    have j6 := j5.same e6
    refine ⟨p, p2, _, _, rfl, rfl, e6 _ _ u5, u6, by rw [List.length_append, List.length_take, sizeLine_eq]; show 1 + _ + _ ≤ _; omega, fun p3 hp3 => ?_⟩
    have e7 := same_new (o := HO.lst ([V.ref q] ++ g.pps ++ g.pps.take 1)) hp3
    have u7 : upd H6 p3 (HO.lst ([V.ref q] ++ g.pps ++ g.pps.take 1)) p3 = some (.lst ([V.ref q] ++ g.pps ++ g.pps.take 1)) := upd_same
    have nb : p3 ≠ g.b := fun z => by
      obtain ⟨t6, hb6⟩ := j6.box
      rw [← z, show H6 p3 = none from hp3] at hb6
      cases hb6
    generalize upd H6 p3 (HO.lst ([V.ref q] ++ g.pps ++ g.pps.take 1)) = H7 at e7 u7 ⊢
    have j7 := j6.same e7
    have e37 := e4.trans (e5.trans (e6.trans e7))
    refine kk _ _ ⟨{ g with pq := p3, pps := [V.ref q] ++ g.pps ++ g.pps.take 1, prs := [[(d : Int), (d : Int)]] ++ g.prs ++ g.prs.take 1 }, _, _, _, _, rfl, { j7 with pq := u7, pb := nb, prow := ?_, are := fun pr hp => ?_, few := ?_ }⟩
    · have one : RowsBy (SqT K H7) [V.ref q] [[(d : Int), (d : Int)]] := ⟨⟨q, rfl, sqT_same e37 u3⟩, trivial⟩
      exact (one.app j7.prow).app (RowsBy.take 1 j7.prow)
    · have hp : pr ∈ [[(d : Int), (d : Int)]] ++ g.prs ++ g.prs.take 1 := hp
      rcases List.mem_append.mp hp with hp | hp
      · rcases List.mem_append.mp hp with hp | hp
        · exact ⟨d, d, List.mem_singleton.mp hp, by show d < g.ts.length; omega, by show d < g.ts.length; omega⟩
        · exact j.are pr hp
      · exact j.are pr (List.mem_of_mem_take hp)
    · show ([[(d : Int), (d : Int)]] ++ g.prs ++ g.prs.take 1).length ≤ 16
      rw [List.length_append, List.length_append, List.length_take, List.length_singleton]
      omega
  · exact kk _ _ ⟨g, _, _, _, _, rfl, j1⟩
theorem q7 : HT (ι := Nat) (XL P w K mg base f cc A outer st H0 E) (nthS lawS 7) (fun k σ H => ∃ (g : Gl) (x9 x10 x11 x12 : Option V), σ = sg8 sc k g (some (.ref g.pq)) x9 x10 x11 x12 ∧ J5 K CM H0 g H)
    (fun k σ H => ∃ (g : Gl) (x9 x12 : Option V), σ = sg8 sc k g (some (.ref g.pq)) x9 (some (.ref g.du)) (some (.str (dKept g.prs g.rs).shown)) x12 ∧ J5 K CM H0 g H ∧ J6 K CM H0 g (Rl g.prs) H) := by
  obtain ⟨T, TC, TM, M, F, lone, hr, hs, hl⟩ := Z
  have cs : CallR (XL P w K mg base f cc A outer st H0 E) (.builtin "repr") (rShow K) := call_show lone (r64 hr)
  refine ⟨_, (ps_asg (pe_tup (pa_cons (pe_callC F.parted hr pass0 (pa_cons (pv 3) (pa_cons (pv 4) (pa_cons (pv 8) (pa_cons (pv 7) pa_nil))))) (pa_cons (pe_callB cs (by rfl) T.z_repr (by decide +kernel) (pa_cons (pe_lst (pa_cons (pv 8) (pa_cons (pv 7) pa_nil))) pa_nil)) pa_nil))) (pg_tup rfl (pgs_cons (pg_name (i := 10) sclaw.nd rfl (by first | exact Or.inl rfl | exact Or.inr rfl)) (pgs_cons (pg_name (i := 11) sclaw.nd rfl (by first | exact Or.inl rfl | exact Or.inr rfl)) pgs_nil)))), ?_⟩
  rintro k D σ H ⟨g, x9, x10, x11, x12, rfl, j⟩ kk
  have nb : (natsOf g.rs).map (fun c => V.int (c : Nat)) = g.rs.map V.int := nats_back fun r hr => (j.r12 r hr).1
  refine ⟨_, rfl, _, rfl, _, rfl, _, rfl, g.tt, g.pq, g.rd, g.ps, g.pps, g.ts, g.prs, g.s, natsOf g.rs, g.n, rfl, ⟨j.tt, j.rows, j.pq, j.prow, j.pin, by rw [nb]; exact j.rd, by rw [nats_len]; exact j.lr.symm, j.ok.l4, fun c hc => ?_, j.ok, j.s0, j.s1, j.ex⟩, fun l H1 qs c L e1 mc hl1 rows cl => ?_⟩
  · obtain ⟨r, hr, rfl⟩ := List.mem_map.mp hc
    have := j.r12 r hr
    omega
  have j1 := j.same e1
  refine ⟨_, rfl, _, rfl, (by show 2 ≤ sizeLine; decide), fun l2 hl2 => ?_⟩
  have e2 := same_new (o := HO.lst [.ref g.pq, .ref g.rd]) hl2
  have u2 : upd H1 l2 (HO.lst [.ref g.pq, .ref g.rd]) l2 = some (.lst [.ref g.pq, .ref g.rd]) := upd_same
  generalize upd H1 l2 (HO.lst [.ref g.pq, .ref g.rd]) = H2 at e2 u2 ⊢
  have j2 := j1.same e2
  have od := j.okK
  refine ⟨_, _, rfl, dp_kept u2 j2.pq j2.prow j2.rd, od.sh, od.nd, od.d60, od.line, ?_⟩
  refine ⟨(by show 2 ≤ sizeLine; decide), fun p hp => ?_⟩
  have e3 := same_new (o := HO.tup [.ref l, .str (dKept g.prs g.rs).shown]) hp
  have u3 : SqT K (upd H2 p (HO.tup [.ref l, .str (dKept g.prs g.rs).shown])) p [.ref l, .str (dKept g.prs g.rs).shown] := SqT.of upd_same
  generalize upd H2 p (HO.tup [.ref l, .str (dKept g.prs g.rs).shown]) = H3 at e3 u3 ⊢
  have j3 := j2.same e3
  have e23 := e2.trans e3
  let g' : Gl := { g with du := l, qs := qs, L := L, c := c }
  have jj : J4 K CM H0 g' H3 := { j3.toJ4 with }
  exact ⟨p, _, rfl, u3, rfl, _, _, rfl, _, _, rfl, rfl, kk _ _ ⟨g', x9, x12, rfl, { jj with pq := j3.pq, pb := j3.pb, prow := j3.prow, are := j3.are, few := j3.few }, { jj with mc := mc, du := sqT_same e23 hl1, drow := rows.imp fun _ _ z => sqT_same e23 z.sqT, cl := cl }⟩⟩
end
end K7
/-! the law: settled, by place and by name; all pairs; counters -/
namespace K7
open L2 PySem PySem.Spec PyProof.Rows Kx RZ
theorem call_list_ofK {X : Cx} {K : PySem.W.Frag} (hK : X.K = K := by rfl) : CallR X (.type "list") (fun xs H Q => ∃ p ys, xs = [.ref p] ∧ (SqL K H p ys ∨ SqT K H p ys) ∧ ∀ l, H l = none → Q (.ref l) (upd H l (.lst ys))) := by
  subst hK
  exact call_list_of
abbrev W7 (K : PySem.W.Frag) (CM : Addr) (H0 : Hp) (sc : Addr) (k : Nat) (σ : L2.St) (H : Hp) : Prop := ∃ (g : Gl) (x9 x12 : Option V), σ = sg8 sc k g (some (.ref g.pq)) x9 (some (.ref g.du)) (some (.str (dKept g.prs g.rs).shown)) x12 ∧ J5 K CM H0 g H ∧ J6 K CM H0 g (Rl g.prs) H
abbrev W10 (K : PySem.W.Frag) (CM : Addr) (H0 : Hp) (sc : Addr) (k : Nat) (σ : L2.St) (H : Hp) : Prop := ∃ (g : Gl) (x8 x9 x11 x12 : Option V), σ = sg8 sc k g x8 x9 (some (.ref g.du)) x11 x12 ∧ J6 K CM H0 g (LtB g.ts.length) H
abbrev W11 (K : PySem.W.Frag) (C CM : Addr) (H0 : Hp) (sc : Addr) (k : Nat) (σ : L2.St) (H : Hp) : Prop := ∃ (g : Gl) (x8 x9 x11 : Option V), σ = sg8 sc k g x8 x9 (some (.ref g.du)) x11 (some (.ref g.cc)) ∧ J7 K C CM H0 g H
section
variable {P : Program} {w : World} {K : PySem.W.Frag} {mg : Str → Option Value} {base : Heap} {f cc : Addr} {A : Around} {outer : List Env} {st : Shared} {H0 : Hp} {E : XK} {a : Ad} {C CM t0 : Addr} {sc : Addr} {scn : List Int}
variable (Z : Lz P w K mg base f cc A outer st H0 a C CM t0 sc scn)
include Z
theorem q8 : HT (ι := Nat) (XL P w K mg base f cc A outer st H0 E) (nthS lawS 8) (W7 K CM H0 sc) (W7 K CM H0 sc) := by
  obtain ⟨T, TC, TM, M, F, lone, hr, hs, hl⟩ := Z
  have cs : CallR (XL P w K mg base f cc A outer st H0 E) (.builtin "repr") (rShow K) := call_show lone (r64 hr)
  refine ⟨_, (ps_if (PW.pt (pw_or (pt_cmpR op_ne (pe_callB cs (by rfl) T.z_repr (by decide +kernel) (pa_cons (pe_callC F.settled hr pzN (pa_cons (pv 5) (pa_cons (pv 4) (pa_cons (pv 8) (pa_cons (pv 7) pa_nil))))) pa_nil)) (pe_callB cs (by rfl) T.z_repr (by decide +kernel) (pa_cons (pv 10) pa_nil)) (nomark _)) (pw_or1 (pt_cmpR op_ne (pe_callB cs (by rfl) T.z_repr (by decide +kernel) (pa_cons (pe_lst (pa_cons (pv 8) (pa_cons (pv 7) pa_nil))) pa_nil)) (pv 11) (nomark _)))))
  (pss_one (ps_ret pe_bl))
  pss_nil), ?_⟩
  rintro k D σ H ⟨g, x9, x12, rfl, j5, j6⟩ kk
  have nb : (natsOf g.rs).map (fun c => V.int (c : Nat)) = g.rs.map V.int := nats_back fun r hr => (j6.r12 r hr).1
  refine ⟨_, rfl, _, rfl, _, rfl, _, rfl, g.m, g.pq, g.rd, g.pps, g.n, g.ts, g.prs, g.s, natsOf g.rs, g.L, rfl, j6.mac, .inl (SqL.of j5.pq), j5.prow.imp fun _ _ z => .inr z, j5.pin, by rw [nb]; exact .inl (SqL.of j6.rd), by rw [nats_len]; exact j6.lr.symm, j6.mc, fun l H1 qs c e1 hl1 rows cl => ?_⟩
  have eq : lotsOf c g.L = lotsOf g.c g.L := lots_eq (cl.eq j6.cl)
  rw [eq] at rows
  have od := j6.okR
  refine ⟨_, _, rfl, dp_rows hl1 rows, od.sh, od.nd, od.d60, od.line, ?_⟩
  refine ⟨_, rfl, _, _, rfl, j6.dp e1, od.sh, od.nd, od.d60, od.line, ?_⟩
  refine ⟨rfl, _, rfl, iteF_ (by simp) ?_⟩
  have ok := j5.okK
  refine ⟨_, rfl, _, rfl, (by show 2 ≤ sizeLine; decide), fun l2 hl2 => ?_⟩
  have e2 := same_new (o := HO.lst [.ref g.pq, .ref g.rd]) hl2
  have u2 : upd H1 l2 (HO.lst [.ref g.pq, .ref g.rd]) l2 = some (.lst [.ref g.pq, .ref g.rd]) := upd_same
  generalize upd H1 l2 (HO.lst [.ref g.pq, .ref g.rd]) = H2 at e2 u2 ⊢
  have e12 := e1.trans e2
  have j52 := j5.same e12
  refine ⟨_, _, rfl, dp_kept u2 j52.pq j52.prow j52.rd, ok.sh, ok.nd, ok.d60, ok.line, ?_⟩
  refine ⟨_, rfl, rfl, _, rfl, iteF_ (by simp) ?_⟩
  exact kk _ _ ⟨g, x9, x12, rfl, j52, j6.same e12⟩
theorem q9 : HT (ι := Nat) (XL P w K mg base f cc A outer st H0 E) (nthS lawS 9) (W7 K CM H0 sc) (W7 K CM H0 sc) := by
  obtain ⟨T, TC, TM, M, F, lone, hr, hs, hl⟩ := Z
  refine ⟨_, (ps_if (pt_cmpR (op_neRows (r64 hr)) (pe_callN0 F.settledK hr pzN (pk_cons (pe_callTy (call_tupleK (K := K)) (by rfl) T.z_tuple (by decide +kernel) (pa_cons (pv 7) pa_nil)) (pk_cons (pe_callTy (call_tupleK (K := K)) (by rfl) T.z_tuple (by decide +kernel) (pa_cons (pe_lc (own := [("pair", 13)]) (by rfl) sclaw.nd (pi_list (pv 8)) (blkOk_by (own := [("pair", 13)]) (N := ["script", "k", "box", "tables", "first", "machine", "deeds", "rounds", "pairs", "deed", "due", "kept", "counters", "pair", "lot"]) (sc := defScope s_law) (by decide +kernel)) (fun _ _ _ _ _ => (pg_name (i := 13) sclaw.nd rfl (by first | exact Or.inl rfl | exact Or.inr rfl))) (fun _ _ _ _ _ => pts_nil) (fun _ _ _ _ _ => (pe_callTy (call_list_ofK (K := K)) (by rfl) T.z_list (by decide +kernel) (pa_cons (pv 13) pa_nil)))) pa_nil)) (pk_cons (pv 4) (pk_cons (pv 5) pk_nil))))) (pv 10) (nomark _))
  (pss_one (ps_ret pe_bl))
  pss_nil), ?_⟩
  rintro k D σ H ⟨g, x9, x12, rfl, j5, j6⟩ kk
  have nb : (natsOf g.rs).map (fun c => V.int (c : Nat)) = g.rs.map V.int := nats_back fun r hr => (j6.r12 r hr).1
  refine ⟨_, rfl, g.rd, _, rfl, .inl ⟨SqL.of j6.rd, fun p hp => ?_⟩⟩
  have e1 := same_new (o := HO.tup (g.rs.map V.int)) hp
  have u1 : SqT K (upd H p (HO.tup (g.rs.map V.int))) p (g.rs.map V.int) := SqT.of upd_same
  generalize upd H p (HO.tup (g.rs.map V.int)) = H1 at e1 u1 ⊢
  have j51 := j5.same e1
  have lps := j51.prow.length
  have pf := j5.few
  refine ⟨_, rfl, g.pq, rfl, ⟨_, SqL.of j51.pq⟩, fun D0 hD => ?_⟩
  refine lc_list (xs := g.pps) (fun i H' => ∃ us, Same H1 H' ∧ H' D0 = some (.lst us) ∧ RowsBy (fun q xs => q ≠ D0 ∧ H' q = some (.lst xs)) us (g.prs.take i)) ⟨[], same_new hD, upd_same, trivial⟩ (fun i H' _ z => by
    obtain ⟨_, e, _⟩ := z
    exact SqL.of (e _ _ j51.pq)) ?_ ?_
  · rintro i v H2 hv ⟨us, e2, h2, r2⟩
    have hi : i < g.prs.length := by rw [← lps]; exact (List.getElem?_eq_some_iff.mp hv).1
    have pi : g.prs[i]? = some g.prs[i] := List.getElem?_eq_getElem hi
    obtain ⟨q, b1, b2⟩ := j51.prow.at_ pi
    rw [hv] at b1
    cases b1
    have tk : g.prs.take (i + 1) = g.prs.take i ++ [g.prs[i]] := by rw [List.take_add_one, pi]; rfl
    generalize g.prs[i] = pr at b2 pi tk
    refine ⟨rfl, yes ((if_pos rfl).mpr ?_)⟩
    refine ⟨_, rfl, q, _, rfl, .inr (sqT_same e2 b2), fun l hl => ?_⟩
    have e3 := same_new (o := HO.lst (pr.map V.int)) hl
    have u3 : upd H2 l (HO.lst (pr.map V.int)) l = some (.lst (pr.map V.int)) := upd_same
    have ln : l ≠ D0 := fun z => by
      rw [z] at hl
      rw [show H2 D0 = none from hl] at h2
      cases h2
    have h3 := e3 _ _ h2
    have lus := r2.length
    rw [List.length_take] at lus
    refine ⟨us, h3, by rw [sizeLine_eq]; omega, us ++ [.ref l], same_put (e2.trans e3) hD, upd_same, ?_⟩
    rw [tk]
    exact RowsBy.snoc ⟨ln, by rw [upd_ne ln]; exact u3⟩ (r2.imp fun q xs z => ⟨z.1, by rw [upd_ne z.1]; exact e3 _ _ z.2⟩)
  · rintro H2 ⟨us, e2, h2, r2⟩
    rw [lps, List.take_length] at r2
    refine ⟨D0, _, rfl, .inl ⟨SqL.of h2, fun p2 hp2 => ?_⟩⟩
    have e3 := same_new (o := HO.tup us) hp2
    have u3 : SqT K (upd H2 p2 (HO.tup us)) p2 us := SqT.of upd_same
    generalize upd H2 p2 (HO.tup us) = H3 at e3 u3 ⊢
    have e13 := e2.trans e3
    have e03 := e1.trans e13
    have j63 := j6.same e03
    refine ⟨_, rfl, _, rfl, rfl, rfl, g.m, p2, p, us, g.n, g.ts, g.prs, g.s, natsOf g.rs, g.L, rfl, j63.mac, .inr u3, r2.imp fun _ _ z => .inl (SqL.of (e3 _ _ z.2)), j5.pin, by rw [nb]; exact .inr (sqT_same e13 u1), by rw [nats_len]; exact j6.lr.symm, j6.mc, fun l H4 qs c e4 hl4 rows cl => ?_⟩
    have eq : lotsOf c g.L = lotsOf g.c g.L := lots_eq (cl.eq j6.cl)
    rw [eq] at rows
    have e04 := e03.trans e4
    refine ⟨_, rfl, _, _, dp_rows hl4 rows, j6.dp e04, _, rfl, iteF_ (by simp) ?_⟩
    exact kk _ _ ⟨g, x9, x12, rfl, j5.same e04, j6.same e04⟩
theorem q10 : HT (ι := Nat) (XL P w K mg base f cc A outer st H0 E) (nthS lawS 10) (W7 K CM H0 sc) (W10 K CM H0 sc) := by
  obtain ⟨T, TC, TM, M, F, lone, hr, hs, hl⟩ := Z
  refine ⟨_, (ps_set (i := 10) sclaw.nd rfl (by first | exact Or.inl rfl | exact Or.inr rfl) (pe_callC F.parted hr pass0 (pa_cons (pv 3) (pa_cons (pv 4) (pa_cons (pe_callC F.pairs hr pass0 (pa_cons (pv 6) pa_nil)) (pa_cons (pv 7) pa_nil)))))), ?_⟩
  rintro k D σ H ⟨g, x9, x12, rfl, j5, j6⟩ kk
  have nb : (natsOf g.rs).map (fun c => V.int (c : Nat)) = g.rs.map V.int := nats_back fun r hr => (j6.r12 r hr).1
  refine ⟨_, rfl, _, rfl, _, rfl, g.ts.length, rfl, j6.ok.l4, fun lp H1 pps prs e1 nl hlp prow all => ?_⟩
  have j1 := j6.toJ4.same e1
  refine ⟨_, rfl, g.tt, lp, g.rd, g.ps, pps, g.ts, prs, g.s, natsOf g.rs, g.n, rfl, ⟨j1.tt, j1.rows, hlp, prow, all.pairs, by rw [nb]; exact j1.rd, by rw [nats_len]; exact j6.lr.symm, j6.ok.l4, fun c hc => ?_, j6.ok, j6.s0, j6.s1, j6.ex⟩, fun l H2 qs c L e2 mc hl1 rows cl => ?_⟩
  · obtain ⟨r, hr, rfl⟩ := List.mem_map.mp hc
    have := j6.r12 r hr
    omega
  rw [all.rl] at cl
  let g' : Gl := { g with du := l, qs := qs, L := L, c := c }
  have jj : J4 K CM H0 g' H2 := { j1.same e2 with }
  exact kk _ _ ⟨g', _, _, _, _, rfl, { jj with mc := mc, du := hl1, drow := rows.imp fun _ _ z => z.sqT, cl := cl }⟩
theorem q11 : HT (ι := Nat) (XL P w K mg base f cc A outer st H0 E) (nthS lawS 11) (W10 K CM H0 sc) (W11 K C CM H0 sc) := by
  obtain ⟨T, TC, TM, M, F, lone, hr, hs, hl⟩ := Z
  refine ⟨_, (ps_set (i := 12) sclaw.nd rfl (by first | exact Or.inl rfl | exact Or.inr rfl) (pe_cnt2 (K := K) M TC hr pzN (pa_cons (pv 7) (pa_cons (pe_lc (own := [("deed", 9)]) (by rfl) sclaw.nd (pi_range1 (by rfl) T.z_range (pa_cons (pv 6) pa_nil)) (blkOk_by (own := [("deed", 9)]) (N := ["script", "k", "box", "tables", "first", "machine", "deeds", "rounds", "pairs", "deed", "due", "kept", "counters", "pair", "lot"]) (sc := defScope s_law) (by decide +kernel)) (fun _ _ _ _ _ => (pg_name (i := 9) sclaw.nd rfl (by first | exact Or.inl rfl | exact Or.inr rfl))) (fun _ _ _ _ _ => pts_nil) (fun _ _ _ _ _ => (pe_callC F.take hr pass0 (pa_cons (pv 2) (pa_cons pe_int pa_nil))))) pa_nil)))), ?_⟩
  rintro k D σ H ⟨g, x8, x9, x11, x12, rfl, j⟩ kk
  obtain ⟨t1, hb1⟩ := j.box
  have l1 := j.ok.l1
  have l4 := j.ok.l4
  refine ⟨_, rfl, _, rfl, g.ts.length, rfl, by omega, by omega, fun D0 hD => ?_⟩
  have fr := (Mv.refl hb1).free hD
  refine lc_range (lo := 0) (n := g.ts.length) (fun i H' => ∃ es : List Int, H' D0 = some (.lst (es.map V.int)) ∧ Mv g.b H H' ∧ es.length = i ∧ ∀ x ∈ es, 0 ≤ x ∧ x ≤ 6) ⟨[], upd_same, (Mv.refl hb1).put fr.1 fr.2, rfl, (fun _ h => nomatch h)⟩ ?_ ?_
  · rintro i H2 hi ⟨es, h2, m2, le, ae⟩
    obtain ⟨t2, hb2⟩ := m2.2
    refine ⟨rfl, yes ((if_pos rfl).mpr ?_)⟩
    refine ⟨_, rfl, g.b, t2, 7, rfl, hb2, by decide, by decide, fun r H3 r0 r1 m3 => ?_⟩
    refine ⟨_, m3.1 _ _ fr.2 h2, by rw [List.length_map, sizeLine_eq]; omega, es ++ [r], by rw [upd_same, List.map_append]; rfl, (m2.trans m3).put fr.1 fr.2, by rw [List.length_append, le]; rfl, fun x hx => ?_⟩
    rcases List.mem_append.mp hx with hx | hx
    · exact ae x hx
    · rw [List.mem_singleton.mp hx]
      omega
  · rintro H2 ⟨es, h2, m2, le, ae⟩
    have j2 := j.mv m2
    have ok : Cok g.rs es := ⟨by rw [j.lr]; exact l1, by rw [j.lr]; exact l4, by rw [le, j.lr], fun r hr => by have := j.r12 r hr; omega, fun e he => ae e he⟩
    refine fun x dx hx hdx ne => make_good ok (.seq (.inl (SqL.of j2.rd))) (.inr (.seq (.inl (SqL.of h2)))) hx hdx ne fun H3 e3 cn => ?_
    let g' : Gl := { g with cc := x, es := es }
    have jj : J6 K CM H0 g' (LtB g'.ts.length) H3 := { j2.same e3 with }
    exact kk _ _ ⟨g', _, _, _, rfl, { jj with cn := cn }⟩
end
end K7
/-! the law: lots, their size, a walk -/
namespace K7
open L2 PySem PySem.Spec PyProof.Rows Kx RZ
theorem op_neDK {X : Cx} {K : PySem.W.Frag} (hu : X.A.units + 64 < cLine) (hK : X.K = K := by rfl) : OpR X (compareOp .NotEq) (rNeD K) := by
  subst hK
  exact op_neD hu
theorem call_lenK {X : Cx} {K : PySem.W.Frag} (hK : X.K = K := by rfl) : CallR X (.builtin "len") (fun xs H Q => ∃ p ys, xs = [.ref p] ∧ (SqL K H p ys ∨ SqT K H p ys) ∧ Q (.int ys.length) H) := by
  subst hK
  exact call_len_seq
abbrev W15 (K : PySem.W.Frag) (CM : Addr) (H0 : Hp) (sc : Addr) (k : Nat) (σ : L2.St) (H : Hp) : Prop := ∃ (g : Gl) (x8 x9 x10 x11 x12 : Option V), σ = sg8 sc k g x8 x9 x10 x11 x12 ∧ J4 K CM H0 g H ∧ Mch g.n g.ts g.s g.L ∧ ∀ r ∈ g.rs, 0 < r
section
variable {K : PySem.W.Frag} {C CM : Addr} {H0 H H' : Hp} {g : Gl}
/-- the first lot -/
theorem J7.due0 (j : J7 K C CM H0 g H) : ∃ (q : Addr) (l0 : List Int), g.qs[0]? = some (.ref q) ∧ SqT K H q (l0.map V.int) ∧ l0.length = (cls g.c g.L g.s).length := by
  have lr := j.drow.length
  obtain ⟨i, hi⟩ := List.getElem?_of_mem (mem_lots.mpr ⟨g.s, j.mc.sL, rfl⟩ : inC g.c g.L (g.c g.s) ∈ lotsOf g.c g.L)
  have l0 : 0 < (lotsOf g.c g.L).length := by
    have := (List.getElem?_eq_some_iff.mp hi).1
    omega
  have e0 : (lotsOf g.c g.L)[0]? = some (lotsOf g.c g.L)[0] := List.getElem?_eq_getElem l0
  obtain ⟨q, q1, q2⟩ := j.drow.at_ e0
  obtain ⟨x, hx, ex⟩ := mem_lots.mp (List.getElem_mem l0)
  refine ⟨q, _, q1, q2, ?_⟩
  rw [ex]
  exact cls_len j.mc j.cl hx
theorem J7.each (j : J7 K C CM H0 g H) {i : Nat} {v : V} (hv : g.qs[i]? = some v) : ∃ (q : Addr) (l : List Int), v = .ref q ∧ SqT K H q (l.map V.int) ∧ l.length = (cls g.c g.L g.s).length := by
  have lr := j.drow.length
  have li := (List.getElem?_eq_some_iff.mp hv).1
  have e0 : (lotsOf g.c g.L)[i]? = some ((lotsOf g.c g.L)[i]'(by omega)) := List.getElem?_eq_getElem (by omega)
  obtain ⟨q, q1, q2⟩ := j.drow.at_ e0
  rw [hv] at q1
  obtain ⟨x, hx, ex⟩ := mem_lots.mp (List.getElem_mem (show i < (lotsOf g.c g.L).length by omega))
  refine ⟨q, _, Option.some.inj q1, q2, ?_⟩
  rw [ex]
  exact cls_len j.mc j.cl hx
end
section
variable {P : Program} {w : World} {K : PySem.W.Frag} {mg : Str → Option Value} {base : Heap} {f cc : Addr} {A : Around} {outer : List Env} {st : Shared} {H0 : Hp} {E : XK} {a : Ad} {C CM t0 : Addr} {sc : Addr} {scn : List Int}
variable (Z : Lz P w K mg base f cc A outer st H0 a C CM t0 sc scn)
include Z
theorem q12 : HT (ι := Nat) (XL P w K mg base f cc A outer st H0 E) (nthS lawS 12) (W11 K C CM H0 sc) (W11 K C CM H0 sc) := by
  obtain ⟨T, TC, TM, M, F, lone, hr, hs, hl⟩ := Z
  have cs : CallR (XL P w K mg base f cc A outer st H0 E) (.builtin "repr") (rShow K) := call_show lone (r64 hr)
  refine ⟨_, (ps_if (PW.pt (pw_or (pt_cmpR op_ne (pe_callB cs (by rfl) T.z_repr (by decide +kernel) (pa_cons (pe_callC F.lots hr pzN (pa_cons (pv 5) (pa_cons (pv 4) (pa_cons (pv 12) pa_nil)))) pa_nil)) (pe_callB cs (by rfl) T.z_repr (by decide +kernel) (pa_cons (pv 10) pa_nil)) (nomark _)) (pw_or1 (pt_cmpR (op_neRows (r64 hr)) (pe_callN0 F.lotsK hr pzN (pk_cons (pv 12) (pk_cons (pv 4) (pk_cons (pv 5) pk_nil)))) (pv 10) (nomark _)))))
  (pss_one (ps_ret pe_bl))
  pss_nil), ?_⟩
  rintro k D σ H ⟨g, x8, x9, x11, rfl, j⟩ kk
  refine ⟨_, rfl, _, rfl, _, rfl, g.m, g.cc, g.n, g.ts, g.s, g.rs, g.es, g.L, rfl, j.mac, j.cn, j.lr, j.mc, fun l H1 qs c e1 hl1 rows cl => ?_⟩
  have eq : lotsOf c g.L = lotsOf g.c g.L := lots_eq (cl.eq j.cl)
  rw [eq] at rows
  have od := j.okR
  refine ⟨_, _, rfl, dp_rows hl1 rows, od.sh, od.nd, od.d60, od.line, ?_⟩
  refine ⟨_, rfl, _, _, rfl, j.dp e1, od.sh, od.nd, od.d60, od.line, ?_⟩
  refine ⟨rfl, _, rfl, iteF_ (by simp) ?_⟩
  have j1 := j.same e1
  refine ⟨_, rfl, _, rfl, _, rfl, rfl, rfl, g.m, g.cc, g.n, g.ts, g.s, g.rs, g.es, g.L, rfl, j1.mac, j1.cn, j.lr, j.mc, fun l H2 qs c e2 hl2 rows cl => ?_⟩
  have eq : lotsOf c g.L = lotsOf g.c g.L := lots_eq (cl.eq j.cl)
  rw [eq] at rows
  refine ⟨_, rfl, _, _, dp_rows hl2 rows, j1.dp e2, _, rfl, iteF_ (by simp) ?_⟩
  exact kk _ _ ⟨g, x8, x9, x11, rfl, j1.same e2⟩
theorem q13 : HT (ι := Nat) (XL P w K mg base f cc A outer st H0 E) (nthS lawS 13) (W11 K C CM H0 sc) (W11 K C CM H0 sc) := by
  obtain ⟨T, TC, TM, M, F, lone, hr, hs, hl⟩ := Z
  have cs : CallR (XL P w K mg base f cc A outer st H0 E) (.builtin "repr") (rShow K) := call_show lone (r64 hr)
  refine ⟨_, (ps_if (PW.pt (pw_or (pt_cmpR op_ne (pe_callB cs (by rfl) T.z_repr (by decide +kernel) (pa_cons (pe_callC F.size hr pzN (pa_cons (pv 5) (pa_cons (pv 4) (pa_cons (pv 12) pa_nil)))) pa_nil)) (pe_callB cs (by rfl) T.z_repr (by decide +kernel) (pa_cons (pe_callB call_len_seq (by rfl) T.z_len PySem.boot_len (pa_cons (pe_ix (ix_tupK (K := K)) (pv 10) pe_int (fun _ _ => rfl)) pa_nil)) pa_nil)) (nomark _)) (pw_or1 (pt_cmpR op_ne (pe_callN0 F.sizeK hr pzN (pk_cons (pv 12) (pk_cons (pv 4) (pk_cons (pv 5) pk_nil)))) (pe_callB call_len_seq (by rfl) T.z_len PySem.boot_len (pa_cons (pe_ix (ix_tupK (K := K)) (pv 10) pe_int (fun _ _ => rfl)) pa_nil)) (nomark _)))))
  (pss_one (ps_ret pe_bl))
  pss_nil), ?_⟩
  rintro k D σ H ⟨g, x8, x9, x11, rfl, j⟩ kk
  have few := j.mc.wrl.few
  have n8 := j.mc.wrl.n8
  have lc : (cls g.c g.L g.s).length ≤ g.L.length := inC_len
  have oi : OkD 0 1921 (.int ((cls g.c g.L g.s).length : Nat)) := okD_small (by omega)
  have same : ∀ {c : Int → Int}, Cls1 (LtB g.ts.length) g.ts (natsOf g.rs) g.L c → cls c g.L g.s = cls g.c g.L g.s := fun h => inC_eq (h.eq j.cl) j.mc.sL
  refine ⟨_, rfl, _, rfl, _, rfl, g.m, g.cc, g.n, g.ts, g.s, g.rs, g.es, g.L, rfl, j.mac, j.cn, j.lr, j.mc, fun c H1 e1 cl => ?_⟩
  rw [same cl]
  have j1 := j.same e1
  refine ⟨_, _, rfl, .int _, oi.sh, oi.nd, oi.d60, oi.line, ?_⟩
  obtain ⟨q, l0, d1, d2, d3⟩ := j1.due0
  refine ⟨_, rfl, g.du, _, _, _, rfl, rfl, j1.du, atI_nat d1, q, _, rfl, .inr d2, ?_⟩
  rw [List.length_map, d3]
  refine ⟨_, _, rfl, .int _, oi.sh, oi.nd, oi.d60, oi.line, ?_⟩
  refine ⟨rfl, _, rfl, iteF_ (by simp) ?_⟩
  refine ⟨_, rfl, _, rfl, _, rfl, rfl, rfl, g.m, g.cc, g.n, g.ts, g.s, g.rs, g.es, g.L, rfl, j1.mac, j1.cn, j.lr, j.mc, fun c H2 e2 cl => ?_⟩
  rw [same cl]
  have j2 := j1.same e2
  obtain ⟨q, l0, d1, d2, d3⟩ := j2.due0
  refine ⟨_, rfl, g.du, _, _, _, rfl, rfl, j2.du, atI_nat d1, q, _, rfl, .inr d2, ?_⟩
  rw [List.length_map, d3]
  exact ⟨rfl, _, rfl, iteF_ (by simp) (kk _ _ ⟨g, x8, x9, x11, rfl, j2⟩)⟩
theorem q14 : HT (ι := Nat) (XL P w K mg base f cc A outer st H0 E) (nthS lawS 14) (W11 K C CM H0 sc) (W11 K C CM H0 sc) := by
  obtain ⟨T, TC, TM, M, F, lone, hr, hs, hl⟩ := Z
  refine ⟨_, (ps_if (pt_cmpR (op_neDK (K := K) (r64 hr)) (pe_lc (own := [("lot", 14)]) (by rfl) sclaw.nd (pi_tup (pv 10)) (blkOk_by (own := [("lot", 14)]) (N := ["script", "k", "box", "tables", "first", "machine", "deeds", "rounds", "pairs", "deed", "due", "kept", "counters", "pair", "lot"]) (sc := defScope s_law) (by decide +kernel)) (fun _ _ _ _ _ => (pg_name (i := 14) sclaw.nd rfl (by first | exact Or.inl rfl | exact Or.inr rfl))) (fun _ _ _ _ _ => (pts_one (pt_cmpR op_ne (pe_callB (call_lenK (K := K)) (by rfl) T.z_len PySem.boot_len (pa_cons (pv 14) pa_nil)) (pe_callB (call_lenK (K := K)) (by rfl) T.z_len PySem.boot_len (pa_cons (pe_ix (ix_tupK (K := K)) (pv 10) pe_int (fun _ _ => rfl)) pa_nil)) (nomark _)))) (fun _ _ _ _ _ => (pv 14))) (pe_lst pa_nil) (nomark _))
  (pss_one (ps_ret pe_bl))
  pss_nil), ?_⟩
  rintro k D σ H ⟨g, x8, x9, x11, rfl, j⟩ kk
  refine ⟨_, rfl, g.du, rfl, ⟨_, j.du⟩, fun D0 hD => ?_⟩
  refine lc_tup (xs := g.qs) (fun i H' => Same H H' ∧ H' D0 = some (.lst [])) ⟨same_new hD, upd_same⟩ (fun i H' _ z => sqT_same z.1 j.du) ?_ ?_
  · rintro i v H1 hv ⟨e1, h1⟩
    have j1 := j.same e1
    obtain ⟨q, l, rfl, d2, d3⟩ := j1.each hv
    obtain ⟨q0, l0, d4, d5, d6⟩ := j1.due0
    refine ⟨rfl, ?_⟩
    refine ⟨_, rfl, q, _, rfl, .inr d2, _, rfl, g.du, _, _, _, rfl, rfl, j1.du, atI_nat d4, q0, _, rfl, .inr d5, ?_⟩
    rw [List.length_map, List.length_map, d3, d6]
    exact ⟨rfl, _, rfl, iteF_ (by simp) ⟨e1, h1⟩⟩
  · rintro H1 ⟨e1, h1⟩
    refine ⟨(by show 0 ≤ sizeLine; decide), fun l hl1 => ?_⟩
    have e2 := same_new (o := HO.lst []) hl1
    have u2 : upd H1 l (HO.lst []) l = some (.lst []) := upd_same
    refine ⟨.list [], .list [], .lst (SqL.of (e2 _ _ h1)) .nil, .lst (SqL.of u2) .nil, by decide +kernel, by decide +kernel, _, rfl, iteF_ (by decide +kernel) ?_⟩
    exact kk _ _ ⟨g, x8, x9, x11, rfl, j.same (e1.trans e2)⟩
theorem q15 : HT (ι := Nat) (XL P w K mg base f cc A outer st H0 E) (nthS lawS 15) (W11 K C CM H0 sc) (W15 K CM H0 sc) := by
  obtain ⟨T, TC, TM, M, F, lone, hr, hs, hl⟩ := Z
  refine ⟨_, (ps_set (i := 7) sclaw.nd rfl (by first | exact Or.inl rfl | exact Or.inr rfl) (pe_callC F.rounds hr pass0 (pa_cons (pv 2) (pa_cons (pv 6) (pa_cons pe_bl pa_nil))))), ?_⟩
  rintro k D σ H ⟨g, x8, x9, x11, rfl, j⟩ kk
  obtain ⟨t, hb⟩ := j.box
  refine ⟨_, rfl, _, rfl, g.b, t, g.ts.length, false, rfl, hb, j.ok.l4, fun l rs H1 m1 nl lb hl1 lrs ars => ?_⟩
  have j1 := j.toJ3.mv m1
  let g' : Gl := { g with rd := l, rs := rs }
  have jj : J3 K CM H0 g' H1 := { j1 with }
  exact kk _ _ ⟨g', _, _, _, _, _, rfl, { jj with rd := hl1, rb := lb, lr := lrs, r12 := fun r hr => ⟨(ars r hr).1, (ars r hr).2.1⟩ }, j.mc, fun r hr => by have := (ars r hr).2.2 rfl; omega⟩
theorem q16 : HT (ι := Nat) (XL P w K mg base f cc A outer st H0 E) (nthS lawS 16) (W15 K CM H0 sc) (fun k σ H => ∃ x2 x3 x4 x5 x6 x7 x8 x9 x10 x11 x12, σ = sgL sc k x2 x3 x4 x5 x6 x7 x8 x9 x10 x11 x12 ∧ Same H0 H) := by
  obtain ⟨T, TC, TM, M, F, lone, hr, hs, hl⟩ := Z
  have nil := M.nil
  refine ⟨_, (ps_if (pt_not (pt_val (pe_callG F.walk hr lone pass0 (pa_cons (pv 3) (pa_cons (pv 4) (pa_cons (pv 7) (pa_cons (pe_callC F.lots hr pzN (pa_cons (pv 5) (pa_cons (pv 4) (pa_cons (pe_cnt1 (K := K) M TC hr pzN (pa_cons (pv 7) pa_nil)) pa_nil)))) pa_nil)))))))
  (pss_one (ps_ret pe_bl))
  pss_nil), ?_⟩
  rintro k D σ H ⟨g, x8, x9, x10, x11, x12, rfl, j, mc, pos⟩ kk
  have l1 := j.ok.l1
  have l4 := j.ok.l4
  have zr : ∀ e ∈ List.replicate g.rs.length (0 : Int), 0 ≤ e ∧ e ≤ 6 := fun e he => by rw [(List.mem_replicate.mp he).2]; decide
  have ok : Cok g.rs (List.replicate g.rs.length 0) := ⟨by rw [j.lr]; exact l1, by rw [j.lr]; exact l4, List.length_replicate, fun r hr => by have := j.r12 r hr; omega, zr⟩
  refine ⟨_, rfl, _, rfl, _, rfl, _, rfl, _, rfl, _, rfl, fun x dx hx hdx ne => make_good ok (.seq (.inl (SqL.of j.rd))) (.inl ⟨.seq (.inr (nil _)), rfl⟩) hx hdx ne fun H1 e1 cn => ?_⟩
  have j1 := j.same e1
  refine ⟨g.m, x, g.n, g.ts, g.s, g.rs, List.replicate g.rs.length 0, g.L, rfl, j1.mac, cn, j.lr, mc, fun l H2 qs c e2 hl2 rows cl => ?_⟩
  have j2 := j1.same e2
  refine ⟨g.tt, g.rd, l, g.ps, qs, g.n, g.ts, g.s, g.rs, g.L, c, rfl, j2.tt, j2.rows, SqL.of j2.rd, j.lr, pos, mc, hl2, rows, cl, fun H3 e3 => ?_⟩
  exact ⟨true, rfl, iteF (kk _ _ ⟨_, _, _, _, _, _, _, _, _, _, _, rfl, j2.old.trans e3⟩)⟩
end
end K7
/-! the law -/
namespace K7
open L2 PySem PySem.Spec PyProof.Rows Kx RZ
theorem pe_callC0 {X : Cx} {CX : CXT} {k j : Nat} {x : Str} {sp : Sp} {E : XK} {p pos : Pos} (c : Cal X.prog X.w X.K X.mg X.base CX k x [] sp) (hr : Room j X.A) (hx : Passes CX X E) (hk : k ≤ j := by decide) (hg : L2.Gl X x := by rfl) (hdb : (x == ("__debug__" : Str)) = false := by decide) : PE X (.Call (.Name x p) [] [] pos) (tCall sp [] E tNil) := by
  obtain ⟨f, fd, h1, h2, h3, h4⟩ := c.ex
  exact pe_call0 h4 (hr.mono hk) hg h1 h2 h3 .nil hx hdb
def spLaw (K : PySem.W.Frag) : Sp := fun vs H Q _ => ∃ (a : Addr) (ns : List Int), vs = [.ref a] ∧ SqL K H a (ns.map V.int) ∧ ns.length ≤ 63 ∧ ∀ H', Q (.bl true) H'
section
variable {P : Program} {w : World} {K : PySem.W.Frag} {mg : Str → Option Value} {base : Heap} {f cc : Addr} {fd : FuncData} {a : Ad} {C CM t0 : Addr}
theorem ok_law (F : FnP K "law" s_law f fd) (hcode : fd.code = .ref cc) (T : Mg mg) (TC : ClsC K mg C) (TM : ClsM K mg CM) (M : Mks P w K mg base a C CM t0) (B : FnL P w K mg base a C CM) : FnG P w K mg base CX0 14 f fd ["script"] (spLaw K) := by
  refine okGc F hcode sclaw (fun vs H Q E h => ?_) (fun A0 o0 st H vs Q E0 lone hr h => ?_)
  · obtain ⟨a, ns, rfl, _⟩ := h
    rfl
  · obtain ⟨sc, scn, rfl, hs, hl, k⟩ := h
    have Z : Lz P w K mg base f cc A0 o0 st H a C CM t0 sc scn := ⟨T, TC, TM, M, B, lone, hr, hs, hl⟩
    obtain ⟨tb, ab, cb⟩ := HTs.cons (q0 (E := E0) Z) (.cons (q1 Z) (.cons (q2 Z) (.cons (q3 Z) (.cons (q4 Z) (.cons (q5 Z) (.cons (q6 Z) (.cons (q7 Z) (.cons (q8 Z) (.cons (q9 Z) (.cons (q10 Z) (.cons (q11 Z) (.cons (q12 Z) (.cons (q13 Z) (.cons (q14 Z) (.cons (q15 Z) (.one (q16 Z)))))))))))))))))
    refine ⟨_, PSs.nox (pss_cons (ps_for PassesOwn.never rfl (pi_range1 (by rfl) T.z_range (pa_cons pe_int pa_nil)) (pg_name (i := 1) sclaw.nd rfl (by first | exact Or.inl rfl | exact Or.inr rfl)) ab) (pss_one (ps_ret (pe_callC0 B.apart hr pass0)))), ?_⟩
    refine ⟨3, rfl, by decide, by decide, for_range (lo := 0) (n := 3) (fun i σ' H' => ∃ x1 x2 x3 x4 x5 x6 x7 x8 x9 x10 x11 x12, σ' = [some (.ref sc), x1, x2, x3, x4, x5, x6, x7, x8, x9, x10, x11, x12, none, none] ∧ Same H H') ⟨_, _, _, _, _, _, _, _, _, _, _, _, rfl, Same.refl _⟩ ?_ ?_⟩
    · rintro i σ' H2 hi ⟨x1, x2, x3, x4, x5, x6, x7, x8, x9, x10, x11, x12, rfl, e⟩
      rw [show (0 : Int) + (i : Int) = (i : Int) from Int.zero_add _]
      refine cb i _ _ _ ⟨x2, x3, x4, x5, x6, x7, x8, x9, x10, x11, x12, rfl, e⟩ ?_
      rintro σ2 H3 ⟨x2, x3, x4, x5, x6, x7, x8, x9, x10, x11, x12, rfl, e3⟩
      exact ⟨_, _, _, _, _, _, _, _, _, _, _, _, rfl, e3⟩
    · rintro σ' H2 ⟨x1, x2, x3, x4, x5, x6, x7, x8, x9, x10, x11, x12, rfl, e⟩
      exact ⟨rfl, fun H' _ => k H'⟩
end
end K7
/-! the top, run -/
namespace K7
open PySem PySem.Spec PyProof.Rows L2 Kx
/-! ### Bools that the head's Hook asks -/
/-- a class's line and slots -/
def tailB (C : Addr) (bm : List Value → Bool) (newId : String) (mro : List Value) (sl : List (Option Value)) : Bool := match mro, sl with
  | .ref C' :: r, [_, _, _, _, some (.builtin n), _] => decide (C' = C) && (decide (n = newId) && bm r)
  | _, _ => false
theorem tailB_ok {C : Addr} {bm : List Value → Bool} {newId : String} {mro : List Value} {sl : List (Option Value)} (h : tailB C bm newId mro sl = true) :
    ∃ r a0 a1 a2 a3 a5, mro = .ref C :: r ∧ sl = [a0, a1, a2, a3, some (.builtin newId), a5] ∧ bm r = true := by
  unfold tailB at h
  split at h
  · obtain ⟨h4, h⟩ := He.ba h
    obtain ⟨h5, h6⟩ := He.ba h
    have h4 := of_decide_eq_true h4
    have h5 := of_decide_eq_true h5
    exact ⟨_, _, _, _, _, _, by rw [h4], by rw [h5], h6⟩
  · cases h
/-- the class at C as the text makes it: an own dict, no __del__, behind it the classes bm -/
def shapeB (K : PySem.W.Frag) (C : Addr) (bm : List Value → Bool) (newId : String) : Bool := match K.lookup C with
  | some ⟨.type c, _, .cls cd, sl⟩ => decide (c = "type") && (cd.hasDict && (!cd.hasDel && tailB C bm newId cd.mro sl.toList))
  | _ => false
theorem shapeB_ok {K : PySem.W.Frag} {C : Addr} {bm : List Value → Bool} {newId : String} (h : shapeB K C bm newId = true) :
    ∃ nm q N bs r sn sub ab col dd k0 k1 k2 k3 k5, K.lookup C = some (excClassObj nm q C N bs r true sn sub ab col dd k0 k1 k2 k3 k5 newId) ∧ bm r = true := by
  unfold shapeB at h
  cases e : K.lookup C with
  | none =>
    rw [e] at h
    cases h
  | some o =>
    obtain ⟨oc, od, dt, sl⟩ := o
    rw [e] at h
    cases oc with
    | type c =>
      cases dt with
      | cls cd =>
        obtain ⟨nm, bs, mro, N, q, hdct, sn, sub, ab, col, del⟩ := cd
        have h : (decide (c = "type") && (hdct && (!del && tailB C bm newId mro sl.toList))) = true := h
        obtain ⟨h1, h⟩ := He.ba h
        obtain ⟨h2, h⟩ := He.ba h
        obtain ⟨h3, h⟩ := He.ba h
        obtain ⟨r, a0, a1, a2, a3, a5, h4, h5, h6⟩ := tailB_ok h
        have k1 := of_decide_eq_true h1
        have k3 : del = false := by
          cases del with
          | false => rfl
          | true => cases h3
        have es : sl = #[a0, a1, a2, a3, some (.builtin newId), a5] := by
          have := congrArg List.toArray h5
          simpa using this
        refine ⟨nm, q, N, bs, r, sn, sub, ab, col, od, a0, a1, a2, a3, a5, ?_, h6⟩
        rw [k1, h2, k3, h4, es]
      | _ => cases h
    | _ => cases dt <;> cases h
/-- an own error over an own base over ValueError, of the field f -/
def oexB (K : PySem.W.Frag) (C : Addr) : Bool := shapeB K C PySem.HandSPX.refsVE "ValueError.__new__" && (He.eqO (PySem.W.findIn K (.ref C) "__setattr__") (some (some (.builtin "object.__setattr__"))) && (decide (PySem.W.subIn K (.ref C) (.type "BaseException") = some true) && (decide (PySem.W.typeIn K (.ref C) = some (.type "type")) && PySem.W.keepIn K (.ref C))))
theorem oexB_ok {K : PySem.W.Frag} {C : Addr} (h : oexB K C = true) : OexC K C := by
  obtain ⟨h1, h⟩ := He.ba h
  obtain ⟨h2, h⟩ := He.ba h
  obtain ⟨h3, h⟩ := He.ba h
  obtain ⟨h4, h5⟩ := He.ba h
  exact ⟨shapeB_ok h1, He.eqO_ok h2, of_decide_eq_true h3, of_decide_eq_true h4, h5⟩
def keyB (K : PySem.W.Frag) (C : Addr) : Bool := shapeB K C (fun r => decide (r = keyTail)) "LookupError.__new__" && (He.eqO (PySem.W.findIn K (.ref C) "__setattr__") (some (some (.builtin "object.__setattr__"))) && (decide (PySem.W.subIn K (.ref C) (.type "BaseException") = some true) && (decide (PySem.W.typeIn K (.ref C) = some (.type "type")) && PySem.W.keepIn K (.ref C))))
theorem keyB_ok {K : PySem.W.Frag} {C : Addr} (h : keyB K C = true) : KeyC K C := by
  obtain ⟨h1, h⟩ := He.ba h
  obtain ⟨h2, h⟩ := He.ba h
  obtain ⟨h3, h⟩ := He.ba h
  obtain ⟨h4, h5⟩ := He.ba h
  obtain ⟨nm, q, N, bs, r, sn, sub, ab, col, dd, k0, k1, k2, k3, k5, e, er⟩ := shapeB_ok h1
  have er := of_decide_eq_true er
  subst er
  exact ⟨⟨nm, q, N, bs, sn, sub, ab, col, dd, k0, k1, k2, k3, k5, e⟩, He.eqO_ok h2, of_decide_eq_true h3, of_decide_eq_true h4, h5⟩
def excB (K : PySem.W.Frag) (D : Addr) : Bool := He.eqO (PySem.W.findIn K (.ref D) "__getattribute__") (some (some (.builtin "BaseException.__getattribute__"))) && (He.eqO (PySem.W.findIn K (.ref D) "__getattr__") (some none) && (decide (PySem.W.subIn K (.ref D) (.type "BaseException") = some true) && (PySem.W.hasDictIn K D &&
  (He.eqO (PySem.W.findIn K (.ref D) "__class__") (some (some (.builtin "object.__class__"))) && (He.eqO (PySem.W.specialIn K (.builtin "object.__class__") "__get__") (some (some (.builtin "getset_descriptor.__get__"))) && (decide (PySem.W.takesIn K (.builtin "object.__class__") = some true) && decide (PySem.W.mroIn K D (.type "object") = some true)))))))
theorem excB_ok {K : PySem.W.Frag} {D : Addr} (h : excB K D = true) : ExcC K D := by
  obtain ⟨h1, h⟩ := He.ba h
  obtain ⟨h2, h⟩ := He.ba h
  obtain ⟨h3, h⟩ := He.ba h
  obtain ⟨h4, h⟩ := He.ba h
  obtain ⟨h5, h⟩ := He.ba h
  obtain ⟨h6, h⟩ := He.ba h
  obtain ⟨h7, h8⟩ := He.ba h
  exact ⟨He.eqO_ok h1, He.eqO_ok h2, of_decide_eq_true h3, h4, He.eqO_ok h5, He.eqO_ok h6, of_decide_eq_true h7, of_decide_eq_true h8⟩
theorem excB_xf {K : PySem.W.Frag} {D : Addr} (h : excB K D = true) : XfC K D := by
  have e := excB_ok h
  exact ⟨e.hg, e.hk, e.hs, e.hd⟩
end K7
/-! the end of a law that holds where nothing that guards itself runs around -/
namespace Kx
open L2 PySem PySem.Spec PyProof.Rows
/-- what is followed at the start: the tables, the script where the written part does not hold it -/
def startH (K : PySem.W.Frag) (a : Addr) (vs : List Value) (ns : List Int) (tabs : List Addr) : Hp := fun b =>
  if b ∈ tabs then some (.tbl #[]) else if b = a ∧ K.lookup a = .none then some (.frz { cls := .type "list", data := .seq vs.toArray } (.lst (ns.map V.int))) else .none
section
variable {P : Program} {w : World} {K : PySem.W.Frag} {mg mb : Str → Option Value} {k : Nat} {fa a : Addr} {cs : List (Addr × Addr)} {fd : FuncData} {x : Str} {sp : Sp} {s : Shared} {vs : List Value} {ns : List Int}
theorem lone_end (X : K.In s.heap) (G : s.heap.Ns mainGlobals mg) (Bn : s.heap.Ns builtinsNs mb) (Bi : ∀ y : Str, y ≠ "__name__" → mb y = bootBuiltins y) (lim : s.heap.NoLimit) (gens : s.gens = #[])
    (tE : ∀ p ∈ cs, s.heap.get? p.2 = some { cls := .none, data := .fields #[] }) (tN : ∀ p ∈ cs, K.lookup p.2 = .none) (tC : ∀ p ∈ cs, PySem.W.CodeHd s.heap p.1 p.2)
    (bmod : ∃ (bm : Addr) (ob : Obj), mg "__builtins__" = some (.ref bm) ∧ bm ≠ builtinsNs ∧ s.heap.get? bm = some ob ∧ ob.cls = .type "module" ∧ ob.dict = some builtinsNs ∧ ob.data = .plain)
    (at_ : s.heap.get? a = some { cls := .type "list", data := .seq vs.toArray }) (isI : IntsAre vs ns) (short : ns.length ≤ sizeLine) (room : Room k callerA)
    (F : ∀ base : Heap, K.In base → base.Ns mainGlobals mg → (∀ p ∈ cs, LamX.TabB base mg p.1 p.2) → FnG P w K mg base CX0 k fa fd [x] sp) (bind : ∀ (s' : Shared) (u : Value), BindsTo s' fd ⟨[u], []⟩ [(x, u)])
    (give : ∀ H : Hp, (∀ p ∈ cs, H p.2 = some (.tbl #[])) → SqL K H a (ns.map V.int) → sp [.ref a] H (fun v _ => v = .bl true) fun _ _ _ => False) :
    codeAny (model P w) callerA (.call (.ref fa) ⟨[.ref a], []⟩) (fun r s' => r = .ok (.ret (.bool true)) ∧ OldK s.heap s'.heap ∧ s'.os = s.os ∧ AllBare s'.gens) s := by
  have rel := vals_ints isI
  have len := isI.length
  have tabIs : ∀ b ∈ cs.map (·.2), s.heap.get? b = some { cls := .none, data := .fields #[] } ∧ K.lookup b = .none := fun b hb => by
    obtain ⟨p, hp, rfl⟩ := List.mem_map.mp hb
    exact ⟨tE p hp, tN p hp⟩
  have apart : a ∉ cs.map (·.2) := fun z => by
    have q := (tabIs a z).1
    rw [at_] at q
    injection q with q
    injection q with _ _ q
    cases q
  let H := startH K a vs ns (cs.map (·.2))
  have hT : ∀ b ∈ cs.map (·.2), H b = some (.tbl #[]) := fun b hb => if_pos hb
  have hTs : ∀ p ∈ cs, H p.2 = some (.tbl #[]) := fun p hp => hT _ (List.mem_map_of_mem hp)
  -- what H follows: a table, the script
  have cases_ : ∀ b, (b ∈ cs.map (·.2) ∧ H b = some (.tbl #[])) ∨ (b = a ∧ K.lookup a = .none ∧ H b = some (.frz { cls := .type "list", data := .seq vs.toArray } (.lst (ns.map V.int)))) ∨ H b = .none := fun b => by
    by_cases h1 : b ∈ cs.map (·.2)
    · exact .inl ⟨h1, hT b h1⟩
    · by_cases h2 : b = a ∧ K.lookup a = .none
      · exact .inr (.inl ⟨h2.1, h2.2, (if_neg h1).trans (if_pos h2)⟩)
      · exact .inr (.inr ((if_neg h1).trans (if_neg h2)))
  have known : ∀ {b : Addr} {o : Obj}, K.lookup b = some o → H b = .none := fun {b o} e => by
    rcases cases_ b with ⟨h, _⟩ | ⟨rfl, h, _⟩ | h
    · rw [(tabIs b h).2] at e
      cases e
    · rw [h] at e
      cases e
    · exact h
  have other : ∀ {b : Addr} {o : Obj}, s.heap.get? b = some o → (∀ us n, o.data ≠ .seq us n) → o.data ≠ .fields #[] → H b = .none := fun {b o} e h1 h2 => by
    rcases cases_ b with ⟨h, _⟩ | ⟨rfl, _, _⟩ | h
    · rw [(tabIs b h).1] at e
      cases e
      exact absurd rfl h2
    · rw [at_] at e
      cases e
      exact absurd rfl (h1 _ _)
    · exact h
  have ns_ : ∀ {b : Addr} {m : Str → Option Value}, s.heap.Ns b m → (hidT s.heap H).Ns b m := fun {b m} ⟨o, es, ep, e, d, r⟩ =>
    ⟨o, es, ep, hidT_get e (other e (fun us n z => by rw [d] at z; cases z) fun z => by rw [d] at z; cases z), d, r⟩
  have Xb : K.In (hidT s.heap H) := fun b o e => hidT_get (X b o e) (known e)
  have holds : HOk P w H s.heap := fun b u z => by
    rcases cases_ b with ⟨h, e⟩ | ⟨rfl, _, e⟩ | e
    · obtain rfl : u = .tbl #[] := Option.some.inj (z.symm.trans e)
      exact (tabIs b h).1
    · obtain rfl := Option.some.inj (z.symm.trans e)
      exact ⟨at_, by rw [List.length_map]; exact short, vs, _, rel, at_⟩
    · rw [e] at z
      cases z
  have script : SqL K H a (ns.map V.int) := by
    cases q : K.lookup a with
    | none =>
      refine .inl (.inr ⟨{ cls := .type "list", data := .seq vs.toArray }, ?_⟩)
      exact (if_neg apart).trans (if_pos ⟨rfl, q⟩)
    | some o =>
      have e := X a o q
      rw [at_] at e
      cases e
      exact .inr ⟨_, vs.toArray, _, q, rfl, rfl, rfl, by rw [List.size_toArray, len]; exact short, by simpa using rel⟩
  have tabs : ∀ p ∈ cs, LamX.TabB (hidT s.heap H) mg p.1 p.2 := fun p hp => by
    refine ⟨?_, ?_, fun z => ?_⟩
    · obtain ⟨o, us, file, tf, flags, tg, inF, text, tt, e, c1, c2, c3, more⟩ := tC p hp
      refine ⟨o, us, file, tf, flags, tg, inF, text, tt, hidT_get e (other e (fun vs n z => by rw [c2] at z; cases z) fun z => ?_), c1, c2, c3, more⟩
      rw [c2] at z
      cases z
      simp at c3
    · obtain ⟨bm, ob, b1, b2, b3, b4, b5, b6⟩ := bmod
      have b7 : H bm = .none := other b3 (fun us n z => by rw [b6] at z; cases z) fun z => by rw [b6] at z; cases z
      refine ⟨bm, ob, b1, b2, fun q => ?_, fun q => ?_, hidT_get b3 b7, b4, b5, b6⟩
      · obtain ⟨o, es, ep, e, d, _⟩ := G
        rw [← q, b3] at e
        cases e
        rw [b6] at d
        cases d
      · rw [q, hTs p hp] at b7
        cases b7
    · obtain ⟨o, es, ep, e, d, _⟩ := G
      rw [z, tE p hp] at e
      cases e
      cases d
  have env : Env0 P w K mg (hidT s.heap H) callerA [] s H :=
    { frames := rfl
      mod := ⟨Xb, ns_ G, ⟨mb, ns_ Bn, Bi⟩, let ⟨mc, h1, h2⟩ := lim; ⟨mc, ns_ h1, h2⟩⟩
      bs := fun b o e => of_hidT e
      bsz := Nat.le_of_eq (hidT_size _ _)
      funs := trivial
      frf := fun b hb => absurd (show b ∈ ([] : List Addr) from hb) (by simp)
      hok := holds
      bare := .of_eq gens }
  refine codeAny_mono ((F _ Xb (ns_ G) tabs).run callerA [] s H ⟨[.ref a], []⟩ [.ref a] [.ref a] _ _ room rfl env (bind s (.ref a)) (.cons rfl .nil) (give H hTs script)) fun r s' z => ?_
  match r, z with
  | .error e, z => exact z.elim
  | .ok .next, z => exact z.elim
  | .ok .brk, z => exact z.elim
  | .ok .cont, z => exact z.elim
  | .ok (.ret u), z =>
    obtain ⟨v, H', os, bare, un, ok', r', ev⟩ := z
    subst ev
    obtain rfl : u = .bool true := r'
    have stay : ∀ b o, b ∉ cs.map (·.2) → s.heap.get? b = some o → s'.heap.get? b = some o := fun b o nb e => by
      rcases cases_ b with ⟨h, _⟩ | ⟨_, _, q⟩ | q
      · exact absurd h nb
      · have old := (holds b _ q).1
        rw [e] at old
        cases old
        exact (ok' b _ (un.frzs b _ _ q)).1
      · exact un.keep b o e q (fun m => absurd (show b ∈ ([] : List Addr) from m) (by simp)) (by simp)
    have grown : ∀ b ∈ cs.map (·.2), ∃ more : Array Value, s'.heap.get? b = some { cls := .none, data := .fields more } := fun b hb => by
      obtain ⟨more, q⟩ := un.tbls b #[] (hT b hb)
      exact ⟨_, ok' b _ q⟩
    refine ⟨rfl, ⟨fun b o eb => ?_, fun b o eb => ?_⟩, os, bare⟩
    · by_cases mb : b ∈ cs.map (·.2)
      · rcases List.mem_map.mp mb with ⟨p, hp, rfl⟩
        obtain ⟨more, hm⟩ := grown _ mb
        rw [tE p hp] at eb
        cases eb
        exact .inr (.inl ⟨((tC p hp).tab (tE p hp)).isCodeTable, rfl, #[], more, rfl, by rw [Array.empty_append]; exact hm⟩)
      · exact .inl (stay b o mb eb)
    · by_cases mb : b ∈ cs.map (·.2)
      · obtain ⟨more, hm⟩ := grown b mb
        exact ⟨_, hm⟩
      · exact ⟨o, stay b o mb eb⟩
end
/-- the law's def, told over the head's heap -/
theorem lone_walk {l : PySem.W.OpenLaw} {n k : Nat} {q : Program} {loose : List Str} {XP : (Str → Option Value) → Heap → Prop} {YP : World → Heap → Prop} {d : DefRec} {x : Str} (most : l.most = some n) (short : n ≤ sizeLine) (plain : d.params.defaults = []) (room : Room k callerA)
    (F : ∀ (w : World) (mg : Str → Option Value) (fa : Addr) (h : Heap), YP w h → h.Ns mainGlobals mg → mg d.name = some (.ref fa) → ∃ (K : PySem.W.Frag) (fd : FuncData) (cs : List (Addr × Addr)) (sp : Sp), K.In h ∧
      (∀ p ∈ cs, h.get? p.2 = some { cls := .none, data := .fields #[] }) ∧ (∀ p ∈ cs, K.lookup p.2 = none) ∧ (∀ p ∈ cs, PySem.W.CodeHd h p.1 p.2) ∧ (∀ (s : Shared) (u : Value), BindsTo s fd ⟨[u], []⟩ [(x, u)]) ∧
      (∀ (H : Hp) (a : Addr) (ns : List Int), ns.length ≤ n → (∀ p ∈ cs, H p.2 = some (.tbl #[])) → SqL K H a (ns.map V.int) → sp [.ref a] H (fun v _ => v = .bl true) fun _ _ _ => False) ∧
      ∀ base : Heap, K.In base → base.Ns mainGlobals mg → (∀ p ∈ cs, LamX.TabB base mg p.1 p.2) → FnG l.prog w K mg base CX0 k fa fd [x] sp) : PySem.W.WalkO q loose XP YP l.row.toRowW d [] (fun f vs => PySem.call f vs) := by
  refine Att.attach_callB most plain fun w s₀ s₁ mg mb fa o pm cd doc a vs ns G Y _ _ _ hmg hobj hints hlen _ hg => ?_
  obtain ⟨K, fd, cs, sp, X, tE, tN, tC, hb, give, hF⟩ := F w mg fa _ Y G.T.g hmg
  exact lone_end X G.T.g G.T.b G.T.builtins G.T.nolimit hg tE tN tC G.T.bmain hobj hints (Nat.le_trans hlen short) room hF hb fun H hH hS => give H a ns hlen hH hS
end Kx
/-! what the head tells -/
namespace K7
open PySem PySem.Spec PyProof.Rows L2 Kx RZ
def iniB (K : PySem.W.Frag) (C : Addr) : Bool := He.eqO (PySem.W.findIn K (.ref C) "__init__") (some (some (.ref (He.ma K C "__init__")))) && decide (PySem.W.typeIn K (.ref (He.ma K C "__init__")) = some (.type "function"))
theorem iniB_ok {K : PySem.W.Frag} {C : Addr} (h : iniB K C = true) : PySem.W.findIn K (.ref C) "__init__" = some (some (.ref (He.ma K C "__init__"))) ∧ PySem.W.typeIn K (.ref (He.ma K C "__init__")) = some (.type "function") := by
  obtain ⟨h1, h2⟩ := He.ba h
  exact ⟨He.eqO_ok h1, of_decide_eq_true h2⟩
def isiB (K : PySem.W.Frag) (C : Addr) : Bool := He.eqO (PySem.W.findIn K (.ref C) "__class__") (some (some (.builtin "object.__class__"))) && (He.eqO (PySem.W.specialIn K (.builtin "object.__class__") "__get__") (some (some (.builtin "getset_descriptor.__get__"))) &&
  (decide (PySem.W.takesIn K (.builtin "object.__class__") = some true) && decide (PySem.W.mroIn K C (.type "object") = some true)))
theorem isiB_ok {K : PySem.W.Frag} {C : Addr} (h : isiB K C = true) : SlX.SIsi K C := by
  obtain ⟨h1, h⟩ := He.ba h
  obtain ⟨h2, h⟩ := He.ba h
  obtain ⟨h3, h4⟩ := He.ba h
  exact ⟨He.eqO_ok h1, He.eqO_ok h2, of_decide_eq_true h3, of_decide_eq_true h4⟩
def kitB (K : PySem.W.Frag) (t c : Value) (b : Bool) : Bool := decide (PySem.W.kitOne K t c = some b)
theorem kitB_ok {K : PySem.W.Frag} {t c : Value} {b : Bool} (h : kitB K t c b = true) : PySem.W.kitOne K t c = some b := of_decide_eq_true h
/-- the class's own names -/
def nsOf (K : PySem.W.Frag) (C : Addr) : Addr := match K.lookup C with
  | some ⟨_, _, .cls cd, _⟩ => cd.ns
  | _ => 0
def strE (e : DictEntry) : Bool := match e.key with
  | .str _ _ => true
  | _ => false
def nsB (K : PySem.W.Frag) (N f : Addr) : Bool := match K.lookup N with
  | some ⟨_, _, .dict es _, _⟩ => es.toList.all strE && (decide (nsFind es "__eq__" = some (.ref f)) && decide (nsFind es "__ne__" = none))
  | _ => false
theorem nsB_ok {K : PySem.W.Frag} {N f : Addr} (h : nsB K N f = true) : ∃ (oN : Obj) (es : Array DictEntry) (ep : Nat), K.lookup N = some oN ∧ oN.data = .dict es ep ∧ StrKeys es ∧ nsFind es "__eq__" = some (.ref f) ∧ nsFind es "__ne__" = none := by
  unfold nsB at h
  split at h
  · rename_i oc od es ep sl e
    obtain ⟨h1, h⟩ := He.ba h
    obtain ⟨h2, h3⟩ := He.ba h
    refine ⟨_, es, ep, e, rfl, fun z hz => ?_, of_decide_eq_true h2, of_decide_eq_true h3⟩
    have := List.all_eq_true.mp h1 z (by simpa using hz)
    unfold strE at this
    split at this
    · rename_i n t q
      exact ⟨n, t, q⟩
    · cases this
  · cases h
def eqB (K : PySem.W.Frag) (C f : Addr) : Bool := He.eqO (PySem.W.findIn K (.ref C) "__eq__") (some (some (.ref f))) && (PySem.W.isFn K (.ref f) && (shapeB K C (fun r => decide (r = [.type "object"])) "object.__new__" && (nsB K (nsOf K C) f &&
  (match K.lookup f with
  | some ⟨.type c, _, _, _⟩ => decide (c = "function")
  | _ => false))))
theorem eqB_ok {K : PySem.W.Frag} {C f : Addr} (h : eqB K C f = true) : EqC K C f := by
  obtain ⟨h1, h⟩ := He.ba h
  obtain ⟨h2, h⟩ := He.ba h
  obtain ⟨h3, h⟩ := He.ba h
  obtain ⟨h4, h5⟩ := He.ba h
  obtain ⟨nm, q, N, bs, r, sn, sub, ab, col, dd, k0, k1, k2, k3, k5, e, er⟩ := shapeB_ok h3
  have er := of_decide_eq_true er
  subst er
  have eN : nsOf K C = N := by
    unfold nsOf
    rw [e]
  rw [eN] at h4
  obtain ⟨oN, es, ep, n1, n2, n3, n4, n5⟩ := nsB_ok h4
  have hf : ∃ oF, K.lookup f = some oF ∧ oF.cls = .type "function" := by
    split at h5
    · rename_i c od dt sl e
      exact ⟨_, e, congrArg Value.type (of_decide_eq_true h5)⟩
    · cases h5
  obtain ⟨oF, f1, f2⟩ := hf
  exact ⟨He.eqO_ok h1, h2, nm, q, N, bs, true, sn, sub, ab, col, dd, k0, k1, k2, k3, k5, "object.__new__", oN, oF, es, ep, e, n1, n2, n3, n4, n5, f1, f2⟩
def nilB (K : PySem.W.Frag) (t : Addr) : Bool := match K.lookup t with
  | some ⟨.type c, _, .seq its _, _⟩ => decide (c = "tuple") && decide (its.size = 0)
  | _ => false
theorem nilB_ok {K : PySem.W.Frag} {t : Addr} (h : nilB K t = true) (H : Hp) : SqT K H t [] := by
  unfold nilB at h
  split at h
  · rename_i c od its n sl e
    obtain ⟨h1, h2⟩ := He.ba h
    have z : its = #[] := Array.eq_empty_of_size_eq_zero (of_decide_eq_true h2)
    subst z
    exact .inr ⟨_, #[], n, e, congrArg Value.type (of_decide_eq_true h1), rfl, Nat.zero_le _, .nil⟩
  · cases h
def adOf (K : PySem.W.Frag) : Ad := ⟨He.ga K "BadMachine", He.ga K "Refused", He.ga K "Forgets", He.ga K "NoState"⟩
/-! ### the names, the texts -/
abbrev dLaw : He.Defn := ("law", none)
abbrev dWalk : He.Defn := ("_law_walk_right", none)
def tZero (K : PySem.W.Frag) : Addr := He.dflAt ("Counters", some "__init__") 0 K
abbrev dF (x : Str) (st : Stmt) : He.DefD := ⟨(x, none), x, x, defArgs st, defBody st, defScope st, [], []⟩
abbrev dM (C m q : Str) (st : Stmt) (ds : List He.Dv) : He.DefD := ⟨(C, some m), m, q, defArgs st, defBody st, defScope st, ds, []⟩
def fn : List He.DefD := [
  dF "is_number" s_is_number,
  dF "is_below" s_is_below,
  dF "is_sequence" s_is_sequence,
  dF "first_not_below" s_first_not_below,
  dF "_are_rests" s_are_rests,
  dF "need_fit" s_need_fit,
  dF "_is_table" s_is_table,
  dF "need_state" s_need_state,
  dF "in_coming_order" s_in_coming_order,
  dF "reached" s_reached,
  dF "forgotten" s_forgotten,
  dF "need_exchanges" s_need_exchanges,
  dF "circle" s_circle,
  dF "deed_pairs" s_deed_pairs,
  dF "least_parting" s_least_parting,
  dF "_top" s_top,
  dF "_first_together" s_first_together,
  dF "_all_moved" s_all_moved,
  dF "settled" s_settled,
  dF "lots_of" s_lots_of,
  dF "fold_size" s_fold_size,
  dF "_law_box" s_law_box,
  dF "_law_take" s_law_take,
  dF "_law_pick" s_law_pick,
  dF "_law_mixed" s_law_mixed,
  dF "_law_exchange" s_law_exchange,
  dF "_law_tables" s_law_tables,
  dF "_law_come" s_law_come,
  dF "_law_parted" s_law_parted,
  dF "_law_pairs" s_law_pairs,
  dF "_law_shown" s_law_shown,
  dF "_law_opened" s_law_opened,
  dF "_law_rounds" s_law_rounds,
  dF "_law_walk_right" s_law_walk_right,
  dF "_law_apart_right" s_law_apart_right,
  dF "law" s_law,
  dM "BadMachine" "__init__" "BadMachine.__init__" s_BadMachine_init [],
  dM "Refused" "__init__" "Refused.__init__" s_Refused_init [],
  dM "Forgets" "__init__" "Forgets.__init__" s_Forgets_init [],
  dM "NoState" "__init__" "NoState.__init__" s_NoState_init [],
  dM "Counters" "__init__" "Counters.__init__" s_Counters_init [.adr tZero],
  dM "Machine" "__init__" "Machine.__init__" s_Machine_init []]
def fa : List He.Fa := [
  .glo "is_number", .glo "is_below", .glo "is_sequence", .glo "first_not_below", .glo "_are_rests", .glo "need_fit", .glo "_is_table", .glo "need_state",
  .glo "in_coming_order", .glo "reached", .glo "forgotten", .glo "need_exchanges", .glo "circle", .glo "deed_pairs", .glo "least_parting", .glo "_top",
  .glo "_first_together", .glo "_all_moved", .glo "settled", .glo "lots_of", .glo "fold_size", .glo "_law_box", .glo "_law_take", .glo "_law_pick",
  .glo "_law_mixed", .glo "_law_exchange", .glo "_law_tables", .glo "_law_come", .glo "_law_parted", .glo "_law_pairs", .glo "_law_shown", .glo "_law_opened",
  .glo "_law_rounds", .glo "_law_walk_right", .glo "_law_apart_right", .glo "law", .glo "WitnessError", .glo "BadMachine", .glo "Refused", .glo "Forgets",
  .glo "NoState", .glo "Counters", .glo "Machine", .free "KeyError", .free "ValueError", .free "abs", .free "bool", .free "enumerate",
  .free "int", .free "isinstance", .free "len", .free "list", .free "range", .free "repr", .free "set", .free "sorted",
  .free "tuple", .free "zip", .int "DEEDS_MOST" 4, .int "STATES_MOST" 8, .int "ROUND_MOST" 60, .int "REST_MOST" 6, .cls "Counters", .cls "Machine",
  .mkr "Counters", .mkr "Machine", .noat "Counters" "rounds", .noat "Counters" "rests", .noat "Machine" "deeds", .noat "Machine" "states", .noat "Machine" "tables", .noat "BadMachine" "at",
  .noat "Refused" "at", .noat "Forgets" "deed", .noat "Forgets" "one", .noat "Forgets" "other", .noat "NoState" "state"]
def tf : List He.Defn := []
def bools (K : PySem.W.Frag) : List Bool := [
  oexB K (He.ga K "BadMachine"),
  oexB K (He.ga K "Refused"),
  oexB K (He.ga K "Forgets"),
  keyB K (He.ga K "NoState"),
  iniB K (He.ga K "BadMachine"),
  iniB K (He.ga K "Refused"),
  iniB K (He.ga K "Forgets"),
  iniB K (He.ga K "NoState"),
  isiB K (He.ga K "Counters"),
  kitB K (.ref (He.ga K "Counters")) (.ref (He.ga K "Counters")) true,
  kitB K (.type "tuple") (.ref (He.ga K "Counters")) false,
  PySem.W.notFirst K (He.ga K "Counters") (.type "tuple"),
  isiB K (He.ga K "Machine"),
  kitB K (.ref (He.ga K "Machine")) (.ref (He.ga K "Machine")) true,
  kitB K (.type "tuple") (.ref (He.ga K "Machine")) false,
  PySem.W.notFirst K (He.ga K "Machine") (.type "tuple"),
  nilB K (tZero K)]
def ex (K : PySem.W.Frag) : Bool := (bools K).all id
theorem ex_at {K : PySem.W.Frag} (h : ex K = true) (i : Nat) {b : Bool} (e : (bools K)[i]? = some b) : b = true := List.all_eq_true.mp h b (List.mem_of_getElem? e)
/-! ### how arguments are bound -/
theorem vals_getD : ∀ {vs : List V} {us : List Value} (i : Nat), Vals vs us → RelV (vs.getD i .non) (us.getD i .none)
  | [], [], _, _ => rfl
  | _ :: _, _ :: _, 0, .cons h _ => h
  | _ :: _, _ :: _, i + 1, .cons _ h => by
    have := vals_getD i h
    simpa using this
section
variable {K : PySem.W.Frag} {x qual : Str} {params : Arguments} {body : List Stmt} {scope : Scope} {kws : List (Str × V)} {f : Addr} {fd : FuncData} {ps ks : List Str} {n : Nat}
theorem kbn_of {g : List Value → List Value → List Value} {gV : List V → List V → List V} (F : FunD K x qual params body scope [] kws f fd) (rel : ∀ {vs us zs ws}, Vals vs us → Vals zs ws → Vals (gV vs zs) (g us ws))
    (h : ∀ (kV doc pm : Value) (an : Option Addr) (cdv ct : Value) (us ws : List Value), us.length = n → ws.length = ks.length → bindArgs (PySem.W.fnOf x qual params body scope .none kV doc pm an cdv ct) ⟨us, ks.zip ws⟩ = pure (ps.zip (g us ws))) : KBn K fd ps n ks g gV := by
  obtain ⟨oc, od, dV, kV, doc, pm, an, cdv, ct, osl, rfl, lk, hcd, hD, -⟩ := F.ex
  rcases hD with ⟨-, rfl⟩ | ⟨e, -⟩
  · exact ⟨fun s us ws _ l1 l2 => .of_eq (h kV doc pm an cdv ct us ws l1 l2), rel⟩
  · exact absurd rfl e
/-- a def's code object -/
theorem code_of {p : Str × Option Str} {st : Stmt} {z : Str} (F : FnP K z st (He.fAd K p) fd) : fd.code = .ref (He.cT K p).1 := by
  obtain ⟨oc, od, dV, kV, doc, pm, an, cdv, ct, osl, rfl, lk, hcd, -, -⟩ := F.ex
  obtain ⟨c, rfl⟩ := He.codeIn_ref hcd
  show Value.ref c = .ref (He.codeOf K p)
  rw [He.codeOf_eq lk rfl]
end
end K7
/-! the bundles, by what the head tells -/
namespace K7
open PySem PySem.Spec PyProof.Rows L2 Kx RZ
abbrev Says (w : World) (h : Heap) (K : PySem.W.Frag) : Prop := He.SaysX fa fn [] tf ex w h K
section
variable {P : Program} {w : World} {K : PySem.W.Frag} {h : Heap} {mg : Str → Option Value}
theorem mg_of (X : K.In h) (G : h.Ns mainGlobals mg) (c : Says w h K) : Mg mg where
  z_KeyError := He.free_ok X G (c.t.d.fact 43 (f := .free "KeyError") rfl)
  z_ValueError := He.free_ok X G (c.t.d.fact 44 (f := .free "ValueError") rfl)
  z_abs := He.free_ok X G (c.t.d.fact 45 (f := .free "abs") rfl)
  z_bool := He.free_ok X G (c.t.d.fact 46 (f := .free "bool") rfl)
  z_enumerate := He.free_ok X G (c.t.d.fact 47 (f := .free "enumerate") rfl)
  z_int := He.free_ok X G (c.t.d.fact 48 (f := .free "int") rfl)
  z_isinstance := He.free_ok X G (c.t.d.fact 49 (f := .free "isinstance") rfl)
  z_len := He.free_ok X G (c.t.d.fact 50 (f := .free "len") rfl)
  z_list := He.free_ok X G (c.t.d.fact 51 (f := .free "list") rfl)
  z_range := He.free_ok X G (c.t.d.fact 52 (f := .free "range") rfl)
  z_repr := He.free_ok X G (c.t.d.fact 53 (f := .free "repr") rfl)
  z_set := He.free_ok X G (c.t.d.fact 54 (f := .free "set") rfl)
  z_sorted := He.free_ok X G (c.t.d.fact 55 (f := .free "sorted") rfl)
  z_tuple := He.free_ok X G (c.t.d.fact 56 (f := .free "tuple") rfl)
  z_zip := He.free_ok X G (c.t.d.fact 57 (f := .free "zip") rfl)
  g_DEEDS_MOST := He.int_ok X G (c.t.d.fact 58 (f := .int "DEEDS_MOST" 4) rfl)
  g_STATES_MOST := He.int_ok X G (c.t.d.fact 59 (f := .int "STATES_MOST" 8) rfl)
  g_ROUND_MOST := He.int_ok X G (c.t.d.fact 60 (f := .int "ROUND_MOST" 60) rfl)
  g_REST_MOST := He.int_ok X G (c.t.d.fact 61 (f := .int "REST_MOST" 6) rfl)
theorem clsC_of (X : K.In h) (G : h.Ns mainGlobals mg) (c : Says w h K) : ClsC K mg (He.ga K "Counters") where
  at_ := (He.glo_ok X G (c.t.d.fact 41 (f := .glo "Counters") rfl))
  cl := He.cls_ok (c.t.d.fact 62 (f := .cls "Counters") rfl)
  n1 := (He.noat_ok (c.t.d.fact 66 (f := .noat "Counters" "rounds") rfl))
  n2 := (He.noat_ok (c.t.d.fact 67 (f := .noat "Counters" "rests") rfl))
  isi := isiB_ok (ex_at c.more 8 rfl)
  yes := kitB_ok (ex_at c.more 9 rfl)
  notT := kitB_ok (ex_at c.more 10 rfl)
  first := (ex_at c.more 11 rfl)
theorem clsM_of (X : K.In h) (G : h.Ns mainGlobals mg) (c : Says w h K) : ClsM K mg (He.ga K "Machine") where
  at_ := (He.glo_ok X G (c.t.d.fact 42 (f := .glo "Machine") rfl))
  cl := He.cls_ok (c.t.d.fact 63 (f := .cls "Machine") rfl)
  n1 := (He.noat_ok (c.t.d.fact 68 (f := .noat "Machine" "deeds") rfl))
  n2 := (He.noat_ok (c.t.d.fact 69 (f := .noat "Machine" "states") rfl))
  n3 := (He.noat_ok (c.t.d.fact 70 (f := .noat "Machine" "tables") rfl))
  isi := isiB_ok (ex_at c.more 12 rfl)
  yes := kitB_ok (ex_at c.more 13 rfl)
  notT := kitB_ok (ex_at c.more 14 rfl)
  first := (ex_at c.more 15 rfl)
end
section
variable {P : Program} {w : World} {K : PySem.W.Frag} {mg : Str → Option Value} {base : Heap} {x f qual : Str} {C : Addr} {fd : FuncData}
theorem errN_of (at_ : mg x = some (.ref C)) (cls : EvC K C) (ini : iniB K C = true) (ok : FnOk P w K mg base CX0 1 (He.ma K C "__init__") fd ["self", f] (spKeep K C f)) (b : Binds K fd ["self", f] [])
    (kb : KBn K fd ["self", f] 1 [f] (fun us ws => us ++ ws) (fun vs zs => vs ++ zs)) : ErrN P w K mg base 1 x f C :=
  ⟨at_, cls, _, fd, (iniB_ok ini).1, (iniB_ok ini).2, b, ok, fun s' a ws X l => kb.to s' [.ref a] ws X rfl l⟩
theorem errF_of {g h : Str} (at_ : mg x = some (.ref C)) (cls : OexC K C) (ini : iniB K C = true) (ok : FnOk P w K mg base CX0 1 (He.ma K C "__init__") fd ["self", f, g, h] (spKeep3 K C f g h)) (b : Binds K fd ["self", f, g, h] [])
    (kb : KBn K fd ["self", f, g, h] 1 [h, f, g] (fun us ws => us ++ [ws.getD 1 .none, ws.getD 2 .none, ws.getD 0 .none]) (fun vs zs => vs ++ [zs.getD 1 .non, zs.getD 2 .non, zs.getD 0 .non])) : ErrF P w K mg base 1 x f g h C :=
  ⟨at_, cls, _, fd, (iniB_ok ini).1, (iniB_ok ini).2, b, ok, fun s' a ws X l => kb.to s' [.ref a] ws X rfl l⟩
end
theorem sc_BadMachine : FnScope ["self", "at"] ["self", "at"] (defScope s_BadMachine_init) := ⟨rfl, rfl, rfl, by decide +kernel, rfl, by decide +kernel, by decide +kernel⟩
theorem err_BadMachine {P : Program} {w w' : World} {K : PySem.W.Frag} {h base : Heap} {mg : Str → Option Value} (X : K.In h) (G : h.Ns mainGlobals mg) (c : Says w' h K) : ErrN P w K mg base 1 "BadMachine" "at" (He.ga K "BadMachine") := by
  obtain ⟨fd, F⟩ := c.t.d.def_ 36 rfl
  exact errN_of (He.glo_ok X G (c.t.d.fact 37 (f := .glo "BadMachine") rfl)) (EvC.of (oexB_ok (ex_at c.more 0 rfl))) (ex_at c.more 4 rfl) (ok_keep F (oexB_ok (ex_at c.more 0 rfl)) (He.noat_ok (c.t.d.fact 71 (f := .noat "BadMachine" "at") rfl)) sc_BadMachine (by decide) (by decide) (by decide +kernel) (by decide +kernel)) (F.bindsN fun _ _ _ _ _ _ us hl => match us, hl with | [_, _], _ => rfl)
    (kbn_of F (fun r1 r2 => r1.append r2) fun _ _ _ _ _ _ us ws hl hm => match us, ws, hl, hm with | [_], [_], _, _ => rfl)
theorem sc_Refused : FnScope ["self", "at"] ["self", "at"] (defScope s_Refused_init) := ⟨rfl, rfl, rfl, by decide +kernel, rfl, by decide +kernel, by decide +kernel⟩
theorem err_Refused {P : Program} {w w' : World} {K : PySem.W.Frag} {h base : Heap} {mg : Str → Option Value} (X : K.In h) (G : h.Ns mainGlobals mg) (c : Says w' h K) : ErrN P w K mg base 1 "Refused" "at" (He.ga K "Refused") := by
  obtain ⟨fd, F⟩ := c.t.d.def_ 37 rfl
  exact errN_of (He.glo_ok X G (c.t.d.fact 38 (f := .glo "Refused") rfl)) (EvC.of (oexB_ok (ex_at c.more 1 rfl))) (ex_at c.more 5 rfl) (ok_keep F (oexB_ok (ex_at c.more 1 rfl)) (He.noat_ok (c.t.d.fact 72 (f := .noat "Refused" "at") rfl)) sc_Refused (by decide) (by decide) (by decide +kernel) (by decide +kernel)) (F.bindsN fun _ _ _ _ _ _ us hl => match us, hl with | [_, _], _ => rfl)
    (kbn_of F (fun r1 r2 => r1.append r2) fun _ _ _ _ _ _ us ws hl hm => match us, ws, hl, hm with | [_], [_], _, _ => rfl)
theorem sc_Forgets : FnScope ["self", "deed", "one", "other"] ["self", "deed", "one", "other"] (defScope s_Forgets_init) := ⟨rfl, rfl, rfl, by decide +kernel, rfl, by decide +kernel, by decide +kernel⟩
theorem err_Forgets {P : Program} {w w' : World} {K : PySem.W.Frag} {h base : Heap} {mg : Str → Option Value} (X : K.In h) (G : h.Ns mainGlobals mg) (c : Says w' h K) : ErrF P w K mg base 1 "Forgets" "deed" "one" "other" (He.ga K "Forgets") := by
  obtain ⟨fd, F⟩ := c.t.d.def_ 38 rfl
  exact errF_of (He.glo_ok X G (c.t.d.fact 39 (f := .glo "Forgets") rfl)) (oexB_ok (ex_at c.more 2 rfl)) (ex_at c.more 6 rfl) (ok_keep3 F (oexB_ok (ex_at c.more 2 rfl)) (He.noat_ok (c.t.d.fact 73 (f := .noat "Forgets" "deed") rfl)) (He.noat_ok (c.t.d.fact 74 (f := .noat "Forgets" "one") rfl)) (He.noat_ok (c.t.d.fact 75 (f := .noat "Forgets" "other") rfl)) sc_Forgets (by decide) (by decide) (by decide) (by decide) (by decide) (by decide) (by decide +kernel) (by decide +kernel) (by decide +kernel) (by decide +kernel)) (F.bindsN fun _ _ _ _ _ _ us hl => match us, hl with | [_, _, _, _], _ => rfl)
    (kbn_of F (fun r1 r2 => r1.append (.cons (vals_getD 1 r2) (.cons (vals_getD 2 r2) (.cons (vals_getD 0 r2) .nil)))) fun _ _ _ _ _ _ us ws hl hm => match us, ws, hl, hm with | [_], [_, _, _], _, _ => rfl)
theorem sc_NoState : FnScope ["self", "state"] ["self", "state"] (defScope s_NoState_init) := ⟨rfl, rfl, rfl, by decide +kernel, rfl, by decide +kernel, by decide +kernel⟩
theorem err_NoState {P : Program} {w w' : World} {K : PySem.W.Frag} {h base : Heap} {mg : Str → Option Value} (X : K.In h) (G : h.Ns mainGlobals mg) (c : Says w' h K) : ErrN P w K mg base 1 "NoState" "state" (He.ga K "NoState") := by
  obtain ⟨fd, F⟩ := c.t.d.def_ 39 rfl
  exact errN_of (He.glo_ok X G (c.t.d.fact 40 (f := .glo "NoState") rfl)) (EvC.ofKey (keyB_ok (ex_at c.more 3 rfl))) (ex_at c.more 7 rfl) (ok_keepK F (keyB_ok (ex_at c.more 3 rfl)) (He.noat_ok (c.t.d.fact 76 (f := .noat "NoState" "state") rfl)) sc_NoState (by decide) (by decide) (by decide +kernel) (by decide +kernel)) (F.bindsN fun _ _ _ _ _ _ us hl => match us, hl with | [_, _], _ => rfl)
    (kbn_of F (fun r1 r2 => r1.append r2) fun _ _ _ _ _ _ us ws hl hm => match us, ws, hl, hm with | [_], [_], _, _ => rfl)
theorem er_of {P : Program} {w w' : World} {K : PySem.W.Frag} {h base : Heap} {mg : Str → Option Value} (X : K.In h) (G : h.Ns mainGlobals mg) (c : Says w' h K) : Er P w K mg base (adOf K) where
  BadMachine := err_BadMachine X G c
  Refused := err_Refused X G c
  Forgets := err_Forgets X G c
  NoState := err_NoState X G c
section
variable {P : Program} {w : World} {K : PySem.W.Frag} {mg : Str → Option Value} {base : Heap} {x qual : Str} {params : Arguments} {body : List Stmt} {scope : Scope} {f : Addr} {fd : FuncData} {ps ks : List Str} {k n : Nat} {CX : CXT} {sp : Sp}
/-- a def by its name -/
theorem cal_of (at_ : mg x = some (.ref f)) (F : FunD K x qual params body scope [] [] f fd) (ok : FnOk P w K mg base CX k f fd ps sp) (h : ∀ (kV doc pm : Value) (an : Option Addr) (cdv ct : Value) (us : List Value), us.length = ps.length → bindArgs (PySem.W.fnOf x qual params body scope .none kV doc pm an cdv ct) ⟨us, []⟩ = pure (ps.zip us)) :
    Cal P w K mg base CX k x ps sp := ⟨_, _, at_, F.kp, F.bindsN h, ok⟩
theorem calN_of {g : List Value → List Value → List Value} {gV : List V → List V → List V} (at_ : mg x = some (.ref f)) (F : FunD K x qual params body scope [] [] f fd) (ok : FnOk P w K mg base CX k f fd ps sp) (rel : ∀ {vs us zs ws}, Vals vs us → Vals zs ws → Vals (gV vs zs) (g us ws))
    (h : ∀ (kV doc pm : Value) (an : Option Addr) (cdv ct : Value) (us ws : List Value), us.length = n → ws.length = ks.length → bindArgs (PySem.W.fnOf x qual params body scope .none kV doc pm an cdv ct) ⟨us, ks.zip ws⟩ = pure (ps.zip (g us ws))) : CalN P w K mg base CX k n x ps ks gV sp :=
  ⟨_, _, g, at_, F.kp, kbn_of F rel h, ok⟩
end
section
variable {P : Program} {w w' : World} {K : PySem.W.Frag} {h base : Heap} {mg : Str → Option Value}
theorem mks_of (X : K.In h) (G : h.Ns mainGlobals mg) (c : Says w' h K) : Mks P w K mg base (adOf K) (He.ga K "Counters") (He.ga K "Machine") (tZero K) := by
  have T := mg_of X G c
  have TC := clsC_of X G c
  have TM := clsM_of X G c
  have R : Er P w K mg base (adOf K) := er_of X G c
  obtain ⟨fdn, Fn⟩ := c.t.d.def_ 0 (d := dF "is_number" s_is_number) rfl
  have fn : FnOk P w K mg base CX0 1 (He.ga K "is_number") fdn ["value"] (spNumber K) := ok_is_number Fn T
  have cn : Cal P w K mg base CX0 1 "is_number" ["value"] (spNumber K) := cal_of (He.glo_ok X G (c.t.d.fact 0 (f := .glo "is_number") rfl)) Fn fn fun _ _ _ _ _ _ us hl => match us, hl with | [_], _ => rfl
  obtain ⟨fdb, Fb⟩ := c.t.d.def_ 1 (d := dF "is_below" s_is_below) rfl
  have fb : FnOk P w K mg base CX0 2 (He.ga K "is_below") fdb ["value", "limit"] (spBelow K) := ok_is_below Fb T cn
  have cb : Cal P w K mg base CX0 2 "is_below" ["value", "limit"] (spBelow K) := cal_of (He.glo_ok X G (c.t.d.fact 1 (f := .glo "is_below") rfl)) Fb fb fun _ _ _ _ _ _ us hl => match us, hl with | [_, _], _ => rfl
  obtain ⟨fds, Fs⟩ := c.t.d.def_ 2 (d := dF "is_sequence" s_is_sequence) rfl
  have fs : FnOk P w K mg base CX0 1 (He.ga K "is_sequence") fds ["value", "least", "most"] (spSeq K) := ok_is_sequence Fs T
  have cs : Cal P w K mg base CX0 1 "is_sequence" ["value", "least", "most"] (spSeq K) := cal_of (He.glo_ok X G (c.t.d.fact 2 (f := .glo "is_sequence") rfl)) Fs fs fun _ _ _ _ _ _ us hl => match us, hl with | [_, _, _], _ => rfl
  obtain ⟨fdl, Fl⟩ := c.t.d.def_ 3 (d := dF "first_not_below" s_first_not_below) rfl
  have fl : FnOk P w K mg base CX0 3 (He.ga K "first_not_below") fdl ["values", "limit"] (spFnb K) := ok_first_not_below Fl T cb
  have cl : Cal P w K mg base CX0 3 "first_not_below" ["values", "limit"] (spFnb K) := cal_of (He.glo_ok X G (c.t.d.fact 3 (f := .glo "first_not_below") rfl)) Fl fl fun _ _ _ _ _ _ us hl => match us, hl with | [_, _], _ => rfl
  obtain ⟨fde, Fe⟩ := c.t.d.def_ 4 (d := dF "_are_rests" s_are_rests) rfl
  have fe : FnOk P w K mg base CX0 4 (He.ga K "_are_rests") fde ["value", "kinds"] (spRests K) := ok_are_rests Fe T cs cl
  have ce : Cal P w K mg base CX0 4 "_are_rests" ["value", "kinds"] (spRests K) := cal_of (He.glo_ok X G (c.t.d.fact 4 (f := .glo "_are_rests") rfl)) Fe fe fun _ _ _ _ _ _ us hl => match us, hl with | [_, _], _ => rfl
  obtain ⟨fdt, Ft⟩ := c.t.d.def_ 6 (d := dF "_is_table" s_is_table) rfl
  have ft : FnOk P w K mg base CX0 4 (He.ga K "_is_table") fdt ["value", "like"] (spTable K) := ok_is_table Ft T cs cl
  have ct : Cal P w K mg base CX0 4 "_is_table" ["value", "like"] (spTable K) := cal_of (He.glo_ok X G (c.t.d.fact 6 (f := .glo "_is_table") rfl)) Ft ft fun _ _ _ _ _ _ us hl => match us, hl with | [_, _], _ => rfl
  obtain ⟨fdI, FI⟩ := c.t.d.def_ 40 (d := dM "Counters" "__init__" "Counters.__init__" s_Counters_init [.adr tZero]) rfl
  obtain ⟨fdM, FM⟩ := c.t.d.def_ 41 (d := dM "Machine" "__init__" "Machine.__init__" s_Machine_init []) rfl
  have okI : FnOk P w K mg base (L2N.CX P w) 5 (He.ma K (He.ga K "Counters") "__init__") fdI ["self", "rounds", "rests"] (spInit K (adOf K) (He.ga K "Counters")) := ok_init FI T R TC cs cl ce
  have okM : FnOk P w K mg base (L2N.CX P w) 5 (He.ma K (He.ga K "Machine") "__init__") fdM ["self", "tables"] (spMachine K (adOf K) (He.ga K "Machine")) := ok_machine FM T R TM cs ct
  have b1 : Binds K fdI ["self", "rounds", "rests"] [] := by
    obtain ⟨ds, v, b⟩ := FunD.binds1 (ps := ["self", "rounds", "rests"]) FI 3 1 (List.cons_ne_nil _ _) rfl fun _ _ _ _ _ _ _ us its l1 l2 => match us, its, l1, l2 with | [_, _, _], [_], _, _ => ⟨_, rfl, rfl⟩
    cases v
    exact b
  have b2 : Binds K fdI ["self", "rounds", "rests"] [.ref (tZero K)] := by
    obtain ⟨ds, v, b⟩ := FunD.binds1 (ps := ["self", "rounds", "rests"]) FI 2 0 (List.cons_ne_nil _ _) rfl fun _ _ _ _ _ _ _ us its l1 l2 => match us, its, l1, l2 with | [_, _], [_], _, _ => ⟨_, rfl, rfl⟩
    match ds, v, b with
    | [u], .cons r .nil, b =>
      obtain rfl : u = .ref (tZero K) := r
      exact b
  exact {
    cnt := ⟨_, fdI, He.mkr_ok (c.t.d.fact 64 (f := .mkr "Counters") rfl), okI, b1⟩
    cnt1 := ⟨_, fdI, He.mkr_ok (c.t.d.fact 64 (f := .mkr "Counters") rfl), okI, b2⟩
    mac := ⟨_, fdM, He.mkr_ok (c.t.d.fact 65 (f := .mkr "Machine") rfl), okM, FM.bindsN fun _ _ _ _ _ _ us hl => match us, hl with | [_, _], _ => rfl⟩
    nil := nilB_ok (ex_at c.more 16 rfl) }
def wkR3 : List Value → List Value → List Value := fun _ ws => [ws.getD 2 .none, ws.getD 1 .none, ws.getD 0 .none]
theorem relR3 {vs : List V} {us : List Value} {zs : List V} {ws : List Value} (_ : Vals vs us) (h : Vals zs ws) : Vals (kwR3 vs zs) (wkR3 us ws) := .cons (vals_getD 2 h) (.cons (vals_getD 1 h) (.cons (vals_getD 0 h) .nil))
def wkR4 : List Value → List Value → List Value := fun _ ws => [ws.getD 3 .none, ws.getD 2 .none, ws.getD 1 .none, ws.getD 0 .none]
theorem relR4 {vs : List V} {us : List Value} {zs : List V} {ws : List Value} (_ : Vals vs us) (h : Vals zs ws) : Vals (kwR4 vs zs) (wkR4 us ws) := .cons (vals_getD 3 h) (.cons (vals_getD 2 h) (.cons (vals_getD 1 h) (.cons (vals_getD 0 h) .nil)))
/-- what the law calls of the program -/
structure Prg (P : Program) (w : World) (K : PySem.W.Frag) (mg : Str → Option Value) (base : Heap) (a : Ad) (C CM : Addr) : Prop where
  settled : Cal P w K mg base (L2N.CX P w) 9 "settled" ["machine", "first", "pairs", "rounds"] (spSettled K CM)
  settledK : CalN P w K mg base (L2N.CX P w) 9 0 "settled" ["machine", "first", "pairs", "rounds"] ["rounds", "pairs", "first", "machine"] kwR4 (spSettled K CM)
  lots : Cal P w K mg base (L2N.CX P w) 10 "lots_of" ["machine", "first", "counters"] (spLots K C CM)
  lotsK : CalN P w K mg base (L2N.CX P w) 10 0 "lots_of" ["machine", "first", "counters"] ["counters", "first", "machine"] kwR3 (spLots K C CM)
  size : Cal P w K mg base (L2N.CX P w) 11 "fold_size" ["machine", "first", "counters"] (spSize K C CM)
  sizeK : CalN P w K mg base (L2N.CX P w) 11 0 "fold_size" ["machine", "first", "counters"] ["counters", "first", "machine"] kwR3 (spSize K C CM)
theorem prg_of (X : K.In h) (G : h.Ns mainGlobals mg) (c : Says w' h K) : Prg P w K mg base (adOf K) (He.ga K "Counters") (He.ga K "Machine") := by
  have T := mg_of X G c
  have TC := clsC_of X G c
  have TM := clsM_of X G c
  have R : Er P w K mg base (adOf K) := er_of X G c
  obtain ⟨fdn, Fn⟩ := c.t.d.def_ 0 (d := dF "is_number" s_is_number) rfl
  have fn : FnOk P w K mg base CX0 1 (He.ga K "is_number") fdn ["value"] (spNumber K) := ok_is_number Fn T
  have cn : Cal P w K mg base CX0 1 "is_number" ["value"] (spNumber K) := cal_of (He.glo_ok X G (c.t.d.fact 0 (f := .glo "is_number") rfl)) Fn fn fun _ _ _ _ _ _ us hl => match us, hl with | [_], _ => rfl
  obtain ⟨fdb, Fb⟩ := c.t.d.def_ 1 (d := dF "is_below" s_is_below) rfl
  have fb : FnOk P w K mg base CX0 2 (He.ga K "is_below") fdb ["value", "limit"] (spBelow K) := ok_is_below Fb T cn
  have cb : Cal P w K mg base CX0 2 "is_below" ["value", "limit"] (spBelow K) := cal_of (He.glo_ok X G (c.t.d.fact 1 (f := .glo "is_below") rfl)) Fb fb fun _ _ _ _ _ _ us hl => match us, hl with | [_, _], _ => rfl
  obtain ⟨fds, Fs⟩ := c.t.d.def_ 2 (d := dF "is_sequence" s_is_sequence) rfl
  have fs : FnOk P w K mg base CX0 1 (He.ga K "is_sequence") fds ["value", "least", "most"] (spSeq K) := ok_is_sequence Fs T
  have cs : Cal P w K mg base CX0 1 "is_sequence" ["value", "least", "most"] (spSeq K) := cal_of (He.glo_ok X G (c.t.d.fact 2 (f := .glo "is_sequence") rfl)) Fs fs fun _ _ _ _ _ _ us hl => match us, hl with | [_, _, _], _ => rfl
  obtain ⟨fdl, Fl⟩ := c.t.d.def_ 3 (d := dF "first_not_below" s_first_not_below) rfl
  have fl : FnOk P w K mg base CX0 3 (He.ga K "first_not_below") fdl ["values", "limit"] (spFnb K) := ok_first_not_below Fl T cb
  have cl : Cal P w K mg base CX0 3 "first_not_below" ["values", "limit"] (spFnb K) := cal_of (He.glo_ok X G (c.t.d.fact 3 (f := .glo "first_not_below") rfl)) Fl fl fun _ _ _ _ _ _ us hl => match us, hl with | [_, _], _ => rfl
  obtain ⟨fdnf, Fnf⟩ := c.t.d.def_ 5 (d := dF "need_fit" s_need_fit) rfl
  have fnf : FnOk P w K mg base (L2N.CX P w) 3 (He.ga K "need_fit") fdnf ["machine", "counters"] (spNeedFit K (adOf K) (He.ga K "Counters") (He.ga K "Machine")) := ok_need_fit Fnf T R TC
  have cnf : Cal P w K mg base (L2N.CX P w) 3 "need_fit" ["machine", "counters"] (spNeedFit K (adOf K) (He.ga K "Counters") (He.ga K "Machine")) := cal_of (He.glo_ok X G (c.t.d.fact 5 (f := .glo "need_fit") rfl)) Fnf fnf fun _ _ _ _ _ _ us hl => match us, hl with | [_, _], _ => rfl
  obtain ⟨fdns, Fns⟩ := c.t.d.def_ 7 (d := dF "need_state" s_need_state) rfl
  have fns : FnOk P w K mg base (L2N.CX P w) 3 (He.ga K "need_state") fdns ["machine", "state"] (spState K (adOf K) (He.ga K "Machine")) := ok_need_state Fns T R TM cb
  have cns : Cal P w K mg base (L2N.CX P w) 3 "need_state" ["machine", "state"] (spState K (adOf K) (He.ga K "Machine")) := cal_of (He.glo_ok X G (c.t.d.fact 7 (f := .glo "need_state") rfl)) Fns fns fun _ _ _ _ _ _ us hl => match us, hl with | [_, _], _ => rfl
  obtain ⟨fdco, Fco⟩ := c.t.d.def_ 8 (d := dF "in_coming_order" s_in_coming_order) rfl
  have fco : FnOk P w K mg base (L2N.CX P w) 5 (He.ga K "in_coming_order") fdco ["machine", "first"] (spComing K (adOf K) (He.ga K "Machine")) := ok_coming Fco T TM cns
  have cco : Cal P w K mg base (L2N.CX P w) 5 "in_coming_order" ["machine", "first"] (spComing K (adOf K) (He.ga K "Machine")) := cal_of (He.glo_ok X G (c.t.d.fact 8 (f := .glo "in_coming_order") rfl)) Fco fco fun _ _ _ _ _ _ us hl => match us, hl with | [_, _], _ => rfl
  obtain ⟨fdrc, Frc⟩ := c.t.d.def_ 9 (d := dF "reached" s_reached) rfl
  have frc : FnOk P w K mg base (L2N.CX P w) 6 (He.ga K "reached") fdrc ["machine", "first"] (spReached K (adOf K) (He.ga K "Machine")) := ok_reached Frc T cco
  have crc : Cal P w K mg base (L2N.CX P w) 6 "reached" ["machine", "first"] (spReached K (adOf K) (He.ga K "Machine")) := cal_of (He.glo_ok X G (c.t.d.fact 9 (f := .glo "reached") rfl)) Frc frc fun _ _ _ _ _ _ us hl => match us, hl with | [_, _], _ => rfl
  obtain ⟨fdfo, Ffo⟩ := c.t.d.def_ 10 (d := dF "forgotten" s_forgotten) rfl
  have ffo : FnOk P w K mg base (L2N.CX P w) 7 (He.ga K "forgotten") fdfo ["machine", "first"] (spForgot K (He.ga K "Machine")) := ok_forgotten Ffo T TM crc
  have cfo : Cal P w K mg base (L2N.CX P w) 7 "forgotten" ["machine", "first"] (spForgot K (He.ga K "Machine")) := cal_of (He.glo_ok X G (c.t.d.fact 10 (f := .glo "forgotten") rfl)) Ffo ffo fun _ _ _ _ _ _ us hl => match us, hl with | [_, _], _ => rfl
  obtain ⟨fdne, Fne⟩ := c.t.d.def_ 11 (d := dF "need_exchanges" s_need_exchanges) rfl
  have fne : FnOk P w K mg base (L2N.CX P w) 8 (He.ga K "need_exchanges") fdne ["machine", "first"] (spExch K (He.ga K "Machine")) := ok_exch Fne T R cfo
  have cne : Cal P w K mg base (L2N.CX P w) 8 "need_exchanges" ["machine", "first"] (spExch K (He.ga K "Machine")) := cal_of (He.glo_ok X G (c.t.d.fact 11 (f := .glo "need_exchanges") rfl)) Fne fne fun _ _ _ _ _ _ us hl => match us, hl with | [_, _], _ => rfl
  obtain ⟨fdci, Fci⟩ := c.t.d.def_ 12 (d := dF "circle" s_circle) rfl
  have fci : FnOk P w K mg base CX0 1 (He.ga K "circle") fdci ["table", "place"] (spCircle K) := ok_circle Fci T
  have cci : Cal P w K mg base CX0 1 "circle" ["table", "place"] (spCircle K) := cal_of (He.glo_ok X G (c.t.d.fact 12 (f := .glo "circle") rfl)) Fci fci fun _ _ _ _ _ _ us hl => match us, hl with | [_, _], _ => rfl
  obtain ⟨fddp, Fdp⟩ := c.t.d.def_ 13 (d := dF "deed_pairs" s_deed_pairs) rfl
  have fdp : FnOk P w K mg base CX0 1 (He.ga K "deed_pairs") fddp ["deeds"] (spPairs K) := ok_pairs Fdp T
  have cdp : Cal P w K mg base CX0 1 "deed_pairs" ["deeds"] (spPairs K) := cal_of (He.glo_ok X G (c.t.d.fact 13 (f := .glo "deed_pairs") rfl)) Fdp fdp fun _ _ _ _ _ _ us hl => match us, hl with | [_], _ => rfl
  obtain ⟨fdam, Fam⟩ := c.t.d.def_ 17 (d := dF "_all_moved" s_all_moved) rfl
  have fam : FnOk P w K mg base CX0 2 (He.ga K "_all_moved") fdam ["table", "places", "many"] (spAllMoved K) := ok_all_moved Fam T cci
  have cam : Cal P w K mg base CX0 2 "_all_moved" ["table", "places", "many"] (spAllMoved K) := cal_of (He.glo_ok X G (c.t.d.fact 17 (f := .glo "_all_moved") rfl)) Fam fam fun _ _ _ _ _ _ us hl => match us, hl with | [_, _, _], _ => rfl
  obtain ⟨fdft, Fft⟩ := c.t.d.def_ 16 (d := dF "_first_together" s_first_together) rfl
  have fft : FnOk P w K mg base CX0 3 (He.ga K "_first_together") fdft ["tables", "places", "pairs", "rounds"] (spFirst K) := ok_first Fft T cam
  have cft : Cal P w K mg base CX0 3 "_first_together" ["tables", "places", "pairs", "rounds"] (spFirst K) := cal_of (He.glo_ok X G (c.t.d.fact 16 (f := .glo "_first_together") rfl)) Fft fft fun _ _ _ _ _ _ us hl => match us, hl with | [_, _, _, _], _ => rfl
  obtain ⟨fdtp, Ftp⟩ := c.t.d.def_ 15 (d := dF "_top" s_top) rfl
  have ftp : FnOk P w K mg base CX0 1 (He.ga K "_top") fdtp ["above", "place"] spTop := ok_top Ftp T
  have ctp : Cal P w K mg base CX0 1 "_top" ["above", "place"] spTop := cal_of (He.glo_ok X G (c.t.d.fact 15 (f := .glo "_top") rfl)) Ftp ftp fun _ _ _ _ _ _ us hl => match us, hl with | [_, _], _ => rfl
  obtain ⟨fdlp, Flp⟩ := c.t.d.def_ 14 (d := dF "least_parting" s_least_parting) rfl
  have flp : FnOk P w K mg base CX0 4 (He.ga K "least_parting") fdlp ["tables", "places", "pairs", "rounds"] (spLeast K) := ok_least Flp T cft ctp
  have clp : Cal P w K mg base CX0 4 "least_parting" ["tables", "places", "pairs", "rounds"] (spLeast K) := cal_of (He.glo_ok X G (c.t.d.fact 14 (f := .glo "least_parting") rfl)) Flp flp fun _ _ _ _ _ _ us hl => match us, hl with | [_, _, _, _], _ => rfl
  obtain ⟨fdse, Fse⟩ := c.t.d.def_ 18 (d := dF "settled" s_settled) rfl
  have fse : FnOk P w K mg base (L2N.CX P w) 9 (He.ga K "settled") fdse ["machine", "first", "pairs", "rounds"] (spSettled K (He.ga K "Machine")) := ok_settled Fse T TM cne clp crc
  have cse : Cal P w K mg base (L2N.CX P w) 9 "settled" ["machine", "first", "pairs", "rounds"] (spSettled K (He.ga K "Machine")) := cal_of (He.glo_ok X G (c.t.d.fact 18 (f := .glo "settled") rfl)) Fse fse fun _ _ _ _ _ _ us hl => match us, hl with | [_, _, _, _], _ => rfl
  obtain ⟨fdlo, Flo⟩ := c.t.d.def_ 19 (d := dF "lots_of" s_lots_of) rfl
  have flo : FnOk P w K mg base (L2N.CX P w) 10 (He.ga K "lots_of") fdlo ["machine", "first", "counters"] (spLots K (He.ga K "Counters") (He.ga K "Machine")) := ok_lots Flo T TM TC cns cnf cse cdp
  have clo : Cal P w K mg base (L2N.CX P w) 10 "lots_of" ["machine", "first", "counters"] (spLots K (He.ga K "Counters") (He.ga K "Machine")) := cal_of (He.glo_ok X G (c.t.d.fact 19 (f := .glo "lots_of") rfl)) Flo flo fun _ _ _ _ _ _ us hl => match us, hl with | [_, _, _], _ => rfl
  obtain ⟨fdfs, Ffs⟩ := c.t.d.def_ 20 (d := dF "fold_size" s_fold_size) rfl
  have ffs : FnOk P w K mg base (L2N.CX P w) 11 (He.ga K "fold_size") fdfs ["machine", "first", "counters"] (spSize K (He.ga K "Counters") (He.ga K "Machine")) := ok_fold_size Ffs T clo
  have cfs : Cal P w K mg base (L2N.CX P w) 11 "fold_size" ["machine", "first", "counters"] (spSize K (He.ga K "Counters") (He.ga K "Machine")) := cal_of (He.glo_ok X G (c.t.d.fact 20 (f := .glo "fold_size") rfl)) Ffs ffs fun _ _ _ _ _ _ us hl => match us, hl with | [_, _, _], _ => rfl
  exact {
    settled := cse
    settledK := calN_of (g := wkR4) (He.glo_ok X G (c.t.d.fact 18 (f := .glo "settled") rfl)) Fse fse relR4 fun _ _ _ _ _ _ us ws hl hm => match us, ws, hl, hm with | [], [_, _, _, _], _, _ => rfl
    lots := clo
    lotsK := calN_of (g := wkR3) (He.glo_ok X G (c.t.d.fact 19 (f := .glo "lots_of") rfl)) Flo flo relR3 fun _ _ _ _ _ _ us ws hl hm => match us, ws, hl, hm with | [], [_, _, _], _, _ => rfl
    size := cfs
    sizeK := calN_of (g := wkR3) (He.glo_ok X G (c.t.d.fact 20 (f := .glo "fold_size") rfl)) Ffs ffs relR3 fun _ _ _ _ _ _ us ws hl hm => match us, ws, hl, hm with | [], [_, _, _], _, _ => rfl }
end
end K7
/-! the end -/
namespace K7
open PySem PySem.Spec PyProof.Rows L2 Kx RZ
abbrev Rw : PySem.W.OpenRow := PySem.W.OpenLaw.row PySem.Challenge.rw_onewitness_k06_whole_least_settlings
abbrev hk : PySem.W.Hook := He.hookX 5 fa fn [] tf ex
def ob (s : PySem.W.SharedT) : He.AlX := He.obsX 5 fa fn [] tf ex (HandSHeadRun.getT s)
theorem ob_eq (s : PySem.W.SharedT) : ob s = hk.obs s.abs := He.obsX_eq (HandSHeadRun.getT_eq s)
def others1 : List Str := ["WitnessError", "BadMachine", "Refused", "Forgets", "NoState", "DEEDS_MOST", "STATES_MOST", "is_number", "is_below", "is_sequence", "first_not_below", "Machine", "_is_table", "need_state", "in_coming_order", "reached", "forgotten", "need_exchanges", "circle", "deed_pairs", "least_parting", "_top", "_first_together", "_all_moved", "settled", "ROUND_MOST", "REST_MOST", "Counters", "_are_rests", "need_fit"]
def others2 : List Str := ["lots_of", "fold_size", "_law_box", "_law_take", "_law_pick", "_law_mixed", "_law_exchange", "_law_tables", "_law_come", "_law_parted", "_law_pairs", "_law_shown", "_law_opened", "_law_rounds", "_law_walk_right", "_law_apart_right"]
abbrev others : List Str := others1 ++ others2
theorem top_runs (w : World) : HandSHeadRun.RunEq Rw (PySem.W.view Rw.prog [53]) hk ob 8000 others w := by
  intro os
  kernel_rfl
end K7
/-! the end -/
namespace K7
open PySem PySem.Spec PyProof.Rows L2 Kx RZ
theorem ref_same {m : Option Value} {a b : Addr} (h : m = some (.ref a)) (h' : m = some (.ref b)) : a = b := by
  rw [h] at h'
  injection h' with h'
  injection h'
theorem law_told {P : Program} {w : World} {K : PySem.W.Frag} {h : Heap} {mg : Str → Option Value} (X : K.In h) (G : h.Ns mainGlobals mg) (c : Says w h K) :
    ∃ fd : FuncData, (∀ (s : Shared) (u : Value), BindsTo s fd ⟨[u], []⟩ [("script", u)]) ∧ ∀ base : Heap, K.In base → base.Ns mainGlobals mg → FnG P w K mg base CX0 14 (He.ga K "law") fd ["script"] (spLaw K) := by
  obtain ⟨fdlb, Flb⟩ := c.t.d.def_ 21 (d := dF "_law_box" s_law_box) rfl
  obtain ⟨fdlt, Flt⟩ := c.t.d.def_ 22 (d := dF "_law_take" s_law_take) rfl
  obtain ⟨fdlp, Flp⟩ := c.t.d.def_ 23 (d := dF "_law_pick" s_law_pick) rfl
  obtain ⟨fdlm, Flm⟩ := c.t.d.def_ 24 (d := dF "_law_mixed" s_law_mixed) rfl
  obtain ⟨fdle, Fle⟩ := c.t.d.def_ 25 (d := dF "_law_exchange" s_law_exchange) rfl
  obtain ⟨fdltb, Fltb⟩ := c.t.d.def_ 26 (d := dF "_law_tables" s_law_tables) rfl
  obtain ⟨fdlc, Flc⟩ := c.t.d.def_ 27 (d := dF "_law_come" s_law_come) rfl
  obtain ⟨fdlpa, Flpa⟩ := c.t.d.def_ 28 (d := dF "_law_parted" s_law_parted) rfl
  obtain ⟨fdlpr, Flpr⟩ := c.t.d.def_ 29 (d := dF "_law_pairs" s_law_pairs) rfl
  obtain ⟨fdlsh, Flsh⟩ := c.t.d.def_ 30 (d := dF "_law_shown" s_law_shown) rfl
  obtain ⟨fdlo, Flo⟩ := c.t.d.def_ 31 (d := dF "_law_opened" s_law_opened) rfl
  obtain ⟨fdlr, Flr⟩ := c.t.d.def_ 32 (d := dF "_law_rounds" s_law_rounds) rfl
  obtain ⟨fdlw, Flw⟩ := c.t.d.def_ 33 (d := dF "_law_walk_right" s_law_walk_right) rfl
  obtain ⟨fdla, Fla⟩ := c.t.d.def_ 34 (d := dF "_law_apart_right" s_law_apart_right) rfl
  obtain ⟨fdL, FL⟩ := c.t.d.def_ 35 (d := dF "law" s_law) rfl
  have bL := FunD.bindsA (ps := ["script"]) FL fun _ _ _ _ _ _ us hl => match us, hl with | [_], _ => rfl
  refine ⟨fdL, fun s u => bL s [u] rfl, fun base _ _ => ?_⟩
  have T := mg_of X G c
  have TC := clsC_of X G c
  have TM := clsM_of X G c
  have B : Prg P w K mg base (adOf K) (He.ga K "Counters") (He.ga K "Machine") := prg_of X G c
  have M : Mks P w K mg base (adOf K) (He.ga K "Counters") (He.ga K "Machine") (tZero K) := mks_of X G c
  have cB : Cal P w K mg base CX0 1 "_law_box" ["script", "k"] (spBox K) := cal_of (He.glo_ok X G (c.t.d.fact 21 (f := .glo "_law_box") rfl)) Flb (ok_box Flb T) fun _ _ _ _ _ _ us hl => match us, hl with | [_, _], _ => rfl
  have cT : Cal P w K mg base CX0 1 "_law_take" ["box", "many"] spTake := cal_of (He.glo_ok X G (c.t.d.fact 22 (f := .glo "_law_take") rfl)) Flt (ok_take Flt T) fun _ _ _ _ _ _ us hl => match us, hl with | [_, _], _ => rfl
  have cP : Cal P w K mg base CX0 2 "_law_pick" ["box", "some"] (spPick K) := cal_of (He.glo_ok X G (c.t.d.fact 23 (f := .glo "_law_pick") rfl)) Flp (ok_pick Flp T cT) fun _ _ _ _ _ _ us hl => match us, hl with | [_, _], _ => rfl
  have cX : Cal P w K mg base CX0 2 "_law_mixed" ["box", "many"] (spMixed K) := cal_of (He.glo_ok X G (c.t.d.fact 24 (f := .glo "_law_mixed") rfl)) Flm (ok_mixed Flm T cT) fun _ _ _ _ _ _ us hl => match us, hl with | [_, _], _ => rfl
  have cE : Cal P w K mg base CX0 3 "_law_exchange" ["box", "many"] (spExchange K) := cal_of (He.glo_ok X G (c.t.d.fact 25 (f := .glo "_law_exchange") rfl)) Fle (ok_exchange Fle T cT cX) fun _ _ _ _ _ _ us hl => match us, hl with | [_, _], _ => rfl
  have cTb : Cal P w K mg base CX0 4 "_law_tables" ["box", "most", "deeds"] (spTables K) := cal_of (He.glo_ok X G (c.t.d.fact 26 (f := .glo "_law_tables") rfl)) Fltb (ok_tables Fltb T cT cX cE) fun _ _ _ _ _ _ us hl => match us, hl with | [_, _, _], _ => rfl
  have cC : Cal P w K mg base CX0 1 "_law_come" ["tables", "first"] (spCome K) := cal_of (He.glo_ok X G (c.t.d.fact 27 (f := .glo "_law_come") rfl)) Flc (ok_come Flc T) fun _ _ _ _ _ _ us hl => match us, hl with | [_, _], _ => rfl
  have cPa : Cal P w K mg base CX0 2 "_law_parted" ["tables", "first", "pairs", "rounds"] (spParted K) := cal_of (He.glo_ok X G (c.t.d.fact 28 (f := .glo "_law_parted") rfl)) Flpa (ok_parted Flpa T cC) fun _ _ _ _ _ _ us hl => match us, hl with | [_, _, _, _], _ => rfl
  have cPr : Cal P w K mg base CX0 1 "_law_pairs" ["deeds"] (spLPairs K) := cal_of (He.glo_ok X G (c.t.d.fact 29 (f := .glo "_law_pairs") rfl)) Flpr (ok_law_pairs Flpr T) fun _ _ _ _ _ _ us hl => match us, hl with | [_], _ => rfl
  have cS : Cal P w K mg base CX0 1 "_law_shown" ["turn", "rest", "many"] spLShown := cal_of (He.glo_ok X G (c.t.d.fact 30 (f := .glo "_law_shown") rfl)) Flsh (ok_law_shown Flsh T) fun _ _ _ _ _ _ us hl => match us, hl with | [_, _, _], _ => rfl
  have cO : Cal P w K mg base CX0 2 "_law_opened" ["tables", "first", "rounds", "rests", "witness", "start"] (spOpened K) := cal_of (He.glo_ok X G (c.t.d.fact 31 (f := .glo "_law_opened") rfl)) Flo (ok_opened Flo T cS) fun _ _ _ _ _ _ us hl => match us, hl with | [_, _, _, _, _, _], _ => rfl
  have cR : Cal P w K mg base CX0 3 "_law_rounds" ["box", "deeds", "full"] (spLRounds K) := cal_of (He.glo_ok X G (c.t.d.fact 32 (f := .glo "_law_rounds") rfl)) Flr (ok_rounds Flr T cP) fun _ _ _ _ _ _ us hl => match us, hl with | [_, _, _], _ => rfl
  have gW : FnG P w K mg base CX0 3 (He.ga K "_law_walk_right") fdlw ["tables", "first", "rounds", "lots"] (spWalk K) := ok_walk Flw (code_of (p := dWalk) (z := "_law_walk_right") (st := s_law_walk_right) Flw) T cO
  have cW : CalG P w K mg base CX0 3 "_law_walk_right" ["tables", "first", "rounds", "lots"] (spWalk K) := ⟨_, _, (He.glo_ok X G (c.t.d.fact 33 (f := .glo "_law_walk_right") rfl)), Flw.kp, Flw.bindsN fun _ _ _ _ _ _ us hl => match us, hl with | [_, _, _, _], _ => rfl, gW⟩
  have cA : Cal P w K mg base CX0 12 "_law_apart_right" [] spApart := cal_of (He.glo_ok X G (c.t.d.fact 34 (f := .glo "_law_apart_right") rfl)) Fla (ok_apart Fla T TC TM M B.lots B.size) (fun _ _ _ _ _ _ us hl => match us, hl with | [], _ => rfl)
  exact ok_law FL (code_of (p := dLaw) (z := "law") (st := s_law) FL) T TC TM M {
    box := cB
    take := cT
    pick := cP
    tables := cTb
    rounds := cR
    parted := cPa
    pairs := cPr
    walk := cW
    apart := cA
    settled := B.settled
    settledK := B.settledK
    lots := B.lots
    lotsK := B.lotsK
    size := B.size
    sizeK := B.sizeK }
end K7
open PyProof.Rows PySem PySem.W PySem.Calls
theorem PySem.Challenge.cw_onewitness_k06_whole_least_settlings_holds : PySem.Challenge.rw_onewitness_k06_whole_least_settlings.Holds := by
  w_on; o_law
  refine HandSHeadRun.head_any (r := K7.Rw) (q := view K7.Rw.prog [53]) (H := K7.hk) (ob := K7.ob) (M := 8000) (loose := K7.others) (d := HandSHeadRun.topDef K7.Rw.prog 53) (kwd := []) K7.ob_eq
    (by kernel_rfl) (fun s => by kernel_rfl) K7.top_runs (by kernel_rfl) (by kernel_rfl) (by kernel_rfl) (by rfl) (by first | assumption | decide +kernel) (by decide +kernel) ⟨rfl, rfl, rfl, rfl, rfl, by decide +kernel⟩ ?hw ?hc
  case hw => w_witness2
  case hc =>
    refine Kx.lone_walk (l := PySem.Challenge.rw_onewitness_k06_whole_least_settlings) (n := 63) (k := 14) (x := "script") rfl (by decide) (by kernel_rfl) ⟨rfl, by decide, by decide⟩ ?F
    intro w mg fa h Y G hmg
    obtain ⟨K, X, c⟩ := Y
    have en : (HandSHeadRun.topDef K7.Rw.prog 53).name = ("law" : PySem.Str) := by kernel_rfl
    rw [en] at hmg
    have at_ := He.glo_ok X G (c.t.d.fact 35 (f := .glo "law") rfl)
    have ea := K7.ref_same hmg at_
    subst ea
    obtain ⟨fd, b, F⟩ := K7.law_told (P := (PySem.Challenge.rw_onewitness_k06_whole_least_settlings).prog) X G c
    exact ⟨K, fd, [], K7.spLaw K, X, (fun p hp => nomatch hp), (fun p hp => nomatch hp), (fun p hp => nomatch hp), b, fun H a ns l _ hS => ⟨a, ns, rfl, hS, l, fun _ => rfl⟩, fun base h1 h2 _ => F base h1 h2⟩
