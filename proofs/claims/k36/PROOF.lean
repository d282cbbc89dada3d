import PyProof.Rows.All
import Wide.All
import OpenK.AllK
import Wide.FinOn
import HandS.ForMost
import KE.GoesMore
import PyProof.EnumMake
import HandS.ForExc
import HandS.More
import HandS.Defaults
import HandS.IsInst
import HandS.TupAny
import HandS.TupMul
import HandS.Lambda
import HandS.ExcInit
import HandS.ExcField
import PyProof.ExcAttrAll.LookupError
import HandS.MakeKwOnly
import HandS.OwnEq
import HandS.ExcIs
import KE.KExcIs
import PyProof.NeKinds
import PyProof.EqKinds
import PyProof.StrOps2
import HandS.ExcCtx
import HandS.ExcInitHot
import HandS.HotCalls
import KE.KTryMore
import HandS.HeadHook4
import HandS.Flow
import HandS.MakeKw
import HandS.Zip
import HandS.SetFor
import PyProof.InstNe
import HandS.List
import HandS.SlotsOwn
import HandS.Head0
import HandS.Head1
import HandS.Head2
import HandS.Head3
import HandS.HeadEnd
import HandS.HeadHook1
import HandS.HeadHook2
import HandS.HeadHook3
import HandS.EndTab
import HandS.HeadWalk
import KE.KStateDown
import PyProof.TupleOfSeq
import HandS.ExcValue
import PyProof.Rows.RegStrFacts
import HandS.Conv
import HandS.Gcd
import HandS.TupSets
import KE.KMathGC
import HandS.DictComp
import HandS.TryOnly
import HandS.Strs
import PyProof.P3In
import PyProof.SumAny
import PyProof.TupleKey
import HandS.Dict
import PyProof.Rows.TupTab
import KE.KDictDisplayH
import HandS.Iter
import HandS.DictSubView
import HandS.SortRule
import HandS.Style
import HandS.Small
import KE.DataAny
import HandS.Rev
import HandS.MapJoin
import PyProof.JoinWalk
import KE.DataMinMax
import PySem.Challenge.RW_onewitness_k36_whole_least_counters_that
set_option Elab.async false
set_option linter.all false
set_option maxRecDepth 100000
set_option maxHeartbeats 0
/-! enumerate(t), t a tuple; for i, x in enumerate(xs), xs a list or a tuple. -/
namespace Kx
open PySem PySem.AutoSeq1
/-- the record of a new enumerate over the iterator at j -/
abbrev enumRec (j : Addr) : Obj := { cls := .type "enumerate", data := .fields #[.none, .bool false, .ref j, rawInt 0, .none, .none] }
abbrev tupIter (t : Addr) : Obj := { cls := .type "tuple_iterator", data := .fields #[.ref t, .int 0 0] }
theorem makes_enum (t : Addr) (o : Obj) (items : Array Value) (n : Nat) (hc : o.cls = .type "tuple") (hd : o.data = .seq items n) :
    Meets (Builtin.«enumerate.__new__» ⟨[.type "enumerate", .ref t], []⟩) (fun _ R s => s.heap.get? t = some o ∧
      R (.ok (.ret (.ref (s.heap.push (tupIter t)).objs.size))) { s with heap := (s.heap.push (tupIter t)).push (enumRec s.heap.objs.size) }) := by
  refine .of_wp fun prog w A R s hs => ?_
  obtain ⟨oc, od, odt, os⟩ := o
  have hc' : oc = .type "tuple" := hc
  have hd' : odt = .seq items n := hd
  subst hc' hd'
  obtain ⟨hp, gs, dr, tk, sy⟩ := s
  obtain ⟨ht, hR⟩ := hs
  have subE := sub_enumerate
  have isT : (Shared.heap ⟨hp, gs, dr, tk, sy⟩).IsTuple t items := ⟨_, ht, rfl, n, rfl⟩
  wp_walk using wpAny_loadPart' ht
  refine wpAny_stack_any fun _ => wpAny_pure ?_
  split
  case h_1 c _ _ _ _ _ =>
    cases hq : (c == Value.type "enumerate") <;> (wp_walk using wpAny_loadPart' ht, wpAny_pyIter_tuple isT; exact ⟨_, rfl, hR⟩)
  case h_2 => wp_walk using wpAny_loadPart' ht, wpAny_pyIter_tuple isT; exact ⟨_, rfl, hR⟩
theorem call_enum {prog : Program} {w : World} {A : Around} {E : Value → Shared → Prop} {s : Shared} {t : Addr} {items : Array Value} {Q : Value → Shared → Prop} (hT : s.heap.IsTuple t items)
    (hQ : ∀ g : Heap, IsEnum g (s.heap.objs.size + 1) s.heap.objs.size 0 .none → g.IsTupleIter s.heap.objs.size t 0 → (∀ b o, s.heap.get? b = some o → g.get? b = some o) → Q (.ref (s.heap.objs.size + 1)) { s with heap := g }) :
    wpAny (model prog w) A (call (.type "enumerate") [.ref t]) Q E s := by
  obtain ⟨o, ho, hc, len, hd⟩ := hT
  have two : (s.heap.push (tupIter t)).objs.size = s.heap.objs.size + 1 := Heap.size_push ..
  have atE : ((s.heap.push (tupIter t)).push (enumRec s.heap.objs.size)).get? (s.heap.objs.size + 1) = some (enumRec s.heap.objs.size) := by
    rw [← two]; exact Heap.get?_push_size _ rfl
  have old : ∀ b u, s.heap.get? b = some u → ((s.heap.push (tupIter t)).push (enumRec s.heap.objs.size)).get? b = some u := fun b u z => Heap.get?_push_of_some _ (Heap.get?_push_of_some _ z)
  have it : ((s.heap.push (tupIter t)).push (enumRec s.heap.objs.size)).IsTupleIter s.heap.objs.size t 0 := ⟨_, Heap.get?_push_of_some _ (Heap.get?_push_size _ rfl), rfl, rfl⟩
  refine callType_new F.called_enumerate (by decide) (F.typeCall_enumerate_1 _) (F.newCall_enumerate_1 _) (fun q => F.args_object_init_2 q _) F.entry_enumerate_new (makes_enum t o items len hc hd) ⟨ho, ?_⟩
  show _ ∧ _
  rw [two]
  exact ⟨⟨_, atE, rfl⟩, hQ _ atE it old⟩
end Kx
namespace Kx
open L2 PySem PySem.Spec PyProof.Rows
/-- item i of the tuple at a, with its number, in a new pair -/
def ItPair (K : PySem.W.Frag) (a : Addr) : It where
  go := fun i H => ∃ (xs : List V) (x : V), SqT K H a xs ∧ xs[i]? = some x
  yld := fun i H v H' => ∃ (p : Addr) (x : V), v = .ref p ∧ H p = none ∧ H' = upd H p (.tup [.int (i : Nat), x]) ∧ ∀ xs, SqT K H a xs → xs[i]? = some x
  stop := fun i H => ∃ xs : List V, SqT K H a xs ∧ xs.length ≤ i
theorem one_of {b e j : Addr} (h : b ∈ [e, j]) : b = e ∨ b = j := by simpa using h
theorem turn_pair {P : Program} {w : World} {K : PySem.W.Frag} {es : List Expr} {k0 : Nat} {tp : Pos} (a e j : Addr) (aj : a ≠ j) (ae : a ≠ e) :
    Turn P w K (.Tuple es k0 tp) (ItPair K a) [e, j] e (fun i h => (∃ z, IsEnum h e j ((i : Nat) : Int) z) ∧ h.IsTupleIter j a i ∧ e ≠ j) where
  mem := List.mem_cons_self
  obj := by
    rintro i h ⟨⟨z, hz⟩, ⟨o, ho, _, hd⟩, _⟩ b hb
    rcases one_of hb with q | q <;> rw [q]
    · exact ⟨_, hz, fun _ y => nomatch y⟩
    · exact ⟨o, ho, fun _ y => by rw [hd] at y; cases y⟩
  keep := by
    rintro i h h' ⟨⟨z, hz⟩, hj, ne⟩ k
    exact ⟨⟨z, k e List.mem_cons_self _ hz⟩, hj.at fun o y => k j (by simp) o y, ne⟩
  item := by
    rintro X rfl rfl rfl calm i pins s σ H E I far ⟨⟨z, hz⟩, hj, ne⟩ ⟨xs, x, hx, hi⟩
    obtain ⟨vs, rel, isT, _⟩ := I.tuple hx
    obtain ⟨v, hv, rv⟩ := rel.get hi
    have lt : i < vs.toArray.size := by simpa using (List.getElem?_eq_some_iff.mp hv).1
    have D := Draws.tuple (prog := X.prog) (w := X.w) (A := X.A.in1) (I.ok.hd calm) j a aj vs.toArray
    have e_out : e ∉ [j, a] := by
      simp only [List.mem_cons, List.not_mem_nil, or_false, not_or]
      exact ⟨ne, fun y => ae y.symm⟩
    refine wpAny_pyNext_enum_itemD D hz ⟨hj, isT⟩ lt ne e_out fun y g tk hy out hj' pair _ rest => ?_
    obtain rfl : y = v := by
      have : vs.toArray[i]? = some v := by simpa using hv
      exact Option.some.inj (hy.symm.trans this)
    refine ⟨_, rfl, wpAny_letOwnedTupleGo_enum (s := { s with heap := g, toks := tk + 1 }) out fun g' back but => ?_⟩
    have sz : e < s.heap.objs.size := Heap.lt_size hz
    have szj : j < s.heap.objs.size := let ⟨_, y, _⟩ := hj; Heap.lt_size y
    have pair' : g'.get? s.heap.objs.size = some { cls := .type "tuple", data := .seq #[.int i tk, y] } := (but.2 _ (Nat.ne_of_gt sz)).trans pair
    have laid : ObjOk X.prog X.w (upd H s.heap.objs.size (.tup [.int (i : Nat), x])) g' s.heap.objs.size (.tup [.int (i : Nat), x]) := ⟨(by decide : 2 ≤ sizeLine), [.int i tk, y], .cons ⟨tk, rfl⟩ (.cons rv .nil), _, pair', rfl, _, rfl⟩
    have kept : ∀ b o, b ∉ [e, j] → s.heap.get? b = some o → g'.get? b = some o := fun b o out y => by
      have n1 : b ≠ e := fun q => out (by rw [q]; exact List.mem_cons_self)
      have n2 : b ≠ j := fun q => out (by rw [q]; simp)
      exact (but.2 b n1).trans (rest b o n1 n2 y)
    have J := I.turnedNew (ch := [e, j]) kept far (Nat.le_refl _) laid (t' := tk + 1)
    have num : ((i + 1 : Nat) : Int) = (i : Int) + 1 := by omega
    refine ⟨.ref s.heap.objs.size, _, J, rfl, ⟨_, x, rfl, I.hok.fresh (Nat.le_refl _), rfl, fun ys hys => by rw [I.tuple_inj hys hx]; exact hi⟩, ⟨⟨y, by rw [num]; exact back⟩, hj'.1.at fun o q => (but.2 j ne.symm).trans q, ne⟩, fun b hb => ?_⟩
    have small : b < s.heap.objs.size := by
      rcases one_of hb with q | q <;> rw [q]
      · exact sz
      · exact szj
    rw [upd_ne (Nat.ne_of_lt small)]
    exact (far b hb).1
  done := by
    rintro X rfl rfl rfl calm i pins s σ H E I far ⟨⟨z, hz⟩, hj, ne⟩ ⟨xs, hx, hi⟩
    obtain ⟨vs, rel, isT, _⟩ := I.tuple hx
    obtain ⟨g0, g1, _, g3, g4, g5⟩ := far j (by simp)
    have none_ : vs.toArray[i]? = none := by
      have := rel.length
      simp
      omega
    unfold pyNext
    refine wpAny_bind (wpAny_attempt (wpAny_callSpecial?_slot (s := s) (name := Str.ofString "__next__") ⟨_, hz, rfl⟩ F.slot_enumerate_next (wpAny_call_entry F.slot_enumerate_next ⟨_, hz, rfl⟩ F.entry_enumerate_next ?_ (F.args_enumerate_next_1 _))))
    show wpAny _ _ (field (.ref e) 2 >>= _) _ _ s
    refine wpAny_bind (wpAny_field hz rfl (x := .ref j) rfl (wpAny_bind (wpAny_nextOf_tuple_end (I.ok.hd calm) hj isT none_ fun g x kept stop => ?_)))
    obtain ⟨o, ho, hc⟩ := stop
    exact wpAny_bind (wpAny_isInstance (T := "StopIteration") (b := true) ⟨o, ho, hc⟩ isSubtype_stop (wpAny_pure ⟨rfl, I.turned (t' := s.toks) (fun b o hb y => kept b o hb y) g0 g1 g3 g4 g5⟩))
  self := by
    rintro A i s Q E ⟨⟨z, hz⟩, _⟩ h
    exact wpAny_pyIter_enum hz h
/-- a list or a tuple -/
def Sq (K : PySem.W.Frag) (H : Hp) (a : Addr) (xs : List V) : Prop := SqL K H a xs ∨ SqT K H a xs
def iPairs (K : PySem.W.Frag) (ta : TA) : TI := fun σ H R => ta σ H fun vs H1 => ∃ (a : Addr) (xs : List V), vs = [.ref a] ∧ ((SqL K H1 a xs ∧ R (Ite K a) H1) ∨ (SqT K H1 a xs ∧ R (ItPair K a) H1))
theorem pi_pairs {X : Cx} {e : Expr} {ta : TA} {p pos tp : Pos} {es : List Expr} {k0 : Nat} (hg : Gl X "enumerate") (hm : X.mg "enumerate" = none) (ha : PA X [e] ta) (hs : starEach [e] X.env = [(false, eval e X.env)] := by rfl) :
    PI X (.Tuple es k0 tp) (.Call (.Name "enumerate" p) [e] [] pos) (iPairs X.K ta) := by
  refine ⟨fun pins s σ H R I h => Call_ (ld_blt I hg hm boot_enumerate (PyProof.Rows.callWith_type1 (thn (ha.run pos pins s σ H _ I h) fun us t ⟨vs, H1, J, rel, a, xs, ev, how⟩ => ?_) hs rfl))⟩
  subst ev
  obtain ⟨u, rfl, ru⟩ := vals1 rel
  obtain rfl := (show u = Value.ref a from ru)
  have far : ∀ b ∈ [t.heap.objs.size + 1, t.heap.objs.size], FpOk X pins H1 b := fun b hb => by
    have ge : t.heap.objs.size ≤ b := by
      rcases one_of hb with q | q <;> rw [q]
      · exact Nat.le_succ _
      · exact Nat.le_refl _
    exact J.fpOk ge (J.hok.fresh ge)
  rcases how with ⟨hx, q⟩ | ⟨hx, q⟩
  · obtain ⟨_, _, isL, _⟩ := J.list hx
    refine call_enumerate_list isL.isList fun g hz hj _ k => wpAny_pyIter_enum hz ?_
    exact ⟨_, _, _, _, H1, rfl, J.kept (t' := t.toks) k, turn_enum a _ _, ⟨⟨.none, hz⟩, hj, Nat.succ_ne_self _⟩, far, q⟩
  · obtain ⟨_, _, isT, _⟩ := J.tuple hx
    have lt := isT.lt
    refine call_enum isT fun g hz hj k => wpAny_pyIter_enum hz ?_
    exact ⟨_, _, _, _, H1, rfl, J.kept (t' := t.toks) k, turn_pair a _ _ (Nat.ne_of_lt lt) (Nat.ne_of_lt (Nat.lt_succ_of_lt lt)), ⟨⟨.none, hz⟩, hj, Nat.succ_ne_self _⟩, far, q⟩
end Kx
/-! A try with several clauses «except C as n»: each clause stores what was caught at its own place. -/
namespace Kx
open PySem PyProof.Rows L2 PySem.Spec

/-- an error that came down to this frame and whose flight is over; `old` is the state without it -/
structure Down (X : Cx) (pins : List (Addr × Obj)) (σ : L2.St) (H : Hp) (x : Addr) (cls : Value) (d : Option Addr) (G : Heap) (old now : Shared) : Prop where
  was : Inv X pins σ H old
  low : ∀ b o, old.heap.get? b = some o → b ∉ frs X.stack → G.get? b = some o
  up : old.heap.UpToSlots now.heap
  fly : HandSPX.FlyingZ G (X.env :: X.outer) x (Zc cls d) now.heap
  fresh : H x = none
  sys : now.os = old.os
  bare : AllBare now.gens
section
variable {X : Cx} {pins : List (Addr × Obj)} {σ : L2.St} {H : Hp} {x : Addr} {cls : Value} {d : Option Addr} {G : Heap} {old now : Shared}
theorem Down.inv (D : Down X pins σ H x cls d G old now) : Inv X pins σ H now := D.was.landed D.low D.fly.1 D.up D.sys D.bare
/-- the record, and that it is no frame -/
theorem Down.rec_ (D : Down X pins σ H x cls d G old now) (hf : X.env.frame = some X.env.locals) :
    ∃ (ob : Obj) (vs : Array Value), now.heap.get? x = some ob ∧ Zc cls d ob ∧ ob.data = .fields vs ∧ x ≠ X.env.locals ∧ x ∉ X.fs := by
  obtain ⟨ob, vs, h1, h2, h3⟩ := D.fly.there
  have out : x ∉ frs (X.env :: X.outer) := by
    intro hm
    obtain ⟨_, ob2, h4, h5⟩ := D.fly.2.2.1.mem hm
    rw [h1] at h4
    cases h4
    exact h5 _ h3
  refine ⟨ob, vs, h1, h2, h3, fun z => out ?_, fun hm => out ?_⟩
  · exact List.mem_filterMap.mpr ⟨_, List.mem_cons_self, by rw [hf, z]⟩
  · obtain ⟨e1, h6, h7⟩ := List.mem_filterMap.mp hm
    exact List.mem_filterMap.mpr ⟨e1, List.mem_cons_of_mem _ h6, h7⟩
/-- within a suite -/
theorem Down.held (D : Down X pins σ H x cls d G old now) (hf : X.env.frame = some X.env.locals) :
    ∃ ob : Obj, now.heap.get? x = some ob ∧ Zc cls d ob ∧ (∃ vs, ob.data = .fields vs) ∧ Inv (X.suite x ((x, ob) :: (X.pn ++ pins))) [] σ H now := by
  obtain ⟨ob, vs, h1, h2, h3, h4, h5⟩ := D.rec_ hf
  exact ⟨ob, h1, h2, ⟨vs, h3⟩, D.inv.suite h1 h3 D.fresh h4 h5⟩
/-- no clause takes it: it goes on -/
theorem Down.goes {pos : Pos} {E : Ends} {W : WX} (D : Down X pins σ H x cls d G old now) (hs : X.stack = X.env :: X.outer) (hf : X.env.frame = some X.env.locals) (tk : Takes X W) (hw : W cls d σ H) :
    wpAny (model X.prog X.w) X.A (handleBy (.ref x) X.env []) (SP X pins E) X.xe now := by
  obtain ⟨_, _, _, ob, vs, T, _, _, h1, _, h3, h4, _⟩ := D.fly
  have away : wpAny (model X.prog X.w) X.A (setFlight (.ref x) X.env.frame) (fun _ s => wpAny (model X.prog X.w) X.A (throw (.ref x) : Sem Flow) (SP X pins E) X.xe s) X.xe now := by
    rw [hf]
    refine HandSPX.setFlight_upZ D.fly fun h' held up' => wpAny_throw (tk _ _ ⟨x, G, old, pins, σ, H, cls, d, rfl, D.was, D.low, D.up.trans up', ?_, D.fresh, D.sys, D.bare, hw⟩)
    rw [hs]
    exact .inr (.inr held)
  refine wpAny_handleBy_nil (wpAny_bind (wpAny_field h1 h3 h4 ?_))
  have some_ : ¬ ((Value.ref T == Value.none) = true) := by simp
  rw [if_neg some_]
  first
    | exact wpAny_bind away
    | exact wpAny_bind (wpAny_pure (wpAny_bind away))
end
/-- one clause: the class it names, the place of its name, its suite's reading -/
abbrev Clause : Type := Value × Nat × (Addr → Value → Option Addr → TS)
/-- behind a suite the name at i is gone -/
def bare (E : Ends) (i : Nat) : Ends where
  nx := fun σ H => E.nx (σ.set i none) H
  rt := E.rt
  bk := fun σ H => E.bk (σ.set i none) H
  ct := fun σ H => E.ct (σ.set i none) H
/-- what is asked of an error that the body lets out -/
def asks (K : PySem.W.Frag) (W : WX) (E : Ends) : List Clause → WX
  | [] => W
  | k :: r => fun cls d σ H => ∃ y, PySem.W.exmOne K cls k.1 = some y ∧ (y = true → ∀ x, H x = none → k.2.2 x cls d (bare E k.2.1) (σ.set k.2.1 (some (.ref x))) H) ∧ (y = false → asks K W E r cls d σ H)
inductive Clauses (X : Cx) : List ExceptHandler → List Clause → Prop
  | nil : Clauses X [] []
  | cons {nm n : Str} {i : Nat} {c : Value} {t : Addr → Value → Option Addr → TS} {st : Stmt} {more : List Stmt} {p1 p2 : Pos} {hs : List ExceptHandler} {ks : List Clause} (nd : X.N.Nodup) (at_ : X.N[i]? = some n) (loc : X.env.kindOf n = some .local) (cl : Names X nm c)
      (su : ∀ (x : Addr) (ob : Obj) (cls : Value) (d : Option Addr) (pn : List (Addr × Obj)), Zc cls d ob → (∃ vs, ob.data = .fields vs) → PSs (X.suite x ((x, ob) :: pn)) (st :: more) (t x cls d)) (rest : Clauses X hs ks) :
      Clauses X (.ExceptHandler (some (.Name nm p1)) (some n) (st :: more) p2 :: hs) ((c, i, t) :: ks)
section
variable {X : Cx} {pins : List (Addr × Obj)} {σ : L2.St} {H : Hp} {x : Addr} {cls : Value} {d : Option Addr} {G : Heap} {old now : Shared} {E : Ends} {W : WX}
theorem name_there {nm : Str} {c : Value} {p1 : Pos} {ob : Obj} {Q E' : Value → Shared → Prop} (cl : Names X nm c) (J : Inv (X.suite x ((x, ob) :: (X.pn ++ pins))) [] σ H now) (q : Q c now) :
    wpAny (model X.prog X.w) (X.A.mark (some (.ref x))) (eval (.Name nm p1) X.env) Q E' now := by
  obtain ⟨g, db, m | ⟨m, b, nn⟩⟩ := cl
  · exact ld_glob J g m q db
  · exact ld_blt J g m b q nn db
theorem Down.clauses (D : Down X pins σ H x cls d G old now) (hs : X.stack = X.env :: X.outer) (hf : X.env.frame = some X.env.locals) (tk : Takes X W) {hds : List ExceptHandler} {ks : List Clause} (C : Clauses X hds ks) (w : asks X.K W E ks cls d σ H) :
    wpAny (model X.prog X.w) X.A (handleBy (.ref x) X.env hds) (SP X pins E) X.xe now := by
  induction C with
  | nil => exact D.goes (pos := ⟨0, 0, 0, 0⟩) hs hf tk w
  | @cons nm n i c t st more p1 p2 hs' ks' nd at_ loc cl su rest ih =>
    obtain ⟨y, hy, yes, no⟩ := w
    obtain ⟨ob, h1, h2, h3, J⟩ := D.held hf
    refine wpAny_handleBy_cons (codeAny_handlers_test (name_there cl J ?_)) (fun z => nomatch z)
    have ty : PySem.W.Looks (model X.prog X.w) now.heap (typeOf (.ref x)) cls := fun _ _ _ _ k q => wpAny_typeOf_ref (k _ _ h1) (by rw [h2.1]; exact q)
    refine (PySem.W.exm_one D.inv.kIn ty hy).here ?_
    cases y with
    | false => exact ih (no rfl)
    | true =>
      refine codeAny_handlers_suite_as (HandSPX.lands_againZ D.fly fun h' fl up' => ?_)
      have D' : Down X pins σ H x cls d G old { now with heap := h' } := ⟨D.was, D.low, D.up.trans up', fl, D.fresh, D.sys, D.bare⟩
      obtain ⟨ob', _, g2, g3, J'⟩ := D'.held hf
      refine store_ok (X := X.suite x ((x, ob') :: (X.pn ++ pins))) (v := .ref x) J' nd at_ (.inl loc) rfl (fun s2 J2 => ?_) (.inr loc)
      refine wpAny_mono ((su x ob' cls d (X.pn ++ pins) g2 g3).run [] s2 _ H _ J2 (yes rfl x D.fresh)) (fun f s3 hf3 => ?_) (fun _ _ z => z.elim)
      have gone : ∀ {σ3 : L2.St} {H3 : Hp} {R : Shared → Prop}, Inv (X.suite x ((x, ob') :: (X.pn ++ pins))) [] σ3 H3 s3 → (∀ s4, Inv X pins (σ3.set i none) H3 s4 → R s4) →
          wpAny (model X.prog X.w) X.A (do bindName X.env n .none; unbindBehindTheSuite X.env n p2) (fun _ s4 => R s4) X.xe s3 := fun J3 q => gone_ok (J3.unsuite D.was.ok) nd at_ loc q
      match f, hf3 with
      | .next, ⟨_, _, J3, q⟩ => exact gone J3 fun _ J4 => ⟨_, _, J4, q⟩
      | .brk, ⟨_, _, J3, q⟩ => exact gone J3 fun _ J4 => ⟨_, _, J4, q⟩
      | .cont, ⟨_, _, J3, q⟩ => exact gone J3 fun _ J4 => ⟨_, _, J4, q⟩
      | .ret _, ⟨_, _, _, J3, r, q⟩ => exact gone J3 fun _ J4 => ⟨_, _, _, J4, r, q⟩
end
/-- try: body / except C as n: .. / except D as m: .. -/
theorem ps_tries {X : Cx} {body : List Stmt} {hd : ExceptHandler} {hds : List ExceptHandler} {ks : List Clause} {pos : Pos} {tb : WX → TS} {W : WX} (hs : X.stack = X.env :: X.outer) (hf : X.env.frame = some X.env.locals) (tk : Takes X W)
    (hb : ∀ (U : WX) (pn : List (Addr × Obj)) (xe : Value → Shared → Prop), Takes (X.tr pn xe) U → PassesOwn (model X.prog X.w) X.A X.env xe → PSs (X.tr pn xe) body (tb U)) (C : Clauses X (hd :: hds) ks) :
    PS X (.Try body (hd :: hds) [] [] pos) (fun E σ H => tb (asks X.K W E ks) E σ H) := by
  refine ⟨fun pins s σ H E I h => wpAny_Try_except ?_⟩
  have top : X.A.frames = some (X.env :: X.outer) := by rw [I.ok.frames, hs]
  have inner := hb (asks X.K W E ks) (X.pn ++ pins) (fun e s1 => wpAny (model X.prog X.w) X.A (noteFrame e X.env) (fun _ s2 => wpAny (model X.prog X.w) X.A (setFlight e none)
    (fun _ s3 => wpAny (model X.prog X.w) X.A (handleBy e X.env (hd :: hds)) (SP X pins E) X.xe s3) X.xe s2) X.xe s1) ?_ PassesOwn.looking
  · refine wpAny_mono (inner.run [] s σ H E (I.toTry _) h) (fun f s1 q => ?_) (fun _ _ z => z)
    match f, q with
    | .next, ⟨_, _, J, q⟩ => exact wpAny_execs_nil ⟨_, _, J.ofTry I.ok, q⟩
    | .brk, ⟨_, _, J, q⟩ => exact ⟨_, _, J.ofTry I.ok, q⟩
    | .cont, ⟨_, _, J, q⟩ => exact ⟨_, _, J.ofTry I.ok, q⟩
    | .ret _, ⟨_, _, _, J, r, q⟩ => exact ⟨_, _, _, J.ofTry I.ok, r, q⟩
  · rintro u s1 ⟨x, G, old, _, σ1, H1, cls, d, rfl, J, low, up, sky, fr, sys, bare, w⟩
    rw [show (X.tr (X.pn ++ pins) _).stack = X.env :: X.outer from hs] at sky
    refine Sky.land Zc.steady top hf sky fun h' fl up' => ?_
    exact Down.clauses (now := { s1 with heap := h' }) ⟨J.ofTry I.ok, low, up.trans up', fl, fr, sys, bare⟩ hs hf tk C w
end Kx
/-! Sequences, values of any known kind, calls by a bundle of facts. -/
namespace Kx
open L2 PySem PySem.Spec PyProof.Rows
section
variable {K : PySem.W.Frag} {H H' : Hp} {a b : Addr} {xs ys : List V} {o : HO}
theorem rd_same (e : Same H H') {u : HO} (h : Rd H a u) : Rd H' a u := h.elim (fun q => .inl (e _ _ q)) fun ⟨z, q⟩ => .inr ⟨z, e _ _ q⟩
theorem sqL_same (e : Same H H') (h : SqL K H a xs) : SqL K H' a xs := h.elim (fun q => .inl (rd_same e q)) .inr
theorem sqT_same (e : Same H H') (h : SqT K H a xs) : SqT K H' a xs := h.elim (fun q => .inl (rd_same e q)) .inr
theorem Sq.same (e : Same H H') (h : Sq K H a xs) : Sq K H' a xs := h.elim (fun q => .inl (sqL_same e q)) fun q => .inr (sqT_same e q)
theorem rd_upd (ne : a ≠ b) {u : HO} (h : Rd H a u) : Rd (upd H b o) a u := h.elim (fun q => .inl (by rw [upd_ne ne]; exact q)) fun ⟨z, q⟩ => .inr ⟨z, by rw [upd_ne ne]; exact q⟩
theorem sqL_upd (ne : a ≠ b) (h : SqL K H a xs) : SqL K (upd H b o) a xs := h.elim (fun q => .inl (rd_upd ne q)) .inr
theorem sqT_upd (ne : a ≠ b) (h : SqT K H a xs) : SqT K (upd H b o) a xs := h.elim (fun q => .inl (rd_upd ne q)) .inr
theorem Sq.upd (ne : a ≠ b) (h : Sq K H a xs) : Sq K (L2.upd H b o) a xs := h.elim (fun q => .inl (sqL_upd ne q)) fun q => .inr (sqT_upd ne q)
theorem same_new (h : H b = none) : Same H (upd H b o) := fun c u q => by
  rw [upd_ne (ne_of_none q h)]
  exact q
end
/-! ### loops over a list or a tuple -/
/-- the end of a loop's word: W by a word of the turn -/
theorem for_by {J : It} {n : Nat} {g : TG} {tb : TS} {D : Ends} {σ : L2.St} {H : Hp} (Pv : Nat → L2.St → Hp → Prop) (h0 : Pv 0 σ H)
    (go : ∀ i σ H, i < n → Pv i σ H → J.go i H ∧ ∀ x H', J.yld i H x H' → g x σ H' fun σ2 H2 => tb { D with nx := Pv (i + 1), ct := Pv (i + 1), bk := D.nx } σ2 H2)
    (stop : ∀ σ H, Pv n σ H → J.stop n H ∧ D.nx σ H) :
    ∃ W : Nat → Nat → L2.St → Hp → Prop, (∃ m, W 0 m σ H) ∧ ∀ i m σ H, W i m σ H → (J.stop i H ∧ D.nx σ H) ∨ (J.go i H ∧ ∃ N : L2.St → Hp → Prop, (∀ σ' H', N σ' H' → ∃ m', m' < m ∧ W (i + 1) m' σ' H') ∧ ∀ x H', J.yld i H x H' → g x σ H' fun σ2 H2 => tb { D with nx := N, ct := N, bk := D.nx } σ2 H2) := by
  refine ⟨fun i m σ H => m = n - i ∧ i ≤ n ∧ Pv i σ H, ⟨n, rfl, Nat.zero_le n, h0⟩, ?_⟩
  rintro i m σ H ⟨rfl, le, p⟩
  rcases Nat.lt_or_eq_of_le le with lt | rfl
  · obtain ⟨g1, g2⟩ := go i σ H lt p
    exact .inr ⟨g1, Pv (i + 1), fun σ' H' p' => ⟨n - (i + 1), by omega, rfl, lt, p'⟩, g2⟩
  · exact .inl (stop σ H p)
abbrev forR (g : TG) (tb : TS) (D : Ends) (σ : L2.St) : It → Hp → Prop := fun J H => ∃ W : Nat → Nat → L2.St → Hp → Prop, (∃ m, W 0 m σ H) ∧ ∀ i m σ H, W i m σ H →
  (J.stop i H ∧ D.nx σ H) ∨ (J.go i H ∧ ∃ N : L2.St → Hp → Prop, (∀ σ' H', N σ' H' → ∃ m', m' < m ∧ W (i + 1) m' σ' H') ∧ ∀ x H', J.yld i H x H' → g x σ H' fun σ2 H2 => tb { D with nx := N, ct := N, bk := D.nx } σ2 H2)
/-- for i, x in enumerate(xs) -/
theorem for_pairs {K : PySem.W.Frag} {a : Addr} {xs : List V} {g : TG} {tb : TS} {D : Ends} {σ : L2.St} {H : Hp} (hx : Sq K H a xs) (Pv : Nat → L2.St → Hp → Prop) (h0 : Pv 0 σ H) (hs : ∀ i σ' H', Pv i σ' H' → Same H H')
    (turn : ∀ (i : Nat) (x : V) (p : Addr) σ' H', xs[i]? = some x → Pv i σ' H' → H' p = none → g (.ref p) σ' (upd H' p (.tup [.int (i : Int), x])) fun σ2 H2 => tb { D with nx := Pv (i + 1), ct := Pv (i + 1), bk := D.nx } σ2 H2)
    (hd : ∀ σ' H', Pv xs.length σ' H' → D.nx σ' H') : (SqL K H a xs ∧ forR g tb D σ (Ite K a) H) ∨ (SqT K H a xs ∧ forR g tb D σ (ItPair K a) H) := by
  refine hx.imp (fun q => ⟨q, for_by (n := xs.length) Pv h0 ?_ ?_⟩) fun q => ⟨q, for_by (n := xs.length) Pv h0 ?_ ?_⟩
  · intro i σ' H' lt p
    have q' := sqL_same (hs i σ' H' p) q
    refine ⟨⟨xs, xs[i], q', List.getElem?_eq_getElem lt⟩, ?_⟩
    rintro v H2 ⟨pr, x, rfl, hn, rfl, hx⟩
    exact turn i x pr σ' H' (hx xs q') p hn
  · exact fun σ' H' p => ⟨⟨xs, sqL_same (hs _ σ' H' p) q, Nat.le_refl _⟩, hd σ' H' p⟩
  · intro i σ' H' lt p
    have q' := sqT_same (hs i σ' H' p) q
    refine ⟨⟨xs, xs[i], q', List.getElem?_eq_getElem lt⟩, ?_⟩
    rintro v H2 ⟨pr, x, rfl, hn, rfl, hx⟩
    exact turn i x pr σ' H' (hx xs q') p hn
  · exact fun σ' H' p => ⟨⟨xs, sqT_same (hs _ σ' H' p) q, Nat.le_refl _⟩, hd σ' H' p⟩
/-- for x in xs, xs a list or a tuple -/
def iAny (K : PySem.W.Frag) (tl : TE) : TI := fun σ H R => tl σ H fun x H1 => ∃ (a : Addr) (xs : List V), x = .ref a ∧ ((SqL K H1 a xs ∧ R (Itl K a) H1) ∨ (SqT K H1 a xs ∧ R (Itt K a) H1))
theorem pi_any {X : Cx} {tg e : Expr} {te : TE} (he : PE X e te) : PI X tg e (iAny X.K te) := by
  refine ⟨fun pins s σ H R I h => thn (he.run pins s σ H _ I h) fun u t ⟨x, H1, J, rx, a, xs, ex, how⟩ => ?_⟩
  subst ex
  obtain rfl := (show u = Value.ref a from rx)
  have far : ∀ b ∈ [t.heap.objs.size], FpOk X pins H1 b := fun b hb => by
    obtain rfl := (show b = t.heap.objs.size by simpa using hb)
    exact J.fpOk (Nat.le_refl _) (J.hok.fresh (Nat.le_refl _))
  have kept : ∀ (o : Obj) (b : Addr) (v : Obj), t.heap.get? b = some v → (t.heap.push o).get? b = some v := fun o b v z => Heap.get?_push_of_some _ z
  have new : ∀ (o : Obj), o.isFreed = false → (t.heap.push o).get? t.heap.objs.size = some o := fun o z => Heap.get?_push_size _ z
  rcases how with ⟨hx, q⟩ | ⟨hx, q⟩
  · obtain ⟨_, _, isL, _⟩ := J.list hx
    exact wpAny_pyIter_list isL.isList ⟨_, _, _, _, H1, rfl, J.kept (t' := t.toks) (kept _), turn_list a _, ⟨_, new _ rfl, rfl, rfl⟩, far, q⟩
  · obtain ⟨_, vs, isT, _⟩ := J.tuple hx
    exact wpAny_pyIter_tuple isT ⟨_, _, _, _, H1, rfl, J.kept (t' := t.toks) (kept _), turn_tuple a _, ⟨_, new _ rfl, rfl, rfl⟩, far, q⟩
theorem for_any {K : PySem.W.Frag} {a : Addr} {xs : List V} {g : TG} {tb : TS} {D : Ends} {σ : L2.St} {H : Hp} (hx : Sq K H a xs) (Pv : Nat → L2.St → Hp → Prop) (h0 : Pv 0 σ H)
    (hl : ∀ i σ' H', Pv i σ' H' → SqL K H a xs → SqL K H' a xs) (ht : ∀ i σ' H', Pv i σ' H' → SqT K H a xs → SqT K H' a xs)
    (turn : ∀ (i : Nat) (x : V) σ' H', xs[i]? = some x → Pv i σ' H' → g x σ' H' fun σ2 H2 => tb { D with nx := Pv (i + 1), ct := Pv (i + 1), bk := D.nx } σ2 H2)
    (hd : ∀ σ' H', Pv xs.length σ' H' → D.nx σ' H') : (SqL K H a xs ∧ forR g tb D σ (Itl K a) H) ∨ (SqT K H a xs ∧ forR g tb D σ (Itt K a) H) := by
  refine hx.imp (fun q => ⟨q, for_by (n := xs.length) Pv h0 ?_ ?_⟩) fun q => ⟨q, for_by (n := xs.length) Pv h0 ?_ ?_⟩
  · intro i σ' H' lt p
    have q' := hl i σ' H' p q
    refine ⟨⟨xs, xs[i], q', List.getElem?_eq_getElem lt⟩, ?_⟩
    rintro v H2 ⟨rfl, hv⟩
    exact turn i v σ' _ (hv xs q') p
  · exact fun σ' H' p => ⟨⟨xs, hl _ σ' H' p q, Nat.le_refl _⟩, hd σ' H' p⟩
  · intro i σ' H' lt p
    have q' := ht i σ' H' p q
    refine ⟨⟨xs, xs[i], q', List.getElem?_eq_getElem lt⟩, ?_⟩
    rintro v H2 ⟨rfl, hv⟩
    exact turn i v σ' _ (hv xs q') p
  · exact fun σ' H' p => ⟨⟨xs, ht _ σ' H' p q, Nat.le_refl _⟩, hd σ' H' p⟩
/-! ### values of a known kind -/
/-- v is no object, or a list, or a tuple -/
inductive Kn (K : PySem.W.Frag) (H : Hp) : V → Prop
  | non : Kn K H .non
  | bl (b : Bool) : Kn K H (.bl b)
  | int (i : Int) : Kn K H (.int i)
  | str (x : Str) : Kn K H (.str x)
  | seq {a : Addr} {xs : List V} (h : Sq K H a xs) : Kn K H (.ref a)
theorem Kn.same {K : PySem.W.Frag} {H H' : Hp} {v : V} (e : Same H H') (h : Kn K H v) : Kn K H' v := by
  cases h with
  | non => exact .non
  | bl b => exact .bl b
  | int i => exact .int i
  | str x => exact .str x
  | seq q => exact .seq (q.same e)
theorem tyx_list {K : PySem.W.Frag} {H : Hp} {a : Addr} {xs : List V} (h : SqL K H a xs) : TyX K H (.ref a) (.type "list") := by
  rcases h with (q | ⟨o, q⟩) | q
  · exact .base (.lst q)
  · exact .base (.frz q)
  · obtain ⟨_, _, _, q, r, _⟩ := q
    exact .kList q r
theorem tyx_tuple {K : PySem.W.Frag} {H : Hp} {a : Addr} {xs : List V} (h : SqT K H a xs) : TyX K H (.ref a) (.type "tuple") := by
  rcases h with (q | ⟨o, q⟩) | q
  · exact .base (.tup q)
  · exact .fTuple q
  · obtain ⟨_, _, _, q, r, _⟩ := q
    exact .kTuple q r
/-! ### a def that is known: its name, where it stands, what it takes, what it promises -/
structure Cal (P : Program) (w : World) (K : PySem.W.Frag) (mg : Str → Option Value) (base : Heap) (CX : CXT) (k : Nat) (x : Str) (ps : List Str) (sp : Sp) : Prop where
  ex : ∃ (f : Addr) (fd : FuncData), mg x = some (.ref f) ∧ PySem.W.keepIn K (.ref f) = true ∧ Binds K fd ps [] ∧ FnOk P w K mg base CX k f fd ps sp
section
variable {X : Cx} {CX : CXT} {k j : Nat} {x : Str} {ps : List Str} {sp : Sp} {e : Expr} {es : List Expr} {t : TA} {E : XK} {p pos : Pos}
theorem pe_callC (c : Cal X.prog X.w X.K X.mg X.base CX k x ps sp) (hr : Room j X.A) (hx : Passes CX X E) (ha : PA X (e :: es) t) (hk : k ≤ j := by decide) (hg : Gl X x := by rfl) (hdb : (x == ("__debug__" : Str)) = false := by decide)
    (he : starEach (e :: es) X.env = (false, eval e X.env) :: starEach es X.env := by rfl) (hpl : (backTo pos (starEach es X.env)).any (·.1) = false := by rfl) : PE X (.Call (.Name x p) (e :: es) [] pos) (tCall sp [] E t) := by
  obtain ⟨f, fd, h1, h2, h3, h4⟩ := c.ex
  exact pe_call h4 (hr.mono hk) hg h1 h2 h3 .nil hx ha hdb he hpl
end
end Kx
/-! defs that show a container as a text: their promise holds where no built-in that guards itself runs around. repr of data. -/
namespace Kx
open L2 PySem PySem.Spec PyProof.Rows
/-- nothing that guards itself runs around -/
abbrev Lone (A : Around) : Prop := A.guards = some []
structure FnG (P : Program) (w : World) (K : PySem.W.Frag) (mg : Str → Option Value) (base : Heap) (CX : CXT) (k : Nat) (f : Addr) (fd : FuncData) (ps : List Str) (sp : Sp) : Prop where
  len : ∀ vs H Q E, sp vs H Q E → List.length vs = ps.length
  run : ∀ (A : Around) (outer : List Env) (s : Shared) (H : Hp) (args : Args) (us : List Value) (vs : List V) (Q : VK) (E : XK), Room k A → Lone A → Env0 P w K mg base A outer s H → BindsTo s fd args (ps.zip us) → Vals vs us → sp vs H Q E → codeAny (model P w) A (.call (.ref f) args) (CR CX outer P w H s Q E) s
theorem FnG.of {P : Program} {w : World} {K : PySem.W.Frag} {mg : Str → Option Value} {base : Heap} {CX : CXT} {k : Nat} {f : Addr} {fd : FuncData} {ps : List Str} {sp : Sp} (F : FnOk P w K mg base CX k f fd ps sp) : FnG P w K mg base CX k f fd ps sp :=
  ⟨F.len, fun A outer s H args us vs Q E hr _ he hb hv hs => F.run A outer s H args us vs Q E hr he hb hv hs⟩
section
variable {P : Program} {w : World} {K : PySem.W.Frag} {mg : Str → Option Value} {base : Heap} {f : Addr} {fd : FuncData} {x qual : Str} {params : Arguments} {body : List Stmt} {scope : Scope} {dvs : List V} {kws : List (Str × V)}
/-- a def's body: what stands around is alone -/
theorem okG {CX : CXT} {N ps : List Str} {k : Nat} {sp : Sp} (F : FunD K x qual params body scope dvs kws f fd) (S : FnScope N ps scope) (len : ∀ vs H Q E, sp vs H Q E → vs.length = ps.length)
    (hbody : ∀ (cdv : Value) (A : Around) (outer : List Env) (s : Shared) (H : Hp) (vs : List V) (Q : VK) (E : XK), Lone A → PySem.W.codeIn K cdv qual = true → Room k (A.deeper (envOfC qual scope s.heap.objs.size f cdv)) → sp vs H Q E →
      ∃ t, PSs (cxOf CX P w K mg base N qual scope f cdv A outer s H E) body t ∧ t { nx := fun _ H' => Q .non H', rt := Q } (start N vs) H) : FnG P w K mg base CX (k + 1) f fd ps sp := by
  obtain ⟨oc, od, dV, kV, doc, pm, an, cdv, ct, osl, rfl, lk, hcd, -, -⟩ := F.ex
  exact ⟨len, fun A outer s H args us vs Q E hr lone e0 hb hv hs => LamX.run_ofS lk hcd S hr e0 hb hv (len _ _ _ _ hs) fun hr' => hbody cdv A outer s H vs Q E lone hcd hr' hs⟩
end
structure CalG (P : Program) (w : World) (K : PySem.W.Frag) (mg : Str → Option Value) (base : Heap) (CX : CXT) (k : Nat) (x : Str) (ps : List Str) (sp : Sp) : Prop where
  ex : ∃ (f : Addr) (fd : FuncData), mg x = some (.ref f) ∧ PySem.W.keepIn K (.ref f) = true ∧ Binds K fd ps [] ∧ FnG P w K mg base CX k f fd ps sp
section
variable {X : Cx} {CX : CXT} {k j : Nat} {x : Str} {ps : List Str} {sp : Sp} {e : Expr} {es : List Expr} {t : TA} {E : XK} {p pos : Pos}
theorem pe_callG (c : CalG X.prog X.w X.K X.mg X.base CX k x ps sp) (hr : Room j X.A) (lone : Lone X.A) (hx : Passes CX X E) (ha : PA X (e :: es) t) (hk : k ≤ j := by decide) (hg : Gl X x := by rfl) (hdb : (x == ("__debug__" : Str)) = false := by decide)
    (he : starEach (e :: es) X.env = (false, eval e X.env) :: starEach es X.env := by rfl) (hnp : (backTo pos (starEach es X.env)).any (·.1) = false := by rfl) :
    PE X (.Call (.Name x p) (e :: es) [] pos) (tCall sp [] E t) := by
  obtain ⟨f, fd, at_, keep, binds, F⟩ := c.ex
  refine ⟨fun pins s σ H Q I h => wpAny_Call_Name_kw (ld_glob I hg at_ ?_ hdb)⟩
  refine PySem.W.callWith_K (h₀ := X.base) I.ok.mod.kin keep (thn (ha.run pos pins s σ H _ I h) fun us s1 ⟨vs, H1, J, rel, q⟩ => ⟨J.kIn, ?_⟩) he hnp
  have q : sp (vs ++ []) H1 Q E := q
  rw [List.append_nil] at q
  have n : (us ++ []).length = ps.length := by
    rw [List.append_nil, ← rel.length]
    exact F.len _ _ _ _ q
  have b := binds s1 us J.kIn n
  rw [List.append_nil] at b
  refine wpAny_call (codeAny_mono (F.run X.A X.stack s1 H1 ⟨us, []⟩ us vs Q E (hr.mono hk) lone J.env0 b rel q) fun r s2 z => ?_)
  match r, z with
  | .error _, z => exact hx pins σ H1 s1 _ s2 J z
  | .ok (.ret _), z => exact J.after z
  | .ok .next, z => exact z.elim
  | .ok .brk, z => exact z.elim
  | .ok .cont, z => exact z.elim
end
/-! ### repr of data -/
/-- the text that shows v -/
def rShow (K : PySem.W.Frag) : List V → Hp → VK → Prop := fun vs H Q => ∃ (v : V) (d : PyData), vs = [v] ∧ Dp K H v d ∧ d.showable = true ∧ d.hasDict = false ∧ d.depth ≤ 60 ∧ d.shown.length ≤ sizeLine ∧ Q (.str d.shown) H
theorem call_show {X : Cx} (lone : Lone X.A) (hu : X.A.units + 64 < cLine) : CallR X (.builtin "repr") (rShow X.K) := by
  intro pins s σ H vs us Q I rel h
  obtain ⟨v, d, rfl, data, sh, nd, dep, fit, q⟩ := h
  obtain ⟨u, rfl, ru⟩ := vals1 rel
  obtain ⟨as, reads⟩ := Dp.reads I d v u data ru
  have fin : ∀ (h' : Heap) (z : Tok) (tk : Nat), (∀ b o, s.heap.get? b = some o → h'.get? b = some o) → EP X pins σ Q (.str d.shown z) { s with heap := h', toks := tk } := fun h' z tk keep => ⟨.str d.shown, H, I.kept keep, ⟨z, rfl⟩, q⟩
  cases data with
  | lst hs ha =>
    cases (show u = Value.ref _ from ru)
    exact repr_of_reads' reads sh (PyData.noDict_hsm nd) lone (by omega) (fun _ _ z => z) fin fit
  | tup hs ha =>
    cases (show u = Value.ref _ from ru)
    exact repr_of_reads' reads sh (PyData.noDict_hsm nd) lone (by omega) (fun _ _ z => z) fin fit
  | non =>
    cases (show u = Value.none from ru)
    exact PySem.P.repr_of_none (fin s.heap _ _ fun _ _ z => z)
  | bl b =>
    cases (show u = Value.bool b from ru)
    exact PySem.P.repr_of_bool (fin s.heap _ _ fun _ _ z => z)
  | int i =>
    obtain ⟨z, rfl⟩ := (show ∃ z, u = Value.int i z from ru)
    exact PySem.P.repr_of_int (of_decide_eq_true sh) (fin s.heap _ _ fun _ _ z => z)
  | str y =>
    obtain ⟨z, rfl⟩ := (show ∃ z, u = Value.str y z from ru)
    exact PySem.P.repr_of_str (fin s.heap _ _ fun _ _ z => z) fit
end Kx
/-! own errors of one field, over an own base over ValueError: «self.f = f» alone. -/
namespace Kx
open L2 PySem PySem.Spec PyProof.Rows
/-- __init__ keeps the one thing in f -/
def spKeep (K : PySem.W.Frag) (C : Addr) (f : Str) : Sp := fun vs H Q _ => ∃ (a : Addr) (v : V), vs = [.ref a, v] ∧ H a = some (exo a C none) ∧
  ∀ dx, H dx = none → dx ≠ a → Q .non (upd (upd H dx (exd dx [(f, v)])) a (exo a C (some dx)))
/-- what the module holds of such a class: at C, its __init__ at fI -/
structure ErrC (P : Program) (w : World) (K : PySem.W.Frag) (mg : Str → Option Value) (base : Heap) (k : Nat) (x f : Str) (C : Addr) : Prop where
  at_ : mg x = some (.ref C)
  cls : OexC K C
  no : PySem.W.findIn K (.ref C) f = some none
  ini : ∃ (fI : Addr) (fd : FuncData), PySem.W.findIn K (.ref C) "__init__" = some (some (.ref fI)) ∧ PySem.W.typeIn K (.ref fI) = some (.type "function") ∧ Binds K fd ["self", f] [] ∧ FnOk P w K mg base CX0 k fI fd ["self", f] (spKeep K C f)
theorem heap_made {fs : List (Str × V)} {H : Hp} {a d : Addr} {u v z : HO} (ha : H a = none) (hne : d ≠ a) : upd (del (upd (upd (upd H a u) d v) a z) a) d (.xd fs) = upd H d (.xd fs) := by
  funext b
  by_cases e1 : b = d
  · rw [e1, upd_same, upd_same]
  · rw [upd_ne e1, upd_ne e1]
    by_cases e2 : b = a
    · rw [e2, del_same, ha]
    · rw [del_ne e2, upd_ne e2, upd_ne e1, upd_ne e2]
/-- raise C(e): what is asked behind e -/
theorem thrown {K : PySem.W.Frag} {C : Addr} {f : Str} {v : V} {H : Hp} {R : XK} (h : ∀ d, H d = none → R (.ref C) (some d) (upd H d (.xd [(f, v)]))) :
    [v].length ≤ 1000 ∧ ∀ a, H a = none → spKeep K C f (.ref a :: ([v] ++ [])) (upd H a (exo a C none))
      (fun y H2 => y = .non ∧ ∃ (d : Addr) (fs : List (Str × V)), H2 a = some (exo a C (some d)) ∧ H2 d = some (exd d fs) ∧ H d = none ∧ R (.ref C) (some d) (upd (del H2 a) d (.xd fs))) (fun _ _ _ => False) := by
  refine ⟨Nat.succ_le_of_lt (by simp), fun a ha => ⟨a, v, rfl, upd_same, fun d hd ne => ⟨rfl, d, [(f, v)], upd_same, ?_, ?_, ?_⟩⟩⟩
  · rw [upd_ne ne, upd_same]
  · rwa [upd_ne ne] at hd
  · rw [heap_made ha ne]
    rw [upd_ne ne] at hd
    exact h d hd
section
variable {X : Cx} {k j : Nat} {x f : Str} {C : Addr} {e : Expr} {ta : TA} {W : WX} {p pos p2 : Pos}
theorem ps_throw (T : ErrC X.prog X.w X.K X.mg X.base k x f C) (hc : X.calm = true) (hr : Room j X.A) (tk : Takes X W) (ha : PA X [e] ta) (hk : k + 1 ≤ j := by decide) (hg : Gl X x := by rfl) (hdb : (x == ("__debug__" : Str)) = false := by decide)
    (he : starEach (e :: []) X.env = (false, eval e X.env) :: starEach [] X.env := by rfl) (hpl : (backTo pos (starEach [] X.env)).any (·.1) = false := by rfl) :
    PS X (.Raise (some (.Call (.Name x p) [e] [] pos)) none p2) (fun _ σ H => tMkO C (spKeep X.K C f) [] ta σ H fun cls d H' => W cls d σ H') := by
  obtain ⟨fI, fd, h1, h2, h3, h4⟩ := T.ini
  exact ps_raise (pos := p2) hc tk (pmk_oex (p := p) (pos := pos) (es := []) T.cls h1 h2 h4 (hr.mono hk) h3 .nil pass0 hg T.at_ ha hdb he hpl)
end
/-! ### the init itself -/
theorem ok_keep {P : Program} {w : World} {K : PySem.W.Frag} {mg : Str → Option Value} {base : Heap} {C fI : Addr} {fd : FuncData} {f qual : Str} {params : Arguments} {scope : Scope} {p1 p2 p3 p4 : Pos}
    (F : FunD K "__init__" qual params [.Assign [.Attribute (.Name "self" p1) f p2] (.Name f p3) p4] scope [] [] fI fd) (T : OexC K C) (no : PySem.W.findIn K (.ref C) f = some none)
    (sc : FnScope ["self", f] ["self", f] scope) (hd : (f == ("__debug__" : Str)) = false) (hcd : (f == ("__classdict__" : Str)) = false) (l0 : scope.names.lookup ("self" : Str) = some .local) (l1 : scope.names.lookup f = some .local) :
    FnOk P w K mg base CX0 1 fI fd ["self", f] (spKeep K C f) := by
  refine F.ok sc (fun vs H Q E h => ?_) (fun cdv A outer s H vs Q E hr h => ?_)
  · obtain ⟨a, v, rfl, _⟩ := h
    rfl
  · obtain ⟨a, v, rfl, ha, k⟩ := h
    refine ⟨_, pss_one (ps_ost (pe_var (i := 0) rfl (.inl l0)) (pe_var (i := 1) rfl (.inl l1) hd hcd)), ?_⟩
    exact ⟨_, rfl, _, rfl, a, C, rfl, T, no, .inl ⟨ha, fun dx n1 n2 => k dx n1 n2⟩⟩
end Kx
/-! own errors right over KeyError (made by LookupError's maker), with an own __init__. -/
namespace Kx
open PySem PySem.W PySem.Calls PyProof.Rows PySem.HandSPX
abbrev keyTail : List Value := [.type "KeyError", .type "LookupError", .type "Exception", .type "BaseException", .type "object"]
abbrev keyObj (nm q : Str) (C N : Addr) (bs : List Value) (sn : List Str) (sub : List Value) (ab : Bool) (col : Option Bool) (dd : Option Addr) (k0 k1 k2 k3 k5 : Option Value) : Obj :=
  excClassObj nm q C N bs keyTail true sn sub ab col dd k0 k1 k2 k3 k5 "LookupError.__new__"
theorem in_tail {C : Addr} {n : String} {b : Bool} (h : keyTail.contains (.type n) = b) : (Value.ref C :: keyTail).contains (.type n) = b := by
  rw [List.contains_cons, h]
  rfl
section
variable {h : Heap} {g : Array GenState} {d : Drawn} {t : Nat} {os : OsState} {prog : Program} {w : World} {A : Around} {R : Result → Shared → Prop} {E : Value → Shared → Prop}
variable {nm q : Str} {C N : Addr} {bs : List Value} {sn : List Str} {sub : List Value} {ab : Bool} {col : Option Bool} {dd : Option Addr} {k0 k1 k2 k3 k5 : Option Value} {more : List Value}
theorem key_check {M : Model} {Q : Unit → Shared → Prop} (stands : h.get? C = some (keyObj nm q C N bs sn sub ab col dd k0 k1 k2 k3 k5)) (done : Q () ⟨h, g, d, t, os⟩) :
    wpAny M A (checkBuiltinCall "LookupError.__new__" ⟨.ref C :: more, []⟩) Q E ⟨h, g, d, t, os⟩ := by
  have isB : (Value.ref C :: keyTail).contains (.type "LookupError") = true := in_tail (by decide +kernel)
  have short := PySem.F.excBase_LookupError.noStar
  simp only [checkBuiltinCall, PySem.F.excBase_LookupError.newKind, PySem.F.excBase_LookupError.newSplit, PySem.F.excBase_LookupError.newRow]
  repeat (first
    | refine wpAny_loadPart_at stands ?_
    | (refine wpAny_isSubtype_exc stands ?_; rw [isB])
    | refine wpAny_staticBase_exc stands ?_
    | refine wpAny_madeBy_exc stands ?_
    | simp only [bne_self_eq_false, Bool.false_eq_true, if_false]
    | wp_step)
  exact done
theorem key_new (stands : h.get? C = some (keyObj nm q C N bs sn sub ab col dd k0 k1 k2 k3 k5)) (fits : more.length ≤ sizeLine)
    (done : R (.ok (.ret (.ref (h.objs.size + 1)))) ⟨(h.push (kdv_tup more)).push (excO C h.objs.size), g, d, t, os⟩) : codeAny (model prog w) A (.builtin "LookupError.__new__" ⟨.ref C :: more, []⟩) R ⟨h, g, d, t, os⟩ := by
  have ends := PySem.F.excBase_LookupError.ends
  have isB : (Value.ref C :: keyTail).contains (.type "LookupError") = true := in_tail (by decide +kernel)
  have noA : (Value.ref C :: keyTail).contains (.type "AttributeError") = false := in_tail (by decide +kernel)
  have noN : (Value.ref C :: keyTail).contains (.type "NameError") = false := in_tail (by decide +kernel)
  refine codeAny_builtinAt PySem.F.excBase_LookupError.entry ?_
  unfold Builtin.«BaseException.__new__»; refine PySem.wpAt_bind ?_
  show PySem.wpAt _ _ _ (stack >>= _) _ _ _
  refine PySem.wpAt_bind (PySem.wpAt_stack fun _ _ => PySem.wpAt_of_wpAny ?_)
  wp_walk
  refine PySem.wpAt_of_wpAny ?_
  rw [PySem.F.excBase_LookupError.owner]
  repeat (first
    | with_reducible refine wpAny_madeHere_exc PySem.F.excBase_LookupError.canon stands ?_
    | with_reducible refine wpAny_loadPart_at stands ?_
    | (with_reducible refine wpAny_isSubtype_exc stands ?_; first | rw [isB] | rw [noA] | rw [noN])
    | wp_step)
  show R _ _
  rw [Heap.size_push]
  exact done
theorem key_call {fI : Addr} (stands : h.get? C = some (keyObj nm q C N bs sn sub ab col dd k0 k1 k2 k3 k5)) (hi : Looks (model prog w) h (typeLookup (.ref C) "__init__") (some (.ref fI)))
    (hb : ∀ self, Looks (model prog w) h (bindSpecial (.ref fI) self) (.ref fI, [self])) (fits : more.length ≤ sizeLine)
    (done : codeAny (model prog w) (A.under (.builtin "type.__call__" ⟨.ref C :: more, []⟩)) (.call (.ref fI) ⟨.ref (h.objs.size + 1) :: more, []⟩) (InitBack (h.objs.size + 1) R) ⟨(h.push (kdv_tup more)).push (excO C h.objs.size), g, d, t, os⟩) :
    codeAny (model prog w) A (.call (.ref C) ⟨more, []⟩) R ⟨h, g, d, t, os⟩ := by
  have l1 := tc_lookup
  have l2 := tc_bind (.ref C)
  have isTy : (⟨h, g, d, t, os⟩ : Shared).TypeIs (.ref C) "type" := ⟨_, stands, rfl⟩
  have all : ∀ b o, h.get? b = some o → ((h.push (kdv_tup more)).push (excO C h.objs.size)).get? b = some o := fun b o z => Heap.get?_push_of_some _ (Heap.get?_push_of_some _ z)
  refine codeAny_of_tree ?_
  show wpAny _ _ (callAny (.ref C) _) _ _ _; repeat (any_goals (first | assumption | with_reducible refine wpAny_loadPart_at stands ?_ | wp_step))
  refine ⟨rfl, ?_⟩
  refine codeAny_call_builtin_at (Code.quiet_builtin _ (by decide +kernel)) entry_typeCall (wpAny_check_type_call_sub stands ?_)
  repeat (first | with_reducible refine wpAny_loadPart_at stands ?_ | with_reducible refine wpAny_madeBy_exc stands ?_ | wp_step)
  refine codeAny_call_builtin_code (Code.quiet_builtin _ PySem.F.excBase_LookupError.quiet) (key_check stands (key_new stands fits ?_))
  show wpAny _ _ _ _ _ _
  have hC1 := all _ _ stands
  have made : ((h.push (kdv_tup more)).push (excO C h.objs.size)).get? (h.objs.size + 1) = some (excO C h.objs.size) := by heap_get
  have own : (Value.ref C :: keyTail).contains (.ref C) = true := by simp
  have i1 := hi.keeps all
  have b1 := (hb (.ref (h.objs.size + 1))).keeps all
  unfold isInstance
  repeat (first | with_reducible refine wpAny_loadPart_at made ?_ | wp_step)
  show wpAny _ _ (isSubtype (.ref C) (.ref C)) _ _ ⟨(h.push (kdv_tup more)).push (excO C h.objs.size), g, d, t, os⟩
  refine wpAny_isSubtype_exc hC1 ?_
  rw [own]
  repeat wp_step
  show wpAny _ _ (typeLookup (.ref C) _) _ _ _; refine i1.at (wpAny_holding (wpAny_bind (b1.at (wpAny_bind (wpAny_call (codeAny_mono done fun r s' z => ?_))))))
  match r, z with
  | .error _, z => exact z
  | .ok .next, z => exact z.elim
  | .ok .brk, z => exact z.elim
  | .ok .cont, z => exact z.elim
  | .ok (.ret _), ⟨e1, z⟩ =>
    subst e1
    first | (wp_walk; exact z) | exact wpAny_pure (wpAny_pure z)
end
/-! ### x.name = v on such an error that has no dict yet -/
theorem key_passes (self : Value) : refuseLoop self "__setattr__" keyTail = pure () := by kernel_rfl
/-- what the written part holds of such a class -/
structure KeyC (K : Frag) (C : Addr) : Prop where
  cls : ∃ nm q N bs sn sub ab col dd k0 k1 k2 k3 k5, K.lookup C = some (keyObj nm q C N bs sn sub ab col dd k0 k1 k2 k3 k5)
  sa : findIn K (.ref C) "__setattr__" = some (some (.builtin "object.__setattr__"))
  exC : subIn K (.ref C) (.type "BaseException") = some true
  tyC : typeIn K (.ref C) = some (.type "type")
  kC : keepIn K (.ref C) = true
section
open Builtin.ObjectAttr Builtin
variable {mem : Heap} {g : Array GenState} {d : Drawn} {t : Nat} {os : OsState} {prog : Program} {w : World} {A : Around} {R : Result → Shared → Prop} {E : Value → Shared → Prop}
theorem key_osa {K : Frag} {name : Str} {tk : Tok} {v : Value} {x C : Addr} {fv : Array Value} (T : KeyC K C) (X : K.In mem) (hx : mem.get? x = some { cls := .ref C, data := .fields fv }) (no : findIn K (.ref C) name = some none)
    (done : ∀ (h' : Heap) (tk' : Nat) (dx : Addr), (∀ b o, b ≠ x → mem.get? b = some o → h'.get? b = some o) → mem.objs.size ≤ dx → dx ≠ x → h'.get? x = some { cls := .ref C, dict := some dx, data := .fields fv } → h'.Ns1 dx (fun y => if y = name then some v else none) → R (.ok (.ret .none)) ⟨h', g, d, tk', os⟩) : codeAny (model prog w) A (.call (.builtin "object.__setattr__") ⟨[.ref x, .str name tk, v], []⟩) R ⟨mem, g, d, t, os⟩ := by
  obtain ⟨nm, q, N, bs, sn, sub, ab, col, dd, k0, k1, k2, k3, k5, stands⟩ := T.cls
  have cd : clsIn K C = some { name := nm, bases := bs, mro := .ref C :: keyTail, ns := N, qualname := q, hasDict := true, slotNames := sn, subclasses := sub, abstract := ab, collection := col, hasDel := false } := by
    unfold clsIn
    rw [stands]
  have I : InstAt mem x { cls := .ref C, data := .fields fv } C none := ⟨hx, rfl, rfl, trivial⟩
  have SF := PySem.F.store_object -- the store
  have obj : (Value.ref C :: keyTail).contains (.type "object") = true := in_tail (by decide +kernel)
  have apart : x ≠ mem.objs.size := Nat.ne_of_lt (Heap.lt_size hx)
  have sub' : Looks (model prog w) mem (isInstance (.ref x) (.type "object")) true := I.type.andThen (looks_mroIn X (by
    unfold mroIn
    rw [cd, Option.bind_some]
    show (if (Value.ref C :: keyTail).isEmpty = true then none else some ((Value.ref C :: keyTail).contains (.type "object"))) = some true
    rw [obj]
    rfl))
  refine codeAny_call_builtin SF.slot.plain SF.entry (@check_slot (model prog w) _ _ ⟨mem, g, d, t, os⟩ "object.__setattr__" "object" "__setattr__" (.ref x) [.str name tk, v] [] _ SF.kind SF.split sub' (SF.args (.ref x) (.str name tk) v) ?_)
  have mro : Looks (model prog w) mem (mroOf (.ref C)) (.ref C :: keyTail) := (looks_clsIn X cd).andThen .now
  have taker : Looks (model prog w) mem (storeTaker? none) none := .now
  have data : Looks (model prog w) mem (classData C) _ := looks_clsIn X cd
  rw [osa_eq, refuse_eq]
  refine wpAny_bind (wpAny_bind (I.type.at (wpAny_bind (mro.at ?_))))
  rw [refuseLoop_ref, key_passes]
  refine wpAny_pure (wpAny_bind (I.type.at (wpAny_bind ((looks_findIn X no).at (wpAny_bind (taker.at ?_))))))
  show wpAny _ _ (storeInOwnDict (.ref x) (.ref C) (.str name tk) name v false) _ _ _; unfold storeInOwnDict ownDictForStores
  repeat (first
    | with_reducible refine store_in_new ?_ ?_
    | with_reducible refine wpAny_loadPart_at hx ?_
    | with_reducible refine data.at ?_
    | wp_step)
  · exact ⟨_, #[], _, (Heap.get?_update_ne _ _ _ _ apart.symm).trans (Heap.get?_push_at rfl rfl), rfl, fun e he => absurd he (by simp), fun _ => rfl⟩
  · intro h' tk' ns but
    have here := Heap.get?_push_of_some { cls := .type "dict", data := .dict #[] } hx
    refine done h' tk' mem.objs.size (fun b o ne ho => ?_) (Nat.le_refl _) apart.symm ((but.2 x apart).trans (Heap.get?_update_self _ here rfl)) ns
    exact (but.2 b (Nat.ne_of_lt (Heap.lt_size ho))).trans ((Heap.get?_update_ne _ _ _ _ ne).trans (Heap.get?_push_of_some _ ho))
end
end Kx
/-! NoState and NoDeed: raised with their one thing. -/
namespace PySem
namespace LowZ
open PySem.HandSPX PySem.W PySem.Calls PyProof.Rows
theorem one_fits (v : Value) : [v].length ≤ sizeLine := by
  rw [sizeLine_eq]
  exact (by decide : 1 ≤ 16777216)
theorem ld_here {M : Model} {s : Shared} {name : Str} {scope : Scope} {L a : Addr} {cd : Value} {m : Str → Option Value} {x : Str} {pos : Pos} {v : Value} {Q : Value → Shared → Prop} {A : Around} {E : Value → Shared → Prop} (hn : s.heap.Ns L m) (hv : m x = some v) (h : Q v s)
    (hk : scope.kind = .function := by rfl) (hl : (envOfC name scope L a cd).kindOf x = some .local := by rfl) (hd : (x == ("__debug__" : Str)) = false := by decide) : wpAny M A (eval (.Name x pos) (envOfC name scope L a cd)) Q E s := wpAny_Name (wpAny_loadName_local hk hl hn hv h) hd
end LowZ
end PySem

namespace Kx
namespace KS
open PySem PySem.W PySem.Calls PyProof.Rows PySem.HandSPX PySem.LowZ
/-! __init__(self, state): self.state = state -/
def tArgs (p1 p2 : Pos) : Arguments := { posonlyargs := [], args := [{ arg := "self", annotation := none, pos := p1 }, { arg := "state", annotation := none, pos := p2 }], vararg := none, kwonlyargs := [], kw_defaults := [], kwarg := none, defaults := [] }
def tBody (q1 q2 q3 q4 : Pos) : List Stmt := [.Assign [.Attribute (.Name "self" q1) "state" q2] (.Name "state" q3) q4]
def tScope : Scope := { kind := .function, names := [(Str.ofString "self", .local), (Str.ofString "state", .local)], isGenerator := false, isCoroutine := false, more := [] }
structure Txt (K : Frag) (C fI : Addr) (qual : Str) : Prop where
  key : KeyC K C
  no : findIn K (.ref C) "state" = some none
  ini : findIn K (.ref C) "__init__" = some (some (.ref fI))
  tyI : typeIn K (.ref fI) = some (.type "function")
  fn : ∃ (oc : Value) (od : Option Addr) (dV kV doc pm : Value) (an : Option Addr) (cdv ct : Value) (osl : Array (Option Value)) (p1 p2 q1 q2 q3 q4 : Pos),
    K.lookup fI = some ⟨oc, od, .func (fnOf "__init__" qual (tArgs p1 p2) (tBody q1 q2 q3 q4) tScope dV kV doc pm an cdv ct), osl⟩ ∧ codeIn K cdv qual = true ∧ dV = .none
/-- what a made one is -/
structure Made (h h' : Heap) (e C d : Addr) (v : Value) : Prop where
  keep : ∀ b o, h.get? b = some o → h'.get? b = some o
  new : h.objs.size ≤ e
  obj : ∃ oe vs, h'.get? e = some oe ∧ oe.cls = .ref C ∧ oe.dict = some d ∧ oe.data = .fields vs ∧ vs[1]? = some .none
  dbig : h.objs.size ≤ d
  dne : d ≠ e
  ns : h'.Ns1 d (fun y => if y = "state" then some v else none)
section
variable {prog : Program} {w : World} {A : Around} {R : Result → Shared → Prop} {s : Shared} {K : Frag} {C fI : Addr} {qual : Str}
theorem inits (T : Txt K C fI qual) {x t0 : Addr} {v : Value} (X : K.In s.heap) (lim : s.heap.NoLimit) (hx : s.heap.get? x = some (excO C t0)) (room : A.depth < recursionLimit)
    (done : ∀ (h' : Heap) (tk : Nat) (dx : Addr), (∀ b o, b ≠ x → s.heap.get? b = some o → h'.get? b = some o) → h'.get? x = some { cls := .ref C, dict := some dx, data := .fields #[.ref t0, .none, .none, .none, .bool false, .none] } → s.heap.objs.size ≤ dx → dx ≠ x →
      h'.Ns1 dx (fun y => if y = "state" then some v else none) → R (.ok (.ret .none)) { s with heap := h', toks := tk }) :
    codeAny (model prog w) A (.call (.ref fI) ⟨[.ref x, v], []⟩) R s := by
  obtain ⟨oc, od, dV, kV, doc, pm, an, cdv, ct, osl, p1, p2, q1, q2, q3, q4, lk, hcd, rfl⟩ := T.fn
  refine Att.call_fn (binds := [("self", .ref x), ("state", v)]) X lim lk hcd room (BindsTo.of_eq (by first | rfl | with_unfolding_all rfl)) (by first | rfl | decide | with_unfolding_all rfl) (fun s1 IC => ?_) rfl rfl rfl
  obtain ⟨h1, tk1, rfl⟩ := IC.toInCall.same
  have keep : ∀ b o, s.heap.get? b = some o → h1.get? b = some o := IC.toInCall.keep
  have ns := IC.toInCall.ns
  show wpAny _ _ (execs _ _) _ _ _
  refine wpAny_execs_cons (plainObj_wpAny_Assign_Attribute ?_)
  refine ld_here (v := v) ns (by first | rfl | with_unfolding_all rfl | kernel_rfl) (ld_here (v := .ref x) ns (by first | rfl | with_unfolding_all rfl | kernel_rfl) ?_)
  refine set_plain (X.keeps keep) (ox := excO C t0) (od := none) ⟨keep _ _ hx, rfl, rfl, trivial⟩ T.key.sa ?_
  refine key_osa T.key (X.keeps keep) (keep _ _ hx) T.no (fun h3 tk3 dx k3 dn dne hx3 hn3 => ?_)
  show wpAny _ _ (execs _ _) _ _ _
  have z : s.heap.objs.size < h1.objs.size := ns.lt
  exact wpAny_execs_nil (done h3 tk3 dx (fun b o hb e => k3 b o hb (keep b o e)) hx3 (Nat.le_of_lt (Nat.lt_of_lt_of_le z dn)) dne hn3)
theorem makes (T : Txt K C fI qual) {v : Value} (X : K.In s.heap) (lim : s.heap.NoLimit) (room : A.depth + 1 < recursionLimit)
    (done : ∀ h' tk e d, Made s.heap h' e C d v → R (.ok (.ret (.ref e))) { s with heap := h', toks := tk }) : codeAny (model prog w) A (.call (.ref C) ⟨[v], []⟩) R s := by
  obtain ⟨nm, q, N, bs, sn, sub, ab, col, dd, k0, k1, k2, k3, k5, hC⟩ := T.key.cls
  obtain ⟨hp, gs, dr, tk, os⟩ := s
  have keep : ∀ b o, hp.get? b = some o → ((hp.push (kdv_tup [v])).push (excO C hp.objs.size)).get? b = some o := fun b o e => Heap.get?_push_of_some _ (Heap.get?_push_of_some _ e)
  have here : ((hp.push (kdv_tup [v])).push (excO C hp.objs.size)).get? (hp.objs.size + 1) = some (excO C hp.objs.size) := by heap_get
  refine key_call (X _ _ hC) (looks_findIn X T.ini) (fun self => bind_fn X self T.tyI) (one_fits v) ?_
  refine inits (s := ⟨(hp.push (kdv_tup [v])).push (excO C hp.objs.size), gs, dr, tk, os⟩) T (X.keeps keep) (lim.keeps keep) here ?_ fun h' tk' dx k' hx dn dne hns => ?_
  · show A.depth + 1 < recursionLimit
    exact room
  · have old : ∀ b o, hp.get? b = some o → h'.get? b = some o := fun b o e => k' b o (Nat.ne_of_lt (Nat.lt_succ_of_lt (Heap.lt_size e))) (keep b o e)
    have z : hp.objs.size + 1 + 1 ≤ dx := by
      have q := dn
      simp only [Heap.size_push] at q
      exact q
    exact ⟨rfl, done h' tk' (hp.objs.size + 1) dx ⟨old, Nat.le_succ _, ⟨_, _, hx, rfl, rfl, rfl, rfl⟩, Nat.le_trans (Nat.le_trans (Nat.le_succ _) (Nat.le_succ _)) z, dne, hns⟩⟩
end
end KS
end Kx
namespace Kx
namespace KS
open L2 PySem PySem.Spec PyProof.Rows
theorem rel_one {v : V} {v' : Value} (r : RelV v v') (y : Str) : RelO (List.lookup y [(("state" : Str), v)]) (if y = "state" then some v' else none) := by
  rw [lookup_put]
  by_cases h : y = "state"
  · rw [if_pos h, if_pos h]
    exact r
  · rw [if_neg h, if_neg h]
    trivial
section
variable {X : Cx} {C fI : Addr} {qual x : Str}
/-- C(e) -/
def tMk (C : Addr) (ta : TA) : L2.St → Hp → XK → Prop := fun σ H Q => ta σ H fun vs H1 => ∃ v, vs = [v] ∧ ∀ d, H1 d = none → Q (.ref C) (some d) (upd H1 d (.xd [(("state" : Str), v)]))
theorem pmk {a : Expr} {ta : TA} {p pos : Pos} {k : Nat} (T : Txt X.K C fI qual) (at_ : X.mg x = some (.ref C)) (hr : Room k X.A) (ha : PA X [a] ta) (hg : Gl X x) (hdb : (x == ("__debug__" : Str)) = false)
    (he : starEach (a :: []) X.env = (false, eval a X.env) :: starEach [] X.env) (hpl : (backTo pos (starEach [] X.env)).any (·.1) = false) : PMk X (.Call (.Name x p) [a] [] pos) (tMk C ta) := by
  intro pins s σ H Q I h
  refine wpAny_Call_Name_kw (ld_glob I hg at_ ?_ hdb)
  refine PySem.W.callWith_K (h₀ := X.base) I.ok.mod.kin T.key.kC (thn (ha.run pos pins s σ H _ I h) fun us s1 hh => ?_) he hpl
  obtain ⟨vs, H1, I1, r1, v, ev, q1⟩ := hh
  subst ev
  refine ⟨I1.kIn, ?_⟩
  obtain ⟨v', rfl, rv⟩ := vals1 r1
  show wpAny _ _ (call (.ref C) [v']) _ _ _
  have lim := I1.nolimit
  obtain ⟨hp, gs, dr, tk, os⟩ := s1
  refine wpAny_call (makes T I1.kIn lim (by have := hr.dp; omega) fun h' tk' e d M => ?_)
  show MkP X pins σ Q (.ref e) ⟨h', gs, dr, tk', os⟩
  obtain ⟨oe, fv, hoe, hc, hd, hdat, h1⟩ := M.obj
  have hns := M.ns
  obtain ⟨G, g1, g2⟩ := restrict h' fun b => decide (b ≠ e)
  have gk : ∀ b, b ≠ e → G.get? b = h'.get? b := fun b hb => g1 b (decide_eq_true hb)
  have ge : G.get? e = none := g2 e (by simp)
  have old : ∀ b o, hp.get? b = some o → G.get? b = some o := fun b o q => (gk b (Nat.ne_of_lt (Nat.lt_of_lt_of_le (Heap.lt_size q) M.new))).trans (M.keep b o q)
  have ob : ObjOk X.prog X.w (upd H1 d (.xd [(("state" : Str), v)])) G d (.xd [(("state" : Str), v)]) := ⟨_, hns.at (fun o q => (gk d M.dne).trans q), fun y => rel_one rv y⟩
  have J : Inv X pins σ (upd H1 d (.xd [(("state" : Str), v)])) ⟨G, gs, dr, tk', os⟩ := I1.laid (t' := tk') old M.dbig ob
  refine ⟨e, oe, fv, ⟨G, gs, dr, tk', os⟩, _, .ref C, some d, rfl, J, fun b o q => ?_, ge, hoe, ⟨hc, hd⟩, hdat, h1, ?_, rfl, I1.bare, raises_own T.key.exC T.key.tyC, q1 d (I1.hok.fresh M.dbig)⟩
  · by_cases hb : b = e
    · have q' : G.get? b = some o := q
      rw [hb, ge] at q'
      cases q'
    · exact (gk b hb).symm.trans q
  · rw [upd_ne (Ne.symm M.dne)]
    exact I1.hok.fresh M.new
/-- raise C(e) -/
theorem ps_throw {a : Expr} {ta : TA} {W : WX} {p pos p2 : Pos} {k : Nat} (T : Txt X.K C fI qual) (at_ : X.mg x = some (.ref C)) (hc : X.calm = true) (hr : Room k X.A) (tk : Takes X W) (ha : PA X [a] ta) (hg : Gl X x := by rfl) (hdb : (x == ("__debug__" : Str)) = false := by decide)
    (he : starEach (a :: []) X.env = (false, eval a X.env) :: starEach [] X.env := by rfl) (hpl : (backTo pos (starEach [] X.env)).any (·.1) = false := by rfl) :
    PS X (.Raise (some (.Call (.Name x p) [a] [] pos)) none p2) (fun _ σ H => tMk C ta σ H fun cls d H' => W cls d σ H') := ps_raise hc tk (pmk T at_ hr ha hg hdb he hpl)
end
end KS
end Kx

namespace Kx
namespace KD
open PySem PySem.W PySem.Calls PyProof.Rows PySem.HandSPX PySem.LowZ
/-! __init__(self, deed): self.deed = deed -/
def tArgs (p1 p2 : Pos) : Arguments := { posonlyargs := [], args := [{ arg := "self", annotation := none, pos := p1 }, { arg := "deed", annotation := none, pos := p2 }], vararg := none, kwonlyargs := [], kw_defaults := [], kwarg := none, defaults := [] }
def tBody (q1 q2 q3 q4 : Pos) : List Stmt := [.Assign [.Attribute (.Name "self" q1) "deed" q2] (.Name "deed" q3) q4]
def tScope : Scope := { kind := .function, names := [(Str.ofString "self", .local), (Str.ofString "deed", .local)], isGenerator := false, isCoroutine := false, more := [] }
structure Txt (K : Frag) (C fI : Addr) (qual : Str) : Prop where
  key : KeyC K C
  no : findIn K (.ref C) "deed" = some none
  ini : findIn K (.ref C) "__init__" = some (some (.ref fI))
  tyI : typeIn K (.ref fI) = some (.type "function")
  fn : ∃ (oc : Value) (od : Option Addr) (dV kV doc pm : Value) (an : Option Addr) (cdv ct : Value) (osl : Array (Option Value)) (p1 p2 q1 q2 q3 q4 : Pos),
    K.lookup fI = some ⟨oc, od, .func (fnOf "__init__" qual (tArgs p1 p2) (tBody q1 q2 q3 q4) tScope dV kV doc pm an cdv ct), osl⟩ ∧ codeIn K cdv qual = true ∧ dV = .none
/-- what a made one is -/
structure Made (h h' : Heap) (e C d : Addr) (v : Value) : Prop where
  keep : ∀ b o, h.get? b = some o → h'.get? b = some o
  new : h.objs.size ≤ e
  obj : ∃ oe vs, h'.get? e = some oe ∧ oe.cls = .ref C ∧ oe.dict = some d ∧ oe.data = .fields vs ∧ vs[1]? = some .none
  dbig : h.objs.size ≤ d
  dne : d ≠ e
  ns : h'.Ns1 d (fun y => if y = "deed" then some v else none)
section
variable {prog : Program} {w : World} {A : Around} {R : Result → Shared → Prop} {s : Shared} {K : Frag} {C fI : Addr} {qual : Str}
theorem inits (T : Txt K C fI qual) {x t0 : Addr} {v : Value} (X : K.In s.heap) (lim : s.heap.NoLimit) (hx : s.heap.get? x = some (excO C t0)) (room : A.depth < recursionLimit)
    (done : ∀ (h' : Heap) (tk : Nat) (dx : Addr), (∀ b o, b ≠ x → s.heap.get? b = some o → h'.get? b = some o) → h'.get? x = some { cls := .ref C, dict := some dx, data := .fields #[.ref t0, .none, .none, .none, .bool false, .none] } → s.heap.objs.size ≤ dx → dx ≠ x →
      h'.Ns1 dx (fun y => if y = "deed" then some v else none) → R (.ok (.ret .none)) { s with heap := h', toks := tk }) :
    codeAny (model prog w) A (.call (.ref fI) ⟨[.ref x, v], []⟩) R s := by
  obtain ⟨oc, od, dV, kV, doc, pm, an, cdv, ct, osl, p1, p2, q1, q2, q3, q4, lk, hcd, rfl⟩ := T.fn
  refine Att.call_fn (binds := [("self", .ref x), ("deed", v)]) X lim lk hcd room (BindsTo.of_eq (by first | rfl | with_unfolding_all rfl)) (by first | rfl | decide | with_unfolding_all rfl) (fun s1 IC => ?_) rfl rfl rfl
  obtain ⟨h1, tk1, rfl⟩ := IC.toInCall.same
  have keep : ∀ b o, s.heap.get? b = some o → h1.get? b = some o := IC.toInCall.keep
  have ns := IC.toInCall.ns
  show wpAny _ _ (execs _ _) _ _ _
  refine wpAny_execs_cons (plainObj_wpAny_Assign_Attribute ?_)
  refine ld_here (v := v) ns (by first | rfl | with_unfolding_all rfl | kernel_rfl) (ld_here (v := .ref x) ns (by first | rfl | with_unfolding_all rfl | kernel_rfl) ?_)
  refine set_plain (X.keeps keep) (ox := excO C t0) (od := none) ⟨keep _ _ hx, rfl, rfl, trivial⟩ T.key.sa ?_
  refine key_osa T.key (X.keeps keep) (keep _ _ hx) T.no (fun h3 tk3 dx k3 dn dne hx3 hn3 => ?_)
  show wpAny _ _ (execs _ _) _ _ _
  have z : s.heap.objs.size < h1.objs.size := ns.lt
  exact wpAny_execs_nil (done h3 tk3 dx (fun b o hb e => k3 b o hb (keep b o e)) hx3 (Nat.le_of_lt (Nat.lt_of_lt_of_le z dn)) dne hn3)
theorem makes (T : Txt K C fI qual) {v : Value} (X : K.In s.heap) (lim : s.heap.NoLimit) (room : A.depth + 1 < recursionLimit)
    (done : ∀ h' tk e d, Made s.heap h' e C d v → R (.ok (.ret (.ref e))) { s with heap := h', toks := tk }) : codeAny (model prog w) A (.call (.ref C) ⟨[v], []⟩) R s := by
  obtain ⟨nm, q, N, bs, sn, sub, ab, col, dd, k0, k1, k2, k3, k5, hC⟩ := T.key.cls
  obtain ⟨hp, gs, dr, tk, os⟩ := s
  have keep : ∀ b o, hp.get? b = some o → ((hp.push (kdv_tup [v])).push (excO C hp.objs.size)).get? b = some o := fun b o e => Heap.get?_push_of_some _ (Heap.get?_push_of_some _ e)
  have here : ((hp.push (kdv_tup [v])).push (excO C hp.objs.size)).get? (hp.objs.size + 1) = some (excO C hp.objs.size) := by heap_get
  refine key_call (X _ _ hC) (looks_findIn X T.ini) (fun self => bind_fn X self T.tyI) (one_fits v) ?_
  refine inits (s := ⟨(hp.push (kdv_tup [v])).push (excO C hp.objs.size), gs, dr, tk, os⟩) T (X.keeps keep) (lim.keeps keep) here ?_ fun h' tk' dx k' hx dn dne hns => ?_
  · show A.depth + 1 < recursionLimit
    exact room
  · have old : ∀ b o, hp.get? b = some o → h'.get? b = some o := fun b o e => k' b o (Nat.ne_of_lt (Nat.lt_succ_of_lt (Heap.lt_size e))) (keep b o e)
    have z : hp.objs.size + 1 + 1 ≤ dx := by
      have q := dn
      simp only [Heap.size_push] at q
      exact q
    exact ⟨rfl, done h' tk' (hp.objs.size + 1) dx ⟨old, Nat.le_succ _, ⟨_, _, hx, rfl, rfl, rfl, rfl⟩, Nat.le_trans (Nat.le_trans (Nat.le_succ _) (Nat.le_succ _)) z, dne, hns⟩⟩
end
end KD
end Kx
namespace Kx
namespace KD
open L2 PySem PySem.Spec PyProof.Rows
theorem rel_one {v : V} {v' : Value} (r : RelV v v') (y : Str) : RelO (List.lookup y [(("deed" : Str), v)]) (if y = "deed" then some v' else none) := by
  rw [lookup_put]
  by_cases h : y = "deed"
  · rw [if_pos h, if_pos h]
    exact r
  · rw [if_neg h, if_neg h]
    trivial
section
variable {X : Cx} {C fI : Addr} {qual x : Str}
/-- C(e) -/
def tMk (C : Addr) (ta : TA) : L2.St → Hp → XK → Prop := fun σ H Q => ta σ H fun vs H1 => ∃ v, vs = [v] ∧ ∀ d, H1 d = none → Q (.ref C) (some d) (upd H1 d (.xd [(("deed" : Str), v)]))
theorem pmk {a : Expr} {ta : TA} {p pos : Pos} {k : Nat} (T : Txt X.K C fI qual) (at_ : X.mg x = some (.ref C)) (hr : Room k X.A) (ha : PA X [a] ta) (hg : Gl X x) (hdb : (x == ("__debug__" : Str)) = false)
    (he : starEach (a :: []) X.env = (false, eval a X.env) :: starEach [] X.env) (hpl : (backTo pos (starEach [] X.env)).any (·.1) = false) : PMk X (.Call (.Name x p) [a] [] pos) (tMk C ta) := by
  intro pins s σ H Q I h
  refine wpAny_Call_Name_kw (ld_glob I hg at_ ?_ hdb)
  refine PySem.W.callWith_K (h₀ := X.base) I.ok.mod.kin T.key.kC (thn (ha.run pos pins s σ H _ I h) fun us s1 hh => ?_) he hpl
  obtain ⟨vs, H1, I1, r1, v, ev, q1⟩ := hh
  subst ev
  refine ⟨I1.kIn, ?_⟩
  obtain ⟨v', rfl, rv⟩ := vals1 r1
  show wpAny _ _ (call (.ref C) [v']) _ _ _
  have lim := I1.nolimit
  obtain ⟨hp, gs, dr, tk, os⟩ := s1
  refine wpAny_call (makes T I1.kIn lim (by have := hr.dp; omega) fun h' tk' e d M => ?_)
  show MkP X pins σ Q (.ref e) ⟨h', gs, dr, tk', os⟩
  obtain ⟨oe, fv, hoe, hc, hd, hdat, h1⟩ := M.obj
  have hns := M.ns
  obtain ⟨G, g1, g2⟩ := restrict h' fun b => decide (b ≠ e)
  have gk : ∀ b, b ≠ e → G.get? b = h'.get? b := fun b hb => g1 b (decide_eq_true hb)
  have ge : G.get? e = none := g2 e (by simp)
  have old : ∀ b o, hp.get? b = some o → G.get? b = some o := fun b o q => (gk b (Nat.ne_of_lt (Nat.lt_of_lt_of_le (Heap.lt_size q) M.new))).trans (M.keep b o q)
  have ob : ObjOk X.prog X.w (upd H1 d (.xd [(("deed" : Str), v)])) G d (.xd [(("deed" : Str), v)]) := ⟨_, hns.at (fun o q => (gk d M.dne).trans q), fun y => rel_one rv y⟩
  have J : Inv X pins σ (upd H1 d (.xd [(("deed" : Str), v)])) ⟨G, gs, dr, tk', os⟩ := I1.laid (t' := tk') old M.dbig ob
  refine ⟨e, oe, fv, ⟨G, gs, dr, tk', os⟩, _, .ref C, some d, rfl, J, fun b o q => ?_, ge, hoe, ⟨hc, hd⟩, hdat, h1, ?_, rfl, I1.bare, raises_own T.key.exC T.key.tyC, q1 d (I1.hok.fresh M.dbig)⟩
  · by_cases hb : b = e
    · have q' : G.get? b = some o := q
      rw [hb, ge] at q'
      cases q'
    · exact (gk b hb).symm.trans q
  · rw [upd_ne (Ne.symm M.dne)]
    exact I1.hok.fresh M.new
/-- raise C(e) -/
theorem ps_throw {a : Expr} {ta : TA} {W : WX} {p pos p2 : Pos} {k : Nat} (T : Txt X.K C fI qual) (at_ : X.mg x = some (.ref C)) (hc : X.calm = true) (hr : Room k X.A) (tk : Takes X W) (ha : PA X [a] ta) (hg : Gl X x := by rfl) (hdb : (x == ("__debug__" : Str)) = false := by decide)
    (he : starEach (a :: []) X.env = (false, eval a X.env) :: starEach [] X.env := by rfl) (hpl : (backTo pos (starEach [] X.env)).any (·.1) = false := by rfl) :
    PS X (.Raise (some (.Call (.Name x p) [a] [] pos)) none p2) (fun _ σ H => tMk C ta σ H fun cls d H' => W cls d σ H') := ps_raise hc tk (pmk T at_ hr ha hg hdb he hpl)
end
end KD
end Kx
/-! tuples of the same things compared; isinstance of a caught error that has a field; "0" times a number; calls with keywords alone. -/
namespace Kx
open L2 PySem PySem.Spec PyProof.Rows
/-- two tuples that hold, place by place, the same flat thing or the same object -/
def rSame (K : PySem.W.Frag) (b : Bool) : R2 := fun x y H Q => ∃ (p q : Addr) (xs : List V), x = .ref p ∧ y = .ref q ∧ SqT K H p xs ∧ SqT K H q xs ∧ (∀ v ∈ xs, flatB v = true ∨ ∃ c, v = .ref c) ∧ Q (.bl b) H
theorem same_at {A : Around} {s : Shared} : ∀ {xs : List V} {us ws : List Value}, (∀ v ∈ xs, flatB v = true ∨ ∃ c, v = .ref c) → Vals xs us → Vals xs ws → ∀ j (h1 : j < us.length) (h2 : j < ws.length), SeqAt.EqAt A s us[j] ws[j] true
  | [], _, _, _, .nil, .nil, _, h1, _ => absurd h1 (Nat.not_lt_zero _)
  | x :: xs, _, _, f, .cons r1 k1, .cons r2 k2, 0, _, _ => by
    rcases f x List.mem_cons_self with h | ⟨c, rfl⟩
    · exact eqAt_same r1 r2 h
    · cases r1
      cases r2
      exact SeqAt.EqAt.same _
  | x :: xs, _, _, f, .cons r1 k1, .cons r2 k2, j + 1, h1, h2 => same_at (fun v hv => f v (List.mem_cons_of_mem _ hv)) k1 k2 j (Nat.lt_of_succ_lt_succ h1) (Nat.lt_of_succ_lt_succ h2)
theorem all_range (n : Nat) : ((List.range n).all fun _ => true) = true := List.all_eq_true.mpr fun _ _ => rfl
section
variable {X : Cx}
theorem op_eqSame (hu : X.A.units + 64 < cLine) : OpR X (compareOp .Eq) (rSame X.K true) := by
  intro pins st σ H x y v u Q I rx ry h
  obtain ⟨p, q, xs, rfl, rfl, h1, h2, f, k⟩ := h
  cases rx
  cases ry
  obtain ⟨us, r1, t1, _⟩ := I.tuple h1
  obtain ⟨ws, r2, t2, _⟩ := I.tuple h2
  have e : us.toArray.size = ws.toArray.size := by simp only [List.size_toArray]; rw [← r1.length, ← r2.length]
  refine SeqAt.RcAt.tuples (e := fun _ => true) t1 t2 (by omega) (fun j a1 a2 => ?_) _ _ _ _ ?_
  · simpa using same_at f r1 r2 j (by simpa using a1) (by simpa using a2)
  · rw [all_range, e, beq_self_eq_true]
    exact ⟨.bl true, H, I, rfl, k⟩
theorem op_neSame (hu : X.A.units + 64 < cLine) : OpR X (compareOp .NotEq) (rSame X.K false) := by
  intro pins st σ H x y v u Q I rx ry h
  obtain ⟨p, q, xs, rfl, rfl, h1, h2, f, k⟩ := h
  cases rx
  cases ry
  obtain ⟨us, r1, t1, _⟩ := I.tuple h1
  obtain ⟨ws, r2, t2, _⟩ := I.tuple h2
  have e : us.toArray.size = ws.toArray.size := by simp only [List.size_toArray]; rw [← r1.length, ← r2.length]
  refine SeqAt.RcNeAt.tuples (e := fun _ => true) t1 t2 (by omega) (fun j a1 a2 => ?_) _ _ _ _ ?_
  · simpa using same_at f r1 r2 j (by simpa using a1) (by simpa using a2)
  · rw [all_range, e, beq_self_eq_true]
    exact ⟨.bl false, H, I, rfl, k⟩
/-- isinstance(e, c), e the error that the suite holds, its own dict at d -/
theorem call_isEd {a D d : Addr} {oe : Obj} {pn : List (Addr × Obj)} (C : ExcC X.K D) (hz : Zc (.ref D) (some d) oe) (hf : ∃ vs, oe.data = .fields vs) :
    CallR (X.suite a ((a, oe) :: pn)) (.builtin "isinstance") (fun xs H Q => (∃ fs, H d = some (.xd fs)) ∧ rIsE X.K D a xs H Q) := by
  rintro pins s σ H xs us Q I r h
  obtain ⟨⟨fs, hd⟩, c, cv, b, rfl, hcv, e, q⟩ := h
  cases r with
  | cons rx rr =>
    cases rr with
    | cons rt rr =>
      cases rr
      cases rx
      have ec := hcv _ rt
      subst ec
      obtain ⟨hget, -⟩ := I.pin (a, oe) (List.mem_append.mpr (.inl List.mem_cons_self))
      obtain ⟨vs, hv⟩ := hf
      obtain ⟨mA, hns, _⟩ := (show ObjOk X.prog X.w H s.heap d (.xd fs) from I.hok d _ hd)
      obtain ⟨od, ho, _⟩ := lookIn_ns hns
      have J : PySem.W.InstAt s.heap a oe D (some od) := by
        obtain ⟨oc, od', oda, osl⟩ := oe
        obtain ⟨h1, h2⟩ := hz
        dsimp only at h1 h2 hv
        subst h1 h2 hv
        exact ⟨hget, rfl, rfl, ho⟩
      have cl : (PySem.W.clsIn X.K D).isSome = true := by
        obtain ⟨cd, hc, _⟩ := PySem.W.any_some C.hd
        rw [hc]
        rfl
      exact PySem.W.kia_one (PySem.W.kitx_exc cl C.hg C.hk C.hs C.ha C.hn C.ht C.hm) I.kIn J e (fun z => nomatch z) fun tk => ⟨.bl b, H, I.kept (t' := tk) fun _ _ z => z, rfl, q⟩
/-! ### "0" * k -/
def noughts : Nat → Str
  | 1 => "0"
  | 2 => "00"
  | 3 => "000"
  | _ => "0000"
theorem op_noughts : OpR X (binaryOp .Mult) (fun x y H Q => ∃ k : Nat, x = .str "0" ∧ y = .int (k : Int) ∧ 1 ≤ k ∧ k ≤ 4 ∧ Q (.str (noughts k)) H) := by
  intro pins st σ H x y v u Q I rx ry h
  obtain ⟨k, rfl, rfl, k1, k4, q⟩ := h
  obtain ⟨t, rfl⟩ := (show ∃ t, v = Value.str "0" t from rx)
  obtain ⟨t2, rfl⟩ := (show ∃ t, u = Value.int (k : Int) t from ry)
  have cases_ : k = 1 ∨ k = 2 ∨ k = 3 ∨ k = 4 := by omega
  have fin : ∀ (z : Str) (tk tk2 : Nat), z = noughts k → EP X pins σ Q (.str z tk) { st with toks := tk2 } := fun z tk tk2 e => by
    subst e
    exact ⟨.str (noughts k), H, I.kept (t' := tk2) fun _ _ z => z, ⟨tk, rfl⟩, q⟩
  refine P.mul_str ?_ ?_ ?_ ?_
  · rcases cases_ with rfl | rfl | rfl | rfl <;> decide +kernel
  · rcases cases_ with rfl | rfl | rfl | rfl <;> decide +kernel
  · rcases cases_ with rfl | rfl | rfl | rfl <;> decide +kernel
  · rcases cases_ with rfl | rfl | rfl | rfl
    · rw [if_neg (by decide), if_pos (by decide +kernel)]
      exact ⟨.str (noughts 1), H, I, ⟨t, rfl⟩, q⟩
    · rw [if_neg (by decide), if_neg (by decide +kernel)]
      exact ⟨by decide +kernel, fin _ _ _ (by decide +kernel)⟩
    · rw [if_neg (by decide), if_neg (by decide +kernel)]
      exact ⟨by decide +kernel, fin _ _ _ (by decide +kernel)⟩
    · rw [if_neg (by decide), if_neg (by decide +kernel)]
      exact ⟨by decide +kernel, fin _ _ _ (by decide +kernel)⟩
end
/-! ### calls with keywords -/
structure CalN (P : Program) (w : World) (K : PySem.W.Frag) (mg : Str → Option Value) (base : Heap) (CX : CXT) (k n : Nat) (x : Str) (ps ks : List Str) (gV : List V → List V → List V) (sp : Sp) : Prop where
  ex : ∃ (f : Addr) (fd : FuncData) (g : List Value → List Value → List Value), mg x = some (.ref f) ∧ PySem.W.keepIn K (.ref f) = true ∧ KBn K fd ps n ks g gV ∧ FnOk P w K mg base CX k f fd ps sp
section
variable {X : Cx} {CX : CXT} {k j n : Nat} {x : Str} {ps ks : List Str} {gV : List V → List V → List V} {sp : Sp} {e : Expr} {es : List Expr} {kws : List Keyword} {t tk : TA} {E : XK} {p pos : Pos}
theorem pe_callN0 (c : CalN X.prog X.w X.K X.mg X.base CX k 0 x ps ks gV sp) (hr : Room j X.A) (hx : Passes CX X E) (hkw : PK X kws tk) (hk : k ≤ j := by decide) (hg : Gl X x := by rfl)
    (hal : (backToKw pos (keywordEach kws X.env)).all (·.1.isSome) = true := by rfl) (hky : (backToKw pos (keywordEach kws X.env)).filterMap (·.1) = ks := by rfl) (hdb : (x == ("__debug__" : Str)) = false := by decide)
    (hnp : ((backTo pos (starEach [] X.env)).any (·.1) || (backToKw pos (keywordEach kws X.env)).any (·.1.isNone)) = false := by rfl) :
    PE X (.Call (.Name x p) [] kws pos) (tCallN 0 ks.length sp gV E tNil tk) := by
  obtain ⟨f, fd, g, h1, h2, h3, h4⟩ := c.ex
  refine ⟨fun pins s σ H Q I h => wpAny_Call_Name_kw (ld_glob I hg h1 ?_ hdb)⟩
  refine PySem.W.callWith_KW0 (h₀ := X.base) I.ok.mod.kin h2 hal ?_ hnp
  refine thn (hkw.run pos pins s σ H _ I h) fun ws s2 ⟨zs, H2, I2, rz, _, l2, q2⟩ => ⟨I2.kIn, ?_⟩
  rw [hky]
  exact run_fnN (us := []) (vs := []) h4 (hr.mono hk) h3 hx I2 .nil rz rfl l2 q2
theorem pe_callNn (c : CalN X.prog X.w X.K X.mg X.base CX k n x ps ks gV sp) (hr : Room j X.A) (hx : Passes CX X E) (ha : PA X (e :: es) t) (hkw : PK X kws tk) (hk : k ≤ j := by decide) (hg : Gl X x := by rfl)
    (hal : (backToKw pos (keywordEach kws X.env)).all (·.1.isSome) = true := by rfl) (hky : (backToKw pos (keywordEach kws X.env)).filterMap (·.1) = ks := by rfl) (hdb : (x == ("__debug__" : Str)) = false := by decide)
    (he : starEach (e :: es) X.env = (false, eval e X.env) :: starEach es X.env := by rfl)
    (hnp : ((backTo pos (starEach (e :: es) X.env)).any (·.1) || (backToKw pos (keywordEach kws X.env)).any (·.1.isNone)) = false := by rfl) : PE X (.Call (.Name x p) (e :: es) kws pos) (tCallN n ks.length sp gV E t tk) := by
  obtain ⟨f, fd, g, h1, h2, h3, h4⟩ := c.ex
  exact pe_callN h4 (hr.mono hk) hg h1 h2 h3 hx ha hkw hal hky hdb he hnp
end
end Kx
/-! exceptions held as values: their class asked, their fields read. -/
namespace Kx
open L2 PySem PySem.Spec PyProof.Rows
/-- an exception stands at a: its class C, its dict at d -/
def IsEv (a C d : Addr) (h : Heap) : Prop := ∃ (ob : Obj) (ws : Array Value), h.get? a = some ob ∧ Zc (.ref C) (some d) ob ∧ ob.data = .fields ws
structure EvAt (H : Hp) (a C d : Addr) (fs : List (Str × V)) : Prop where
  ob : ∃ φ : Heap → Prop, H a = some (.ext φ) ∧ ∀ h, φ h → IsEv a C d h
  di : H d = some (.xd fs) ∨ H d = some (exd d fs)
theorem EvAt.same {H H' : Hp} {a C d : Addr} {fs : List (Str × V)} (e : Same H H') (h : EvAt H a C d fs) : EvAt H' a C d fs := by
  obtain ⟨⟨φ, h1, h2⟩, h3⟩ := h
  exact ⟨⟨φ, e _ _ h1, h2⟩, h3.imp (e _ _) (e _ _)⟩
theorem exo_ev {H : Hp} {a C d : Addr} {fs : List (Str × V)} (h1 : H a = some (exo a C (some d))) (h2 : H d = some (exd d fs)) : EvAt H a C d fs :=
  ⟨⟨_, h1, fun h ⟨t, q⟩ => ⟨_, _, q, ⟨rfl, rfl⟩, rfl⟩⟩, .inr h2⟩
section
variable {X : Cx} {pins : List (Addr × Obj)} {σ : L2.St} {H : Hp} {s : Shared} {a C d : Addr} {fs : List (Str × V)}
theorem EvAt.there (E : EvAt H a C d fs) (I : Inv X pins σ H s) : IsEv a C d s.heap ∧ ∃ mA, s.heap.Ns1 d mA ∧ ∀ f, RelO (fs.lookup f) (mA f) := by
  obtain ⟨⟨φ, h1, h2⟩, h3⟩ := E
  refine ⟨h2 _ (show ObjOk X.prog X.w H s.heap a (.ext φ) from I.hok a _ h1).1, ?_⟩
  rcases h3 with h3 | h3
  · obtain ⟨mA, z, r⟩ := (show ObjOk X.prog X.w H s.heap d (.xd fs) from I.hok d _ h3)
    exact ⟨mA, z, r⟩
  · exact exd_at I.hok h3
end
/-- isinstance(e, c) of such a value -/
def rIsV (K : PySem.W.Frag) : List V → Hp → VK → Prop := fun xs H Q => ∃ (a D d : Addr) (fs : List (Str × V)) (c : V) (cv : Value) (b : Bool), xs = [.ref a, c] ∧ EvAt H a D d fs ∧ ExcC K D ∧ (∀ u, RelV c u → u = cv) ∧ PySem.W.kitOne K (.ref D) cv = some b ∧ Q (.bl b) H
theorem call_isV {X : Cx} : CallR X (.builtin "isinstance") (rIsV X.K) := by
  rintro pins s σ H xs us Q I r ⟨a, D, d, fs, c, cv, b, rfl, E, C, hcv, e, q⟩
  obtain ⟨⟨ob, ws, h1, h2, h3⟩, mA, hns, _⟩ := E.there I
  cases r with
  | cons rx rr =>
    cases rr with
    | cons rt rr =>
      cases rr
      cases rx
      obtain rfl := hcv _ rt
      obtain ⟨od, ho, _⟩ := lookIn_ns hns
      have J : PySem.W.InstAt s.heap a ob D (some od) := by
        obtain ⟨c1, c2, c3, c4⟩ := ob
        obtain ⟨z1, z2⟩ := h2
        dsimp only at z1 z2 h3
        subst z1 z2 h3
        exact ⟨h1, rfl, rfl, ho⟩
      have cl : (PySem.W.clsIn X.K D).isSome = true := by
        obtain ⟨cd, hc, _⟩ := PySem.W.any_some C.hd
        rw [hc]
        rfl
      exact PySem.W.kia_one (PySem.W.kitx_exc cl C.hg C.hk C.hs C.ha C.hn C.ht C.hm) I.kIn J e (fun z => nomatch z) fun tk => ⟨.bl b, H, I.kept (t' := tk) fun _ _ z => z, rfl, q⟩
/-- e.f of such a value -/
def tEv (K : PySem.W.Frag) (f : Str) (te : TE) : TE := fun σ H Q => te σ H fun x H1 => ∃ (a D d : Addr) (fs : List (Str × V)) (v : V), x = .ref a ∧ EvAt H1 a D d fs ∧ XfC K D ∧ PySem.W.findIn K (.ref D) f = some none ∧ fs.lookup f = some v ∧ Q v H1
theorem pe_ev {X : Cx} {e : Expr} {te : TE} {pos : Pos} {n : Str} (he : PE X e te) (hb : attributeBase e n X.env (eval e X.env) = eval e X.env := by rfl) : PE X (.Attribute e n pos) (tEv X.K n te) := by
  refine ⟨fun pins s σ H Q I h => attr_of hb (thn (he.run pins s σ H _ I h) fun u s1 hh => ?_)⟩
  obtain ⟨x, H1, I1, rx, a, D, d, fs, v, rfl, E, T, no, l, q⟩ := hh
  obtain rfl := (show u = Value.ref a from rx)
  obtain ⟨⟨ob, ws, h1, h2, h3⟩, mA, hns, hr⟩ := E.there I1
  obtain ⟨od, hod, hlk⟩ := lookIn_ns hns
  obtain ⟨u, hu, ru⟩ := RelO.some_of (v := v) (o := mA n) (l ▸ hr n)
  have J : PySem.W.InstAt s1.heap a ob D (some od) := ⟨h1, h2.1, by unfold PySem.W.notCls; rw [h3] <;> rfl, by rw [h2.2]; exact hod⟩
  exact HandSPX.exc_get I1.kIn J T.ga T.gg T.exC (PySem.W.findObj_own T.hdC no rfl (by rw [hlk, hu])) (handed_of ru) ⟨v, H1, I1.tok _, ru, q⟩
end Kx
/-! own exceptions are made: by place, by name. -/
namespace Kx
open PySem PySem.W PySem.Calls PyProof.Rows PySem.HandSPX
/-- what the written part holds of such a class -/
structure EvC (K : Frag) (C : Addr) : Prop where
  cls : ∃ (B newId initId : String) (up : List Value) (nm q : Str) (N : Addr) (bs bm : List Value) (sn : List Str) (sub : List Value) (ab : Bool) (col : Option Bool) (dd : Option Addr) (k0 k1 k2 k3 k5 : Option Value),
    ExcBaseFacts B newId initId up ∧ K.lookup C = some (excClassObj nm q C N bs bm true sn sub ab col dd k0 k1 k2 k3 k5 newId) ∧ (Value.ref C :: bm).contains (.type B) = true ∧ (Value.ref C :: bm).contains (.type "AttributeError") = false ∧ (Value.ref C :: bm).contains (.type "NameError") = false
  exC : subIn K (.ref C) (.type "BaseException") = some true
  tyC : typeIn K (.ref C) = some (.type "type")
  kC : keepIn K (.ref C) = true
section
variable {h : Heap} {g : Array GenState} {d : Drawn} {t : Nat} {os : OsState} {prog : Program} {w : World} {A : Around} {R : Result → Shared → Prop} {E : Value → Shared → Prop}
variable {B newId initId : String} {up : List Value} {nm q : Str} {C N : Addr} {bs bm : List Value} {sn : List Str} {sub : List Value} {ab : Bool} {col : Option Bool} {dd : Option Addr} {k0 k1 k2 k3 k5 : Option Value} {more : List Value} {kw : List (Str × Value)}
theorem ev_check {M : Model} {Q : Unit → Shared → Prop} (F : ExcBaseFacts B newId initId up) (stands : h.get? C = some (excClassObj nm q C N bs bm true sn sub ab col dd k0 k1 k2 k3 k5 newId)) (isB : (Value.ref C :: bm).contains (.type B) = true) (done : Q () ⟨h, g, d, t, os⟩) :
    wpAny M A (checkBuiltinCall newId ⟨.ref C :: more, kw⟩) Q E ⟨h, g, d, t, os⟩ := by
  have short := F.noStar
  simp only [checkBuiltinCall, F.newSplit, F.newKind, F.newRow]
  repeat (first
    | refine wpAny_loadPart_at stands ?_
    | (refine wpAny_isSubtype_exc stands ?_; rw [isB])
    | refine wpAny_staticBase_exc stands ?_
    | refine wpAny_madeBy_exc stands ?_
    | simp only [bne_self_eq_false, Bool.false_eq_true, if_false]
    | wp_step)
  exact done
theorem ev_new (F : ExcBaseFacts B newId initId up) (stands : h.get? C = some (excClassObj nm q C N bs bm true sn sub ab col dd k0 k1 k2 k3 k5 newId)) (isB : (Value.ref C :: bm).contains (.type B) = true) (noA : (Value.ref C :: bm).contains (.type "AttributeError") = false) (noN : (Value.ref C :: bm).contains (.type "NameError") = false)
    (fits : more.length ≤ sizeLine) (done : R (.ok (.ret (.ref (h.objs.size + 1)))) ⟨(h.push (kdv_tup more)).push (excO C h.objs.size), g, d, t, os⟩) : codeAny (model prog w) A (.builtin newId ⟨.ref C :: more, kw⟩) R ⟨h, g, d, t, os⟩ := by
  have ends := F.ends
  refine codeAny_builtinAt F.entry ?_; unfold Builtin.«BaseException.__new__»; refine PySem.wpAt_bind ?_
  show PySem.wpAt _ _ _ (stack >>= _) _ _ _
  refine PySem.wpAt_bind (PySem.wpAt_stack fun _ _ => PySem.wpAt_of_wpAny ?_)
  wp_walk
  refine PySem.wpAt_of_wpAny ?_
  rw [F.owner]
  repeat (first
    | with_reducible refine wpAny_madeHere_exc F.canon stands ?_
    | with_reducible refine wpAny_loadPart_at stands ?_
    | (with_reducible refine wpAny_isSubtype_exc stands ?_; first | rw [isB] | rw [noA] | rw [noN])
    | wp_step)
  show R _ _
  rw [Heap.size_push]
  exact done
theorem ev_called {fI : Addr} (F : ExcBaseFacts B newId initId up) (stands : h.get? C = some (excClassObj nm q C N bs bm true sn sub ab col dd k0 k1 k2 k3 k5 newId)) (isB : (Value.ref C :: bm).contains (.type B) = true) (noA : (Value.ref C :: bm).contains (.type "AttributeError") = false) (noN : (Value.ref C :: bm).contains (.type "NameError") = false)
    (hi : Looks (model prog w) h (typeLookup (.ref C) "__init__") (some (.ref fI))) (hb : ∀ self, Looks (model prog w) h (bindSpecial (.ref fI) self) (.ref fI, [self])) (fits : more.length ≤ sizeLine)
    (done : codeAny (model prog w) (A.under (.builtin "type.__call__" ⟨.ref C :: more, kw⟩)) (.call (.ref fI) ⟨.ref (h.objs.size + 1) :: more, kw⟩) (InitBack (h.objs.size + 1) R) ⟨(h.push (kdv_tup more)).push (excO C h.objs.size), g, d, t, os⟩) :
    codeAny (model prog w) A (.call (.ref C) ⟨more, kw⟩) R ⟨h, g, d, t, os⟩ := by
  have l1 := tc_lookup
  have l2 := tc_bind (.ref C)
  have isTy : (⟨h, g, d, t, os⟩ : Shared).TypeIs (.ref C) "type" := ⟨_, stands, rfl⟩
  have all : ∀ b o, h.get? b = some o → ((h.push (kdv_tup more)).push (excO C h.objs.size)).get? b = some o := fun b o z => Heap.get?_push_of_some _ (Heap.get?_push_of_some _ z)
  refine codeAny_of_tree ?_
  show wpAny _ _ (callAny (.ref C) _) _ _ _; repeat (any_goals (first | assumption | with_reducible refine wpAny_loadPart_at stands ?_ | wp_step))
  refine ⟨rfl, ?_⟩
  refine codeAny_call_builtin_at (Code.quiet_builtin _ (by decide +kernel)) entry_typeCall (wpAny_check_type_call_sub stands ?_)
  repeat (first | with_reducible refine wpAny_loadPart_at stands ?_ | with_reducible refine wpAny_madeBy_exc stands ?_ | wp_step)
  refine codeAny_call_builtin_code (Code.quiet_builtin _ F.quiet) (ev_check F stands isB (ev_new F stands isB noA noN fits ?_))
  show wpAny _ _ _ _ _ _
  have hC1 := all _ _ stands
  have made : ((h.push (kdv_tup more)).push (excO C h.objs.size)).get? (h.objs.size + 1) = some (excO C h.objs.size) := by heap_get
  have own : (Value.ref C :: bm).contains (.ref C) = true := by simp
  have i1 := hi.keeps all
  have b1 := (hb (.ref (h.objs.size + 1))).keeps all
  unfold isInstance
  repeat (first | with_reducible refine wpAny_loadPart_at made ?_ | wp_step)
  show wpAny _ _ (isSubtype (.ref C) (.ref C)) _ _ ⟨(h.push (kdv_tup more)).push (excO C h.objs.size), g, d, t, os⟩
  refine wpAny_isSubtype_exc hC1 ?_
  rw [own]
  repeat wp_step
  show wpAny _ _ (typeLookup (.ref C) _) _ _ _; refine i1.at (wpAny_holding (wpAny_bind (b1.at (wpAny_bind (wpAny_call (codeAny_mono done fun r s' z => ?_))))))
  match r, z with
  | .error _, z => exact z
  | .ok .next, z => exact z.elim
  | .ok .brk, z => exact z.elim
  | .ok .cont, z => exact z.elim
  | .ok (.ret _), ⟨e1, z⟩ =>
    subst e1
    first | (wp_walk; exact z) | exact wpAny_pure (wpAny_pure z)
end
end Kx
/-! own exceptions as values; raised, their context None. -/
namespace Kx
open L2 PySem PySem.Spec PyProof.Rows
theorem EvC.of {K : PySem.W.Frag} {C : Addr} (T : OexC K C) : EvC K C := by
  obtain ⟨nm, q, N, bs, bm, sn, sub, ab, col, dd, v0, v1, v2, v3, v5, hC, hbm⟩ := T.cls
  have has := fun Y => PySem.HandSPX.refsVE_contains Y bm hbm
  refine ⟨⟨_, _, _, _, nm, q, N, bs, bm, sn, sub, ab, col, dd, v0, v1, v2, v3, v5, F.excBase_ValueError, hC, ?_, ?_, ?_⟩, T.exC, T.tyC, T.kC⟩
  · rw [List.contains_cons, has, F.excBase_ValueError.hasB, Bool.or_true]
  · rw [List.contains_cons, has, F.excBase_ValueError.noAttr]
    rfl
  · rw [List.contains_cons, has, F.excBase_ValueError.noName]
    rfl
theorem EvC.ofKey {K : PySem.W.Frag} {C : Addr} (T : KeyC K C) : EvC K C := by
  obtain ⟨nm, q, N, bs, sn, sub, ab, col, dd, k0, k1, k2, k3, k5, hC⟩ := T.cls
  exact ⟨⟨_, _, _, _, nm, q, N, bs, keyTail, sn, sub, ab, col, dd, k0, k1, k2, k3, k5, F.excBase_LookupError, hC, in_tail (by decide +kernel), in_tail (by decide +kernel), in_tail (by decide +kernel)⟩, T.exC, T.tyC, T.kC⟩
/-- what a made one leaves: the state at the init's start, the init's end -/
def Born (X : Cx) (pins : List (Addr × Obj)) (σ : L2.St) (H : Hp) (C : Addr) (G : Addr → Hp → Prop) (s : Shared) (u : Value) (s' : Shared) : Prop :=
  ∃ (a : Addr) (h2 : Heap), u = .ref a ∧ s.heap.objs.size ≤ a ∧ H a = none ∧ (∀ b o, s.heap.get? b = some o → h2.get? b = some o) ∧ Inv X pins σ (upd H a (exo a C none)) { s with heap := h2 } ∧
    ∃ v, CE X.stack X.prog X.w (upd H a (exo a C none)) { s with heap := h2 } (fun y H2 => y = .non ∧ G a H2) v s'
section
variable {X : Cx} {pins : List (Addr × Obj)} {σ : L2.St} {H : Hp} {s : Shared} {C fI : Addr} {fd : FuncData} {ps ks : List Str} {sp : Sp} {k : Nat} {G : Addr → Hp → Prop}
theorem ev_run {us ws us2 : List Value} {vs2 : List V} (T : EvC X.K C) (iC : PySem.W.findIn X.K (.ref C) "__init__" = some (some (.ref fI))) (tI : PySem.W.typeIn X.K (.ref fI) = some (.type "function")) (F1 : FnOk X.prog X.w X.K X.mg X.base CX0 k fI fd ps sp) (hr : Room (k + 1) X.A) (I : Inv X pins σ H s)
    (hb : ∀ (s' : Shared) (a : Addr), X.K.In s'.heap → BindsTo s' fd ⟨.ref a :: us, ks.zip ws⟩ (ps.zip (.ref a :: us2))) (rel : Vals vs2 us2) (fits : us.length ≤ sizeLine)
    (h : ∀ a, H a = none → sp (.ref a :: vs2) (upd H a (exo a C none)) (fun y H2 => y = .non ∧ G a H2) (fun _ _ _ => False)) :
    wpAny (model X.prog X.w) X.A (call (.ref C) us (ks.zip ws)) (Born X pins σ H C G s) X.xe s := by
  obtain ⟨B, newId, initId, up, nm, q, N, bs, bm, sn, sub, ab, col, dd, k0, k1, k2, k3, k5, F, hC, isB, noA, noN⟩ := T.cls
  obtain ⟨hp, g, dr, tk, os⟩ := (s : Shared)
  have more : hp.objs.size ≤ hp.objs.size + 1 := Nat.le_succ _
  have hn : H (hp.objs.size + 1) = none := I.hok.fresh more
  have all : ∀ b o, hp.get? b = some o → ((hp.push (PySem.W.kdv_tup us)).push (PySem.HandSPX.excO C hp.objs.size)).get? b = some o := fun b o z => Heap.get?_push_of_some _ (Heap.get?_push_of_some _ z)
  have here : ((hp.push (PySem.W.kdv_tup us)).push (PySem.HandSPX.excO C hp.objs.size)).get? (hp.objs.size + 1) = some (PySem.HandSPX.excO C hp.objs.size) := by heap_get
  have J : Inv X pins σ (upd H (hp.objs.size + 1) (exo (hp.objs.size + 1) C none)) ⟨(hp.push (PySem.W.kdv_tup us)).push (PySem.HandSPX.excO C hp.objs.size), g, dr, tk, os⟩ :=
    I.laid (t' := tk) all more (exo_ok here)
  refine wpAny_call (ev_called F (I.kIn _ _ hC) isB noA noN (PySem.W.looks_findIn I.kIn iC) (fun self => PySem.W.bind_fn I.kIn self tI) fits
    (codeAny_mono (F1.run _ X.stack _ _ ⟨Value.ref (hp.objs.size + 1) :: us, ks.zip ws⟩ (Value.ref (hp.objs.size + 1) :: us2) _ _ (fun _ _ _ => False) (hr.make C us (ks.zip ws)) (J.env0.make C us (ks.zip ws)) (hb _ _ J.kIn) (show Vals (V.ref (hp.objs.size + 1) :: vs2) (Value.ref (hp.objs.size + 1) :: us2) from .cons rfl rel) (h _ hn)) fun r s' z => ?_))
  match r, z with
  | .error _, z => exact z.elim
  | .ok .next, z => exact z.elim
  | .ok .brk, z => exact z.elim
  | .ok .cont, z => exact z.elim
  | .ok (.ret u), z =>
    have rv : u = Value.none := by
      obtain ⟨v, H2, _, _, _, _, r, e, _⟩ := z
      subst e
      exact r
    exact ⟨rv, _, _, rfl, more, hn, all, J, _, z⟩
theorem Born.value {Q : VK} {u : Value} {s' : Shared} (b : Born X pins σ H C (fun a H2 => Q (.ref a) H2) s u s') : EP X pins σ Q u s' := by
  obtain ⟨a, h2, rfl, _, _, _, J, v, ce⟩ := b
  obtain ⟨y, H2, J2, _, _, q⟩ := J.after ce
  exact ⟨.ref a, H2, J2, rfl, q⟩
theorem Born.raised {Q : XK} {u : Value} {s' : Shared} (T : EvC X.K C) (I : Inv X pins σ H s)
    (b : Born X pins σ H C (fun a H2 => ∃ (d : Addr) (fs : List (Str × V)), H2 a = some (exo a C (some d)) ∧ H2 d = some (exd d fs) ∧ H d = none ∧ Q (.ref C) (some d) (upd (del H2 a) d (.xd fs))) s u s') : L2N.MkP X pins σ Q u s' := by
  obtain ⟨a, h2, rfl, ha, hn, all, J, v, ce⟩ := b
  obtain ⟨y, H2, os2, bare2, un2, hok2, rv, ev, d, fs, ea, ed, hd1, q⟩ := ce
  obtain ⟨hp, gz, dr, tk, os⟩ := s
  obtain ⟨h3, g3, d3, t3, os3⟩ := s'
  obtain ⟨t0, G, J2, kG, ge, hoe, na⟩ := mk_end0 (d2 := d3) (t2 := t3) I ha all un2 hok2 os2 bare2 ea ed hd1
  refine ⟨a, _, _, ⟨G, g3, d3, t3, os3⟩, _, .ref C, some d, rfl, J2, kG, ge, hoe, ⟨rfl, rfl, fun ws hw => ?_⟩, rfl, rfl, na, rfl, bare2, raises_own T.exC T.tyC, q⟩
  cases hw
  rfl
end
/-- C(e, ..): what the init is asked -/
def tBorn (C : Addr) (sp : Sp) (ta : TA) (P : Hp → Addr → Hp → (V → Hp → Prop) → Prop) : TE := fun σ H Q => ta σ H fun vs H1 => vs.length ≤ 1000 ∧ ∀ a, H1 a = none → sp (.ref a :: vs) (upd H1 a (exo a C none)) (fun y H2 => y = .non ∧ P H1 a H2 Q) (fun _ _ _ => False)
/-- C(e, ..) as a value -/
def tMkV (C : Addr) (sp : Sp) (ta : TA) : TE := fun σ H Q => ta σ H fun vs H1 => vs.length ≤ 1000 ∧ ∀ a, H1 a = none → sp (.ref a :: vs) (upd H1 a (exo a C none)) (fun y H2 => y = .non ∧ Q (.ref a) H2) (fun _ _ _ => False)
/-- C(k = e, ..) as a value -/
def tMkVK (C : Addr) (m : Nat) (sp : Sp) (gV : List V → List V) (tk : TA) : TE := fun σ H Q => tk σ H fun zs H1 => zs.length = m ∧ ∀ a, H1 a = none → sp (.ref a :: gV zs) (upd H1 a (exo a C none)) (fun y H2 => y = .non ∧ Q (.ref a) H2) (fun _ _ _ => False)
/-- C(e, ..), to be raised -/
def tMkN (C : Addr) (sp : Sp) (ta : TA) : L2.St → Hp → XK → Prop := fun σ H Q => ta σ H fun vs H1 => vs.length ≤ 1000 ∧ ∀ a, H1 a = none → sp (.ref a :: vs) (upd H1 a (exo a C none))
  (fun y H2 => y = .non ∧ ∃ (d : Addr) (fs : List (Str × V)), H2 a = some (exo a C (some d)) ∧ H2 d = some (exd d fs) ∧ H1 d = none ∧ Q (.ref C) (some d) (upd (del H2 a) d (.xd fs))) (fun _ _ _ => False)
section
variable {X : Cx} {C fI : Addr} {fd : FuncData} {ps ks : List Str} {sp : Sp} {k : Nat} {x : Str} {e : Expr} {es : List Expr} {kws : List Keyword} {ta tk : TA} {p pos : Pos}
theorem fits_of {vs : List V} {us : List Value} (r : Vals vs us) (h : vs.length ≤ 1000) : us.length ≤ sizeLine := by
  rw [← Paired.length r, sizeLine_eq]
  omega
theorem binds_all (hb : Binds X.K fd ps []) {us : List Value} (n : us.length + 1 = ps.length) (s' : Shared) (a : Addr) (z : X.K.In s'.heap) : BindsTo s' fd ⟨.ref a :: us, ([] : List Str).zip ([] : List Value)⟩ (ps.zip (.ref a :: us)) := by
  have b := hb s' (.ref a :: us) z (by rw [List.append_nil]; exact n)
  rw [List.append_nil] at b
  exact b
theorem pe_mkV (T : EvC X.K C) (iC : PySem.W.findIn X.K (.ref C) "__init__" = some (some (.ref fI))) (tI : PySem.W.typeIn X.K (.ref fI) = some (.type "function")) (F1 : FnOk X.prog X.w X.K X.mg X.base CX0 k fI fd ps sp) (hr : Room (k + 1) X.A) (hb : Binds X.K fd ps []) (hm : X.mg x = some (.ref C)) (ha : PA X (e :: es) ta) (hg : Gl X x := by rfl)
    (hdb : (x == ("__debug__" : Str)) = false := by decide) (he : starEach (e :: es) X.env = (false, eval e X.env) :: starEach es X.env := by rfl) (hpl : (backTo pos (starEach es X.env)).any (·.1) = false := by rfl) : PE X (.Call (.Name x p) (e :: es) [] pos) (tMkV C sp ta) := by
  refine ⟨fun pins s σ H Q I h => wpAny_Call_Name_kw (ld_glob I hg hm ?_ hdb)⟩
  refine PySem.W.callWith_K (h₀ := X.base) I.ok.mod.kin T.kC (thn (ha.run pos pins s σ H _ I h) fun us s1 ⟨vs, H1, I1, r1, hz, q⟩ => ⟨I1.kIn, ?_⟩) he hpl
  have n : us.length + 1 = ps.length := by
    have l1 := F1.len _ _ _ _ (q s1.heap.objs.size (I1.hok.fresh (Nat.le_refl _)))
    have l2 := Paired.length r1
    rw [List.length_cons] at l1
    omega
  exact wpAny_mono (ev_run (ks := []) (ws := []) (G := fun a H2 => Q (.ref a) H2) T iC tI F1 hr I1 (binds_all hb n) r1 (fits_of r1 hz) q) (fun _ _ z => z.value) fun _ _ z => z
theorem pe_mkVK {g : List Value → List Value} {gV : List V → List V} (T : EvC X.K C) (iC : PySem.W.findIn X.K (.ref C) "__init__" = some (some (.ref fI))) (tI : PySem.W.typeIn X.K (.ref fI) = some (.type "function")) (F1 : FnOk X.prog X.w X.K X.mg X.base CX0 k fI fd ps sp) (hr : Room (k + 1) X.A)
    (hb : ∀ (s' : Shared) (a : Addr) (ws : List Value), X.K.In s'.heap → ws.length = ks.length → BindsTo s' fd ⟨[.ref a], ks.zip ws⟩ (ps.zip (.ref a :: g ws))) (rel : ∀ {zs : List V} {ws : List Value}, Vals zs ws → Vals (gV zs) (g ws)) (hm : X.mg x = some (.ref C)) (hkw : PK X kws tk) (hg : Gl X x := by rfl)
    (hal : (backToKw pos (keywordEach kws X.env)).all (·.1.isSome) = true := by rfl) (hky : (backToKw pos (keywordEach kws X.env)).filterMap (·.1) = ks := by rfl) (hdb : (x == ("__debug__" : Str)) = false := by decide)
    (hnp : ((backTo pos (starEach [] X.env)).any (·.1) || (backToKw pos (keywordEach kws X.env)).any (·.1.isNone)) = false := by rfl) : PE X (.Call (.Name x p) [] kws pos) (tMkVK C ks.length sp gV tk) := by
  refine ⟨fun pins s σ H Q I h => wpAny_Call_Name_kw (ld_glob I hg hm ?_ hdb)⟩
  refine PySem.W.callWith_KW0 (h₀ := X.base) I.ok.mod.kin T.kC hal ?_ hnp
  refine thn (hkw.run pos pins s σ H _ I h) fun ws s2 ⟨zs, H2, I2, rz, l2, q⟩ => ⟨I2.kIn, ?_⟩
  rw [hky]
  exact wpAny_mono (ev_run (us := []) (G := fun a H3 => Q (.ref a) H3) T iC tI F1 hr I2 (fun s' a z => hb s' a ws z (rz.length.symm.trans l2)) (rel rz) (Nat.zero_le _) q) (fun _ _ z => z.value) fun _ _ z => z
theorem pmkN (T : EvC X.K C) (iC : PySem.W.findIn X.K (.ref C) "__init__" = some (some (.ref fI))) (tI : PySem.W.typeIn X.K (.ref fI) = some (.type "function")) (F1 : FnOk X.prog X.w X.K X.mg X.base CX0 k fI fd ps sp) (hr : Room (k + 1) X.A) (hb : Binds X.K fd ps []) (hm : X.mg x = some (.ref C)) (ha : PA X (e :: es) ta) (hg : Gl X x := by rfl)
    (hdb : (x == ("__debug__" : Str)) = false := by decide) (he : starEach (e :: es) X.env = (false, eval e X.env) :: starEach es X.env := by rfl) (hpl : (backTo pos (starEach es X.env)).any (·.1) = false := by rfl) : L2N.PMk X (.Call (.Name x p) (e :: es) [] pos) (tMkN C sp ta) := by
  intro pins s σ H Q I h
  refine wpAny_Call_Name_kw (ld_glob (X := X) I hg hm ?_ hdb)
  refine PySem.W.callWith_K (h₀ := X.base) I.ok.mod.kin T.kC (thn (ha.run pos pins s σ H _ I h) fun us s1 ⟨vs, H1, I1, r1, hz, q⟩ => ⟨I1.kIn, ?_⟩) he hpl
  have n : us.length + 1 = ps.length := by
    have l1 := F1.len _ _ _ _ (q s1.heap.objs.size (I1.hok.fresh (Nat.le_refl _)))
    have l2 := Paired.length r1
    rw [List.length_cons] at l1
    omega
  exact wpAny_mono (ev_run (ks := []) (ws := []) T iC tI F1 hr I1 (binds_all hb n) r1 (fits_of r1 hz) q) (fun _ _ z => z.raised T I1) fun _ _ z => z
end
end Kx
/-! own errors raised, their context None: of one field, over ValueError or KeyError; of three. -/
namespace Kx
open L2 PySem PySem.Spec PyProof.Rows
/-! ### self.f = v on an error over KeyError -/
section
variable {X : Cx} {pins : List (Addr × Obj)} {σ : L2.St} {H : Hp} {s : Shared} {a C dx : Addr} {f : Str} {y : V}
theorem inv_dict {h' : Heap} {t1 : Addr} {tk : Nat} {u : Value} (I : Inv X pins σ H s) (ha : H a = some (exo a C none)) (k : ∀ b o, b ≠ a → s.heap.get? b = some o → h'.get? b = some o) (dn : s.heap.objs.size ≤ dx) (dne : dx ≠ a)
    (hx : h'.get? a = some { cls := .ref C, dict := some dx, data := .fields #[.ref t1, .none, .none, .none, .bool false, .none] }) (hn : h'.Ns1 dx (fun z => if z = f then some u else none)) (ry : RelV y u) :
    H dx = none ∧ Inv X pins σ (upd (upd H dx (exd dx [(f, y)])) a (exo a C (some dx))) { s with heap := h', toks := tk } := by
  have free : H dx = none := I.hok.fresh dn
  have nd : ∀ {b : Addr} {o : Obj}, s.heap.get? b = some o → b ≠ dx := fun q => Nat.ne_of_lt (Nat.lt_of_lt_of_le (Heap.lt_size q) dn)
  have na : ∀ {b : Addr}, H b = none → b ≠ a := fun {b} n => by
    rintro rfl
    rw [ha] at n
    exact nomatch n
  have step : Un X.fs [] H (upd (upd H dx (exd dx [(f, y)])) a (exo a C (some dx))) s.heap h' := {
    keep := fun b ob q n _ _ => k b ob (na n) q
    slot := fun b ob q n _ _ => ⟨ob.slots, k b ob (na n) q⟩
    free := fun b ob q n _ => by rw [upd_ne (na n), upd_ne (nd q)]; exact n
    there := fun b o q _ => (Decidable.em (b = a)).elim (fun e => ⟨_, e ▸ hx⟩) fun e => ⟨o, k b o e q⟩
    tups := fun b xs q => by rw [upd_ne (at_ne ha q exo_tup), upd_ne (ne_of_none q free)]; exact q
    frzs := fun b o v q => by rw [upd_ne (at_ne ha q exo_frz), upd_ne (ne_of_none q free)]; exact q
    tbls := fun b ps q => ⟨#[], by rw [upd_ne (at_ne ha q exo_tbl), upd_ne (ne_of_none q free), q, Array.append_empty]⟩ }
  refine ⟨free, I.un (t' := tk) step fun b o q => ?_⟩
  by_cases ea : b = a
  · subst ea
    rw [upd_same] at q
    obtain rfl := Option.some.inj q
    exact exo_ok hx
  rw [upd_ne ea] at q
  by_cases ed : b = dx
  · subst ed
    rw [upd_same] at q
    obtain rfl := Option.some.inj q
    exact exd_ok hn (relO_put (fs := []) ry fun _ => True.intro)
  rw [upd_ne ed] at q
  refine (I.hok b o q).stay (fun c v hc z => k c v (hc.elim (fun e => e ▸ ea) fun hc => at_ne ha hc exo_own) z) (fun c hc => ?_) fun c xs hc => ?_
  · rw [upd_ne (at_ne ha hc exo_own), upd_ne (ne_of_none hc free)]
    exact hc
  · rw [upd_ne (at_ne ha hc exo_tup), upd_ne (ne_of_none hc free)]
    exact hc
end
/-- self.f = e -/
def tOstK (K : PySem.W.Frag) (f : Str) (to te : TE) : TS := fun D σ H => te σ H fun y H1 => to σ H1 fun x H2 => ∃ a C : Addr, x = .ref a ∧ KeyC K C ∧ PySem.W.findIn K (.ref C) f = some none ∧ H2 a = some (exo a C none) ∧
  ∀ dx, H2 dx = none → dx ≠ a → D.nx σ (upd (upd H2 dx (exd dx [(f, y)])) a (exo a C (some dx)))
theorem ps_ostK {X : Cx} {o e : Expr} {to te : TE} {f : Str} {p' pos : Pos} (ho : PE X o to) (he : PE X e te) (hs : swapsWith e (some (.Attribute o f p')) pos.line X.env = pure false := by rfl) : PS X (.Assign [.Attribute o f p'] e pos) (tOstK X.K f to te) := by
  refine ⟨fun pins s σ H D I h => plainObj_wpAny_Assign_Attribute (thn (he.run pins s σ H _ I h) fun v s1 ⟨y, H1, I1, r1, q1⟩ => thn (ho.run pins s1 σ H1 _ I1 q1) fun u s2 ⟨x, H2, I2, r2, a, C, ex, T, no, ha, q⟩ => ?_) hs⟩
  subst ex
  obtain rfl := (show u = Value.ref a from r2)
  obtain ⟨t1, hob⟩ := exo_at I2.hok ha
  obtain ⟨hp, gz, dr, tk, os⟩ := s2
  refine PySem.W.set_plain I2.kIn (ox := { cls := .ref C, dict := none, data := .fields #[.ref t1, .none, .none, .none, .bool false, .none] }) (od := none) ⟨hob, rfl, rfl, trivial⟩ T.sa (key_osa T I2.kIn hob no fun h' tk' dx k dn dne hx hn => ?_)
  obtain ⟨free, J⟩ := inv_dict (tk := tk') I2 ha k dn dne hx hn r1
  exact ⟨σ, _, J, q dx free dne⟩
theorem ok_keepK {P : Program} {w : World} {K : PySem.W.Frag} {mg : Str → Option Value} {base : Heap} {C fI : Addr} {fd : FuncData} {f qual : Str} {params : Arguments} {scope : Scope} {p1 p2 p3 p4 : Pos}
    (F : FunD K "__init__" qual params [.Assign [.Attribute (.Name "self" p1) f p2] (.Name f p3) p4] scope [] [] fI fd) (T : KeyC K C) (no : PySem.W.findIn K (.ref C) f = some none)
    (sc : FnScope ["self", f] ["self", f] scope) (hd : (f == ("__debug__" : Str)) = false) (hcd : (f == ("__classdict__" : Str)) = false) (l0 : scope.names.lookup ("self" : Str) = some .local) (l1 : scope.names.lookup f = some .local) :
    FnOk P w K mg base CX0 1 fI fd ["self", f] (spKeep K C f) := by
  refine F.ok sc (fun vs H Q E h => ?_) (fun cdv A outer s H vs Q E hr h => ?_)
  · obtain ⟨a, v, rfl, _⟩ := h
    rfl
  · obtain ⟨a, v, rfl, ha, k⟩ := h
    exact ⟨_, pss_one (ps_ostK (pe_var (i := 0) rfl (.inl l0)) (pe_var (i := 1) rfl (.inl l1) hd hcd)), _, rfl, _, rfl, a, C, rfl, T, no, ha, fun dx n1 n2 => k dx n1 n2⟩
/-! ### what the module holds of an error of one field, of whatever base -/
structure ErrN (P : Program) (w : World) (K : PySem.W.Frag) (mg : Str → Option Value) (base : Heap) (k : Nat) (x f : Str) (C : Addr) : Prop where
  at_ : mg x = some (.ref C)
  cls : EvC K C
  ini : ∃ (fI : Addr) (fd : FuncData), PySem.W.findIn K (.ref C) "__init__" = some (some (.ref fI)) ∧ PySem.W.typeIn K (.ref fI) = some (.type "function") ∧ Binds K fd ["self", f] [] ∧ FnOk P w K mg base CX0 k fI fd ["self", f] (spKeep K C f) ∧
    ∀ (s' : Shared) (a : Addr) (ws : List Value), K.In s'.heap → ws.length = 1 → BindsTo s' fd ⟨[.ref a], ([f] : List Str).zip ws⟩ ((["self", f] : List Str).zip (.ref a :: ws))
section
variable {X : Cx} {k j : Nat} {x f : Str} {C : Addr} {e : Expr} {ta : TA} {W : WX} {p pos p2 : Pos}
theorem psN (T : ErrN X.prog X.w X.K X.mg X.base k x f C) (hc : X.calm = true) (hr : Room j X.A) (tk : L2N.Takes X W) (ha : PA X [e] ta) (hk : k + 1 ≤ j := by decide) (hg : Gl X x := by rfl) (hdb : (x == ("__debug__" : Str)) = false := by decide)
    (he : starEach (e :: []) X.env = (false, eval e X.env) :: starEach [] X.env := by rfl) (hpl : (backTo pos (starEach [] X.env)).any (·.1) = false := by rfl) :
    PS X (.Raise (some (.Call (.Name x p) [e] [] pos)) none p2) (fun _ σ H => tMkN C (spKeep X.K C f) ta σ H fun cls d H' => W cls d σ H') := by
  obtain ⟨fI, fd, h1, h2, h3, h4, _⟩ := T.ini
  exact L2N.ps_raise hc tk (pmkN T.cls h1 h2 h4 (hr.mono hk) h3 T.at_ ha hg hdb he hpl)
/-- C(e) as a value -/
theorem peV (T : ErrN X.prog X.w X.K X.mg X.base k x f C) (hr : Room j X.A) (ha : PA X [e] ta) (hk : k + 1 ≤ j := by decide) (hg : Gl X x := by rfl) (hdb : (x == ("__debug__" : Str)) = false := by decide)
    (he : starEach (e :: []) X.env = (false, eval e X.env) :: starEach [] X.env := by rfl) (hpl : (backTo pos (starEach [] X.env)).any (·.1) = false := by rfl) : PE X (.Call (.Name x p) [e] [] pos) (tMkV C (spKeep X.K C f) ta) := by
  obtain ⟨fI, fd, h1, h2, h3, h4, _⟩ := T.ini
  exact pe_mkV T.cls h1 h2 h4 (hr.mono hk) h3 T.at_ ha hg hdb he hpl
/-- C(f = e) as a value -/
theorem peVK {kws : List Keyword} {tk : TA} (T : ErrN X.prog X.w X.K X.mg X.base k x f C) (hr : Room j X.A) (hkw : PK X kws tk) (hk : k + 1 ≤ j := by decide) (hg : Gl X x := by rfl)
    (hal : (backToKw pos (keywordEach kws X.env)).all (·.1.isSome) = true := by rfl) (hky : (backToKw pos (keywordEach kws X.env)).filterMap (·.1) = [f] := by rfl) (hdb : (x == ("__debug__" : Str)) = false := by decide)
    (hnp : ((backTo pos (starEach [] X.env)).any (·.1) || (backToKw pos (keywordEach kws X.env)).any (·.1.isNone)) = false := by rfl) : PE X (.Call (.Name x p) [] kws pos) (tMkVK C 1 (spKeep X.K C f) id tk) := by
  obtain ⟨fI, fd, h1, h2, h3, h4, h5⟩ := T.ini
  exact pe_mkVK (g := id) (gV := id) (ks := [f]) T.cls h1 h2 h4 (hr.mono hk) h5 (fun r => r) T.at_ hkw hg hal hky hdb hnp
end
/-- a made value: what stands there -/
theorem made {K : PySem.W.Frag} {C : Addr} {f : Str} {v : V} {H : Hp} {Q : VK} (h : ∀ a d H', Same H H' → EvAt H' a C d [(f, v)] → Q (.ref a) H') :
    [v].length ≤ 1000 ∧ ∀ a, H a = none → spKeep K C f (.ref a :: [v]) (upd H a (exo a C none)) (fun y H2 => y = .non ∧ Q (.ref a) H2) (fun _ _ _ => False) := by
  refine ⟨Nat.succ_le_of_lt (by simp), fun a ha => ⟨a, v, rfl, upd_same, fun d hd ne => ⟨rfl, ?_⟩⟩⟩
  rw [upd_ne ne] at hd
  refine h a d _ (fun b o q => ?_) (exo_ev upd_same (by rw [upd_ne ne, upd_same]))
  have e1 := ne_of_none q ha
  rw [upd_ne e1, upd_ne (ne_of_none q hd), upd_ne e1]
  exact q
theorem madeK {K : PySem.W.Frag} {C : Addr} {f : Str} {v : V} {H : Hp} {Q : VK} (h : ∀ a d H', Same H H' → EvAt H' a C d [(f, v)] → Q (.ref a) H') :
    [v].length = 1 ∧ ∀ a, H a = none → spKeep K C f (.ref a :: id [v]) (upd H a (exo a C none)) (fun y H2 => y = .non ∧ Q (.ref a) H2) (fun _ _ _ => False) := ⟨rfl, (made h).2⟩
/-- raised -/
theorem thrownN {K : PySem.W.Frag} {C : Addr} {f : Str} {v : V} {H : Hp} {R : XK} (h : ∀ d, H d = none → R (.ref C) (some d) (upd H d (.xd [(f, v)]))) :
    [v].length ≤ 1000 ∧ ∀ a, H a = none → spKeep K C f (.ref a :: [v]) (upd H a (exo a C none))
      (fun y H2 => y = .non ∧ ∃ (d : Addr) (fs : List (Str × V)), H2 a = some (exo a C (some d)) ∧ H2 d = some (exd d fs) ∧ H d = none ∧ R (.ref C) (some d) (upd (del H2 a) d (.xd fs))) (fun _ _ _ => False) := thrown h
end Kx
/-! an own error of three fields. -/
namespace Kx
open L2 PySem PySem.Spec PyProof.Rows
def spKeep3 (K : PySem.W.Frag) (C : Addr) (f g h : Str) : Sp := fun vs H Q _ => ∃ (a : Addr) (x y z : V), vs = [.ref a, x, y, z] ∧ H a = some (exo a C none) ∧
  ∀ d H2, H d = none → d ≠ a → (∀ b, b ≠ a → b ≠ d → H2 b = H b) → H2 a = some (exo a C (some d)) → H2 d = some (exd d [(h, z), (g, y), (f, x)]) → Q .non H2
theorem ok_keep3 {P : Program} {w : World} {K : PySem.W.Frag} {mg : Str → Option Value} {base : Heap} {C fI : Addr} {fd : FuncData} {f g h qual : Str} {params : Arguments} {scope : Scope} {p1 p2 p3 p4 q1 q2 q3 q4 r1 r2 r3 r4 : Pos}
    (F : FunD K "__init__" qual params [.Assign [.Attribute (.Name "self" p1) f p2] (.Name f p3) p4, .Assign [.Attribute (.Name "self" q1) g q2] (.Name g q3) q4, .Assign [.Attribute (.Name "self" r1) h r2] (.Name h r3) r4] scope [] [] fI fd)
    (T : OexC K C) (nf : PySem.W.findIn K (.ref C) f = some none) (ng : PySem.W.findIn K (.ref C) g = some none) (nh : PySem.W.findIn K (.ref C) h = some none)
    (sc : FnScope ["self", f, g, h] ["self", f, g, h] scope) (df : (f == ("__debug__" : Str)) = false) (cf : (f == ("__classdict__" : Str)) = false) (dg : (g == ("__debug__" : Str)) = false) (cg : (g == ("__classdict__" : Str)) = false) (dh : (h == ("__debug__" : Str)) = false) (ch : (h == ("__classdict__" : Str)) = false)
    (l0 : scope.names.lookup ("self" : Str) = some .local) (lf : scope.names.lookup f = some .local) (lg : scope.names.lookup g = some .local) (lh : scope.names.lookup h = some .local) : FnOk P w K mg base CX0 1 fI fd ["self", f, g, h] (spKeep3 K C f g h) := by
  refine F.ok sc (fun vs H Q E z => ?_) (fun cdv A outer s H vs Q E hr z => ?_)
  · obtain ⟨a, x, y, z, rfl, _⟩ := z
    rfl
  · obtain ⟨a, x, y, z, rfl, ha, k⟩ := z
    refine ⟨_, pss_cons (ps_ost (pe_var (i := 0) rfl (.inl l0)) (pe_var (i := 1) rfl (.inl lf) df cf)) (pss_cons (ps_ost (pe_var (i := 0) rfl (.inl l0)) (pe_var (i := 2) rfl (.inl lg) dg cg)) (pss_one (ps_ost (pe_var (i := 0) rfl (.inl l0)) (pe_var (i := 3) rfl (.inl lh) dh ch)))), ?_⟩
    refine ⟨_, rfl, _, rfl, a, C, rfl, T, nf, .inl ⟨ha, fun d n1 n2 => ?_⟩⟩
    have a1 : upd (upd H d (exd d [(f, x)])) a (exo a C (some d)) a = some (exo a C (some d)) := upd_same
    have d1 : upd (upd H d (exd d [(f, x)])) a (exo a C (some d)) d = some (exd d [(f, x)]) := by rw [upd_ne n2, upd_same]
    refine ⟨_, rfl, _, rfl, a, C, rfl, T, ng, .inr ⟨d, _, a1, d1, by simp, ?_⟩⟩
    have a2 : upd (upd (upd H d (exd d [(f, x)])) a (exo a C (some d))) d (exd d [(g, y), (f, x)]) a = some (exo a C (some d)) := by rw [upd_ne (Ne.symm n2)]; exact a1
    refine ⟨_, rfl, _, rfl, a, C, rfl, T, nh, .inr ⟨d, _, a2, upd_same, by simp, ?_⟩⟩
    exact k d _ n1 n2 (fun b e1 e2 => by rw [upd_ne e2, upd_ne e2, upd_ne e1, upd_ne e2]) (by rw [upd_ne (Ne.symm n2)]; exact a2) upd_same
structure ErrF (P : Program) (w : World) (K : PySem.W.Frag) (mg : Str → Option Value) (base : Heap) (k : Nat) (x f g h : Str) (C : Addr) : Prop where
  at_ : mg x = some (.ref C)
  cls : OexC K C
  ini : ∃ (fI : Addr) (fd : FuncData), PySem.W.findIn K (.ref C) "__init__" = some (some (.ref fI)) ∧ PySem.W.typeIn K (.ref fI) = some (.type "function") ∧ Binds K fd ["self", f, g, h] [] ∧ FnOk P w K mg base CX0 k fI fd ["self", f, g, h] (spKeep3 K C f g h) ∧
    ∀ (s' : Shared) (a : Addr) (ws : List Value), K.In s'.heap → ws.length = 3 → BindsTo s' fd ⟨[.ref a], ([h, f, g] : List Str).zip ws⟩ ((["self", f, g, h] : List Str).zip (.ref a :: [ws.getD 1 .none, ws.getD 2 .none, ws.getD 0 .none]))
theorem made3 {K : PySem.W.Frag} {C : Addr} {f g h : Str} {x y z : V} {H : Hp} {Q : VK} (q : ∀ a d H', Same H H' → EvAt H' a C d [(h, z), (g, y), (f, x)] → Q (.ref a) H') :
    [x, y, z].length ≤ 1000 ∧ ∀ a, H a = none → spKeep3 K C f g h (.ref a :: [x, y, z]) (upd H a (exo a C none)) (fun u H2 => u = .non ∧ Q (.ref a) H2) (fun _ _ _ => False) := by
  refine ⟨by simp, fun a ha => ⟨a, x, y, z, rfl, upd_same, fun d H2 hd ne keep h1 h2 => ⟨rfl, q a d H2 (fun b o e => ?_) (exo_ev h1 h2)⟩⟩⟩
  rw [upd_ne ne] at hd
  have e1 := ne_of_none e ha
  rw [keep b e1 (ne_of_none e hd), upd_ne e1]
  exact e
theorem made3K {K : PySem.W.Frag} {C : Addr} {f g h : Str} {x y z : V} {H : Hp} {Q : VK} (q : ∀ a d H', Same H H' → EvAt H' a C d [(h, z), (g, y), (f, x)] → Q (.ref a) H') :
    [z, x, y].length = 3 ∧ ∀ a, H a = none → spKeep3 K C f g h (.ref a :: [[z, x, y].getD 1 .non, [z, x, y].getD 2 .non, [z, x, y].getD 0 .non]) (upd H a (exo a C none)) (fun u H2 => u = .non ∧ Q (.ref a) H2) (fun _ _ _ => False) := ⟨rfl, (made3 q).2⟩
theorem thrown3 {K : PySem.W.Frag} {C : Addr} {f g h : Str} {x y z : V} {H : Hp} {R : XK} (q : ∀ d, H d = none → R (.ref C) (some d) (upd H d (.xd [(h, z), (g, y), (f, x)]))) :
    [x, y, z].length ≤ 1000 ∧ ∀ a, H a = none → spKeep3 K C f g h (.ref a :: [x, y, z]) (upd H a (exo a C none))
      (fun u H2 => u = .non ∧ ∃ (d : Addr) (fs : List (Str × V)), H2 a = some (exo a C (some d)) ∧ H2 d = some (exd d fs) ∧ H d = none ∧ R (.ref C) (some d) (upd (del H2 a) d (.xd fs))) (fun _ _ _ => False) := by
  refine ⟨by simp, fun a ha => ⟨a, x, y, z, rfl, upd_same, fun d H2 hd ne keep h1 h2 => ⟨rfl, d, _, h1, h2, ?_, ?_⟩⟩⟩
  · rwa [upd_ne ne] at hd
  · have hd : H d = none := by rwa [upd_ne ne] at hd
    have e : upd (del H2 a) d (.xd [(h, z), (g, y), (f, x)]) = upd H d (.xd [(h, z), (g, y), (f, x)]) := by
      funext b
      by_cases e1 : b = d
      · rw [e1, upd_same, upd_same]
      · rw [upd_ne e1, upd_ne e1]
        by_cases e2 : b = a
        · rw [e2, del_same, ha]
        · rw [del_ne e2, keep b e2 e1, upd_ne e2]
    rw [e]
    exact q d hd
section
variable {X : Cx} {k j : Nat} {x f g h : Str} {C : Addr} {e : Expr} {es : List Expr} {ta : TA} {W : WX} {p pos p2 : Pos}
theorem psF (T : ErrF X.prog X.w X.K X.mg X.base k x f g h C) (hc : X.calm = true) (hr : Room j X.A) (tk : L2N.Takes X W) (ha : PA X (e :: es) ta) (hk : k + 1 ≤ j := by decide) (hg : Gl X x := by rfl) (hdb : (x == ("__debug__" : Str)) = false := by decide)
    (hz : starEach (e :: es) X.env = (false, eval e X.env) :: starEach es X.env := by rfl) (hpl : (backTo pos (starEach es X.env)).any (·.1) = false := by rfl) :
    PS X (.Raise (some (.Call (.Name x p) (e :: es) [] pos)) none p2) (fun _ σ H => tMkN C (spKeep3 X.K C f g h) ta σ H fun cls d H' => W cls d σ H') := by
  obtain ⟨fI, fd, h1, h2, h3, h4, _⟩ := T.ini
  exact L2N.ps_raise hc tk (pmkN (.of T.cls) h1 h2 h4 (hr.mono hk) h3 T.at_ ha hg hdb hz hpl)
theorem peF (T : ErrF X.prog X.w X.K X.mg X.base k x f g h C) (hr : Room j X.A) (ha : PA X (e :: es) ta) (hk : k + 1 ≤ j := by decide) (hg : Gl X x := by rfl) (hdb : (x == ("__debug__" : Str)) = false := by decide)
    (he : starEach (e :: es) X.env = (false, eval e X.env) :: starEach es X.env := by rfl) (hpl : (backTo pos (starEach es X.env)).any (·.1) = false := by rfl) : PE X (.Call (.Name x p) (e :: es) [] pos) (tMkV C (spKeep3 X.K C f g h) ta) := by
  obtain ⟨fI, fd, h1, h2, h3, h4, _⟩ := T.ini
  exact pe_mkV (.of T.cls) h1 h2 h4 (hr.mono hk) h3 T.at_ ha hg hdb he hpl
theorem vals_get {zs : List V} {ws : List Value} (r : Vals zs ws) (i : Nat) : RelV (zs.getD i .non) (ws.getD i .none) := by
  induction r generalizing i with
  | nil => exact rfl
  | cons h _ ih => cases i with
    | zero => exact h
    | succ i => exact ih i
/-- C(h = .., f = .., g = ..) as a value -/
theorem peFK {kws : List Keyword} {tk : TA} (T : ErrF X.prog X.w X.K X.mg X.base k x f g h C) (hr : Room j X.A) (hkw : PK X kws tk) (hk : k + 1 ≤ j := by decide) (hg : Gl X x := by rfl)
    (hal : (backToKw pos (keywordEach kws X.env)).all (·.1.isSome) = true := by rfl) (hky : (backToKw pos (keywordEach kws X.env)).filterMap (·.1) = [h, f, g] := by rfl) (hdb : (x == ("__debug__" : Str)) = false := by decide)
    (hnp : ((backTo pos (starEach [] X.env)).any (·.1) || (backToKw pos (keywordEach kws X.env)).any (·.1.isNone)) = false := by rfl) : PE X (.Call (.Name x p) [] kws pos) (tMkVK C 3 (spKeep3 X.K C f g h) (fun zs => [zs.getD 1 .non, zs.getD 2 .non, zs.getD 0 .non]) tk) := by
  obtain ⟨fI, fd, h1, h2, h3, h4, h5⟩ := T.ini
  exact pe_mkVK (g := fun ws => [ws.getD 1 .none, ws.getD 2 .none, ws.getD 0 .none]) (gV := fun zs => [zs.getD 1 .non, zs.getD 2 .non, zs.getD 0 .non]) (ks := [h, f, g]) (.of T.cls) h1 h2 h4 (hr.mono hk) h5 (fun r => .cons (vals_get r 1) (.cons (vals_get r 2) (.cons (vals_get r 0) .nil))) T.at_ hkw hg hal hky hdb hnp
end
end Kx
/-! lambdas held as values, called where they were made; their errors' context None. -/
namespace Kx
open L2 PySem PySem.Spec PyProof.Rows LamX
/-- the function object at f is ob -/
abbrev LamO (f : Addr) (ob : Obj) : HO := .ext fun h => h.get? f = some ob
theorem lamO_ok {P : Program} {w : World} {H : Hp} {h : Heap} {f : Addr} {ob : Obj} (e : h.get? f = some ob) : ObjOk P w H h f (LamO f ob) := ⟨e, ⟨ob, e⟩, fun h1 h2 z k => k _ z⟩
abbrev lamOb (X : Cx) (params : Arguments) (body : Expr) (scope : Scope) (pm : Value) (c' : Addr) (ctv : Value) : Obj := PySem.W.kla_obj "<lambda>" (X.env.qual ++ "<lambda>") params body scope (cloFrom X.env.cells scope.names []) pm c' ctv
/-- lambda: body, as a value -/
def tLamV (X : Cx) (T : List (Addr × Str)) (params : Arguments) (body : Expr) (scope : Scope) : TE := fun σ H Q => Tabs T H ∧ ∀ (f c' : Addr) (pm ctv : Value) (H1 : Hp), ExtN H H1 → Tabs T H1 → H f = none → H1 f = none → H1 c' = some (CodeO c' (X.env.qual ++ "<lambda>")) →
  Q (.ref f) (upd H1 f (LamO f (lamOb X params body scope pm c' ctv)))
section
variable {X : Cx}
theorem pe_lamV {T : List (Addr × Str)} {c P : Addr} {params : Arguments} {body : Expr} {scope : Scope} {pos : Pos} (TB : TabB X.base X.mg c P) (code : X.env.code = .ref c) (mem : (P, X.env.qual ++ "<lambda>") ∈ T) (only : ∀ p ∈ T, p.1 = P → p.2 = X.env.qual ++ "<lambda>")
    (hdef : defaultsOf params X.env = ([], [])) (L : LamS X.env.scope scope) : PE X (.Lambda params body scope pos) (tLamV X T params body scope) := by
  refine ⟨fun pins s σ H Q I asked => ?_⟩
  obtain ⟨hT, h⟩ := asked
  obtain ⟨ps, hP, trip, among⟩ := hT _ mem
  have free := L.has I.ok
  have here : s.heap.get? P = some { cls := .none, data := .fields ps } := I.hok P _ hP
  refine PySem.W.kla_eval hdef ?_; cases hc : codeAmong pos ps.toList with
  | some cv =>
    obtain ⟨c', rfl, old⟩ := among pos cv hc
    refine PySem.W.kla_makeFunctionHit (mg := X.mg) (c := c) (P := P) (ps := ps) (closure_ok free) I.ok.glob (I.mod.glob.keeps I.bk) code (TB.code.keeps I.bk) here trip hc (TB.bm.keeps I.bk) fun ctv h' tk all wide => ?_
    have J : Inv X pins σ H { s with heap := h', toks := tk } := I.kept all
    have J2 := J.laid (t' := tk) (a := h'.objs.size) (o := LamO h'.objs.size (lamOb X params body scope ((X.mg "__name__").getD .none) c' ctv)) (h' := h'.push (lamOb X params body scope ((X.mg "__name__").getD .none) c' ctv)) (fun b o e => Heap.get?_push_of_some _ e) (Nat.le_refl _) (lamO_ok (Heap.get?_push_size _ rfl))
    exact ⟨V.ref h'.objs.size, _, J2, rfl, h h'.objs.size c' _ ctv H (ExtN.refl H) hT (I.hok.fresh wide) (I.hok.fresh wide) old⟩
  | none =>
    refine PySem.W.kla_makeFunction (mg := X.mg) (c := c) (P := P) (ps := ps) (closure_ok free) I.ok.glob (I.mod.glob.keeps I.bk) code (TB.code.keeps I.bk) here trip hc TB.gP (TB.bm.keeps I.bk) fun c' ctv h' tk all ge lt rec_ tb => ?_
    obtain ⟨c2, oc, vs, t, e2, hoc, hd, hv⟩ := rec_
    cases e2
    have wide : s.heap.objs.size ≤ h'.objs.size := Nat.le_trans ge (Nat.le_of_lt lt)
    have nC : H c' = none := I.hok.fresh ge
    have J := inv_table (t' := tk) (more := #[rawInt pos.line, rawInt pos.col, .ref c']) I hP all tb ge ⟨oc, vs, t, hoc, hd, hv⟩
    have J2 := J.laid (t' := tk) (a := h'.objs.size) (o := LamO h'.objs.size (lamOb X params body scope ((X.mg "__name__").getD .none) c' ctv)) (h' := h'.push (lamOb X params body scope ((X.mg "__name__").getD .none) c' ctv)) (fun b o e => Heap.get?_push_of_some _ e) (Nat.le_refl _) (lamO_ok (Heap.get?_push_size _ rfl))
    have ext : ExtN H (upd (upd H P (.tbl (ps ++ #[rawInt pos.line, rawInt pos.col, .ref c']))) c' (CodeO c' (X.env.qual ++ "<lambda>"))) := fun b o e n => by
      have ne : b ≠ P := fun z => n ps (Option.some.inj (e.symm.trans (z ▸ hP)))
      rw [upd_ne (ne_of_none e nC), upd_ne ne]
      exact e
    have eL : (ps ++ #[rawInt pos.line, rawInt pos.col, Value.ref c']).toList = ps.toList ++ [rawInt pos.line, rawInt pos.col, Value.ref c'] := by simp
    refine ⟨V.ref h'.objs.size, _, J2, rfl, h h'.objs.size c' _ ctv _ ext (fun p hp => ?_) (I.hok.fresh wide) (J.hok.fresh (Nat.le_refl _)) upd_same⟩
    by_cases hb : p.1 = P
    · rw [only p hp hb, hb]
      refine ⟨_, (upd_ne (ne_of_none hP nC)).trans upd_same, eL ▸ PySem.TriplesOk_snoc _ _ _ _ trip, fun p' cv hcv => ?_⟩
      rw [eL] at hcv
      rcases among_app _ trip hcv with z | z
      · obtain ⟨c0, e1, e2⟩ := among p' cv z
        exact ⟨c0, e1, ext _ _ e2 codeO_ne⟩
      · exact ⟨c', z, upd_same⟩
    · obtain ⟨qs, a1, a2, a3⟩ := hT p hp
      refine ⟨qs, ((upd_ne (ne_of_none a1 nC)).trans (upd_ne hb)).trans a1, a2, fun p' cv hcv => ?_⟩
      obtain ⟨c0, e1, e2⟩ := (a3 p' cv hcv)
      exact ⟨c0, e1, ext _ _ e2 codeO_ne⟩
/-- the context of a lambda's body: errors' context None -/
abbrev lamCxN (X : Cx) (A : Around) (outer : List Env) (s : Shared) (H : Hp) (E : XK) (scope : Scope) (f c' : Addr) : Cx :=
  { lamCx X A outer s H E scope f c' with xe := fun e s' => wpAny (model X.prog X.w) (A.deeper (lamEnv X scope s.heap.objs.size f c')) (leaving (lamEnv X scope s.heap.objs.size f c') e) (fun _ s'' => L2N.CX X.prog X.w outer H s E e s'') (fun e' s'' => L2N.CX X.prog X.w outer H s E e' s'') s' }
/-- g() with g one of several lambdas -/
theorem pe_lamGo {ι : Type} {e : Expr} {te : TE} {pos : Pos} {k : Nat} {E : XK} (ps : ι → Arguments) (bs : ι → Expr) (ss : ι → Scope) (tb : ι → TE) (he : PE X e te) (hr : Room (k + 1) X.A) (hL : ∀ i, LamS X.env.scope (ss i)) (hx : Passes (L2N.CX X.prog X.w) X E)
    (hbind : ∀ i (q : Str) (cl : List (Str × Addr)) (pm cv ctv : Value), bindArgs (PySem.W.kla_fn "<lambda>" q (ps i) (bs i) (ss i) cl pm cv ctv) ⟨[], []⟩ = pure [])
    (hbody : ∀ i (A : Around) (outer : List Env) (s : Shared) (H : Hp) (f c' : Addr), Room k (A.deeper (lamEnv X (ss i) s.heap.objs.size f c')) → PE (lamCxN X A outer s H E (ss i) f c') (bs i) (tb i))
    (hc : eval (.Call e [] [] pos) X.env = (do callWith pos (← eval e X.env) [] (backTo pos (starEach [] X.env)) (backToKw pos (keywordEach [] X.env))) := by rfl) :
    PE X (.Call e [] [] pos) (fun σ H Q => te σ H fun v H1 => ∃ (i : ι) (f c' : Addr) (pm ctv : Value), v = .ref f ∧ H1 f = some (LamO f (lamOb X (ps i) (bs i) (ss i) pm c' ctv)) ∧ H1 c' = some (CodeO c' (X.env.qual ++ "<lambda>")) ∧ tb i σ H1 Q) := by
  refine ⟨fun pins s σ H Q I asked => ?_⟩
  rw [hc]
  refine wpAny_bind (thn (he.run pins s σ H _ I asked) fun u s1 ⟨v, H1, J, rv, i, f, c', pm, ctv, ev, hf, hco, q⟩ => ?_)
  subst ev
  obtain rfl := (show u = Value.ref f from rv)
  have here : s1.heap.get? f = some (lamOb X (ps i) (bs i) (ss i) pm c' ctv) := (show ObjOk X.prog X.w H1 s1.heap f (LamO f _) from J.hok f _ hf).1
  refine PySem.W.callWith_F0 ⟨_, _, _, _, here⟩ ?_
  obtain ⟨⟨oc, vs, t, hoc, hdc, hvc⟩, -, -⟩ := (show ObjOk X.prog X.w H1 s1.heap c' (CodeO c' (X.env.qual ++ "<lambda>")) from J.hok c' _ hco)
  have L := hL i
  have rc : codeAny (model X.prog X.w) X.A (.call (.ref f) ⟨[], []⟩) (CR (L2N.CX X.prog X.w) X.stack X.prog X.w H1 s1 Q E) s1 := by
    refine PySem.W.kla_callFunE hr.depth here rfl L.co L.gen rfl ⟨c', oc, vs, t, rfl, hoc, hdc, hvc⟩ ?_
    rw [hbind]
    refine wpAny_pure (wpAny_newFunctionEnv (fun y hy => (L.own y hy).2) (fun y hy => absurd hy (by simp)) (fun h1 ns but => ⟨J.nolimit.fresh _ but, ?_⟩) L.kind)
    show codeAny _ _ (.expr (bs i) (lamEnv X (ss i) s1.heap.objs.size f c')) _ _
    have kp : ∀ b o, s1.heap.get? b = some o → h1.get? b = some o := fun b o z => but.extBut b o (Nat.ne_of_lt (Heap.lt_size z)) (Heap.get?_push_of_some _ z)
    have K0 : Inv (lamCx X X.A X.stack s1 H1 E (ss i) f c') [] σ H1 { s1 with heap := h1, toks := s1.toks + ([] : List (Str × Value)).length } := lam_start2 J L J.env0 hr.hd Un.refl ns kp
    have K1 : Inv (lamCxN X X.A X.stack s1 H1 E (ss i) f c') [] σ H1 { s1 with heap := h1, toks := s1.toks + ([] : List (Str × Value)).length } :=
      ⟨⟨K0.ok.mod, K0.ok.kind, K0.ok.glob, K0.ok.blt, K0.ok.above, K0.ok.inj, K0.ok.has, K0.ok.cab, K0.ok.hd, K0.ok.frames, K0.ok.stk, K0.ok.exf, K0.ok.bs, K0.ok.bsz, K0.ok.noex, K0.ok.exfs, K0.ok.funs, K0.ok.frf⟩, K0.os, K0.bare, K0.base, K0.loc, K0.cell, K0.free, K0.freeC, K0.pin, K0.hok, K0.len⟩
    refine PySem.W.kla_codeExpr (wpAny_mono ((hbody i _ _ s1 H1 f c' (hr.deeper _)).run [] _ _ H1 Q K1 q) (fun v s2 z => ?_) fun _ _ z => z)
    obtain ⟨y, H2, K2, ry, q2⟩ := z
    exact ⟨y, H2, K2.os, K2.bare, K2.base, K2.hok, ry, q2⟩
  refine wpAny_call (codeAny_mono rc fun r s2 z => ?_)
  match r, z with
  | .error _, z => exact hx pins σ H1 s1 _ s2 J z
  | .ok (.ret _), z => exact J.after z
  | .ok .next, z => exact z.elim
  | .ok .brk, z => exact z.elim
  | .ok .cont, z => exact z.elim
end
end Kx
/-! where an error is handled: lists walked, tuples unpacked, a def that gets the error. -/
namespace Kx.Hot
open PySem PySem.Spec PyProof.Rows HotX
section
variable {prog : Program} {w : World} {A : Around} {E : Value → Shared → Prop} {s : Shared} {z l : Addr} {i : Nat} {xs : Array Value}
theorem hot_ne {x : Addr} {oz : Obj} {a b : Value} (hot : HotAt A x s.heap) (h : s.heap.get? z = some oz) (d : oz.data = .fields #[a, b]) : x ≠ z := by
  obtain ⟨_, o, vs, h1, d1, c1⟩ := hot
  rintro rfl
  rw [h1] at h
  cases h
  rw [d1] at d
  cases d
  cases c1
/-- the end of a list's walk -/
theorem list_end {x : Addr} {Q : Option Value → Shared → Prop} (hot : HotAt A x s.heap) (st : s.heap.IsListIter z l i) (isL : s.heap.IsList l xs) (out : xs[i]? = none) (q : ∀ h', Heap.ExtBut z s.heap h' → Q none { s with heap := h' }) : wpAny (model prog w) A (pyNext (.ref z)) Q E s := by
  obtain ⟨oz, hz, cz, dz⟩ := id st
  obtain ⟨ol, hl, _, nl, dl⟩ := isL
  have ne := hot_ne hot hz dz
  obtain ⟨hh, o1, v1, e1, d1, c1⟩ := hot
  unfold pyNext; refine wpAny_bind (wpAny_attempt (wpAny_callSpecial?_slot (name := Str.ofString "__next__") st.typeIs slot_listiter_next (wpAny_call_entry slot_listiter_next st.typeIs entry_listiter_next ?_ (args_listiter_next _))))
  show wpAny _ _ (field (.ref z) 0 >>= _) _ _ s; refine wpAny_bind (wpAny_field hz dz (x := .ref l) rfl ?_)
  show wpAny _ _ (if (Value.ref l == Value.none) = true then _ else _) _ _ s; rw [if_neg (show ¬ ((Value.ref l == Value.none) = true) from Bool.false_ne_true)]
  show wpAny _ _ (field (.ref z) 1 >>= _) _ _ s; refine wpAny_bind (wpAny_field hz dz (x := .int i 0) rfl ?_)
  show wpAny _ _ (seqItems? (.ref l) >>= _) _ _ s; refine wpAny_bind (wpAny_seqItems hl dl ?_)
  simp only [Int.toNat_natCast, out]
  refine wpAny_bind (wpAny_rule (wpAny_bind (wpAny_setField hz dz (by simp) ?_)))
  show wpAny _ _ (newExc (.type "StopIteration") [] >>= _) _ _ _; refine wpAny_bind ?_
  simp only [newExc, newTuple]; refine wpAny_bind (wpAny_newObj_type ?_ (by size_fits))
  refine wpAny_bind (m := firstArgMember _ _) (wpAny_of_eq (a := Value.none) (by first | rfl | (simp only [firstArgMember]; rfl)) ?_); refine wpAny_newObj_type ?_ (by size_fits)
  have e2 : ∀ b o, b ≠ z → s.heap.get? b = some o → (s.heap.update z (Obj.mapFields (·.setIfInBounds 0 Value.none))).get? b = some o := fun b o nb h => by
    rw [Heap.get?_update_other _ _ (Ne.symm nb)]
    exact h
  refine raiseNew_hot ⟨hh, o1, v1, Heap.get?_push_of_some _ (Heap.get?_push_of_some _ (e2 _ _ ne e1)), d1, c1⟩ (Nat.ne_of_lt (Heap.lt_size (Heap.get?_push_of_some _ (e2 _ _ ne e1)))) (Heap.get?_push_size _ rfl) rfl (by first | (simp; done) | (simp; omega) | (simp only [Array.size_append]; simp; omega)) ?_
  refine wpAny_bind (wpAny_isInstance (b := true) (T := "StopIteration") ⟨_, Heap.get?_update_self _ (Heap.get?_push_size _ rfl) rfl, rfl⟩ isSubtype_stop ?_)
  refine wpAny_pure (q _ fun b o nb h => ?_)
  rw [Heap.get?_update_other _ _ (Nat.ne_of_gt (Heap.lt_size (Heap.get?_push_of_some _ (e2 _ _ nb h))))]
  exact Heap.get?_push_of_some _ (Heap.get?_push_of_some _ (e2 _ _ nb h))
/-- the end of a tuple's walk -/
theorem tup_end {x : Addr} {Q : Option Value → Shared → Prop} (hot : HotAt A x s.heap) (st : IsTupIter s.heap z l i) (isT : IsTup s.heap l xs) (out : xs[i]? = none) (q : ∀ h', Heap.ExtBut z s.heap h' → Q none { s with heap := h' }) : wpAny (model prog w) A (pyNext (.ref z)) Q E s := by
  obtain ⟨oz, hz, cz, dz⟩ := id st
  obtain ⟨ol, hl, _, nl, dl⟩ := isT
  have ne := hot_ne hot hz dz
  obtain ⟨hh, o1, v1, e1, d1, c1⟩ := hot
  unfold pyNext; refine wpAny_bind (wpAny_attempt (wpAny_callSpecial?_slot (name := Str.ofString "__next__") st.typeIs slot_tupleiter_next (wpAny_call_entry slot_tupleiter_next st.typeIs entry_tupleiter_next ?_ (args_tupleiter_next _))))
  show wpAny _ _ (field (.ref z) 0 >>= _) _ _ s; refine wpAny_bind (wpAny_field hz dz (x := .ref l) rfl ?_)
  show wpAny _ _ (if (Value.ref l == Value.none) = true then _ else _) _ _ s; rw [if_neg (show ¬ ((Value.ref l == Value.none) = true) from Bool.false_ne_true)]
  show wpAny _ _ (field (.ref z) 1 >>= _) _ _ s; refine wpAny_bind (wpAny_field hz dz (x := .int i 0) rfl ?_)
  show wpAny _ _ (seqItems? (.ref l) >>= _) _ _ s; refine wpAny_bind (wpAny_seqItems hl dl ?_)
  simp only [Int.toNat_natCast, out]
  refine wpAny_bind (wpAny_rule (wpAny_bind (wpAny_setField hz dz (by simp) ?_)))
  show wpAny _ _ (newExc (.type "StopIteration") [] >>= _) _ _ _; refine wpAny_bind ?_
  simp only [newExc, newTuple]; refine wpAny_bind (wpAny_newObj_type ?_ (by size_fits))
  refine wpAny_bind (m := firstArgMember _ _) (wpAny_of_eq (a := Value.none) (by first | rfl | (simp only [firstArgMember]; rfl)) ?_); refine wpAny_newObj_type ?_ (by size_fits)
  have e2 : ∀ b o, b ≠ z → s.heap.get? b = some o → (s.heap.update z (Obj.mapFields (·.setIfInBounds 0 Value.none))).get? b = some o := fun b o nb h => by
    rw [Heap.get?_update_other _ _ (Ne.symm nb)]
    exact h
  refine raiseNew_hot ⟨hh, o1, v1, Heap.get?_push_of_some _ (Heap.get?_push_of_some _ (e2 _ _ ne e1)), d1, c1⟩ (Nat.ne_of_lt (Heap.lt_size (Heap.get?_push_of_some _ (e2 _ _ ne e1)))) (Heap.get?_push_size _ rfl) rfl (by first | (simp; done) | (simp; omega) | (simp only [Array.size_append]; simp; omega)) ?_
  refine wpAny_bind (wpAny_isInstance (b := true) (T := "StopIteration") ⟨_, Heap.get?_update_self _ (Heap.get?_push_size _ rfl) rfl, rfl⟩ isSubtype_stop ?_)
  refine wpAny_pure (q _ fun b o nb h => ?_)
  rw [Heap.get?_update_other _ _ (Nat.ne_of_gt (Heap.lt_size (Heap.get?_push_of_some _ (e2 _ _ nb h))))]
  exact Heap.get?_push_of_some _ (Heap.get?_push_of_some _ (e2 _ _ nb h))
/-- (a, b, ..) = a tuple -/
theorem tup_stored {x : Addr} {env : Env} {es : List Expr} {k} {pos : Pos} {Q : Unit → Shared → Prop} (hot : HotAt A x s.heap) (isT : IsTup s.heap l xs) (n : (assignEach es env).length = xs.size) (star : (assignEach es env).findIdx? (·.1) = none)
    (go : ∀ h', Heap.ExtBut s.heap.objs.size s.heap h' → wpAny (model prog w) A (assignInOrder ((assignEach es env).map (·.2)) xs.toList) Q E { s with heap := h' }) : wpAny (model prog w) A (assign (.Tuple es k pos) env (.ref l)) Q E s := by
  rw [assign_Tuple]; refine wpAny_bind (wpAny_standAt ?_)
  unfold unpack
  rw [n, star]; refine wpAny_bind (wpAny_holding ?_)
  have apart : l ≠ s.heap.objs.size := by obtain ⟨o, h, _⟩ := isT; exact Nat.ne_of_lt (Heap.lt_size h)
  obtain ⟨hh, o1, v1, e1, d1, c1⟩ := hot
  have ax : x ≠ s.heap.objs.size := Nat.ne_of_lt (Heap.lt_size e1)
  unfold unpackItems; refine wpAny_bind ?_
  unfold notIterableAtAll; refine wpAny_bind (wpAny_specialOf isT.typeIs slot_tuple_iter.lookup ?_)
  refine wpAny_pure ?_; simp only [Bool.false_eq_true, if_false]
  refine wpAny_bind (wpAny_holding (iter_tuple isT ?_)); refine wpAny_bind (wpAny_holding (draw_tuple apart xs.size 0 _ _ ⟨_, Heap.get?_push_size _ rfl, rfl, rfl⟩ (isT.push _) (by omega) fun h1 st1 but1 => ?_))
  have whole : List.take xs.size (List.drop 0 xs.toList) = xs.toList := by rw [List.drop_zero]; exact List.take_of_length_le (by simp)
  rw [whole]; rw [if_neg (by simp)]
  have isT1 : IsTup h1 l xs := (isT.push _).extBut but1.extBut apart
  have hot1 : HotAt A x h1 := ⟨hh, o1, v1, (but1.2 x ax).trans (Heap.get?_push_of_some _ e1), d1, c1⟩
  refine wpAny_bind (wpAny_holding (tup_end hot1 st1 isT1 (by simp) fun h2 ext2 => ?_)); simp only [Option.isSome_none, Bool.false_eq_true, if_false]
  exact wpAny_pure (go h2 fun b o nb e => ext2 b o nb (but1.extBut b o nb (Heap.get?_push_of_some _ e)))
end
end Kx.Hot
/-! A try with several clauses, of one class or of five; the context of what is caught is None. -/
namespace Kx.N
open PySem PyProof.Rows L2 PySem.Spec

section
variable {M : Model} {K : PySem.W.Frag}
open PySem.W PySem.Calls
/-- a tuple of five classes is asked -/
theorem exm5 {a1 a2 a3 a4 a5 cls : Value} {tp x : Addr} {y : Bool} {h : Heap} (inK : K.In h) (ty : Looks M h (typeOf (.ref x)) cls) (here : h.get? tp = some { cls := .type "tuple", data := .seq [a1, a2, a3, a4, a5].toArray }) (hx : exmAny K cls [a1, a2, a3, a4, a5] = some y) :
    Looks M h (excMatches (.ref x) (.ref tp)) y := by
  intro A Q E s k0 q
  obtain ⟨hh, gz, d, tk, os⟩ := s
  have k : ∀ b o, h.get? b = some o → hh.get? b = some o := k0
  have isT : Looks M h (isInstance (.ref tp) (.type "tuple")) true := ((Looks.ld here).andThen .now).andThen (Looks.of_pure isSubtype_tuple_tuple)
  obtain ⟨b1, r1, o1, hx, z1⟩ := exmAny_cons hx
  obtain ⟨b2, r2, o2, hx, z2⟩ := exmAny_cons hx
  obtain ⟨b3, r3, o3, hx, z3⟩ := exmAny_cons hx
  obtain ⟨b4, r4, o4, hx, z4⟩ := exmAny_cons hx
  obtain ⟨b5, r5, o5, hx, z5⟩ := exmAny_cons hx
  obtain rfl : false = r5 := Option.some.inj hx
  have both : ∀ {c : Value} {v : Bool}, exmOne K cls c = some v → Looks M hh (isExcClass c) true ∧ Looks M hh (isSubtype cls c) v := fun o => ⟨(exm_cls (M := M) inK o).1.keeps k, (exm_cls (M := M) inK o).2.keeps k⟩
  obtain ⟨u1, w1⟩ := both o1
  obtain ⟨u2, w2⟩ := both o2
  obtain ⟨u3, w3⟩ := both o3
  obtain ⟨u4, w4⟩ := both o4
  obtain ⟨u5, w5⟩ := both o5
  have ty := ty.keeps k
  have isT := isT.keeps k
  have at_ := k _ _ here
  subst z1 z2 z3 z4 z5
  unfold excMatches; refine wpAny_bind (isT.at ?_)
  dsimp only; rw [if_pos rfl]
  first
    | exact wpAny_bind (wpAny_seqItems at_ rfl (by dsimp only [Option.getD_some, Option.getD]; cases b1 <;> cases b2 <;> cases b3 <;> cases b4 <;> cases b5 <;> ((repeat (first | simp only [List.forIn_cons, List.forIn_nil, Bool.not_true, Bool.false_eq_true, if_false, if_true] | lk)); exact q)))
    | exact wpAny_bind (wpAny_bind (wpAny_seqItems at_ rfl (wpAny_pure (by dsimp only [Option.getD_some, Option.getD]; cases b1 <;> cases b2 <;> cases b3 <;> cases b4 <;> cases b5 <;> ((repeat (first | simp only [List.forIn_cons, List.forIn_nil, Bool.not_true, Bool.false_eq_true, if_false, if_true] | lk)); exact q)))))
theorem exm_single {cls c : Value} {y : Bool} (h : exmAny K cls [c] = some y) : exmOne K cls c = some y := by
  obtain ⟨b, r, o, hx, z⟩ := exmAny_cons h
  obtain rfl : false = r := Option.some.inj hx
  rw [z, Bool.or_false]
  exact o
end
theorem fly_keeps {G : Heap} {l : List Env} {x : Addr} {Z : Obj → Prop} {h h' : Heap} (f : HandSPX.FlyingZ G l x Z h) (k : ∀ b o, h.get? b = some o → h'.get? b = some o) : HandSPX.FlyingZ G l x Z h' := by
  obtain ⟨f1, f2, f3, ob, ws, T, ot, ts, e1, e2, e3, e4, e5, e6, e7, e8, e9⟩ := f
  exact ⟨fun b o q => k b o (f1 b o q), f2, f3.of_keeps fun b o q _ => ⟨o, k b o q, rfl⟩, ob, ws, T, ot, ts, k _ _ e1, e2, e3, e4, e5, e6, k _ _ e7, e8, e9⟩
/-- an error that came down to this frame and whose flight is over; `old` is the state without it -/
structure Down (X : Cx) (pins : List (Addr × Obj)) (σ : L2.St) (H : Hp) (x : Addr) (cls : Value) (d : Option Addr) (G : Heap) (old now : Shared) : Prop where
  was : Inv X pins σ H old
  low : ∀ b o, old.heap.get? b = some o → b ∉ frs X.stack → G.get? b = some o
  up : old.heap.UpToSlots now.heap
  fly : HandSPX.FlyingZ G (X.env :: X.outer) x (L2N.Zn cls d) now.heap
  fresh : H x = none
  sys : now.os = old.os
  bare : AllBare now.gens
section
variable {X : Cx} {pins : List (Addr × Obj)} {σ : L2.St} {H : Hp} {x : Addr} {cls : Value} {d : Option Addr} {G : Heap} {old now : Shared}
theorem Down.inv (D : Down X pins σ H x cls d G old now) : Inv X pins σ H now := D.was.landed D.low D.fly.1 D.up D.sys D.bare
/-- the record, and that it is no frame -/
theorem Down.rec_ (D : Down X pins σ H x cls d G old now) (hf : X.env.frame = some X.env.locals) :
    ∃ (ob : Obj) (vs : Array Value), now.heap.get? x = some ob ∧ L2N.Zn cls d ob ∧ ob.data = .fields vs ∧ x ≠ X.env.locals ∧ x ∉ X.fs := by
  obtain ⟨ob, vs, h1, h2, h3⟩ := D.fly.there
  have out : x ∉ frs (X.env :: X.outer) := by
    intro hm
    obtain ⟨_, ob2, h4, h5⟩ := D.fly.2.2.1.mem hm
    rw [h1] at h4
    cases h4
    exact h5 _ h3
  refine ⟨ob, vs, h1, h2, h3, fun z => out ?_, fun hm => out ?_⟩
  · exact List.mem_filterMap.mpr ⟨_, List.mem_cons_self, by rw [hf, z]⟩
  · obtain ⟨e1, h6, h7⟩ := List.mem_filterMap.mp hm
    exact List.mem_filterMap.mpr ⟨e1, List.mem_cons_of_mem _ h6, h7⟩
/-- within a suite -/
theorem Down.held (D : Down X pins σ H x cls d G old now) (hf : X.env.frame = some X.env.locals) :
    ∃ ob : Obj, now.heap.get? x = some ob ∧ L2N.Zn cls d ob ∧ (∃ vs, ob.data = .fields vs) ∧ Inv (X.suite x ((x, ob) :: (X.pn ++ pins))) [] σ H now := by
  obtain ⟨ob, vs, h1, h2, h3, h4, h5⟩ := D.rec_ hf
  exact ⟨ob, h1, h2, ⟨vs, h3⟩, D.inv.suite h1 h3 D.fresh h4 h5⟩
/-- no clause takes it: it goes on -/
theorem Down.goes {pos : Pos} {E : Ends} {W : WX} (D : Down X pins σ H x cls d G old now) (hs : X.stack = X.env :: X.outer) (hf : X.env.frame = some X.env.locals) (tk : L2N.Takes X W) (hw : W cls d σ H) :
    wpAny (model X.prog X.w) X.A (handleBy (.ref x) X.env []) (SP X pins E) X.xe now := by
  obtain ⟨_, _, _, ob, vs, T, _, _, h1, _, h3, h4, _⟩ := D.fly
  have away : wpAny (model X.prog X.w) X.A (setFlight (.ref x) X.env.frame) (fun _ s => wpAny (model X.prog X.w) X.A (throw (.ref x) : Sem Flow) (SP X pins E) X.xe s) X.xe now := by
    rw [hf]
    refine HandSPX.setFlight_upZ D.fly fun h' held up' => wpAny_throw (tk _ _ ⟨x, G, old, pins, σ, H, cls, d, rfl, D.was, D.low, D.up.trans up', ?_, D.fresh, D.sys, D.bare, hw⟩)
    rw [hs]
    exact .inr (.inr held)
  refine wpAny_handleBy_nil (wpAny_bind (wpAny_field h1 h3 h4 ?_))
  have some_ : ¬ ((Value.ref T == Value.none) = true) := by simp
  rw [if_neg some_]
  first
    | exact wpAny_bind away
    | exact wpAny_bind (wpAny_pure (wpAny_bind away))
end
/-- one clause: the class it names, the place of its name, its suite's reading -/
abbrev Clause : Type := List Value × Nat × (Addr → Value → Option Addr → TS)
/-- behind a suite the name at i is gone -/
def bare (E : Ends) (i : Nat) : Ends where
  nx := fun σ H => E.nx (σ.set i none) H
  rt := E.rt
  bk := fun σ H => E.bk (σ.set i none) H
  ct := fun σ H => E.ct (σ.set i none) H
/-- what is asked of an error that the body lets out -/
def asks (K : PySem.W.Frag) (W : WX) (E : Ends) : List Clause → WX
  | [] => W
  | k :: r => fun cls d σ H => ∃ y, PySem.W.exmAny K cls k.1 = some y ∧ (y = true → ∀ x, H x = none → k.2.2 x cls d (bare E k.2.1) (σ.set k.2.1 (some (.ref x))) H) ∧ (y = false → asks K W E r cls d σ H)
inductive Clauses (X : Cx) : List ExceptHandler → List Clause → Prop
  | nil : Clauses X [] []
  | cons {nm n : Str} {i : Nat} {c : Value} {t : Addr → Value → Option Addr → TS} {st : Stmt} {more : List Stmt} {p1 p2 : Pos} {hs : List ExceptHandler} {ks : List Clause} (nd : X.N.Nodup) (at_ : X.N[i]? = some n) (loc : X.env.kindOf n = some .local) (cl : Names X nm c)
      (su : ∀ (x : Addr) (ob : Obj) (cls : Value) (d : Option Addr) (pn : List (Addr × Obj)), L2N.Zn cls d ob → (∃ vs, ob.data = .fields vs) → PSs (X.suite x ((x, ob) :: pn)) (st :: more) (t x cls d)) (rest : Clauses X hs ks) :
      Clauses X (.ExceptHandler (some (.Name nm p1)) (some n) (st :: more) p2 :: hs) (([c], i, t) :: ks)
  | five {m1 m2 m3 m4 m5 n : Str} {i kk : Nat} {c1 c2 c3 c4 c5 : Value} {t : Addr → Value → Option Addr → TS} {st : Stmt} {more : List Stmt} {p1 p2 p3 p4 p5 p6 p7 : Pos} {hs : List ExceptHandler} {ks : List Clause} (nd : X.N.Nodup) (at_ : X.N[i]? = some n) (loc : X.env.kindOf n = some .local)
      (l1 : Names X m1 c1) (l2 : Names X m2 c2) (l3 : Names X m3 c3) (l4 : Names X m4 c4) (l5 : Names X m5 c5)
      (su : ∀ (x : Addr) (ob : Obj) (cls : Value) (d : Option Addr) (pn : List (Addr × Obj)), L2N.Zn cls d ob → (∃ vs, ob.data = .fields vs) → PSs (X.suite x ((x, ob) :: pn)) (st :: more) (t x cls d)) (rest : Clauses X hs ks) :
      Clauses X (.ExceptHandler (some (.Tuple [.Name m1 p1, .Name m2 p2, .Name m3 p3, .Name m4 p4, .Name m5 p5] kk p6)) (some n) (st :: more) p7 :: hs) (([c1, c2, c3, c4, c5], i, t) :: ks)
section
variable {X : Cx} {pins : List (Addr × Obj)} {σ : L2.St} {H : Hp} {x : Addr} {cls : Value} {d : Option Addr} {G : Heap} {old now : Shared} {E : Ends} {W : WX}
theorem name_there {nm : Str} {c : Value} {p1 : Pos} {ob : Obj} {Q E' : Value → Shared → Prop} (cl : Names X nm c) (J : Inv (X.suite x ((x, ob) :: (X.pn ++ pins))) [] σ H now) (q : Q c now) :
    wpAny (model X.prog X.w) (X.A.mark (some (.ref x))) (eval (.Name nm p1) X.env) Q E' now := by
  obtain ⟨g, db, m | ⟨m, b, nn⟩⟩ := cl
  · exact ld_glob J g m q db
  · exact ld_blt J g m b q nn db
theorem Down.clauses (D : Down X pins σ H x cls d G old now) (hs : X.stack = X.env :: X.outer) (hf : X.env.frame = some X.env.locals) (tk : L2N.Takes X W) {hds : List ExceptHandler} {ks : List Clause} (C : Clauses X hds ks) (w : asks X.K W E ks cls d σ H) :
    wpAny (model X.prog X.w) X.A (handleBy (.ref x) X.env hds) (SP X pins E) X.xe now := by
  induction C generalizing now with
  | nil => exact D.goes (pos := ⟨0, 0, 0, 0⟩) hs hf tk w
  | @cons nm n i c t st more p1 p2 hs' ks' nd at_ loc cl su rest ih =>
    obtain ⟨y, hy, yes, no⟩ := w
    obtain ⟨ob, h1, h2, h3, J⟩ := D.held hf
    refine wpAny_handleBy_cons (codeAny_handlers_test (name_there cl J ?_)) (fun z => nomatch z)
    have ty : PySem.W.Looks (model X.prog X.w) now.heap (typeOf (.ref x)) cls := fun _ _ _ _ k q => wpAny_typeOf_ref (k _ _ h1) (by rw [h2.1]; exact q)
    refine (PySem.W.exm_one D.inv.kIn ty (exm_single hy)).here ?_
    cases y with
    | false => exact ih D (no rfl)
    | true =>
      refine codeAny_handlers_suite_as (HandSPX.lands_againZ D.fly fun h' fl up' => ?_)
      have D' : Down X pins σ H x cls d G old { now with heap := h' } := ⟨D.was, D.low, D.up.trans up', fl, D.fresh, D.sys, D.bare⟩
      obtain ⟨ob', _, g2, g3, J'⟩ := D'.held hf
      refine store_ok (X := X.suite x ((x, ob') :: (X.pn ++ pins))) (v := .ref x) J' nd at_ (.inl loc) rfl (fun s2 J2 => ?_) (.inr loc)
      refine wpAny_mono ((su x ob' cls d (X.pn ++ pins) g2 g3).run [] s2 _ H _ J2 (yes rfl x D.fresh)) (fun f s3 hf3 => ?_) (fun _ _ z => z.elim)
      have gone : ∀ {σ3 : L2.St} {H3 : Hp} {R : Shared → Prop}, Inv (X.suite x ((x, ob') :: (X.pn ++ pins))) [] σ3 H3 s3 → (∀ s4, Inv X pins (σ3.set i none) H3 s4 → R s4) →
          wpAny (model X.prog X.w) X.A (do bindName X.env n .none; unbindBehindTheSuite X.env n p2) (fun _ s4 => R s4) X.xe s3 := fun J3 q => gone_ok (J3.unsuite D.was.ok) nd at_ loc q
      match f, hf3 with
      | .next, ⟨_, _, J3, q⟩ => exact gone J3 fun _ J4 => ⟨_, _, J4, q⟩
      | .brk, ⟨_, _, J3, q⟩ => exact gone J3 fun _ J4 => ⟨_, _, J4, q⟩
      | .cont, ⟨_, _, J3, q⟩ => exact gone J3 fun _ J4 => ⟨_, _, J4, q⟩
      | .ret _, ⟨_, _, _, J3, r, q⟩ => exact gone J3 fun _ J4 => ⟨_, _, _, J4, r, q⟩
  | @five m1 m2 m3 m4 m5 n i kk c1 c2 c3 c4 c5 t st more p1 p2 p3 p4 p5 p6 p7 hs' ks' nd at_ loc l1 l2 l3 l4 l5 su rest ih =>
    obtain ⟨y, hy, yes, no⟩ := w
    obtain ⟨ob, h1, h2, h3, J⟩ := D.held hf
    refine wpAny_handleBy_cons (codeAny_handlers_test ?_) (fun z => nomatch z)
    refine wpAny_Tuple (wpAny_items_cons (name_there l1 J (wpAny_items_cons (name_there l2 J (wpAny_items_cons (name_there l3 J (wpAny_items_cons (name_there l4 J (wpAny_items_cons (name_there l5 J (wpAny_items_nil ⟨by size_fits, ?_⟩)))))))))))
    have kp : ∀ b o, now.heap.get? b = some o → (now.heap.push { cls := .type "tuple", data := .seq [c1, c2, c3, c4, c5].toArray }).get? b = some o := fun _ _ z => Heap.get?_push_of_some _ z
    have ty : PySem.W.Looks (model X.prog X.w) (now.heap.push { cls := .type "tuple", data := .seq [c1, c2, c3, c4, c5].toArray }) (typeOf (.ref x)) cls := fun _ _ _ _ k q => wpAny_typeOf_ref (k _ _ (kp _ _ h1)) (by rw [h2.1]; exact q)
    refine (exm5 (D.inv.kIn.keeps kp) ty (Heap.get?_push_size now.heap rfl) hy).here ?_
    have D5 : Down X pins σ H x cls d G old { now with heap := now.heap.push { cls := .type "tuple", data := .seq [c1, c2, c3, c4, c5].toArray } } := ⟨D.was, D.low, D.up.trans (Heap.UpToSlots.of_keeps kp), fly_keeps D.fly kp, D.fresh, D.sys, D.bare⟩
    cases y with
    | false => exact ih D5 (no rfl)
    | true =>
      refine codeAny_handlers_suite_as (HandSPX.lands_againZ D5.fly fun h' fl up' => ?_)
      have D' : Down X pins σ H x cls d G old { now with heap := h' } := ⟨D.was, D.low, D5.up.trans up', fl, D.fresh, D.sys, D.bare⟩
      obtain ⟨ob', _, g2, g3, J'⟩ := D'.held hf
      refine store_ok (X := X.suite x ((x, ob') :: (X.pn ++ pins))) (v := .ref x) J' nd at_ (.inl loc) rfl (fun s2 J2 => ?_) (.inr loc)
      refine wpAny_mono ((su x ob' cls d (X.pn ++ pins) g2 g3).run [] s2 _ H _ J2 (yes rfl x D.fresh)) (fun f s3 hf3 => ?_) (fun _ _ z => z.elim)
      have gone : ∀ {σ3 : L2.St} {H3 : Hp} {R : Shared → Prop}, Inv (X.suite x ((x, ob') :: (X.pn ++ pins))) [] σ3 H3 s3 → (∀ s4, Inv X pins (σ3.set i none) H3 s4 → R s4) →
          wpAny (model X.prog X.w) X.A (do bindName X.env n .none; unbindBehindTheSuite X.env n p7) (fun _ s4 => R s4) X.xe s3 := fun J3 q => gone_ok (J3.unsuite D.was.ok) nd at_ loc q
      match f, hf3 with
      | .next, ⟨_, _, J3, q⟩ => exact gone J3 fun _ J4 => ⟨_, _, J4, q⟩
      | .brk, ⟨_, _, J3, q⟩ => exact gone J3 fun _ J4 => ⟨_, _, J4, q⟩
      | .cont, ⟨_, _, J3, q⟩ => exact gone J3 fun _ J4 => ⟨_, _, J4, q⟩
      | .ret _, ⟨_, _, _, J3, r, q⟩ => exact gone J3 fun _ J4 => ⟨_, _, _, J4, r, q⟩
end
/-- try: body / except C as n: .. / except D as m: .. -/
theorem ps_tries {X : Cx} {body : List Stmt} {hd : ExceptHandler} {hds : List ExceptHandler} {ks : List Clause} {pos : Pos} {tb : WX → TS} {W : WX} (hs : X.stack = X.env :: X.outer) (hf : X.env.frame = some X.env.locals) (tk : L2N.Takes X W)
    (hb : ∀ (U : WX) (pn : List (Addr × Obj)) (xe : Value → Shared → Prop), L2N.Takes (X.tr pn xe) U → PassesOwn (model X.prog X.w) X.A X.env xe → PSs (X.tr pn xe) body (tb U)) (C : Clauses X (hd :: hds) ks) :
    PS X (.Try body (hd :: hds) [] [] pos) (fun E σ H => tb (asks X.K W E ks) E σ H) := by
  refine ⟨fun pins s σ H E I h => wpAny_Try_except ?_⟩
  have top : X.A.frames = some (X.env :: X.outer) := by rw [I.ok.frames, hs]
  have inner := hb (asks X.K W E ks) (X.pn ++ pins) (fun e s1 => wpAny (model X.prog X.w) X.A (noteFrame e X.env) (fun _ s2 => wpAny (model X.prog X.w) X.A (setFlight e none)
    (fun _ s3 => wpAny (model X.prog X.w) X.A (handleBy e X.env (hd :: hds)) (SP X pins E) X.xe s3) X.xe s2) X.xe s1) ?_ PassesOwn.looking
  · refine wpAny_mono (inner.run [] s σ H E (I.toTry _) h) (fun f s1 q => ?_) (fun _ _ z => z)
    match f, q with
    | .next, ⟨_, _, J, q⟩ => exact wpAny_execs_nil ⟨_, _, J.ofTry I.ok, q⟩
    | .brk, ⟨_, _, J, q⟩ => exact ⟨_, _, J.ofTry I.ok, q⟩
    | .cont, ⟨_, _, J, q⟩ => exact ⟨_, _, J.ofTry I.ok, q⟩
    | .ret _, ⟨_, _, _, J, r, q⟩ => exact ⟨_, _, _, J.ofTry I.ok, r, q⟩
  · rintro u s1 ⟨x, G, old, _, σ1, H1, cls, d, rfl, J, low, up, sky, fr, sys, bare, w⟩
    rw [show (X.tr (X.pn ++ pins) _).stack = X.env :: X.outer from hs] at sky
    refine L2N.Sky.land L2N.Zn.steady top hf sky fun h' fl up' => ?_
    exact Down.clauses (now := { s1 with heap := h' }) ⟨J.ofTry I.ok, low, up.trans up', fl, fr, sys, bare⟩ hs hf tk C w
end Kx.N
namespace Kx.Hot
open L2 L2H PySem PySem.Spec PyProof.Rows HotX
/-- a list walked where an error is handled -/
theorem turnL {P : Program} {w : World} {K : PySem.W.Frag} {tg : Expr} (a z : Addr) : TurnH P w K tg (Itl K a) [z] z (fun i h => h.IsListIter z a i) where
  mem := List.mem_singleton.mpr rfl
  obj := fun i h st b hb => by
    obtain rfl := List.mem_singleton.mp hb
    obtain ⟨o, e, c, d⟩ := st
    exact ⟨o, e, fun v q => by rw [d] at q; cases q⟩
  keep := fun i h h' st k => st.at fun o e => k z (List.mem_singleton.mpr rfl) o e
  item := fun X hP hw hK hc i pins s σ H E I hf st hg => by
    subst hP hw hK
    obtain ⟨xs, x, hq, hx⟩ := hg
    obtain ⟨us, rv, isL, _⟩ := I.list hq
    obtain ⟨u, hu, rz⟩ := rv.get hx
    obtain ⟨f0, f1, f2, f3, f4, f5⟩ := hf z (List.mem_singleton.mpr rfl)
    refine wpAny_pyNext_list_item st isL.isList (x := u) (by simpa using hu) fun h' st' but => ?_
    have J : Inv X pins σ H { s with heap := h' } := I.turned (t' := s.toks) (fun b o hb e => (but.2 b hb).trans e) f0 f1 f3 f4 f5
    obtain ⟨o, e, c, d⟩ := id st'
    exact ⟨u, rfl, go_of (s := { s with heap := h' }) e c d (by decide) ⟨x, H, J, rz, ⟨rfl, fun ys hy => (I.list_inj hy hq) ▸ hx⟩, st', fun b hb => (hf b hb).1⟩⟩
  done := fun X hP hw hK hc i pins s σ H E I hf st hg => by
    subst hP hw hK
    obtain ⟨xs, hq, hx⟩ := hg
    obtain ⟨us, rv, isL, _⟩ := I.list hq
    obtain ⟨f0, f1, f2, f3, f4, f5⟩ := hf z (List.mem_singleton.mpr rfl)
    have n := rv.length
    obtain ⟨x1, hot⟩ := hc.at I
    exact list_end hot st isL.isList (by simp; omega) fun h' eb => ⟨rfl, I.turned (t' := s.toks) (fun b o hb e => eb b o hb e) f0 f1 f3 f4 f5⟩
  self := fun _ _ _ _ _ st q => wpAny_pyIter_listiter st q
section
variable {X : Cx} {tg e : Expr} {te : TE}
theorem pi_listH (he : PE X e te) : PIH X tg e (iList X.K te) := by
  refine ⟨fun pins s σ H R I h => thn (he.run pins s σ H _ I h) fun u t ⟨x, H1, J, rx, a, ex, ⟨xs, hx⟩, q⟩ => ?_⟩
  subst ex
  obtain rfl := (show u = Value.ref a from rx)
  obtain ⟨_, _, isL, _⟩ := J.list hx
  refine wpAny_pyIter_list isL.isList ⟨_, [t.heap.objs.size], _, _, H1, rfl, J.kept (t' := t.toks) fun b v z => Heap.get?_push_of_some _ z, turnL a _, ⟨_, Heap.get?_push_size _ rfl, rfl, rfl⟩, fun b hb => ?_, q⟩
  obtain rfl := List.mem_singleton.mp hb
  exact J.fpOk (Nat.le_refl _) (J.hok.fresh (Nat.le_refl _))
theorem pg_tupH {es : List Expr} {k : Nat} {t : TGs} {n : Nat} {pos : Pos} (hc : HotC X) (h : PGs X es t) (hn : (assignEach es X.env).length = n := by rfl) (hst : (assignEach es X.env).findIdx? (·.1) = none := by rfl) : PG X (.Tuple es k pos) (gTup X.K n t) := by
  refine ⟨fun pins s σ H v u Q I r asked => ?_⟩
  obtain ⟨a, xs, rfl, hq, hl, hw⟩ := asked
  cases r
  obtain ⟨us, rv, isT, _⟩ := I.tuple hq
  obtain ⟨x1, hot⟩ := hc.at I
  refine tup_stored hot isT (by simp [hn, ← hl, rv.length]) hst fun h' but => ?_
  exact h.run pins _ σ H xs _ Q (I.kept (t' := s.toks) fun b o e => but b o (Nat.ne_of_lt (Heap.lt_size e)) e) (by simpa using rv) hw
end
/-! ### a def that gets the error that is handled -/
/-- what such a def promises of the error p -/
structure FnE (P : Program) (w : World) (K : PySem.W.Frag) (mg : Str → Option Value) (base : Heap) (k : Nat) (f : Addr) (fd : FuncData) (ps : List Str) (sp : Addr × Obj → Sp) : Prop where
  len : ∀ p vs H Q E, sp p vs H Q E → vs.length = ps.length
  run : ∀ (A : Around) (outer : List Env) (s : Shared) (H : Hp) (args : Args) (us : List Value) (vs : List V) (Q : VK) (p : Addr × Obj), RoomH k A → Hot1 A p → PinOk outer H s p → Env0 P w K mg base A outer s H → BindsTo s fd args (ps.zip us) → Vals vs us → sp p vs H Q (fun _ _ _ => False) →
    codeAny (model P w) A (.call (.ref f) args) (CR CX0 outer P w H s Q (fun _ _ _ => False)) s
theorem FnE.of {P : Program} {w : World} {K : PySem.W.Frag} {mg : Str → Option Value} {base : Heap} {k : Nat} {f : Addr} {fd : FuncData} {x qual : Str} {params : Arguments} {body : List Stmt} {scope : Scope} {N ps : List Str} {sp : Addr × Obj → Sp} (F : FunD K x qual params body scope [] [] f fd) (S : FnScope N ps scope)
    (len : ∀ p vs H Q E, sp p vs H Q E → vs.length = ps.length)
    (hbody : ∀ (cdv : Value) (A : Around) (outer : List Env) (s : Shared) (H : Hp) (vs : List V) (Q : VK) (p : Addr × Obj), Hot1 A p → RoomH k (A.deeper (envOfC qual scope s.heap.objs.size f cdv)) → sp p vs H Q (fun _ _ _ => False) →
      ∃ t, PSs (cxH CX0 P w K mg base N qual scope f cdv A outer s H (fun _ _ _ => False) p) body t ∧ t { nx := fun _ H' => Q .non H', rt := Q } (L2.start N vs) H) : FnE P w K mg base (k + 1) f fd ps sp := by
  obtain ⟨oc, od, dV, kV, doc, pm, an, cdv, ct, osl, rfl, lk, hcd, -, -⟩ := F.ex
  refine ⟨len, fun A outer s H args us vs Q p hr hot pin e0 hb rel asked => ?_⟩
  have n := len _ _ _ _ _ asked
  have inK : K.In s.heap := e0.mod.kin.keeps fun b o e => (e0.bs b o e).1
  have wide : s.heap.NoLimit := e0.mod.nolimit.keeps fun b o e => (e0.bs b o e).1
  have kinds : ∀ y ∈ ps.zip us, scope.names.lookup y.1 = some .local ∨ (scope.names.lookup y.1 = some .cell ∧ ((cellsFrom (s.heap.objs.size + 1) scope.names []).lookup y.1).isSome = true) := by
    rintro ⟨m, v⟩ hy
    exact (S.par m (List.of_mem_zip hy).1).imp id fun q => ⟨q, PySem.W.cellsFrom_some _ _ _ (.inl q)⟩
  refine codeAny_call_function hr.depth (inK _ _ lk) rfl S.co S.gen rfl (PySem.W.codeRec_of inK hcd) (hb _ _ _ _ ?_)
  refine wpAny_newFunctionEnv_cells S.kind kinds fun env here s1 x => ?_
  subst here
  refine ⟨wide.keeps x.toInCall.keep, codeAny_func ?_⟩
  obtain ⟨t, ht, go⟩ := hbody cdv A outer s H vs Q p hot (hr.deeper _) asked
  have I : Inv (cxH CX0 P w K mg base N qual scope f cdv A outer s H (fun _ _ _ => False) p) [] (L2.start N vs) H s1 := inv_startH S pin e0 n rel x
  refine wpAny_mono (ht.run [] s1 (L2.start N vs) H _ I go) (fun fl s' z => ?_) fun _ _ z => z
  match fl, z with
  | .ret u, ⟨v, σ', H', J, rv, q⟩ => exact ⟨v, H', J.os, J.bare, J.base, J.hok, rv, q⟩
  | .next, ⟨σ', H', J, q⟩ => exact ⟨.non, H', J.os, J.bare, J.base, J.hok, rfl, q⟩
  | .brk, ⟨_, _, _, q⟩ => exact q.elim
  | .cont, ⟨_, _, _, q⟩ => exact q.elim
structure CalE (P : Program) (w : World) (K : PySem.W.Frag) (mg : Str → Option Value) (base : Heap) (k : Nat) (x : Str) (ps : List Str) (sp : Addr × Obj → Sp) : Prop where
  ex : ∃ (f : Addr) (fd : FuncData), mg x = some (.ref f) ∧ PySem.W.keepIn K (.ref f) = true ∧ Binds K fd ps [] ∧ FnE P w K mg base k f fd ps sp
/-- f(e) in the suite that holds the error -/
theorem pe_callE {X : Cx} {k j : Nat} {x : Str} {ps : List Str} {sp : Addr × Obj → Sp} {e : Expr} {es : List Expr} {t : TA} {p pos : Pos} {a : Addr} {ob : Obj} {cls : Value} {d : Option Addr} {pn : List (Addr × Obj)} (c : CalE X.prog X.w X.K X.mg X.base k x ps sp) (hr : Room j X.A) (hz : L2N.Zn cls d ob) (hf : ∃ vs, ob.data = .fields vs)
    (ha : PA (X.suite a ((a, ob) :: pn)) (e :: es) t) (hk : k ≤ j := by decide) (hg : Gl X x := by rfl) (hdb : (x == ("__debug__" : Str)) = false := by decide)
    (hz2 : starEach (e :: es) X.env = (false, eval e X.env) :: starEach es X.env := by rfl) (hpl : (backTo pos (starEach es X.env)).any (·.1) = false := by rfl) :
    PE (X.suite a ((a, ob) :: pn)) (.Call (.Name x p) (e :: es) [] pos) (fun σ H Q => t σ H fun vs H1 => sp (a, ob) vs H1 Q (fun _ _ _ => False)) := by
  obtain ⟨f, fd, c1, c2, c3, F⟩ := c.ex
  refine ⟨fun pins s σ H Q I h => wpAny_Call_Name_kw (ld_glob (X := X.suite a ((a, ob) :: pn)) I hg c1 ?_ hdb)⟩
  refine PySem.W.callWith_K (h₀ := X.base) I.ok.mod.kin c2 (thn (ha.run pos pins s σ H _ I h) fun us s1 ⟨vs, H1, J, rel, q⟩ => ⟨J.kIn, ?_⟩) hz2 hpl
  obtain ⟨g0, n0, nL, nF, nc⟩ := J.pin (a, ob) (List.mem_append_left _ List.mem_cons_self)
  have pin : PinOk X.stack H1 s1 (a, ob) := ⟨g0, n0, fun m => (List.mem_cons.mp (J.stkSub a m)).elim nL nF, nc⟩
  have hot : Hot1 (X.suite a ((a, ob) :: pn)).A (a, ob) := ⟨rfl, hf.elim fun vs z => ⟨vs, z, hz.2.2 vs z⟩⟩
  have n : (us ++ []).length = ps.length := by rw [List.append_nil, ← rel.length]; exact F.len _ _ _ _ _ q
  have b := c3 s1 us J.kIn n
  rw [List.append_nil] at b
  have room : RoomH k (X.suite a ((a, ob) :: pn)).A := ⟨(hr.mono hk).dp, (hr.mono hk).un⟩
  refine wpAny_call (codeAny_mono (F.run _ X.stack s1 H1 ⟨us, []⟩ us vs Q (a, ob) room hot pin J.env0 b rel q) fun r s2 z => ?_)
  match r, z with
  | .error _, z => exact z.elim
  | .ok (.ret _), z => exact J.after z
  | .ok .next, z => exact z.elim
  | .ok .brk, z => exact z.elim
  | .ok .cont, z => exact z.elim
/-- isinstance(e, c), e the error that a def got -/
theorem call_isH {X : Cx} {a D d : Addr} {ob : Obj} (C : ExcC X.K D) (hp : (a, ob) ∈ X.pn) (hz : Zc (.ref D) (some d) ob) (hf : ∃ vs, ob.data = .fields vs) :
    CallR X (.builtin "isinstance") (fun xs H Q => (∃ fs, H d = some (.xd fs)) ∧ rIsE X.K D a xs H Q) := by
  rintro pins s σ H xs us Q I r ⟨⟨fs, hd⟩, c, cv, b, rfl, hcv, e, q⟩
  cases r with
  | cons rx rr =>
    cases rr with
    | cons rt rr =>
      cases rr
      cases rx
      obtain rfl := hcv _ rt
      obtain ⟨g0, -⟩ := I.pin (a, ob) (List.mem_append_left _ hp)
      obtain ⟨vs, hv⟩ := hf
      obtain ⟨mA, hns, _⟩ := (show ObjOk X.prog X.w H s.heap d (.xd fs) from I.hok d _ hd)
      obtain ⟨od, hod, _⟩ := lookIn_ns hns
      have J : PySem.W.InstAt s.heap a ob D (some od) := by
        obtain ⟨c1, c2, c3, c4⟩ := ob
        obtain ⟨z1, z2⟩ := hz
        dsimp only at z1 z2 hv
        subst z1 z2 hv
        exact ⟨g0, rfl, rfl, hod⟩
      have cl : (PySem.W.clsIn X.K D).isSome = true := by
        obtain ⟨cd, hc, _⟩ := PySem.W.any_some C.hd
        rw [hc]
        rfl
      exact PySem.W.kia_one (PySem.W.kitx_exc cl C.hg C.hk C.hs C.ha C.hn C.ht C.hm) I.kIn J e (fun z => nomatch z) fun tk => ⟨.bl b, H, I.kept (t' := tk) fun _ _ z => z, rfl, q⟩
end Kx.Hot
/-! the text by places -/
namespace KJ
open L2 PySem PySem.Spec PyProof.Rows Kx
def top (i : Nat) : Stmt := PySem.Challenge.pw_onewitness_k36_whole_least_counters_that.main.body.getD i (.Pass ⟨0, 0, 0, 0⟩)
abbrev s_BadMachine_init : Stmt := inClass (top 3) 0
abbrev s_Refused_init : Stmt := inClass (top 4) 0
abbrev s_TooGreat_init : Stmt := inClass (top 5) 0
abbrev s_NoState_init : Stmt := inClass (top 6) 0
abbrev s_is_number : Stmt := top 10
abbrev s_is_below : Stmt := top 11
abbrev s_is_sequence : Stmt := top 12
abbrev s_first_not_below : Stmt := top 13
abbrev s_Machine_init : Stmt := inClass (top 15) 0
abbrev s_Machine_eq : Stmt := inClass (top 15) 1
abbrev s_is_table : Stmt := top 16
abbrev s_need_state : Stmt := top 17
abbrev s_in_coming_order : Stmt := top 18
abbrev s_reached : Stmt := top 19
abbrev s_deed_pairs : Stmt := top 21
abbrev s_apart_pairs : Stmt := top 23
abbrev s_least_alone : Stmt := top 25
abbrev s_round_and_rest : Stmt := top 26
abbrev s_law_box : Stmt := top 28
abbrev s_law_take : Stmt := top 29
abbrev s_law_pick : Stmt := top 30
abbrev s_law_tables : Stmt := top 31
abbrev s_law_next : Stmt := top 32
abbrev s_law_lots : Stmt := top 33
abbrev s_law_reached : Stmt := top 34
abbrev s_law_commute : Stmt := top 35
abbrev s_law_fault : Stmt := top 36
abbrev s_law_tell : Stmt := top 37
abbrev s_law_least_right : Stmt := top 38
abbrev s_law_apart_right : Stmt := top 39
abbrev s_law : Stmt := top 40
abbrev FnP (K : PySem.W.Frag) (x : Str) (st : Stmt) (f : Addr) (fd : FuncData) : Prop := FunD K x x (defArgs st) (defBody st) (defScope st) [] [] f fd
/-- the built-in names that the module leaves alone, its numbers -/
structure Mg (mg : Str → Option Value) : Prop where
  z_KeyError : mg "KeyError" = none
  z_ValueError : mg "ValueError" = none
  z_abs : mg "abs" = none
  z_all : mg "all" = none
  z_bool : mg "bool" = none
  z_enumerate : mg "enumerate" = none
  z_int : mg "int" = none
  z_isinstance : mg "isinstance" = none
  z_len : mg "len" = none
  z_list : mg "list" = none
  z_max : mg "max" = none
  z_min : mg "min" = none
  z_range : mg "range" = none
  z_repr : mg "repr" = none
  z_set : mg "set" = none
  z_sorted : mg "sorted" = none
  z_tuple : mg "tuple" = none
  g_DEEDS_MOST : ∃ t, mg "DEEDS_MOST" = some (.int 4 t)
  g_STATES_MOST : ∃ t, mg "STATES_MOST" = some (.int 8 t)
theorem pe_constI {X : Cx} {x : Str} {i : Int} {pos : Pos} (h : ∃ t, X.mg x = some (.int i t)) (hg : Gl X x := by rfl) (hd : (x == ("__debug__" : Str)) = false := by decide) : PE X (.Name x pos) (tC (.int i)) := by
  obtain ⟨t, ht⟩ := h
  exact pe_glob hg ht ⟨t, rfl⟩ hd
theorem pe_ty {X : Cx} {x : Str} {n : String} {pos : Pos} (hm : X.mg x = none) (hv : bootBuiltins x = some (.type n)) (hg : Gl X x := by rfl) (hn : x ≠ "__name__" := by decide) (hd : (x == ("__debug__" : Str)) = false := by decide) : PE X (.Name x pos) (tC (.ty n)) :=
  pe_bltn hg hm hv rfl hn hd
theorem bt_int : bootBuiltins "int" = some (.type "int") := by decide +kernel
theorem bt_bool : bootBuiltins "bool" = some (.type "bool") := by decide +kernel
theorem bt_list : bootBuiltins "list" = some (.type "list") := by decide +kernel
theorem bt_tuple : bootBuiltins "tuple" = some (.type "tuple") := by decide +kernel
end KJ
/-! t.count(k): a tuple known to have no attributes of its own; tuple(xs) makes such a one. -/
namespace Kx
open L2 PySem PySem.Spec PyProof.Rows
/-- a tuple without attributes -/
def TupD (H : Hp) (a : Addr) (xs : List V) : Prop := ∃ o : Obj, H a = some (.frz o (.tup xs)) ∧ o.dict = none
def SqD (K : PySem.W.Frag) (H : Hp) (a : Addr) (xs : List V) : Prop := SqL K H a xs ∨ TupD H a xs
section
variable {K : PySem.W.Frag} {H H' : Hp} {a : Addr} {xs : List V}
theorem TupD.sqT (h : TupD H a xs) : SqT K H a xs := h.elim fun o h => .inl (.inr ⟨o, h.1⟩)
theorem TupD.same (e : Same H H') (h : TupD H a xs) : TupD H' a xs := h.elim fun o h => ⟨o, e _ _ h.1, h.2⟩
theorem SqD.sq (h : SqD K H a xs) : Sq K H a xs := h.imp id TupD.sqT
theorem SqD.same (e : Same H H') (h : SqD K H a xs) : SqD K H' a xs := h.imp (sqL_same e) (TupD.same e)
end
section
variable {X : Cx}
/-- tuple(xs) -/
theorem call_tupD : CallR X (.type "tuple") (fun xs H Q => ∃ p ys, xs = [.ref p] ∧ SqD X.K H p ys ∧ ∀ q H', Same H H' → TupD H' q ys → Q (.ref q) H') := by
  intro pins st σ H xs us Q I r h
  obtain ⟨p, ys, rfl, h, q⟩ := h
  rcases h with hq | hq
  · obtain ⟨u, rfl, rx⟩ := vals1 r
    obtain rfl : u = .ref p := rx
    obtain ⟨its, rv, pl, fits⟩ := I.list hq
    have len := rv.length
    refine call_tuple_list pl.isList (fun mem kp => ?_) (by simp only [List.size_toArray]; omega)
    have J : Inv X pins σ H { st with heap := mem } := I.kept (t' := st.toks) kp
    have here := Heap.get?_push_size (h := mem) (o := { cls := .type "tuple", data := .seq its.toArray }) rfl
    have J2 : Inv X pins σ (upd H mem.objs.size (.frz { cls := .type "tuple", data := .seq its.toArray } (.tup ys))) { st with heap := mem.push { cls := .type "tuple", data := .seq its.toArray } } :=
      J.laid (t' := st.toks) (fun b o e => Heap.get?_push_of_some _ e) (Nat.le_refl _) ⟨here, fits, its, rv, IsTup.new _ _⟩
    exact ⟨.ref mem.objs.size, _, J2, rfl, q _ _ (same_new (J.hok.fresh (Nat.le_refl _))) ⟨_, upd_same, rfl⟩⟩
  · exact call_tuple_of pins st σ H _ us Q I r ⟨p, ys, rfl, .inr ⟨hq.sqT, q p H (Same.refl H) hq⟩⟩
/-- t.count(k) -/
def tCount (to : TE) (t : TA) : TE := fun σ H Q => to σ H fun x H1 => ∃ (p : Addr) (ns : List Int), x = .ref p ∧ TupD H1 p (ns.map V.int) ∧ t σ H1 fun ks H2 => ∃ k : Int, ks = [.int k] ∧ Same H1 H2 ∧ Q (.int (ns.count k : Nat)) H2
theorem pe_count {o e : Expr} {to : TE} {t : TA} {apos cpos : Pos} (ho : PE X o to) (ha : PA X [e] t)
    (hbase : attributeBase o "count" X.env (eval o X.env) = eval o X.env := by rfl)
    (hfew : ((backTo cpos (starEach [e] X.env)).all (fun x => !x.1) && (backToKw cpos (keywordEach [] X.env)).all (fun x => x.1.isSome) && decide ([e].length + ([] : List Keyword).length + (if ([] : List Keyword).isEmpty then 0 else 1) < 30)) = true := by rfl)
    (hline : (apos.endLine == cpos.line) = true := by exact rfl)
    (hs : starEach [e] X.env = (false, eval e X.env) :: starEach [] X.env := by rfl) (hplain : (backTo cpos (starEach [] X.env)).any (·.1) = false := by rfl) :
    PE X (.Call (.Attribute o "count" apos) [e] [] cpos) (tCount to t) := by
  refine ⟨fun pins st σ H Q I h => ?_⟩
  refine wpAny_Call_method_late hbase hfew hline rfl (thn (ho.run pins st σ H _ I h) fun v s1 ⟨x, H1, I1, r1, p, ns, ex, ⟨o, hp, od⟩, q1⟩ => ?_)
  subst ex
  obtain rfl : v = .ref p := r1
  obtain ⟨at_, _, its, rv, ⟨ot, ot1, ot2, _⟩⟩ := (show ObjOk X.prog X.w H1 s1.heap p (.frz o (.tup (ns.map V.int))) from I1.hok p _ hp)
  rw [at_] at ot1
  cases ot1
  refine ⟨"tuple", "tuple.count", PySem.F.plainAttrs_tuple, PySem.F.slot_tuple_count, PySem.F.type_tuple_count, ⟨o, at_, ot2⟩, fun a ea => ?_, ?_⟩
  · cases ea
    exact ⟨o, at_, od⟩
  have arg := ha.run cpos pins s1 σ H1 _ I1 q1
  rw [hs] at arg ⊢
  have plain : (false || (backTo cpos (starEach [] X.env)).any (·.1)) = false := by rw [hplain] <;> rfl
  refine Calls.callWith_builtin plain (Calls.evalArgs_plain ?_)
  refine thn arg fun us s2 ⟨ks, H2, I2, r2, k, ek, sm, q2⟩ => ?_
  subst ek
  obtain ⟨u, rfl, ru⟩ := r2.one
  obtain ⟨tk, rfl⟩ := ru
  obtain ⟨o2, hp2, od2⟩ := TupD.same sm (show TupD H1 p (ns.map V.int) from ⟨o, hp, od⟩)
  obtain ⟨at2, _, its2, rv2, ⟨ot2', ot3, ot4, n2, ot5⟩⟩ := (show ObjOk X.prog X.w H2 s2.heap p (.frz o2 (.tup (ns.map V.int))) from I2.hok p _ hp2)
  rw [at2] at ot3
  cases ot3
  obtain ⟨cls, dct, data, slo⟩ := o2
  simp only at ot4 ot5
  subst ot4 ot5
  have hi := ints_of_vals rv2
  refine call_meets PySem.F.slot_tuple_count ⟨_, at2, rfl⟩ PySem.F.entry_tuple_count (PySem.F.args_tuple_count_2 _ _)
    (SeqAt.tuple_countAt p its2.toArray n2 dct slo (.int k tk) (eqk k)) ⟨at2, fun y hy => (eqk_gives hi y (by simpa using hy)).at _ _, ?_⟩
  have ec : its2.toArray.toList.countP (eqk k) = ns.count k := eqk_count hi
  refine ⟨.int (ns.count k : Nat), H2, I2.tok _, ⟨s2.toks, ?_⟩, q2⟩
  rw [ec]
end
end Kx
/-! a tuple, that is not empty, times 0, 1, more -/
namespace Kx
open L2 PySem PySem.Spec PyProof.Rows
theorem times_one (t : Addr) (its : Array Value) (n : Nat) (dct : Option Addr) (slo : Array (Option Value)) (tk : Tok) :
    Meets (Builtin.«tuple.__mul__» ⟨[.ref t, .int 1 tk], []⟩) (fun _ R s => s.heap.get? t = some { cls := .type "tuple", dict := dct, data := .seq its n, slots := slo } ∧ R (.ok (.ret (.ref t))) s) :=
  .of_wp fun prog wo A R s h => by
    obtain ⟨mem, g, d, k, os⟩ := s
    obtain ⟨here, h⟩ := h
    have idx := AutoSeq1.idx_int
    have yes : (its.isEmpty || (1 : Int) == 1) = true := by rw [Bool.or_eq_true]; exact .inr rfl
    wp_walk using wpAny_loadPart' here
    repeat (first
      | (refine wpAny_ite_false (by decide) ?_; wp_walk using wpAny_loadPart' here)
      | (refine wpAny_ite_true (decide_eq_true yes) ?_; wp_walk using wpAny_loadPart' here))
    exact ⟨_, rfl, h⟩
theorem times_nought (t : Addr) (its : Array Value) (n : Nat) (dct : Option Addr) (slo : Array (Option Value)) (tk : Tok) (some_ : its.isEmpty = false) :
    Meets (Builtin.«tuple.__mul__» ⟨[.ref t, .int 0 tk], []⟩) (fun _ R s => s.heap.get? t = some { cls := .type "tuple", dict := dct, data := .seq its n, slots := slo } ∧ R (.ok (.ret (.ref s.heap.objs.size))) { s with heap := s.heap.push { cls := .type "tuple", data := .seq #[] } }) :=
  .of_wp fun prog wo A R s h => by
    obtain ⟨mem, g, d, k, os⟩ := s
    obtain ⟨here, h⟩ := h
    have idx := AutoSeq1.idx_int
    have no : (its.isEmpty || (0 : Int) == 1) = false := by rw [some_]; rfl
    have yes : (decide ((0 : Int) ≤ 0) || its.isEmpty) = true := rfl
    wp_walk using wpAny_loadPart' here
    repeat (first
      | (refine wpAny_ite_false (by decide) ?_; wp_walk using wpAny_loadPart' here)
      | (refine wpAny_ite_false (decide_eq_false (by rw [no]; exact Bool.false_ne_true)) ?_; wp_walk using wpAny_loadPart' here)
      | (refine wpAny_ite_true (decide_eq_true yes) ?_; wp_walk using wpAny_loadPart' here))
    exact ⟨_, rfl, h⟩
/-- t * k, t not empty -/
def rTimes (K : PySem.W.Frag) : R2 := fun x y H Q => ∃ (t : Addr) (k : Nat) (xs : List V), x = .ref t ∧ y = .int (k : Int) ∧ SqT K H t xs ∧ xs ≠ [] ∧ k ≤ 1000 ∧ xs.length ≤ 1000 ∧
  ∀ p H', Same H H' → SqT K H' p (List.replicate k xs).flatten → Q (.ref p) H'
theorem op_times {X : Cx} : OpR X (binaryOp .Mult) (rTimes X.K) := by
  intro pins st σ H x y v u Q I rx ry h
  obtain ⟨t, k, xs, rfl, rfl, hT, ne, hk, hz, q⟩ := h
  match k with
  | k + 2 =>
    refine op_repT pins st σ H _ _ v u Q I rx ry ⟨t, _, xs, rfl, rfl, hT, ne, by omega, by omega, hz, fun p hp => ?_⟩
    exact q p _ (same_new hp) (SqT.of upd_same)
  | 1 =>
    cases rx
    obtain ⟨tk, rfl⟩ := ry
    obtain ⟨its, r, ⟨⟨cls, dct, data, slo⟩, ho, hc, n, hd⟩, hs⟩ := I.tuple hT
    simp only at hc hd
    subst hc hd
    refine wpAny_binaryOp_repeat_ref (T := "tuple") (U := "int") (by decide) ⟨_, ho, rfl⟩ (fun s' => typeIs_int s' 1 tk) noFill_tuple_mul F.fills_int_mul F.slot_int_rmul repeat_tuple F.slot_int_index.lookup
      (call_meets F.slot_int_rmul (typeIs_int st 1 tk) F.entry_int_rmul (F.args_int_rmul_2 _ _) (int_rmul_tuple 1 tk t its.toArray n dct slo)
        ⟨ho, rfl, ⟨_, ho, rfl⟩, call_meets F.slot_tuple_mul ⟨_, ho, rfl⟩ F.entry_tuple_mul (F.args_tuple_mul_2 _ _) (times_one t its.toArray n dct slo tk) ⟨ho, ?_⟩⟩)
    have e : (List.replicate 1 xs).flatten = xs := by simp
    rw [e] at q
    exact ⟨.ref t, H, I, rfl, q t H (Same.refl H) hT⟩
  | 0 =>
    cases rx
    obtain ⟨tk, rfl⟩ := ry
    obtain ⟨its, r, ⟨⟨cls, dct, data, slo⟩, ho, hc, n, hd⟩, hs⟩ := I.tuple hT
    simp only at hc hd
    subst hc hd
    have full : its.toArray.isEmpty = false := by
      cases its with
      | nil =>
        cases r
        exact absurd rfl ne
      | cons a b => rfl
    refine wpAny_binaryOp_repeat_ref (T := "tuple") (U := "int") (by decide) ⟨_, ho, rfl⟩ (fun s' => typeIs_int s' 0 tk) noFill_tuple_mul F.fills_int_mul F.slot_int_rmul repeat_tuple F.slot_int_index.lookup
      (call_meets F.slot_int_rmul (typeIs_int st 0 tk) F.entry_int_rmul (F.args_int_rmul_2 _ _) (int_rmul_tuple 0 tk t its.toArray n dct slo)
        ⟨ho, rfl, ⟨_, ho, rfl⟩, call_meets F.slot_tuple_mul ⟨_, ho, rfl⟩ F.entry_tuple_mul (F.args_tuple_mul_2 _ _) (times_nought t its.toArray n dct slo tk full) ⟨ho, ?_⟩⟩)
    refine ⟨.ref st.heap.objs.size, _, I.laid (t' := st.toks) (o := .tup []) (fun b ob q => Heap.get?_push_of_some _ q) (Nat.le_refl _) ?_, rfl, q _ _ (same_new (I.hok.fresh (Nat.le_refl _))) (SqT.of upd_same)⟩
    exact ⟨Nat.zero_le _, _, .nil, IsTup.new _ _⟩
end Kx
/-! an own ==, and the != that comes of it: both answers. -/
namespace Kx
open L2 PySem PySem.Spec PyProof.Rows
/-- x == y (x != y), x an instance of the class at C, y another one or a tuple: what its own == promises, by k the answer -/
def rOwnAsk (K : PySem.W.Frag) (C : Addr) (sp : Sp) (E : XK) (neg : Bool) : R2 := fun x y H Q => ∃ (a b dx : Addr) (fs : List (Str × V)), x = .ref a ∧ y = .ref b ∧ H a = some (.ins C dx fs) ∧
  ((∃ (dy : Addr) (gs : List (Str × V)), H b = some (.ins C dy gs)) ∨ (neg = false ∧ (∃ ys, SqT K H b ys) ∧ PySem.W.notFirst K C (.type "tuple") = true)) ∧
  sp [x, y] H (fun v H' => ∃ k, v = .bl k ∧ Q (.bl (neg != k)) H') E
/-- what ==, != ask of the class at C, whose own == is at f -/
structure EqC (K : PySem.W.Frag) (C f : Addr) : Prop where
  eq : PySem.W.findIn K (.ref C) "__eq__" = some (some (.ref f))
  isFn : PySem.W.isFn K (.ref f) = true
  ne : ∃ (nm q : Str) (N : Addr) (bs : List Value) (hdct : Bool) (sn : List Str) (sub : List Value) (ab : Bool) (col : Option Bool) (dd : Option Addr) (k0 k1 k2 k3 k5 : Option Value) (newId : String) (oN oF : Obj) (es : Array DictEntry) (ep : Nat),
    K.lookup C = some (excClassObj nm q C N bs [.type "object"] hdct sn sub ab col dd k0 k1 k2 k3 k5 newId) ∧ K.lookup N = some oN ∧ oN.data = .dict es ep ∧ StrKeys es ∧ nsFind es "__eq__" = some (.ref f) ∧ nsFind es "__ne__" = none ∧ K.lookup f = some oF ∧ oF.cls = .type "function"
section
variable {X : Cx} {CX : CXT} {C f : Addr} {fd : FuncData} {ps : List Str} {n : Nat} {sp : Sp} {E : XK}
theorem own_eq (F : FnOk X.prog X.w X.K X.mg X.base CX n f fd ps sp) (T : EqC X.K C f) (hb : Binds X.K fd ps []) (hr : Room n X.A) (hx : Passes CX X E) : OpR X (compareOp .Eq) (rOwnAsk X.K C sp E false) := by
  intro pins st σ H x y v u Q I rx ry h
  obtain ⟨a, b, dx, fs, rfl, rfl, ha, hy, q⟩ := h
  obtain rfl : v = .ref a := rx
  obtain rfl : u = .ref b := ry
  obtain ⟨m1, J, _⟩ := ins_get I.hok ha
  obtain ⟨od, J, _⟩ := J.look
  obtain ⟨m, hF⟩ := I.fr
  have go : wpAny (model X.prog X.w) X.A (call (.ref f) [.ref a, .ref b]) (PySem.W.CmpBack (EP X pins σ Q)) X.xe st := by
    have hl := F.len _ _ _ _ q
    have both : Vals [V.ref a, V.ref b] [.ref a, .ref b] := .cons rfl (.cons rfl .nil)
    refine wpAny_call (codeAny_mono (F.run X.A X.stack st H ⟨[.ref a, .ref b], []⟩ [.ref a, .ref b] [.ref a, .ref b] _ E hr I.env0 (by
      have := hb st [.ref a, .ref b] I.kIn (by simpa using hl)
      simpa using this) both q) fun r s' z => ?_)
    match r, z with
    | .error e, z => exact hx pins σ H st e s' I z
    | .ok (.ret w), z =>
      obtain ⟨z', H', I', rz, k, ez, qz⟩ := I.after z
      subst ez
      cases rz
      refine (show EP X pins σ Q (.bool k) s' from ⟨.bl k, H', I', rfl, ?_⟩)
      have e : (false != k) = k := by cases k <;> rfl
      rw [e] at qz
      exact qz
    | .ok .next, z => exact z.elim
    | .ok .brk, z => exact z.elim
    | .ok .cont, z => exact z.elim
  show wpAny (model X.prog X.w) X.A (richCompare .Eq (.ref a) (.ref b)) (EP X pins σ Q) X.xe st
  rcases hy with ⟨dy, gs, hb'⟩ | ⟨_, ⟨ys, hT⟩, nf⟩
  · obtain ⟨m2, J2, _⟩ := ins_get I.hok hb'
    obtain ⟨od2, J2, _⟩ := J2.look
    exact PySem.W.cmp_K (op := .Eq) (tb := .ref C) hr.units0 hF I.ok.mod.kin J J2.type (by simp [PySem.W.notFirst]) T.eq T.isFn go
  · obtain ⟨its, _, ⟨o, ho, hc, _⟩, _⟩ := I.tuple hT
    exact PySem.W.cmp_K (op := .Eq) (tb := .type "tuple") hr.units0 hF I.ok.mod.kin J (fun A' Q' E' s' kp q' => wpAny_typeOf_ref (kp _ _ ho) (by rw [hc]; exact q')) nf T.eq T.isFn go
theorem own_ne (F : FnOk X.prog X.w X.K X.mg X.base CX n f fd ps sp) (T : EqC X.K C f) (hb : Binds X.K fd ps []) (hr : Room (n + 1) X.A) (hx : Passes CX X E) : OpR X (compareOp .NotEq) (rOwnAsk X.K C sp E true) := by
  intro pins st σ H x y v u Q I rx ry h
  obtain ⟨a, b, dx, fs, rfl, rfl, ha, hy, q⟩ := h
  obtain rfl : v = .ref a := rx
  obtain rfl : u = .ref b := ry
  obtain ⟨dy, gs, hb'⟩ : ∃ (dy : Addr) (gs : List (Str × V)), H b = some (.ins C dy gs) := hy.elim id fun z => nomatch z.1
  obtain ⟨m1, J, _⟩ := ins_get I.hok ha
  obtain ⟨m2, J2, _⟩ := ins_get I.hok hb'
  obtain ⟨od, J, _⟩ := J.look
  obtain ⟨od2, J2, _⟩ := J2.look
  obtain ⟨nm, qn, N, bs, hdct, sn, sub, ab, col, dd, k0, k1, k2, k3, k5, newId, oN, oF, es, ep, hC, hN, dN, sk, e1, e2, hF, cF⟩ := T.ne
  have O : st.heap.OwnEqNoNe a C f "object" [.type "object"] := ⟨_, oF, nm, qn, N, bs, hdct, sn, sub, ab, col, dd, k0, k1, k2, k3, k5, newId, fun y => nsFind es y, _, J.at_, J.cls, I.kIn _ _ hC, ⟨oN, es, ep, I.kIn _ _ hN, dN, sk, fun _ => rfl⟩, e1, I.kIn _ _ hF, cF, PySem.F.cmp_object.mro, PySem.F.cmp_object.eq.lookup, e2⟩
  obtain ⟨hp, g, d, t, os⟩ := st
  refine compareOp_ne_ownEq PySem.F.cmp_object O J2.at_ J2.cls (by have := hr.un; omega) ?_
  have hl := F.len _ _ _ _ q
  have both : Vals [V.ref a, V.ref b] [.ref a, .ref b] := .cons rfl (.cons rfl .nil)
  refine wpAny_call (codeAny_mono (F.run X.A.in1 X.stack _ H ⟨[.ref a, .ref b], []⟩ [.ref a, .ref b] [.ref a, .ref b] _ E hr.in1 I.env0.in1 (by
    have := hb ⟨hp, g, d, t, os⟩ [.ref a, .ref b] I.kIn (by simpa using hl)
    simpa using this) both q) fun r s' z => ?_)
  match r, z with
  | .error e, z => exact hx pins σ H _ e s' I z
  | .ok (.ret w), z =>
    obtain ⟨z', H', I', rz, k, ez, qz⟩ := I.after z
    subst ez
    cases rz
    refine ⟨k, rfl, .bl (!k), H', I', rfl, ?_⟩
    have e : (true != k) = !k := by cases k <;> rfl
    rw [e] at qz
    exact qz
  | .ok .next, z => exact z.elim
  | .ok .brk, z => exact z.elim
  | .ok .cont, z => exact z.elim
end
end Kx
/-! tuples of whole numbers, and tuples of such: as data, ==, != -/
namespace Kx
open L2 PySem PySem.Spec PyProof.Rows
abbrev dNums (ns : List Int) : PyData := .tuple (ns.map PyData.int)
abbrev dRows (rs : List (List Int)) : PyData := .tuple (rs.map dNums)
theorem dpAll_nums {K : PySem.W.Frag} {H : Hp} : ∀ (ns : List Int), DpAll K H (ns.map V.int) (ns.map PyData.int)
  | [] => .nil
  | n :: ns => .cons (.int n) (dpAll_nums ns)
theorem dp_nums {K : PySem.W.Frag} {H : Hp} {a : Addr} {ns : List Int} (h : SqT K H a (ns.map V.int)) : Dp K H (.ref a) (dNums ns) := .tup h (dpAll_nums ns)
theorem lay_nums : ∀ (ns : List Int), PyData.canLayAll0 (ns.map PyData.int) = true
  | [] => by simp only [List.map_nil, PyData.canLayAll0]
  | n :: ns => by simp only [List.map_cons, PyData.canLayAll0, PyData.canLay0, lay_nums ns, Bool.and_self]
theorem deep_nums : ∀ (ns : List Int), PyData.depthAll (ns.map PyData.int) = 0
  | [] => by simp only [List.map_nil, PyData.depthAll]
  | n :: ns => by simp only [List.map_cons, PyData.depthAll, PyData.depth, deep_nums ns, Nat.max_self]
theorem shaped_nums (ns : List Int) : SeqAt.shaped (dNums ns) = true := by
  unfold SeqAt.shaped
  simp only [PyData.canLay0, PyData.depth, lay_nums, deep_nums]
  decide
theorem eqv_nums : ∀ (xs ys : List Int), PyData.eqvAll (xs.map PyData.int) (ys.map PyData.int) = decide (xs = ys)
  | [], ys => by cases ys <;> simp [PyData.eqvAll]
  | n :: ns, [] => by simp [PyData.eqvAll]
  | x :: xs, y :: ys => by
    simp only [List.map_cons, PyData.eqvAll, PyData.eqv, eqv_nums xs ys]
    rw [Bool.eq_iff_iff]
    simp
theorem lay_rows : ∀ (rs : List (List Int)), PyData.canLayAll0 (rs.map dNums) = true
  | [] => by simp only [List.map_nil, PyData.canLayAll0]
  | n :: ns => by simp only [List.map_cons, PyData.canLayAll0, PyData.canLay0, lay_nums, lay_rows ns, Bool.and_self]
theorem deep_rows : ∀ (rs : List (List Int)), PyData.depthAll (rs.map dNums) ≤ 1
  | [] => by simp only [List.map_nil, PyData.depthAll]; decide
  | n :: ns => by
    have := deep_rows ns
    simp only [List.map_cons, PyData.depthAll, PyData.depth, deep_nums]
    omega
theorem shaped_rows (rs : List (List Int)) : SeqAt.shaped (dRows rs) = true := by
  unfold SeqAt.shaped
  have := deep_rows rs
  simp only [PyData.canLay0, PyData.depth, lay_rows, Bool.true_and]
  exact decide_eq_true (show _ ≤ 64 by omega)
theorem eqv_rows : ∀ (xs ys : List (List Int)), PyData.eqvAll (xs.map dNums) (ys.map dNums) = decide (xs = ys)
  | [], ys => by cases ys <;> simp [PyData.eqvAll]
  | n :: ns, [] => by simp [PyData.eqvAll]
  | x :: xs, y :: ys => by
    simp only [List.map_cons, PyData.eqvAll, PyData.eqv, eqv_nums x y, eqv_rows xs ys]
    rw [Bool.eq_iff_iff]
    simp
/-- t == u, t != u: tuples of whole numbers -/
def rNumsEq (K : PySem.W.Frag) (neg : Bool) : R2 := fun x y H Q => ∃ (a b : Addr) (xs ys : List Int), x = .ref a ∧ y = .ref b ∧ SqT K H a (xs.map V.int) ∧ SqT K H b (ys.map V.int) ∧ Q (.bl (neg != decide (xs = ys))) H
theorem op_eqNums {X : Cx} (hu : X.A.units + 64 < cLine) : OpR X (compareOp .Eq) (rNumsEq X.K false) := by
  intro pins st σ H x y v u Q I rx ry h
  obtain ⟨a, b, xs, ys, rfl, rfl, h1, h2, q⟩ := h
  refine op_eqD hu pins st σ H _ _ v u Q I rx ry ⟨_, _, dp_nums h1, dp_nums h2, shaped_nums xs, shaped_nums ys, ?_⟩
  simp only [PyData.eqv, eqv_nums]
  rwa [Bool.false_bne] at q
theorem op_neNums {X : Cx} (hu : X.A.units + 64 < cLine) : OpR X (compareOp .NotEq) (rNumsEq X.K true) := by
  intro pins st σ H x y v u Q I rx ry h
  obtain ⟨a, b, xs, ys, rfl, rfl, h1, h2, q⟩ := h
  refine op_neD hu pins st σ H _ _ v u Q I rx ry ⟨_, _, dp_nums h1, dp_nums h2, shaped_nums xs, shaped_nums ys, ?_⟩
  simp only [PyData.eqv, eqv_nums]
  rwa [Bool.true_bne] at q
end Kx
/-! numbers, sequences, rows -/
namespace KJ
open PySem PySem.Spec PyProof.Rows L2 Kx
def isNum : V → Bool
  | .int i => decide (0 ≤ i)
  | _ => false
def isBel (l : Int) : V → Bool
  | .int i => decide (0 ≤ i) && decide (i < l)
  | _ => false
/-- what a value of known kind is as a sequence: its items, none where it is none -/
inductive Long (K : PySem.W.Frag) (H : Hp) : V → Option (List V) → Prop
  | seq {a : Addr} {xs : List V} (h : Sq K H a xs) : Long K H (.ref a) (some xs)
  | non : Long K H .non none
  | bl (b : Bool) : Long K H (.bl b) none
  | int (i : Int) : Long K H (.int i) none
  | str (x : Str) : Long K H (.str x) none
def inLen (l m : Int) : Option (List V) → Bool
  | some xs => decide (l ≤ (xs.length : Int)) && decide ((xs.length : Int) ≤ m)
  | none => false
theorem Long.same {K : PySem.W.Frag} {H H' : Hp} {v : V} {o : Option (List V)} (e : Same H H') (h : Long K H v o) : Long K H' v o := by
  cases h with
  | seq q => exact .seq (q.same e)
  | non => exact .non
  | bl b => exact .bl b
  | int i => exact .int i
  | str x => exact .str x
theorem Kn.long {K : PySem.W.Frag} {H : Hp} {v : V} (h : Kn K H v) : ∃ o, Long K H v o := by
  cases h with
  | seq q => exact ⟨_, .seq q⟩
  | non => exact ⟨_, .non⟩
  | bl b => exact ⟨_, .bl b⟩
  | int i => exact ⟨_, .int i⟩
  | str x => exact ⟨_, .str x⟩
theorem Long.kn {K : PySem.W.Frag} {H : Hp} {v : V} {o : Option (List V)} (h : Long K H v o) : Kn K H v := by
  cases h with
  | seq q => exact .seq q
  | non => exact .non
  | bl b => exact .bl b
  | int i => exact .int i
  | str x => exact .str x
/-- the first item that is not below l -/
def fnb (l : Int) : List V → Option Nat
  | [] => none
  | x :: xs => if isBel l x = true then (fnb l xs).map (· + 1) else some 0
def optV : Option Nat → V
  | some n => .int n
  | none => .non
/-- none: a row of deeds below n; else where it is wrong -/
def rowAt (n : Int) : Option (List V) → Option Int
  | some xs => if xs.length ≤ 400 then (fnb n xs).map (fun (i : Nat) => (i : Int)) else some (-1)
  | none => some (-1)
/-- every item is of a known kind, where the sequence is no longer than m -/
def Kns (K : PySem.W.Frag) (H : Hp) (o : Option (List V)) (m : Nat) : Prop := ∀ xs, o = some xs → xs.length ≤ m → ∀ x ∈ xs, Kn K H x
theorem Kns.same {K : PySem.W.Frag} {H H' : Hp} {o : Option (List V)} {m : Nat} (e : Same H H') (h : Kns K H o m) : Kns K H' o m := fun xs q l x hx => (h xs q l x hx).same e
/-- an error C of the one field f is raised -/
def Thrown (E : XK) (H : Hp) (C : Addr) (f : Str) (v : V) : Prop := ∀ d H', Same H H' → H' d = some (.xd [(f, v)]) → E (.ref C) (some d) H'
theorem Thrown.same {E : XK} {H H' : Hp} {C : Addr} {f : Str} {v : V} (e : Same H H') (h : Thrown E H C f v) : Thrown E H' C f v := fun d H2 e2 q => h d H2 (e.trans e2) q
theorem Thrown.at_ {E : XK} {H : Hp} {C : Addr} {f : Str} {v : V} (h : Thrown E H C f v) : ∀ d, H d = none → E (.ref C) (some d) (upd H d (.xd [(f, v)])) := fun d q => h d _ (same_new q) upd_same
theorem fnb_none {l : Int} : ∀ {xs : List V}, fnb l xs = none ↔ ∀ x ∈ xs, isBel l x = true
  | [] => by simp [fnb]
  | x :: xs => by
    unfold fnb
    by_cases h : isBel l x = true
    · rw [if_pos h, Option.map_eq_none_iff, fnb_none]
      exact ⟨fun q y hy => (List.mem_cons.mp hy).elim (fun e => e ▸ h) (q y), fun q y hy => q y (List.mem_cons_of_mem _ hy)⟩
    · rw [if_neg h]
      exact ⟨fun q => (nomatch q), fun q => absurd (q x (List.mem_cons_self ..)) h⟩
theorem fnb_some {l : Int} : ∀ {xs : List V} {i : Nat}, (∀ j x, j < i → xs[j]? = some x → isBel l x = true) → (∃ x, xs[i]? = some x ∧ isBel l x = false) → fnb l xs = some i
  | [], i, _, h => by obtain ⟨x, h, _⟩ := h; simp at h
  | x :: xs, 0, _, h => by
    obtain ⟨y, h1, h2⟩ := h
    have e : x = y := by simpa using h1
    unfold fnb
    rw [e, if_neg (by rw [h2]; exact Bool.false_ne_true)]
  | x :: xs, i + 1, hl, h => by
    unfold fnb
    rw [if_pos (hl 0 x (Nat.succ_pos i) rfl), fnb_some (i := i) (fun j y hj hy => hl (j + 1) y (Nat.succ_lt_succ hj) (by simpa using hy)) (by simpa using h)]
    rfl
/-- the errors' classes -/
structure Ad where
  cM : Addr
  cF : Addr
  cG : Addr
  cN : Addr
/-- what the module holds of its errors -/
structure Er (P : Program) (w : World) (K : PySem.W.Frag) (mg : Str → Option Value) (base : Heap) (a : Ad) : Prop where
  BadMachine : ErrN P w K mg base 1 "BadMachine" "at" a.cM
  Refused : ErrN P w K mg base 1 "Refused" "at" a.cF
  TooGreat : ErrN P w K mg base 1 "TooGreat" "most" a.cG
  NoState : ErrN P w K mg base 1 "NoState" "state" a.cN
def spNumber (K : PySem.W.Frag) : Sp := fun vs H Q _ => ∃ v, vs = [v] ∧ Kn K H v ∧ Q (.bl (isNum v)) H
def spBelow (K : PySem.W.Frag) : Sp := fun vs H Q _ => ∃ v l, vs = [v, .int l] ∧ Kn K H v ∧ Q (.bl (isBel l v)) H
def spSeq (K : PySem.W.Frag) : Sp := fun vs H Q _ => ∃ v l m o, vs = [v, .int l, .int m] ∧ Long K H v o ∧ ∀ H', Same H H' → Q (.bl (inLen l m o)) H'
def spFnb (K : PySem.W.Frag) : Sp := fun vs H Q _ => ∃ a xs l, vs = [.ref a, .int l] ∧ Sq K H a xs ∧ (∀ x ∈ xs, Kn K H x) ∧ ∀ H', Same H H' → Q (optV (fnb l xs)) H'
/-- the type's name of such a value, where it is no int -/
theorem kn_ty {K : PySem.W.Frag} {H : Hp} {v : V} (h : Kn K H v) : (∃ i, v = .int i) ∨ ∃ n : String, TyX K H v (.type n) ∧ (n = "NoneType" ∨ n = "bool" ∨ n = "str" ∨ n = "list" ∨ n = "tuple") ∧ isNum v = false ∧ ∀ l, isBel l v = false := by
  cases h with
  | int i => exact .inl ⟨i, rfl⟩
  | non => exact .inr ⟨_, .base .non, by simp, rfl, fun _ => rfl⟩
  | bl b => exact .inr ⟨_, .base (.bl b), by simp, rfl, fun _ => rfl⟩
  | str x => exact .inr ⟨_, .base (.str x), by simp, rfl, fun _ => rfl⟩
  | seq q =>
    rcases q with q | q
    · exact .inr ⟨_, tyx_list q, by simp, rfl, fun _ => rfl⟩
    · exact .inr ⟨_, tyx_tuple q, by simp, rfl, fun _ => rfl⟩
theorem kit_int {K : PySem.W.Frag} {n : String} (h : n = "NoneType" ∨ n = "bool" ∨ n = "str" ∨ n = "list" ∨ n = "tuple") : ∃ b, PySem.W.kitOne K (.type n) (.type "int") = some b ∧ (b = true → PySem.W.kitOne K (.type n) (.type "bool") = some true) := by
  rcases h with rfl | rfl | rfl | rfl | rfl
  · exact ⟨false, kit_ty (by decide +kernel), fun z => nomatch z⟩
  · exact ⟨true, kit_ty (by decide +kernel), fun _ => kit_ty (by decide +kernel)⟩
  · exact ⟨false, kit_ty (by decide +kernel), fun z => nomatch z⟩
  · exact ⟨false, kit_ty (by decide +kernel), fun z => nomatch z⟩
  · exact ⟨false, kit_ty (by decide +kernel), fun z => nomatch z⟩
section
variable {P : Program} {w : World} {K : PySem.W.Frag} {mg : Str → Option Value} {base : Heap} {f : Addr} {fd : FuncData} {a : Ad}
theorem scis_number : FnScope ["value"] ["value"] (defScope s_is_number) := ⟨rfl, rfl, rfl, by decide +kernel, rfl, by decide +kernel, by decide +kernel⟩
theorem ok_is_number (F : FnP K "is_number" s_is_number f fd) (T : Mg mg) : FnOk P w K mg base CX0 1 f fd ["value"] (spNumber K) := by
  refine F.ok scis_number (fun vs H Q E h => ?_) (fun cdv A outer s H vs Q E hr h => ?_)
  · obtain ⟨v, rfl, _⟩ := h
    rfl
  · obtain ⟨v, rfl, hv, k⟩ := h
    refine ⟨_, PSs.nox (pss_one (ps_ret (pe_and (pe_callB call_isi (by rfl) T.z_isinstance (by decide +kernel) (pa_cons (pv 0) (pa_cons (pe_ty T.z_int bt_int) pa_nil))) (pe_and (pe_not (pe_callB call_isi (by rfl) T.z_isinstance (by decide +kernel) (pa_cons (pv 0) (pa_cons (pe_ty T.z_bool bt_bool) pa_nil)))) (pe_one (pe_cmpR op_ge (pv 0) pe_int (nomark _))))))), ?_⟩
    rcases kn_ty hv with ⟨i, rfl⟩ | ⟨n, ht, hn, e, _⟩
    · refine ⟨_, rfl, _, .ty "int", _, _, true, rfl, .ty _, .base (.int i), kit_ty (by decide +kernel), true, rfl, iteT ?_⟩
      refine ⟨_, rfl, _, .ty "bool", _, _, false, rfl, .ty _, .base (.int i), kit_ty (by decide +kernel), false, rfl, true, rfl, iteT ⟨_, rfl, _, _, rfl, rfl, ?_⟩⟩
      exact k
    · obtain ⟨b, hb, hb2⟩ := kit_int (K := K) hn
      rw [e] at k
      refine ⟨_, rfl, _, .ty "int", _, _, b, rfl, .ty _, ht, hb, b, rfl, ?_⟩
      cases b with
      | false => exact iteF k
      | true => exact iteT ⟨_, rfl, _, .ty "bool", _, _, true, rfl, .ty _, ht, hb2 rfl, true, rfl, false, rfl, iteF k⟩
theorem sc_is_below : FnScope ["value", "limit"] ["value", "limit"] (defScope s_is_below) := ⟨rfl, rfl, rfl, by decide +kernel, rfl, by decide +kernel, by decide +kernel⟩
theorem ok_is_below (F : FnP K "is_below" s_is_below f fd) (T : Mg mg) (c_is_number : Cal P w K mg base CX0 1 "is_number" ["value"] (spNumber K)) : FnOk P w K mg base CX0 2 f fd ["value", "limit"] (spBelow K) := by
  refine F.ok sc_is_below (fun vs H Q E h => ?_) (fun cdv A outer s H vs Q E hr h => ?_)
  · obtain ⟨v, l, rfl, _⟩ := h
    rfl
  · obtain ⟨v, l, rfl, hv, k⟩ := h
    refine ⟨_, PSs.nox (pss_one (ps_ret (pe_and (pe_callC c_is_number hr pass0 (pa_cons (pv 0) pa_nil)) (pe_one (pe_cmpR op_lt (pv 0) (pv 1) (nomark _)))))), ?_⟩
    refine ⟨_, rfl, v, rfl, hv, isNum v, rfl, ?_⟩
    cases e : isNum v with
    | false =>
      refine iteF ?_
      have e2 : isBel l v = false := by
        cases v <;> first | rfl | (have e' : decide _ = false := e; show (decide _ && decide _) = false; rw [e']; rfl)
      rw [e2] at k
      exact k
    | true =>
      refine iteT ?_
      obtain ⟨i, rfl⟩ : ∃ i, v = .int i := by
        cases v with
        | int i => exact ⟨i, rfl⟩
        | _ => cases e
      refine ⟨_, rfl, _, rfl, _, _, rfl, rfl, ?_⟩
      have e2 : isBel l (.int i) = decide (i < l) := by
        show (decide _ && decide _) = _
        rw [show decide (0 ≤ i) = true from e]
        rfl
      rw [e2] at k
      exact k
theorem sc_is_sequence : FnScope ["value", "least", "most"] ["value", "least", "most"] (defScope s_is_sequence) := ⟨rfl, rfl, rfl, by decide +kernel, rfl, by decide +kernel, by decide +kernel⟩
theorem kit_seq {K : PySem.W.Frag} {n : String} {b : Bool} (h1 : n = "list" ∨ n = "tuple" → b = true) (h2 : n = "NoneType" ∨ n = "bool" ∨ n = "str" ∨ n = "int" → b = false) (hn : (n = "list" ∨ n = "tuple") ∨ n = "NoneType" ∨ n = "bool" ∨ n = "str" ∨ n = "int") :
    PySem.W.kitAny K (.type n) [.type "list", .type "tuple"] = some b := by
  rcases hn with hn | hn
  · obtain rfl := h1 hn
    rcases hn with rfl | rfl
    · exact kitAny_cons (b := true) (kit_ty (by decide +kernel)) (fun z => nomatch z) (fun _ => rfl)
    · exact kitAny_cons (b := false) (kit_ty (by decide +kernel)) (fun _ => kitAny_cons (b := true) (kit_ty (by decide +kernel)) (fun z => nomatch z) (fun _ => rfl)) (fun z => nomatch z)
  · obtain rfl := h2 hn
    rcases hn with rfl | rfl | rfl | rfl
    · exact kitAny_cons (b := false) (kit_ty (by decide +kernel)) (fun _ => kitAny_cons (b := false) (kit_ty (by decide +kernel)) (fun _ => kitAny_nil) (fun z => nomatch z)) (fun z => nomatch z)
    · exact kitAny_cons (b := false) (kit_ty (by decide +kernel)) (fun _ => kitAny_cons (b := false) (kit_ty (by decide +kernel)) (fun _ => kitAny_nil) (fun z => nomatch z)) (fun z => nomatch z)
    · exact kitAny_cons (b := false) (kit_ty (by decide +kernel)) (fun _ => kitAny_cons (b := false) (kit_ty (by decide +kernel)) (fun _ => kitAny_nil) (fun z => nomatch z)) (fun z => nomatch z)
    · exact kitAny_cons (b := false) (kit_ty (by decide +kernel)) (fun _ => kitAny_cons (b := false) (kit_ty (by decide +kernel)) (fun _ => kitAny_nil) (fun z => nomatch z)) (fun z => nomatch z)
theorem long_ty {H : Hp} {v : V} {o : Option (List V)} (h : Long K H v o) : ∃ n : String, TyX K H v (.type n) ∧ PySem.W.kitAny K (.type n) [.type "list", .type "tuple"] = some o.isSome := by
  cases h with
  | non => exact ⟨_, .base .non, kit_seq (by simp) (by simp) (by simp)⟩
  | bl b => exact ⟨_, .base (.bl b), kit_seq (by simp) (by simp) (by simp)⟩
  | int i => exact ⟨_, .base (.int i), kit_seq (by simp) (by simp) (by simp)⟩
  | str x => exact ⟨_, .base (.str x), kit_seq (by simp) (by simp) (by simp)⟩
  | seq q =>
    rcases q with q | q
    · exact ⟨_, tyx_list q, kit_seq (by simp) (by simp) (by simp)⟩
    · exact ⟨_, tyx_tuple q, kit_seq (by simp) (by simp) (by simp)⟩
theorem ok_is_sequence (F : FnP K "is_sequence" s_is_sequence f fd) (T : Mg mg) : FnOk P w K mg base CX0 1 f fd ["value", "least", "most"] (spSeq K) := by
  refine F.ok sc_is_sequence (fun vs H Q E h => ?_) (fun cdv A outer s H vs Q E hr h => ?_)
  · obtain ⟨v, l, m, o, rfl, _⟩ := h
    rfl
  · obtain ⟨v, l, m, o, rfl, hv, k⟩ := h
    refine ⟨_, PSs.nox (pss_one (ps_ret (pe_and (pe_callB call_isiT (by rfl) T.z_isinstance (by decide +kernel) (pa_cons (pv 0) (pa_cons (pe_tup (pa_cons (pe_ty T.z_list bt_list) (pa_cons (pe_ty T.z_tuple bt_tuple) pa_nil))) pa_nil))) (pe_one (pe_chain op_le op_le (pv 1) (pe_callB call_len_seq (by rfl) T.z_len PySem.boot_len (pa_cons (pv 0) pa_nil)) (pv 2)))))), ?_⟩
    refine ⟨_, rfl, (by show 2 ≤ sizeLine; decide), fun p hp => ?_⟩
    have e := same_new (o := HO.tup [.ty "list", .ty "tuple"]) hp
    obtain ⟨n, ht, hk⟩ := long_ty (hv.same e)
    refine ⟨v, p, _, .type n, _, o.isSome, rfl, upd_same, .cons (.ty _) (.cons (.ty _) .nil), ht, hk, _, rfl, ?_⟩
    cases o with
    | none => exact iteF (k _ e)
    | some xs =>
      refine iteT ?_
      cases hv with
      | seq q =>
        have q' := q.same e
        refine ⟨_, rfl, _, rfl, _, _, rfl, q', _, _, rfl, rfl, decide (l ≤ (xs.length : Int)), rfl, ?_⟩
        refine ite2 (fun h1 => ?_) (fun h1 => ?_)
        · refine ⟨_, rfl, _, _, rfl, rfl, ?_⟩
          have k2 := k _ e
          rw [show inLen l m (some xs) = decide ((xs.length : Int) ≤ m) from by show (decide _ && _) = _; rw [h1]; rfl] at k2
          exact k2
        · have k2 := k _ e
          rw [show inLen l m (some xs) = false from by show (decide _ && _) = _; rw [Bool.eq_false_iff.mpr h1]; rfl] at k2
          exact k2
end
end KJ
/-! the top, run -/
namespace KJ
open PySem PySem.Spec PyProof.Rows L2 Kx
/-! ### Bools that the head's Hook asks -/
/-- a class's line and slots -/
def tailB (C : Addr) (bm : List Value → Bool) (newId : String) (mro : List Value) (sl : List (Option Value)) : Bool := match mro, sl with
  | .ref C' :: r, [_, _, _, _, some (.builtin n), _] => decide (C' = C) && (decide (n = newId) && bm r)
  | _, _ => false
theorem tailB_ok {C : Addr} {bm : List Value → Bool} {newId : String} {mro : List Value} {sl : List (Option Value)} (h : tailB C bm newId mro sl = true) :
    ∃ r a0 a1 a2 a3 a5, mro = .ref C :: r ∧ sl = [a0, a1, a2, a3, some (.builtin newId), a5] ∧ bm r = true := by
  unfold tailB at h
  split at h
  · obtain ⟨h4, h⟩ := He.ba h
    obtain ⟨h5, h6⟩ := He.ba h
    have h4 := of_decide_eq_true h4
    have h5 := of_decide_eq_true h5
    exact ⟨_, _, _, _, _, _, by rw [h4], by rw [h5], h6⟩
  · cases h
/-- the class at C as the text makes it: an own dict, no __del__, behind it the classes bm -/
def shapeB (K : PySem.W.Frag) (C : Addr) (bm : List Value → Bool) (newId : String) : Bool := match K.lookup C with
  | some ⟨.type c, _, .cls cd, sl⟩ => decide (c = "type") && (cd.hasDict && (!cd.hasDel && tailB C bm newId cd.mro sl.toList))
  | _ => false
theorem shapeB_ok {K : PySem.W.Frag} {C : Addr} {bm : List Value → Bool} {newId : String} (h : shapeB K C bm newId = true) :
    ∃ nm q N bs r sn sub ab col dd k0 k1 k2 k3 k5, K.lookup C = some (excClassObj nm q C N bs r true sn sub ab col dd k0 k1 k2 k3 k5 newId) ∧ bm r = true := by
  unfold shapeB at h
  cases e : K.lookup C with
  | none =>
    rw [e] at h
    cases h
  | some o =>
    obtain ⟨oc, od, dt, sl⟩ := o
    rw [e] at h
    cases oc with
    | type c =>
      cases dt with
      | cls cd =>
        obtain ⟨nm, bs, mro, N, q, hdct, sn, sub, ab, col, del⟩ := cd
        have h : (decide (c = "type") && (hdct && (!del && tailB C bm newId mro sl.toList))) = true := h
        obtain ⟨h1, h⟩ := He.ba h
        obtain ⟨h2, h⟩ := He.ba h
        obtain ⟨h3, h⟩ := He.ba h
        obtain ⟨r, a0, a1, a2, a3, a5, h4, h5, h6⟩ := tailB_ok h
        have k1 := of_decide_eq_true h1
        have k3 : del = false := by
          cases del with
          | false => rfl
          | true => cases h3
        have es : sl = #[a0, a1, a2, a3, some (.builtin newId), a5] := by
          have := congrArg List.toArray h5
          simpa using this
        refine ⟨nm, q, N, bs, r, sn, sub, ab, col, od, a0, a1, a2, a3, a5, ?_, h6⟩
        rw [k1, h2, k3, h4, es]
      | _ => cases h
    | _ => cases dt <;> cases h
/-- an own error over an own base over ValueError, of the field f -/
def oexB (K : PySem.W.Frag) (C : Addr) : Bool := shapeB K C PySem.HandSPX.refsVE "ValueError.__new__" && (He.eqO (PySem.W.findIn K (.ref C) "__setattr__") (some (some (.builtin "object.__setattr__"))) && (decide (PySem.W.subIn K (.ref C) (.type "BaseException") = some true) && (decide (PySem.W.typeIn K (.ref C) = some (.type "type")) && PySem.W.keepIn K (.ref C))))
theorem oexB_ok {K : PySem.W.Frag} {C : Addr} (h : oexB K C = true) : OexC K C := by
  obtain ⟨h1, h⟩ := He.ba h
  obtain ⟨h2, h⟩ := He.ba h
  obtain ⟨h3, h⟩ := He.ba h
  obtain ⟨h4, h5⟩ := He.ba h
  exact ⟨shapeB_ok h1, He.eqO_ok h2, of_decide_eq_true h3, of_decide_eq_true h4, h5⟩
def keyB (K : PySem.W.Frag) (C : Addr) : Bool := shapeB K C (fun r => decide (r = keyTail)) "LookupError.__new__" && (He.eqO (PySem.W.findIn K (.ref C) "__setattr__") (some (some (.builtin "object.__setattr__"))) && (decide (PySem.W.subIn K (.ref C) (.type "BaseException") = some true) && (decide (PySem.W.typeIn K (.ref C) = some (.type "type")) && PySem.W.keepIn K (.ref C))))
theorem keyB_ok {K : PySem.W.Frag} {C : Addr} (h : keyB K C = true) : KeyC K C := by
  obtain ⟨h1, h⟩ := He.ba h
  obtain ⟨h2, h⟩ := He.ba h
  obtain ⟨h3, h⟩ := He.ba h
  obtain ⟨h4, h5⟩ := He.ba h
  obtain ⟨nm, q, N, bs, r, sn, sub, ab, col, dd, k0, k1, k2, k3, k5, e, er⟩ := shapeB_ok h1
  have er := of_decide_eq_true er
  subst er
  exact ⟨⟨nm, q, N, bs, sn, sub, ab, col, dd, k0, k1, k2, k3, k5, e⟩, He.eqO_ok h2, of_decide_eq_true h3, of_decide_eq_true h4, h5⟩
def excB (K : PySem.W.Frag) (D : Addr) : Bool := He.eqO (PySem.W.findIn K (.ref D) "__getattribute__") (some (some (.builtin "BaseException.__getattribute__"))) && (He.eqO (PySem.W.findIn K (.ref D) "__getattr__") (some none) && (decide (PySem.W.subIn K (.ref D) (.type "BaseException") = some true) && (PySem.W.hasDictIn K D &&
  (He.eqO (PySem.W.findIn K (.ref D) "__class__") (some (some (.builtin "object.__class__"))) && (He.eqO (PySem.W.specialIn K (.builtin "object.__class__") "__get__") (some (some (.builtin "getset_descriptor.__get__"))) && (decide (PySem.W.takesIn K (.builtin "object.__class__") = some true) && decide (PySem.W.mroIn K D (.type "object") = some true)))))))
theorem excB_ok {K : PySem.W.Frag} {D : Addr} (h : excB K D = true) : ExcC K D := by
  obtain ⟨h1, h⟩ := He.ba h
  obtain ⟨h2, h⟩ := He.ba h
  obtain ⟨h3, h⟩ := He.ba h
  obtain ⟨h4, h⟩ := He.ba h
  obtain ⟨h5, h⟩ := He.ba h
  obtain ⟨h6, h⟩ := He.ba h
  obtain ⟨h7, h8⟩ := He.ba h
  exact ⟨He.eqO_ok h1, He.eqO_ok h2, of_decide_eq_true h3, h4, He.eqO_ok h5, He.eqO_ok h6, of_decide_eq_true h7, of_decide_eq_true h8⟩
theorem excB_xf {K : PySem.W.Frag} {D : Addr} (h : excB K D = true) : XfC K D := by
  have e := excB_ok h
  exact ⟨e.hg, e.hk, e.hs, e.hd⟩
end KJ
/-! the end of a law that holds where nothing that guards itself runs around -/
namespace Kx
open L2 PySem PySem.Spec PyProof.Rows
/-- what is followed at the start: the tables, the script where the written part does not hold it -/
def startH (K : PySem.W.Frag) (a : Addr) (vs : List Value) (ns : List Int) (tabs : List Addr) : Hp := fun b =>
  if b ∈ tabs then some (.tbl #[]) else if b = a ∧ K.lookup a = .none then some (.frz { cls := .type "list", data := .seq vs.toArray } (.lst (ns.map V.int))) else .none
section
variable {P : Program} {w : World} {K : PySem.W.Frag} {mg mb : Str → Option Value} {k : Nat} {fa a : Addr} {cs : List (Addr × Addr)} {fd : FuncData} {x : Str} {sp : Sp} {s : Shared} {vs : List Value} {ns : List Int}
theorem lone_end (X : K.In s.heap) (G : s.heap.Ns mainGlobals mg) (Bn : s.heap.Ns builtinsNs mb) (Bi : ∀ y : Str, y ≠ "__name__" → mb y = bootBuiltins y) (lim : s.heap.NoLimit) (gens : s.gens = #[])
    (tE : ∀ p ∈ cs, s.heap.get? p.2 = some { cls := .none, data := .fields #[] }) (tN : ∀ p ∈ cs, K.lookup p.2 = .none) (tC : ∀ p ∈ cs, PySem.W.CodeHd s.heap p.1 p.2)
    (bmod : ∃ (bm : Addr) (ob : Obj), mg "__builtins__" = some (.ref bm) ∧ bm ≠ builtinsNs ∧ s.heap.get? bm = some ob ∧ ob.cls = .type "module" ∧ ob.dict = some builtinsNs ∧ ob.data = .plain)
    (at_ : s.heap.get? a = some { cls := .type "list", data := .seq vs.toArray }) (isI : IntsAre vs ns) (short : ns.length ≤ sizeLine) (room : Room k callerA)
    (F : ∀ base : Heap, K.In base → base.Ns mainGlobals mg → (∀ p ∈ cs, LamX.TabB base mg p.1 p.2) → FnG P w K mg base CX0 k fa fd [x] sp) (bind : ∀ (s' : Shared) (u : Value), BindsTo s' fd ⟨[u], []⟩ [(x, u)])
    (give : ∀ H : Hp, (∀ p ∈ cs, H p.2 = some (.tbl #[])) → SqL K H a (ns.map V.int) → sp [.ref a] H (fun v _ => v = .bl true) fun _ _ _ => False) :
    codeAny (model P w) callerA (.call (.ref fa) ⟨[.ref a], []⟩) (fun r s' => r = .ok (.ret (.bool true)) ∧ OldK s.heap s'.heap ∧ s'.os = s.os ∧ AllBare s'.gens) s := by
  have rel := vals_ints isI
  have len := isI.length
  have tabIs : ∀ b ∈ cs.map (·.2), s.heap.get? b = some { cls := .none, data := .fields #[] } ∧ K.lookup b = .none := fun b hb => by
    obtain ⟨p, hp, rfl⟩ := List.mem_map.mp hb
    exact ⟨tE p hp, tN p hp⟩
  have apart : a ∉ cs.map (·.2) := fun z => by
    have q := (tabIs a z).1
    rw [at_] at q
    injection q with q
    injection q with _ _ q
    cases q
  let H := startH K a vs ns (cs.map (·.2))
  have hT : ∀ b ∈ cs.map (·.2), H b = some (.tbl #[]) := fun b hb => if_pos hb
  have hTs : ∀ p ∈ cs, H p.2 = some (.tbl #[]) := fun p hp => hT _ (List.mem_map_of_mem hp)
  -- what H follows: a table, the script
  have cases_ : ∀ b, (b ∈ cs.map (·.2) ∧ H b = some (.tbl #[])) ∨ (b = a ∧ K.lookup a = .none ∧ H b = some (.frz { cls := .type "list", data := .seq vs.toArray } (.lst (ns.map V.int)))) ∨ H b = .none := fun b => by
    by_cases h1 : b ∈ cs.map (·.2)
    · exact .inl ⟨h1, hT b h1⟩
    · by_cases h2 : b = a ∧ K.lookup a = .none
      · exact .inr (.inl ⟨h2.1, h2.2, (if_neg h1).trans (if_pos h2)⟩)
      · exact .inr (.inr ((if_neg h1).trans (if_neg h2)))
  have known : ∀ {b : Addr} {o : Obj}, K.lookup b = some o → H b = .none := fun {b o} e => by
    rcases cases_ b with ⟨h, _⟩ | ⟨rfl, h, _⟩ | h
    · rw [(tabIs b h).2] at e
      cases e
    · rw [h] at e
      cases e
    · exact h
  have other : ∀ {b : Addr} {o : Obj}, s.heap.get? b = some o → (∀ us n, o.data ≠ .seq us n) → o.data ≠ .fields #[] → H b = .none := fun {b o} e h1 h2 => by
    rcases cases_ b with ⟨h, _⟩ | ⟨rfl, _, _⟩ | h
    · rw [(tabIs b h).1] at e
      cases e
      exact absurd rfl h2
    · rw [at_] at e
      cases e
      exact absurd rfl (h1 _ _)
    · exact h
  have ns_ : ∀ {b : Addr} {m : Str → Option Value}, s.heap.Ns b m → (hidT s.heap H).Ns b m := fun {b m} ⟨o, es, ep, e, d, r⟩ =>
    ⟨o, es, ep, hidT_get e (other e (fun us n z => by rw [d] at z; cases z) fun z => by rw [d] at z; cases z), d, r⟩
  have Xb : K.In (hidT s.heap H) := fun b o e => hidT_get (X b o e) (known e)
  have holds : HOk P w H s.heap := fun b u z => by
    rcases cases_ b with ⟨h, e⟩ | ⟨rfl, _, e⟩ | e
    · obtain rfl : u = .tbl #[] := Option.some.inj (z.symm.trans e)
      exact (tabIs b h).1
    · obtain rfl := Option.some.inj (z.symm.trans e)
      exact ⟨at_, by rw [List.length_map]; exact short, vs, _, rel, at_⟩
    · rw [e] at z
      cases z
  have script : SqL K H a (ns.map V.int) := by
    cases q : K.lookup a with
    | none =>
      refine .inl (.inr ⟨{ cls := .type "list", data := .seq vs.toArray }, ?_⟩)
      exact (if_neg apart).trans (if_pos ⟨rfl, q⟩)
    | some o =>
      have e := X a o q
      rw [at_] at e
      cases e
      exact .inr ⟨_, vs.toArray, _, q, rfl, rfl, rfl, by rw [List.size_toArray, len]; exact short, by simpa using rel⟩
  have tabs : ∀ p ∈ cs, LamX.TabB (hidT s.heap H) mg p.1 p.2 := fun p hp => by
    refine ⟨?_, ?_, fun z => ?_⟩
    · obtain ⟨o, us, file, tf, flags, tg, inF, text, tt, e, c1, c2, c3, more⟩ := tC p hp
      refine ⟨o, us, file, tf, flags, tg, inF, text, tt, hidT_get e (other e (fun vs n z => by rw [c2] at z; cases z) fun z => ?_), c1, c2, c3, more⟩
      rw [c2] at z
      cases z
      simp at c3
    · obtain ⟨bm, ob, b1, b2, b3, b4, b5, b6⟩ := bmod
      have b7 : H bm = .none := other b3 (fun us n z => by rw [b6] at z; cases z) fun z => by rw [b6] at z; cases z
      refine ⟨bm, ob, b1, b2, fun q => ?_, fun q => ?_, hidT_get b3 b7, b4, b5, b6⟩
      · obtain ⟨o, es, ep, e, d, _⟩ := G
        rw [← q, b3] at e
        cases e
        rw [b6] at d
        cases d
      · rw [q, hTs p hp] at b7
        cases b7
    · obtain ⟨o, es, ep, e, d, _⟩ := G
      rw [z, tE p hp] at e
      cases e
      cases d
  have env : Env0 P w K mg (hidT s.heap H) callerA [] s H :=
    { frames := rfl
      mod := ⟨Xb, ns_ G, ⟨mb, ns_ Bn, Bi⟩, let ⟨mc, h1, h2⟩ := lim; ⟨mc, ns_ h1, h2⟩⟩
      bs := fun b o e => of_hidT e
      bsz := Nat.le_of_eq (hidT_size _ _)
      funs := trivial
      frf := fun b hb => absurd (show b ∈ ([] : List Addr) from hb) (by simp)
      hok := holds
      bare := .of_eq gens }
  refine codeAny_mono ((F _ Xb (ns_ G) tabs).run callerA [] s H ⟨[.ref a], []⟩ [.ref a] [.ref a] _ _ room rfl env (bind s (.ref a)) (.cons rfl .nil) (give H hTs script)) fun r s' z => ?_
  match r, z with
  | .error e, z => exact z.elim
  | .ok .next, z => exact z.elim
  | .ok .brk, z => exact z.elim
  | .ok .cont, z => exact z.elim
  | .ok (.ret u), z =>
    obtain ⟨v, H', os, bare, un, ok', r', ev⟩ := z
    subst ev
    obtain rfl : u = .bool true := r'
    have stay : ∀ b o, b ∉ cs.map (·.2) → s.heap.get? b = some o → s'.heap.get? b = some o := fun b o nb e => by
      rcases cases_ b with ⟨h, _⟩ | ⟨_, _, q⟩ | q
      · exact absurd h nb
      · have old := (holds b _ q).1
        rw [e] at old
        cases old
        exact (ok' b _ (un.frzs b _ _ q)).1
      · exact un.keep b o e q (fun m => absurd (show b ∈ ([] : List Addr) from m) (by simp)) (by simp)
    have grown : ∀ b ∈ cs.map (·.2), ∃ more : Array Value, s'.heap.get? b = some { cls := .none, data := .fields more } := fun b hb => by
      obtain ⟨more, q⟩ := un.tbls b #[] (hT b hb)
      exact ⟨_, ok' b _ q⟩
    refine ⟨rfl, ⟨fun b o eb => ?_, fun b o eb => ?_⟩, os, bare⟩
    · by_cases mb : b ∈ cs.map (·.2)
      · rcases List.mem_map.mp mb with ⟨p, hp, rfl⟩
        obtain ⟨more, hm⟩ := grown _ mb
        rw [tE p hp] at eb
        cases eb
        exact .inr (.inl ⟨((tC p hp).tab (tE p hp)).isCodeTable, rfl, #[], more, rfl, by rw [Array.empty_append]; exact hm⟩)
      · exact .inl (stay b o mb eb)
    · by_cases mb : b ∈ cs.map (·.2)
      · obtain ⟨more, hm⟩ := grown b mb
        exact ⟨_, hm⟩
      · exact ⟨o, stay b o mb eb⟩
end
/-- the law's def, told over the head's heap -/
theorem lone_walk {l : PySem.W.OpenLaw} {n k : Nat} {q : Program} {loose : List Str} {XP : (Str → Option Value) → Heap → Prop} {YP : World → Heap → Prop} {d : DefRec} {x : Str} (most : l.most = some n) (short : n ≤ sizeLine) (plain : d.params.defaults = []) (room : Room k callerA)
    (F : ∀ (w : World) (mg : Str → Option Value) (fa : Addr) (h : Heap), YP w h → h.Ns mainGlobals mg → mg d.name = some (.ref fa) → ∃ (K : PySem.W.Frag) (fd : FuncData) (cs : List (Addr × Addr)) (sp : Sp), K.In h ∧
      (∀ p ∈ cs, h.get? p.2 = some { cls := .none, data := .fields #[] }) ∧ (∀ p ∈ cs, K.lookup p.2 = none) ∧ (∀ p ∈ cs, PySem.W.CodeHd h p.1 p.2) ∧ (∀ (s : Shared) (u : Value), BindsTo s fd ⟨[u], []⟩ [(x, u)]) ∧
      (∀ (H : Hp) (a : Addr) (ns : List Int), ns.length ≤ n → (∀ p ∈ cs, H p.2 = some (.tbl #[])) → SqL K H a (ns.map V.int) → sp [.ref a] H (fun v _ => v = .bl true) fun _ _ _ => False) ∧
      ∀ base : Heap, K.In base → base.Ns mainGlobals mg → (∀ p ∈ cs, LamX.TabB base mg p.1 p.2) → FnG l.prog w K mg base CX0 k fa fd [x] sp) : PySem.W.WalkO q loose XP YP l.row.toRowW d [] (fun f vs => PySem.call f vs) := by
  refine Att.attach_callB most plain fun w s₀ s₁ mg mb fa o pm cd doc a vs ns G Y _ _ _ hmg hobj hints hlen _ hg => ?_
  obtain ⟨K, fd, cs, sp, X, tE, tN, tC, hb, give, hF⟩ := F w mg fa _ Y G.T.g hmg
  exact lone_end X G.T.g G.T.b G.T.builtins G.T.nolimit hg tE tN tC G.T.bmain hobj hints (Nat.le_trans hlen short) room hF hb fun H hH hS => give H a ns hlen hH hS
end Kx
/-! what the head tells -/
namespace KJ
open PySem PySem.Spec PyProof.Rows L2 Kx RZ
def iniB (K : PySem.W.Frag) (C : Addr) : Bool := He.eqO (PySem.W.findIn K (.ref C) "__init__") (some (some (.ref (He.ma K C "__init__")))) && decide (PySem.W.typeIn K (.ref (He.ma K C "__init__")) = some (.type "function"))
theorem iniB_ok {K : PySem.W.Frag} {C : Addr} (h : iniB K C = true) : PySem.W.findIn K (.ref C) "__init__" = some (some (.ref (He.ma K C "__init__"))) ∧ PySem.W.typeIn K (.ref (He.ma K C "__init__")) = some (.type "function") := by
  obtain ⟨h1, h2⟩ := He.ba h
  exact ⟨He.eqO_ok h1, of_decide_eq_true h2⟩
def isiB (K : PySem.W.Frag) (C : Addr) : Bool := He.eqO (PySem.W.findIn K (.ref C) "__class__") (some (some (.builtin "object.__class__"))) && (He.eqO (PySem.W.specialIn K (.builtin "object.__class__") "__get__") (some (some (.builtin "getset_descriptor.__get__"))) &&
  (decide (PySem.W.takesIn K (.builtin "object.__class__") = some true) && decide (PySem.W.mroIn K C (.type "object") = some true)))
theorem isiB_ok {K : PySem.W.Frag} {C : Addr} (h : isiB K C = true) : SlX.SIsi K C := by
  obtain ⟨h1, h⟩ := He.ba h
  obtain ⟨h2, h⟩ := He.ba h
  obtain ⟨h3, h4⟩ := He.ba h
  exact ⟨He.eqO_ok h1, He.eqO_ok h2, of_decide_eq_true h3, of_decide_eq_true h4⟩
def kitB (K : PySem.W.Frag) (t c : Value) (b : Bool) : Bool := decide (PySem.W.kitOne K t c = some b)
theorem kitB_ok {K : PySem.W.Frag} {t c : Value} {b : Bool} (h : kitB K t c b = true) : PySem.W.kitOne K t c = some b := of_decide_eq_true h
/-- the class's own names -/
def nsOf (K : PySem.W.Frag) (C : Addr) : Addr := match K.lookup C with
  | some ⟨_, _, .cls cd, _⟩ => cd.ns
  | _ => 0
def strE (e : DictEntry) : Bool := match e.key with
  | .str _ _ => true
  | _ => false
def nsB (K : PySem.W.Frag) (N f : Addr) : Bool := match K.lookup N with
  | some ⟨_, _, .dict es _, _⟩ => es.toList.all strE && (decide (nsFind es "__eq__" = some (.ref f)) && decide (nsFind es "__ne__" = none))
  | _ => false
theorem nsB_ok {K : PySem.W.Frag} {N f : Addr} (h : nsB K N f = true) : ∃ (oN : Obj) (es : Array DictEntry) (ep : Nat), K.lookup N = some oN ∧ oN.data = .dict es ep ∧ StrKeys es ∧ nsFind es "__eq__" = some (.ref f) ∧ nsFind es "__ne__" = none := by
  unfold nsB at h
  split at h
  · rename_i oc od es ep sl e
    obtain ⟨h1, h⟩ := He.ba h
    obtain ⟨h2, h3⟩ := He.ba h
    refine ⟨_, es, ep, e, rfl, fun z hz => ?_, of_decide_eq_true h2, of_decide_eq_true h3⟩
    have := List.all_eq_true.mp h1 z (by simpa using hz)
    unfold strE at this
    split at this
    · rename_i n t q
      exact ⟨n, t, q⟩
    · cases this
  · cases h
def eqB (K : PySem.W.Frag) (C f : Addr) : Bool := He.eqO (PySem.W.findIn K (.ref C) "__eq__") (some (some (.ref f))) && (PySem.W.isFn K (.ref f) && (shapeB K C (fun r => decide (r = [.type "object"])) "object.__new__" && (nsB K (nsOf K C) f &&
  (match K.lookup f with
  | some ⟨.type c, _, _, _⟩ => decide (c = "function")
  | _ => false))))
theorem eqB_ok {K : PySem.W.Frag} {C f : Addr} (h : eqB K C f = true) : EqC K C f := by
  obtain ⟨h1, h⟩ := He.ba h
  obtain ⟨h2, h⟩ := He.ba h
  obtain ⟨h3, h⟩ := He.ba h
  obtain ⟨h4, h5⟩ := He.ba h
  obtain ⟨nm, q, N, bs, r, sn, sub, ab, col, dd, k0, k1, k2, k3, k5, e, er⟩ := shapeB_ok h3
  have er := of_decide_eq_true er
  subst er
  have eN : nsOf K C = N := by
    unfold nsOf
    rw [e]
  rw [eN] at h4
  obtain ⟨oN, es, ep, n1, n2, n3, n4, n5⟩ := nsB_ok h4
  have hf : ∃ oF, K.lookup f = some oF ∧ oF.cls = .type "function" := by
    split at h5
    · rename_i c od dt sl e
      exact ⟨_, e, congrArg Value.type (of_decide_eq_true h5)⟩
    · cases h5
  obtain ⟨oF, f1, f2⟩ := hf
  exact ⟨He.eqO_ok h1, h2, nm, q, N, bs, true, sn, sub, ab, col, dd, k0, k1, k2, k3, k5, "object.__new__", oN, oF, es, ep, e, n1, n2, n3, n4, n5, f1, f2⟩
def nilB (K : PySem.W.Frag) (t : Addr) : Bool := match K.lookup t with
  | some ⟨.type c, _, .seq its _, _⟩ => decide (c = "tuple") && decide (its.size = 0)
  | _ => false
theorem nilB_ok {K : PySem.W.Frag} {t : Addr} (h : nilB K t = true) (H : Hp) : SqT K H t [] := by
  unfold nilB at h
  split at h
  · rename_i c od its n sl e
    obtain ⟨h1, h2⟩ := He.ba h
    have z : its = #[] := Array.eq_empty_of_size_eq_zero (of_decide_eq_true h2)
    subst z
    exact .inr ⟨_, #[], n, e, congrArg Value.type (of_decide_eq_true h1), rfl, Nat.zero_le _, .nil⟩
  · cases h
def adOf (K : PySem.W.Frag) : Ad := ⟨He.ga K "BadMachine", He.ga K "Refused", He.ga K "TooGreat", He.ga K "NoState"⟩
/-! ### the names, the texts -/
abbrev dN0 : He.Defn := ("law", none)
abbrev dF (x : Str) (st : Stmt) : He.DefD := ⟨(x, none), x, x, defArgs st, defBody st, defScope st, [], []⟩
abbrev dM (C m q : Str) (st : Stmt) (ds : List He.Dv) : He.DefD := ⟨(C, some m), m, q, defArgs st, defBody st, defScope st, ds, []⟩
def fn : List He.DefD := [
  dF "is_number" s_is_number,
  dF "is_below" s_is_below,
  dF "is_sequence" s_is_sequence,
  dF "first_not_below" s_first_not_below,
  dF "_is_table" s_is_table,
  dF "need_state" s_need_state,
  dF "in_coming_order" s_in_coming_order,
  dF "reached" s_reached,
  dF "deed_pairs" s_deed_pairs,
  dF "apart_pairs" s_apart_pairs,
  dF "least_alone" s_least_alone,
  dF "_round_and_rest" s_round_and_rest,
  dF "_law_box" s_law_box,
  dF "_law_take" s_law_take,
  dF "_law_pick" s_law_pick,
  dF "_law_tables" s_law_tables,
  dF "_law_next" s_law_next,
  dF "_law_lots" s_law_lots,
  dF "_law_reached" s_law_reached,
  dF "_law_commute" s_law_commute,
  dF "_law_fault" s_law_fault,
  dF "_law_tell" s_law_tell,
  dF "_law_least_right" s_law_least_right,
  dF "_law_apart_right" s_law_apart_right,
  dF "law" s_law,
  dM "BadMachine" "__init__" "BadMachine.__init__" s_BadMachine_init [],
  dM "Refused" "__init__" "Refused.__init__" s_Refused_init [],
  dM "TooGreat" "__init__" "TooGreat.__init__" s_TooGreat_init [],
  dM "NoState" "__init__" "NoState.__init__" s_NoState_init [],
  dM "Machine" "__init__" "Machine.__init__" s_Machine_init []]
def fa : List He.Fa := [
  .glo "is_number", .glo "is_below", .glo "is_sequence", .glo "first_not_below", .glo "_is_table", .glo "need_state", .glo "in_coming_order", .glo "reached",
  .glo "deed_pairs", .glo "apart_pairs", .glo "least_alone", .glo "_round_and_rest", .glo "_law_box", .glo "_law_take", .glo "_law_pick", .glo "_law_tables",
  .glo "_law_next", .glo "_law_lots", .glo "_law_reached", .glo "_law_commute", .glo "_law_fault", .glo "_law_tell", .glo "_law_least_right", .glo "_law_apart_right",
  .glo "law", .glo "WitnessError", .glo "BadMachine", .glo "Refused", .glo "TooGreat", .glo "NoState", .glo "Machine", .free "KeyError",
  .free "ValueError", .free "abs", .free "all", .free "bool", .free "enumerate", .free "int", .free "isinstance", .free "len",
  .free "list", .free "max", .free "min", .free "range", .free "repr", .free "set", .free "sorted", .free "tuple",
  .int "DEEDS_MOST" 4, .int "STATES_MOST" 8, .cls "Machine", .mkr "Machine", .noat "Machine" "deeds", .noat "Machine" "states", .noat "Machine" "tables", .noat "BadMachine" "at",
  .noat "Refused" "at", .noat "TooGreat" "most", .noat "NoState" "state", .exm "Refused" "Refused" true, .exm "TooGreat" "Refused" false, .exm "TooGreat" "TooGreat" true, .exm "NoState" "Refused" false, .exm "NoState" "TooGreat" false,
  .exm "NoState" "NoState" true]
def tf : List He.Defn := [dN0]
def bools (K : PySem.W.Frag) : List Bool := [
  oexB K (He.ga K "BadMachine"),
  oexB K (He.ga K "Refused"),
  oexB K (He.ga K "TooGreat"),
  keyB K (He.ga K "NoState"),
  iniB K (He.ga K "BadMachine"),
  iniB K (He.ga K "Refused"),
  iniB K (He.ga K "TooGreat"),
  iniB K (He.ga K "NoState"),
  isiB K (He.ga K "Machine"),
  kitB K (.ref (He.ga K "Machine")) (.ref (He.ga K "Machine")) true,
  kitB K (.type "tuple") (.ref (He.ga K "Machine")) false,
  PySem.W.notFirst K (He.ga K "Machine") (.type "tuple"),
  excB K (He.ga K "Refused"),
  excB K (He.ga K "TooGreat"),
  excB K (He.ga K "NoState"),
  kitB K (.ref (He.ga K "Refused")) (.ref (He.ga K "WitnessError")) true,
  kitB K (.ref (He.ga K "TooGreat")) (.ref (He.ga K "WitnessError")) true,
  He.eqO (PySem.W.nsIn K mainGlobals "lcm") (some (some (.builtin "math.lcm"))),
  kitB K (.ref (He.ga K "NoState")) (.type "KeyError") true]
def ex (K : PySem.W.Frag) : Bool := (bools K).all id
theorem ex_at {K : PySem.W.Frag} (h : ex K = true) (i : Nat) {b : Bool} (e : (bools K)[i]? = some b) : b = true := List.all_eq_true.mp h b (List.mem_of_getElem? e)
/-! ### how arguments are bound -/
theorem vals_getD : ∀ {vs : List V} {us : List Value} (i : Nat), Vals vs us → RelV (vs.getD i .non) (us.getD i .none)
  | [], [], _, _ => rfl
  | _ :: _, _ :: _, 0, .cons h _ => h
  | _ :: _, _ :: _, i + 1, .cons _ h => by
    have := vals_getD i h
    simpa using this
section
variable {K : PySem.W.Frag} {x qual : Str} {params : Arguments} {body : List Stmt} {scope : Scope} {kws : List (Str × V)} {f : Addr} {fd : FuncData} {ps ks : List Str} {n : Nat}
theorem kbn_of {g : List Value → List Value → List Value} {gV : List V → List V → List V} (F : FunD K x qual params body scope [] kws f fd) (rel : ∀ {vs us zs ws}, Vals vs us → Vals zs ws → Vals (gV vs zs) (g us ws))
    (h : ∀ (kV doc pm : Value) (an : Option Addr) (cdv ct : Value) (us ws : List Value), us.length = n → ws.length = ks.length → bindArgs (PySem.W.fnOf x qual params body scope .none kV doc pm an cdv ct) ⟨us, ks.zip ws⟩ = pure (ps.zip (g us ws))) : KBn K fd ps n ks g gV := by
  obtain ⟨oc, od, dV, kV, doc, pm, an, cdv, ct, osl, rfl, lk, hcd, hD, -⟩ := F.ex
  rcases hD with ⟨-, rfl⟩ | ⟨e, -⟩
  · exact ⟨fun s us ws _ l1 l2 => .of_eq (h kV doc pm an cdv ct us ws l1 l2), rel⟩
  · exact absurd rfl e
/-- a def's code object -/
theorem code_of {p : Str × Option Str} {st : Stmt} {z : Str} (F : FnP K z st (He.fAd K p) fd) : fd.code = .ref (He.cT K p).1 := by
  obtain ⟨oc, od, dV, kV, doc, pm, an, cdv, ct, osl, rfl, lk, hcd, -, -⟩ := F.ex
  obtain ⟨c, rfl⟩ := He.codeIn_ref hcd
  show Value.ref c = .ref (He.codeOf K p)
  rw [He.codeOf_eq lk rfl]
end
end KJ
/-! the end -/
namespace KJ
open PySem PySem.Spec PyProof.Rows L2 Kx RZ
abbrev Rw : PySem.W.OpenRow := PySem.W.OpenLaw.row PySem.Challenge.rw_onewitness_k36_whole_least_counters_that
abbrev hk : PySem.W.Hook := He.hookX 5 fa fn [] tf ex
def ob (s : PySem.W.SharedT) : He.AlX := He.obsX 5 fa fn [] tf ex (HandSHeadRun.getT s)
theorem ob_eq (s : PySem.W.SharedT) : ob s = hk.obs s.abs := He.obsX_eq (HandSHeadRun.getT_eq s)
def others1 : List Str := ["WitnessError", "BadMachine", "Refused", "TooGreat", "NoState", "DEEDS_MOST", "STATES_MOST", "is_number", "is_below", "is_sequence", "first_not_below", "Machine", "_is_table", "need_state", "in_coming_order", "reached", "deed_pairs", "apart_pairs", "least_alone", "_round_and_rest", "_law_box", "_law_take", "_law_pick", "_law_tables", "_law_next", "_law_lots", "_law_reached", "_law_commute", "_law_fault", "_law_tell"]
def others2 : List Str := ["_law_least_right", "_law_apart_right"]
abbrev others : List Str := others1 ++ others2
theorem top_runs (w : World) : HandSHeadRun.RunEqI Rw (PySem.W.view Rw.prog [0, 40]) hk ob 8000 others w := by
  unfold HandSHeadRun.RunEqI
  kernel_rfl
end KJ
namespace KJ
open PySem PySem.Spec PyProof.Rows L2 Kx
section
variable {P : Program} {w : World} {K : PySem.W.Frag} {mg : Str → Option Value} {base : Heap} {f : Addr} {fd : FuncData} {a : Ad}
theorem passC {X : Cx} {W : WX} {E : XK} (tk : L2N.Takes X W) (h : ∀ cls d σ H, E cls d H → W cls d σ H) : Passes (L2N.CX X.prog X.w) X E := L2N.passes_call tk h
theorem inLen_some {l m : Int} {xs : List V} : inLen l m (some xs) = (decide (l ≤ (xs.length : Int)) && decide ((xs.length : Int) ≤ m)) := rfl
theorem optV_non {o : Option Nat} : decide (optV o = V.non) = o.isNone := by
  cases o with
  | none => rfl
  | some n => exact decide_eq_false (fun z => nomatch z)
theorem sc_first_not_below : FnScope ["values", "limit", "at", "value"] ["values", "limit"] (defScope s_first_not_below) := ⟨rfl, rfl, rfl, by decide +kernel, rfl, by decide +kernel, by decide +kernel⟩
theorem ok_first_not_below (F : FnP K "first_not_below" s_first_not_below f fd) (T : Mg mg) (c_is_below : Cal P w K mg base CX0 2 "is_below" ["value", "limit"] (spBelow K)) : FnOk P w K mg base CX0 3 f fd ["values", "limit"] (spFnb K) := by
  refine F.ok sc_first_not_below (fun vs H Q E h => ?_) (fun cdv A outer s H vs Q E hr h => ?_)
  · obtain ⟨a, xs, l, rfl, _⟩ := h
    rfl
  · obtain ⟨a, xs, l, rfl, hx, hk, k⟩ := h
    refine ⟨_, PSs.nox (pss_cons (ps_for PassesOwn.never rfl (pi_pairs (by rfl) T.z_enumerate (pa_cons (pv 0) pa_nil)) (pg_tup rfl (pgs_cons (pg_name (i := 2) sc_first_not_below.nd rfl (by first | exact Or.inl rfl | exact Or.inr rfl)) (pgs_cons (pg_name (i := 3) sc_first_not_below.nd rfl (by first | exact Or.inl rfl | exact Or.inr rfl)) pgs_nil)))
        (pss_one (ps_if (pt_not (pt_val (pe_callC c_is_below hr pass0 (pa_cons (pv 3) (pa_cons (pv 1) pa_nil)))))
          (pss_one (ps_ret (pv 2)))
          pss_nil)))
      (pss_one (ps_ret pe_non))), ?_⟩
    refine ⟨_, rfl, a, xs, rfl, for_pairs hx (fun i σ' H' => ∃ x y, σ' = [some (.ref a), some (.int l), x, y] ∧ Same H H' ∧ ∀ j z, j < i → xs[j]? = some z → isBel l z = true) ⟨_, _, rfl, Same.refl H, fun j z hj => absurd hj (Nat.not_lt_zero j)⟩ (fun i σ' H' q => q.elim fun _ q => q.elim fun _ q => q.2.1) ?_ ?_⟩
    · rintro i x p σ' H' hx' ⟨_, _, rfl, e, hl⟩ hp
      refine ⟨p, _, rfl, SqT.of upd_same, rfl, ?_⟩
      refine ⟨_, _, rfl, _, _, rfl, rfl, ?_⟩
      refine ⟨x, rfl, _, rfl, x, l, rfl, ((hk x (List.mem_of_getElem? hx')).same e).same (same_new hp), isBel l x, rfl, ?_⟩
      cases eb : isBel l x with
      | true =>
        refine iteF ⟨_, _, rfl, e.trans (same_new hp), fun j z hj hz => ?_⟩
        rcases Nat.lt_or_eq_of_le (Nat.le_of_lt_succ hj) with h | rfl
        · exact hl j z h hz
        · rw [hx'] at hz
          cases hz
          exact eb
      | false =>
        refine iteT ⟨_, rfl, ?_⟩
        rw [fnb_some (i := i) hl ⟨x, hx', eb⟩] at k
        exact k _ (e.trans (same_new hp))
    · rintro σ' H' ⟨_, _, rfl, e, hl⟩
      have := k _ e
      rw [fnb_none.mpr fun x hx => by
        obtain ⟨j, hj⟩ := List.getElem?_of_mem (hx : x ∈ xs)
        exact hl j x (List.getElem?_eq_some_iff.mp hj).1 hj] at this
      exact this
end
end KJ
/-! comprehensions whose list is known ahead, item by item -/
namespace Kx
open L2 PySem PySem.Spec PyProof.Rows
/-- i items of out are made, at D -/
def Part (H1 : Hp) (D : Addr) (out : List V) (i : Nat) (H : Hp) : Prop := H D = some (.lst (out.take i)) ∧ Same H1 H
section
variable {H1 H H' : Hp} {D : Addr} {out : List V} {i : Nat} {y : V}
theorem Part.zero (hD : H1 D = none) : Part H1 D out 0 (upd H1 D (.lst [])) := ⟨upd_same, same_new hD⟩
theorem Part.step (p : Part H1 D out i H) (hD : H1 D = none) (e : Same H H') (hy : out[i]? = some y) (fits : out.length ≤ sizeLine) :
    ∃ acc, H' D = some (.lst acc) ∧ acc.length < sizeLine ∧ Part H1 D out (i + 1) (upd H' D (.lst (acc ++ [y]))) := by
  have lt := (List.getElem?_eq_some_iff.mp hy).1
  refine ⟨_, e _ _ p.1, by rw [List.length_take]; omega, ?_, fun b o hb => ?_⟩
  · rw [upd_same, List.take_add_one, hy] <;> rfl
  · rw [upd_ne (ne_of_none hb hD)]
    exact e _ _ (p.2 _ _ hb)
theorem Part.done {n : Nat} (p : Part H1 D out n H) (h : out.length ≤ n) : H D = some (.lst out) ∧ Same H1 H := by
  have q := p.1
  rw [List.take_of_length_le h] at q
  exact ⟨q, p.2⟩
end
theorem yes {σ : L2.St} {H : Hp} {Q : Bool → Hp → Prop} (h : Q true H) : tYes σ H Q := h
/-- a comprehension's W by a word of the turn -/
theorem lc_by {J : It} {n : Nat} {g : TG} {tt : TT} {te : TE} {vs : List Nat} {σ : L2.St} {Q : VK} {D : Addr} {H0 : Hp} (Pv : Nat → Hp → Prop) (h0 : Pv 0 H0)
    (go : ∀ i H, i < n → Pv i H → J.go i H ∧ ∀ x H', J.yld i H x H' → g x (wipe σ vs) H' fun σ2 H2 => wipe σ2 vs = wipe σ vs ∧ tt σ2 H2 fun b H3 =>
      if b = true then te σ2 H3 fun y H4 => ∃ acc, H4 D = some (.lst acc) ∧ acc.length < sizeLine ∧ Pv (i + 1) (upd H4 D (.lst (acc ++ [y]))) else Pv (i + 1) H3)
    (stop : ∀ H, Pv n H → J.stop n H ∧ Q (.ref D) H) :
    ∃ W : Nat → Nat → Hp → Prop, (∃ m, W 0 m H0) ∧ ∀ i m H, W i m H → (J.stop i H ∧ Q (.ref D) H) ∨ (J.go i H ∧ ∃ Nx : Hp → Prop, (∀ H', Nx H' → ∃ m', m' < m ∧ W (i + 1) m' H') ∧ ∀ x H', J.yld i H x H' → g x (wipe σ vs) H' fun σ2 H2 => wipe σ2 vs = wipe σ vs ∧ tt σ2 H2 fun b H3 =>
      if b = true then te σ2 H3 (fun y H4 => ∃ acc, H4 D = some (.lst acc) ∧ acc.length < sizeLine ∧ Nx (upd H4 D (.lst (acc ++ [y])))) else Nx H3) := by
  refine ⟨fun i m H => m = n - i ∧ i ≤ n ∧ Pv i H, ⟨n, rfl, Nat.zero_le n, h0⟩, ?_⟩
  rintro i m H ⟨rfl, le, p⟩
  rcases Nat.lt_or_eq_of_le le with lt | rfl
  · obtain ⟨g1, g2⟩ := go i H lt p
    exact .inr ⟨g1, Pv (i + 1), fun H' p' => ⟨n - (i + 1), by omega, rfl, lt, p'⟩, g2⟩
  · exact .inl (stop H p)
/-- the same for any body of the turn -/
theorem turns {J : It} {n : Nat} {Z : Hp → Prop} {H0 : Hp} {B : (Hp → Prop) → V → Hp → Prop} (Pv : Nat → Hp → Prop) (h0 : Pv 0 H0) (go : ∀ i H, i < n → Pv i H → J.go i H ∧ ∀ x H', J.yld i H x H' → B (Pv (i + 1)) x H') (stop : ∀ H, Pv n H → J.stop n H ∧ Z H) :
    ∃ W : Nat → Nat → Hp → Prop, (∃ m, W 0 m H0) ∧ ∀ i m H, W i m H → (J.stop i H ∧ Z H) ∨ (J.go i H ∧ ∃ Nx : Hp → Prop, (∀ H', Nx H' → ∃ m', m' < m ∧ W (i + 1) m' H') ∧ ∀ x H', J.yld i H x H' → B Nx x H') := by
  refine ⟨fun i m H => m = n - i ∧ i ≤ n ∧ Pv i H, ⟨n, rfl, Nat.zero_le n, h0⟩, ?_⟩
  rintro i m H ⟨rfl, le, p⟩
  rcases Nat.lt_or_eq_of_le le with lt | rfl
  · obtain ⟨g1, g2⟩ := go i H lt p
    exact .inr ⟨g1, Pv (i + 1), fun H' p' => ⟨n - (i + 1), by omega, rfl, lt, p'⟩, g2⟩
  · exact .inl (stop H p)
/-- t + u, any tuples -/
def rCatS (K : PySem.W.Frag) : R2 := fun x y H Q => ∃ (a b : Addr) (xs ys : List V), x = .ref a ∧ y = .ref b ∧ SqT K H a xs ∧ SqT K H b ys ∧ xs.length + ys.length ≤ sizeLine ∧ ∀ p H', Same H H' → SqT K H' p (xs ++ ys) → Q (.ref p) H'
theorem op_catS {X : Cx} {K : PySem.W.Frag} (hK : X.K = K := by rfl) : OpR X (binaryOp .Add) (rCatS K) := by
  subst hK
  intro pins st σ H x y v u Q I rx ry h
  obtain ⟨a, b, xs, ys, rfl, rfl, h1, h2, fits, key⟩ := h
  refine op_catA pins st σ H _ _ v u Q I rx ry ⟨a, b, xs, ys, rfl, rfl, h1, h2, fits, fun e => ?_, fun _ e => ?_, fun _ _ p hp => key p _ (same_new hp) (SqT.of upd_same)⟩
  · subst e
    exact key b H (Same.refl H) h2
  · subst e
    exact key a H (Same.refl H) (by rw [List.append_nil]; exact h1)
end Kx
/-! machines are made, compared -/
namespace KJ
open PySem PySem.Spec PyProof.Rows L2 Kx
theorem r64 {k : Nat} {A : Around} (r : Room k A) : A.units + 64 < cLine := by have := r.un; omega
theorem fnb_ints {l : Int} : ∀ {xs : List V}, fnb l xs = none → ∃ ns : List Int, xs = ns.map V.int ∧ ∀ n ∈ ns, 0 ≤ n ∧ n < l
  | [], _ => ⟨[], rfl, fun _ h => nomatch h⟩
  | x :: xs, h => by
    have h' := fnb_none.mp h
    obtain ⟨ns, rfl, hn⟩ := fnb_ints (xs := xs) (fnb_none.mpr fun y hy => h' y (List.mem_cons_of_mem _ hy))
    have hx := h' x (List.mem_cons_self ..)
    cases x with
    | int i =>
      have hx : (decide (0 ≤ i) && decide (i < l)) = true := hx
      rw [Bool.and_eq_true] at hx
      refine ⟨i :: ns, rfl, fun n hn' => (List.mem_cons.mp hn').elim (fun e => ?_) (hn n)⟩
      subst e
      exact ⟨of_decide_eq_true hx.1, of_decide_eq_true hx.2⟩
    | _ => exact absurd hx Bool.false_ne_true
theorem fnb_of {l : Int} {ns : List Int} (h : ∀ n ∈ ns, 0 ≤ n ∧ n < l) : fnb l (ns.map V.int) = none := fnb_none.mpr fun x hx => by
  obtain ⟨n, hn, rfl⟩ := List.mem_map.mp hx
  show (decide (0 ≤ n) && decide (n < l)) = true
  rw [decide_eq_true (h n hn).1, decide_eq_true (h n hn).2]
  rfl
theorem tup_of {K : PySem.W.Frag} {H : Hp} {a : Addr} {xs : List V} {Q : VK} (q : Sq K H a xs) (key : ∀ p H', Same H H' → SqT K H' p xs → Q (.ref p) H') : (SqL K H a xs ∧ ∀ l, H l = none → Q (.ref l) (upd H l (.tup xs))) ∨ (SqT K H a xs ∧ Q (.ref a) H) :=
  q.imp (fun q => ⟨q, fun l hl => key l _ (same_new hl) (SqT.of upd_same)⟩) fun q => ⟨q, key a H (Same.refl H) q⟩
theorem call_tup {X : Cx} : CallR X (.type "tuple") (fun xs H Q => ∃ p ys, xs = [.ref p] ∧ Sq X.K H p ys ∧ ∀ q H', Same H H' → SqT X.K H' q ys → Q (.ref q) H') := fun pins s σ H vs us Q I r ⟨p, ys, e, q, key⟩ =>
  call_tuple_of pins s σ H vs us Q I r ⟨p, ys, e, tup_of q key⟩
theorem rd_ins {H : Hp} {x a C dx : Addr} {fs gs : List (Str × V)} {u : HO} (hx : H x = some (.ins C dx fs)) (n1 : ∀ C dx fs, u ≠ .ins C dx fs) (q : Rd H a u) : Rd (upd H x (.ins C dx gs)) a u :=
  q.elim (fun q => .inl (by rw [upd_ne (ne_of q hx (n1 _ _ _))]; exact q)) fun ⟨z, q⟩ => .inr ⟨z, by rw [upd_ne (ne_of q hx (fun z => nomatch z))]; exact q⟩
theorem sqL_ins {K : PySem.W.Frag} {H : Hp} {x a C dx : Addr} {fs gs : List (Str × V)} {xs : List V} (hx : H x = some (.ins C dx fs)) (h : SqL K H a xs) : SqL K (upd H x (.ins C dx gs)) a xs := h.imp (rd_ins hx fun _ _ _ z => nomatch z) id
theorem sqT_ins {K : PySem.W.Frag} {H : Hp} {x a C dx : Addr} {fs gs : List (Str × V)} {xs : List V} (hx : H x = some (.ins C dx fs)) (h : SqT K H a xs) : SqT K (upd H x (.ins C dx gs)) a xs := h.imp (rd_ins hx fun _ _ _ z => nomatch z) id
theorem sq_ins {K : PySem.W.Frag} {H : Hp} {x a C dx : Addr} {fs gs : List (Str × V)} {xs : List V} (hx : H x = some (.ins C dx fs)) (h : Sq K H a xs) : Sq K (upd H x (.ins C dx gs)) a xs := h.imp (sqL_ins hx) (sqT_ins hx)
theorem tru_sq {K : PySem.W.Frag} {H : Hp} {b : Addr} {xs : List V} (h : Sq K H b xs) : TruV K (.ref b) H (!xs.isEmpty) := h.elim (fun h => .inl ⟨xs, h, rfl⟩) fun h => .inr (.inl ⟨xs, h, rfl⟩)
theorem sqT_lst {K : PySem.W.Frag} {H : Hp} {D : Addr} {u u' : List V} {q : Addr} {xs : List V} (hD : H D = some (.lst u)) (h : SqT K H q xs) : SqT K (upd H D (.lst u')) q xs := by
  refine h.imp (fun h => ?_) id
  rcases h with h | ⟨z, h⟩
  · exact .inl (by rw [upd_ne (ne_of h hD (fun z => nomatch z))]; exact h)
  · exact .inr ⟨z, by rw [upd_ne (ne_of h hD (fun z => nomatch z))]; exact h⟩
/-- tables that a machine may have: n states -/
structure Mok (n : Nat) (ts : List (List Int)) : Prop where
  l1 : 1 ≤ ts.length
  l4 : ts.length ≤ 4
  n1 : 1 ≤ n
  n8 : n ≤ 8
  len : ∀ t ∈ ts, t.length = n
  ent : ∀ t ∈ ts, ∀ x ∈ t, 0 ≤ x ∧ x < (n : Int)
/-- rows stand at these places -/
def RowsBy (R : Addr → List V → Prop) : List V → List (List Int) → Prop
  | [], [] => True
  | v :: vs, t :: ts => (∃ q, v = .ref q ∧ R q (t.map V.int)) ∧ RowsBy R vs ts
  | _, _ => False
theorem RowsBy.imp {R S : Addr → List V → Prop} (e : ∀ q xs, R q xs → S q xs) : ∀ {vs : List V} {ts : List (List Int)}, RowsBy R vs ts → RowsBy S vs ts
  | [], [], _ => trivial
  | _ :: _, _ :: _, ⟨⟨q, h1, h2⟩, h⟩ => ⟨⟨q, h1, e _ _ h2⟩, RowsBy.imp e h⟩
  | [], _ :: _, h => h.elim
  | _ :: _, [], h => h.elim
theorem RowsBy.length {R : Addr → List V → Prop} : ∀ {vs : List V} {ts : List (List Int)}, RowsBy R vs ts → vs.length = ts.length
  | [], [], _ => rfl
  | _ :: _, _ :: _, ⟨_, h⟩ => congrArg Nat.succ (RowsBy.length h)
  | [], _ :: _, h => h.elim
  | _ :: _, [], h => h.elim
theorem RowsBy.at_ {R : Addr → List V → Prop} : ∀ {vs : List V} {ts : List (List Int)} {i : Nat} {t : List Int}, RowsBy R vs ts → ts[i]? = some t → ∃ q, vs[i]? = some (.ref q) ∧ R q (t.map V.int)
  | _ :: _, _ :: _, 0, t, ⟨⟨q, h1, h2⟩, _⟩, e => by
    simp at e
    subst e
    exact ⟨q, by simp [h1], h2⟩
  | _ :: _, _ :: _, i + 1, t, ⟨_, h⟩, e => by
    obtain ⟨q, h1, h2⟩ := RowsBy.at_ (i := i) h (by simpa using e)
    exact ⟨q, by simpa using h1, h2⟩
  | [], [], _, _, _, e => by simp at e
  | [], _ :: _, _, _, h, _ => h.elim
  | _ :: _, [], _, _, h, _ => h.elim
theorem RowsBy.snoc {R : Addr → List V → Prop} {q : Addr} {t : List Int} (hq : R q (t.map V.int)) : ∀ {vs : List V} {ts : List (List Int)}, RowsBy R vs ts → RowsBy R (vs ++ [.ref q]) (ts ++ [t])
  | [], [], _ => ⟨⟨q, rfl, hq⟩, trivial⟩
  | _ :: _, _ :: _, ⟨h1, h⟩ => ⟨h1, RowsBy.snoc hq h⟩
  | [], _ :: _, h => h.elim
  | _ :: _, [], h => h.elim
structure McAt (K : PySem.W.Frag) (CM : Addr) (H : Hp) (m : Addr) (n : Nat) (ts : List (List Int)) : Prop where
  ok : Mok n ts
  ex : ∃ dx t ps, H m = some (.ins CM dx [("deeds", .int (ts.length : Int)), ("states", .int (n : Int)), ("tables", .ref t)]) ∧ SqT K H t ps ∧ RowsBy (SqT K H) ps ts
theorem McAt.same {K : PySem.W.Frag} {CM : Addr} {H H' : Hp} {m : Addr} {n : Nat} {ts : List (List Int)} (e : Same H H') (h : McAt K CM H m n ts) : McAt K CM H' m n ts := by
  obtain ⟨ok, dx, t, ps, h1, h2, h3⟩ := h
  exact ⟨ok, dx, t, ps, e _ _ h1, sqT_same e h2, h3.imp fun _ _ q => sqT_same e q⟩
structure ClsM (K : PySem.W.Frag) (mg : Str → Option Value) (CM : Addr) : Prop where
  at_ : mg "Machine" = some (.ref CM)
  cl : Cls K CM
  n1 : NoAttr K CM "deeds"
  n2 : NoAttr K CM "states"
  n3 : NoAttr K CM "tables"
  isi : SlX.SIsi K CM
  yes : PySem.W.kitOne K (.ref CM) (.ref CM) = some true
  notT : PySem.W.kitOne K (.type "tuple") (.ref CM) = some false
  first : PySem.W.notFirst K CM (.type "tuple") = true
/-- a table of n states -/
def isTab (n : Nat) : Option (List V) → Bool
  | some ys => inLen 1 8 (some ys) && (decide (ys.length = n) && (fnb ys.length ys).isNone)
  | none => false
theorem isTab_some {n : Nat} {ys : List V} : isTab n (some ys) = (inLen 1 8 (some ys) && (decide (ys.length = n) && (fnb ys.length ys).isNone)) := rfl
def spTable (K : PySem.W.Frag) : Sp := fun vs H Q _ => ∃ (v like : V) (o : Option (List V)) (n : Nat), vs = [v, like] ∧ Long K H v o ∧ Kns K H o 8 ∧ (inLen 1 8 o = true → ∃ c zs, like = .ref c ∧ Sq K H c zs ∧ zs.length = n) ∧ ∀ H', Same H H' → Q (.bl (isTab n o)) H'
/-- the first that is no table -/
def badTab (n : Nat) : List (Option (List V)) → Option Nat
  | [] => none
  | o :: os => if isTab n o = true then (badTab n os).map (· + 1) else some 0
theorem badTab_none {n : Nat} : ∀ {os : List (Option (List V))}, badTab n os = none ↔ ∀ o ∈ os, isTab n o = true
  | [] => by simp [badTab]
  | o :: os => by
    unfold badTab
    by_cases h : isTab n o = true
    · rw [if_pos h, Option.map_eq_none_iff, badTab_none]
      exact ⟨fun q y hy => (List.mem_cons.mp hy).elim (fun e => e ▸ h) (q y), fun q y hy => q y (List.mem_cons_of_mem _ hy)⟩
    · rw [if_neg h]
      exact ⟨fun q => (nomatch q), fun q => absurd (q o (List.mem_cons_self ..)) h⟩
theorem badTab_some {n : Nat} : ∀ {os : List (Option (List V))} {i : Nat}, (∀ j o, j < i → os[j]? = some o → isTab n o = true) → (∃ o, os[i]? = some o ∧ isTab n o = false) → badTab n os = some i
  | [], i, _, h => by obtain ⟨x, h, _⟩ := h; simp at h
  | x :: xs, 0, _, h => by
    obtain ⟨y, h1, h2⟩ := h
    have e : x = y := by simpa using h1
    unfold badTab
    rw [e, if_neg (by rw [h2]; exact Bool.false_ne_true)]
  | x :: xs, i + 1, hl, h => by
    unfold badTab
    rw [if_pos (hl 0 x (Nat.succ_pos i) rfl), badTab_some (i := i) (fun j y hj hy => hl (j + 1) y (Nat.succ_lt_succ hj) (by simpa using hy)) (by simpa using h)]
    rfl
/-- what the items are as sequences -/
def Items (K : PySem.W.Frag) (H : Hp) : List V → List (Option (List V)) → Prop
  | [], [] => True
  | v :: vs, o :: os => (Long K H v o ∧ Kns K H o 8) ∧ Items K H vs os
  | _, _ => False
theorem Items.at_ {K : PySem.W.Frag} {H : Hp} : ∀ {vs : List V} {os : List (Option (List V))} {i : Nat} {v : V}, Items K H vs os → vs[i]? = some v → ∃ o, os[i]? = some o ∧ Long K H v o ∧ Kns K H o 8
  | _ :: _, _ :: _, 0, v, ⟨h1, _⟩, e => by
    simp at e
    subst e
    exact ⟨_, rfl, h1⟩
  | _ :: _, _ :: _, i + 1, v, ⟨_, h⟩, e => by
    obtain ⟨o, h1, h2⟩ := Items.at_ (i := i) h (by simpa using e)
    exact ⟨o, by simpa using h1, h2⟩
  | [], [], _, _, _, e => by simp at e
  | [], _ :: _, _, _, h, _ => h.elim
  | _ :: _, [], _, _, h, _ => h.elim
/-- the number of the first's items -/
def lenAt (os : List (Option (List V))) : Nat := match os[0]? with
  | some (some ys) => ys.length
  | _ => 0
theorem tabs_of {K : PySem.W.Frag} {H : Hp} {n : Nat} : ∀ {vs : List V} {os : List (Option (List V))}, Items K H vs os → (∀ o ∈ os, isTab n o = true) → ∃ ts : List (List Int), os = ts.map (fun t => some (t.map V.int)) ∧ RowsBy (Sq K H) vs ts ∧ (∀ t ∈ ts, t.length = n) ∧ ∀ t ∈ ts, ∀ x ∈ t, 0 ≤ x ∧ x < (n : Int)
  | [], [], _, _ => ⟨[], rfl, trivial, (fun t h => nomatch h), (fun t h => nomatch h)⟩
  | v :: vs, o :: os, ⟨⟨h1, _⟩, h⟩, all => by
    obtain ⟨ts, e, r, l, b⟩ := tabs_of h fun o ho => all o (List.mem_cons_of_mem _ ho)
    have z := all o (List.mem_cons_self ..)
    cases h1 with
    | @seq a ys q =>
      rw [isTab_some, Bool.and_eq_true, Bool.and_eq_true] at z
      have len := of_decide_eq_true z.2.1
      obtain ⟨ns, en, hn⟩ := fnb_ints (Option.isNone_iff_eq_none.mp z.2.2)
      subst en
      refine ⟨ns :: ts, by rw [e]; rfl, ⟨⟨a, rfl, q⟩, r⟩, fun t ht => ?_, fun t ht => ?_⟩
      · rcases List.mem_cons.mp ht with rfl | ht
        · rw [← len, List.length_map]
        · exact l t ht
      · rcases List.mem_cons.mp ht with rfl | ht
        · intro x hx
          have := hn x hx
          rw [len] at this
          exact this
        · exact b t ht
    | _ => cases z
  | [], _ :: _, h, _ => h.elim
  | _ :: _, [], h, _ => h.elim
section
variable {P : Program} {w : World} {K : PySem.W.Frag} {mg : Str → Option Value} {base : Heap} {f : Addr} {fd : FuncData} {a : Ad} {CM : Addr}
theorem sc_is_table : FnScope ["value", "like"] ["value", "like"] (defScope s_is_table) := ⟨rfl, rfl, rfl, by decide +kernel, rfl, by decide +kernel, by decide +kernel⟩
theorem ok_is_table (F : FnP K "_is_table" s_is_table f fd) (T : Mg mg) (c_is_sequence : Cal P w K mg base CX0 1 "is_sequence" ["value", "least", "most"] (spSeq K)) (c_first_not_below : Cal P w K mg base CX0 3 "first_not_below" ["values", "limit"] (spFnb K)) : FnOk P w K mg base CX0 4 f fd ["value", "like"] (spTable K) := by
  refine F.ok sc_is_table (fun vs H Q E h => ?_) (fun cdv A outer s H vs Q E hr h => ?_)
  · obtain ⟨v, like, o, n, rfl, _⟩ := h
    rfl
  · obtain ⟨v, like, o, n, rfl, hv, hk, hl, k⟩ := h
    refine ⟨_, PSs.nox (pss_cons (ps_if (pt_not (pt_val (pe_callC c_is_sequence hr pass0 (pa_cons (pv 0) (pa_cons pe_int (pa_cons (pe_constI T.g_STATES_MOST) pa_nil))))))
        (pss_one (ps_ret pe_bl))
        pss_nil)
      (pss_one (ps_ret (pe_and (pe_cmpR op_eq (pe_callB call_len_seq (by rfl) T.z_len PySem.boot_len (pa_cons (pv 0) pa_nil)) (pe_callB call_len_seq (by rfl) T.z_len PySem.boot_len (pa_cons (pv 1) pa_nil)) (nomark _)) (pe_one (pe_cmpR op_isN (pe_callC c_first_not_below hr pass0 (pa_cons (pv 0) (pa_cons (pe_callB call_len_seq (by rfl) T.z_len PySem.boot_len (pa_cons (pv 0) pa_nil)) pa_nil))) pe_non (nomark _))))))), ?_⟩
    refine ⟨_, rfl, v, 1, 8, o, rfl, hv, fun H1 e1 => ⟨inLen 1 8 o, rfl, ?_⟩⟩
    cases i1 : inLen 1 8 o with
    | false =>
      have z : isTab n o = false := by
        cases o with
        | none => rfl
        | some ys => rw [isTab_some, i1] <;> rfl
      rw [z] at k
      exact iteT (k H1 e1)
    | true =>
      refine iteF ?_
      obtain ⟨c, zs, rfl, hc, hn⟩ := hl i1
      cases hv with
      | @seq b ys hb =>
        rw [isTab_some, i1] at k
        have l8 : ys.length ≤ 8 := by
          rw [inLen_some, Bool.and_eq_true] at i1
          have := of_decide_eq_true i1.2
          omega
        refine ⟨_, rfl, b, ys, rfl, hb.same e1, _, rfl, c, zs, rfl, hc.same e1, rfl, ?_⟩
        have ed : decide (V.int (ys.length : Int) = V.int (zs.length : Int)) = decide (ys.length = n) := by
          rw [hn, Bool.eq_iff_iff, decide_eq_true_eq, decide_eq_true_eq]
          exact ⟨fun z => by injection z with z; omega, fun z => by rw [z]⟩
        rw [ed]
        refine ⟨_, rfl, ?_⟩
        cases en : decide (ys.length = n) with
        | false =>
          rw [en] at k
          exact iteF (k H1 e1)
        | true =>
          rw [en] at k
          refine iteT ?_
          refine ⟨_, rfl, _, rfl, b, ys, rfl, hb.same e1, b, ys, _, rfl, hb.same e1, fun x hx => (hk _ rfl l8 x hx).same e1, fun H2 e2 => ⟨rfl, ?_⟩⟩
          have k2 := k _ (e1.trans e2)
          rw [← optV_non] at k2
          exact k2
      | _ => cases i1
end
end KJ
/-! machines are made, compared -/
namespace KJ
open L2 PySem PySem.Spec PyProof.Rows Kx
def spMachine (K : PySem.W.Frag) (a : Ad) (CM : Addr) : Sp := fun vs H Q E => ∃ (x dx : Addr) (v : V) (o : Option (List V)), vs = [.ref x, v] ∧ H x = some (.ins CM dx []) ∧ Long K H v o ∧ (inLen 1 4 o = false → Thrown E H a.cM "at" (.int (-1))) ∧
  ∀ xs, o = some xs → inLen 1 4 o = true → ∃ os, Items K H xs os ∧ (∀ i, badTab (lenAt os) os = some i → Thrown E H a.cM "at" (.int (i : Int))) ∧
    (badTab (lenAt os) os = none → ∀ n ts, Mok n ts → os = ts.map (fun t => some (t.map V.int)) → ∀ H', (∀ b o, b ≠ x → H b = some o → H' b = some o) → McAt K CM H' x n ts → Q .non H')
/-- tuple(xs) in a comprehension -/
theorem call_tupK {X : Cx} {K : PySem.W.Frag} (hK : X.K = K := by rfl) : CallR X (.type "tuple") (fun xs H Q => ∃ p ys, xs = [.ref p] ∧ Sq K H p ys ∧ ∀ q H', Same H H' → SqT K H' q ys → Q (.ref q) H') := by
  subst hK
  exact call_tup
theorem Items.length {K : PySem.W.Frag} {H : Hp} : ∀ {vs : List V} {os : List (Option (List V))}, Items K H vs os → vs.length = os.length
  | [], [], _ => rfl
  | _ :: _, _ :: _, ⟨_, h⟩ => congrArg Nat.succ (Items.length h)
  | [], _ :: _, h => h.elim
  | _ :: _, [], h => h.elim
theorem ints_map {xs ys : List (List Int)} (h : xs.map (fun t => some (t.map V.int)) = ys.map (fun t => some (t.map V.int))) : xs = ys := by
  have inj : ∀ {a b : List Int}, a.map V.int = b.map V.int → a = b := fun {a b} h => by
    have := congrArg (List.map fun v => match v with | V.int i => i | _ => 0) h
    simpa [Function.comp_def] using this
  induction xs generalizing ys with
  | nil => cases ys with
    | nil => rfl
    | cons _ _ => cases h
  | cons x xs ih => cases ys with
    | nil => cases h
    | cons y ys =>
      rw [List.map_cons, List.map_cons] at h
      injection h with h1 h2
      rw [inj (Option.some.inj h1), ih h2]
section
variable {P : Program} {w : World} {K : PySem.W.Frag} {mg : Str → Option Value} {base : Heap} {f : Addr} {fd : FuncData} {a : Ad} {CM : Addr}
theorem sc_machine : FnScope ["self", "tables", "at", "table"] ["self", "tables"] (defScope s_Machine_init) := ⟨rfl, rfl, rfl, by decide +kernel, rfl, by decide +kernel, by decide +kernel⟩
theorem ok_machine (F : FunD K "__init__" "Machine.__init__" (defArgs s_Machine_init) (defBody s_Machine_init) (defScope s_Machine_init) [] [] f fd) (T : Mg mg) (R : Er P w K mg base a) (TM : ClsM K mg CM)
    (c_is_sequence : Cal P w K mg base CX0 1 "is_sequence" ["value", "least", "most"] (spSeq K)) (c__is_table : Cal P w K mg base CX0 4 "_is_table" ["value", "like"] (spTable K)) : FnOk P w K mg base (L2N.CX P w) 5 f fd ["self", "tables"] (spMachine K a CM) := by
  refine F.ok sc_machine (fun vs H Q E h => ?_) (fun cdv A outer s H vs Q E hr h => ?_)
  · obtain ⟨x, dx, v, o, rfl, _⟩ := h
    rfl
  · obtain ⟨x, dx, v, o, rfl, hx, hv, far, near⟩ := h
    refine ⟨_, (pss_cons (ps_if (pt_not (pt_val (pe_callC c_is_sequence hr pass0 (pa_cons (pv 1) (pa_cons pe_int (pa_cons (pe_constI T.g_DEEDS_MOST) pa_nil))))))
        (pss_one (psN R.BadMachine rfl hr (L2N.takes_of rfl rfl rfl rfl) (pa_cons (pe_un un_neg pe_int) pa_nil)))
        pss_nil)
      (pss_cons (ps_for (passes_of rfl) rfl (pi_pairs (by rfl) T.z_enumerate (pa_cons (pv 1) pa_nil)) (pg_tup rfl (pgs_cons (pg_name (i := 2) sc_machine.nd rfl (by first | exact Or.inl rfl | exact Or.inr rfl)) (pgs_cons (pg_name (i := 3) sc_machine.nd rfl (by first | exact Or.inl rfl | exact Or.inr rfl)) pgs_nil)))
        (pss_one (ps_if (pt_not (pt_val (pe_callC c__is_table hr pass0 (pa_cons (pv 3) (pa_cons (pe_ix ix_seq (pv 1) pe_int (fun _ _ => rfl)) pa_nil)))))
          (pss_one (psN R.BadMachine rfl hr (L2N.takes_of rfl rfl rfl rfl) (pa_cons (pv 2) pa_nil)))
          pss_nil)))
      (PSs.nox (pss_cons (ps_fld (pv 0) (pe_callB call_len_seq (by rfl) T.z_len PySem.boot_len (pa_cons (pv 1) pa_nil)) rfl)
      (pss_cons (ps_fld (pv 0) (pe_callB call_len_seq (by rfl) T.z_len PySem.boot_len (pa_cons (pe_ix ix_seq (pv 1) pe_int (fun _ _ => rfl)) pa_nil)) rfl)
      (pss_one (ps_fld (pv 0) (pe_callTy call_tup (by rfl) T.z_tuple (by decide +kernel) (pa_cons (pe_lc (own := [("table", 3)]) (by rfl) sc_machine.nd (pi_any (pv 1)) (blkOk_by (own := [("table", 3)]) (N := ["self", "tables", "at", "table"]) (sc := defScope s_Machine_init) (by decide +kernel))
        (fun _ _ _ _ _ => pg_name (i := 3) sc_machine.nd rfl (by first | exact Or.inl rfl | exact Or.inr rfl)) (fun _ _ _ _ _ => pts_nil) (fun _ _ _ _ _ => pe_callTy (call_tupK (K := K)) (by rfl) T.z_tuple bt_tuple (pa_cons (pv 3) pa_nil))) pa_nil)) rfl))))))), ?_⟩
    refine ⟨_, rfl, v, 1, 4, o, rfl, hv, fun H1 e1 => ⟨inLen 1 4 o, rfl, ?_⟩⟩
    cases i1 : inLen 1 4 o with
    | false => exact iteT ⟨1, rfl, thrownN ((far i1).same e1).at_⟩
    | true =>
      refine iteF ?_
      cases hv with
      | @seq b xs hb =>
        obtain ⟨os, it, bad, good⟩ := near xs rfl i1
        have len := it.length
        have l4 : 1 ≤ xs.length ∧ xs.length ≤ 4 := by
          have z := i1
          rw [inLen_some, Bool.and_eq_true] at z
          have := of_decide_eq_true z.1
          have := of_decide_eq_true z.2
          omega
        obtain ⟨x0, hx0⟩ : ∃ x0, xs[0]? = some x0 := ⟨xs[0], List.getElem?_eq_getElem (by omega)⟩
        obtain ⟨o0, ho0, long0, kns0⟩ := it.at_ hx0
        have ix0 : ∀ {H' : Hp} {Q : VK}, Same H H' → Q x0 H' → rIx K (.ref b) (.int 0) H' Q := fun e q => by
          rcases hb.same e with z | z
          · exact .inl ⟨b, xs, 0, x0, rfl, rfl, z, atI_nat hx0, q⟩
          · exact .inr (.inl ⟨b, xs, 0, x0, rfl, rfl, z, atI_nat hx0, q⟩)
        refine ⟨_, rfl, b, xs, rfl, for_pairs (hb.same e1) (fun i σ' H' => ∃ y z, σ' = [some (.ref x), some (.ref b), y, z] ∧ Same H H' ∧ Same H1 H' ∧ ∀ j o, j < i → os[j]? = some o → isTab (lenAt os) o = true) ⟨_, _, rfl, e1, Same.refl _, fun j z hj => absurd hj (Nat.not_lt_zero j)⟩ (fun i σ' H' q => q.elim fun _ q => q.elim fun _ q => q.2.2.1) ?_ ?_⟩
        · rintro i y t σ' H' hy ⟨_, _, rfl, e, e', hs⟩ ht
          refine ⟨t, _, rfl, SqT.of upd_same, rfl, ?_⟩
          refine ⟨_, _, rfl, _, _, rfl, rfl, ?_⟩
          have e2 := e.trans (same_new (o := HO.tup [.int (i : Int), y]) ht)
          obtain ⟨oi, hoi, longi, knsi⟩ := it.at_ hy
          refine ⟨_, rfl, _, rfl, ix0 e2 ?_⟩
          refine ⟨y, x0, oi, lenAt os, rfl, longi.same e2, knsi.same e2, fun z => ?_, fun H3 e3 => ⟨isTab (lenAt os) oi, rfl, ?_⟩⟩
          · have z0 : isTab (lenAt os) o0 = true ∨ (i = 0 ∧ oi = o0) := by
              rcases Nat.eq_zero_or_pos i with h | h
              · subst h
                rw [ho0] at hoi
                exact .inr ⟨rfl, (Option.some.inj hoi).symm⟩
              · exact .inl (hs 0 o0 h ho0)
            have some0 : ∃ zs, o0 = some zs := by
              rcases z0 with h | ⟨_, h⟩
              · cases o0 with
                | none => cases h
                | some zs => exact ⟨zs, rfl⟩
              · subst h
                cases oi with
                | none => cases z
                | some zs => exact ⟨zs, rfl⟩
            obtain ⟨zs, rfl⟩ := some0
            cases long0 with
            | @seq c _ hc => exact ⟨c, zs, rfl, hc.same e2, by unfold lenAt; rw [ho0]⟩
          · cases eb : isTab (lenAt os) oi with
            | false => exact iteT ⟨_, rfl, thrownN ((bad i (badTab_some hs ⟨oi, hoi, eb⟩)).same (e2.trans e3)).at_⟩
            | true =>
              refine iteF ⟨_, _, rfl, e2.trans e3, (e'.trans (same_new ht)).trans e3, fun j z hj hz => ?_⟩
              rcases Nat.lt_or_eq_of_le (Nat.le_of_lt_succ hj) with h | rfl
              · exact hs j z h hz
              · rw [hoi] at hz
                cases hz
                exact eb
        · rintro σ' H' ⟨_, _, rfl, e, e', hs⟩
          have allT : ∀ o ∈ os, isTab (lenAt os) o = true := fun o ho => by
            obtain ⟨j, hj⟩ := List.getElem?_of_mem ho
            exact hs j o (by rw [len]; exact (List.getElem?_eq_some_iff.mp hj).1) hj
          obtain ⟨ts, eo, rows, tl, tb⟩ := tabs_of it allT
          have lts : ts.length = xs.length := by rw [len, eo, List.length_map]
          obtain ⟨t0, ht0⟩ : ∃ t0, ts[0]? = some t0 := ⟨ts[0], List.getElem?_eq_getElem (by omega)⟩
          have mt0 := List.mem_of_getElem? ht0
          have n0 : lenAt os = t0.length := (tl t0 mt0).symm
          have mok : Mok (lenAt os) ts := by
            have z := allT o0 (List.mem_of_getElem? ho0)
            refine ⟨by omega, by omega, ?_, ?_, tl, tb⟩
            · cases o0 with
              | none => cases z
              | some ys =>
                rw [isTab_some, Bool.and_eq_true, Bool.and_eq_true, inLen_some, Bool.and_eq_true] at z
                have := of_decide_eq_true z.1.1
                have := of_decide_eq_true z.2.1
                omega
            · cases o0 with
              | none => cases z
              | some ys =>
                rw [isTab_some, Bool.and_eq_true, Bool.and_eq_true, inLen_some, Bool.and_eq_true] at z
                have := of_decide_eq_true z.1.2
                have := of_decide_eq_true z.2.1
                omega
          have good := good (badTab_none.mpr allT) _ ts mok eo
          obtain ⟨c0, hc0, sc0⟩ := rows.at_ ht0
          rw [hx0] at hc0
          obtain rfl := Option.some.inj hc0
          have hx1 := e _ _ hx
          have hb1 := hb.same e
          refine ⟨_, rfl, b, xs, rfl, hb1, _, rfl, x, CM, dx, _, rfl, hx1, TM.cl, TM.n1, (by decide), ?_⟩
          generalize hH2 : upd H' x (.ins CM dx (putF "deeds" (.int (xs.length : Int)) [])) = H2
          have hx2 : H2 x = some (.ins CM dx [("deeds", .int (xs.length : Int))]) := by rw [← hH2]; exact upd_same
          have sq2 : ∀ {p : Addr} {zs : List V}, Sq K H p zs → Sq K H2 p zs := fun z => by rw [← hH2]; exact sq_ins hx1 (z.same e)
          have hb2 : Sq K H2 b xs := sq2 hb
          have keep2 : ∀ c o, c ≠ x → H c = some o → H2 c = some o := fun c o ne hc => by rw [← hH2, upd_ne ne]; exact e _ _ hc
          have ix2 : ∀ {Q : VK}, Q (.ref c0) H2 → rIx K (.ref b) (.int 0) H2 Q := fun q => by
            rcases hb2 with z | z
            · exact .inl ⟨b, xs, 0, _, rfl, rfl, z, atI_nat hx0, q⟩
            · exact .inr (.inl ⟨b, xs, 0, _, rfl, rfl, z, atI_nat hx0, q⟩)
          refine ⟨_, rfl, ix2 ?_⟩
          refine ⟨c0, _, rfl, sq2 sc0, _, rfl, x, CM, dx, _, rfl, hx2, TM.cl, TM.n2, (Nat.lt_of_succ_lt (by show 2 < 1000; decide)), ?_⟩
          rw [List.length_map, ← n0]
          generalize hH3 : upd H2 x (.ins CM dx (putF "states" (.int (lenAt os : Int)) [("deeds", .int (xs.length : Int))])) = H3
          have hx3 : H3 x = some (.ins CM dx [("deeds", .int (xs.length : Int)), ("states", .int (lenAt os : Int))]) := by rw [← hH3]; exact upd_same
          have sq3 : ∀ {p : Addr} {zs : List V}, Sq K H p zs → Sq K H3 p zs := fun z => by rw [← hH3]; exact sq_ins hx2 (sq2 z)
          have hb3 : Sq K H3 b xs := sq3 hb
          have keep3 : ∀ c o, c ≠ x → H c = some o → H3 c = some o := fun c o ne hc => by rw [← hH3, upd_ne ne]; exact keep2 _ _ ne hc
          have inp3 : RowsBy (Sq K H3) xs ts := rows.imp fun _ _ q => sq3 q
          have last : ∀ (H4 : Hp) (D : Addr) (ps : List V), Same H3 H4 → H4 D = some (.lst ps) → RowsBy (SqT K H4) ps ts → ∀ t H5, Same H4 H5 → SqT K H5 t ps → Q .non (upd H5 x (.ins CM dx [("deeds", .int (xs.length : Int)), ("states", .int (lenAt os : Int)), ("tables", .ref t)])) := fun H4 D ps e4 hD rw4 t H5 e5 ht => by
            have hx5 := e5 _ _ (e4 _ _ hx3)
            refine good _ (fun c o ne hc => by rw [upd_ne ne]; exact e5 _ _ (e4 _ _ (keep3 _ _ ne hc))) ⟨mok, dx, t, ps, by rw [upd_same, lts], sqT_ins hx5 ht, rw4.imp fun _ _ q => sqT_ins hx5 (sqT_same e5 q)⟩
          have go : ∀ (D : Addr), H3 D = .none → ∀ i y H4, xs[i]? = some y → (∃ ps, RowsBy (SqT K H4) ps (ts.take i) ∧ H4 D = some (.lst ps) ∧ Same H3 H4) → ∃ q ys, y = .ref q ∧ Sq K H4 q ys ∧ ∀ q' H5, Same H4 H5 → SqT K H5 q' ys →
              ∃ acc, H5 D = some (.lst acc) ∧ acc.length < sizeLine ∧ ∃ ps, RowsBy (SqT K (L2.upd H5 D (.lst (acc ++ [.ref q'])))) ps (ts.take (i + 1)) ∧ L2.upd H5 D (.lst (acc ++ [.ref q'])) D = some (.lst ps) ∧ Same H3 (L2.upd H5 D (.lst (acc ++ [.ref q']))) := fun D hD i y H4 hy ⟨ps, rw4, hD4, e4⟩ => by
            have hi : i < ts.length := by rw [lts]; exact (List.getElem?_eq_some_iff.mp hy).1
            have ht : ts[i]? = some ts[i] := List.getElem?_eq_getElem hi
            obtain ⟨q, hq, sq⟩ := inp3.at_ ht
            rw [hy] at hq
            refine ⟨q, _, Option.some.inj hq, sq.same e4, fun q' H5 e5 ht5 => ?_⟩
            have hD5 := e5 _ _ hD4
            have lps := rw4.length
            rw [List.length_take] at lps
            refine ⟨ps, hD5, by rw [sizeLine_eq]; omega, ps ++ [.ref q'], ?_, upd_same, fun c o hc => ?_⟩
            · rw [List.take_add_one, ht]
              exact RowsBy.snoc (sqT_lst hD5 ht5) (rw4.imp fun _ _ z => sqT_lst hD5 (sqT_same e5 z))
            · rw [upd_ne (ne_of_none hc hD)]
              exact e5 _ _ (e4 _ _ hc)
          have fin : ∀ (D : Addr) H4, (∃ ps, RowsBy (SqT K H4) ps (ts.take xs.length) ∧ H4 D = some (.lst ps) ∧ Same H3 H4) → ∃ ps, H4 D = some (.lst ps) ∧ RowsBy (SqT K H4) ps ts ∧ Same H3 H4 := fun D H4 ⟨ps, h1, h2, h3⟩ => by
            rw [← lts, List.take_length] at h1
            exact ⟨ps, h2, h1, h3⟩
          have zero : ∀ (D : Addr), H3 D = .none → ∃ ps, RowsBy (SqT K (L2.upd H3 D (.lst []))) ps (ts.take 0) ∧ L2.upd H3 D (.lst []) D = some (.lst ps) ∧ Same H3 (L2.upd H3 D (.lst [])) := fun D hD => ⟨[], trivial, upd_same, same_new hD⟩
          refine ⟨_, rfl, b, xs, rfl, ?_⟩
          rcases hb3 with hb3 | hb3
          · refine .inl ⟨hb3, fun D hD => lc_list (xs := xs) (fun i H4 => ∃ ps, RowsBy (SqT K H4) ps (ts.take i) ∧ H4 D = some (.lst ps) ∧ Same H3 H4) (zero D hD) (fun i H4 _ p => p.elim fun _ p => sqL_same p.2.2 hb3) (fun i y H4 hy p => ⟨rfl, yes ((if_pos rfl).mpr ?_)⟩) fun H4 p => ?_⟩
            · obtain ⟨q, ys, rfl, sq, k⟩ := go D hD i y H4 hy p
              exact ⟨_, rfl, q, ys, rfl, sq, k⟩
            · obtain ⟨ps, h1, h2, h3⟩ := fin D H4 p
              exact ⟨D, _, rfl, .inl (SqL.of h1), fun t H5 e5 ht => ⟨_, rfl, x, CM, dx, _, rfl, e5 _ _ (h3 _ _ hx3), TM.cl, TM.n3, (Nat.lt_of_succ_lt (by show 3 < 1000; decide)), last H4 D ps h3 h1 h2 t H5 e5 ht⟩⟩
          · refine .inr ⟨hb3, fun D hD => lc_tup (xs := xs) (fun i H4 => ∃ ps, RowsBy (SqT K H4) ps (ts.take i) ∧ H4 D = some (.lst ps) ∧ Same H3 H4) (zero D hD) (fun i H4 _ p => p.elim fun _ p => sqT_same p.2.2 hb3) (fun i y H4 hy p => ⟨rfl, yes ((if_pos rfl).mpr ?_)⟩) fun H4 p => ?_⟩
            · obtain ⟨q, ys, rfl, sq, k⟩ := go D hD i y H4 hy p
              exact ⟨_, rfl, q, ys, rfl, sq, k⟩
            · obtain ⟨ps, h1, h2, h3⟩ := fin D H4 p
              exact ⟨D, _, rfl, .inl (SqL.of h1), fun t H5 e5 ht => ⟨_, rfl, x, CM, dx, _, rfl, e5 _ _ (h3 _ _ hx3), TM.cl, TM.n3, (Nat.lt_of_succ_lt (by show 3 < 1000; decide)), last H4 D ps h3 h1 h2 t H5 e5 ht⟩⟩
      | _ => cases i1
end
end KJ
/-! machines compared; states, deeds, rows -/
namespace KJ
open L2 PySem PySem.Spec PyProof.Rows Kx
theorem dp_rows {K : PySem.W.Frag} {H : Hp} {p : Addr} {vs : List V} {rs : List (List Int)} (hp : SqT K H p vs) (h : RowsBy (SqT K H) vs rs) : Dp K H (.ref p) (dRows rs) := .tup hp (go h) where
  go : ∀ {vs : List V} {rs : List (List Int)}, RowsBy (SqT K H) vs rs → DpAll K H vs (rs.map dNums)
    | [], [], _ => .nil
    | _ :: _, _ :: _, ⟨⟨q, h1, h2⟩, h⟩ => .cons (by rw [h1]; exact dp_nums h2) (go h)
    | [], _ :: _, h => h.elim
    | _ :: _, [], h => h.elim
/-- t == u, tuples of rows -/
def rRowsEq (K : PySem.W.Frag) : R2 := fun x y H Q => ∃ (a b : Addr) (ps qs : List V) (xs ys : List (List Int)), x = .ref a ∧ y = .ref b ∧ SqT K H a ps ∧ SqT K H b qs ∧ RowsBy (SqT K H) ps xs ∧ RowsBy (SqT K H) qs ys ∧ Q (.bl (decide (xs = ys))) H
theorem op_eqRows {X : Cx} (hu : X.A.units + 64 < cLine) : OpR X (compareOp .Eq) (rRowsEq X.K) := by
  intro pins st σ H x y v u Q I rx ry h
  obtain ⟨a, b, ps, qs, xs, ys, rfl, rfl, h1, h2, r1, r2, q⟩ := h
  refine op_eqD hu pins st σ H _ _ v u Q I rx ry ⟨_, _, dp_rows h1 r1, dp_rows h2 r2, shaped_rows xs, shaped_rows ys, ?_⟩
  simp only [PyData.eqv, eqv_rows]
  exact q
def spEqM (K : PySem.W.Frag) (CM : Addr) : Sp := fun vs H Q _ => ∃ m n ts d, vs = [.ref m, .ref d] ∧ McAt K CM H m n ts ∧
  ((∃ n' ts', McAt K CM H d n' ts' ∧ ∀ H', Same H H' → Q (.bl (decide (ts = ts'))) H') ∨ ((∃ xs, SqT K H d xs) ∧ ∀ H', Same H H' → Q (.bl false) H'))
def spState (K : PySem.W.Frag) (a : Ad) (CM : Addr) : Sp := fun vs H Q E => ∃ m n ts v, vs = [.ref m, v] ∧ McAt K CM H m n ts ∧ Kn K H v ∧ (isBel n v = false → Thrown E H a.cN "state" v) ∧ (isBel n v = true → Q v H)
/-- where a row leads a state -/
def ledTo (ts : List (List Int)) : Int → List Int → Int
  | s, [] => s
  | s, d :: ds => ledTo ts ((ts.getD d.toNat []).getD s.toNat 0) ds
theorem ledTo_snoc {ts : List (List Int)} {d : Int} : ∀ {s : Int} {row : List Int}, ledTo ts s (row ++ [d]) = (ts.getD d.toNat []).getD (ledTo ts s row).toNat 0
  | s, [] => rfl
  | s, e :: row => ledTo_snoc (s := (ts.getD e.toNat []).getD s.toNat 0) (row := row)
theorem Mok.next {n : Nat} {ts : List (List Int)} (ok : Mok n ts) {d s : Int} (d0 : 0 ≤ d) (d1 : d < ts.length) (s0 : 0 ≤ s) (s1 : s < n) :
    ∃ t x, ts[d.toNat]? = some t ∧ t[s.toNat]? = some x ∧ (ts.getD d.toNat []).getD s.toNat 0 = x ∧ 0 ≤ x ∧ x < n := by
  have hd : d.toNat < ts.length := by omega
  have ht : ts[d.toNat]? = some ts[d.toNat] := List.getElem?_eq_getElem hd
  have mt := List.mem_of_getElem? ht
  have lt := ok.len _ mt
  have hs : s.toNat < (ts[d.toNat]).length := by omega
  have hx : (ts[d.toNat])[s.toNat]? = some (ts[d.toNat])[s.toNat] := List.getElem?_eq_getElem hs
  refine ⟨_, _, ht, hx, ?_, ok.ent _ mt _ (List.mem_of_getElem? hx)⟩
  rw [List.getD_eq_getElem?_getD, List.getD_eq_getElem?_getD, ht, Option.getD_some, hx, Option.getD_some]
section
variable {P : Program} {w : World} {K : PySem.W.Frag} {mg : Str → Option Value} {base : Heap} {f : Addr} {fd : FuncData} {a : Ad} {CM : Addr}
theorem ty_mc {H : Hp} {m : Addr} {n : Nat} {ts : List (List Int)} (TM : ClsM K mg CM) (h : McAt K CM H m n ts) : TyX K H (.ref m) (.ref CM) := by
  obtain ⟨_, dx, t, ps, e, _⟩ := h
  exact .base (.ins e TM.cl TM.isi.ca TM.isi.cn TM.isi.ct TM.isi.cm)
theorem sc_eq : FnScope ["self", "other"] ["self", "other"] (defScope s_Machine_eq) := ⟨rfl, rfl, rfl, by decide +kernel, rfl, by decide +kernel, by decide +kernel⟩
theorem ok_eq (F : FunD K "__eq__" "Machine.__eq__" (defArgs s_Machine_eq) (defBody s_Machine_eq) (defScope s_Machine_eq) [] [] f fd) (T : Mg mg) (TM : ClsM K mg CM) : FnOk P w K mg base CX0 1 f fd ["self", "other"] (spEqM K CM) := by
  refine F.ok sc_eq (fun vs H Q E h => ?_) (fun cdv A outer s H vs Q E hr h => ?_)
  · obtain ⟨m, n, ts, d, rfl, _⟩ := h
    rfl
  · obtain ⟨m, n, ts, d, rfl, hm, how⟩ := h
    refine ⟨_, PSs.nox (pss_one (ps_ret (pe_and (pe_callB call_isi (by rfl) T.z_isinstance (by decide +kernel) (pa_cons (pv 1) (pa_cons (pe_glob (v := V.ref CM) rfl TM.at_ rfl) pa_nil))) (pe_one (pe_cmpR (op_eqRows (r64 hr)) (pe_fld (pv 0) rfl) (pe_fld (pv 1) rfl) (nomark _)))))), ?_⟩
    rcases how with ⟨n', ts', hd, k⟩ | ⟨⟨xs, hd⟩, k⟩
    · refine ⟨_, rfl, _, .ref CM, _, _, true, rfl, .own CM, ty_mc TM hd, TM.yes, true, rfl, iteT ?_⟩
      obtain ⟨_, dx, t, ps, c1, c2, c3⟩ := hm
      obtain ⟨_, dx', t', ps', d1, d2, d3⟩ := hd
      exact ⟨_, rfl, m, CM, dx, _, _, rfl, c1, TM.cl, TM.n3, rfl, _, rfl, d, CM, dx', _, _, rfl, d1, TM.cl, TM.n3, rfl, t, t', ps, ps', ts, ts', rfl, rfl, c2, d2, c3, d3, k H (Same.refl H)⟩
    · exact ⟨_, rfl, _, .ref CM, _, _, false, rfl, .own CM, tyx_tuple hd, TM.notT, false, rfl, iteF (k H (Same.refl H))⟩
theorem sc_need_state : FnScope ["machine", "state"] ["machine", "state"] (defScope s_need_state) := ⟨rfl, rfl, rfl, by decide +kernel, rfl, by decide +kernel, by decide +kernel⟩
theorem ok_need_state (F : FnP K "need_state" s_need_state f fd) (T : Mg mg) (R : Er P w K mg base a) (TM : ClsM K mg CM) (c_is_below : Cal P w K mg base CX0 2 "is_below" ["value", "limit"] (spBelow K)) : FnOk P w K mg base (L2N.CX P w) 3 f fd ["machine", "state"] (spState K a CM) := by
  refine F.ok sc_need_state (fun vs H Q E h => ?_) (fun cdv A outer s H vs Q E hr h => ?_)
  · obtain ⟨m, n, ts, v, rfl, _⟩ := h
    rfl
  · obtain ⟨m, n, ts, v, rfl, ⟨ok, dx, t, ps, h1, h2, h3⟩, hv, bad, good⟩ := h
    refine ⟨_, (pss_cons (ps_if (pt_not (pt_val (pe_callC c_is_below hr pass0 (pa_cons (pv 1) (pa_cons (pe_fld (pv 0) rfl) pa_nil)))))
        (pss_one (psN R.NoState rfl hr (L2N.takes_of rfl rfl rfl rfl) (pa_cons (pv 1) pa_nil)))
        pss_nil)
      (pss_one (ps_ret (pv 1)))), ?_⟩
    refine ⟨v, rfl, _, rfl, m, CM, dx, _, _, rfl, h1, TM.cl, TM.n2, rfl, v, _, rfl, hv, isBel n v, rfl, ?_⟩
    cases eb : isBel n v with
    | false => exact iteT ⟨v, rfl, thrownN (bad eb).at_⟩
    | true => exact iteF ⟨v, rfl, good eb⟩
end
end KJ
/-! what is reached -/
namespace KJ
open L2 PySem PySem.Spec PyProof.Rows Kx
/-- a row of deeds below l -/
def RowOk (l : Nat) (row : List Int) : Prop := ∀ d ∈ row, 0 ≤ d ∧ d < (l : Int)
theorem Mok.led_in {n : Nat} {ts : List (List Int)} (ok : Mok n ts) : ∀ {s : Int} {row : List Int}, 0 ≤ s → s < n → RowOk ts.length row → 0 ≤ ledTo ts s row ∧ ledTo ts s row < n
  | s, [], h0, h1, _ => ⟨h0, h1⟩
  | s, d :: row, h0, h1, hr => by
    obtain ⟨d0, d1⟩ := hr d (List.mem_cons_self ..)
    obtain ⟨t, x, _, _, e, x0, x1⟩ := ok.next d0 d1 h0 h1
    show 0 ≤ ledTo ts ((ts.getD d.toNat []).getD s.toNat 0) row ∧ ledTo ts ((ts.getD d.toNat []).getD s.toNat 0) row < n
    rw [e]
    exact Mok.led_in ok x0 x1 fun z hz => hr z (List.mem_cons_of_mem _ hz)
theorem isBel_iff {l i : Int} : isBel l (.int i) = true ↔ 0 ≤ i ∧ i < l := by
  show (decide (0 ≤ i) && decide (i < l)) = true ↔ _
  rw [Bool.and_eq_true, decide_eq_true_eq, decide_eq_true_eq]
theorem isBel_int {l : Int} {v : V} (h : isBel l v = true) : ∃ i, v = .int i ∧ 0 ≤ i ∧ i < l := by
  cases v with
  | int i => exact ⟨i, rfl, isBel_iff.mp h⟩
  | _ => cases h
def Rch (ts : List (List Int)) (s x : Int) : Prop := ∃ row, RowOk ts.length row ∧ x = ledTo ts s row
def nx (ts : List (List Int)) (d : Nat) (x : Int) : Int := (ts.getD d []).getD x.toNat 0
theorem Rch.refl {ts : List (List Int)} {s : Int} : Rch ts s s := ⟨[], (fun d h => nomatch h), rfl⟩
theorem Rch.step {ts : List (List Int)} {s x : Int} {d : Nat} (h : Rch ts s x) (hd : d < ts.length) : Rch ts s (nx ts d x) := by
  obtain ⟨row, h1, rfl⟩ := h
  refine ⟨row ++ [(d : Int)], fun z hz => ?_, ?_⟩
  · rcases List.mem_append.mp hz with hz | hz
    · exact h1 z hz
    · rw [List.mem_singleton.mp hz]
      omega
  · rw [ledTo_snoc, Int.toNat_natCast]
    rfl
theorem closed_all {ts : List (List Int)} {F : List Int} (cl : ∀ x ∈ F, ∀ d, d < ts.length → nx ts d x ∈ F) : ∀ {row : List Int} {s : Int}, s ∈ F → RowOk ts.length row → ledTo ts s row ∈ F
  | [], s, h, _ => h
  | d :: row, s, h, hr => by
    have hd := hr d (List.mem_cons_self ..)
    have := cl s h d.toNat (by omega)
    exact closed_all cl (row := row) this fun z hz => hr z (List.mem_cons_of_mem _ hz)
theorem len_le : ∀ {n : Nat} {F : List Int}, F.Nodup → (∀ x ∈ F, 0 ≤ x ∧ x < (n : Int)) → F.length ≤ n
  | 0, F, _, h => by
    cases F with
    | nil => exact Nat.le_refl _
    | cons x F => have := h x (List.mem_cons_self ..); omega
  | n + 1, F, nd, h => by
    by_cases hm : (n : Int) ∈ F
    · have e := List.length_erase_of_mem hm
      have := len_le (n := n) (nd.erase (n : Int)) fun x hx => by
        have h1 := (nd.mem_erase_iff).mp hx
        have h2 := h x h1.2
        have h3 : x ≠ (n : Int) := h1.1
        omega
      omega
    · have := len_le (n := n) nd fun x hx => by
        have h2 := h x hx
        have h3 : x ≠ (n : Int) := fun z => hm (z ▸ hx)
        omega
      omega
theorem Mok.rch {n : Nat} {ts : List (List Int)} (ok : Mok n ts) {s x : Int} (h0 : 0 ≤ s) (h1 : s < n) (h : Rch ts s x) : 0 ≤ x ∧ x < n := by
  obtain ⟨row, h2, rfl⟩ := h
  exact ok.led_in h0 h1 h2
/-- what is found, k of it looked at -/
structure Fnd (ts : List (List Int)) (s : Int) (F : List Int) (k : Nat) : Prop where
  nd : F.Nodup
  rch : ∀ x ∈ F, Rch ts s x
  st : s ∈ F
  le : k ≤ F.length
  done : ∀ i x, i < k → F[i]? = some x → ∀ d, d < ts.length → nx ts d x ∈ F
theorem Fnd.more {ts : List (List Int)} {s y : Int} {F : List Int} {k : Nat} (h : Fnd ts s F k) (hy : Rch ts s y) (no : y ∉ F) : Fnd ts s (F ++ [y]) k where
  nd := List.nodup_append.mpr ⟨h.nd, by simp, fun a ha b hb e => no (by rw [← List.mem_singleton.mp hb, ← e]; exact ha)⟩
  rch := fun x hx => (List.mem_append.mp hx).elim (h.rch x) fun hx => by rw [List.mem_singleton.mp hx]; exact hy
  st := List.mem_append_left _ h.st
  le := by rw [List.length_append]; have := h.le; omega
  done := fun i x hi hx d hd => List.mem_append_left _ (h.done i x hi (by rw [List.getElem?_append_left (by have := h.le; omega)] at hx; exact hx) d hd)
theorem Fnd.all {ts : List (List Int)} {s : Int} {F : List Int} (h : Fnd ts s F F.length) (x : Int) : x ∈ F ↔ Rch ts s x := by
  refine ⟨h.rch x, fun ⟨row, h1, e⟩ => ?_⟩
  rw [e]
  refine closed_all (fun y hy d hd => ?_) h.st h1
  obtain ⟨i, hi⟩ := List.getElem?_of_mem hy
  exact h.done i y (List.getElem?_eq_some_iff.mp hi).1 hi d hd
theorem lt_of_le {L : List Int} (h : L.Pairwise (· ≤ ·)) (nd : L.Nodup) : L.Pairwise (· < ·) := (h.and nd).imp fun ⟨a, b⟩ => Int.lt_iff_le_and_ne.mpr ⟨a, b⟩
theorem inV_nums {xs : List Int} {k : Int} : inV (.int k) (xs.map V.int) = decide (k ∈ xs) := by
  induction xs with
  | nil => rfl
  | cons x xs ih =>
    have e : inV (.int k) ((x :: xs).map V.int) = (eqV (.int x) (.int k) || inV (.int k) (xs.map V.int)) := rfl
    rw [e, ih, Bool.eq_iff_iff]
    have e2 : eqV (.int x) (.int k) = true ↔ x = k := by
      show decide _ = true ↔ _
      simp
    rw [Bool.or_eq_true, e2, decide_eq_true_eq, decide_eq_true_eq, List.mem_cons]
    exact ⟨fun h => h.imp Eq.symm id, fun h => h.imp Eq.symm id⟩
theorem flat_nums {xs : List Int} : (xs.map V.int).all flatV = true := List.all_eq_true.mpr fun x hx => by
  obtain ⟨i, _, rfl⟩ := List.mem_map.mp hx
  rfl
def spReached (K : PySem.W.Frag) (a : Ad) (CM : Addr) : Sp := fun vs H Q E => ∃ m n ts v, vs = [.ref m, v] ∧ McAt K CM H m n ts ∧ Kn K H v ∧ (isBel n v = false → Thrown E H a.cN "state" v) ∧
  (isBel n v = true → ∃ s, v = .int s ∧ ∀ (p : Addr) (L : List Int) H', Same H H' → L.Pairwise (· < ·) → (∀ x, x ∈ L ↔ Rch ts s x) → SqT K H' p (L.map V.int) → Q (.ref p) H')
end KJ
/-! sorted(t), t a tuple of whole numbers -/
namespace Kx
open L2 PySem PySem.Spec PyProof.Rows
def rSortTup (K : PySem.W.Frag) : List V → Hp → VK → Prop := fun vs H Q => ∃ (a : Addr) (ns : List Int), vs = [V.ref a] ∧ SqT K H a (ns.map V.int) ∧ ns.length < 64 ∧
  ∀ (L : List Int) (p : Addr), L.Perm ns → L.Pairwise (· ≤ ·) → H p = none → Q (.ref p) (upd H p (.lst (L.map V.int)))
theorem cr_sortTup {X : Cx} : CallR X (.builtin "sorted") (rSortTup X.K) := by
  rintro pins s σ H vs us Q I r ⟨a, ns, rfl, hs, few, q⟩
  obtain ⟨us, rv, ⟨ob, here, cl, n, hd⟩, _⟩ := I.tuple hs
  rw [Vals.ref1 r]
  have hi := rv.ints
  have few' : us.length < 64 := by rw [hi.length]; exact few
  refine Calls.call_function_entry kind_sorted plain_sorted entry_sorted (args_sorted1 _) ?_; unfold Builtin.«sorted»; refine wpAny_bind (m := checkCount "sorted" 1 1 _) (wpAny_pure ?_)
  refine wpAny_bind (wpAny_collect_seq a (.inr rfl) here cl hd (fun h' all => ?_) (by rw [List.size_toArray]; exact small64 few'))
  rw [List.toList_toArray]; refine wpAny_bind (wpAny_newList ?_)
  have new : (h'.push (seqObj "list" us.toArray 0)).get? h'.objs.size = some (seqObj "list" us.toArray 0) := Heap.get?_push_size _ rfl
  refine wpAny_bind (wpAny_holding (wpAny_call_entry slot_list_sort ⟨_, new, rfl⟩ entry_list_sort (list_sort_tree new hi few' fun out L a1 a2 a3 => ⟨_, rfl, ?_⟩) (args_list_sort _)))
  refine wpAny_pure ⟨_, rfl, (?_ : EP X pins σ Q _ _)⟩
  obtain ⟨ep, last⟩ := sortedHeap_at (vs := us) (out := out) new
  have none_ : s.heap.get? h'.objs.size = none := by
    cases e : s.heap.get? h'.objs.size with
    | none => rfl
    | some o => exact absurd (Heap.lt_size (all _ _ e)) (Nat.lt_irrefl _)
  have free : H h'.objs.size = none := I.hok.gone none_
  have fits : (L.map V.int).length ≤ sizeLine := by rw [List.length_map, a2.length_eq]; exact small64 few
  refine ⟨.ref h'.objs.size, upd H h'.objs.size (.lst (L.map V.int)), I.laidN (t' := s.toks) (fun b o e => ?_) none_ free ⟨fits, out.toList, ep, vals_of_ints a1, last⟩, rfl, q L _ a2 a3 free⟩
  have e2 := all b o e
  rw [sortedHeap_old (Nat.ne_of_lt (Heap.lt_size e2)) (Heap.lt_size (Heap.get?_push_of_some _ e2))]
  exact Heap.get?_push_of_some _ e2
end Kx
/-! what comes; the one machine that forgets -/
namespace KJ
open L2 PySem PySem.Spec PyProof.Rows Kx
def spComing (K : PySem.W.Frag) (a : Ad) (CM : Addr) : Sp := fun vs H Q E => ∃ m n ts v, vs = [.ref m, v] ∧ McAt K CM H m n ts ∧ Kn K H v ∧ (isBel n v = false → Thrown E H a.cN "state" v) ∧
  (isBel n v = true → ∃ s, v = .int s ∧ ∀ (p : Addr) (L : List Int) H', Same H H' → L.Nodup → L.length ≤ n → (∀ x, x ∈ L ↔ Rch ts s x) → SqT K H' p (L.map V.int) → Q (.ref p) H')
section
variable {P : Program} {w : World} {K : PySem.W.Frag} {mg : Str → Option Value} {base : Heap} {f : Addr} {fd : FuncData} {a : Ad} {CM : Addr}
theorem sc_coming : FnScope ["machine", "first", "found", "at", "table", "state"] ["machine", "first"] (defScope s_in_coming_order) := ⟨rfl, rfl, rfl, by decide +kernel, rfl, by decide +kernel, by decide +kernel⟩
theorem ok_coming (F : FnP K "in_coming_order" s_in_coming_order f fd) (T : Mg mg) (TM : ClsM K mg CM) (c_state : Cal P w K mg base (L2N.CX P w) 3 "need_state" ["machine", "state"] (spState K a CM)) : FnOk P w K mg base (L2N.CX P w) 5 f fd ["machine", "first"] (spComing K a CM) := by
  refine F.ok sc_coming (fun vs H Q E h => ?_) (fun cdv A outer s H vs Q E hr h => ?_)
  · obtain ⟨m, n, ts, v, rfl, _⟩ := h
    rfl
  · obtain ⟨m, n, ts, v, rfl, hm, hv, bad, good⟩ := h
    obtain ⟨ok, dx, t, ps, h1, h2, h3⟩ := id hm
    refine ⟨_, (pss_cons (ps_set (i := 2) sc_coming.nd rfl (by first | exact Or.inl rfl | exact Or.inr rfl) (pe_lst (pa_cons (pe_callC c_state hr (L2N.passes_call (L2N.takes_of rfl rfl rfl rfl) (fun _ _ _ _ z => z)) (pa_cons (pv 0) (pa_cons (pv 1) pa_nil))) pa_nil)))
      (PSs.nox (pss_cons (ps_set (i := 3) sc_coming.nd rfl (by first | exact Or.inl rfl | exact Or.inr rfl) pe_int)
      (pss_cons (ps_while PassesOwn.never (pt_cmpR op_lt (pv 3) (pe_callB call_len_seq (by rfl) T.z_len PySem.boot_len (pa_cons (pv 2) pa_nil)) (nomark _))
        (pss_cons (ps_for PassesOwn.never rfl (pi_tup (pe_fld (pv 0) rfl)) (pg_name (i := 4) sc_coming.nd rfl (by first | exact Or.inl rfl | exact Or.inr rfl))
          (pss_cons (ps_set (i := 5) sc_coming.nd rfl (by first | exact Or.inl rfl | exact Or.inr rfl) (pe_ix ix_tup (pv 4) (pe_ix ix_list (pv 2) (pv 3) (fun _ _ => rfl)) (fun _ _ => rfl)))
          (pss_one (ps_if (pt_cmpR op_notIn_seq (pv 5) (pv 2) (by rfl))
            (pss_one (ps_expr (pe_bm PySem.F.plainAttrs_list PySem.F.slot_list_append PySem.F.type_list_append mt_append (pv 2) (pa_cons (pv 5) pa_nil))))
            pss_nil))))
        (pss_one (ps_aug (i := 3) sc_coming.nd rfl (.inl rfl) pe_int ip_add))))
      (pss_one (ps_ret (pe_callTy call_tup (by rfl) T.z_tuple (by decide +kernel) (pa_cons (pv 2) pa_nil)))))))), ?_⟩
    refine ⟨_, rfl, v, rfl, m, n, ts, v, rfl, hm, hv, bad, fun eb => ?_⟩
    obtain ⟨s0, rfl, fin⟩ := good eb
    obtain ⟨s1, s2⟩ := isBel_iff.mp eb
    refine ⟨by show 1 ≤ sizeLine; decide, fun Fa hFa => ?_⟩
    refine ⟨fun k σ' H' => ∃ (j : Nat) (L : List Int) (y z : Option V), k = n - j ∧ σ' = [some (.ref m), some (.int s0), some (.ref Fa), some (.int (j : Int)), y, z] ∧ Fnd ts s0 L j ∧ H' Fa = some (.lst (L.map V.int)) ∧ Same H H', ⟨n, 0, [s0], _, _, rfl, rfl, ⟨by simp, fun x hx => by rw [List.mem_singleton.mp hx]; exact .refl, by simp, Nat.zero_le _, fun i x h => absurd h (Nat.not_lt_zero i)⟩, upd_same, same_new hFa⟩, ?_⟩
    rintro k σ' H' ⟨j, L, y, z, rfl, rfl, fnd, hL, e⟩
    have lenL := len_le fnd.nd fun x hx => ok.rch s1 s2 (fnd.rch x hx)
    refine ⟨_, rfl, _, rfl, Fa, _, rfl, .inl (SqL.of hL), _, _, rfl, rfl, _, rfl, ite2 (fun lt => ?_) (fun ge => ?_)⟩
    · rw [List.length_map] at lt
      have lt := of_decide_eq_true lt
      have hj : j < L.length := by omega
      have ex : L[j]? = some L[j] := List.getElem?_eq_getElem hj
      have hx := ok.rch s1 s2 (fnd.rch _ (List.mem_of_getElem? ex))
      refine ⟨fun σ2 H2 => ∃ (L2 : List Int) (y z : Option V), σ2 = [some (.ref m), some (.int s0), some (.ref Fa), some (.int ((j + 1 : Nat) : Int)), y, z] ∧ Fnd ts s0 L2 (j + 1) ∧ H2 Fa = some (.lst (L2.map V.int)) ∧ Same H H2, ?_, ?_⟩
      · rintro σ2 H2 ⟨L2, y, z, r1, r2, r3, r4⟩
        exact ⟨n - (j + 1), by omega, j + 1, L2, y, z, rfl, r1, r2, r3, r4⟩
      · refine ⟨_, rfl, m, CM, dx, _, _, rfl, e _ _ h1, TM.cl, TM.n3, rfl, t, rfl, ⟨ps, sqT_same e h2⟩, ?_⟩
        refine for_tup (xs := ps) (fun i σ2 H2 => ∃ (G : List Int) (y z : Option V), σ2 = [some (.ref m), some (.int s0), some (.ref Fa), some (.int (j : Int)), y, z] ∧ Fnd ts s0 (L ++ G) j ∧ (∀ d, d < i → nx ts d L[j] ∈ L ++ G) ∧ H2 Fa = some (.lst ((L ++ G).map V.int)) ∧ Same H H2) ⟨[], _, _, rfl, by rw [List.append_nil]; exact fnd, fun d hd => absurd hd (Nat.not_lt_zero d), by rw [List.append_nil]; exact hL, e⟩ (fun i σ2 H2 _ q => by
          obtain ⟨_, _, _, _, _, _, _, e2⟩ := q
          exact sqT_same e2 h2) ?_ ?_
        · rintro i q σ2 H2 hq ⟨G, y2, z2, rfl, fnd2, cl2, hL2, e2⟩
          have hi : i < ts.length := by rw [← h3.length]; exact (List.getElem?_eq_some_iff.mp hq).1
          obtain ⟨tt, x', t1, t2, t3, x0, x1⟩ := ok.next (d := (i : Int)) (by omega) (by omega) hx.1 hx.2
          rw [Int.toNat_natCast] at t1 t3
          obtain ⟨qa, hqa, sq⟩ := h3.at_ t1
          rw [hq] at hqa
          obtain rfl := Option.some.inj hqa
          have en : nx ts i L[j] = x' := t3
          have rx : Rch ts s0 x' := by
            rw [← en]
            exact (fnd.rch _ (List.mem_of_getElem? ex)).step hi
          have a1 : atI ((L ++ G).map V.int) (j : Int) = some (V.int L[j]) := atI_nat (by rw [List.getElem?_map, List.getElem?_append_left hj, ex]; rfl)
          have a2 : atI (tt.map V.int) L[j] = some (V.int x') := by
            have := atI_nat (xs := tt.map V.int) (j := L[j].toNat) (v := .int x') (by rw [List.getElem?_map, t2]; rfl)
            rwa [Int.toNat_of_nonneg hx.1] at this
          have lenG := len_le fnd2.nd fun x hx => ok.rch s1 s2 (fnd2.rch x hx)
          have n8 := ok.n8
          refine ⟨_, rfl, _, rfl, _, rfl, Fa, _, _, _, rfl, rfl, SqL.of hL2, a1, qa, _, _, _, rfl, rfl, sqT_same e2 sq, a2, ?_⟩
          refine ⟨_, rfl, _, rfl, Fa, _, rfl, .inl (SqL.of hL2), rfl, flat_nums, _, rfl, ?_⟩
          rw [if_pos rfl, inV_nums]
          refine ite2 (fun no => ?_) (fun yes => ?_)
          · have no : x' ∉ L ++ G := by simpa using no
            refine ⟨_, rfl, .inl ⟨rfl, _, SqL.of hL2⟩, _, rfl, Fa, _, _, rfl, rfl, hL2, by rw [List.length_map, sizeLine_eq]; omega, G ++ [x'], _, _, rfl, ?_, ?_, ?_, ?_⟩
            · rw [← List.append_assoc]
              exact fnd2.more rx no
            · intro d hd
              rw [← List.append_assoc]
              rcases Nat.lt_or_eq_of_le (Nat.le_of_lt_succ hd) with h | rfl
              · exact List.mem_append_left _ (cl2 d h)
              · rw [en]
                simp
            · rw [upd_same, ← List.append_assoc, List.map_append (l₁ := L ++ G)]
              rfl
            · intro c o hc
              rw [upd_ne (ne_of_none hc hFa)]
              exact e2 _ _ hc
          · have yes : x' ∈ L ++ G := Decidable.not_not.mp (by simpa [-List.mem_append] using yes)
            refine ⟨G, _, _, rfl, fnd2, fun d hd => ?_, hL2, e2⟩
            rcases Nat.lt_or_eq_of_le (Nat.le_of_lt_succ hd) with h | rfl
            · exact cl2 d h
            · rw [en]
              exact yes
        · rintro σ2 H2 ⟨G, y2, z2, rfl, fnd2, cl2, hL2, e2⟩
          refine ⟨_, rfl, _, _, rfl, rfl, L ++ G, y2, z2, ?_, ⟨fnd2.nd, fnd2.rch, fnd2.st, by rw [List.length_append]; omega, fun i x hi hx' d hd => ?_⟩, hL2, e2⟩
          · rfl
          · rcases Nat.lt_or_eq_of_le (Nat.le_of_lt_succ hi) with h | rfl
            · exact fnd2.done i x h hx' d hd
            · rw [List.getElem?_append_left hj, ex] at hx'
              cases hx'
              exact cl2 d (by rw [h3.length]; exact hd)
    · rw [List.length_map] at ge
      have ge : ¬ ((j : Int) < (L.length : Int)) := of_decide_eq_false (by simpa using ge)
      have ej : j = L.length := by have := fnd.le; omega
      subst ej
      exact ⟨_, rfl, Fa, _, rfl, .inl (SqL.of hL), fun q H3 e3 hq => fin q L H3 (e.trans e3) fnd.nd lenL (fun x => fnd.all x) hq⟩
theorem sc_reached : FnScope ["machine", "first"] ["machine", "first"] (defScope s_reached) := ⟨rfl, rfl, rfl, by decide +kernel, rfl, by decide +kernel, by decide +kernel⟩
theorem ok_reached (F : FnP K "reached" s_reached f fd) (T : Mg mg) (c_coming : Cal P w K mg base (L2N.CX P w) 5 "in_coming_order" ["machine", "first"] (spComing K a CM)) : FnOk P w K mg base (L2N.CX P w) 6 f fd ["machine", "first"] (spReached K a CM) := by
  refine F.ok sc_reached (fun vs H Q E h => ?_) (fun cdv A outer s H vs Q E hr h => ?_)
  · obtain ⟨m, n, ts, v, rfl, _⟩ := h
    rfl
  · obtain ⟨m, n, ts, v, rfl, hm, hv, bad, good⟩ := h
    refine ⟨_, (pss_one (ps_ret (pe_callTy call_tup (by rfl) T.z_tuple (by decide +kernel) (pa_cons (pe_callB cr_sortTup (by rfl) T.z_sorted (by decide +kernel) (pa_cons (pe_callC c_coming hr (L2N.passes_call (L2N.takes_of rfl rfl rfl rfl) (fun _ _ _ _ z => z)) (pa_cons (pv 0) (pa_cons (pv 1) pa_nil))) pa_nil)) pa_nil)))), ?_⟩
    refine ⟨_, rfl, v, rfl, m, n, ts, v, rfl, hm, hv, bad, fun eb => ?_⟩
    obtain ⟨s0, rfl, fin⟩ := good eb
    refine ⟨s0, rfl, fun t L H1 e1 nd len mem ht => ?_⟩
    have n8 := hm.ok.n8
    refine ⟨t, L, rfl, ht, by omega, fun L' p perm srt hp => ⟨p, _, rfl, .inl (SqL.of upd_same), fun q H3 e3 hq => ?_⟩⟩
    have e4 : Same H H3 := fun c o hc => e3 _ _ (by rw [upd_ne (ne_of_none (e1 _ _ hc) hp)]; exact e1 _ _ hc)
    exact fin q L' H3 e4 (lt_of_le srt (perm.nodup_iff.mpr nd)) (fun x => by rw [perm.mem_iff]; exact mem x) hq
end
end KJ
/-! a table done over and over -/
namespace KJ
open L2 PySem PySem.Spec PyProof.Rows Kx
def tx (t : List Int) (x : Int) : Int := t.getD x.toNat 0
/-- a table k times -/
def it (t : List Int) : Nat → Int → Int
  | 0, x => x
  | k + 1, x => tx t (it t k x)
theorem it_add (t : List Int) (x : Int) (i : Nat) : ∀ j, it t (i + j) x = it t j (it t i x)
  | 0 => rfl
  | j + 1 => congrArg (tx t) (it_add t x i j)
/-- L goes into itself, unlike to unlike -/
structure Exc (L : List Int) (t : List Int) : Prop where
  nd : L.Nodup
  cl : ∀ x ∈ L, tx t x ∈ L
  inj : ∀ x ∈ L, ∀ y ∈ L, tx t x = tx t y → x = y
theorem nodup_le : ∀ {F L : List Int}, F.Nodup → (∀ x ∈ F, x ∈ L) → F.length ≤ L.length
  | [], _, _, _ => Nat.zero_le _
  | x :: F, L, nd, h => by
    have hx := h x (List.mem_cons_self ..)
    have nd' := List.nodup_cons.mp nd
    have := nodup_le (F := F) (L := L.erase x) nd'.2 fun y hy => by
      have ne : y ≠ x := fun z => nd'.1 (z ▸ hy)
      exact (List.mem_erase_of_ne ne).mpr (h y (List.mem_cons_of_mem _ hy))
    rw [List.length_erase_of_mem hx] at this
    have : 0 < L.length := List.length_pos_of_mem hx
    rw [List.length_cons]
    omega
section
variable {L t : List Int} {x y : Int}
theorem Exc.it_in (e : Exc L t) (hx : x ∈ L) : ∀ k, it t k x ∈ L
  | 0 => hx
  | k + 1 => e.cl _ (e.it_in hx k)
theorem Exc.it_inj (e : Exc L t) (hx : x ∈ L) (hy : y ∈ L) : ∀ {k}, it t k x = it t k y → x = y
  | 0, h => h
  | k + 1, h => e.it_inj hx hy (e.inj _ (e.it_in hx k) _ (e.it_in hy k) h)
theorem Exc.back (e : Exc L t) (hx : x ∈ L) {i k : Nat} (h : it t (i + k) x = it t i x) : it t k x = x := by
  rw [Nat.add_comm, it_add] at h
  exact e.it_inj (e.it_in hx k) hx h
/-- x comes back, at the latest behind all of L -/
theorem Exc.some_back (e : Exc L t) (hx : x ∈ L) : ∃ c, 1 ≤ c ∧ c ≤ L.length ∧ it t c x = x := by
  refine Classical.byContradiction fun no => ?_
  have nd : ((List.range (L.length + 1)).map fun i => it t i x).Nodup := by
    refine List.pairwise_map.mpr (List.pairwise_lt_range.imp_of_mem fun {i j} hi hj lt z => no ?_)
    have hj := List.mem_range.mp hj
    refine ⟨j - i, by omega, by omega, ?_⟩
    have e' : i + (j - i) = j := by omega
    exact e.back hx (i := i) (by rw [e']; exact z.symm)
  have := nodup_le nd fun y hy => by
    obtain ⟨i, _, rfl⟩ := List.mem_map.mp hy
    exact e.it_in hx i
  rw [List.length_map, List.length_range] at this
  omega
/-- x comes back for the first time -/
structure Per (t : List Int) (x : Int) (c : Nat) : Prop where
  c1 : 1 ≤ c
  back : it t c x = x
  least : ∀ j, 0 < j → j < c → it t j x ≠ x
theorem least_of {p : Nat → Prop} : ∀ n, p n → ∃ m, m ≤ n ∧ p m ∧ ∀ j, j < m → ¬ p j := by
  intro n
  induction n using Nat.strongRecOn with
  | _ n ih =>
    intro hn
    by_cases h : ∃ m, m < n ∧ p m
    · obtain ⟨m, lt, hm⟩ := h
      obtain ⟨k, hk, h1, h2⟩ := ih m lt hm
      exact ⟨k, by omega, h1, h2⟩
    · exact ⟨n, Nat.le_refl _, hn, fun j hj hp => h ⟨j, hj, hp⟩⟩
theorem Exc.per (e : Exc L t) (hx : x ∈ L) : ∃ c, c ≤ L.length ∧ Per t x c := by
  obtain ⟨c, c1, cl, hc⟩ := e.some_back hx
  obtain ⟨m, hm, ⟨m1, m2⟩, m3⟩ := least_of (p := fun c => 1 ≤ c ∧ it t c x = x) c ⟨c1, hc⟩
  exact ⟨m, by omega, m1, m2, fun j j0 jm z => m3 j jm ⟨j0, z⟩⟩
theorem it_mul {c : Nat} (h : it t c x = x) : ∀ k, it t (c * k) x = x
  | 0 => rfl
  | k + 1 => by rw [Nat.mul_succ, it_add, it_mul h k, h]
theorem it_mod {c : Nat} (h : it t c x = x) (k : Nat) : it t k x = it t (k % c) x := by
  conv => lhs; rw [← Nat.div_add_mod k c, it_add, it_mul h]
/-- where x goes -/
def orb (t : List Int) (x : Int) (c : Nat) : List Int := (List.range c).map fun i => it t i x
theorem orb_len {c : Nat} : (orb t x c).length = c := by unfold orb; rw [List.length_map, List.length_range]
theorem orb_at {c i : Nat} (h : i < c) : (orb t x c)[i]? = some (it t i x) := by
  unfold orb
  rw [List.getElem?_map, List.getElem?_range h]
  rfl
theorem orb_more {c : Nat} : orb t x (c + 1) = orb t x c ++ [it t c x] := by
  unfold orb
  rw [List.range_succ, List.map_append]
  rfl
end
/-- a table's entries are places of it -/
def InR (t : List Int) : Prop := ∀ y ∈ t, 0 ≤ y ∧ y < (t.length : Int)
theorem InR.at_ {t : List Int} (h : InR t) {x : Int} (h0 : 0 ≤ x) (h1 : x < (t.length : Int)) : (t.map V.int)[x.toNat]? = some (.int (tx t x)) ∧ 0 ≤ tx t x ∧ tx t x < (t.length : Int) := by
  have lt : x.toNat < t.length := by omega
  have e : t[x.toNat]? = some t[x.toNat] := List.getElem?_eq_getElem lt
  have e2 : tx t x = t[x.toNat] := by
    unfold tx
    rw [List.getD_eq_getElem?_getD, e]
    rfl
  rw [e2, List.getElem?_map, e]
  exact ⟨rfl, h _ (List.getElem_mem lt)⟩
theorem InR.it_in {t : List Int} (h : InR t) {x : Int} (h0 : 0 ≤ x) (h1 : x < (t.length : Int)) : ∀ k, 0 ≤ it t k x ∧ it t k x < (t.length : Int)
  | 0 => ⟨h0, h1⟩
  | k + 1 => (h.at_ (h.it_in h0 h1 k).1 (h.it_in h0 h1 k).2).2
theorem at_int {xs : List V} {x : Int} {v : V} (h0 : 0 ≤ x) (h : xs[x.toNat]? = some v) : atI xs x = some v := by
  obtain ⟨k, rfl⟩ : ∃ k : Nat, x = (k : Int) := ⟨x.toNat, by omega⟩
  exact atI_nat h
/-- tables of n places that lead L into itself, unlike to unlike -/
structure Wrl (n : Nat) (ts : List (List Int)) (L : List Int) : Prop where
  tab : ∀ t ∈ ts, t.length = n ∧ InR t ∧ Exc L t
  rng : ∀ x ∈ L, 0 ≤ x ∧ x < (n : Int)
  n8 : n ≤ 8
  nd : L.Nodup
theorem Wrl.few {n : Nat} {ts : List (List Int)} {L : List Int} (w : Wrl n ts L) : L.length ≤ n := len_le w.nd w.rng
theorem Wrl.per {n : Nat} {ts : List (List Int)} {L t : List Int} {x : Int} (w : Wrl n ts L) (ht : t ∈ ts) (hx : x ∈ L) : ∃ c, c ≤ 8 ∧ c ≤ L.length ∧ Per t x c := by
  obtain ⟨c, h1, h2⟩ := (w.tab t ht).2.2.per hx
  have := w.few
  have := w.n8
  exact ⟨c, by omega, h1, h2⟩
/-- where numbers of deeds lead -/
def byC : List (List Int) → List Nat → Int → Int
  | t :: ts, c :: cs, s => byC ts cs (it t c s)
  | _, _, s => s
theorem byC_snoc : ∀ {ts : List (List Int)} {cs : List Nat} {t : List Int} {c : Nat} {s : Int}, ts.length = cs.length → byC (ts ++ [t]) (cs ++ [c]) s = it t c (byC ts cs s)
  | [], [], _, _, _, _ => rfl
  | _ :: ts, _ :: cs, _, _, _, h => byC_snoc (ts := ts) (cs := cs) (by simpa using h)
  | [], _ :: _, _, _, _, h => by simp at h
  | _ :: _, [], _, _, _, h => by simp at h
theorem byC_in {L : List Int} : ∀ {ts : List (List Int)} {cs : List Nat} {s : Int}, (∀ t ∈ ts, Exc L t) → s ∈ L → byC ts cs s ∈ L
  | [], _, _, _, h => h
  | _ :: _, [], _, _, h => h
  | t :: ts, c :: cs, s, e, h => byC_in (ts := ts) (cs := cs) (fun t ht => e t (List.mem_cons_of_mem _ ht)) ((e t (List.mem_cons_self ..)).it_in h c)
end KJ
/-! pairs of deeds; machines that exchange -/
namespace KJ
open L2 PySem PySem.Spec PyProof.Rows Kx RZ
theorem same_put {H H' : Hp} {S : Addr} {o : HO} (e : Same H H') (n : H S = none) : Same H (upd H' S o) := fun b u hb => by
  rw [upd_ne (fun z => by rw [z, n] at hb; cases hb)]
  exact e b u hb
/-- pairs of numbers below k -/
structure PairsOf (k : Nat) (prs : List (List Int)) : Prop where
  are : ∀ pr ∈ prs, ∃ a b : Nat, pr = [(a : Int), (b : Int)] ∧ a < k ∧ b < k
  few : prs.length ≤ 16
def Rl (prs : List (List Int)) : Nat → Nat → Prop := fun a b => [(a : Int), (b : Int)] ∈ prs
def LtB (k : Nat) : Nat → Nat → Prop := fun a b => a < b ∧ b < k
/-- all pairs of numbers below k, the less one first -/
structure PairsAll (k : Nat) (prs : List (List Int)) : Prop where
  are : ∀ pr ∈ prs, ∃ a b : Nat, pr = [(a : Int), (b : Int)] ∧ a < b ∧ b < k
  all : ∀ a b : Nat, a < b → b < k → [(a : Int), (b : Int)] ∈ prs
  few : prs.length ≤ 12
theorem PairsAll.pairs {k : Nat} {prs : List (List Int)} (h : PairsAll k prs) : PairsOf k prs := ⟨fun pr hp => by
  obtain ⟨a, b, e, l1, l2⟩ := h.are pr hp
  exact ⟨a, b, e, by omega, l2⟩, Nat.le_trans h.few (by decide)⟩
theorem PairsAll.rl {k : Nat} {prs : List (List Int)} (h : PairsAll k prs) : Rl prs = LtB k := funext fun a => funext fun b => propext ⟨fun m => by
  obtain ⟨a', b', e, l1, l2⟩ := h.are _ m
  have q1 := (List.cons.inj e).1
  have q2 := (List.cons.inj (List.cons.inj e).2).1
  exact ⟨by omega, by omega⟩, fun l => h.all a b l.1 l.2⟩
def spPairs (K : PySem.W.Frag) : Sp := fun vs H Q _ => ∃ k : Nat, vs = [.int (k : Nat)] ∧ k ≤ 4 ∧ ∀ l H' ps prs, Same H H' → H l = none → H' l = some (.lst ps) → RowsBy (SqT K H') ps prs → PairsAll k prs → Q (.ref l) H'
section
variable {P : Program} {w : World} {K : PySem.W.Frag} {mg : Str → Option Value} {base : Heap} {f : Addr} {fd : FuncData} {a : Ad} {C CM : Addr}
theorem sc_pairs : FnScope ["deeds", "one", "other"] ["deeds"] (defScope s_deed_pairs) := ⟨rfl, rfl, rfl, by decide +kernel, rfl, by decide +kernel, by decide +kernel⟩
theorem ok_pairs (F : FnP K "deed_pairs" s_deed_pairs f fd) (T : Mg mg) : FnOk P w K mg base CX0 1 f fd ["deeds"] (spPairs K) := by
  refine F.ok sc_pairs (fun vs H Q E h => ?_) (fun cdv A outer s H vs Q E hr h => ?_)
  · obtain ⟨k, rfl, _⟩ := h
    rfl
  · obtain ⟨k, rfl, k4, q⟩ := h
    refine ⟨_, PSs.nox (pss_one (ps_ret (pe_lc2 (own := [("one", 1), ("other", 2)]) (vs1 := [2]) (by rfl) sc_pairs.nd (pi_range1 (by rfl) T.z_range (pa_cons (pv 0) pa_nil)) (blkOk_by (own := [("one", 1), ("other", 2)]) (N := ["deeds", "one", "other"]) (sc := defScope s_deed_pairs) (by decide +kernel)) (by decide)
      (fun _ _ _ _ _ => (pg_name (i := 1) sc_pairs.nd rfl (by first | exact Or.inl rfl | exact Or.inr rfl))) (fun _ _ _ _ _ => pts_nil)
      (fun _ _ _ _ _ => pi_range2 (by rfl) T.z_range (pa_cons (pe_op op_add (pv 1) pe_int) (pa_cons (pv 0) pa_nil)))
      (fun _ _ _ _ _ => (pg_name (i := 2) sc_pairs.nd rfl (by first | exact Or.inl rfl | exact Or.inr rfl))) (fun _ _ _ _ _ => pts_nil)
      (fun _ _ _ _ _ => pe_tup (pa_cons (pv 1) (pa_cons (pv 2) pa_nil)))))), ?_⟩
    refine ⟨_, rfl, k, rfl, by omega, by omega, fun D0 hD => ?_⟩
    let Pw : Nat → Nat → Hp → Prop := fun i j H' => ∃ ps prs, Same H H' ∧ H' D0 = some (.lst ps) ∧ RowsBy (SqT K H') ps prs ∧ (∀ pr ∈ prs, ∃ a b : Nat, pr = [(a : Int), (b : Int)] ∧ a < b ∧ b < k) ∧ (∀ a b : Nat, a < b → b < k → (a < i ∨ a = i ∧ b < i + 1 + j) → [(a : Int), (b : Int)] ∈ prs) ∧ prs.length ≤ i * 3 + j
    refine turns (n := k) (fun i H' => Pw i 0 H') ⟨[], [], same_new hD, upd_same, trivial, fun _ h => (nomatch h), fun a b ab bk h => by omega, by simp⟩ ?_ ?_
    · intro i H2 hi p2
      refine ⟨hi, ?_⟩
      rintro v H3 ⟨rfl, rfl⟩
      have i0 : (0 : Int) + (i : Int) = (i : Int) := Int.zero_add _
      rw [i0]
      refine ⟨rfl, yes ((if_pos rfl).mpr ?_)⟩
      refine ⟨_, rfl, _, _, rfl, rfl, _, rfl, _, _, rfl, ⟨by omega, by omega, by omega, by omega⟩, ?_⟩
      rw [show (((k : Nat) : Int) - ((i : Int) + 1)).toNat = k - (i + 1) by omega]
      refine turns (n := k - (i + 1)) (fun j H' => Pw i j H') p2 ?_ ?_
      · rintro j H4 hj ⟨ps, prs, e4, h4, rows, are, all, few⟩
        refine ⟨hj, ?_⟩
        rintro v H5 ⟨rfl, rfl⟩
        refine ⟨rfl, yes ((if_pos rfl).mpr ?_)⟩
        refine ⟨_, rfl, _, rfl, (by show 2 ≤ sizeLine; decide), fun t ht => ?_⟩
        have ev : (i : Int) + 1 + (j : Int) = ((i + 1 + j : Nat) : Int) := by omega
        rw [ev]
        have e5 := same_new (o := HO.tup [V.int (i : Nat), V.int ((i + 1 + j : Nat) : Int)]) ht
        have u5 : SqT K (upd H5 t (HO.tup [V.int (i : Nat), V.int ((i + 1 + j : Nat) : Int)])) t ([((i : Nat) : Int), ((i + 1 + j : Nat) : Int)].map V.int) := SqT.of upd_same
        generalize upd H5 t (HO.tup [V.int (i : Nat), V.int ((i + 1 + j : Nat) : Int)]) = H6 at *
        have lp := rows.length
        have nD : H D0 = none := hD
        have up : ∀ {p : Addr} {xs : List V}, SqT K H6 p xs → SqT K (upd H6 D0 (.lst (ps ++ [.ref t]))) p xs := fun h => sqT_lst (e5 _ _ h4) h
        refine ⟨ps, e5 _ _ h4, by rw [sizeLine_eq]; omega, ps ++ [.ref t], prs ++ [[((i : Nat) : Int), ((i + 1 + j : Nat) : Int)]], same_put (e4.trans e5) nD, upd_same, RowsBy.snoc (up u5) (rows.imp fun _ _ z => up (sqT_same e5 z)), fun pr hpr => ?_, fun a b ab bk h => ?_, by rw [List.length_append, List.length_singleton]; omega⟩
        · rcases List.mem_append.mp hpr with h | h
          · exact are pr h
          · exact ⟨i, i + 1 + j, List.mem_singleton.mp h, by omega, by omega⟩
        · by_cases h1 : a = i ∧ b = i + 1 + j
          · obtain ⟨rfl, rfl⟩ := h1
            exact List.mem_append_right _ (List.mem_singleton.mpr rfl)
          · exact List.mem_append_left _ (all a b ab bk (by omega))
      · rintro H4 ⟨ps, prs, e4, h4, rows, are, all, few⟩
        refine ⟨Nat.le_refl _, ps, prs, e4, h4, rows, are, fun a b ab bk h => all a b ab bk (by omega), ?_⟩
        omega
    · rintro H2 ⟨ps, prs, e, h2, rows, are, all, few⟩
      exact ⟨Nat.le_refl _, q D0 H2 ps prs e hD h2 rows ⟨are, fun a b ab bk => all a b ab bk (by omega), by omega⟩⟩
end
end KJ
/-! machines and counters are made -/
namespace KJ
open PySem PySem.Spec PyProof.Rows L2 Kx RZ
structure Mks (P : Program) (w : World) (K : PySem.W.Frag) (mg : Str → Option Value) (base : Heap) (a : Ad) (CM : Addr) : Prop where
  mac : ∃ (f : Addr) (fd : FuncData), Mk K CM f ∧ FnOk P w K mg base (L2N.CX P w) 5 f fd ["self", "tables"] (spMachine K a CM) ∧ Binds K fd ["self", "tables"] []
section
variable {X : Cx} {a : Ad} {CM : Addr} {E : XK} {p pos : Pos} {e e2 : Expr} {t tk : TA} {n : Nat}
theorem pe_mac (M : Mks X.prog X.w X.K X.mg X.base a CM) (TM : ClsM X.K X.mg CM) (hr : Room n X.A) (hx : Passes (L2N.CX X.prog X.w) X E) (ha : PA X [e] t) (hn : 6 ≤ n := by decide) (hg : Gl X "Machine" := by rfl)
    (he : starEach [e] X.env = (false, eval e X.env) :: starEach [] X.env := by rfl) (hpl : (backTo pos (starEach [] X.env)).any (·.1) = false := by rfl) {K : PySem.W.Frag} (hK : X.K = K := by rfl) : PE X (.Call (.Name "Machine" p) [e] [] pos) (tMake CM (spMachine K a CM) [] E t) := by
  subst hK
  obtain ⟨f, fd, h1, h2, h3⟩ := M.mac
  exact pe_make h1 h2 (hr.mono hn) hg TM.at_ h3 .nil hx ha (by decide) he hpl
end
theorem pzN {X : Cx} : Passes (L2N.CX X.prog X.w) X fun _ _ _ => False := L2N.passes_call (fun _ _ ⟨_, _, _, _, _, _, _, _, _, _, _, _, _, _, _, _, z⟩ => z.elim) fun _ _ _ _ z => z
theorem kns_ints {K : PySem.W.Frag} {H : Hp} {ns : List Int} {m : Nat} : Kns K H (some (ns.map V.int)) m := fun xs q _ x hx => by
  cases q
  obtain ⟨n, _, rfl⟩ := List.mem_map.mp hx
  exact .int n
theorem items_of {K : PySem.W.Frag} {H : Hp} : ∀ {vs : List V} {ts : List (List Int)}, RowsBy (Sq K H) vs ts → Items K H vs (ts.map fun t => some (t.map V.int))
  | [], [], _ => trivial
  | _ :: _, _ :: _, ⟨⟨q, h1, h2⟩, h⟩ => ⟨⟨by rw [h1]; exact .seq h2, kns_ints⟩, items_of h⟩
  | [], _ :: _, h => h.elim
  | _ :: _, [], h => h.elim
theorem isTab_of {n : Nat} {t : List Int} (n1 : 1 ≤ n) (n8 : n ≤ 8) (l : t.length = n) (b : ∀ x ∈ t, 0 ≤ x ∧ x < (n : Int)) : isTab n (some (t.map V.int)) = true := by
  rw [isTab_some, inLen_some, List.length_map, l, fnb_of b, decide_eq_true (by omega), decide_eq_true (by omega)]
  simp
theorem new_ins {C x dx : Addr} {H : Hp} (hx : H x = none) (hd : H dx = none) (ne : dx ≠ x) : Same H (upd (upd H dx (.own x)) x (.ins C dx [])) := (same_new hd).trans (same_new (by rw [upd_ne (Ne.symm ne)]; exact hx))
theorem mc_make {K : PySem.W.Frag} {a : Ad} {CM x dx b : Addr} {H : Hp} {xs : List V} {n : Nat} {ts : List (List Int)} {E : XK} {Q : Hp → Prop} (ok : Mok n ts) (hb : Sq K H b xs) (rows : RowsBy (Sq K H) xs ts) (hx : H x = none) (hd : H dx = none) (ne : dx ≠ x)
    (q : ∀ H', Same H H' → McAt K CM H' x n ts → Q H') : spMachine K a CM [.ref x, .ref b] (upd (upd H dx (.own x)) x (.ins CM dx [])) (fun v H2 => v = .non ∧ Q H2) E := by
  have e := new_ins (C := CM) hx hd ne
  have len := rows.length
  have l1 := ok.l1
  have l4 := ok.l4
  have it := items_of (rows.imp fun _ _ z => z.same e)
  have l0 : lenAt (ts.map fun t => some (t.map V.int)) = n := by
    obtain ⟨t0, ht0⟩ : ∃ t0, ts[0]? = some t0 := ⟨ts[0], List.getElem?_eq_getElem (by omega)⟩
    unfold lenAt
    rw [List.getElem?_map, ht0]
    show (t0.map V.int).length = n
    rw [List.length_map]
    exact ok.len _ (List.mem_of_getElem? ht0)
  have nb : badTab n (ts.map fun t => some (t.map V.int)) = none := badTab_none.mpr fun o ho => by
    obtain ⟨t, ht, rfl⟩ := List.mem_map.mp ho
    exact isTab_of ok.n1 ok.n8 (ok.len t ht) (ok.ent t ht)
  refine ⟨x, dx, .ref b, some xs, rfl, upd_same, .seq (hb.same e), fun z => ?_, fun ys ey _ => ?_⟩
  · rw [inLen_some, decide_eq_true (by omega), decide_eq_true (by omega)] at z
    cases z
  · cases ey
    refine ⟨_, it, fun i z => ?_, fun _ n' ts' ok' eo H' keep mc => ?_⟩
    · rw [l0, nb] at z
      cases z
    · have et := ints_map eo
      subst et
      have en : n' = n := by
        obtain ⟨t0, ht0⟩ : ∃ t0, ts[0]? = some t0 := ⟨ts[0], List.getElem?_eq_getElem (by omega)⟩
        rw [← ok.len _ (List.mem_of_getElem? ht0), ok'.len _ (List.mem_of_getElem? ht0)]
      subst en
      exact ⟨rfl, q H' (fun c o hc => keep c o (ne_of_none hc hx) (e _ _ hc)) mc⟩
end KJ
/-! tables that commute where it is come; walks over states and showings (pure) -/
namespace KJ
open L2 PySem PySem.Spec PyProof.Rows Kx RZ
/-- L goes into itself, and tables commute there -/
structure Cm (L : Int → Prop) (ts : List (List Int)) : Prop where
  cl : ∀ t ∈ ts, ∀ x, L x → L (tx t x)
  comm : ∀ t ∈ ts, ∀ u ∈ ts, ∀ x, L x → tx t (tx u x) = tx u (tx t x)
section
variable {L : Int → Prop} {ts us : List (List Int)} {t u : List Int} {x : Int} {c : List Nat}
theorem Cm.it_in (F : Cm L ts) (ht : t ∈ ts) (hx : L x) : ∀ m, L (it t m x)
  | 0 => hx
  | m + 1 => F.cl t ht _ (F.it_in ht hx m)
theorem Cm.it_tx (F : Cm L ts) (ht : t ∈ ts) (hu : u ∈ ts) (hx : L x) : ∀ m, it t m (tx u x) = tx u (it t m x)
  | 0 => rfl
  | m + 1 => by
    show tx t (it t m (tx u x)) = tx u (tx t (it t m x))
    rw [F.it_tx ht hu hx m]
    exact F.comm t ht u hu _ (F.it_in ht hx m)
theorem Cm.it_it (F : Cm L ts) (ht : t ∈ ts) (hu : u ∈ ts) (hx : L x) (m : Nat) : ∀ k, it t m (it u k x) = it u k (it t m x)
  | 0 => rfl
  | k + 1 => by
    show it t m (tx u (it u k x)) = tx u (it u k (it t m x))
    rw [F.it_tx ht hu (F.it_in hu hx k), F.it_it ht hu hx m k]
theorem Cm.by_in (F : Cm L ts) : ∀ {us : List (List Int)} {c : List Nat} {x : Int}, (∀ u ∈ us, u ∈ ts) → L x → L (byC us c x)
  | [], _, _, _, h => h
  | _ :: _, [], _, _, h => h
  | u :: us, c :: cs, x, s, h => F.by_in (us := us) (c := cs) (fun v hv => s v (List.mem_cons_of_mem _ hv)) (F.it_in (s u (List.mem_cons_self ..)) h c)
theorem Cm.by_it (F : Cm L ts) (ht : t ∈ ts) (m : Nat) : ∀ {us : List (List Int)} {c : List Nat} {x : Int}, (∀ u ∈ us, u ∈ ts) → L x → byC us c (it t m x) = it t m (byC us c x)
  | [], _, _, _, _ => rfl
  | _ :: _, [], _, _, _ => rfl
  | u :: us, c :: cs, x, s, h => by
    show byC us cs (it u c (it t m x)) = it t m (byC us cs (it u c x))
    rw [← F.it_it ht (s u (List.mem_cons_self ..)) h m c]
    exact F.by_it ht m (fun v hv => s v (List.mem_cons_of_mem _ hv)) (F.it_in (s u (List.mem_cons_self ..)) h c)
theorem Cm.by_set (F : Cm L ts) : ∀ {us : List (List Int)} {c : List Nat} {x : Int} {d a : Nat}, (∀ u ∈ us, u ∈ ts) → c.length = us.length → d < us.length → L x → byC us (c.set d a) x = it (us.getD d []) a (byC us (c.set d 0) x)
  | [], _, _, _, _, _, _, h, _ => absurd h (Nat.not_lt_zero _)
  | _ :: _, [], _, _, _, _, h, _, _ => by cases h
  | u :: us, c :: cs, x, 0, a, s, l, hd, h => by
    show byC us cs (it u a x) = it u a (byC us cs x)
    exact F.by_it (s u (List.mem_cons_self ..)) a (fun v hv => s v (List.mem_cons_of_mem _ hv)) h
  | u :: us, c :: cs, x, d + 1, a, s, l, hd, h => by
    show byC us (cs.set d a) (it u c x) = it (us.getD d []) a (byC us (cs.set d 0) (it u c x))
    exact F.by_set (fun v hv => s v (List.mem_cons_of_mem _ hv)) (by simpa using l) (by simpa using hd) (F.it_in (s u (List.mem_cons_self ..)) h c)
end
/-- what a counter shows next -/
def lnx (r e : Nat) (v : Int) : Int := if r = 0 ∨ v + 1 < (e : Int) + r then v + 1 else e
/-- state, showing -/
abbrev Pnt := Int × List Int
structure WkP where
  ts : List (List Int)
  rs : List Nat
  es : List Nat
  s : Int
def WkP.nxt (W : WkP) (p : Pnt) (d : Nat) : Pnt := (tx (W.ts.getD d []) p.1, p.2.set d (lnx (W.rs.getD d 0) (W.es.getD d 0) (p.2.getD d 0)))
def WkP.p0 (W : WkP) : Pnt := (W.s, List.replicate W.ts.length 0)
/-- what rows lead to -/
inductive WkP.Pt (W : WkP) : Pnt → Prop
  | start : W.Pt W.p0
  | step (p : Pnt) (d : Nat) (hd : d < W.ts.length) (h : W.Pt p) : W.Pt (W.nxt p d)
/-- every showing tells the state -/
def WkP.Tell (W : WkP) : Prop := ∀ sh x y, W.Pt (x, sh) → W.Pt (y, sh) → x = y
theorem getD_set {α : Type} {l : List α} {d k : Nat} {v z : α} (hd : d < l.length) : (l.set d v).getD k z = if k = d then v else l.getD k z := by
  rw [List.getD_eq_getElem?_getD, List.getElem?_set]
  by_cases e : d = k
  · rw [if_pos e, if_pos (by omega), if_pos e.symm]
    rfl
  · rw [if_neg e, if_neg (Ne.symm e), List.getD_eq_getElem?_getD]
theorem getD_mem {α : Type} {l : List α} {d : Nat} {z : α} (h : d < l.length) : l.getD d z ∈ l := by
  rw [List.getD_eq_getElem?_getD, List.getElem?_eq_getElem h]
  exact List.getElem_mem h
structure Wk (n : Nat) (W : WkP) : Prop where
  ok : Mok n W.ts
  s0 : 0 ≤ W.s
  s1 : W.s < (n : Int)
  lr : W.rs.length = W.ts.length
  le : W.es.length = W.ts.length
  r1 : ∀ r ∈ W.rs, 1 ≤ r
section
variable {n : Nat} {W : WkP} {x y : Int} {sh : List Int} {d : Nat}
theorem Wk.rat (K : Wk n W) (hd : d < W.ts.length) : 1 ≤ W.rs.getD d 0 := K.r1 _ (getD_mem (by rw [K.lr]; exact hd))
theorem lnx_rng {r e : Nat} {v : Int} (r1 : 1 ≤ r) (v0 : 0 ≤ v) (v1 : v < (e : Int) + r) : 0 ≤ lnx r e v ∧ lnx r e v < (e : Int) + r := by
  unfold lnx
  split <;> omega
/-- where a counter shows -/
structure Rng (W : WkP) (p : Pnt) : Prop where
  len : p.2.length = W.ts.length
  rng : ∀ d, d < W.ts.length → 0 ≤ p.2.getD d 0 ∧ p.2.getD d 0 < (W.es.getD d 0 : Int) + W.rs.getD d 0
  rch : Rch W.ts W.s p.1
theorem Wk.rng (K : Wk n W) {p : Pnt} (h : W.Pt p) : Rng W p := by
  induction h with
  | start =>
    refine ⟨List.length_replicate, fun d hd => ?_, .refl⟩
    have := K.rat hd
    show 0 ≤ (List.replicate W.ts.length (0 : Int)).getD d 0 ∧ (List.replicate W.ts.length (0 : Int)).getD d 0 < _
    rw [List.getD_eq_getElem?_getD, List.getElem?_replicate, if_pos hd]
    show (0 : Int) ≤ 0 ∧ (0 : Int) < _
    omega
  | step p d hd _ ih =>
    refine ⟨by show (p.2.set d _).length = _; rw [List.length_set]; exact ih.len, fun k hk => ?_, ih.rch.step hd⟩
    show 0 ≤ (p.2.set d _).getD k 0 ∧ (p.2.set d _).getD k 0 < _
    rw [getD_set (by rw [ih.len]; exact hd)]
    by_cases e : k = d
    · rw [if_pos e, e]
      have := ih.rng d hd
      exact lnx_rng (K.rat hd) this.1 this.2
    · rw [if_neg e]
      exact ih.rng k hk
theorem pt_row (row : List Int) : ∀ {x : Int} {sh : List Int}, RowOk W.ts.length row → W.Pt (x, sh) → ∃ sh', W.Pt (ledTo W.ts x row, sh') := by
  induction row with
  | nil => exact fun _ h => ⟨_, h⟩
  | cons d row ih =>
    intro x sh ok h
    have hd := ok d (List.mem_cons_self ..)
    exact ih (fun e he => ok e (List.mem_cons_of_mem _ he)) (.step _ d.toNat (by omega) h)
theorem rch_pt (h : Rch W.ts W.s x) : ∃ sh, W.Pt (x, sh) := by
  obtain ⟨row, ok, rfl⟩ := h
  exact pt_row row ok .start
/-- a counter's numbers, one by one -/
def lit (r e : Nat) : Nat → Int → Int
  | 0, v => v
  | m + 1, v => lnx r e (lit r e m v)
theorem lit_rng {r e : Nat} {v : Int} (r1 : 1 ≤ r) (v0 : 0 ≤ v) (v1 : v < (e : Int) + r) : ∀ m, 0 ≤ lit r e m v ∧ lit r e m v < (e : Int) + r
  | 0 => ⟨v0, v1⟩
  | m + 1 => lnx_rng r1 (lit_rng r1 v0 v1 m).1 (lit_rng r1 v0 v1 m).2
theorem lit_ge {r e : Nat} {v : Int} (r1 : 1 ≤ r) (v0 : 0 ≤ v) (v1 : v < (e : Int) + r) : ∀ m, lit r e m v = v + (m : Int) ∨ (e : Int) ≤ lit r e m v
  | 0 => .inl (by show v = v + ((0 : Nat) : Int); omega)
  | m + 1 => by
    have ih := lit_ge r1 v0 v1 m
    show lnx r e (lit r e m v) = v + ((m + 1 : Nat) : Int) ∨ (e : Int) ≤ lnx r e (lit r e m v)
    unfold lnx
    split <;> omega
theorem lit_mod {r e : Nat} {v : Int} (r1 : 1 ≤ r) (v0 : (e : Int) ≤ v) (v1 : v < (e : Int) + r) : ∀ m : Nat, lit r e m v = e + (v - e + m) % (r : Int)
  | 0 => by
    show v = e + (v - e + ((0 : Nat) : Int)) % (r : Int)
    rw [Int.emod_eq_of_lt (by omega) (by omega)]
    omega
  | m + 1 => by
    have ih := lit_mod r1 v0 v1 m
    show lnx r e (lit r e m v) = _
    rw [ih]
    have p : (0 : Int) < (r : Int) := by omega
    have a := Int.emod_nonneg (v - e + m) (show (r : Int) ≠ 0 by omega)
    have b := Int.emod_lt_of_pos (v - e + m) p
    have s : (v - (e : Int) + ((m + 1 : Nat) : Int)) % (r : Int) = ((v - (e : Int) + (m : Int)) % (r : Int) + 1) % (r : Int) := by
      rw [Int.emod_add_emod]
      congr 1
      omega
    rw [s]
    generalize (v - (e : Int) + (m : Int)) % (r : Int) = q at a b
    unfold lnx
    by_cases z : q + 1 < (r : Int)
    · rw [if_pos (.inr (by omega)), Int.emod_eq_of_lt (by omega) z]
      omega
    · have : q + 1 = (r : Int) := by omega
      rw [if_neg (by omega), this, Int.emod_self]
      omega
theorem lit_back {r e : Nat} {v : Int} (r1 : 1 ≤ r) (v0 : (e : Int) ≤ v) (v1 : v < (e : Int) + r) : lit r e r v = v := by
  rw [lit_mod r1 v0 v1, Int.add_emod_right, Int.emod_eq_of_lt (by omega) (by omega)]
  omega
theorem lit_add {r e : Nat} {v : Int} (i : Nat) : ∀ j, lit r e (i + j) v = lit r e j (lit r e i v)
  | 0 => rfl
  | j + 1 => congrArg (lnx r e) (lit_add i j)
theorem set_self {α : Type} {l : List α} {d : Nat} {z : α} (hd : d < l.length) : l.set d (l.getD d z) = l := by
  rw [List.getD_eq_getElem?_getD, List.getElem?_eq_getElem hd]
  exact List.set_getElem_self hd
theorem Wk.go (K : Wk n W) (hd : d < W.ts.length) (h : W.Pt (x, sh)) : ∀ m, W.Pt (it (W.ts.getD d []) m x, sh.set d (lit (W.rs.getD d 0) (W.es.getD d 0) m (sh.getD d 0)))
  | 0 => by
    show W.Pt (x, sh.set d (sh.getD d 0))
    rw [set_self (by rw [(K.rng h).len]; exact hd)]
    exact h
  | m + 1 => by
    have ih := K.go hd h m
    have l : d < sh.length := by rw [(K.rng h).len]; exact hd
    have := WkP.Pt.step _ d hd ih
    unfold WkP.nxt at this
    dsimp only at this
    rw [List.set_set, getD_set l, if_pos rfl] at this
    exact this
/-- where showings tell states, rounds and rests fit -/
theorem Wk.fits (K : Wk n W) (tl : W.Tell) (hd : d < W.ts.length) (hx : Rch W.ts W.s x) : it (W.ts.getD d []) (W.es.getD d 0 + W.rs.getD d 0) x = it (W.ts.getD d []) (W.es.getD d 0) x := by
  obtain ⟨sh, h⟩ := rch_pt hx
  have r1 := K.rat hd
  have v : 0 ≤ sh.getD d 0 ∧ sh.getD d 0 < (W.es.getD d 0 : Int) + W.rs.getD d 0 := (K.rng h).rng d hd
  have g1 := K.go hd h (W.es.getD d 0)
  have g2 := K.go hd h (W.es.getD d 0 + W.rs.getD d 0)
  rw [lit_add] at g2
  have rg := lit_rng r1 v.1 v.2 (W.es.getD d 0)
  have ge : (W.es.getD d 0 : Int) ≤ lit (W.rs.getD d 0) (W.es.getD d 0) (W.es.getD d 0) (sh.getD d 0) := by
    rcases lit_ge r1 v.1 v.2 (W.es.getD d 0) with z | z <;> omega
  rw [lit_back r1 ge rg.2] at g2
  exact tl _ _ _ g2 g1
theorem natsOf_set {l : List Int} {d : Nat} {v : Int} : (l.map Int.toNat).set d v.toNat = (l.set d v).map Int.toNat := by rw [List.map_set]
theorem nats_getD {l : List Int} {d : Nat} : (l.map Int.toNat).getD d 0 = (l.getD d 0).toNat := by
  rw [List.getD_eq_getElem?_getD, List.getElem?_map, List.getD_eq_getElem?_getD]
  cases l[d]? <;> rfl
/-- where rounds and rests fit and tables commute, the state is what the showing's numbers lead to -/
theorem Wk.state (K : Wk n W) (F : Cm (Rch W.ts W.s) W.ts) (per : ∀ d, d < W.ts.length → ∀ x, Rch W.ts W.s x → it (W.ts.getD d []) (W.es.getD d 0 + W.rs.getD d 0) x = it (W.ts.getD d []) (W.es.getD d 0) x) {p : Pnt} (h : W.Pt p) : p.1 = byC W.ts (p.2.map Int.toNat) W.s := by
  induction h with
  | start =>
    show W.s = byC W.ts ((List.replicate W.ts.length (0 : Int)).map Int.toNat) W.s
    rw [List.map_replicate]
    generalize W.ts = us
    generalize W.s = s
    induction us with
    | nil => rfl
    | cons u us ih => exact ih
  | step p d hd hp ih =>
    have R := K.rng hp
    have r1 := K.rat hd
    have v := R.rng d hd
    have l : d < p.2.length := by rw [R.len]; exact hd
    have lm : (p.2.map Int.toNat).length = W.ts.length := by rw [List.length_map]; exact R.len
    have all : ∀ u ∈ W.ts, u ∈ W.ts := fun _ z => z
    have e1 := F.by_set (us := W.ts) (c := p.2.map Int.toNat) (d := d) (a := (p.2.getD d 0).toNat) all lm hd .refl
    have self : (p.2.map Int.toNat).set d (p.2.getD d 0).toNat = p.2.map Int.toNat := by rw [← nats_getD]; exact set_self (by rw [lm]; exact hd)
    rw [self] at e1
    have e2 := F.by_set (us := W.ts) (c := p.2.map Int.toNat) (d := d) (a := (lnx (W.rs.getD d 0) (W.es.getD d 0) (p.2.getD d 0)).toNat) all lm hd .refl
    show tx (W.ts.getD d []) p.1 = byC W.ts ((p.2.set d _).map Int.toNat) W.s
    rw [← natsOf_set, e2, ih, e1]
    have hy : Rch W.ts W.s (byC W.ts ((p.2.map Int.toNat).set d 0) W.s) := F.by_in all .refl
    generalize byC W.ts ((p.2.map Int.toNat).set d 0) W.s = y at hy
    show it (W.ts.getD d []) ((p.2.getD d 0).toNat + 1) y = _
    unfold lnx
    split
    · congr 1
      omega
    · rw [show (p.2.getD d 0).toNat + 1 = W.es.getD d 0 + W.rs.getD d 0 by omega, per d hd y hy]
      congr 1
theorem Wk.tells (K : Wk n W) (F : Cm (Rch W.ts W.s) W.ts) (per : ∀ d, d < W.ts.length → ∀ x, Rch W.ts W.s x → it (W.ts.getD d []) (W.es.getD d 0 + W.rs.getD d 0) x = it (W.ts.getD d []) (W.es.getD d 0) x) : W.Tell := fun sh x y hx hy => (K.state F per hx).trans (K.state F per hy).symm
end
end KJ
/-! how long the texts of data are; a word between two statements; parts of lists -/
namespace Kx
open L2 PySem PySem.Spec PyProof.Rows
/-- behind a statement a word of one's own -/
theorem ps_mid {X : Cx} {st : Stmt} {t : TS} (h : PS X st t) : PS X st fun E σ H => ∃ N : L2.St → Hp → Prop, t { E with nx := N } σ H ∧ ∀ σ' H', N σ' H' → E.nx σ' H' := by
  refine ⟨fun pins s σ H E I ⟨N, q, k⟩ => wpAny_mono (h.run pins s σ H { E with nx := N } I q) (fun f s' z => ?_) fun _ _ z => z⟩
  match f, z with
  | .next, ⟨σ', H', J, n⟩ => exact ⟨σ', H', J, k σ' H' n⟩
  | .brk, z => exact z
  | .cont, z => exact z
  | .ret _, z => exact z
theorem ends_nx {E : Ends} {N : L2.St → Hp → Prop} : ({ E with nx := N } : Ends).nx = N := rfl
section
variable {xs : List V} {i : Nat}
theorem cut_to (h : i ≤ xs.length) : cutV xs none (some (i : Int)) = xs.take i := by
  unfold cutV
  rw [HT.sIx_none, HT.sIx_nat, List.drop_zero, Nat.sub_zero, Nat.min_eq_left h]
theorem cut_from (h : i ≤ xs.length) : cutV xs (some (i : Int)) none = xs.drop i := by
  unfold cutV
  rw [HT.sIx_none, HT.sIx_nat, Nat.min_eq_left h]
  exact List.take_of_length_le (by rw [List.length_drop]; exact Nat.le_refl _)
end
/-- d shows, within m levels, as a text of at most L signs -/
structure OkD (m L : Nat) (d : PyData) : Prop where
  sh : d.showable = true
  nd : d.hasDict = false
  deep : d.depth ≤ m
  fit : d.shown.length ≤ L
structure OkA (m L : Nat) (ds : List PyData) : Prop where
  sh : PyData.showableAll ds = true
  nd : PyData.hasDictAll ds = false
  deep : PyData.depthAll ds ≤ m
  fit : piled (PyData.shownAll ds) ≤ L
theorem OkD.mono {m n L M : Nat} {d : PyData} (h : OkD m L d) (h1 : m ≤ n) (h2 : L ≤ M) : OkD n M d := ⟨h.sh, h.nd, Nat.le_trans h.deep h1, Nat.le_trans h.fit h2⟩
theorem OkA.mono {m n L M : Nat} {d : List PyData} (h : OkA m L d) (h1 : m ≤ n) (h2 : L ≤ M) : OkA n M d := ⟨h.sh, h.nd, Nat.le_trans h.deep h1, Nat.le_trans h.fit h2⟩
theorem okD_int {i : Int} (h : i.natAbs < 2 ^ 200) : OkD 0 1921 (.int i) := by
  have lg : i.natAbs.log2 < 1920 := by
    by_cases z : i.natAbs = 0
    · rw [z]
      decide
    · exact (Nat.log2_lt z).mpr (Nat.lt_of_lt_of_le h (Nat.pow_le_pow_right (by decide) (by decide)))
  refine ⟨?_, by simp only [PyData.hasDict], by simp only [PyData.depth]; exact Nat.le_refl _, ?_⟩
  · simp only [PyData.showable]
    exact decide_eq_true lg
  · simp only [PyData.shown]
    exact int_text_len_1921 lg
theorem okD_small {i : Int} (h : -1000000 ≤ i ∧ i ≤ 1000000) : OkD 0 1921 (.int i) := okD_int (Nat.lt_of_lt_of_le (show i.natAbs < 2 ^ 20 by omega) (Nat.pow_le_pow_right (by decide) (by decide)))
theorem okD_non : OkD 0 4 .none := ⟨rfl, by simp only [PyData.hasDict], by simp only [PyData.depth]; exact Nat.le_refl _, by decide +kernel⟩
theorem okD_bl (b : Bool) : OkD 0 5 (.bool b) := ⟨rfl, by simp only [PyData.hasDict], by simp only [PyData.depth]; exact Nat.le_refl _, by cases b <;> decide +kernel⟩
theorem okD_str {z : Str} {L : Nat} (h : (reprText z).length ≤ L) : OkD 0 L (.str z) := ⟨rfl, by simp only [PyData.hasDict], by simp only [PyData.depth]; exact Nat.le_refl _, by simp only [PyData.shown]; exact h⟩
theorem okA_nil {m : Nat} : OkA m 0 [] := ⟨by simp only [PyData.showableAll], by simp only [PyData.hasDictAll], by simp only [PyData.depthAll]; exact Nat.zero_le _, by simp only [PyData.shownAll]; exact Nat.le_refl _⟩
theorem okA_cons {m L M : Nat} {d : PyData} {ds : List PyData} (h : OkD m L d) (k : OkA m M ds) : OkA m (L + 2 + M) (d :: ds) := by
  refine ⟨?_, ?_, ?_, ?_⟩
  · simp only [PyData.showableAll, h.sh, k.sh, Bool.and_self]
  · simp only [PyData.hasDictAll, h.nd, k.nd, Bool.or_self]
  · simp only [PyData.depthAll]
    exact Nat.max_le.mpr ⟨h.deep, k.deep⟩
  · simp only [PyData.shownAll]
    rw [piled_cons]
    have := h.fit
    have := k.fit
    omega
theorem textFrom_most : ∀ (ts : List Str) (k : Nat) (acc : Str), (textFrom k acc ts).length ≤ acc.length + piled ts
  | [], k, acc => Nat.le_refl _
  | t :: r, k, acc => by
    have ih := textFrom_most r (k + 1) (acc ++ (if k > 0 then ", " else "" : String) ++ t)
    rw [strLen_append, strLen_append] at ih
    have e : (((if k > 0 then ", " else "" : String) : Str)).length ≤ 2 := by split <;> decide
    rw [piled_cons]
    change (textFrom (k + 1) _ r).length ≤ _
    omega
theorem okD_list {m L : Nat} {ds : List PyData} (h : OkA m L ds) : OkD (m + 1) (L + 4) (.list ds) := by
  refine ⟨by simp only [PyData.showable]; exact h.sh, by simp only [PyData.hasDict]; exact h.nd, by simp only [PyData.depth]; exact Nat.succ_le_succ h.deep, ?_⟩
  simp only [PyData.shown]
  unfold listText
  have := textFrom_most (PyData.shownAll ds) 0 "["
  have e1 : (("[" : String) : Str).length = 1 := rfl
  have e2 : (("]" : String) : Str).length = 1 := rfl
  have := h.fit
  rw [strLen_append, e2]
  have e3 : (Str.ofString "[").length = 1 := rfl
  omega
theorem okD_tuple {m L : Nat} {ds : List PyData} (h : OkA m L ds) : OkD (m + 1) (L + 4) (.tuple ds) := by
  refine ⟨by simp only [PyData.showable]; exact h.sh, by simp only [PyData.hasDict]; exact h.nd, by simp only [PyData.depth]; exact Nat.succ_le_succ h.deep, ?_⟩
  simp only [PyData.shown]
  unfold tupleText
  have e1 : (("(" : String) : Str).length = 1 := rfl
  have e3 : (((if (PyData.shownAll ds).length == 1 then ",)" else ")" : String) : Str)).length ≤ 2 := by split <;> decide
  have := h.fit
  simp only [strLen_append, e1]
  by_cases z : PyData.shownAll ds = []
  · have e4 : (Str.join ", " (PyData.shownAll ds)).length = 0 := by rw [z]; rfl
    omega
  · have := join_length_add _ z
    omega
theorem okA_ints : ∀ {ns : List Int}, (∀ n ∈ ns, -1000000 ≤ n ∧ n ≤ 1000000) → OkA 0 (1923 * ns.length) (ns.map PyData.int)
  | [], _ => okA_nil
  | n :: ns, h => (okA_cons (okD_small (h n List.mem_cons_self)) (okA_ints fun x hx => h x (List.mem_cons_of_mem _ hx))).mono (Nat.le_refl _) (by rw [List.length_cons]; omega)
theorem okD_nums {ns : List Int} (h : ∀ n ∈ ns, -1000000 ≤ n ∧ n ≤ 1000000) (l : ns.length ≤ 8) : OkD 1 15400 (dNums ns) := (okD_tuple (okA_ints h)).mono (Nat.le_refl _) (by omega)
theorem okA_rows : ∀ {rs : List (List Int)}, (∀ r ∈ rs, r.length ≤ 8 ∧ ∀ n ∈ r, -1000000 ≤ n ∧ n ≤ 1000000) → OkA 1 (15402 * rs.length) (rs.map dNums)
  | [], _ => okA_nil
  | r :: rs, h => (okA_cons (okD_nums (h r List.mem_cons_self).2 (h r List.mem_cons_self).1) (okA_rows fun x hx => h x (List.mem_cons_of_mem _ hx))).mono (Nat.le_refl _) (by rw [List.length_cons]; omega)
theorem okD_rows {rs : List (List Int)} (h : ∀ r ∈ rs, r.length ≤ 8 ∧ ∀ n ∈ r, -1000000 ≤ n ∧ n ≤ 1000000) (l : rs.length ≤ 1000) : OkD 2 15402004 (dRows rs) := (okD_tuple (okA_rows h)).mono (Nat.le_refl _) (by omega)
end Kx
/-! lists of whole numbers: as data, == -/
namespace Kx
open L2 PySem PySem.Spec PyProof.Rows
abbrev lNums (ns : List Int) : PyData := .list (ns.map PyData.int)
theorem dp_lnums {K : PySem.W.Frag} {H : Hp} {a : Addr} {ns : List Int} (h : SqL K H a (ns.map V.int)) : Dp K H (.ref a) (lNums ns) := .lst h (dpAll_nums ns)
theorem shaped_lnums (ns : List Int) : SeqAt.shaped (lNums ns) = true := by
  unfold SeqAt.shaped
  simp only [PyData.canLay0, PyData.depth, lay_nums, deep_nums]
  decide
/-- t == u: lists of whole numbers -/
def rNumsEqL (K : PySem.W.Frag) : R2 := fun x y H Q => ∃ (a b : Addr) (xs ys : List Int), x = .ref a ∧ y = .ref b ∧ SqL K H a (xs.map V.int) ∧ SqL K H b (ys.map V.int) ∧ Q (.bl (decide (xs = ys))) H
theorem op_eqNumsL {X : Cx} (hu : X.A.units + 64 < cLine) : OpR X (compareOp .Eq) (rNumsEqL X.K) := by
  intro pins st σ H x y v u Q I rx ry h
  obtain ⟨a, b, xs, ys, rfl, rfl, h1, h2, q⟩ := h
  refine op_eqD hu pins st σ H _ _ v u Q I rx ry ⟨_, _, dp_lnums h1, dp_lnums h2, shaped_lnums xs, shaped_lnums ys, ?_⟩
  simp only [PyData.eqv, eqv_nums]
  exact q
end Kx
/-! the law's draws -/
namespace KJ
open PySem PySem.Spec PyProof.Rows L2 Kx RZ
/-- a source of draws -/
def bx (t : Int × Int) : HO := .lst [.int t.1, .int t.2]
/-- from H to H' only the source at b has moved, things were made -/
def Mv (b : Addr) (H H' : Hp) : Prop := (∀ c o, c ≠ b → H c = some o → H' c = some o) ∧ ∃ t, H' b = some (bx t)
theorem Mv.refl {b : Addr} {H : Hp} {t : Int × Int} (h : H b = some (bx t)) : Mv b H H := ⟨fun _ _ _ h => h, t, h⟩
theorem Mv.trans {b : Addr} {H H1 H2 : Hp} (h : Mv b H H1) (g : Mv b H1 H2) : Mv b H H2 := ⟨fun c o ne q => g.1 c o ne (h.1 c o ne q), g.2⟩
theorem Mv.same {b : Addr} {H H1 H2 : Hp} (h : Mv b H H1) (g : Same H1 H2) : Mv b H H2 := ⟨fun c o ne q => g c o (h.1 c o ne q), h.2.elim fun t q => ⟨t, g _ _ q⟩⟩
theorem Mv.upd {b : Addr} {H : Hp} (t : Int × Int) : Mv b H (L2.upd H b (bx t)) := ⟨fun c o ne q => by rw [upd_ne ne]; exact q, t, upd_same⟩
section
variable {K : PySem.W.Frag} {b a : Addr} {H H' : Hp} {t : Int × Int} {xs : List V}
theorem Mv.rd {u : HO} (m : Mv b H H') (hb : H b = some (bx t)) (n1 : ∀ ys, u ≠ .lst ys) (h : Rd H a u) : Rd H' a u := by
  rcases h with h | ⟨z, h⟩
  · exact .inl (m.1 _ _ (ne_of h hb (n1 _)) h)
  · exact .inr ⟨z, m.1 _ _ (ne_of h hb (fun z => nomatch z)) h⟩
theorem Mv.sqT (m : Mv b H H') (hb : H b = some (bx t)) (h : SqT K H a xs) : SqT K H' a xs := h.imp (m.rd hb fun _ z => nomatch z) id
theorem Mv.sqL (m : Mv b H H') (ne : a ≠ b) (h : SqL K H a xs) : SqL K H' a xs := h.imp (fun h => h.elim (fun h => .inl (m.1 _ _ ne h)) fun ⟨z, h⟩ => .inr ⟨z, m.1 _ _ ne h⟩) id
theorem Mv.tupD (m : Mv b H H') (hb : H b = some (bx t)) (h : TupD H a xs) : TupD H' a xs := h.elim fun o h => ⟨o, m.1 _ _ (ne_of h.1 hb (fun z => nomatch z)) h.1, h.2⟩
theorem Mv.mc {C c : Addr} {n : Nat} {ts : List (List Int)} (m : Mv b H H') (hb : H b = some (bx t)) (h : McAt K C H c n ts) : McAt K C H' c n ts := by
  obtain ⟨ok, dx, p, ps, h1, h2, h3⟩ := h
  exact ⟨ok, dx, p, ps, m.1 _ _ (ne_of h1 hb (fun z => nomatch z)) h1, m.sqT hb h2, h3.imp fun _ _ q => m.sqT hb q⟩
end
def spTake : Sp := fun vs H Q _ => ∃ (b : Addr) (t : Int × Int) (many : Int), vs = [.ref b, .int many] ∧ H b = some (bx t) ∧ 0 < many ∧ many < 1073741824 ∧
  ∀ (r : Int) (H' : Hp), 0 ≤ r → r < many → Mv b H H' → Q (.int r) H'
def spPick (K : PySem.W.Frag) : Sp := fun vs H Q _ => ∃ (b a : Addr) (t : Int × Int) (xs : List V), vs = [.ref b, .ref a] ∧ H b = some (bx t) ∧ a ≠ b ∧ SqL K H a xs ∧ 0 < xs.length ∧ xs.length < 1073741824 ∧
  ∀ (v : V) (H' : Hp), v ∈ xs → Mv b H H' → Q v H'
def spBox (K : PySem.W.Frag) : Sp := fun vs H Q _ => ∃ (a : Addr) (ns : List Int) (k : Nat), vs = [.ref a, .int (k : Int)] ∧ SqL K H a (ns.map V.int) ∧ ns.length ≤ 63 ∧
  ∀ (H' : Hp) (b : Addr) (t : Int × Int), Same H H' → H b = none → H' b = some (bx t) → Q (.ref b) H'
section
variable {P : Program} {w : World} {K : PySem.W.Frag} {mg : Str → Option Value} {base : Heap} {f : Addr} {fd : FuncData} {a : Ad} {C CM : Addr}
theorem sc_law_take : FnScope ["box", "many", "digit", "raw"] ["box", "many"] (defScope s_law_take) := ⟨rfl, rfl, rfl, by decide +kernel, rfl, by decide +kernel, by decide +kernel⟩
theorem ok_take (F : FnP K "_law_take" s_law_take f fd) (T : Mg mg) : FnOk P w K mg base CX0 1 f fd ["box", "many"] spTake := by
  refine F.ok sc_law_take (fun vs H Q E h => ?_) (fun cdv A outer s H vs Q E hr h => ?_)
  · obtain ⟨b, t, many, rfl, _⟩ := h
    rfl
  · obtain ⟨b, ⟨x, y⟩, many, rfl, hb, h0, h1, k⟩ := h
    refine ⟨_, PSs.nox (pss_cons (ps_if (pt_cmpR op_gt (pe_ix ix_list (pv 0) pe_int (fun _ _ => rfl)) pe_int (nomark _))
  (pss_cons (ps_set (i := 2) sc_law_take.nd rfl (by first | exact Or.inl rfl | exact Or.inr rfl) (pe_op op_mod (pe_callTy call_int1 (by rfl) T.z_int (by decide +kernel) (pa_cons (pe_ix ix_list (pv 0) pe_int (fun _ _ => rfl)) pa_nil)) (pv 1)))
  (pss_cons (ps_asg (pe_op op_fdivN (pe_ix ix_list (pv 0) pe_int (fun _ _ => rfl)) (pv 1)) (pg_sub (pv 0) pe_int set_list))
  (pss_one (ps_ret (pv 2)))))
  pss_nil)
  (pss_cons (ps_set (i := 3) sc_law_take.nd rfl (by first | exact Or.inl rfl | exact Or.inr rfl) (pe_op op_mod (pe_callTy call_int1 (by rfl) T.z_int (by decide +kernel) (pa_cons (pe_op op_add (pe_op op_mul (pe_ix ix_list (pv 0) pe_int (fun _ _ => rfl)) pe_int) pe_int) pa_nil)) pe_int))
  (pss_cons (ps_asg (pe_op op_add (pe_op op_mod (pe_callTy call_int1 (by rfl) T.z_int (by decide +kernel) (pa_cons (pe_op op_add (pe_op op_mul (pv 3) pe_int) pe_int) pa_nil)) pe_int) pe_int) (pg_sub (pv 0) pe_int set_list))
  (pss_one (ps_ret (pe_op op_mod (pe_callTy call_int1 (by rfl) T.z_int (by decide +kernel) (pa_cons (pe_op op_fdiv (pe_op op_add (pe_op op_mul (pv 3) pe_int) (pe_ix ix_list (pv 0) pe_int (fun _ _ => rfl))) pe_int) pa_nil)) (pv 1))))))), ?_⟩
    refine ⟨_, rfl, b, _, 0, _, rfl, rfl, SqL.of hb, rfl, _, _, rfl, rfl, _, rfl, ?_⟩
    refine ite2 (fun hx => ?_) (fun hx => ?_)
    · refine ⟨_, rfl, b, _, 0, _, rfl, rfl, SqL.of hb, rfl, .inl ⟨_, rfl, _, rfl, _, _, rfl, rfl, h0, ?_⟩⟩
      refine ⟨_, rfl, b, _, 0, _, rfl, rfl, SqL.of hb, rfl, _, rfl, _, _, rfl, rfl, ⟨by omega, by omega⟩, ?_⟩
      refine ⟨_, rfl, b, _, 0, 0, rfl, rfl, hb, rfl, ?_⟩
      exact ⟨_, rfl, k _ _ (Int.emod_nonneg _ (by omega)) (Int.emod_lt_of_pos _ h0) (Mv.upd (x.fdiv many, y))⟩
    · refine ⟨_, rfl, b, _, 1, _, rfl, rfl, SqL.of hb, rfl, _, _, rfl, rfl, .inr ⟨by decide, by decide⟩, _, _, rfl, rfl, .inl ⟨_, rfl, _, _, rfl, rfl, (by show (0 : Int) < 2147483399; decide), ?_⟩⟩
      refine ⟨_, rfl, _, _, rfl, rfl, .inr ⟨by decide, by decide⟩, _, _, rfl, rfl, .inl ⟨_, rfl, _, _, rfl, rfl, (by show (0 : Int) < 2147483587; decide), _, _, rfl, rfl, ?_⟩⟩
      refine ⟨_, rfl, b, _, 1, 1, rfl, rfl, hb, rfl, ?_⟩
      refine ⟨_, rfl, _, _, rfl, rfl, .inr ⟨by decide, by decide⟩, ?_⟩
      refine ⟨_, rfl, b, _, 1, _, rfl, rfl, SqL.of upd_same, rfl, _, _, rfl, rfl, _, _, rfl, rfl, ⟨by decide, by decide⟩, .inl ⟨_, rfl, _, rfl, _, _, rfl, rfl, h0, ?_⟩⟩
      exact k _ _ (Int.emod_nonneg _ (by omega)) (Int.emod_lt_of_pos _ h0) (Mv.upd (x, ((y * 40692 + 167) % 2147483399 * 40014 + 19) % 2147483587 + 1))
theorem sc_law_pick : FnScope ["box", "some"] ["box", "some"] (defScope s_law_pick) := ⟨rfl, rfl, rfl, by decide +kernel, rfl, by decide +kernel, by decide +kernel⟩
theorem ok_pick (F : FnP K "_law_pick" s_law_pick f fd) (T : Mg mg) (c__law_take : Cal P w K mg base CX0 1 "_law_take" ["box", "many"] spTake) : FnOk P w K mg base CX0 2 f fd ["box", "some"] (spPick K) := by
  refine F.ok sc_law_pick (fun vs H Q E h => ?_) (fun cdv A outer s H vs Q E hr h => ?_)
  · obtain ⟨b, a, t, xs, rfl, _⟩ := h
    rfl
  · obtain ⟨b, a, t, xs, rfl, hb, ne, hs, h0, h1, k⟩ := h
    refine ⟨_, PSs.nox (pss_one (ps_ret (pe_ix ix_list (pv 1) (pe_callC c__law_take hr pass0 (pa_cons (pv 0) (pa_cons (pe_callB call_len_seq (by rfl) T.z_len PySem.boot_len (pa_cons (pv 1) pa_nil)) pa_nil))) (fun _ _ => rfl)))), ?_⟩
    refine ⟨_, rfl, _, rfl, _, rfl, a, xs, rfl, .inl hs, b, t, _, rfl, hb, by omega, by omega, fun r H' r0 r1 m => ?_⟩
    obtain ⟨i, rfl⟩ : ∃ i : Nat, r = (i : Int) := ⟨r.toNat, by omega⟩
    have hx : xs[i]? = some xs[i] := List.getElem?_eq_getElem (by omega)
    exact ⟨a, xs, _, _, rfl, rfl, m.sqL ne hs, atI_nat hx, k _ H' (List.mem_of_getElem? hx) m⟩
theorem sc_law_box : FnScope ["script", "k", "cell", "great"] ["script", "k"] (defScope s_law_box) := ⟨rfl, rfl, rfl, by decide +kernel, rfl, by decide +kernel, by decide +kernel⟩
theorem ok_box (F : FnP K "_law_box" s_law_box f fd) (T : Mg mg) : FnOk P w K mg base CX0 1 f fd ["script", "k"] (spBox K) := by
  refine F.ok sc_law_box (fun vs H Q E h => ?_) (fun cdv A outer s H vs Q E hr h => ?_)
  · obtain ⟨a, ns, kk, rfl, _⟩ := h
    rfl
  · obtain ⟨a, ns, kk, rfl, hs, hl, k⟩ := h
    refine ⟨_, PSs.nox (pss_cons (ps_set (i := 2) sc_law_box.nd rfl (by first | exact Or.inl rfl | exact Or.inr rfl) (pe_op op_add (pe_op op_mul pe_int (pv 1)) pe_int))
  (pss_cons (ps_mid (ps_if (pt_cmpR op_lt (pv 1) (pe_callB call_len_seq (by rfl) T.z_len PySem.boot_len (pa_cons (pv 0) pa_nil)) (nomark _))
  (pss_one (ps_set (i := 2) sc_law_box.nd rfl (by first | exact Or.inl rfl | exact Or.inr rfl) (pe_callB call_abs (by rfl) T.z_abs (by decide +kernel) (pa_cons (pe_callTy call_int1 (by rfl) T.z_int (by decide +kernel) (pa_cons (pe_ix ix_list (pv 0) (pv 1) (fun _ _ => rfl)) pa_nil)) pa_nil))))
  (pss_one (ps_if (pt_cmpR op_gt (pe_callB call_len_seq (by rfl) T.z_len PySem.boot_len (pa_cons (pv 0) pa_nil)) pe_int (nomark _))
  (pss_one (ps_set (i := 2) sc_law_box.nd rfl (by first | exact Or.inl rfl | exact Or.inr rfl) (pe_op op_add (pv 2) (pe_op op_mul (pe_op op_mod (pe_callTy call_int1 (by rfl) T.z_int (by decide +kernel) (pa_cons (pe_callB call_abs (by rfl) T.z_abs (by decide +kernel) (pa_cons (pe_callTy call_int1 (by rfl) T.z_int (by decide +kernel) (pa_cons (pe_ix ix_list (pv 0) (pe_op op_mod (pe_callTy call_int1 (by rfl) T.z_int (by decide +kernel) (pa_cons (pv 1) pa_nil)) (pe_callB call_len_seq (by rfl) T.z_len PySem.boot_len (pa_cons (pv 0) pa_nil))) (fun _ _ => rfl)) pa_nil)) pa_nil)) pa_nil)) pe_int) pe_int))))
  pss_nil))))
  (pss_cons (ps_mid (ps_set (i := 3) sc_law_box.nd rfl (by first | exact Or.inl rfl | exact Or.inr rfl) (pe_ifExp (pt_cmpR op_ge (pv 2) (pe_op op_pow pe_int pe_int) (nomark _)) (pv 2) pe_int)))
  (pss_one (ps_ret (pe_lst (pa_cons (pv 3) (pa_cons (pe_op op_add (pe_op op_mod (pe_callTy call_int1 (by rfl) T.z_int (by decide +kernel) (pa_cons (pe_op op_add (pe_op op_mul (pe_op op_mod (pe_callTy call_int1 (by rfl) T.z_int (by decide +kernel) (pa_cons (pv 2) pa_nil)) pe_int) pe_int) (pe_op op_mul pe_int (pv 1))) pa_nil)) pe_int) pe_int) pa_nil)))))))), ?_⟩
    refine ⟨_, rfl, _, _, rfl, rfl, .inl ⟨by decide, by decide⟩, _, _, rfl, rfl, ?_⟩
    refine ⟨fun σ' H' => ∃ c : Int, σ' = [some (.ref a), some (.int (kk : Nat)), some (.int c), none] ∧ H' = H, ?_, ?_⟩
    · refine ⟨_, rfl, _, rfl, a, _, rfl, .inl hs, _, _, rfl, rfl, _, rfl, ?_⟩
      rw [List.length_map]
      refine ite2 (fun h1 => ?_) (fun h1 => ?_)
      · have hk : kk < ns.length := by simpa using h1
        have hx : (ns.map V.int)[kk]? = some (V.int ns[kk]) := by rw [List.getElem?_map, List.getElem?_eq_getElem hk]; rfl
        exact ⟨_, rfl, _, rfl, a, _, _, _, rfl, rfl, hs, atI_nat hx, .inl ⟨_, rfl, _, rfl, _, rfl, rfl⟩⟩
      · refine ⟨_, rfl, a, _, rfl, .inl hs, _, _, rfl, rfl, _, rfl, ?_⟩
        rw [List.length_map]
        refine ite2 (fun h2 => ?_) (fun h2 => ?_)
        · have hk : 0 < ns.length := by simpa using h2
          have hm : (kk : Int) % (ns.length : Int) = ((kk % ns.length : Nat) : Int) := rfl
          have lt : kk % ns.length < ns.length := Nat.mod_lt _ hk
          have hx : (ns.map V.int)[kk % ns.length]? = some (V.int ns[kk % ns.length]) := by rw [List.getElem?_map, List.getElem?_eq_getElem lt]; rfl
          have hat : atI (ns.map V.int) ((kk : Int) % (((ns.map V.int).length : Nat) : Int)) = some (V.int ns[kk % ns.length]) := by
            rw [List.length_map, hm]
            exact atI_nat hx
          refine ⟨_, rfl, _, rfl, _, rfl, .inl ⟨_, rfl, _, rfl, a, _, rfl, .inl hs, _, _, rfl, rfl, (by rw [List.length_map]; omega), ?_⟩⟩
          exact ⟨a, _, _, _, rfl, rfl, hs, hat, .inl ⟨_, rfl, _, rfl, .inl ⟨_, rfl, _, _, rfl, rfl, (by show (0 : Int) < 2147483587; decide), _, _, rfl, rfl, .inr ⟨by decide, by decide⟩, _, _, rfl, rfl, _, rfl, rfl⟩⟩⟩
        · exact ⟨_, rfl, rfl⟩
    rintro σ' H' ⟨c, rfl, rfl⟩
    refine ⟨fun σ' H2 => ∃ g : Int, σ' = [some (.ref a), some (.int (kk : Nat)), some (.int c), some (.int g)] ∧ H2 = H', ?_, ?_⟩
    · refine ⟨_, rfl, _, _, rfl, rfl, ⟨by decide, by decide, by decide⟩, _, _, rfl, rfl, _, rfl, ite2 (fun _ => ?_) (fun _ => ?_)⟩
      · exact ⟨_, rfl, _, rfl, rfl⟩
      · exact ⟨_, rfl, rfl⟩
    rintro σ' H2 ⟨g, rfl, rfl⟩
    refine ⟨_, rfl, _, rfl, .inl ⟨_, rfl, _, _, rfl, rfl, (by show (0 : Int) < 2147483587; decide), _, _, rfl, rfl, .inr ⟨by decide, by decide⟩, ?_⟩⟩
    refine ⟨_, rfl, _, _, rfl, rfl, .inl ⟨by decide, by decide⟩, _, _, rfl, rfl, .inl ⟨_, rfl, _, _, rfl, rfl, (by show (0 : Int) < 2147483587; decide), _, _, rfl, rfl, ?_⟩⟩
    exact ⟨(by show 2 ≤ sizeLine; decide), fun p hp => k _ p (_, _) (same_new hp) hp upd_same⟩
end
end KJ
/-! a statement leads from one word to the next; exchanges -/
namespace KJ
open L2 PySem PySem.Spec PyProof.Rows Kx RZ TL
def rng (n : Nat) : List Int := (List.range n).map Int.ofNat
theorem rng_len {n : Nat} : (rng n).length = n := by unfold rng; rw [List.length_map, List.length_range]
theorem mem_rng {n : Nat} {x : Int} : x ∈ rng n ↔ 0 ≤ x ∧ x < (n : Int) := by
  unfold rng
  rw [List.mem_map]
  constructor
  · rintro ⟨i, hi, rfl⟩
    have := List.mem_range.mp hi
    exact ⟨Int.natCast_nonneg i, Int.ofNat_lt.mpr this⟩
  · rintro ⟨h0, h1⟩
    exact ⟨x.toNat, List.mem_range.mpr (by omega), Int.toNat_of_nonneg h0⟩
theorem rng_nodup {n : Nat} : (rng n).Nodup := List.pairwise_map.mpr (List.nodup_range.imp fun ne e => ne (Int.ofNat.inj e))
theorem rgV_rng {n : Nat} : rgV 0 (n : Int) = (rng n).map V.int := by
  unfold rgV rng
  rw [Int.sub_zero, Int.toNat_natCast, List.map_map]
  exact List.map_congr_left fun i _ => by rw [Int.zero_add]; rfl
def HT {ι : Type} (X : Cx) (s : Stmt) (A B : ι → L2.St → Hp → Prop) : Prop := ∃ t : TS, PS X s t ∧ ∀ i (D : Ends) σ H, A i σ H → (∀ σ' H', B i σ' H' → D.nx σ' H') → t D σ H
def HTs {ι : Type} (X : Cx) (ss : List Stmt) (A B : ι → L2.St → Hp → Prop) : Prop := ∃ t : TS, PSs X ss t ∧ ∀ i (D : Ends) σ H, A i σ H → (∀ σ' H', B i σ' H' → D.nx σ' H') → t D σ H
section
variable {ι κ : Type} {X : Cx} {s : Stmt} {ss : List Stmt}
theorem HTs.cons {A B C : ι → L2.St → Hp → Prop} (h : HT X s A B) (g : HTs X ss B C) : HTs X (s :: ss) A C := by
  obtain ⟨t, h1, h2⟩ := h
  obtain ⟨u, g1, g2⟩ := g
  exact ⟨_, pss_cons h1 g1, fun n D σ H a k => h2 n { D with nx := u D } σ H a fun σ' H' b => g2 n D σ' H' b k⟩
theorem HTs.one {A B : ι → L2.St → Hp → Prop} (h : HT X s A B) : HTs X [s] A B := by
  obtain ⟨t, h1, h2⟩ := h
  exact ⟨_, pss_one h1, h2⟩
/-- the words told by other indices -/
theorem HT.by {A B : ι → L2.St → Hp → Prop} {A' B' : κ → L2.St → Hp → Prop} (h : HT X s A B) (k : ∀ j σ H, A' j σ H → ∃ i, A i σ H ∧ ∀ σ' H', B i σ' H' → B' j σ' H') : HT X s A' B' := by
  obtain ⟨t, h1, h2⟩ := h
  exact ⟨t, h1, fun j D σ H a kk => by
    obtain ⟨i, ai, bi⟩ := k j σ H a
    exact h2 i D σ H ai fun σ' H' b => kk σ' H' (bi σ' H' b)⟩
theorem HTs.by {A B : ι → L2.St → Hp → Prop} {A' B' : κ → L2.St → Hp → Prop} (h : HTs X ss A B) (k : ∀ j σ H, A' j σ H → ∃ i, A i σ H ∧ ∀ σ' H', B i σ' H' → B' j σ' H') : HTs X ss A' B' := by
  obtain ⟨t, h1, h2⟩ := h
  exact ⟨t, h1, fun j D σ H a kk => by
    obtain ⟨i, ai, bi⟩ := k j σ H a
    exact h2 i D σ H ai fun σ' H' b => kk σ' H' (bi σ' H' b)⟩
end
def nthS : List Stmt → Nat → Stmt
  | s :: _, 0 => s
  | _ :: r, n + 1 => nthS r n
  | [], _ => .Pass ⟨0, 0, 0, 0⟩
def inS : Stmt → List Stmt
  | .For _ _ b _ _ => b
  | _ => []
def valS : Stmt → Option Expr
  | .Assign _ e _ => some e
  | _ => none
def scopeS : Option Expr → Scope → Scope
  | some (.ListComp _ _ s _), _ => s
  | _, d => d
theorem iteF_ {b : Bool} {A B : Prop} (e : b = false) (h : B) : if b = true then A else B := by
  rw [e]
  exact iteF h
/-- a statement that may go back out of the def -/
def HTr {ι : Type} (X : Cx) (s : Stmt) (A B : ι → L2.St → Hp → Prop) (R : ι → V → Hp → Prop) : Prop := ∃ t : TS, PS X s t ∧ ∀ i (D : Ends) σ H, A i σ H → (∀ σ' H', B i σ' H' → D.nx σ' H') → (∀ v H', R i v H' → D.rt v H') → t D σ H
def HTrs {ι : Type} (X : Cx) (ss : List Stmt) (A B : ι → L2.St → Hp → Prop) (R : ι → V → Hp → Prop) : Prop := ∃ t : TS, PSs X ss t ∧ ∀ i (D : Ends) σ H, A i σ H → (∀ σ' H', B i σ' H' → D.nx σ' H') → (∀ v H', R i v H' → D.rt v H') → t D σ H
theorem HTrs.one {ι : Type} {X : Cx} {s : Stmt} {A B : ι → L2.St → Hp → Prop} {R : ι → V → Hp → Prop} (h : HTr X s A B R) : HTrs X [s] A B R := by
  obtain ⟨t, h1, h2⟩ := h
  exact ⟨_, pss_one h1, h2⟩
theorem HTrs.cons {ι : Type} {X : Cx} {s : Stmt} {ss : List Stmt} {A M B : ι → L2.St → Hp → Prop} {R : ι → V → Hp → Prop} (h : HT X s A M) (g : HTrs X ss M B R) : HTrs X (s :: ss) A B R := by
  obtain ⟨t, h1, h2⟩ := h
  obtain ⟨u, g1, g2⟩ := g
  exact ⟨_, pss_cons h1 g1, fun n D σ H a k c => h2 n { D with nx := u D } σ H a fun σ' H' b => g2 n D σ' H' b k c⟩
theorem HTrs.consR {ι : Type} {X : Cx} {s : Stmt} {ss : List Stmt} {A M B : ι → L2.St → Hp → Prop} {R : ι → V → Hp → Prop} (h : HTr X s A M R) (g : HTrs X ss M B R) : HTrs X (s :: ss) A B R := by
  obtain ⟨t, h1, h2⟩ := h
  obtain ⟨u, g1, g2⟩ := g
  exact ⟨_, pss_cons h1 g1, fun n D σ H a k c => h2 n { D with nx := u D } σ H a (fun σ' H' b => g2 n D σ' H' b k c) c⟩
/-- a statement that may go to the next turn, or back out -/
def HTc {ι : Type} (X : Cx) (s : Stmt) (A B C : ι → L2.St → Hp → Prop) : Prop := ∃ t : TS, PS X s t ∧ ∀ i (D : Ends) σ H, A i σ H → (∀ σ' H', B i σ' H' → D.nx σ' H') → (∀ σ' H', C i σ' H' → D.ct σ' H') → t D σ H
def HTcs {ι : Type} (X : Cx) (ss : List Stmt) (A B C : ι → L2.St → Hp → Prop) : Prop := ∃ t : TS, PSs X ss t ∧ ∀ i (D : Ends) σ H, A i σ H → (∀ σ' H', B i σ' H' → D.nx σ' H') → (∀ σ' H', C i σ' H' → D.ct σ' H') → t D σ H
theorem HTcs.of {ι : Type} {X : Cx} {ss : List Stmt} {A B C : ι → L2.St → Hp → Prop} (h : HTs X ss A B) : HTcs X ss A B C := by
  obtain ⟨t, h1, h2⟩ := h
  exact ⟨t, h1, fun i D σ H a k _ => h2 i D σ H a k⟩
theorem HTcs.cons {ι : Type} {X : Cx} {s : Stmt} {ss : List Stmt} {A M B C : ι → L2.St → Hp → Prop} (h : HT X s A M) (g : HTcs X ss M B C) : HTcs X (s :: ss) A B C := by
  obtain ⟨t, h1, h2⟩ := h
  obtain ⟨u, g1, g2⟩ := g
  exact ⟨_, pss_cons h1 g1, fun n D σ H a k c => h2 n { D with nx := u D } σ H a fun σ' H' b => g2 n D σ' H' b k c⟩
theorem HTcs.consC {ι : Type} {X : Cx} {s : Stmt} {ss : List Stmt} {A M B C : ι → L2.St → Hp → Prop} (h : HTc X s A M C) (g : HTcs X ss M B C) : HTcs X (s :: ss) A B C := by
  obtain ⟨t, h1, h2⟩ := h
  obtain ⟨u, g1, g2⟩ := g
  exact ⟨_, pss_cons h1 g1, fun n D σ H a k c => h2 n { D with nx := u D } σ H a (fun σ' H' b => g2 n D σ' H' b k c) c⟩

/-- a statement that may break a loop -/
def HTb {ι : Type} (X : Cx) (s : Stmt) (A B C : ι → L2.St → Hp → Prop) : Prop := ∃ t : TS, PS X s t ∧ ∀ i (D : Ends) σ H, A i σ H → (∀ σ' H', B i σ' H' → D.nx σ' H') → (∀ σ' H', C i σ' H' → D.bk σ' H') → t D σ H
/-- the same index before and behind -/
theorem HT.lift {ι κ : Type} {X : Cx} {s : Stmt} {A B B' : ι → L2.St → Hp → Prop} (f : ι → κ) (h : HT X s A B) (kb : ∀ g σ H, B g σ H → ∃ g1 : ι, f g1 = f g ∧ B' g1 σ H) : HT (ι := κ) X s (fun b σ H => ∃ g : ι, f g = b ∧ A g σ H) (fun b σ H => ∃ g : ι, f g = b ∧ B' g σ H) := by
  obtain ⟨t, h1, h2⟩ := h
  refine ⟨t, h1, ?_⟩
  rintro b D σ H ⟨g, rfl, a⟩ k
  exact h2 g D σ H a fun σ' H' q => k σ' H' (kb g σ' H' q)
theorem HTr.lift {ι κ : Type} {X : Cx} {s : Stmt} {A B B' : ι → L2.St → Hp → Prop} (f : ι → κ) {R : κ → V → Hp → Prop} (h : HTr X s A B fun g => R (f g)) (kb : ∀ g σ H, B g σ H → ∃ g1 : ι, f g1 = f g ∧ B' g1 σ H) : HTr (ι := κ) X s (fun b σ H => ∃ g : ι, f g = b ∧ A g σ H) (fun b σ H => ∃ g : ι, f g = b ∧ B' g σ H) R := by
  obtain ⟨t, h1, h2⟩ := h
  refine ⟨t, h1, ?_⟩
  rintro b D σ H ⟨g, rfl, a⟩ k r
  exact h2 g D σ H a (fun σ' H' q => k σ' H' (kb g σ' H' q)) r
/-- an exchange of n places -/
structure Swp (n : Nat) (xs : List Int) : Prop where
  len : xs.length = n
  nd : xs.Nodup
  ent : ∀ x ∈ xs, 0 ≤ x ∧ x < (n : Int)
theorem Swp.perm {n : Nat} {xs : List Int} (p : xs.Perm (rng n)) : Swp n xs := ⟨by rw [p.length_eq, rng_len], (p.nodup_iff).mpr rng_nodup, fun x hx => mem_rng.mp (p.mem_iff.mp hx)⟩
/-- by a rule -/
def ruled (n : Nat) (g : Int → Int) : List Int := (rng n).map g
theorem ruled_len {n : Nat} {g : Int → Int} : (ruled n g).length = n := by unfold ruled; rw [List.length_map, rng_len]
theorem ruled_at {n i : Nat} {g : Int → Int} (h : i < n) : ((ruled n g).map V.int)[i]? = some (.int (g (i : Int))) := by
  unfold ruled rng
  rw [List.getElem?_map, List.getElem?_map, List.getElem?_map, List.getElem?_range h]
  rfl
theorem swp_ruled {n : Nat} {g : Int → Int} (h1 : ∀ x, 0 ≤ x → x < (n : Int) → 0 ≤ g x ∧ g x < (n : Int)) (h2 : ∀ x y, 0 ≤ x → x < (n : Int) → 0 ≤ y → y < (n : Int) → g x = g y → x = y) : Swp n (ruled n g) := by
  refine ⟨ruled_len, ?_, fun z hz => ?_⟩
  · exact List.pairwise_map.mpr (rng_nodup.imp_of_mem fun {x y} hx hy ne e => ne (h2 x y (mem_rng.mp hx).1 (mem_rng.mp hx).2 (mem_rng.mp hy).1 (mem_rng.mp hy).2 e))
  · obtain ⟨x, hx, rfl⟩ := List.mem_map.mp hz
    obtain ⟨a, b⟩ := mem_rng.mp hx
    exact h1 x a b
theorem turn_of {n : Nat} {o x : Int} (o0 : 0 ≤ o) (o1 : o < (n : Int)) (x0 : 0 ≤ x) (x1 : x < (n : Int)) : (x + o) % (n : Int) = if x + o < n then x + o else x + o - n := by
  split
  · exact Int.emod_eq_of_lt (by omega) (by assumption)
  · rw [← Int.sub_emod_right]
    exact Int.emod_eq_of_lt (by omega) (by omega)
theorem swp_turn {n : Nat} {o : Int} (o0 : 0 ≤ o) (o1 : o < (n : Int)) : Swp n (ruled n fun x => (x + o) % (n : Int)) := by
  refine swp_ruled (fun x x0 x1 => ?_) (fun x y x0 x1 y0 y1 e => ?_)
  · rw [turn_of o0 o1 x0 x1]
    split <;> omega
  · have e : (x + o) % (n : Int) = (y + o) % (n : Int) := e
    rw [turn_of o0 o1 x0 x1, turn_of o0 o1 y0 y1] at e
    split at e <;> split at e <;> omega
theorem swp_two {n : Nat} {a b : Int} (a0 : 0 ≤ a) (a1 : a < (n : Int)) (b0 : 0 ≤ b) (b1 : b < (n : Int)) : Swp n (ruled n fun x => if x = a then b else if x = b then a else x) := by
  refine swp_ruled (fun x x0 x1 => ?_) (fun x y x0 x1 y0 y1 e => ?_)
  · show 0 ≤ (if x = a then b else if x = b then a else x) ∧ _
    split
    · exact ⟨b0, b1⟩
    · split
      · exact ⟨a0, a1⟩
      · exact ⟨x0, x1⟩
  · have e : (if x = a then b else if x = b then a else x) = (if y = a then b else if y = b then a else y) := e
    split at e <;> split at e <;> (try split at e) <;> (try split at e) <;> omega
theorem swp_idle {n : Nat} : Swp n (rng n) := ⟨rng_len, rng_nodup, fun x hx => mem_rng.mp hx⟩
theorem getD_at {l : List Int} {i : Nat} (h : i < l.length) : l[i]? = some (l.getD i 0) := by
  rw [List.getD_eq_getElem?_getD, List.getElem?_eq_getElem h]
  rfl
theorem nd_at {l : List Int} (nd : l.Nodup) {i j : Nat} (hi : i < l.length) (hj : j < l.length) (e : l.getD i 0 = l.getD j 0) : i = j := by
  have a := getD_at hi
  have b := getD_at hj
  rcases Nat.lt_trichotomy i j with h | h | h
  · have := List.pairwise_iff_getElem.mp nd i j hi hj h
    rw [List.getElem?_eq_getElem hi, Option.some.injEq] at a
    rw [List.getElem?_eq_getElem hj, Option.some.injEq] at b
    rw [a, b] at this
    exact absurd e this
  · exact h
  · have := List.pairwise_iff_getElem.mp nd j i hj hi h
    rw [List.getElem?_eq_getElem hi, Option.some.injEq] at a
    rw [List.getElem?_eq_getElem hj, Option.some.injEq] at b
    rw [a, b] at this
    exact absurd e.symm this
theorem row_in {k : Nat} {row : List Int} (h : Swp k row) {i : Nat} (hi : i < k) : row[i]? = some (row.getD i 0) ∧ 0 ≤ row.getD i 0 ∧ row.getD i 0 < (k : Int) := by
  have a := getD_at (l := row) (by rw [h.len]; exact hi)
  exact ⟨a, h.ent _ (List.mem_of_getElem? a)⟩
end KJ
/-! how often an exchange is done till it leads all to itself (pure) -/
namespace KJ
open L2 PySem PySem.Spec PyProof.Rows Kx RZ TL
theorem Per.one {t : List Int} {x : Int} {c d : Nat} (h : Per t x c) (g : Per t x d) : c = d := by
  rcases Nat.lt_trichotomy c d with l | l | l
  · exact absurd h.back (g.least c (by have := h.c1; omega) l)
  · exact l
  · exact absurd g.back (h.least d (by have := g.c1; omega) l)
theorem Swp.exc {n : Nat} {t : List Int} (sw : Swp n t) : Exc (rng n) t := by
  refine ⟨rng_nodup, fun x hx => ?_, fun x hx y hy e => ?_⟩
  · obtain ⟨h0, h1⟩ := mem_rng.mp hx
    exact mem_rng.mpr (row_in sw (i := x.toNat) (by omega)).2
  · obtain ⟨h0, h1⟩ := mem_rng.mp hx
    obtain ⟨g0, g1⟩ := mem_rng.mp hy
    have := nd_at sw.nd (i := x.toNat) (j := y.toNat) (by rw [sw.len]; omega) (by rw [sw.len]; omega) e
    omega
def lcmL : List Nat → Nat
  | [] => 1
  | c :: cs => Nat.lcm c (lcmL cs)
theorem dvd_lcmL : ∀ {cs : List Nat} {c : Nat}, c ∈ cs → c ∣ lcmL cs
  | d :: cs, c, h => by
    rcases List.mem_cons.mp h with rfl | h
    · exact Nat.dvd_lcm_left _ _
    · exact Nat.dvd_trans (dvd_lcmL h) (Nat.dvd_lcm_right _ _)
theorem lcmL_pos : ∀ {cs : List Nat}, (∀ c ∈ cs, 0 < c) → 0 < lcmL cs
  | [], _ => Nat.one_pos
  | c :: cs, h => Nat.lcm_pos (h c (List.mem_cons_self ..)) (lcmL_pos fun d hd => h d (List.mem_cons_of_mem _ hd))
def sumL : List Nat → Nat
  | [] => 0
  | c :: cs => c + sumL cs
def sel : List Nat → List Bool → List Nat
  | c :: cs, b :: bs => if b then c :: sel cs bs else sel cs bs
  | _, _ => []
theorem sel_filter (p : Nat → Bool) : ∀ cs : List Nat, sel cs (cs.map p) = cs.filter p
  | [] => rfl
  | c :: cs => by
    show (if p c then _ else _) = _
    rw [List.filter_cons, sel_filter p cs]
def len8 (n : Nat) : Nat := if n ≤ 4 then 4 else if n ≤ 6 then 6 else 15
theorem few_lcm : ∀ b1 b2 b3 b4 b5 b6 b7 b8 : Bool, (sumL (sel [1, 2, 3, 4, 5, 6, 7, 8] [b1, b2, b3, b4, b5, b6, b7, b8]) ≤ 8 → lcmL (sel [1, 2, 3, 4, 5, 6, 7, 8] [b1, b2, b3, b4, b5, b6, b7, b8]) ≤ 15) ∧ (sumL (sel [1, 2, 3, 4, 5, 6, 7, 8] [b1, b2, b3, b4, b5, b6, b7, b8]) ≤ 6 → lcmL (sel [1, 2, 3, 4, 5, 6, 7, 8] [b1, b2, b3, b4, b5, b6, b7, b8]) ≤ 6) ∧ (sumL (sel [1, 2, 3, 4, 5, 6, 7, 8] [b1, b2, b3, b4, b5, b6, b7, b8]) ≤ 4 → lcmL (sel [1, 2, 3, 4, 5, 6, 7, 8] [b1, b2, b3, b4, b5, b6, b7, b8]) ≤ 4) := by decide +kernel
theorem few_lens (p : Nat → Bool) (n : Nat) (n8 : n ≤ 8) (h : sumL ([1, 2, 3, 4, 5, 6, 7, 8].filter p) ≤ n) : lcmL ([1, 2, 3, 4, 5, 6, 7, 8].filter p) ≤ len8 n := by
  rw [← sel_filter] at h ⊢
  have k := few_lcm (p 1) (p 2) (p 3) (p 4) (p 5) (p 6) (p 7) (p 8)
  change sumL (sel [1, 2, 3, 4, 5, 6, 7, 8] [p 1, p 2, p 3, p 4, p 5, p 6, p 7, p 8]) ≤ n at h
  show lcmL (sel [1, 2, 3, 4, 5, 6, 7, 8] [p 1, p 2, p 3, p 4, p 5, p 6, p 7, p 8]) ≤ len8 n
  unfold len8
  split
  · exact k.2.2 (by omega)
  · split
    · exact k.2.1 (by omega)
    · exact k.1 (by omega)
section
variable {L t : List Int} {x y : Int}
theorem Per.on {c : Nat} (e : Exc L t) (hx : x ∈ L) (p : Per t x c) (k : Nat) : Per t (it t k x) c := by
  have comm : ∀ j, it t j (it t k x) = it t k (it t j x) := fun j => by rw [← it_add, ← it_add, Nat.add_comm]
  refine ⟨p.c1, by rw [comm, p.back], fun j j0 jc z => p.least j j0 jc ?_⟩
  rw [comm] at z
  exact e.it_inj (e.it_in hx j) hx z
theorem orb_nodup {c : Nat} (e : Exc L t) (hx : x ∈ L) (p : Per t x c) : (orb t x c).Nodup := by
  unfold orb
  refine List.pairwise_map.mpr (List.pairwise_lt_range.imp_of_mem fun {i j} hi hj lt z => ?_)
  have hj := List.mem_range.mp hj
  have e' : i + (j - i) = j := by omega
  exact p.least (j - i) (by omega) (by omega) (e.back hx (i := i) (by rw [e']; exact z.symm))
/-- orbits of unlike lengths have nothing in common: so many places are taken -/
theorem orbs_len (e : Exc L t) : ∀ {cs : List Nat}, cs.Nodup → (∀ c ∈ cs, ∃ x ∈ L, Per t x c) → ∃ F : List Int, F.Nodup ∧ (∀ y ∈ F, y ∈ L ∧ ∃ c ∈ cs, Per t y c) ∧ F.length = sumL cs
  | [], _, _ => ⟨[], List.nodup_nil, fun _ h => (nomatch h), rfl⟩
  | c :: cs, nd, h => by
    obtain ⟨nc, nd⟩ := List.nodup_cons.mp nd
    obtain ⟨F, h1, h2, h3⟩ := orbs_len e (cs := cs) nd fun d hd => h d (List.mem_cons_of_mem _ hd)
    obtain ⟨x, hx, px⟩ := h c (List.mem_cons_self ..)
    refine ⟨orb t x c ++ F, List.nodup_append.mpr ⟨orb_nodup e hx px, h1, fun a ha b hb z => ?_⟩, fun y hy => ?_, ?_⟩
    · subst z
      obtain ⟨i, _, rfl⟩ := List.mem_map.mp ha
      obtain ⟨_, d, hd, pd⟩ := h2 _ hb
      have := (px.on e hx i).one pd
      exact nc (this ▸ hd)
    · rcases List.mem_append.mp hy with hy | hy
      · obtain ⟨i, _, rfl⟩ := List.mem_map.mp hy
        exact ⟨e.it_in hx i, c, List.mem_cons_self .., px.on e hx i⟩
      · obtain ⟨a, d, b, c'⟩ := h2 y hy
        exact ⟨a, d, List.mem_cons_of_mem _ b, c'⟩
    · rw [List.length_append, orb_len, h3]
      rfl
end
/-- so often an exchange is done till all stand where they stood -/
structure Bck (n : Nat) (t : List Int) (k : Nat) : Prop where
  k1 : 1 ≤ k
  back : ∀ x, 0 ≤ x → x < (n : Int) → it t k x = x
  few : k ≤ len8 n
  least : ∀ j, 1 ≤ j → j < k → ¬ ∀ x, 0 ≤ x → x < (n : Int) → it t j x = x
theorem least_nat {p : Nat → Prop} : ∀ k : Nat, p k → ∃ j, j ≤ k ∧ p j ∧ ∀ i, i < j → ¬ p i := by
  intro k
  induction k using Nat.strongRecOn with
  | _ k ih =>
    intro h
    by_cases z : ∃ i, i < k ∧ p i
    · obtain ⟨i, hi, pi⟩ := z
      obtain ⟨j, h1, h2, h3⟩ := ih i hi pi
      exact ⟨j, by omega, h2, h3⟩
    · exact ⟨k, Nat.le_refl _, h, fun i hi pi => z ⟨i, hi, pi⟩⟩
theorem Bck.one {n : Nat} {t : List Int} {k j : Nat} (h : Bck n t k) (g : Bck n t j) : k = j := by
  rcases Nat.lt_trichotomy k j with z | z | z
  · exact absurd h.back (g.least k h.k1 z)
  · exact z
  · exact absurd g.back (h.least j g.k1 z)
theorem swp_back0 {n : Nat} {t : List Int} (sw : Swp n t) (n8 : n ≤ 8) : ∃ k, 1 ≤ k ∧ (∀ x, 0 ≤ x → x < (n : Int) → it t k x = x) ∧ k ≤ len8 n := by
  classical
  have e := sw.exc
  let p : Nat → Bool := fun c => decide (∃ x ∈ rng n, Per t x c)
  have cs : ∀ c ∈ [1, 2, 3, 4, 5, 6, 7, 8].filter p, ∃ x ∈ rng n, Per t x c := fun c hc => of_decide_eq_true (List.mem_filter.mp hc).2
  obtain ⟨F, h1, h2, h3⟩ := orbs_len e (cs := [1, 2, 3, 4, 5, 6, 7, 8].filter p) (List.Pairwise.filter p (show [1, 2, 3, 4, 5, 6, 7, 8].Nodup by decide)) cs
  have := nodup_le h1 fun y hy => (h2 y hy).1
  rw [h3, rng_len] at this
  refine ⟨lcmL ([1, 2, 3, 4, 5, 6, 7, 8].filter p), lcmL_pos fun c hc => ?_, fun x x0 x1 => ?_, few_lens p n n8 this⟩
  · obtain ⟨x, _, px⟩ := cs c hc
    exact px.c1
  · have hx := mem_rng.mpr ⟨x0, x1⟩
    obtain ⟨c, cl, pc⟩ := e.per hx
    rw [rng_len] at cl
    have c1 := pc.c1
    have mem : c ∈ [1, 2, 3, 4, 5, 6, 7, 8].filter p := by
      refine List.mem_filter.mpr ⟨?_, decide_eq_true ⟨x, hx, pc⟩⟩
      have : c = 1 ∨ c = 2 ∨ c = 3 ∨ c = 4 ∨ c = 5 ∨ c = 6 ∨ c = 7 ∨ c = 8 := by omega
      rcases this with h | h | h | h | h | h | h | h <;> subst h <;> decide
    obtain ⟨m, hm⟩ := dvd_lcmL mem
    rw [hm]
    exact it_mul pc.back m
theorem swp_back {n : Nat} {t : List Int} (sw : Swp n t) (n8 : n ≤ 8) : ∃ k, Bck n t k := by
  obtain ⟨k, k1, kb, kf⟩ := swp_back0 sw n8
  obtain ⟨j, h1, h2, h3⟩ := least_nat (p := fun j => 1 ≤ j ∧ ∀ x, 0 ≤ x → x < (n : Int) → it t j x = x) k ⟨k1, kb⟩
  exact ⟨j, h2.1, h2.2, by omega, fun i i1 ij z => h3 i ij ⟨i1, z⟩⟩
end KJ
/-! rounds and rests of a table (pure) -/
namespace KJ
open L2 PySem PySem.Spec PyProof.Rows Kx RZ TL
/-- x comes to a circle of c after a -/
structure Tc (t : List Int) (x : Int) (a c : Nat) : Prop where
  c1 : 1 ≤ c
  back : it t (a + c) x = it t a x
  ne : ∀ i j, i < j → j < a + c → it t i x ≠ it t j x
section
variable {t : List Int} {x : Int} {a c : Nat}
theorem Tc.turn (h : Tc t x a c) : ∀ q, it t (a + c * q) x = it t a x
  | 0 => rfl
  | q + 1 => by rw [show a + c * (q + 1) = (a + c) + c * q by rw [Nat.mul_succ]; omega, it_add, h.back, ← it_add, h.turn q]
theorem Tc.per (h : Tc t x a c) {i m : Nat} (ai : a ≤ i) (d : c ∣ m) : it t (i + m) x = it t i x := by
  obtain ⟨q, rfl⟩ := d
  rw [show i + c * q = (a + c * q) + (i - a) by omega, it_add, h.turn q, ← it_add]
  congr 1
  omega
theorem Tc.mod (h : Tc t x a c) (k : Nat) : it t (a + k) x = it t (a + k % c) x := by
  have := h.per (i := a + k % c) (m := c * (k / c)) (by omega) (Nat.dvd_mul_right ..)
  rw [← this]
  congr 1
  have := Nat.mod_add_div k c
  omega
theorem Tc.dvd (h : Tc t x a c) {i m : Nat} (ai : a ≤ i) (e : it t (i + m) x = it t i x) : c ∣ m := by
  have c1 := h.c1
  have e2 : it t (a + m) x = it t a x := by
    have lt : i ≤ a + c * i := Nat.le_trans (Nat.le_mul_of_pos_left i c1) (Nat.le_add_left ..)
    have := congrArg (it t (a + c * i - i)) e
    rw [← it_add, ← it_add, show i + m + (a + c * i - i) = (a + m) + c * i by omega, show i + (a + c * i - i) = a + c * i by omega, h.turn, h.per (i := a + m) (by omega) (Nat.dvd_mul_right ..)] at this
    exact this
  rw [h.mod] at e2
  refine Nat.dvd_of_mod_eq_zero ?_
  rcases Nat.eq_zero_or_pos (m % c) with z | z
  · exact z
  · exact absurd e2.symm (h.ne a (a + m % c) (by omega) (by have := Nat.mod_lt m c1; omega))
theorem Tc.tail (h : Tc t x a c) {i m : Nat} (ia : i < a) (m1 : 1 ≤ m) : it t (i + m) x ≠ it t i x := fun e => by
  have c1 := h.c1
  by_cases z : i + m < a + c
  · exact h.ne i (i + m) (by omega) z e.symm
  · have := h.mod (i + m - a)
    rw [show a + (i + m - a) = i + m by omega, e] at this
    exact h.ne i (a + (i + m - a) % c) (by omega) (by have := Nat.mod_lt (i + m - a) c1; omega) this
theorem Tc.one (h : Tc t x a c) {b d : Nat} (g : Tc t x b d) : a = b ∧ c = d := by
  have ab : a = b := by
    rcases Nat.lt_trichotomy a b with z | z | z
    · exact absurd h.back (g.tail z h.c1)
    · exact z
    · exact absurd g.back (h.tail z g.c1)
  subst ab
  exact ⟨rfl, Nat.dvd_antisymm (h.dvd (Nat.le_refl _) g.back) (g.dvd (Nat.le_refl _) h.back)⟩
end
/-- rounds r and rests e are the least that fit where L holds -/
structure RR (L : Int → Prop) (t : List Int) (r e : Nat) : Prop where
  r1 : 1 ≤ r
  per : ∀ x, L x → it t (e + r) x = it t e x
  rmin : ∀ m, (∀ x, L x → it t (e + m) x = it t e x) → r ∣ m
  emin : 0 < e → ∃ x, L x ∧ it t (e - 1 + r) x ≠ it t (e - 1) x
theorem RR.one {L : Int → Prop} {t : List Int} {r e r' e' : Nat} (h : RR L t r e) (g : RR L t r' e') : r = r' ∧ e = e' := by
  have up : ∀ {i k m : Nat}, (∀ x, L x → it t (i + m) x = it t i x) → ∀ x, L x → it t (i + k + m) x = it t (i + k) x := fun {i k m} h x hx => by
    rw [show i + k + m = (i + m) + k by omega, it_add, h x hx, ← it_add]
  have dv : ∀ {r e r' e' : Nat}, RR L t r e → RR L t r' e' → e ≤ e' → r ∣ r' ∧ r' ∣ r := fun {r e r' e'} h g le => by
    have p := up (k := e' - e) h.per
    rw [show e + (e' - e) = e' by omega] at p
    have d1 := g.rmin r p
    refine ⟨h.rmin r' fun x hx => ?_, d1⟩
    -- from e on all goes round by r, so far on that r' tells
    have pr : ∀ q, it t (e + r * q) x = it t e x := fun q => by
      induction q with
      | zero => rfl
      | succ q ih => rw [show e + r * (q + 1) = (e + r) + r * q by rw [Nat.mul_succ]; omega, it_add, h.per x hx, ← it_add, ih]
    have r1 := h.r1
    have far : e' ≤ e + r * e' := Nat.le_trans (Nat.le_mul_of_pos_left e' r1) (Nat.le_add_left ..)
    have g2 := up (k := e + r * e' - e') g.per x hx
    rw [show e' + (e + r * e' - e') = e + r * e' by omega, pr] at g2
    have g3 : it t (e + r * e' + r') x = it t (e + r') x := by rw [it_add, pr, ← it_add]
    exact g3.symm.trans g2
  have rr : r = r' := by
    rcases Nat.le_total e e' with z | z
    · exact Nat.dvd_antisymm (dv h g z).1 (dv h g z).2
    · exact Nat.dvd_antisymm (dv g h z).2 (dv g h z).1
  subst rr
  have ee : ∀ {e e' : Nat}, RR L t r e → RR L t r e' → ¬ e < e' := fun {e e'} h g lt => by
    obtain ⟨x, hx, ne⟩ := g.emin (by omega)
    have := up (k := e' - 1 - e) h.per x hx
    rw [show e + (e' - 1 - e) = e' - 1 by omega] at this
    exact ne this
  have a := ee h g
  have b := ee g h
  exact ⟨rfl, by omega⟩
/-- of the states xs, so far -/
structure RR0 (t : List Int) (xs : List Int) (r e : Nat) : Prop where
  r1 : 1 ≤ r
  all : ∀ x ∈ xs, ∃ a c, Tc t x a c ∧ c ∣ r ∧ a ≤ e
  least : ∀ m, (∀ x ∈ xs, ∀ a c, Tc t x a c → c ∣ m) → r ∣ m
  some_ : e = 0 ∨ ∃ x ∈ xs, ∃ c, Tc t x e c
section
variable {t : List Int} {xs : List Int} {r e a c : Nat} {x : Int}
theorem RR0.zero : RR0 t [] 1 0 := ⟨Nat.le_refl _, fun _ h => (nomatch h), fun _ _ => Nat.one_dvd _, .inl rfl⟩
theorem RR0.step (h : RR0 t xs r e) (g : Tc t x a c) : RR0 t (xs ++ [x]) (Nat.lcm r c) (max e a) := by
  refine ⟨Nat.lcm_pos h.r1 g.c1, fun y hy => ?_, fun m hm => ?_, ?_⟩
  · rcases List.mem_append.mp hy with hy | hy
    · obtain ⟨b, d, h1, h2, h3⟩ := h.all y hy
      exact ⟨b, d, h1, Nat.dvd_trans h2 (Nat.dvd_lcm_left ..), by omega⟩
    · rw [List.mem_singleton.mp hy]
      exact ⟨a, c, g, Nat.dvd_lcm_right .., by omega⟩
  · exact Nat.lcm_dvd (h.least m fun y hy => hm y (List.mem_append_left _ hy)) (hm x (List.mem_append_right _ (List.mem_singleton.mpr rfl)) a c g)
  · by_cases z : a ≤ e
    · rw [Nat.max_eq_left z]
      rcases h.some_ with s | ⟨y, hy, d, s⟩
      · exact .inl s
      · exact .inr ⟨y, List.mem_append_left _ hy, d, s⟩
    · rw [Nat.max_eq_right (by omega)]
      exact .inr ⟨x, List.mem_append_right _ (List.mem_singleton.mpr rfl), c, g⟩
theorem RR0.done (h : RR0 t xs r e) {L : Int → Prop} (mem : ∀ x, x ∈ xs ↔ L x) : RR L t r e := by
  refine ⟨h.r1, fun x hx => ?_, fun m hm => h.least m fun x hx b d g => ?_, fun e0 => ?_⟩
  · obtain ⟨b, d, g, h2, h3⟩ := h.all x ((mem x).mpr hx)
    exact g.per h3 h2
  · obtain ⟨b', d', g', _, h3⟩ := h.all x hx
    obtain ⟨rfl, rfl⟩ := g.one g'
    exact g.dvd h3 (hm x ((mem x).mp hx))
  · rcases h.some_ with s | ⟨x, hx, d, g⟩
    · omega
    · exact ⟨x, (mem x).mp hx, g.tail (by omega) h.r1⟩
/-- a circle is no longer than there are states, and so are all together -/
theorem RR0.few (h : RR0 t xs r e) {n : Nat} (n8 : n ≤ 8) (cl : ∀ x, 0 ≤ x → x < (n : Int) → 0 ≤ tx t x ∧ tx t x < (n : Int)) (b : ∀ x ∈ xs, 0 ≤ x ∧ x < (n : Int)) : r ≤ len8 n ∧ (1 ≤ n → e + 1 ≤ n) := by
  classical
  have itb : ∀ x, 0 ≤ x → x < (n : Int) → ∀ k, 0 ≤ it t k x ∧ it t k x < (n : Int) := fun x x0 x1 k => by
    induction k with
    | zero => exact ⟨x0, x1⟩
    | succ k ih => exact cl _ ih.1 ih.2
  have lenx : ∀ x ∈ xs, ∀ a c, Tc t x a c → a + c ≤ n := fun x hx a c g => by
    have := nodup_le (F := (List.range (a + c)).map fun i => it t i x) (L := rng n) (List.pairwise_map.mpr (List.pairwise_lt_range.imp_of_mem fun {i j} hi hj lt => g.ne i j lt (List.mem_range.mp hj))) fun y hy => by
      obtain ⟨i, _, rfl⟩ := List.mem_map.mp hy
      exact mem_rng.mpr (itb x (b x hx).1 (b x hx).2 i)
    rw [List.length_map, List.length_range, rng_len] at this
    exact this
  refine ⟨?_, fun n1 => ?_⟩
  · let L : List Int := (rng n).filter fun x => decide (∃ c, 1 ≤ c ∧ it t c x = x)
    have inL : ∀ {x}, x ∈ L ↔ (0 ≤ x ∧ x < (n : Int)) ∧ ∃ c, 1 ≤ c ∧ it t c x = x := fun {x} => by
      show x ∈ (rng n).filter _ ↔ _
      rw [List.mem_filter, decide_eq_true_iff, mem_rng]
    have ex : Exc L t := by
      refine ⟨rng_nodup.filter _, fun x hx => ?_, fun x hx y hy e => ?_⟩
      · obtain ⟨hb, c, c1, hc⟩ := inL.mp hx
        refine inL.mpr ⟨cl x hb.1 hb.2, c, c1, ?_⟩
        have : it t c (it t 1 x) = it t 1 (it t c x) := by rw [← it_add, ← it_add, Nat.add_comm]
        rw [hc] at this
        exact this
      · obtain ⟨_, c, c1, hc⟩ := inL.mp hx
        obtain ⟨_, d, d1, hd⟩ := inL.mp hy
        have h1 := it_mul hc d
        have h2 := it_mul hd c
        rw [Nat.mul_comm] at h2
        have p : 1 ≤ c * d := Nat.mul_pos c1 d1
        have e1 : it t 1 x = it t 1 y := e
        rw [show c * d = 1 + (c * d - 1) by omega, it_add] at h1 h2
        rw [e1] at h1
        exact h1.symm.trans h2
    let p : Nat → Bool := fun c => decide (∃ x ∈ L, Per t x c)
    obtain ⟨F, f1, f2, f3⟩ := orbs_len ex (cs := [1, 2, 3, 4, 5, 6, 7, 8].filter p) (List.Pairwise.filter p (show [1, 2, 3, 4, 5, 6, 7, 8].Nodup by decide)) fun c hc => of_decide_eq_true (List.mem_filter.mp hc).2
    have le := nodup_le f1 (L := rng n) fun y hy => mem_rng.mpr (inL.mp (f2 y hy).1).1
    rw [f3, rng_len] at le
    refine Nat.le_trans (Nat.le_of_dvd (lcmL_pos fun c hc => ?_) (h.least (lcmL ([1, 2, 3, 4, 5, 6, 7, 8].filter p)) fun x hx a c g => ?_)) (few_lens p n n8 le)
    · have := (List.mem_filter.mp hc).1
      simp only [List.mem_cons, List.not_mem_nil, or_false] at this
      omega
    · have l := lenx x hx a c g
      have c1 := g.c1
      refine dvd_lcmL (List.mem_filter.mpr ⟨?_, decide_eq_true ⟨it t a x, ?_, c1, ?_, fun j j0 jc z => ?_⟩⟩)
      · have : c = 1 ∨ c = 2 ∨ c = 3 ∨ c = 4 ∨ c = 5 ∨ c = 6 ∨ c = 7 ∨ c = 8 := by omega
        rcases this with rfl | rfl | rfl | rfl | rfl | rfl | rfl | rfl <;> simp
      · exact inL.mpr ⟨itb x (b x hx).1 (b x hx).2 a, c, c1, by rw [← it_add]; exact g.back⟩
      · rw [← it_add]
        exact g.back
      · rw [← it_add] at z
        exact g.ne a (a + j) (by omega) (by omega) z.symm
  · rcases h.some_ with s | ⟨x, hx, d, g⟩
    · omega
    · have := lenx x hx _ _ g
      have := g.c1
      omega
end
end KJ
/-! a comprehension's turns over a tuple, pairs (number, item), two lists -/
namespace Kx
open L2 PySem PySem.Spec PyProof.Rows
section
variable {K : PySem.W.Frag} {a b : Addr} {xs ys : List V} {Z : Hp → Prop} {H0 : Hp} {B : (Hp → Prop) → V → Hp → Prop}
theorem turns_tup (Pv : Nat → Hp → Prop) (h0 : Pv 0 H0) (hq : ∀ i H, Pv i H → SqT K H a xs) (hs : ∀ (i : Nat) (x : V) (H : Hp), xs[i]? = some x → Pv i H → B (Pv (i + 1)) x H) (hd : ∀ H, Pv xs.length H → Z H) :
    ∃ W : Nat → Nat → Hp → Prop, (∃ m, W 0 m H0) ∧ ∀ i m H, W i m H → ((Itt K a).stop i H ∧ Z H) ∨ ((Itt K a).go i H ∧ ∃ Nx : Hp → Prop, (∀ H', Nx H' → ∃ m', m' < m ∧ W (i + 1) m' H') ∧ ∀ x H', (Itt K a).yld i H x H' → B Nx x H') :=
  turns (n := xs.length) Pv h0 (fun i H lt p => by
    have q := hq i H p
    refine ⟨⟨xs, xs[i], q, List.getElem?_eq_getElem lt⟩, ?_⟩
    rintro v H3 ⟨rfl, hx⟩
    exact hs i v _ (hx xs q) p) (fun H p => ⟨⟨xs, hq _ H p, Nat.le_refl _⟩, hd H p⟩)
theorem turns_pairs (Pv : Nat → Hp → Prop) (h0 : Pv 0 H0) (hq : ∀ i H, Pv i H → SqT K H a xs) (hs : ∀ (i : Nat) (x : V) (T : Addr) (H : Hp), xs[i]? = some x → Pv i H → H T = none → B (Pv (i + 1)) (.ref T) (upd H T (.tup [.int (i : Nat), x]))) (hd : ∀ H, Pv xs.length H → Z H) :
    ∃ W : Nat → Nat → Hp → Prop, (∃ m, W 0 m H0) ∧ ∀ i m H, W i m H → ((ItPair K a).stop i H ∧ Z H) ∨ ((ItPair K a).go i H ∧ ∃ Nx : Hp → Prop, (∀ H', Nx H' → ∃ m', m' < m ∧ W (i + 1) m' H') ∧ ∀ x H', (ItPair K a).yld i H x H' → B Nx x H') :=
  turns (n := xs.length) Pv h0 (fun i H lt p => by
    have q := hq i H p
    refine ⟨⟨xs, xs[i], q, List.getElem?_eq_getElem lt⟩, ?_⟩
    rintro v H3 ⟨pr, x, rfl, hn, rfl, hx⟩
    exact hs i x pr _ (hx xs q) p hn) (fun H p => ⟨⟨xs, hq _ H p, Nat.le_refl _⟩, hd H p⟩)
theorem turns_pairsL (Pv : Nat → Hp → Prop) (h0 : Pv 0 H0) (hq : ∀ i H, Pv i H → SqL K H a xs) (hs : ∀ (i : Nat) (x : V) (T : Addr) (H : Hp), xs[i]? = some x → Pv i H → H T = none → B (Pv (i + 1)) (.ref T) (upd H T (.tup [.int (i : Nat), x]))) (hd : ∀ H, Pv xs.length H → Z H) :
    ∃ W : Nat → Nat → Hp → Prop, (∃ m, W 0 m H0) ∧ ∀ i m H, W i m H → ((Ite K a).stop i H ∧ Z H) ∨ ((Ite K a).go i H ∧ ∃ Nx : Hp → Prop, (∀ H', Nx H' → ∃ m', m' < m ∧ W (i + 1) m' H') ∧ ∀ x H', (Ite K a).yld i H x H' → B Nx x H') :=
  turns (n := xs.length) Pv h0 (fun i H lt p => by
    have q := hq i H p
    refine ⟨⟨xs, xs[i], q, List.getElem?_eq_getElem lt⟩, ?_⟩
    rintro v H3 ⟨pr, x, rfl, hn, rfl, hx⟩
    exact hs i x pr _ (hx xs q) p hn) (fun H p => ⟨⟨xs, hq _ H p, Nat.le_refl _⟩, hd H p⟩)
theorem turns_zip (hl : xs.length = ys.length) (Pv : Nat → Hp → Prop) (h0 : Pv 0 H0) (hq : ∀ i H, Pv i H → SqL K H a xs ∧ SqL K H b ys)
    (hs : ∀ (i : Nat) (x y : V) (T : Addr) (H : Hp), xs[i]? = some x → ys[i]? = some y → Pv i H → H T = none → B (Pv (i + 1)) (.ref T) (upd H T (.tup [x, y]))) (hd : ∀ H, Pv xs.length H → Z H) :
    ∃ W : Nat → Nat → Hp → Prop, (∃ m, W 0 m H0) ∧ ∀ i m H, W i m H → ((Itz K a b).stop i H ∧ Z H) ∨ ((Itz K a b).go i H ∧ ∃ Nx : Hp → Prop, (∀ H', Nx H' → ∃ m', m' < m ∧ W (i + 1) m' H') ∧ ∀ x H', (Itz K a b).yld i H x H' → B Nx x H') :=
  turns (n := xs.length) Pv h0 (fun i H lt p => by
    obtain ⟨q1, q2⟩ := hq i H p
    refine ⟨⟨_, _, _, _, q1, q2, List.getElem?_eq_getElem lt, List.getElem?_eq_getElem (by omega)⟩, ?_⟩
    rintro v H3 ⟨t, x, y, rfl, ht, rfl, hx, hy⟩
    exact hs i x y t _ (hx _ q1) (hy _ q2) p ht) (fun H p => by
    obtain ⟨q1, q2⟩ := hq _ H p
    exact ⟨⟨_, _, q1, q2, .inl (Nat.le_refl _)⟩, hd H p⟩)
end
end Kx
/-! {k: v for .. for ..} as a value -/
namespace Kx
open L2 PySem PySem.Spec PyProof.Rows
theorem cTurn2o (kx vx t0 i0 t1 i1 : Expr) (ifs0 ifs1 : List Expr) (scope : Scope) (pos : Pos) (it : Value) (D : Addr) (env : Env) :
    compTurn (.DictComp kx vx [⟨t0, i0, ifs0, 0⟩, ⟨t1, i1, ifs1, 0⟩] scope pos) 0 it (.ref D) env = (do
      standAt i0.pos
      match ← pyNext it with
      | none => pure (.done .next)
      | some v =>
        letOwnedTupleGo t0 it v
        assign t0 env v
        let mut ok := true
        for c in ifs0 do
          if ok then ok ← isTrue c env (eval c env)
        if ok then
          let x ← eval i1 env
          standAt i1.pos
          let x ← foldedSetIterable i1 env x
          let _ ← runOwn (.compStart (.DictComp kx vx [⟨t0, i0, ifs0, 0⟩, ⟨t1, i1, ifs1, 0⟩] scope pos) 1 (← holding [x] (pyIter x)) (.ref D) env) env
        again (.compLoop (.DictComp kx vx [⟨t0, i0, ifs0, 0⟩, ⟨t1, i1, ifs1, 0⟩] scope pos) 0 it (.ref D) env)) := by rfl
theorem cTurn2i (kx vx t0 i0 t1 i1 : Expr) (ifs0 ifs1 : List Expr) (scope : Scope) (pos : Pos) (it : Value) (D : Addr) (env : Env) :
    compTurn (.DictComp kx vx [⟨t0, i0, ifs0, 0⟩, ⟨t1, i1, ifs1, 0⟩] scope pos) 1 it (.ref D) env = (do
      standAt i1.pos
      match ← pyNext it with
      | none => pure (.done .next)
      | some v =>
        letOwnedTupleGo t1 it v
        assign t1 env v
        let mut ok := true
        for c in ifs1 do
          if ok then ok ← isTrue c env (eval c env)
        if ok then
          (do
            let kv ← eval kx env
            let vv ← holding [kv] (eval vx env)
            standAt { kx.pos with endLine := vx.pos.endLine, endCol := vx.pos.endCol }
            holding [kv, vv] (dictSet D kv vv))
        again (.compLoop (.DictComp kx vx [⟨t0, i0, ifs0, 0⟩, ⟨t1, i1, ifs1, 0⟩] scope pos) 1 it (.ref D) env)) := by rfl

section
variable {prog : Program} {w : World} {A : Around} {R : Result → Shared → Prop} {s : Shared} {kx vx t0 i0 t1 i1 : Expr} {ifs0 ifs1 : List Expr} {scope : Scope} {pos : Pos} {it : Value} {D : Addr} {env : Env}
theorem cLoop2o (hs : ∀ x, foldedSetIterable i1 env x = pure x) (I : Nat → Shared → Prop)
    (trn : ∀ n s, I n s → wpAny (model prog w) A (pyNext it) (fun r z₁ => match r with
      | none => R (.ok .next) z₁
      | some v => wpAny (model prog w) A (letOwnedTupleGo t0 it v) (fun _ z₁' => wpAny (model prog w) A (assign t0 env v) (fun _ z₂ =>
          wpAny (model prog w) A (forIn ifs0 true fun c r => if r = true then do let ok ← isTrue c env (eval c env); pure (ForInStep.yield ok) else pure (ForInStep.yield r)) (fun ok z₃ =>
            if ok = true then wpAny (model prog w) A (eval i1 env) (fun x z₄ => wpAny (model prog w) A (pyIter x) (fun it1 z₅ =>
              codeAny (model prog w) A (.compStart (.DictComp kx vx [⟨t0, i0, ifs0, 0⟩, ⟨t1, i1, ifs1, 0⟩] scope pos) 1 it1 (.ref D) env) (fun r s' => match r with
                | .ok _ => ∃ m, m < n ∧ I m s'
                | .error _ => False) z₅) (notedBy (model prog w) A env fun e s' => R (.error e) s') z₄) (notedBy (model prog w) A env fun e s' => R (.error e) s') z₃
            else ∃ m, m < n ∧ I m z₃) (notedBy (model prog w) A env fun e s' => R (.error e) s') z₂) (notedBy (model prog w) A env fun e s' => R (.error e) s') z₁') (notedBy (model prog w) A env fun e s' => R (.error e) s') z₁) (notedBy (model prog w) A env fun e s' => R (.error e) s') s)
    (n : Nat) (h : I n s) :
    codeAny (model prog w) A (.compLoop (.DictComp kx vx [⟨t0, i0, ifs0, 0⟩, ⟨t1, i1, ifs1, 0⟩] scope pos) 0 it (.ref D) env) R s := by
  refine codeAny_loop rfl I (fun n s hJ => ?_) n h
  show wpAny _ A ((compTurn (.DictComp kx vx [⟨t0, i0, ifs0, 0⟩, ⟨t1, i1, ifs1, 0⟩] scope pos) 0 it (.ref D) env).onRaise (fun x => do noteFrame x env; theTreesLotGoes x)) _ _ s
  refine wpAny_noted ?_
  rw [cTurn2o]
  refine wpAny_bind (wpAny_standAt (wpAny_bind (wpAny_mono (trn n s hJ) (fun r z₁ w₁ => ?_) fun _ _ v' => v')))
  cases r with
  | none => exact wpAny_pure w₁
  | some v =>
    refine wpAny_bind (wpAny_mono w₁ (fun _ z₁' w₁' => ?_) fun _ _ v' => v')
    refine wpAny_bind (wpAny_mono w₁' (fun _ z₂ w₂ => wpAny_bind (wpAny_mono w₂ (fun ok z₃ w₃ => ?_) fun _ _ v' => v')) fun _ _ v' => v')
    cases ok with
    | false => exact wpAny_pure ⟨rfl, w₃⟩
    | true =>
      refine wpAny_bind (wpAny_mono w₃ (fun x z₄ w₄ => ?_) fun _ _ v' => v')
      refine wpAny_bind (wpAny_standAt (wpAny_bind (wpAny_of_eq (hs x) (wpAny_bind (wpAny_holding (wpAny_mono w₄ (fun it1 z₅ w₅ => ?_) fun _ _ v' => v'))))))
      refine wpAny_bind (wpAny_runOwn ?_)
      rw [Around.mark_none]
      refine codeAny_mono w₅ fun r s' hr => ?_
      cases r with
      | ok f =>
        first
          | exact wpAny_pure ⟨rfl, hr⟩
          | exact wpAny_bind (wpAny_pure (wpAny_pure ⟨rfl, hr⟩))
      | error e => exact hr.elim
theorem cLoop2i (I : Nat → Shared → Prop)
    (trn : ∀ n s, I n s → wpAny (model prog w) A (pyNext it) (fun r z₁ => match r with
      | none => R (.ok .next) z₁
      | some v => wpAny (model prog w) A (letOwnedTupleGo t1 it v) (fun _ z₁' => wpAny (model prog w) A (assign t1 env v) (fun _ z₂ =>
          wpAny (model prog w) A (forIn ifs1 true fun c r => if r = true then do let ok ← isTrue c env (eval c env); pure (ForInStep.yield ok) else pure (ForInStep.yield r)) (fun ok z₃ =>
            if ok = true then wpAny (model prog w) A (eval kx env) (fun kv z₄ => wpAny (model prog w) A (eval vx env) (fun vv z₅ =>
              wpAny (model prog w) A (dictSet D kv vv) (fun _ z₆ => ∃ m, m < n ∧ I m z₆) (notedBy (model prog w) A env fun e s' => R (.error e) s') z₅) (notedBy (model prog w) A env fun e s' => R (.error e) s') z₄) (notedBy (model prog w) A env fun e s' => R (.error e) s') z₃
            else ∃ m, m < n ∧ I m z₃) (notedBy (model prog w) A env fun e s' => R (.error e) s') z₂) (notedBy (model prog w) A env fun e s' => R (.error e) s') z₁') (notedBy (model prog w) A env fun e s' => R (.error e) s') z₁) (notedBy (model prog w) A env fun e s' => R (.error e) s') s)
    (n : Nat) (h : I n s) :
    codeAny (model prog w) A (.compLoop (.DictComp kx vx [⟨t0, i0, ifs0, 0⟩, ⟨t1, i1, ifs1, 0⟩] scope pos) 1 it (.ref D) env) R s := by
  refine codeAny_loop rfl I (fun n s hJ => ?_) n h
  show wpAny _ A ((compTurn (.DictComp kx vx [⟨t0, i0, ifs0, 0⟩, ⟨t1, i1, ifs1, 0⟩] scope pos) 1 it (.ref D) env).onRaise (fun x => do noteFrame x env; theTreesLotGoes x)) _ _ s
  refine wpAny_noted ?_
  rw [cTurn2i]
  refine wpAny_bind (wpAny_standAt (wpAny_bind (wpAny_mono (trn n s hJ) (fun r z₁ w₁ => ?_) fun _ _ v' => v')))
  cases r with
  | none => exact wpAny_pure w₁
  | some v =>
    refine wpAny_bind (wpAny_mono w₁ (fun _ z₁' w₁' => ?_) fun _ _ v' => v')
    refine wpAny_bind (wpAny_mono w₁' (fun _ z₂ w₂ => wpAny_bind (wpAny_mono w₂ (fun ok z₃ w₃ => ?_) fun _ _ v' => v')) fun _ _ v' => v')
    cases ok with
    | false => exact wpAny_pure ⟨rfl, w₃⟩
    | true =>
      exact wpAny_bind (wpAny_bind (wpAny_mono w₃ (fun kv z₄ w₄ => wpAny_bind (wpAny_holding (wpAny_mono w₄ (fun vv z₅ w₅ => wpAny_bind (wpAny_standAt (wpAny_holding (wpAny_mono w₅ (fun _ z₆ w₆ => wpAny_pure ⟨rfl, w₆⟩) fun _ _ v' => v')))) fun _ _ v' => v'))) fun _ _ v' => v'))
theorem cStart1 (h0 : codeAny (model prog w) A (.compLoop (.DictComp kx vx [⟨t0, i0, ifs0, 0⟩, ⟨t1, i1, ifs1, 0⟩] scope pos) 1 it (.ref D) env) R s)
    (h : wpAny (model prog w) A (pyIter it) (fun it' s' => codeAny (model prog w) A (.compLoop (.DictComp kx vx [⟨t0, i0, ifs0, 0⟩, ⟨t1, i1, ifs1, 0⟩] scope pos) 1 it' (.ref D) env) R s')
      (notedBy (model prog w) A env fun x s' => R (.error x) s') s) :
    codeAny (model prog w) A (.compStart (.DictComp kx vx [⟨t0, i0, ifs0, 0⟩, ⟨t1, i1, ifs1, 0⟩] scope pos) 1 it (.ref D) env) R s := by
  refine codeAny_of_tree ?_
  show wpAny _ _ ((compStart (.DictComp kx vx [⟨t0, i0, ifs0, 0⟩, ⟨t1, i1, ifs1, 0⟩] scope pos) 1 it (.ref D) env).onRaise (fun x => do noteFrame x env; standAt theWindowsPlace)) _ _ s
  refine wpAny_notedAt ?_
  unfold compStart
  show wpAny _ _ (ask >>= _) _ _ s
  refine wpAny_bind (wpAny_askSetting (wpAny_ite ?_))
  split
  · first
      | exact wpAny_bind (wpAny_pure (wpAny_pure (And.intro rfl h0)))
      | exact wpAny_pure (And.intro rfl h0)
  · first
      | exact wpAny_bind (wpAny_rule (wpAny_bind (wpAny_standAt (wpAny_bind (wpAny_mono h (fun it' s' v' => wpAny_pure (And.intro rfl v')) fun _ _ x => x)))))
      | (refine wpAny_bind (wpAny_rule ?_); show wpAny _ _ (standAt i1.pos >>= _) _ _ s; exact wpAny_bind (wpAny_standAt (wpAny_bind (wpAny_mono h (fun it' s' v' => wpAny_pure (And.intro rfl v')) fun _ _ x => x))))
end
section
variable {X : Cx}
/-- {k: v for tg in iter if .. for tg1 in iter1 if ..}, keys ints or texts -/
def tDc2 (wi : TI) (g : TG) (tt : TT) (wi1 : TI) (g1 : TG) (tt1 : TT) (tk tv : TE) (vs vs1 : List Nat) : TE := fun σ H Q => wi σ H fun J H1 => ∀ D, H1 D = none → ∃ W : Nat → Nat → Hp → Prop, (∃ m, W 0 m (upd H1 D (.dK []))) ∧ ∀ i m H, W i m H →
  (J.stop i H ∧ Q (.ref D) H) ∨ (J.go i H ∧ ∃ Nx : Hp → Prop, (∀ H', Nx H' → ∃ m', m' < m ∧ W (i + 1) m' H') ∧ ∀ x H', J.yld i H x H' → g x (wipe σ vs) H' fun σ2 Hb => wipe σ2 vs = wipe σ vs ∧ tt σ2 Hb fun b Hc =>
    if b = true then wi1 σ2 Hc fun J1 H4 => ∃ W1 : Nat → Nat → Hp → Prop, (∃ m, W1 0 m H4) ∧ ∀ j k H, W1 j k H →
      (J1.stop j H ∧ Nx H) ∨ (J1.go j H ∧ ∃ Nx1 : Hp → Prop, (∀ H', Nx1 H' → ∃ k', k' < k ∧ W1 (j + 1) k' H') ∧ ∀ x H', J1.yld j H x H' → g1 x (wipe σ2 vs1) H' fun σ3 He_ => wipe σ3 vs1 = wipe σ2 vs1 ∧ tt1 σ3 He_ fun b H6 =>
        if b = true then tk σ3 H6 fun y Hg => tv σ3 Hg fun z Hh => ∃ kvs k, y = kV k ∧ Hh D = some (.dK kvs) ∧ kvs.length < sizeLine ∧ Nx1 (upd Hh D (.dK (putK kvs k z))) else Nx1 H6)
    else Nx Hc)
theorem dc2_core {pins : List (Addr × Obj)} {s : Shared} {σ : L2.St} {H : Hp} {Q : VK} {kx vx tg iter tg1 iter1 : Expr} {ifs ifs1 : List Expr} {scope : Scope} {own : List (Str × Nat)} {vs1 : List Nat} {pos pos' : Pos} {wi wi1 : TI} {g g1 : TG} {tt tt1 : TT} {tk tv : TE} {use : Option (Value → Sem Unit)} {Qf : Value → Shared → Prop}
    (hc : X.calm = true) (hN : X.N.Nodup) (I : Inv X pins σ H s) (hi : PI X tg iter wi) (ok : BlkOk X.N X.env.scope scope own) (hvv : ∀ i ∈ vs1, i ∈ own.map (·.2))
    (hg : ∀ (s : Shared) (H : Hp) (C : Addr) (cl : List (Str × Addr)) (fp : List Addr), PG (X.blk s H scope (compEnvC scope cl C X.env) fp) tg g) (ht : ∀ (s : Shared) (H : Hp) (C : Addr) (cl : List (Str × Addr)) (fp : List Addr), PTs (X.blk s H scope (compEnvC scope cl C X.env) fp) ifs tt)
    (hkk : ∀ (s : Shared) (H : Hp) (C : Addr) (cl : List (Str × Addr)) (fp : List Addr), PE (X.blk s H scope (compEnvC scope cl C X.env) fp) kx tk) (he : ∀ (s : Shared) (H : Hp) (C : Addr) (cl : List (Str × Addr)) (fp : List Addr), PE (X.blk s H scope (compEnvC scope cl C X.env) fp) vx tv) (hs : ∀ x, foldedSetIterable iter X.env x = pure x)
    (hi1 : ∀ (s : Shared) (H : Hp) (C : Addr) (cl : List (Str × Addr)) (fp : List Addr), PI (X.blk s H scope (compEnvC scope cl C X.env) fp) tg1 iter1 wi1)
    (hg1 : ∀ (s : Shared) (H : Hp) (C : Addr) (cl : List (Str × Addr)) (fp : List Addr), PG (X.blk s H scope (compEnvC scope cl C X.env) fp) tg1 g1)
    (ht1 : ∀ (s : Shared) (H : Hp) (C : Addr) (cl : List (Str × Addr)) (fp : List Addr), PTs (X.blk s H scope (compEnvC scope cl C X.env) fp) ifs1 tt1)
    (hs1 : ∀ env x, foldedSetIterable iter1 env x = pure x)
    (h : tDc2 wi g tt wi1 g1 tt1 tk tv (own.map (·.2)) vs1 σ H Q)
    (hRq : ∀ D C s' m H', Inv X pins σ H' s' → Q (.ref D) H' → s'.heap.Ns C m → FpOk X pins H' C → compPost (model X.prog X.w) X.A X.xe use Qf (.ref D) C (.ok .next) s') :
    wpAny (model X.prog X.w) X.A (comprehension (.DictComp kx vx [⟨tg, iter, ifs, 0⟩, ⟨tg1, iter1, ifs1, 0⟩] scope pos) scope X.env pos' (newDict) false (eval iter X.env) use) Qf X.xe s := by
  have hfr : ∀ y ∈ scope.names, y.2 = .free → ∃ c, X.env.cells.lookup y.1 = some c := fun y hy e => by
    rcases ok.free y hy e with k | k
    · exact I.ok.has _ (.inl k)
    · exact I.ok.has _ (.inr k)
  refine wpAny_comprehension_free (use := use) rfl hs (closure_ok hfr) ok.kind (fun y hy e => by rw [ok.uniq y hy, e])
    (thn (hi.run pins s σ H _ I h) fun xv u1 hx => thn hx fun itv u2 h2 => ?_)
  obtain ⟨it, fp, tn, J, Hb, e, Jb, T, tn2, fq2, q⟩ := h2
  subst e
  refine wpAny_newObj_type (newEnv_comp ?_)
  generalize hD : u2.heap.objs.size = D
  have hDz : Hb D = none := Jb.hok.fresh (Nat.le_of_eq hD)
  obtain ⟨W, ⟨m0, w0⟩, trn⟩ := q D hDz
  -- the new list
  generalize hs3 : ({ u2 with heap := u2.heap.push { cls := .type "dict", data := .dict #[] } } : Shared) = u3
  have Jc : Inv X pins σ (upd Hb D (.dK [])) u3 := by
    rw [← hs3]
    refine Jb.laid (t' := u2.toks) (fun b o e => Heap.get?_push_of_some _ e) (Nat.le_of_eq hD) ?_
    rw [← hD]
    exact dk_empty u2.heap Jb.big
  have h3 : u3.heap = u2.heap.push { cls := .type "dict", data := .dict #[] } := by rw [← hs3]
  have sz : ∀ b ∈ fp, b < u2.heap.objs.size := fun b hb => by
    obtain ⟨o, e, _⟩ := T.obj _ _ tn2 b hb
    exact Heap.lt_size e
  have fq3 : ∀ b ∈ fp, FpOk X pins (upd Hb D (.dK [])) b ∧ b < u3.heap.objs.size := fun b hb => by
    have hlt := sz b hb
    refine ⟨⟨?_, (fq2 b hb).2⟩, by rw [h3, Heap.size_push]; exact Nat.lt_succ_of_lt hlt⟩
    rw [upd_ne (by rw [← hD]; exact Nat.ne_of_lt hlt)]
    exact (fq2 b hb).1
  have tn3 : tn 0 u3.heap := T.keep _ _ _ tn2 fun b _ o e => by rw [h3]; exact Heap.get?_push_of_some _ e
  have Jd := block_start Jc ok hN fq3
  have pg := hg u3 (upd Hb D (.dK [])) u3.heap.objs.size (cellsFrom (u3.heap.objs.size + 1) scope.names (cloFrom X.env.cells scope.names [])) fp
  have pt := ht u3 (upd Hb D (.dK [])) u3.heap.objs.size (cellsFrom (u3.heap.objs.size + 1) scope.names (cloFrom X.env.cells scope.names [])) fp
  have pk := hkk u3 (upd Hb D (.dK [])) u3.heap.objs.size (cellsFrom (u3.heap.objs.size + 1) scope.names (cloFrom X.env.cells scope.names [])) fp
  have pe := he u3 (upd Hb D (.dK [])) u3.heap.objs.size (cellsFrom (u3.heap.objs.size + 1) scope.names (cloFrom X.env.cells scope.names [])) fp
  have pi1 := hi1 u3 (upd Hb D (.dK [])) u3.heap.objs.size (cellsFrom (u3.heap.objs.size + 1) scope.names (cloFrom X.env.cells scope.names [])) fp
  have pg1 := hg1 u3 (upd Hb D (.dK [])) u3.heap.objs.size (cellsFrom (u3.heap.objs.size + 1) scope.names (cloFrom X.env.cells scope.names [])) fp
  have pt1 := ht1 u3 (upd Hb D (.dK [])) u3.heap.objs.size (cellsFrom (u3.heap.objs.size + 1) scope.names (cloFrom X.env.cells scope.names [])) fp
  show codeAny _ _ (.compStart (.DictComp kx vx [⟨tg, iter, ifs, 0⟩, ⟨tg1, iter1, ifs1, 0⟩] scope pos) 0 (.ref it) (.ref D) (compEnvC scope (cellsFrom (u3.heap.objs.size + 1) scope.names (cloFrom X.env.cells scope.names [])) u3.heap.objs.size X.env)) (compPost (model X.prog X.w) X.A X.xe use Qf (.ref D) u3.heap.objs.size) { u3 with heap := pushCells (u3.heap.push { cls := .type "dict", data := .dict #[] }) scope.names }
  have nf_ : ∀ b ∈ fp, (upd Hb D (.dK [])) b = none := fun b hb => (fq3 b hb).1.1
  generalize hcx : compEnvC scope (cellsFrom (u3.heap.objs.size + 1) scope.names (cloFrom X.env.cells scope.names [])) u3.heap.objs.size X.env = cx at Jd pg pt pk pe pi1 pg1 pt1 ⊢
  have cLo : cx.locals = u3.heap.objs.size := by subst hcx; rfl
  generalize hH3 : upd Hb D (.dK []) = Hc at Jc Jd pg pt pk pe pi1 pg1 pt1 w0 nf_ fq3
  generalize hs4 : ({ u3 with heap := pushCells (u3.heap.push { cls := .type "dict", data := .dict #[] }) scope.names } : Shared) = u4 at Jd ⊢
  have tn4 : tn 0 u4.heap := T.keep _ _ _ tn3 fun b _ o e => by rw [← hs4]; exact pushCells_keeps _ _ _ _ (Heap.get?_push_of_some _ e)
  have sta : ∀ {σ' : L2.St} {H' : Hp} {s' : Shared}, Inv (X.blk u3 Hc scope cx fp) [] σ' H' s' → (∀ b ∈ fp, H' b = none) → ∀ b ∈ fp, FpOk (X.blk u3 Hc scope cx fp) [] H' b := fun {σ' H' s'} I' hn b hb =>
    ⟨hn b hb, (I'.ok.exf b hb).1, I'.ok.exfs b hb, .inl hb, fun x c e => (I'.ok.exf b hb).2 x c e, fun p hp => absurd (show p ∈ ([] : List (Addr × Obj)) ++ [] from hp) (by simp)⟩
  have lp : codeAny (model X.prog X.w) X.A (.compLoop (.DictComp kx vx [⟨tg, iter, ifs, 0⟩, ⟨tg1, iter1, ifs1, 0⟩] scope pos) 0 (.ref it) (.ref D) cx) (compPost (model X.prog X.w) X.A X.xe use Qf (.ref D) u3.heap.objs.size) u4 := by
    refine cLoop2o (hs1 cx) (fun n s' => ∃ i H', Inv (X.blk u3 Hc scope cx fp) [] (wipe σ (own.map (·.2))) H' s' ∧ tn i s'.heap ∧ (∀ b ∈ fp, H' b = none) ∧ W i n H') ?_ m0 ⟨0, Hc, Jd, tn4, nf_, w0⟩
    rintro n u5 ⟨i, He_, Je, tn5, n5, w5⟩
    rcases trn i n He_ w5 with ⟨sq, qz⟩ | ⟨gq, Nx, hNx, stp⟩
    · have td := T.done (X.blk u3 Hc scope cx fp) rfl rfl rfl hc i [] u5 _ He_ (fun _ _ => False) Je (sta Je n5) tn5 sq
      refine thnF td fun r u6 ⟨hr, Jf⟩ => ?_
      subst hr
      -- back in the def's context
      have Jg : Inv X pins σ He_ u6 := Jc.call' (ch := fp) Jf.os Jf.base Jf.hok Jf.bare fun b hb => ⟨(fq3 b hb).1.2.2.2.1, (fq3 b hb).1.2.1, (fq3 b hb).1.2.2.2.2.1, (fq3 b hb).1.2.2.2.2.2⟩
      have nCo : He_ u3.heap.objs.size = none := by
        have z : He_ cx.locals = none := Jf.free
        rw [cLo] at z
        exact z
      obtain ⟨m, hn, _⟩ := Jf.loc
      have hn : u6.heap.Ns cx.locals m := hn
      rw [cLo] at hn
      exact hRq D u3.heap.objs.size u6 m He_ Jg qz hn (Jc.fpOk (Nat.le_refl _) nCo)
    · have ti := T.item (X.blk u3 Hc scope cx fp) rfl rfl rfl hc i [] u5 _ He_ (fun _ _ => False) Je (sta Je n5) tn5 gq
      refine thnF ti fun r u6 ⟨u, hr, h6⟩ => ?_
      subst hr
      refine thnF h6 fun _ u7 ⟨x, Hg, Jg, r7, y7, tn7, n7⟩ => ?_
      have Jg' := Jg.pinned (sta Jg n7) (T.obj _ _ tn7)
      refine thnF (pg.run _ u7 _ Hg x u _ Jg' r7 (stp x Hg y7)) fun _ u8 ⟨σ8, Hh, Jh, hw8, q8⟩ => ?_
      refine thnF (pt.run _ u8 σ8 Hh _ Jh q8) fun b u9 ⟨Hi, Ji, q9⟩ => ?_
      -- the turn's end, from any slots that know what the block knew at its start
      have fi : ∀ {σ9 : L2.St} {s' : Shared} {H' : Hp}, Inv (X.blk u3 Hc scope cx fp) ([] ++ pinsAt fp u7.heap) σ9 H' s' → (wipe σ (own.map (·.2))).length = σ9.length → (∀ (j : Nat) v, (wipe σ (own.map (·.2)))[j]? = some (some v) → σ9[j]? = some (some v)) → Nx H' →
          ∃ m, m < n ∧ ∃ i H', Inv (X.blk u3 Hc scope cx fp) [] (wipe σ (own.map (·.2))) H' s' ∧ tn i s'.heap ∧ (∀ b ∈ fp, H' b = none) ∧ W i m H' := fun {σ9 s' H'} I' hl hkk nx => by
        obtain ⟨m', hm, w'⟩ := hNx H' nx
        have pn' : ∀ b ∈ fp, ∀ o, u7.heap.get? b = some o → s'.heap.get? b = some o ∧ H' b = none := fun b hb o e =>
          let z := I'.pin (b, o) (List.mem_append_right _ (List.mem_append_right _ (mem_pinsAt hb e)))
          ⟨z.1, z.2.1⟩
        refine ⟨m', hm, i + 1, H', (I'.unpinned (pins := [])).weak hl hkk, T.keep _ _ _ tn7 fun b hb o e => (pn' b hb o e).1, fun b hb => ?_, w'⟩
        obtain ⟨o, e, _⟩ := T.obj _ _ tn7 b hb
        exact (pn' b hb o e).2
      have hle : (wipe σ (own.map (·.2))).length = σ8.length := by rw [← hw8, wipe_length]
      have hke : ∀ (j : Nat) v, (wipe σ (own.map (·.2)))[j]? = some (some v) → σ8[j]? = some (some v) := fun j v e => by
        rw [← hw8] at e
        exact (wipe_some e).1
      have hkf : ∀ (j : Nat) v, (wipe σ (own.map (·.2)))[j]? = some (some v) → (wipe σ8 vs1)[j]? = some (some v) := fun j v e => by
        rw [← hw8] at e
        obtain ⟨e1, e2⟩ := wipe_some e
        rw [wipe_out fun z => e2 (hvv j z)]
        exact e1
      cases b with
      | false =>
        simp only [Bool.false_eq_true, if_false] at q9 ⊢
        exact fi Ji hle hke q9
      | true =>
        simp only [if_true] at q9 ⊢
        refine thnF (pi1.run _ u9 σ8 Hi _ Ji q9) fun xv u10 hx => thnF hx fun itv u11 h11 => ?_
        obtain ⟨it1, fp1, tn1, J1, Hk, e1, Jk, T1, tn11, f11, W1, ⟨m1, w1⟩, turn1⟩ := h11
        subst e1
        -- the inner lp
        have sta1 : ∀ {H' : Hp}, (∀ b ∈ fp1, H' b = none) → ∀ b ∈ fp1, FpOk (X.blk u3 Hc scope cx fp) ([] ++ pinsAt fp u7.heap) H' b := fun hn b hb => ⟨hn b hb, (f11 b hb).2⟩
        have lp1 : codeAny (model X.prog X.w) X.A (.compLoop (.DictComp kx vx [⟨tg, iter, ifs, 0⟩, ⟨tg1, iter1, ifs1, 0⟩] scope pos) 1 (.ref it1) (.ref D) cx)
            (fun r s' => match r with
              | .ok _ => ∃ m, m < n ∧ ∃ i H', Inv (X.blk u3 Hc scope cx fp) [] (wipe σ (own.map (·.2))) H' s' ∧ tn i s'.heap ∧ (∀ b ∈ fp, H' b = none) ∧ W i m H'
              | .error _ => False) u11 := by
          refine cLoop2i (fun k s' => ∃ j H', Inv (X.blk u3 Hc scope cx fp) ([] ++ pinsAt fp u7.heap) (wipe σ8 vs1) H' s' ∧ tn1 j s'.heap ∧ (∀ b ∈ fp1, H' b = none) ∧ W1 j k H') ?_ m1 ⟨0, Hk, Jk.weak (wipe_length _ _) (fun j v e => (wipe_some e).1), tn11, fun b hb => (f11 b hb).1, w1⟩
          rintro k u12 ⟨j, Hl, Jl, tn12, n12, w12⟩
          rcases turn1 j k Hl w12 with ⟨sq1, nx1⟩ | ⟨gq1, Nx1, hNx1, stp1⟩
          · refine thnF (T1.done (X.blk u3 Hc scope cx fp) rfl rfl rfl hc j _ u12 (wipe σ8 vs1) Hl (fun _ _ => False) Jl (sta1 n12) tn12 sq1) fun r u13 ⟨hr, Jm⟩ => ?_
            subst hr
            exact fi Jm (hle.trans (wipe_length σ8 vs1).symm) hkf nx1
          · refine thnF (T1.item (X.blk u3 Hc scope cx fp) rfl rfl rfl hc j _ u12 (wipe σ8 vs1) Hl (fun _ _ => False) Jl (sta1 n12) tn12 gq1) fun r u13 ⟨u1, hr, h13⟩ => ?_
            subst hr
            refine thnF h13 fun _ u14 ⟨x1, Hn, Jn, r14, y14, tn14, n14⟩ => ?_
            have Jn' := Jn.pinned (sta1 n14) (T1.obj _ _ tn14)
            refine thnF (pg1.run _ u14 (wipe σ8 vs1) Hn x1 u1 _ Jn' r14 (stp1 x1 Hn y14)) fun _ u15 ⟨σ15, Ho, Jo, hw15, q15⟩ => ?_
            refine thnF (pt1.run _ u15 σ15 Ho _ Jo q15) fun b1 u16 ⟨Hq, Jp, q16⟩ => ?_
            have fi1 : ∀ {s' : Shared} {H' : Hp}, Inv (X.blk u3 Hc scope cx fp) (([] ++ pinsAt fp u7.heap) ++ pinsAt fp1 u14.heap) σ15 H' s' → Nx1 H' → ∃ m, m < k ∧ ∃ j H', Inv (X.blk u3 Hc scope cx fp) ([] ++ pinsAt fp u7.heap) (wipe σ8 vs1) H' s' ∧ tn1 j s'.heap ∧ (∀ b ∈ fp1, H' b = none) ∧ W1 j m H' := fun {s' H'} I' nx => by
              obtain ⟨m', hm, w'⟩ := hNx1 H' nx
              have pn' : ∀ b ∈ fp1, ∀ o, u14.heap.get? b = some o → s'.heap.get? b = some o ∧ H' b = none := fun b hb o e =>
                let z := I'.pin (b, o) (List.mem_append_right _ (List.mem_append_right _ (mem_pinsAt hb e)))
                ⟨z.1, z.2.1⟩
              refine ⟨m', hm, j + 1, H', I'.unpinned.weak (by rw [← hw15, wipe_length]) (fun j v e => by rw [← hw15] at e; exact (wipe_some e).1), T1.keep _ _ _ tn14 fun b hb o e => (pn' b hb o e).1, fun b hb => ?_, w'⟩
              obtain ⟨o, e, _⟩ := T1.obj _ _ tn14 b hb
              exact (pn' b hb o e).2
            cases b1 with
            | false =>
              simp only [Bool.false_eq_true, if_false] at q16 ⊢
              exact fi1 Jp q16
            | true =>
              simp only [if_true] at q16 ⊢
              refine thnF (pk.run _ u16 σ15 Hq _ Jp q16) fun z u17 ⟨yk, Hr, Jq, r17, q17⟩ => ?_
              refine thnF (pe.run _ u17 σ15 Hr _ Jq q17) fun z2 u18 ⟨yv, Hs, Jr, r18, kvs, k', ek, hD18, hz18, nx⟩ => ?_
              subst ek
              exact d_dictSet (X := X.blk u3 Hc scope cx fp) Jr hD18 hz18 r17 r18 fun u19 Js => fi1 Js nx
        exact cStart1 lp1 (T1.self X.A 0 _ _ _ tn11 lp1)
  exact codeAny_compStart_dict lp (T.self X.A 0 _ _ _ tn4 lp)
theorem pe_dc2 {kx vx tg iter tg1 iter1 : Expr} {ifs ifs1 : List Expr} {scope : Scope} {own : List (Str × Nat)} {vs1 : List Nat} {pos : Pos} {wi wi1 : TI} {g g1 : TG} {tt tt1 : TT} {tk tv : TE} (hc : X.calm = true) (hN : X.N.Nodup) (hi : PI X tg iter wi) (ok : BlkOk X.N X.env.scope scope own) (hvv : ∀ i ∈ vs1, i ∈ own.map (·.2))
    (hg : ∀ (s : Shared) (H : Hp) (C : Addr) (cl : List (Str × Addr)) (fp : List Addr), PG (X.blk s H scope (compEnvC scope cl C X.env) fp) tg g) (ht : ∀ (s : Shared) (H : Hp) (C : Addr) (cl : List (Str × Addr)) (fp : List Addr), PTs (X.blk s H scope (compEnvC scope cl C X.env) fp) ifs tt)
    (hi1 : ∀ (s : Shared) (H : Hp) (C : Addr) (cl : List (Str × Addr)) (fp : List Addr), PI (X.blk s H scope (compEnvC scope cl C X.env) fp) tg1 iter1 wi1)
    (hg1 : ∀ (s : Shared) (H : Hp) (C : Addr) (cl : List (Str × Addr)) (fp : List Addr), PG (X.blk s H scope (compEnvC scope cl C X.env) fp) tg1 g1) (ht1 : ∀ (s : Shared) (H : Hp) (C : Addr) (cl : List (Str × Addr)) (fp : List Addr), PTs (X.blk s H scope (compEnvC scope cl C X.env) fp) ifs1 tt1)
    (hkk : ∀ (s : Shared) (H : Hp) (C : Addr) (cl : List (Str × Addr)) (fp : List Addr), PE (X.blk s H scope (compEnvC scope cl C X.env) fp) kx tk) (he : ∀ (s : Shared) (H : Hp) (C : Addr) (cl : List (Str × Addr)) (fp : List Addr), PE (X.blk s H scope (compEnvC scope cl C X.env) fp) vx tv) (hs : ∀ x, foldedSetIterable iter X.env x = pure x := by intro _; rfl) (hs1 : ∀ env x, foldedSetIterable iter1 env x = pure x := by intro _ _; rfl) :
    PE X (.DictComp kx vx [⟨tg, iter, ifs, 0⟩, ⟨tg1, iter1, ifs1, 0⟩] scope pos) (tDc2 wi g tt wi1 g1 tt1 tk tv (own.map (·.2)) vs1) := by
  refine ⟨fun pins s σ H Q I h => ?_⟩
  rw [arm_eval_DictComp]
  refine dc2_core hc hN I hi ok hvv hg ht hkk he hs hi1 hg1 ht1 hs1 h fun D C s' m H' I' q hn f => ⟨m, hn, fun h'' sb => ?_⟩
  obtain ⟨f0, f1, fq2, fq3, f4, f5⟩ := f
  exact ⟨.ref D, H', I'.turned (t' := s'.toks) (fun b o hb e => (sb.2 b hb).trans e) f0 f1 fq3 f4 f5, rfl, q⟩
end
end Kx
/-! tuples that stand as they were made: t * k, t[lo:hi], t + u -/
namespace Kx
open L2 PySem PySem.Spec PyProof.Rows
/-- t * k -/
def rTimesX : R2 := fun x y H Q => ∃ (t : Addr) (k : Nat) (xs : List V), x = .ref t ∧ y = .int (k : Int) ∧ H t = some (.tup xs) ∧ xs ≠ [] ∧ 1 ≤ k ∧ k ≤ 1000 ∧ xs.length ≤ 1000 ∧
  ∀ p H', Same H H' → H' p = some (.tup (List.replicate k xs).flatten) → Q (.ref p) H'
theorem op_timesX {X : Cx} : OpR X (binaryOp .Mult) rTimesX := by
  intro pins st σ H x y v u Q I rx ry h
  obtain ⟨t, k, xs, rfl, rfl, hT, ne, k1, hk, hz, q⟩ := h
  by_cases e : k = 1
  · subst e
    cases rx
    obtain ⟨tk, rfl⟩ := ry
    obtain ⟨its, r, ⟨⟨cls, dct, data, slo⟩, ho, hc, n, hd⟩, hs⟩ := I.tuple (SqT.of hT)
    simp only at hc hd
    subst hc hd
    refine wpAny_binaryOp_repeat_ref (T := "tuple") (U := "int") (by decide) ⟨_, ho, rfl⟩ (fun s' => typeIs_int s' 1 tk) noFill_tuple_mul F.fills_int_mul F.slot_int_rmul repeat_tuple F.slot_int_index.lookup
      (call_meets F.slot_int_rmul (typeIs_int st 1 tk) F.entry_int_rmul (F.args_int_rmul_2 _ _) (int_rmul_tuple 1 tk t its.toArray n dct slo)
        ⟨ho, rfl, ⟨_, ho, rfl⟩, call_meets F.slot_tuple_mul ⟨_, ho, rfl⟩ F.entry_tuple_mul (F.args_tuple_mul_2 _ _) (times_one t its.toArray n dct slo tk) ⟨ho, ?_⟩⟩)
    have e1 : (List.replicate 1 xs).flatten = xs := by simp
    rw [e1] at q
    exact ⟨.ref t, H, I, rfl, q t H (Same.refl H) hT⟩
  · refine op_repT pins st σ H _ _ v u Q I rx ry ⟨t, _, xs, rfl, rfl, SqT.of hT, ne, by omega, by omega, hz, fun p hp => ?_⟩
    exact q p _ (same_new hp) (by rw [upd_same, Int.toNat_natCast])
/-- t[lo:hi] -/
def rCutX : V → Option Int → Option Int → Hp → VK → Prop := fun x lo hi H Q => ∃ a xs, x = .ref a ∧ H a = some (.tup xs) ∧ ∀ p H', Same H H' → H' p = some (.tup (cutV xs lo hi)) → Q (.ref p) H'
theorem sl_cutX {X : Cx} : SlR X rCutX := by
  intro pins s σ H x v vl vu lo hi sl Q I rx hs pl pu ⟨a, xs, e, h, q⟩
  refine sl_tupA pins s σ H x v vl vu lo hi sl Q I rx hs pl pu ⟨a, xs, e, SqT.of h, fun ⟨z1, z2⟩ => q a H (Same.refl H) ?_, fun _ p hp => q p _ (same_new hp) upd_same⟩
  unfold cutV
  rw [z1, z2, List.drop_zero, Nat.sub_zero, List.take_length]
  exact h
/-- t + u -/
def rCatX : R2 := fun x y H Q => ∃ (a b : Addr) (xs ys : List V), x = .ref a ∧ y = .ref b ∧ H a = some (.tup xs) ∧ H b = some (.tup ys) ∧ xs.length + ys.length ≤ sizeLine ∧ ∀ p H', Same H H' → H' p = some (.tup (xs ++ ys)) → Q (.ref p) H'
theorem op_catX {X : Cx} : OpR X (binaryOp .Add) rCatX := by
  intro pins st σ H x y v u Q I rx ry h
  obtain ⟨a, b, xs, ys, rfl, rfl, h1, h2, fits, key⟩ := h
  refine op_catA pins st σ H _ _ v u Q I rx ry ⟨a, b, xs, ys, rfl, rfl, SqT.of h1, SqT.of h2, fits, fun e => ?_, fun _ e => ?_, fun _ _ p hp => key p _ (same_new hp) upd_same⟩
  · subst e
    exact key b H (Same.refl H) h2
  · subst e
    exact key a H (Same.refl H) (by rw [List.append_nil]; exact h1)
/-- one item anew -/
theorem cut_put {xs : List V} {d : Nat} {v : V} (hd : d < xs.length) : cutV xs none (some (d : Int)) ++ [v] ++ cutV xs (some ((d : Int) + 1)) none = xs.set d v := by
  have e : (d : Int) + 1 = ((d + 1 : Nat) : Int) := rfl
  unfold cutV
  rw [e, HT.sIx_none, HT.sIx_none, HT.sIx_nat, HT.sIx_nat, List.drop_zero, Nat.sub_zero, Nat.min_eq_left (by omega), Nat.min_eq_left (by omega), List.set_eq_take_append_cons_drop, if_pos hd, List.append_assoc, List.take_of_length_le (l := xs.drop (d + 1)) (by rw [List.length_drop]; omega)]
  rfl
end Kx
/-! zip of three lists of one length -/
namespace Kx
open L2 PySem PySem.Spec PyProof.Rows
theorem ad {a b : Nat} (h : a ≠ b) : (show Addr from a) ≠ b := h
abbrev Trip (h : Heap) (T : Addr) (a b c : Value) : Prop := h.get? T = some { cls := .type "tuple", data := .seq #[a, b, c] }
/-- the zip that is made at n: three list iterators, their tuple, the handed tuple, the zip -/
structure Z3 (n l1 l2 l3 k : Nat) (f0 : Value) (h : Heap) : Prop where
  z : IsZip h (n + 5) (n + 3) (n + 4) f0
  t : Trip h (n + 3) (.ref n) (.ref (n + 1)) (.ref (n + 2))
  o : ∃ a b c, Trip h (n + 4) a b c
  a1 : h.IsListIter n l1 k
  a2 : h.IsListIter (n + 1) l2 k
  a3 : h.IsListIter (n + 2) l3 k
/-- what is laid elsewhere stays -/
def But3 (n : Nat) (h h' : Heap) : Prop := ∀ c o, c ≠ n → c ≠ n + 1 → c ≠ n + 2 → c ≠ n + 4 → c ≠ n + 5 → h.get? c = some o → h'.get? c = some o
section
variable {prog : Program} {w : World} {A : Around} {E : Value → Shared → Prop} {s : Shared} {n l1 l2 l3 k : Nat} {xs ys zs : Array Value} {x y u : Value}
theorem upd_trip {T : Addr} {a b c v : Value} {j : Nat} {Q : Unit → Shared → Prop} (hT : Trip s.heap T a b c)
    (q : ∀ h', h'.get? T = some { cls := .type "tuple", data := .seq ((#[a, b, c] : Array Value).setIfInBounds j v) } → Heap.SameBut T s.heap h' → Q () { s with heap := h' }) : wpAny (model prog w) A (updateSeq T (·.setIfInBounds j v)) Q E s := by
  refine wpAny_updateSeq hT rfl (q _ ?_ (Heap.SameBut.update ..))
  rw [Heap.get?_update_self _ hT rfl]
  simp [Obj.mapSeq]
theorem zip3_item {Q : Value → Shared → Prop} (Z : Z3 n l1 l2 l3 k .none s.heap) (b1 : l1 < n) (b2 : l2 < n) (b3 : l3 < n) (hl1 : s.heap.IsList l1 xs) (hl2 : s.heap.IsList l2 ys) (hl3 : s.heap.IsList l3 zs) (hx : xs[k]? = some x) (hy : ys[k]? = some y) (hu : zs[k]? = some u)
    (q : ∀ h', Z3 n l1 l2 l3 (k + 1) (rawInt s.heap.objs.size) h' → Trip h' s.heap.objs.size x y u → But3 n s.heap h' → Q (.ref s.heap.objs.size) { s with heap := h' }) :
    wpAny (model prog w) A (Builtin.«zip.__next__» ⟨[.ref (n + 5)], []⟩) (fun fin s' => ∃ v, fin = .done (.ret v) ∧ Q v s') E s := by
  obtain ⟨hz, ht, ⟨a, b, c, ho⟩, h1, h2, h3⟩ := Z
  show wpAny _ _ (field (.ref (n + 5)) 2 >>= _) _ _ _
  refine wpAny_bind (wpAny_field hz rfl (x := Value.bool false) rfl ?_)
  show wpAny _ _ (field (.ref (n + 5)) 3 >>= _) _ _ _
  refine wpAny_bind (wpAny_field hz rfl (x := Value.ref (n + 3)) rfl ?_)
  refine wpAny_bind (wpAny_seqItems ht rfl ?_)
  show wpAny _ _ (Builtin.SmallTypes.ownedTupleIsFree (.ref (n + 5)) >>= _) _ _ _
  refine wpAny_bind ?_
  unfold Builtin.SmallTypes.ownedTupleIsFree
  refine wpAny_bind (wpAny_field hz rfl (x := Value.none) rfl (wpAny_pure ?_))
  simp only [if_true]
  refine wpAny_bind (wpAny_rule ?_)
  refine wpAny_bind (wpAny_field hz rfl (x := Value.ref (n + 4)) rfl ?_)
  refine wpAny_bind (wpAny_setField_rec hz (by simp) fun g1 hz1 d1 => ?_)
  replace hz1 : IsZip g1 (n + 5) (n + 3) (n + 4) .ellipsis := hz1
  refine wpAny_bind ?_
  simp only [List.zipIdx_cons, List.zipIdx_nil, List.forIn_cons, List.forIn_nil]
  -- the first
  refine wpAny_bind (wpAny_bind (wpAny_onRaise ?_))
  show wpAny _ _ (Builtin.SmallTypes.nextOf (.ref n) >>= _) _ _ _
  refine wpAny_bind (wpAny_nextOf_list_item (h1.extBut d1.extBut (ad (by omega))) (hl1.extBut d1.extBut (ad (by omega))) hx fun g2 e2 d2 => wpAny_pure ?_)
  have ho2 : Trip g2 (n + 4) a b c := d2.extBut _ _ (ad (by omega)) (d1.extBut _ _ (ad (by omega)) ho)
  refine wpAny_bind (wpAny_seqItems ho2 rfl ?_)
  refine wpAny_bind (upd_trip ho2 fun g3 ho3 d3 => ?_)
  replace ho3 : Trip g3 (n + 4) x b c := ho3
  refine wpAny_bind (wpAny_letGo (wpAny_pure ?_))
  -- the second
  refine wpAny_bind (wpAny_bind (wpAny_onRaise ?_))
  show wpAny _ _ (Builtin.SmallTypes.nextOf (.ref (n + 1)) >>= _) _ _ _
  refine wpAny_bind (wpAny_nextOf_list_item (((h2.extBut d1.extBut (ad (by omega))).extBut d2.extBut (ad (by omega))).extBut d3.extBut (ad (by omega))) (((hl2.extBut d1.extBut (ad (by omega))).extBut d2.extBut (ad (by omega))).extBut d3.extBut (ad (by omega))) hy fun g4 e4 d4 => wpAny_pure ?_)
  have ho4 : Trip g4 (n + 4) x b c := d4.extBut _ _ (ad (by omega)) ho3
  refine wpAny_bind (wpAny_seqItems ho4 rfl ?_)
  refine wpAny_bind (upd_trip ho4 fun g5 ho5 d5 => ?_)
  replace ho5 : Trip g5 (n + 4) x y c := ho5
  refine wpAny_bind (wpAny_letGo (wpAny_pure ?_))
  -- the third
  refine wpAny_bind (wpAny_bind (wpAny_onRaise ?_))
  show wpAny _ _ (Builtin.SmallTypes.nextOf (.ref (n + 2)) >>= _) _ _ _
  refine wpAny_bind (wpAny_nextOf_list_item (((((h3.extBut d1.extBut (ad (by omega))).extBut d2.extBut (ad (by omega))).extBut d3.extBut (ad (by omega))).extBut d4.extBut (ad (by omega))).extBut d5.extBut (ad (by omega)))
    (((((hl3.extBut d1.extBut (ad (by omega))).extBut d2.extBut (ad (by omega))).extBut d3.extBut (ad (by omega))).extBut d4.extBut (ad (by omega))).extBut d5.extBut (ad (by omega))) hu fun g6 e6 d6 => wpAny_pure ?_)
  have ho6 : Trip g6 (n + 4) x y c := d6.extBut _ _ (ad (by omega)) ho5
  refine wpAny_bind (wpAny_seqItems ho6 rfl ?_)
  refine wpAny_bind (upd_trip ho6 fun g7 ho7 d7 => ?_)
  replace ho7 : Trip g7 (n + 4) x y u := ho7
  refine wpAny_bind (wpAny_letGo (wpAny_pure (wpAny_pure ?_)))
  refine wpAny_bind (wpAny_seqItems ho7 rfl ?_)
  refine wpAny_bind (wpAny_newTuple ?_)
  have sz : g7.objs.size = s.heap.objs.size := by rw [d7.1, d6.1, d5.1, d4.1, d3.1, d2.1, d1.1]
  have keep7 : ∀ c' o', c' ≠ n → c' ≠ n + 1 → c' ≠ n + 2 → c' ≠ n + 4 → c' ≠ n + 5 → s.heap.get? c' = some o' → g7.get? c' = some o' := fun c' o' n0 n1 n2 n4 n5 e =>
    d7.extBut _ _ n4 (d6.extBut _ _ n2 (d5.extBut _ _ n4 (d4.extBut _ _ n1 (d3.extBut _ _ n4 (d2.extBut _ _ n0 (d1.extBut _ _ n5 e))))))
  have hz7 : IsZip g7 (n + 5) (n + 3) (n + 4) .ellipsis := d7.extBut _ _ (ad (by omega)) (d6.extBut _ _ (ad (by omega)) (d5.extBut _ _ (ad (by omega)) (d4.extBut _ _ (ad (by omega)) (d3.extBut _ _ (ad (by omega)) (d2.extBut _ _ (ad (by omega)) hz1)))))
  have i1 : g7.IsListIter n l1 (k + 1) := ((((e2.extBut d3.extBut (ad (by omega))).extBut d4.extBut (ad (by omega))).extBut d5.extBut (ad (by omega))).extBut d6.extBut (ad (by omega))).extBut d7.extBut (ad (by omega))
  have i2 : g7.IsListIter (n + 1) l2 (k + 1) := ((e4.extBut d5.extBut (ad (by omega))).extBut d6.extBut (ad (by omega))).extBut d7.extBut (ad (by omega))
  have i3 : g7.IsListIter (n + 2) l3 (k + 1) := e6.extBut d7.extBut (ad (by omega))
  have zl : n + 5 < g7.objs.size := Heap.lt_size hz7
  show wpAny _ _ (Builtin.SmallTypes.ownedTupleHandOut (.ref (n + 5)) (.ref g7.objs.size) >>= _) _ _ _
  refine wpAny_bind ?_
  unfold Builtin.SmallTypes.ownedTupleHandOut
  have hz8 : IsZip (g7.push { cls := .type "tuple", data := .seq #[x, y, u] }) (n + 5) (n + 3) (n + 4) .ellipsis := Heap.get?_push_of_some _ hz7
  refine wpAny_bind (wpAny_setField_rec hz8 (by simp) fun g9 hz9 d9 => ?_)
  replace hz9 : IsZip g9 (n + 5) (n + 3) (n + 4) (rawInt g7.objs.size) := hz9
  refine wpAny_setField_rec hz9 (by simp) fun gA hzA dA => ?_
  replace hzA : IsZip gA (n + 5) (n + 3) (n + 4) (rawInt g7.objs.size) := hzA
  have up : ∀ c' o', c' ≠ n + 5 → g7.get? c' = some o' → gA.get? c' = some o' := fun c' o' n5 e => dA.extBut _ _ n5 (d9.extBut _ _ n5 (Heap.get?_push_of_some _ e))
  have hT : Trip gA g7.objs.size x y u := dA.extBut _ _ (Nat.ne_of_gt zl) (d9.extBut _ _ (Nat.ne_of_gt zl) (Heap.get?_push_size _ rfl))
  rw [sz] at hzA hT
  refine wpAny_pure ⟨_, rfl, ?_⟩
  show Q (.ref g7.objs.size) _
  rw [sz]
  exact q gA ⟨hzA, up _ _ (ad (by omega)) (keep7 _ _ (ad (by omega)) (ad (by omega)) (ad (by omega)) (ad (by omega)) (ad (by omega)) ht), ⟨_, _, _, up _ _ (ad (by omega)) ho7⟩, i1.at fun o' e => up _ o' (ad (by omega)) e, i2.at fun o' e => up _ o' (ad (by omega)) e, i3.at fun o' e => up _ o' (ad (by omega)) e⟩ hT
    fun c' o' n0 n1 n2 n4 n5 e => up c' o' n5 (keep7 c' o' n0 n1 n2 n4 n5 e)
theorem zip3_end {Q : Fin → Shared → Prop} (hh : A.handled = none) (Z : Z3 n l1 l2 l3 k .none s.heap) (b1 : l1 < n) (hl1 : s.heap.IsList l1 xs) (hx : xs[k]? = none)
    (hE : ∀ h' e, But3 n s.heap h' → (∃ o, h'.get? e = some o ∧ o.cls = .type "StopIteration") → E (.ref e) { s with heap := h' }) :
    wpAny (model prog w) A (Builtin.«zip.__next__» ⟨[.ref (n + 5)], []⟩) Q E s := by
  obtain ⟨hz, ht, ⟨a, b, c, ho⟩, h1, h2, h3⟩ := Z
  show wpAny _ _ (field (.ref (n + 5)) 2 >>= _) _ _ _
  refine wpAny_bind (wpAny_field hz rfl (x := Value.bool false) rfl ?_)
  show wpAny _ _ (field (.ref (n + 5)) 3 >>= _) _ _ _
  refine wpAny_bind (wpAny_field hz rfl (x := Value.ref (n + 3)) rfl ?_)
  refine wpAny_bind (wpAny_seqItems ht rfl ?_)
  show wpAny _ _ (Builtin.SmallTypes.ownedTupleIsFree (.ref (n + 5)) >>= _) _ _ _
  refine wpAny_bind ?_
  unfold Builtin.SmallTypes.ownedTupleIsFree
  refine wpAny_bind (wpAny_field hz rfl (x := Value.none) rfl (wpAny_pure ?_))
  simp only [if_true]
  refine wpAny_bind (wpAny_rule ?_)
  refine wpAny_bind (wpAny_field hz rfl (x := Value.ref (n + 4)) rfl ?_)
  refine wpAny_bind (wpAny_setField_rec hz (by simp) fun g1 hz1 d1 => ?_)
  replace hz1 : IsZip g1 (n + 5) (n + 3) (n + 4) .ellipsis := hz1
  refine wpAny_bind ?_
  simp only [List.zipIdx_cons, List.zipIdx_nil, List.forIn_cons, List.forIn_nil]
  refine wpAny_bind (wpAny_bind (wpAny_onRaise ?_))
  show wpAny _ _ (Builtin.SmallTypes.nextOf (.ref n) >>= _) _ _ _
  refine wpAny_bind (wpAny_nextOf_list_end hh (h1.extBut d1.extBut (ad (by omega))) (hl1.extBut d1.extBut (ad (by omega))) hx fun g2 e d2 he => ?_)
  obtain ⟨oe, hoe, hce⟩ := he
  have hz2 : IsZip g2 (n + 5) (n + 3) (n + 4) .ellipsis := d2 _ _ (ad (by omega)) hz1
  have ez : e ≠ n + 5 := fun z => by
    subst z
    rw [hz2] at hoe
    cases hoe
    simp at hce
  refine wpAny_setField_rec hz2 (by simp) fun g3 _ d3 => hE g3 e (fun c' o' n0 _ _ _ n5 q => d3.extBut _ _ n5 (d2 _ _ n0 (d1.extBut _ _ n5 q))) ⟨oe, d3.extBut _ _ ez hoe, hce⟩
theorem next3_item {Q : Option Value → Shared → Prop} (Z : Z3 n l1 l2 l3 k .none s.heap) (b1 : l1 < n) (b2 : l2 < n) (b3 : l3 < n) (hl1 : s.heap.IsList l1 xs) (hl2 : s.heap.IsList l2 ys) (hl3 : s.heap.IsList l3 zs) (hx : xs[k]? = some x) (hy : ys[k]? = some y) (hu : zs[k]? = some u)
    (q : ∀ h', Z3 n l1 l2 l3 (k + 1) (rawInt s.heap.objs.size) h' → Trip h' s.heap.objs.size x y u → But3 n s.heap h' → Q (some (.ref s.heap.objs.size)) { s with heap := h' }) : wpAny (model prog w) A (pyNext (.ref (n + 5))) Q E s := by
  have hT : s.TypeIs (.ref (n + 5)) "zip" := ⟨_, Z.z, rfl⟩
  unfold pyNext
  exact wpAny_bind (wpAny_attempt (wpAny_callSpecial?_slot (name := Str.ofString "__next__") hT F.slot_zip_next (wpAny_call_entry F.slot_zip_next hT F.entry_zip_next
    (zip3_item Z b1 b2 b3 hl1 hl2 hl3 hx hy hu fun h' c1 c2 c3 => wpAny_pure (q h' c1 c2 c3)) (F.args_zip_next_1 _))))
theorem next3_end {Q : Option Value → Shared → Prop} (hh : A.handled = none) (Z : Z3 n l1 l2 l3 k .none s.heap) (b1 : l1 < n) (hl1 : s.heap.IsList l1 xs) (hx : xs[k]? = none) (q : ∀ h', But3 n s.heap h' → Q none { s with heap := h' }) :
    wpAny (model prog w) A (pyNext (.ref (n + 5))) Q E s := by
  have hT : s.TypeIs (.ref (n + 5)) "zip" := ⟨_, Z.z, rfl⟩
  unfold pyNext
  refine wpAny_bind (wpAny_attempt (wpAny_callSpecial?_slot (name := Str.ofString "__next__") hT F.slot_zip_next (wpAny_call_entry F.slot_zip_next hT F.entry_zip_next (zip3_end hh Z b1 hl1 hx fun h' e hk he => ?_) (F.args_zip_next_1 _))))
  obtain ⟨o, ho, hc⟩ := he
  refine wpAny_bind (wpAny_isInstance (T := "StopIteration") (b := true) ⟨o, ho, hc⟩ isSubtype_stop ?_)
  exact wpAny_pure (q _ hk)
end
/-- how the zip is made -/
abbrev liOf (l : Addr) : Obj := { cls := .type "list_iterator", data := .fields #[.ref l, .int 0 0] }
abbrev m1 (h : Heap) (l1 : Addr) : Heap := h.push (liOf l1)
abbrev m2 (h : Heap) (l1 l2 : Addr) : Heap := (m1 h l1).push (liOf l2)
abbrev m3 (h : Heap) (l1 l2 l3 : Addr) : Heap := (m2 h l1 l2).push (liOf l3)
abbrev m4 (h : Heap) (l1 l2 l3 : Addr) : Heap := (m3 h l1 l2 l3).push { cls := .type "tuple", data := .seq #[.ref h.objs.size, .ref (m1 h l1).objs.size, .ref (m2 h l1 l2).objs.size] }
abbrev m5 (h : Heap) (l1 l2 l3 : Addr) : Heap := (m4 h l1 l2 l3).push { cls := .type "tuple", data := .seq #[.none, .none, .none] }
abbrev m6 (h : Heap) (l1 l2 l3 : Addr) : Heap := (m5 h l1 l2 l3).push { cls := .type "zip", data := .fields #[.none, .bool false, .bool false, .ref (m3 h l1 l2 l3).objs.size, .ref (m4 h l1 l2 l3).objs.size] }
theorem meets_zip3 (l1 l2 l3 : Addr) (xs ys zs : Array Value) :
    Meets (Builtin.«zip.__new__» ⟨[.type "zip", .ref l1, .ref l2, .ref l3], []⟩) (fun _ R s => s.heap.IsList l1 xs ∧ s.heap.IsList l2 ys ∧ s.heap.IsList l3 zs ∧ R (.ok (.ret (.ref (m5 s.heap l1 l2 l3).objs.size))) { s with heap := m6 s.heap l1 l2 l3 }) :=
  .of_wp fun prog w A R s h => by
    obtain ⟨hp, g, d, tk, os⟩ := s
    obtain ⟨q1, q2, q3, h⟩ := h
    have hsub := sub_zip
    have L1 : Heap.IsList (Shared.heap ⟨hp, g, d, tk, os⟩) l1 xs := q1
    have L2 : Heap.IsList (Shared.heap ⟨hp.push (liOf l1), g, d, tk, os⟩) l2 ys := Heap.IsList.push q2 _
    have L3 : Heap.IsList (Shared.heap ⟨(hp.push (liOf l1)).push (liOf l2), g, d, tk, os⟩) l3 zs := Heap.IsList.push (Heap.IsList.push q3 _) _
    wp_walk using wpAny_pyIter_list L1, wpAny_pyIter_list L2, wpAny_pyIter_list L3
    exact ⟨_, rfl, h⟩
theorem typeCall_zip3 (a b c : Value) : checkTypeCall "zip" ⟨[a, b, c], []⟩ = pure () := by kernel_rfl
theorem newCall_zip3 (a b c : Value) : checkBuiltinCall "zip.__new__" ⟨[.type "zip", a, b, c], []⟩ = pure () := by kernel_rfl
theorem args_init4 (a b c d : Value) : argsOk "object.__init__" ⟨[a, b, c, d], []⟩ := by
  unfold argsOk
  rw [signature?_of (id := "object.__init__") (n := ['_', '_', 't', 'i', 'n', 'i', '_', '_']) (o := ['t', 'c', 'e', 'j', 'b', 'o']) (by kernel_rfl) F.owner_object]
  kernel_rfl
section
variable {prog : Program} {w : World} {A : Around} {E : Value → Shared → Prop} {s : Shared}
theorem call_zip3 {l1 l2 l3 : Addr} {xs ys zs : Array Value} {Q : Value → Shared → Prop} (q1 : s.heap.IsList l1 xs) (q2 : s.heap.IsList l2 ys) (q3 : s.heap.IsList l3 zs)
    (q : ∀ h', Z3 s.heap.objs.size l1 l2 l3 0 .none h' → (∀ c o, s.heap.get? c = some o → h'.get? c = some o) → Q (.ref (s.heap.objs.size + 5)) { s with heap := h' }) :
    wpAny (model prog w) A (call (.type "zip") [.ref l1, .ref l2, .ref l3]) Q E s := by
  refine callType_new F.called_zip (by decide) (typeCall_zip3 _ _ _) (newCall_zip3 _ _ _) (fun obj => args_init4 obj _ _ _) F.entry_zip_new (meets_zip3 l1 l2 l3 xs ys zs) ⟨q1, q2, q3, ?_⟩
  have z1 : (m1 s.heap l1).objs.size = s.heap.objs.size + 1 := Heap.size_push ..
  have z2 : (m2 s.heap l1 l2).objs.size = s.heap.objs.size + 2 := by rw [Heap.size_push, z1]
  have z3 : (m3 s.heap l1 l2 l3).objs.size = s.heap.objs.size + 3 := by rw [Heap.size_push, z2]
  have z4 : (m4 s.heap l1 l2 l3).objs.size = s.heap.objs.size + 4 := by rw [Heap.size_push, z3]
  have z5 : (m5 s.heap l1 l2 l3).objs.size = s.heap.objs.size + 5 := by rw [Heap.size_push, z4]
  have p6 : (m6 s.heap l1 l2 l3).get? (m5 s.heap l1 l2 l3).objs.size = some _ := Heap.get?_push_size _ rfl
  have p5 : (m6 s.heap l1 l2 l3).get? (m4 s.heap l1 l2 l3).objs.size = some _ := Heap.get?_push_of_some _ (Heap.get?_push_size _ rfl)
  have p4 : (m6 s.heap l1 l2 l3).get? (m3 s.heap l1 l2 l3).objs.size = some _ := Heap.get?_push_of_some _ (Heap.get?_push_of_some _ (Heap.get?_push_size _ rfl))
  have p3 : (m6 s.heap l1 l2 l3).get? (m2 s.heap l1 l2).objs.size = some _ := Heap.get?_push_of_some _ (Heap.get?_push_of_some _ (Heap.get?_push_of_some _ (Heap.get?_push_size _ rfl)))
  have p2 : (m6 s.heap l1 l2 l3).get? (m1 s.heap l1).objs.size = some _ := Heap.get?_push_of_some _ (Heap.get?_push_of_some _ (Heap.get?_push_of_some _ (Heap.get?_push_of_some _ (Heap.get?_push_size _ rfl))))
  have p1 : (m6 s.heap l1 l2 l3).get? s.heap.objs.size = some _ := Heap.get?_push_of_some _ (Heap.get?_push_of_some _ (Heap.get?_push_of_some _ (Heap.get?_push_of_some _ (Heap.get?_push_of_some _ (Heap.get?_push_size _ rfl)))))
  show _ ∧ _
  rw [z3, z4, z5] at p6
  rw [z1, z2, z3] at p4
  rw [z4] at p5
  rw [z2] at p3
  rw [z1] at p2
  rw [z5]
  exact ⟨⟨_, p6, rfl⟩, q _ ⟨p6, p4, ⟨_, _, _, p5⟩, ⟨_, p1, rfl, rfl⟩, ⟨_, p2, rfl, rfl⟩, ⟨_, p3, rfl, rfl⟩⟩ fun c o e => Heap.get?_push_of_some _ (Heap.get?_push_of_some _ (Heap.get?_push_of_some _ (Heap.get?_push_of_some _ (Heap.get?_push_of_some _ (Heap.get?_push_of_some _ e)))))⟩
end
end Kx
/-! zip of a tuple and a list -/
namespace Kx
open L2 PySem PySem.Spec PyProof.Rows
abbrev Pr2 (h : Heap) (T : Addr) (a b : Value) : Prop := h.get? T = some { cls := .type "tuple", data := .seq #[a, b] }
/-- the zip that is made at n: a tuple's iterator, a list's, their tuple, the handed tuple, the zip -/
structure ZM (n l1 l2 k : Nat) (f0 : Value) (h : Heap) : Prop where
  z : IsZip h (n + 4) (n + 2) (n + 3) f0
  t : Pr2 h (n + 2) (.ref n) (.ref (n + 1))
  o : ∃ a b, Pr2 h (n + 3) a b
  a1 : h.IsTupleIter n l1 k
  a2 : h.IsListIter (n + 1) l2 k
def ButM (n : Nat) (h h' : Heap) : Prop := ∀ c o, c ≠ n → c ≠ n + 1 → c ≠ n + 3 → c ≠ n + 4 → h.get? c = some o → h'.get? c = some o
section
variable {prog : Program} {w : World} {A : Around} {E : Value → Shared → Prop} {s : Shared} {n l1 l2 k : Nat} {xs ys : Array Value} {x y : Value}
theorem upd_pr2 {T : Addr} {a b v : Value} {j : Nat} {Q : Unit → Shared → Prop} (hT : Pr2 s.heap T a b)
    (q : ∀ h', h'.get? T = some { cls := .type "tuple", data := .seq ((#[a, b] : Array Value).setIfInBounds j v) } → Heap.SameBut T s.heap h' → Q () { s with heap := h' }) : wpAny (model prog w) A (updateSeq T (·.setIfInBounds j v)) Q E s := by
  refine wpAny_updateSeq hT rfl (q _ ?_ (Heap.SameBut.update ..))
  rw [Heap.get?_update_self _ hT rfl]
  simp [Obj.mapSeq]
theorem zipM_item {Q : Value → Shared → Prop} (Z : ZM n l1 l2 k .none s.heap) (b1 : l1 < n) (b2 : l2 < n) (hl1 : s.heap.IsTuple l1 xs) (hl2 : s.heap.IsList l2 ys) (hx : xs[k]? = some x) (hy : ys[k]? = some y)
    (q : ∀ h', ZM n l1 l2 (k + 1) (rawInt s.heap.objs.size) h' → Pr2 h' s.heap.objs.size x y → ButM n s.heap h' → Q (.ref s.heap.objs.size) { s with heap := h' }) :
    wpAny (model prog w) A (Builtin.«zip.__next__» ⟨[.ref (n + 4)], []⟩) (fun fin s' => ∃ v, fin = .done (.ret v) ∧ Q v s') E s := by
  obtain ⟨hz, ht, ⟨a, b, ho⟩, h1, h2⟩ := Z
  show wpAny _ _ (field (.ref (n + 4)) 2 >>= _) _ _ _
  refine wpAny_bind (wpAny_field hz rfl (x := Value.bool false) rfl ?_)
  show wpAny _ _ (field (.ref (n + 4)) 3 >>= _) _ _ _
  refine wpAny_bind (wpAny_field hz rfl (x := Value.ref (n + 2)) rfl ?_)
  refine wpAny_bind (wpAny_seqItems ht rfl ?_)
  show wpAny _ _ (Builtin.SmallTypes.ownedTupleIsFree (.ref (n + 4)) >>= _) _ _ _
  refine wpAny_bind ?_
  unfold Builtin.SmallTypes.ownedTupleIsFree
  refine wpAny_bind (wpAny_field hz rfl (x := Value.none) rfl (wpAny_pure ?_))
  simp only [if_true]
  refine wpAny_bind (wpAny_rule ?_)
  refine wpAny_bind (wpAny_field hz rfl (x := Value.ref (n + 3)) rfl ?_)
  refine wpAny_bind (wpAny_setField_rec hz (by simp) fun g1 hz1 d1 => ?_)
  replace hz1 : IsZip g1 (n + 4) (n + 2) (n + 3) .ellipsis := hz1
  refine wpAny_bind ?_
  simp only [List.zipIdx_cons, List.zipIdx_nil, List.forIn_cons, List.forIn_nil]
  refine wpAny_bind (wpAny_bind (wpAny_onRaise ?_))
  show wpAny _ _ (Builtin.SmallTypes.nextOf (.ref n) >>= _) _ _ _
  have t1 : g1.IsTuple l1 xs := hl1.at fun o q => d1.extBut _ _ (ad (by omega)) q
  refine wpAny_bind (RZ.nextOf_tuple_item (h1.at fun o q => d1.extBut _ _ (ad (by omega)) q) t1 hx fun g2 e2 d2 => wpAny_pure ?_)
  have ho2 : Pr2 g2 (n + 3) a b := d2.extBut _ _ (ad (by omega)) (d1.extBut _ _ (ad (by omega)) ho)
  refine wpAny_bind (wpAny_seqItems ho2 rfl ?_)
  refine wpAny_bind (upd_pr2 ho2 fun g3 ho3 d3 => ?_)
  replace ho3 : Pr2 g3 (n + 3) x b := ho3
  refine wpAny_bind (wpAny_letGo (wpAny_pure ?_))
  refine wpAny_bind (wpAny_bind (wpAny_onRaise ?_))
  show wpAny _ _ (Builtin.SmallTypes.nextOf (.ref (n + 1)) >>= _) _ _ _
  refine wpAny_bind (wpAny_nextOf_list_item (((h2.extBut d1.extBut (ad (by omega))).extBut d2.extBut (ad (by omega))).extBut d3.extBut (ad (by omega))) (((hl2.extBut d1.extBut (ad (by omega))).extBut d2.extBut (ad (by omega))).extBut d3.extBut (ad (by omega))) hy fun g4 e4 d4 => wpAny_pure ?_)
  have ho4 : Pr2 g4 (n + 3) x b := d4.extBut _ _ (ad (by omega)) ho3
  refine wpAny_bind (wpAny_seqItems ho4 rfl ?_)
  refine wpAny_bind (upd_pr2 ho4 fun g5 ho5 d5 => ?_)
  replace ho5 : Pr2 g5 (n + 3) x y := ho5
  refine wpAny_bind (wpAny_letGo (wpAny_pure (wpAny_pure ?_)))
  refine wpAny_bind (wpAny_seqItems ho5 rfl ?_)
  refine wpAny_bind (wpAny_newTuple ?_)
  have sz : g5.objs.size = s.heap.objs.size := by rw [d5.1, d4.1, d3.1, d2.1, d1.1]
  have keep5 : ∀ c' o', c' ≠ n → c' ≠ n + 1 → c' ≠ n + 3 → c' ≠ n + 4 → s.heap.get? c' = some o' → g5.get? c' = some o' := fun c' o' n0 n1 n3 n4 e =>
    d5.extBut _ _ n3 (d4.extBut _ _ n1 (d3.extBut _ _ n3 (d2.extBut _ _ n0 (d1.extBut _ _ n4 e))))
  have hz5 : IsZip g5 (n + 4) (n + 2) (n + 3) .ellipsis := d5.extBut _ _ (ad (by omega)) (d4.extBut _ _ (ad (by omega)) (d3.extBut _ _ (ad (by omega)) (d2.extBut _ _ (ad (by omega)) hz1)))
  have i1 : g5.IsTupleIter n l1 (k + 1) := e2.at fun o q => d5.extBut _ _ (ad (by omega)) (d4.extBut _ _ (ad (by omega)) (d3.extBut _ _ (ad (by omega)) q))
  have i2 : g5.IsListIter (n + 1) l2 (k + 1) := e4.extBut d5.extBut (ad (by omega))
  have zl : n + 4 < g5.objs.size := Heap.lt_size hz5
  show wpAny _ _ (Builtin.SmallTypes.ownedTupleHandOut (.ref (n + 4)) (.ref g5.objs.size) >>= _) _ _ _
  refine wpAny_bind ?_
  unfold Builtin.SmallTypes.ownedTupleHandOut
  have hz8 : IsZip (g5.push { cls := .type "tuple", data := .seq #[x, y] }) (n + 4) (n + 2) (n + 3) .ellipsis := Heap.get?_push_of_some _ hz5
  refine wpAny_bind (wpAny_setField_rec hz8 (by simp) fun g9 hz9 d9 => ?_)
  replace hz9 : IsZip g9 (n + 4) (n + 2) (n + 3) (rawInt g5.objs.size) := hz9
  refine wpAny_setField_rec hz9 (by simp) fun gA hzA dA => ?_
  replace hzA : IsZip gA (n + 4) (n + 2) (n + 3) (rawInt g5.objs.size) := hzA
  have up : ∀ c' o', c' ≠ n + 4 → g5.get? c' = some o' → gA.get? c' = some o' := fun c' o' n5 e => dA.extBut _ _ n5 (d9.extBut _ _ n5 (Heap.get?_push_of_some _ e))
  have hT : Pr2 gA g5.objs.size x y := dA.extBut _ _ (Nat.ne_of_gt zl) (d9.extBut _ _ (Nat.ne_of_gt zl) (Heap.get?_push_size _ rfl))
  rw [sz] at hzA hT
  refine wpAny_pure ⟨_, rfl, ?_⟩
  show Q (.ref g5.objs.size) _
  rw [sz]
  exact q gA ⟨hzA, up _ _ (ad (by omega)) (keep5 _ _ (ad (by omega)) (ad (by omega)) (ad (by omega)) (ad (by omega)) ht), ⟨_, _, up _ _ (ad (by omega)) ho5⟩, i1.at fun o' e => up _ o' (ad (by omega)) e, i2.at fun o' e => up _ o' (ad (by omega)) e⟩ hT
    fun c' o' n0 n1 n3 n4 e => up c' o' n4 (keep5 c' o' n0 n1 n3 n4 e)
theorem zipM_end {Q : Fin → Shared → Prop} (hh : A.handled = none) (Z : ZM n l1 l2 k .none s.heap) (b1 : l1 < n) (hl1 : s.heap.IsTuple l1 xs) (hx : xs[k]? = none)
    (hE : ∀ h' e, ButM n s.heap h' → (∃ o, h'.get? e = some o ∧ o.cls = .type "StopIteration") → E (.ref e) { s with heap := h' }) :
    wpAny (model prog w) A (Builtin.«zip.__next__» ⟨[.ref (n + 4)], []⟩) Q E s := by
  obtain ⟨hz, ht, ⟨a, b, ho⟩, h1, h2⟩ := Z
  show wpAny _ _ (field (.ref (n + 4)) 2 >>= _) _ _ _
  refine wpAny_bind (wpAny_field hz rfl (x := Value.bool false) rfl ?_)
  show wpAny _ _ (field (.ref (n + 4)) 3 >>= _) _ _ _
  refine wpAny_bind (wpAny_field hz rfl (x := Value.ref (n + 2)) rfl ?_)
  refine wpAny_bind (wpAny_seqItems ht rfl ?_)
  show wpAny _ _ (Builtin.SmallTypes.ownedTupleIsFree (.ref (n + 4)) >>= _) _ _ _
  refine wpAny_bind ?_
  unfold Builtin.SmallTypes.ownedTupleIsFree
  refine wpAny_bind (wpAny_field hz rfl (x := Value.none) rfl (wpAny_pure ?_))
  simp only [if_true]
  refine wpAny_bind (wpAny_rule ?_)
  refine wpAny_bind (wpAny_field hz rfl (x := Value.ref (n + 3)) rfl ?_)
  refine wpAny_bind (wpAny_setField_rec hz (by simp) fun g1 hz1 d1 => ?_)
  replace hz1 : IsZip g1 (n + 4) (n + 2) (n + 3) .ellipsis := hz1
  refine wpAny_bind ?_
  simp only [List.zipIdx_cons, List.zipIdx_nil, List.forIn_cons, List.forIn_nil]
  refine wpAny_bind (wpAny_bind (wpAny_onRaise ?_))
  show wpAny _ _ (Builtin.SmallTypes.nextOf (.ref n) >>= _) _ _ _
  have t1 : g1.IsTuple l1 xs := hl1.at fun o q => d1.extBut _ _ (ad (by omega)) q
  refine wpAny_bind (RZ.nextOf_tuple_end hh (h1.at fun o q => d1.extBut _ _ (ad (by omega)) q) t1 hx fun g2 e d2 he => ?_)
  obtain ⟨oe, hoe, hce⟩ := he
  have hz2 : IsZip g2 (n + 4) (n + 2) (n + 3) .ellipsis := d2 _ _ (ad (by omega)) hz1
  have ez : e ≠ n + 4 := fun z => by
    subst z
    rw [hz2] at hoe
    cases hoe
    simp at hce
  refine wpAny_setField_rec hz2 (by simp) fun g3 _ d3 => hE g3 e (fun c' o' n0 _ _ n4 q => d3.extBut _ _ n4 (d2 _ _ n0 (d1.extBut _ _ n4 q))) ⟨oe, d3.extBut _ _ ez hoe, hce⟩
theorem nextM_item {Q : Option Value → Shared → Prop} (Z : ZM n l1 l2 k .none s.heap) (b1 : l1 < n) (b2 : l2 < n) (hl1 : s.heap.IsTuple l1 xs) (hl2 : s.heap.IsList l2 ys) (hx : xs[k]? = some x) (hy : ys[k]? = some y)
    (q : ∀ h', ZM n l1 l2 (k + 1) (rawInt s.heap.objs.size) h' → Pr2 h' s.heap.objs.size x y → ButM n s.heap h' → Q (some (.ref s.heap.objs.size)) { s with heap := h' }) : wpAny (model prog w) A (pyNext (.ref (n + 4))) Q E s := by
  have hT : s.TypeIs (.ref (n + 4)) "zip" := ⟨_, Z.z, rfl⟩
  unfold pyNext
  exact wpAny_bind (wpAny_attempt (wpAny_callSpecial?_slot (name := Str.ofString "__next__") hT F.slot_zip_next (wpAny_call_entry F.slot_zip_next hT F.entry_zip_next
    (zipM_item Z b1 b2 hl1 hl2 hx hy fun h' c1 c2 c3 => wpAny_pure (q h' c1 c2 c3)) (F.args_zip_next_1 _))))
theorem nextM_end {Q : Option Value → Shared → Prop} (hh : A.handled = none) (Z : ZM n l1 l2 k .none s.heap) (b1 : l1 < n) (hl1 : s.heap.IsTuple l1 xs) (hx : xs[k]? = none) (q : ∀ h', ButM n s.heap h' → Q none { s with heap := h' }) :
    wpAny (model prog w) A (pyNext (.ref (n + 4))) Q E s := by
  have hT : s.TypeIs (.ref (n + 4)) "zip" := ⟨_, Z.z, rfl⟩
  unfold pyNext
  refine wpAny_bind (wpAny_attempt (wpAny_callSpecial?_slot (name := Str.ofString "__next__") hT F.slot_zip_next (wpAny_call_entry F.slot_zip_next hT F.entry_zip_next (zipM_end hh Z b1 hl1 hx fun h' e hk he => ?_) (F.args_zip_next_1 _))))
  obtain ⟨o, ho, hc⟩ := he
  refine wpAny_bind (wpAny_isInstance (T := "StopIteration") (b := true) ⟨o, ho, hc⟩ isSubtype_stop ?_)
  exact wpAny_pure (q _ hk)
end
abbrev tiOf (l : Addr) : Obj := { cls := .type "tuple_iterator", data := .fields #[.ref l, .int 0 0] }
abbrev g1M (h : Heap) (l1 : Addr) : Heap := h.push (tiOf l1)
abbrev g2M (h : Heap) (l1 l2 : Addr) : Heap := (g1M h l1).push (liOf l2)
abbrev g3M (h : Heap) (l1 l2 : Addr) : Heap := (g2M h l1 l2).push { cls := .type "tuple", data := .seq #[.ref h.objs.size, .ref (g1M h l1).objs.size] }
abbrev g4M (h : Heap) (l1 l2 : Addr) : Heap := (g3M h l1 l2).push { cls := .type "tuple", data := .seq #[.none, .none] }
abbrev g5M (h : Heap) (l1 l2 : Addr) : Heap := (g4M h l1 l2).push { cls := .type "zip", data := .fields #[.none, .bool false, .bool false, .ref (g2M h l1 l2).objs.size, .ref (g3M h l1 l2).objs.size] }
theorem meets_zipM (l1 l2 : Addr) (xs ys : Array Value) :
    Meets (Builtin.«zip.__new__» ⟨[.type "zip", .ref l1, .ref l2], []⟩) (fun _ R s => s.heap.IsTuple l1 xs ∧ s.heap.IsList l2 ys ∧ R (.ok (.ret (.ref (g4M s.heap l1 l2).objs.size))) { s with heap := g5M s.heap l1 l2 }) :=
  .of_wp fun prog w A R s h => by
    obtain ⟨hp, g, d, tk, os⟩ := s
    obtain ⟨q1, q2, h⟩ := h
    have hsub := sub_zip
    have L1 : Heap.IsTuple (Shared.heap ⟨hp, g, d, tk, os⟩) l1 xs := q1
    have L2 : Heap.IsList (Shared.heap ⟨hp.push (tiOf l1), g, d, tk, os⟩) l2 ys := Heap.IsList.push q2 _
    wp_walk using wpAny_pyIter_tuple L1, wpAny_pyIter_list L2
    exact ⟨_, rfl, h⟩
section
variable {prog : Program} {w : World} {A : Around} {E : Value → Shared → Prop} {s : Shared}
theorem call_zipM {l1 l2 : Addr} {xs ys : Array Value} {Q : Value → Shared → Prop} (q1 : s.heap.IsTuple l1 xs) (q2 : s.heap.IsList l2 ys)
    (q : ∀ h', ZM s.heap.objs.size l1 l2 0 .none h' → (∀ c o, s.heap.get? c = some o → h'.get? c = some o) → Q (.ref (s.heap.objs.size + 4)) { s with heap := h' }) :
    wpAny (model prog w) A (call (.type "zip") [.ref l1, .ref l2]) Q E s := by
  refine callType_new F.called_zip (by decide) (F.typeCall_zip_2 _ _) (F.newCall_zip_2 _ _) (fun obj => F.args_object_init_3 obj _ _) F.entry_zip_new (meets_zipM l1 l2 xs ys) ⟨q1, q2, ?_⟩
  have z1 : (g1M s.heap l1).objs.size = s.heap.objs.size + 1 := Heap.size_push ..
  have z2 : (g2M s.heap l1 l2).objs.size = s.heap.objs.size + 2 := by rw [Heap.size_push, z1]
  have z3 : (g3M s.heap l1 l2).objs.size = s.heap.objs.size + 3 := by rw [Heap.size_push, z2]
  have z4 : (g4M s.heap l1 l2).objs.size = s.heap.objs.size + 4 := by rw [Heap.size_push, z3]
  have p5 : (g5M s.heap l1 l2).get? (g4M s.heap l1 l2).objs.size = some _ := Heap.get?_push_size _ rfl
  have p4 : (g5M s.heap l1 l2).get? (g3M s.heap l1 l2).objs.size = some _ := Heap.get?_push_of_some _ (Heap.get?_push_size _ rfl)
  have p3 : (g5M s.heap l1 l2).get? (g2M s.heap l1 l2).objs.size = some _ := Heap.get?_push_of_some _ (Heap.get?_push_of_some _ (Heap.get?_push_size _ rfl))
  have p2 : (g5M s.heap l1 l2).get? (g1M s.heap l1).objs.size = some _ := Heap.get?_push_of_some _ (Heap.get?_push_of_some _ (Heap.get?_push_of_some _ (Heap.get?_push_size _ rfl)))
  have p1 : (g5M s.heap l1 l2).get? s.heap.objs.size = some _ := Heap.get?_push_of_some _ (Heap.get?_push_of_some _ (Heap.get?_push_of_some _ (Heap.get?_push_of_some _ (Heap.get?_push_size _ rfl))))
  show _ ∧ _
  rw [z2, z3, z4] at p5
  rw [z1, z2] at p3
  rw [z3] at p4
  rw [z1] at p2
  rw [z4]
  exact ⟨⟨_, p5, rfl⟩, q _ ⟨p5, p3, ⟨_, _, p4⟩, ⟨_, p1, rfl, rfl⟩, ⟨_, p2, rfl, rfl⟩⟩ fun c o e => Heap.get?_push_of_some _ (Heap.get?_push_of_some _ (Heap.get?_push_of_some _ (Heap.get?_push_of_some _ (Heap.get?_push_of_some _ e))))⟩
end
/-- the tuple and the list as they stand at each turn -/
def ItM (K : PySem.W.Frag) (a b : Addr) : It :=
  ⟨fun i H => ∃ (xs ys : List V) (x y : V), SqT K H a xs ∧ SqL K H b ys ∧ xs[i]? = some x ∧ ys[i]? = some y,
    fun i H v H' => ∃ T x y, v = .ref T ∧ H T = none ∧ H' = upd H T (.tup [x, y]) ∧ (∀ l, SqT K H a l → l[i]? = some x) ∧ ∀ l, SqL K H b l → l[i]? = some y,
    fun i H => ∃ xs : List V, SqT K H a xs ∧ xs.length ≤ i⟩
def fpM (n : Nat) : List Addr := [n + 4, n + 2, n + 3, n, n + 1]
theorem memM {n c : Nat} (h : c ∈ fpM n) : c = n + 4 ∨ c = n + 2 ∨ c = n + 3 ∨ c = n ∨ c = n + 1 := by simpa [fpM] using h
theorem inM {n c : Nat} (h : c = n + 4 ∨ c = n + 2 ∨ c = n + 3 ∨ c = n ∨ c = n + 1) : c ∈ fpM n := by simpa [fpM] using h
theorem ltM {n c m : Nat} (h : c ∈ fpM n) (l : n + 4 < m) : c < m := by rcases memM h with q | q | q | q | q <;> omega
theorem leM {n c : Nat} (h : c ∈ fpM n) : n ≤ c := by rcases memM h with q | q | q | q | q <;> omega
theorem ButM.out {n : Nat} {h h' : Heap} (k : ButM n h h') {c : Addr} {o : Obj} (no : c ∉ fpM n) (q : h.get? c = some o) : h'.get? c = some o :=
  k c o (fun e => no (inM (.inr (.inr (.inr (.inl e)))))) (fun e => no (inM (.inr (.inr (.inr (.inr e)))))) (fun e => no (inM (.inr (.inr (.inl e))))) (fun e => no (inM (.inl e))) q
theorem turn_zipM {P : Program} {w : World} {K : PySem.W.Frag} {elts : List Expr} {kk : Nat} {tpos : Pos} {n l1 l2 : Nat} (b1 : l1 < n) (b2 : l2 < n) :
    Turn P w K (.Tuple elts kk tpos) (ItM K l1 l2) (fpM n) (n + 4) (fun i h => ZM n l1 l2 i .none h) where
  mem := inM (.inl rfl)
  obj := fun i h Z c hc => by
    obtain ⟨hz, ht, ⟨x, y, ho⟩, ⟨o1, e1, _, d1⟩, ⟨o2, e2, _, d2⟩⟩ := Z
    rcases memM hc with q | q | q | q | q
    · rw [q]; exact ⟨_, hz, fun v q => nomatch q⟩
    · rw [q]; exact ⟨_, ht, fun v q => nomatch q⟩
    · rw [q]; exact ⟨_, ho, fun v q => nomatch q⟩
    · rw [q]; exact ⟨o1, e1, fun v q => by rw [d1] at q; cases q⟩
    · rw [q]; exact ⟨o2, e2, fun v q => by rw [d2] at q; cases q⟩
  keep := fun i h h' Z k => by
    obtain ⟨hz, ht, ⟨x, y, ho⟩, h1, h2⟩ := Z
    exact ⟨k _ (inM (.inl rfl)) _ hz, k _ (inM (.inr (.inl rfl))) _ ht, ⟨x, y, k _ (inM (.inr (.inr (.inl rfl)))) _ ho⟩, h1.at fun o q => k _ (inM (.inr (.inr (.inr (.inl rfl))))) o q, h2.at fun o q => k _ (inM (.inr (.inr (.inr (.inr rfl))))) o q⟩
  item := by
    intro X hP hw hK hc i pins s σ H E I hf Z hg
    subst hP hw hK
    obtain ⟨xs, ys, x, y, hqx, hqy, hx, hy⟩ := hg
    obtain ⟨its, rv, p, _⟩ := I.tuple hqx
    obtain ⟨its2, rv2, p2, _⟩ := I.list hqy
    obtain ⟨u, hu, ru⟩ := rv.get hx
    obtain ⟨u2, hu2, ru2⟩ := rv2.get hy
    have sl : n + 4 < s.heap.objs.size := Heap.lt_size Z.z
    refine nextM_item Z b1 b2 p p2.isList (x := u) (y := u2) (by simpa using hu) (by simpa using hu2) fun h' Z' hT hk => ?_
    refine ⟨_, rfl, wpAny_letOwnedTupleGo_zip (s := { s with heap := h' }) Z'.z fun h2 z2 sb => ?_⟩
    have hT2 : h2.get? s.heap.objs.size = some { cls := .type "tuple", data := .seq #[u, u2] } := (sb.2 _ (Nat.ne_of_gt sl)).trans hT
    have new : ObjOk X.prog X.w (upd H s.heap.objs.size (.tup [x, y])) h2 s.heap.objs.size (.tup [x, y]) :=
      ⟨by show 2 ≤ sizeLine; decide, [u, u2], .cons ru (.cons ru2 .nil), ⟨_, hT2, rfl, _, rfl⟩⟩
    have kp : ∀ c o, c ∉ fpM n → s.heap.get? c = some o → h2.get? c = some o := fun c o hb q => (sb.2 c (fun e => hb (inM (.inl e)))).trans (hk.out hb q)
    have I1 : Inv X pins σ (upd H s.heap.objs.size (.tup [x, y])) { s with heap := h2 } := I.turnedNew (t' := s.toks) (ch := fpM n) kp hf (Nat.le_refl _) new
    refine ⟨.ref s.heap.objs.size, _, I1, rfl, ⟨_, x, y, rfl, I.hok.fresh (Nat.le_refl _), rfl, fun l hl => by rw [I.tuple_inj hl hqx]; exact hx, fun l hl => by rw [I.list_inj hl hqy]; exact hy⟩, ?_, fun c hcm => ?_⟩
    · obtain ⟨c1, c2, ⟨y1, y2, c3⟩, c4, c5⟩ := Z'
      exact ⟨z2, (sb.2 _ (ad (by omega))).trans c2, ⟨y1, y2, (sb.2 _ (ad (by omega))).trans c3⟩, c4.at fun o q => (sb.2 _ (ad (by omega))).trans q, c5.at fun o q => (sb.2 _ (ad (by omega))).trans q⟩
    · have hlt : c < s.heap.objs.size := ltM hcm sl
      rw [upd_ne (Nat.ne_of_lt hlt)]
      exact (hf c hcm).1
  done := by
    intro X hP hw hK hc i pins s σ H E I hf Z hg
    subst hP hw hK
    obtain ⟨xs, hqx, hend⟩ := hg
    obtain ⟨its, rv, p, _⟩ := I.tuple hqx
    have ln := rv.length
    have no : its.toArray[i]? = none := by
      simp
      omega
    refine nextM_end (I.ok.hd hc) Z b1 p no fun h' hk => ⟨rfl, ?_⟩
    exact I.turnedL (t' := s.toks) (ch := fpM n) (fun c o hb q => hk.out hb q) hf
  self := fun A i s Q E Z q => wpAny_pyIter_zip Z.z q
/-- zip of a tuple and a tuple or a list -/
def iZipB (K : PySem.W.Frag) (ta : TA) : TI := fun σ H R => ta σ H fun vs H1 => ∃ a b xs ys, vs = [.ref a, .ref b] ∧ SqT K H1 a xs ∧ ((SqL K H1 b ys ∧ R (ItM K a b) H1) ∨ (SqT K H1 b ys ∧ R (RZ.ItzT K a b) H1))
theorem pi_zipB {X : Cx} {e e2 : Expr} {ta : TA} {p pos tpos : Pos} {elts : List Expr} {kk : Nat} (hg : Gl X "zip") (hm : X.mg "zip" = none) (ha : PA X [e, e2] ta)
    (hs : starEach [e, e2] X.env = (false, eval e X.env) :: starEach [e2] X.env := by rfl) (hpl : (backTo pos (starEach [e2] X.env)).any (·.1) = false := by rfl) :
    PI X (.Tuple elts kk tpos) (.Call (.Name "zip" p) [e, e2] [] pos) (iZipB X.K ta) := by
  refine ⟨fun pins s σ H R I h => ?_⟩
  refine Call_ (ld_blt I hg hm PyProof.Rows.boot_zip (PyProof.Rows.callWith_type1 (thn (ha.run pos pins s σ H _ I h) fun us s1 ⟨vs, H1, I1, r1, q1⟩ => ?_) hs hpl))
  obtain ⟨a, b, xs, ys, ex, qx, q1⟩ := q1
  subst ex
  obtain ⟨v1, us1, rfl, r, t1⟩ : ∃ v us', us = v :: us' ∧ RelV (.ref a) v ∧ Vals [.ref b] us' := by
    cases r1 with
    | cons r t => exact ⟨_, _, rfl, r, t⟩
  clear r1
  obtain ⟨v2, rfl, r'⟩ : ∃ v, us1 = [v] ∧ RelV (.ref b) v := by
    cases t1 with
    | cons r t =>
      cases t
      exact ⟨_, rfl, r⟩
  clear t1
  obtain rfl : v1 = .ref a := r
  obtain rfl : v2 = .ref b := r'
  clear h
  obtain ⟨its, rv, p1, _⟩ := I1.tuple qx
  obtain ⟨o1, ho1, _⟩ := id p1
  rcases q1 with ⟨qy, q⟩ | ⟨qy, q⟩
  · obtain ⟨its2, rv2, p2, _⟩ := I1.list qy
    refine call_zipM (show s1.heap.IsTuple a its.toArray from p1) p2.isList fun h' Z hk => wpAny_pyIter_zip Z.z ?_
    have I2 : Inv X pins σ H1 { s1 with heap := h' } := I1.kept (t' := s1.toks) hk
    refine ⟨s1.heap.objs.size + 4, fpM s1.heap.objs.size, _, _, H1, rfl, I2, turn_zipM (Heap.lt_size ho1) p2.lt, Z, fun c' hc' => ?_, q⟩
    have hle : s1.heap.objs.size ≤ c' := leM hc'
    exact I1.fpOk hle (I1.hok.fresh hle)
  · obtain ⟨its2, rv2, p2, _⟩ := I1.tuple qy
    obtain ⟨o2, ho2, _⟩ := id p2
    refine RZ.call_zipT (show s1.heap.IsTuple a its.toArray from p1) (show s1.heap.IsTuple b its2.toArray from p2) fun h' hz hTI hTO h1 h2 hsz hk => wpAny_pyIter_zip hz ?_
    have I2 : Inv X pins σ H1 { s1 with heap := h' } := I1.kept (t' := s1.toks) hk
    refine ⟨s1.heap.objs.size + 4, fpM s1.heap.objs.size, _, _, H1, rfl, I2, RZ.turn_zipT (PySem.W.ktu_apart s1.heap.objs.size a b (Heap.lt_size ho1) (Heap.lt_size ho2)), ⟨hz, hTI, ⟨_, _, hTO⟩, h1, h2⟩, fun c' hc' => ?_, q⟩
    have hle : s1.heap.objs.size ≤ c' := leM hc'
    exact I1.fpOk hle (I1.hok.fresh hle)
theorem for_zipB {K : PySem.W.Frag} {a b : Addr} {xs ys : List V} {g : TG} {tb : TS} {D : Ends} {σ : L2.St} {H0 H : Hp} (hl : xs.length = ys.length) (hx : SqT K H0 a xs) (hy : Sq K H0 b ys) (Pv : Nat → L2.St → Hp → Prop) (h0 : Pv 0 σ H) (old : ∀ i σ H', Pv i σ H' → Same H0 H')
    (hs : ∀ (i : Nat) (x y : V) (T : Addr) (σ : L2.St) (H' : Hp), xs[i]? = some x → ys[i]? = some y → Pv i σ H' → H' T = none → g (.ref T) σ (upd H' T (.tup [x, y])) fun σ2 H2 => tb { D with nx := Pv (i + 1), ct := Pv (i + 1), bk := D.nx } σ2 H2) (hd : ∀ σ H', Pv xs.length σ H' → D.nx σ H') :
    SqT K H a xs ∧ ((SqL K H b ys ∧ forR g tb D σ (ItM K a b) H) ∨ (SqT K H b ys ∧ forR g tb D σ (RZ.ItzT K a b) H)) := by
  refine ⟨sqT_same (old 0 σ H h0) hx, hy.imp (fun q => ⟨sqL_same (old 0 σ H h0) q, for_by (n := xs.length) Pv h0 ?_ ?_⟩) fun q => ⟨sqT_same (old 0 σ H h0) q, for_by (n := xs.length) Pv h0 ?_ ?_⟩⟩
  · intro i σ' H' lt p
    have q1 := sqT_same (old i σ' H' p) hx
    have q2 := sqL_same (old i σ' H' p) q
    refine ⟨⟨xs, ys, _, _, q1, q2, List.getElem?_eq_getElem lt, List.getElem?_eq_getElem (by omega : i < ys.length)⟩, ?_⟩
    rintro v H2 ⟨T, x, y, rfl, hT, rfl, f1, f2⟩
    exact hs i x y T σ' H' (f1 xs q1) (f2 ys q2) p hT
  · exact fun σ' H' p => ⟨⟨xs, sqT_same (old _ σ' H' p) hx, Nat.le_refl _⟩, hd σ' H' p⟩
  · intro i σ' H' lt p
    have q1 := sqT_same (old i σ' H' p) hx
    have q2 := sqT_same (old i σ' H' p) q
    refine ⟨⟨xs, ys, _, _, q1, q2, List.getElem?_eq_getElem lt, List.getElem?_eq_getElem (by omega : i < ys.length)⟩, ?_⟩
    rintro v H2 ⟨T, x, y, rfl, hT, rfl, f1, f2⟩
    exact hs i x y T σ' H' (f1 xs q1) (f2 ys q2) p hT
  · exact fun σ' H' p => ⟨⟨xs, ys, sqT_same (old _ σ' H' p) hx, sqT_same (old _ σ' H' p) q, .inl (Nat.le_refl _)⟩, hd σ' H' p⟩
end Kx
/-! a, b = a list or a tuple; a loop over a list or a tuple that is older than what the loop changes -/
namespace Kx
open L2 PySem PySem.Spec PyProof.Rows
def gSq (K : PySem.W.Frag) (n : Nat) (t : TGs) : TG := fun v σ H Q => ∃ a xs, v = .ref a ∧ Sq K H a xs ∧ xs.length = n ∧ t xs σ H Q
theorem pg_sq {X : Cx} {pos : Pos} {es : List Expr} {k : Nat} {t : TGs} {n : Nat} (hc : X.calm = true) (h : PGs X es t)
    (hn : (assignEach es X.env).length = n := by rfl) (hst : (assignEach es X.env).findIdx? (·.1) = none := by rfl) : PG X (.Tuple es k pos) (gSq X.K n t) := by
  refine ⟨fun pins s σ H v u Q I r hw => ?_⟩
  obtain ⟨a, xs, e1, hq, hl, hw⟩ := hw
  rcases hq with hq | hq
  · exact (pg_lst hc h hn hst).run pins s σ H v u Q I r ⟨a, xs, e1, hq, hl, hw⟩
  · exact (pg_tup hc h hn hst).run pins s σ H v u Q I r ⟨a, xs, e1, hq, hl, hw⟩
theorem for_old {K : PySem.W.Frag} {a : Addr} {xs : List V} {g : TG} {tb : TS} {D : Ends} {σ : L2.St} {H0 H : Hp} (hx : Sq K H0 a xs) (Pv : Nat → L2.St → Hp → Prop) (h0 : Pv 0 σ H) (old : ∀ i σ' H', Pv i σ' H' → Same H0 H')
    (turn : ∀ (i : Nat) (x : V) σ' H', xs[i]? = some x → Pv i σ' H' → g x σ' H' fun σ2 H2 => tb { D with nx := Pv (i + 1), ct := Pv (i + 1), bk := D.nx } σ2 H2)
    (hd : ∀ σ' H', Pv xs.length σ' H' → D.nx σ' H') : (SqL K H a xs ∧ forR g tb D σ (Itl K a) H) ∨ (SqT K H a xs ∧ forR g tb D σ (Itt K a) H) := by
  refine hx.imp (fun q => ⟨sqL_same (old 0 σ H h0) q, for_by (n := xs.length) Pv h0 ?_ ?_⟩) fun q => ⟨sqT_same (old 0 σ H h0) q, for_by (n := xs.length) Pv h0 ?_ ?_⟩
  · intro i σ' H' lt p
    have q' := sqL_same (old i σ' H' p) q
    refine ⟨⟨xs, xs[i], q', List.getElem?_eq_getElem lt⟩, ?_⟩
    rintro v H2 ⟨rfl, hv⟩
    exact turn i v σ' _ (hv xs q') p
  · exact fun σ' H' p => ⟨⟨xs, sqL_same (old _ σ' H' p) q, Nat.le_refl _⟩, hd σ' H' p⟩
  · intro i σ' H' lt p
    have q' := sqT_same (old i σ' H' p) q
    refine ⟨⟨xs, xs[i], q', List.getElem?_eq_getElem lt⟩, ?_⟩
    rintro v H2 ⟨rfl, hv⟩
    exact turn i v σ' _ (hv xs q') p
  · exact fun σ' H' p => ⟨⟨xs, sqT_same (old _ σ' H' p) q, Nat.le_refl _⟩, hd σ' H' p⟩
end Kx
/-! x = {k: v for ..}, x a local -/
namespace Kx
open L2 PySem PySem.Spec PyProof.Rows
section
variable {X : Cx}
theorem ps_setDc {i : Nat} {y : Str} {py : Pos} {kx vx tg iter : Expr} {ifs : List Expr} {scope : Scope} {own : List (Str × Nat)} {pos spos : Pos} {wi : TI} {g : TG} {tt : TT} {tk tv : TE} (hc : X.calm = true) (hN : X.N.Nodup) (hy : X.N[i]? = some y) (hyl : X.env.scope.names.lookup y = some .local)
    (hsw : swapsWith (.DictComp kx vx [⟨tg, iter, ifs, 0⟩] scope pos) (some (.Name y py)) spos.line X.env = pure true) (hi : PI X tg iter wi) (ok : BlkOk X.N X.env.scope scope own)
    (hg : ∀ (s : Shared) (H : Hp) (C : Addr) (cl : List (Str × Addr)) (fp : List Addr), PG (X.blk s H scope (compEnvC scope cl C X.env) fp) tg g) (ht : ∀ (s : Shared) (H : Hp) (C : Addr) (cl : List (Str × Addr)) (fp : List Addr), PTs (X.blk s H scope (compEnvC scope cl C X.env) fp) ifs tt)
    (hk : ∀ (s : Shared) (H : Hp) (C : Addr) (cl : List (Str × Addr)) (fp : List Addr), PE (X.blk s H scope (compEnvC scope cl C X.env) fp) kx tk)
    (he : ∀ (s : Shared) (H : Hp) (C : Addr) (cl : List (Str × Addr)) (fp : List Addr), PE (X.blk s H scope (compEnvC scope cl C X.env) fp) vx tv) (hs : ∀ x, foldedSetIterable iter X.env x = pure x := by intro _; rfl) :
    PS X (.Assign [.Name y py] (.DictComp kx vx [⟨tg, iter, ifs, 0⟩] scope pos) spos) (tAsg (tDc wi g tt tk tv (own.map (·.2))) (gName i)) := by
  refine ⟨fun pins s σ H D I h => ?_⟩
  rw [exec_Assign_Name_used _ _ _ _ hsw]
  refine wpAny_bind (wpAny_standAt (wpAny_bind ?_))
  show wpAny _ X.A (do let _ ← comprehension (.DictComp kx vx [⟨tg, iter, ifs, 0⟩] scope pos) scope X.env (firstIterPos [⟨tg, iter, ifs, 0⟩] pos) newDict false (eval iter X.env) (some (assign (.Name y py) X.env))) _ _ s
  have h : tDc wi g tt tk tv (own.map (·.2)) σ H (fun x H1 => gName i x σ H1 D.nx) := h
  refine wpAny_bind (thn (dc_core (Qf := fun _ s' => SP X pins D .next s') hc hN I hi ok hg ht hk he hs h fun L C s' m H' I' q hn f => ?_) fun _ s' hq => wpAny_pure (wpAny_pure hq))
  show wpAny _ _ (assign (.Name y py) X.env (.ref L)) _ _ _
  refine wpAny_assign_Name (store_ok2 (v := V.ref L) I' hN hy (.inl hyl) rfl (fun s2 I2 ⟨a, sb, ha⟩ => ?_) (.inr hyl))
  obtain ⟨f0, f1, f2, f3, f4, f5⟩ := f
  have haC : C ≠ a := by
    rcases ha with z | z
    · rw [z]; exact f1
    · exact fun e => f4 y a z e.symm
  refine ⟨m, hn.sameBut sb haC, fun h3 sb3 => ?_⟩
  exact ⟨_, H', I2.turned (t' := s2.toks) (fun b o hb e => (sb3.2 b hb).trans e) f0 f1 f3 f4 f5, q⟩
theorem sw_dict {kx vx : Expr} {gs : List Comprehension} {scope : Scope} {pos py : Pos} {y : Str} {l : Nat} {env : Env} (hk : env.scope.kind = .function) (hy : env.scope.names.lookup y = some .local) (hl : (py.line == pos.line) = true)
    (ha : (scope.names.any fun (n, k) => n == y && (k == .local || k == .cell)) = false) : swapsWith (.DictComp kx vx gs scope pos) (some (.Name y py)) l env = pure true := by
  have ky : env.kindOf y = some .local := hy
  have hb : env.blockKind = .function := by unfold Env.blockKind; rw [hk]; rfl
  unfold swapsWith
  simp only [hb, ky, ha, Expr.pos, hl]
  rfl
end
end Kx
/-! t.index(x), of data -/
namespace Kx
open L2 PySem PySem.Spec PyProof.Rows MeetsSeq SeqAt
def rTupIx (K : PySem.W.Frag) : V → List V → Hp → VK → Prop := fun x xs H Q => ∃ p, ∃ ys : List V, ∃ z, ∃ ds : List PyData, ∃ d : PyData, ∃ j : Nat, x = .ref p ∧ xs = [z] ∧ SqT K H p ys ∧ DpAll K H ys ds ∧ Dp K H z d ∧ PyData.canLayAll0 ds = true ∧ d.canLay0 = true ∧ d.depth ≤ 60 ∧
  (∃ e, ds[j]? = some e ∧ PyData.eqv e d = true) ∧ (∀ m e, m < j → ds[m]? = some e → PyData.eqv e d = false) ∧ Q (.int (j : Nat)) H
theorem mt_tup_indexD {X : Cx} (hu : X.A.units + 64 < cLine) : MtR X "tuple.index" (rTupIx X.K) := by
  intro pins s σ H x xs v us Q I rx rs h
  obtain ⟨p, ys, z, ds, d, j, rfl, rfl, hq, hys, hz, c1, c2, dd60, ⟨e0, he0, eq0⟩, hno, q⟩ := h
  cases rx
  obtain ⟨u, rfl, ru⟩ := vals1 rs
  obtain ⟨its, r, pl, hzl⟩ := I.tuple hq
  obtain ⟨⟨cls, dd, dt, sl⟩, ho, hc, n, hd⟩ := pl
  simp only at hc hd
  subst hc
  subst hd
  obtain ⟨as1, ra⟩ := Dp.readsAll I ds ys its hys r
  obtain ⟨as2, rz⟩ := Dp.reads I d z u hz ru
  have hm := readsAll_map ds its as1 c1 ra
  have ld : ds.length = its.length := by rw [← hm, List.length_map]
  have hl : its.toArray.size = its.length := List.size_toArray
  have jl := (List.getElem?_eq_some_iff.mp he0).1
  have hj : j < its.toArray.size := by rw [hl]; omega
  have rd : ∀ (m : Nat) (h : m < its.toArray.size) (e : PyData), ds[m]? = some e → readOf s.heap its.toArray[m] = e := fun m h e he => by
    have h' : m < its.length := by rw [hl] at h; exact h
    rw [← hm, List.getElem?_map, List.getElem?_eq_getElem h'] at he
    cases he
    simp
  refine call_meets PySem.F.slot_tuple_index ⟨_, ho, rfl⟩ PySem.F.entry_tuple_index (PySem.F.args_tuple_index_2 _ _) (TI.tuple_indexAt p its.toArray n dd sl u (fun y => PyData.eqv (readOf s.heap y) d) j hj ?_ ?_)
    ⟨ho, items_eqAt (vs := its.toArray) (by simpa using ra) rz c1 c2 ?_, ⟨.int (j : Nat), H, I.tok _, ⟨_, rfl⟩, q⟩⟩
  · show PyData.eqv (readOf s.heap its.toArray[j]) d = true
    rw [rd j hj e0 he0]
    exact eq0
  · intro m hm' hmj
    have ml : m < ds.length := by omega
    show PyData.eqv (readOf s.heap its.toArray[m]) d = false
    rw [rd m hm' ds[m] (List.getElem?_eq_getElem ml)]
    exact hno m _ hmj (List.getElem?_eq_getElem ml)
  · have := Nat.min_le_right (PyData.depthAll ds) d.depth
    omega
end Kx
/-! sum(ts, ()): tuples of whole numbers -/
namespace PySem
open Sem (wp)
def accT (rows : Nat → List Value) (i : Nat) : List Value := (List.range i).flatMap rows
theorem accT_succ {rows : Nat → List Value} {i : Nat} : accT rows (i + 1) = accT rows i ++ rows i := by
  unfold accT
  rw [List.range_succ, List.flatMap_append]
  simp
theorem accT_len {rows : Nat → List Value} : ∀ {i n : Nat}, i ≤ n → (accT rows i).length ≤ (accT rows n).length
  | i, 0, h => by rw [Nat.le_zero.mp h]; exact Nat.le_refl _
  | i, n + 1, h => by
    rcases Nat.lt_or_ge i (n + 1) with lt | ge
    · rw [accT_succ, List.length_append]
      have := accT_len (rows := rows) (Nat.le_of_lt_succ lt)
      omega
    · rw [Nat.le_antisymm h ge]
      exact Nat.le_refl _
section
variable {prog : Program} {w : World} {A : Around} {R : Result → Shared → Prop}
theorem isTup_kept {h h' : Heap} {a : Addr} {its : Array Value} (k : ∀ o, h.get? a = some o → h'.get? a = some o) (x : h.IsTuple a its) : h'.IsTuple a its := by
  obtain ⟨o, ho, r⟩ := x
  exact ⟨o, k o ho, r⟩
/-- t + u of any two -/
theorem add_tups {E : Value → Shared → Prop} {s : Shared} {t b : Addr} {vs ws : List Value} {Q : Value → Shared → Prop} (ht : s.heap.IsTuple t vs.toArray) (hb : s.heap.IsTuple b ws.toArray) (hsz : vs.length + ws.length ≤ sizeLine)
    (h : ∀ r h', (∀ c o, s.heap.get? c = some o → h'.get? c = some o) → h'.IsTuple r (vs ++ ws).toArray → ((r = t ∧ ws = []) ∨ (r = b ∧ vs = []) ∨ s.heap.objs.size ≤ r) → Q (.ref r) { s with heap := h' }) : wpAny (model prog w) A (binaryOp .Add (.ref t) (.ref b)) Q E s := by
  by_cases e : vs = []
  · subst e
    exact L2.cat_tup0 ht hb (h b s.heap (fun _ _ q => q) (by simpa using hb) (.inr (.inl ⟨rfl, rfl⟩)))
  · refine HT.cat_tup ht hb e (fun z => ?_) (fun z => ?_) hsz
    · subst z
      exact h t s.heap (fun _ _ q => q) (by simpa using ht) (.inl ⟨rfl, rfl⟩)
    · exact h _ _ (fun _ _ q => Heap.get?_push_of_some _ q) ⟨_, Heap.get?_push_size _ rfl, rfl, 0, rfl⟩ (.inr (.inr (Nat.le_refl _)))
theorem sum_loop_tups {I ax S : Addr} {items : Array Value} {h0 : Heap} (hh : A.in1.handled = none) (hne : ax ≠ I) (rows : Nat → List Value) (Good : Addr → List Value → Prop)
    (hrow : ∀ i v, items[i]? = some v → ∃ b, v = .ref b ∧ h0.IsTuple b (rows i).toArray ∧ Good b (rows i)) (bigI : h0.objs.size ≤ I) (bigS : h0.objs.size ≤ S) (SI : S ≠ I) (Sax : S ≠ ax) (len : (accT rows items.size).length ≤ sizeLine) :
    ∀ (k i : Nat) (s : Shared) (t : Addr) (c : Nat), items.size - i = k → i ≤ items.size → (s.heap.IsTupleIter I ax i ∧ s.heap.IsTuple ax items) → s.heap.get? S = some { cls := .type "list", dict := none, data := .seq #[.ref t] c, slots := #[] } →
      s.heap.IsTuple t (accT rows i).toArray → (Good t (accT rows i) ∨ h0.objs.size ≤ t) → (∀ b o, h0.get? b = some o → s.heap.get? b = some o) →
      (∀ h' tk t', (∀ b o, h0.get? b = some o → h'.get? b = some o) → h'.IsTuple t' (accT rows items.size).toArray → (Good t' (accT rows items.size) ∨ h0.objs.size ≤ t') → R (.ok (.ret (.ref t'))) { s with heap := h', toks := tk }) →
      codeAny (model prog w) A (.builtin "sum.loop" ⟨[.ref I, .ref S, rawInt 2, rawInt 0], []⟩) R s := by
  have W := Walks.tuple (prog := prog) (w := w) hh I ax hne items
  intro k
  induction k with
  | zero =>
    intro i s t c hk hi hst hS ht good keep hR
    have hin : i = items.size := by omega
    subst hin
    refine codeAny_builtin F.entry_sum_loop ?_
    rw [Around.under_plainId F.plain_sum_loop _]
    show wpAny _ A.in1 (seqItems? (.ref S) >>= _) _ _ s
    refine wpAny_bind (wpAny_seqItems hS rfl ?_)
    show wpAny _ A.in1 (tryCatch (pyNext (.ref I)) _ >>= _) _ _ s
    refine wpAny_bind (wpAny_tryCatch (W.done s _ _ hst fun h' tk hm => ?_))
    refine wpAny_pure (hR h' tk t (fun b o e => hm b o (fun hb => ?_) (keep b o e)) (isTup_kept (fun o e => hm t o (fun hb => ?_) e) ht) good)
    · have hb := List.mem_singleton.mp hb
      have := Heap.lt_size e
      rw [hb] at this
      exact absurd (Nat.lt_of_lt_of_le this bigI) (Nat.lt_irrefl _)
    · have hb := List.mem_singleton.mp hb
      subst hb
      obtain ⟨o1, h1, c1, _⟩ := hst.1
      obtain ⟨o2, h2, c2, _⟩ := ht
      rw [h1] at h2
      cases h2
      rw [c1] at c2
      exact absurd c2 (by decide)
  | succ k ih =>
    intro i s t c hk hi hst hS ht good keep hR
    have hlt : i < items.size := by omega
    refine codeAny_builtin F.entry_sum_loop ?_
    rw [Around.under_plainId F.plain_sum_loop _]
    show wpAny _ A.in1 (seqItems? (.ref S) >>= _) _ _ s
    refine wpAny_bind (wpAny_seqItems hS rfl ?_)
    show wpAny _ A.in1 (tryCatch (pyNext (.ref I)) _ >>= _) _ _ s
    refine wpAny_bind (wpAny_tryCatch (W.item i s _ _ hlt hst fun v h1 tk1 hP hst1 hm => ?_))
    obtain ⟨b, rfl, hb0, gb⟩ := hrow i v hP
    have tI : t ∉ [I] := fun hb => by
      have hb := List.mem_singleton.mp hb
      subst hb
      obtain ⟨o1, h1, c1, _⟩ := hst.1
      obtain ⟨o2, h2, c2, _⟩ := ht
      rw [h1] at h2
      cases h2
      rw [c1] at c2
      exact absurd c2 (by decide)
    have keep1 : ∀ b o, h0.get? b = some o → h1.get? b = some o := fun b o e => hm b o (fun hb => by
      have hb := List.mem_singleton.mp hb
      have := Heap.lt_size e
      rw [hb] at this
      exact absurd (Nat.lt_of_lt_of_le this bigI) (Nat.lt_irrefl _)) (keep b o e)
    have ht1 := isTup_kept (fun o e => hm t o tI e) ht
    have hb1 := isTup_kept (fun o e => keep1 b o e) hb0
    have hS1 := hm S _ (fun hb => SI (List.mem_singleton.mp hb)) hS
    have la := accT_len (rows := rows) (show i + 1 ≤ items.size from hlt)
    rw [accT_succ, List.length_append] at la
    show wpAny _ A.in1 ((holding [Value.ref b] (binaryOp .Add (.ref t) (.ref b))).attempt >>= _) _ _ _
    refine wpAny_bind (wpAny_attempt (wpAny_holding (add_tups ht1 hb1 (by omega) fun r h2 k2 hr cas => ?_)))
    have hS2 := k2 _ _ hS1
    show wpAny _ A.in1 (updateSeq S (fun _ => #[.ref r]) >>= _) _ _ _
    refine wpAny_bind (wpAny_updateSeq hS2 rfl ?_)
    have hS3 := Heap.get?_update_self (Obj.mapSeq fun _ => #[Value.ref r]) hS2 rfl
    refine wpAny_bind (wpAny_letGo ?_)
    have up : ∀ {a : Addr} {o : Obj}, a ≠ S → h2.get? a = some o → ((h2.update S (Obj.mapSeq fun _ => #[Value.ref r])).update S (Obj.mapSeq fun _ => #[Value.ref r])).get? a = some o := fun ne e => (Heap.get?_update_other _ _ (Ne.symm ne)).trans ((Heap.get?_update_other _ _ (Ne.symm ne)).trans e)
    have rS : r ≠ S := fun z => by
      subst z
      obtain ⟨o2, h2', c2, _⟩ := hr
      rw [hS2] at h2'
      cases h2'
      have c3 : Value.type "list" = Value.type "tuple" := c2
      exact absurd c3 (by decide)
    have IS : I ≠ S := Ne.symm SI
    refine wpAny_bind (wpAny_updateSeq hS3 rfl (wpAny_pure ⟨plainId_quiet F.plain_sum_loop _, ih (i + 1) _ r _ (by omega) hlt ⟨?_, ?_⟩ (Heap.get?_update_self _ hS3 rfl) ?_ ?_ (fun b o e => up (fun z => ?_) (k2 _ _ (keep1 b o e))) fun h' tk t' e1 e2 e3 => hR h' tk t' e1 e2 e3⟩))
    · obtain ⟨o, ho, q⟩ := hst1.1
      exact ⟨o, up IS (k2 _ _ ho), q⟩
    · exact isTup_kept (fun o e => up (Ne.symm Sax) (k2 _ _ e)) hst1.2
    · rw [accT_succ]
      exact isTup_kept (fun o e => up rS e) hr
    · rcases cas with ⟨rfl, e⟩ | ⟨rfl, e⟩ | ge
      · rw [accT_succ, e, List.append_nil]
        exact good
      · rw [accT_succ, e, List.nil_append]
        exact .inl gb
      · refine .inr (Nat.le_trans ?_ ge)
        exact Nat.le_of_lt (Nat.lt_of_le_of_lt bigS (Heap.lt_size hS1))
    · have := Heap.lt_size e
      rw [z] at this
      exact absurd (Nat.lt_of_lt_of_le this bigS) (Nat.lt_irrefl _)
end

section
variable {prog : Program} {w : World} {A : Around} {E : Value → Shared → Prop} {s : Shared}
theorem args_sum2 (a b : Value) : argsOk "sum" ⟨[a, b], []⟩ := by unfold argsOk; kernel_rfl
theorem sum_tups {a t0 : Addr} {items : Array Value} {Q : Value → Shared → Prop} (hh : A.handled = none) (ha : s.heap.IsTuple a items) (ht : s.heap.IsTuple t0 ([] : List Value).toArray) (rows : Nat → List Value) (Good : Addr → List Value → Prop)
    (hrow : ∀ i v, items[i]? = some v → ∃ b, v = .ref b ∧ s.heap.IsTuple b (rows i).toArray ∧ Good b (rows i)) (g0 : Good t0 []) (len : (accT rows items.size).length ≤ sizeLine)
    (h : ∀ h' tk t', (∀ b o, s.heap.get? b = some o → h'.get? b = some o) → h'.IsTuple t' (accT rows items.size).toArray → (Good t' (accT rows items.size) ∨ s.heap.objs.size ≤ t') → Q (.ref t') { s with heap := h', toks := tk }) :
    wpAny (model prog w) A (call (.builtin "sum") [.ref a, .ref t0]) Q E s := by
  refine call_function_tree F.kind_sum F.plain_sum F.entry_sum (args_sum2 _ _) ?_
  unfold Builtin.«sum»
  simp only [List.length_cons, List.length_nil]
  rw [if_neg (by decide)]
  refine wpAny_bind (wpAny_of_eq (show Builtin.Builtins.bindParams "sum" ["start"] 0 ⟨[.ref t0], []⟩ = pure [some (.ref t0)] from rfl) ?_)
  refine wpAny_bind (wpAny_pyIter_tuple ha ?_)
  refine wpAny_bind (wpAny_pure ?_)
  simp only [List.forIn_cons, List.forIn_nil]
  have hT : Shared.TypeIs { s with heap := s.heap.push { cls := .type "tuple_iterator", data := .fields #[.ref a, .int 0 0] } } (.ref t0) "tuple" := by
    obtain ⟨o, ho, hc, _⟩ := ht
    exact ⟨o, Heap.get?_push_of_some _ ho, hc⟩
  refine wpAny_bind (wpAny_bind (wpAny_bind (wpAny_isInstance (T := "tuple") (b := false) hT F.sub_tuple_str ?_)))
  simp only [Bool.false_eq_true, if_false]
  refine wpAny_pure (wpAny_bind (wpAny_bind (wpAny_isInstance (T := "tuple") (b := false) hT F.sub_tuple_bytes ?_)))
  simp only [Bool.false_eq_true, if_false]
  refine wpAny_pure (wpAny_bind (wpAny_bind (wpAny_isInstance (T := "tuple") (b := false) hT F.sub_tuple_bytearray ?_)))
  simp only [Bool.false_eq_true, if_false]
  refine wpAny_pure (wpAny_pure ?_)
  refine wpAny_bind (wpAny_newObj_type ?_)
  have lta : a < s.heap.objs.size := by
    obtain ⟨o, ho, _⟩ := ha
    exact Heap.lt_size ho
  have z1 : (s.heap.push { cls := .type "tuple_iterator", data := .fields #[.ref a, .int 0 0] }).objs.size = s.heap.objs.size + 1 := Heap.size_push ..
  have kp : ∀ {o1 o2 : Obj} b o, s.heap.get? b = some o → ((s.heap.push o1).push o2).get? b = some o := fun b o e => Heap.get?_push_of_some _ (Heap.get?_push_of_some _ e)
  refine wpAny_pure ⟨plainId_quiet F.plain_sum_loop _, sum_loop_tups (by simp [hh]) (Nat.ne_of_lt lta) rows Good hrow (Nat.le_refl _) (by rw [z1]; exact Nat.le_succ _) (by rw [z1]; exact Nat.ne_of_gt (Nat.lt_succ_self _)) (by rw [z1]; exact Nat.ne_of_gt (Nat.lt_succ_of_lt lta)) len items.size 0 _ t0 0 rfl (Nat.zero_le _) ⟨⟨_, Heap.get?_push_of_some _ (Heap.get?_push_size _ rfl), rfl, rfl⟩, isTup_kept (fun o e => kp _ o e) ha⟩ (Heap.get?_push_size _ rfl) (isTup_kept (fun o e => kp _ o e) ht) (.inl g0) (fun b o e => kp b o e) fun h' tk t' e1 e2 e3 => ?_⟩
  exact h h' tk t' e1 e2 e3
end
end PySem
/-! sum(ts, ()): the rule -/
namespace Kx
open L2 PySem PySem.Spec PyProof.Rows
theorem vals_ints_inj : ∀ {xs ys : List Int} {us : List Value}, Vals (xs.map V.int) us → Vals (ys.map V.int) us → xs = ys
  | [], [], _, _, _ => rfl
  | x :: xs, y :: ys, _, .cons r1 t1, .cons r2 t2 => by
    obtain ⟨k1, rfl⟩ := r1
    obtain ⟨k2, e⟩ := r2
    cases e
    rw [vals_ints_inj t1 t2]
  | [], _ :: _, _, h1, h2 => by cases h1; cases h2
  | _ :: _, [], _, h1, h2 => by cases h2; cases h1
def rSumT (K : PySem.W.Frag) : List V → Hp → VK → Prop := fun vs H Q => ∃ (a t0 : Addr) (ps : List V) (rs : List (List Int)), vs = [V.ref a, V.ref t0] ∧ SqT K H a ps ∧ SqT K H t0 [] ∧ ps.length = rs.length ∧
  (∀ (i : Nat) (row : List Int), rs[i]? = some row → ∃ q, ps[i]? = some (V.ref q) ∧ SqT K H q (row.map V.int)) ∧ rs.flatten.length ≤ sizeLine ∧ ∀ r H', Same H H' → SqT K H' r (rs.flatten.map V.int) → Q (.ref r) H'
theorem cr_sumT {X : Cx} {K : PySem.W.Frag} (hc : X.calm = true) (hK : X.K = K := by rfl) : CallR X (.builtin "sum") (rSumT K) := by
  subst hK
  intro pins s σ H vs us Q I r h
  obtain ⟨a, t0, ps, rs, rfl, ha, h0, lp, row, ll, q⟩ := h
  cases r with
  | cons r1 rt =>
    cases rt with
    | cons r2 rt =>
      cases rt
      cases r1
      cases r2
      obtain ⟨its, rv, pa, _⟩ := I.tuple ha
      obtain ⟨e0, re0, p0, _⟩ := I.tuple h0
      cases re0
      have ex : ∀ i : Nat, ∃ us : List Value, ∀ row : List Int, rs[i]? = some row → ∃ q, ps[i]? = some (V.ref q) ∧ SqT X.K H q (row.map V.int) ∧ Vals (row.map V.int) us ∧ s.heap.IsTuple q us.toArray := fun i => by
        cases z : rs[i]? with
        | none => exact ⟨[], fun row e => by cases e⟩
        | some rw_ =>
          obtain ⟨q, hq, hs⟩ := row i rw_ z
          obtain ⟨us, ru, pu, _⟩ := I.tuple hs
          exact ⟨us, fun row e => by cases e; exact ⟨q, hq, hs, ru, pu⟩⟩
      let rowsV : Nat → List Value := fun i => (ex i).choose
      have hv : ∀ (i : Nat) (row : List Int), rs[i]? = some row → ∃ q, ps[i]? = some (V.ref q) ∧ SqT X.K H q (row.map V.int) ∧ Vals (row.map V.int) (rowsV i) ∧ s.heap.IsTuple q (rowsV i).toArray := fun i => (ex i).choose_spec
      have li : its.length = rs.length := by rw [← lp, rv.length]
      have acc : ∀ n, n ≤ rs.length → Vals (((rs.take n).flatten).map V.int) (accT rowsV n) := fun n => by
        induction n with
        | zero =>
          intro _
          rw [List.take_zero]
          exact .nil
        | succ n ih =>
          intro hn
          have hlt : n < rs.length := hn
          obtain ⟨_, _, _, v, _⟩ := hv n _ (List.getElem?_eq_getElem hlt)
          rw [accT_succ, List.take_add_one, List.getElem?_eq_getElem hlt, List.flatten_append, List.map_append]
          refine (ih (Nat.le_of_lt hlt)).append ?_
          simpa using v
      have accE := acc rs.length (Nat.le_refl _)
      rw [List.take_length] at accE
      have sz : its.toArray.size = rs.length := by rw [List.size_toArray]; exact li
      refine sum_tups (items := its.toArray) (I.ok.hd hc) pa p0 rowsV (fun t vs => ∃ xs : List Int, SqT X.K H t (xs.map V.int) ∧ Vals (xs.map V.int) vs) (fun i v hi => ?_) ⟨[], h0, .nil⟩ ?_ fun h' tk t' k1 k2 k3 => ?_
      · have hi' : its[i]? = some v := by simpa using hi
        have lt : i < rs.length := by rw [← li]; exact (List.getElem?_eq_some_iff.mp hi').1
        obtain ⟨q, h1, h2, h3, h4⟩ := hv i _ (List.getElem?_eq_getElem lt)
        obtain ⟨u, hu, ru⟩ := rv.get h1
        rw [hu] at hi'
        cases hi'
        cases ru
        exact ⟨q, rfl, h4, _, h2, h3⟩
      · rw [sz, ← accE.length, List.length_map]
        exact ll
      · rw [sz] at k2 k3
        rcases k3 with ⟨xs, g1, g2⟩ | ge
        · have e := vals_ints_inj g2 accE
          rw [e] at g1
          exact ⟨.ref t', H, I.kept k1, rfl, q t' H (fun _ _ z => z) g1⟩
        · exact ⟨.ref t', _, I.laid (o := .tup (rs.flatten.map V.int)) k1 ge ⟨by rw [List.length_map]; exact ll, _, accE, k2⟩, rfl, q t' _ (same_new (I.hok.fresh ge)) (SqT.of upd_same)⟩
end Kx
/-! keys of a dict: tuples of m whole numbers and a tuple of such behind them -/
namespace PySem
open Sem (wp)
abbrev NK : Type := List Int × List Int
section
variable {prog : Program} {w : World}
structure NestAt (prog : Program) (w : World) (m : Nat) (h : Heap) (k : NK) (a : Addr) : Prop where
  len : k.1.length = m
  ex : ∃ (o : Obj) (items : Array Value) (n : Nat) (b : Addr) (vs : List Value), h.get? a = some o ∧ o.cls = .type "tuple" ∧ o.data = .seq items n ∧ items.toList = vs ++ [.ref b] ∧ ItemsAre (intKind prog w) k.1 vs ∧ IsTupleKey (intKind prog w) h k.2 b
def nestHash (prog : Program) (w : World) (k : NK) : Int := reduceHash (Builtin.Tuple.tupleHashOf (k.1.map (intKind prog w).hash ++ [tupleKeyHash (intKind prog w) k.2]))
variable {m : Nat} {h h' : Heap} {k k' : NK} {a b : Addr} {A : Around} {E : Value → Shared → Prop} {s : Shared}
theorem NestAt.ty (x : NestAt prog w m s.heap k a) : s.TypeIs (.ref a) "tuple" := by
  obtain ⟨_, o, _, _, _, _, ho, hc, _⟩ := x
  exact ⟨o, ho, hc⟩
theorem NestAt.inj (x : NestAt prog w m h k a) (y : NestAt prog w m h k' a) : k = k' := by
  obtain ⟨l1, o, i1, n1, b1, v1, h1, _, d1, e1, r1, t1⟩ := x
  obtain ⟨l2, o2, i2, n2, b2, v2, h2, _, d2, e2, r2, t2⟩ := y
  rw [h1] at h2
  cases h2
  rw [d1] at d2
  cases d2
  rw [e1] at e2
  obtain ⟨e3, e4⟩ := List.append_inj' e2 rfl
  subst e3
  cases e4
  exact Prod.ext (r1.inj r2) (t1.inj t2)
theorem NestAt.stays {d : Addr} {o : Obj} {es : Array DictEntry} {ep : Nat} (x : NestAt prog w m h k a) (ho : h.get? d = some o) (hd : o.data = .dict es ep) (sb : Heap.SameBut d h h') : NestAt prog w m h' k a := by
  obtain ⟨l1, o1, i1, n1, b1, v1, h1, c1, d1, e1, r1, t1⟩ := x
  have ne : a ≠ d := fun z => by
    subst z
    rw [ho] at h1
    cases h1
    rw [hd] at d1
    cases d1
  exact ⟨l1, o1, i1, n1, b1, v1, (sb.2 a ne).trans h1, c1, d1, e1, r1, t1.keeps ho hd sb⟩
theorem nest_hash {Q : Int → Shared → Prop} (hu : A.units + 1 < cLine) (x : NestAt prog w m s.heap k a) (q : Q (nestHash prog w k) { s with toks := s.toks + (k.1.length + k.2.length + 2) }) : wpAny (model prog w) A (pyHash (.ref a)) Q E s := by
  have T := x.ty
  obtain ⟨l1, o, items, n, b, vs, ho, -, hd, ev, rv, tb⟩ := x
  unfold pyHash
  first | unfold pyHashByItsType | skip
  first | refine wpAny_bind (wpAny_cRoomFor_or (.inr (Nat.lt_of_succ_lt hu)) ?_) | skip
  refine wpAny_bind (wpAny_specialOf T F.slot_tuple_hash.lookup ?_)
  show wpAny _ _ (if (some (Value.builtin "tuple.__hash__") == some Value.none) = true then _ else _) Q E s
  rw [if_neg (by rw [beq_builtin_none]; exact Bool.false_ne_true)]
  refine wpAny_bind (wpAny_specialOf T F.slot_tuple_hash.lookup ?_)
  show wpAny _ _ (callSpecialIfBoundUnlessNone? (.ref a) "__hash__" _ >>= _) Q E s
  refine wpAny_bind (wpAny_callSpecialIfBoundUnlessNone?_slot T F.slot_tuple_hash (wpAny_call_entry F.slot_tuple_hash T F.entry_tuple_hash ?_ (F.args_tuple_hash_1 _)))
  show wpAny _ _ (Builtin.Tuple.tupleItemsOf (.ref a) >>= _) _ _ s
  refine wpAny_bind (wpAny_tupleItemsOf ho hd ?_)
  refine wpAny_bind ?_
  rw [← Array.forIn_toList, ev]
  refine wpAny_forIn_list _ (fun rest (c : Array Int) s' => (∃ done left us, k.1 = done ++ left ∧ rest = us ++ [.ref b] ∧ ItemsAre (intKind prog w) left us ∧ c.toList = done.map (intKind prog w).hash ∧ s' = { s with toks := s.toks + done.length }) ∨
    (rest = [] ∧ c.toList = k.1.map (intKind prog w).hash ++ [tupleKeyHash (intKind prog w) k.2] ∧ s' = { s with toks := s.toks + (k.1.length + k.2.length + 1) })) _ ?_ ?_ _ _ (.inl ⟨[], k.1, vs, rfl, rfl, rv, rfl, rfl⟩)
  · rintro x rest c s' (⟨done, left, us, e1, e2, r1, e3, rfl⟩ | ⟨e1, _⟩)
    · cases r1 with
      | nil =>
        rw [List.nil_append] at e2
        obtain ⟨rfl, rfl⟩ : x = .ref b ∧ rest = [] := by simpa using e2
        rw [List.append_nil] at e1
        subst e1
        refine wpAny_bind (wpAny_pyHash_tuple hu tb ?_)
        have fin : (c.push (tupleKeyHash (intKind prog w) k.2)).toList = k.1.map (intKind prog w).hash ++ [tupleKeyHash (intKind prog w) k.2] := by simp [e3]
        first
          | exact wpAny_pure (.inr ⟨rfl, fin, by simp [Nat.add_assoc]⟩)
          | exact wpAny_bind (wpAny_pure (wpAny_pure (.inr ⟨rfl, fin, by simp [Nat.add_assoc]⟩)))
      | @cons y u left' us' h1 r2 =>
        rw [List.cons_append] at e2
        obtain ⟨rfl, rfl⟩ : x = u ∧ rest = us' ++ [.ref b] := by simpa using e2
        refine wpAny_bind ((intKind prog w).pyHash h1 ?_)
        first
          | exact wpAny_pure (.inl ⟨done ++ [y], left', us', by simp [e1], rfl, r2, by simp [e3], by simp [Nat.add_assoc]⟩)
          | exact wpAny_bind (wpAny_pure (wpAny_pure (.inl ⟨done ++ [y], left', us', by simp [e1], rfl, r2, by simp [e3], by simp [Nat.add_assoc]⟩)))
    · cases e1
  · rintro c s' (⟨done, left, us, e1, e2, _⟩ | ⟨_, e2, rfl⟩)
    · simp at e2
    · show wpAny _ _ (retInt (Builtin.Tuple.tupleHashOf c.toList)) _ _ _
      rw [e2]
      refine wpAny_ret_mkInt ?_
      generalize eh : Builtin.Tuple.tupleHashOf (k.1.map (intKind prog w).hash ++ [tupleKeyHash (intKind prog w) k.2]) = hh
      show wpAny _ _ (if (decide (-(2 : Int) ^ 63 ≤ hh) && decide (hh < 2 ^ 63)) = true then _ else _) Q E _
      unfold nestHash reduceHash at q
      rw [eh] at q
      by_cases z : (decide (-(2 : Int) ^ 63 ≤ hh) && decide (hh < 2 ^ 63)) = true
      · rw [if_pos z]
        rw [if_pos z] at q
        exact wpAny_pure (by simpa [Nat.add_assoc] using q)
      · rw [if_neg z]
        rw [if_neg z] at q
        exact wpAny_bind (wpAny_rule (wpAny_pure (by simpa [Nat.add_assoc] using q)))
theorem zip_snoc {α β : Type} : ∀ {xs : List α} {ys : List β} {x : α} {y : β}, xs.length = ys.length → List.zip (xs ++ [x]) (ys ++ [y]) = List.zip xs ys ++ [(x, y)]
  | [], [], _, _, _ => rfl
  | _ :: xs, _ :: ys, _, _, e => congrArg _ (zip_snoc (xs := xs) (ys := ys) (by simpa using e))
  | [], _ :: _, _, _, e => by simp at e
  | _ :: _, [], _, _, e => by simp at e
theorem nest_eq_tree {P : Fin → Shared → Prop} (hu : A.units < cLine) (x : NestAt prog w m s.heap k a) (y : NestAt prog w m s.heap k' b) (q : P (.done (.ret (.bool (decide (k = k'))))) s) : wpAny (model prog w) A (Builtin.«tuple.__eq__» ⟨[.ref a, .ref b], []⟩) P E s := by
  have T := y.ty
  obtain ⟨l1, o1, i1, n1, b1, v1, h1, -, d1, e1, r1, t1⟩ := x
  obtain ⟨l2, o2, i2, n2, b2, v2, h2, -, d2, e2, r2, t2⟩ := y
  have ll : v1.length = v2.length := by rw [← r1.length, ← r2.length, l1, l2]
  show wpAny _ _ (isInstance (.ref b) (.type "tuple") >>= _) _ _ s
  refine wpAny_bind (wpAny_isInstance T isSubtype_tuple_tuple ?_)
  simp only [Bool.not_true, Bool.false_eq_true, if_false]
  refine wpAny_bind (wpAny_tupleItemsOf h1 d1 ?_)
  refine wpAny_bind (wpAny_tupleItemsOf h2 d2 ?_)
  refine wpAny_bind ?_
  refine wpAny_forIn_list _ (fun rest r s' => r.1 = none ∧ s' = s ∧ ((∃ x' y' xs' ys', rest = List.zip xs' ys' ++ [(.ref b1, .ref b2)] ∧ xs'.length = ys'.length ∧ ItemsAre (intKind prog w) x' xs' ∧ ItemsAre (intKind prog w) y' ys' ∧ (decide (k = k') = decide (x' = y' ∧ k.2 = k'.2))) ∨ (rest = [] ∧ k = k'))) _ ?_ ?_ _ _
    ⟨rfl, rfl, .inl ⟨k.1, k'.1, v1, v2, by rw [e1, e2, zip_snoc ll], ll, r1, r2, by rw [Bool.eq_iff_iff]; simp [Prod.ext_iff]⟩⟩
  · rintro ⟨u, v⟩ rest r s' ⟨hr, rfl, ⟨x', y', xs', ys', hz, lx, hx', hy', hd⟩ | ⟨e, _⟩⟩
    · cases hx' with
      | nil =>
        cases hy' with
        | cons _ _ => simp at lx
        | nil =>
          obtain ⟨⟨rfl, rfl⟩, rfl⟩ : (u = .ref b1 ∧ v = .ref b2) ∧ rest = [] := by simpa using hz
          refine wpAny_bind (wpAny_eqBool_tuple hu t1 t2 ?_)
          have e : decide (k.2 = k'.2) = decide (k = k') := by rw [hd]; simp
          rw [e]
          by_cases z : k = k'
          · rw [decide_eq_true z]
            simp only [Bool.not_true, Bool.false_eq_true, if_false]
            exact wpAny_pure ⟨rfl, rfl, .inr ⟨trivial, z⟩⟩
          · rw [decide_eq_false z] at q ⊢
            simp only [Bool.not_false, if_true]
            exact wpAny_bind (wpAny_pure (wpAny_pure (wpAny_pure q)))
      | @cons c1 u' x'' xs'' g1 hx'' =>
        cases hy' with
        | nil => simp at lx
        | @cons c2 v' y'' ys'' g2 hy'' =>
          obtain ⟨⟨rfl, rfl⟩, rfl⟩ : (u = u' ∧ v = v') ∧ rest = List.zip xs'' ys'' ++ [(.ref b1, .ref b2)] := by simpa using hz
          refine wpAny_bind ((intKind prog w).eqBool (a := c1) (b := c2) g1 g2 ?_)
          by_cases z : c1 = c2
          · subst z
            rw [decide_eq_true rfl]
            simp only [Bool.not_true, Bool.false_eq_true, if_false]
            exact wpAny_pure ⟨rfl, rfl, .inl ⟨x'', y'', xs'', ys'', rfl, by simpa using lx, hx'', hy'', by rw [hd]; simp⟩⟩
          · rw [decide_eq_false z]
            simp only [Bool.not_false, if_true]
            have f : decide (k = k') = false := by rw [hd]; simp [z]
            rw [f] at q
            exact wpAny_bind (wpAny_pure (wpAny_pure (wpAny_pure q)))
    · cases e
  · rintro ⟨r1', r2'⟩ s' ⟨hr, rfl, ⟨x', y', xs', ys', hz, _⟩ | ⟨_, e⟩⟩
    · simp at hz
    · simp only at hr
      subst hr
      refine wpAny_pure ?_
      have sz : (i1.size == i2.size) = decide (k = k') := by
        rw [decide_eq_true e]
        have s1 : i1.size = v1.length + 1 := by rw [← Array.length_toList, e1]; simp
        have s2 : i2.size = v2.length + 1 := by rw [← Array.length_toList, e2]; simp
        rw [s1, s2, ll]
        exact beq_self_eq_true _
      show P (.done (.ret (.bool (i1.size == i2.size)))) s'
      rw [sz]
      exact q
theorem nest_eq {Q : Bool → Shared → Prop} (hu : A.units + 4 < cLine) (x : NestAt prog w m s.heap k a) (y : NestAt prog w m s.heap k' b) (q : Q (decide (k = k')) s) : wpAny (model prog w) A (eqBool (.ref a) (.ref b)) Q E s := by
  unfold eqBool
  try with_reducible refine wpAny_holding ?_
  show wpAny _ _ (if (Value.ref a == Value.ref b) = true then _ else _) Q E s
  by_cases ab : (Value.ref a == Value.ref b) = true
  · rw [if_pos ab]
    have e : a = b := by have := eq_of_beq ab; injection this
    subst e
    have := x.inj y
    subst this
    exact wpAny_bind (wpAny_rule (wpAny_pure (by simpa using q)))
  · rw [if_neg ab]
    exact wpAny_bind (wpAny_richCompare_same_room (op := .Eq) x.ty y.ty F.slot_tuple_eq (wpAny_call_entry F.slot_tuple_eq x.ty F.entry_tuple_eq (nest_eq_tree (by show _ < cLine; simp only [PyProof.Rows.units_in1]; omega) x y ⟨_, rfl, (fun e => nomatch e), wpAny_truthy_bool q⟩) (F.args_tuple_eq_2 _ _)) (by omega))
theorem quiet_ints {ks : List Int} {Q : Bool → Shared → Prop} (i : Nat) (x : IsTupleKey (intKind prog w) s.heap ks b) (q : Q true s) : wpAny (model prog w) A (eqIsQuiet (i + 1) (.ref b)) Q E s := by
  have T := x.typeIs
  obtain ⟨o, items, n, ho, -, hd, ri⟩ := x
  unfold eqIsQuiet
  refine wpAny_bind (wpAny_specialOf T F.slot_tuple_eq.lookup ?_)
  show wpAny _ _ (isInstance (.ref b) (.type "tuple") >>= _) _ _ s
  refine wpAny_bind (wpAny_isInstance T isSubtype_tuple_tuple ?_)
  simp only [Bool.not_true, Bool.false_eq_true, if_false]
  refine wpAny_bind (wpAny_seqItems ho hd ?_)
  refine wpAny_bind ?_
  show wpAny _ _ (forIn items _ _) _ _ s
  rw [← Array.forIn_toList]
  refine wpAny_forIn_list _ (fun rest r s' => r.1 = none ∧ s' = s ∧ ∀ v ∈ rest, carriedByValue v = true) _ ?_ ?_ _ _ ⟨rfl, rfl, ri.byValue⟩
  · rintro v rest r s' ⟨hr, rfl, al⟩
    rw [eqIsQuiet_byValue _ (al v (List.mem_cons_self ..))]
    refine wpAny_bind (wpAny_pure ?_)
    simp only [Bool.not_true, Bool.false_eq_true, if_false]
    exact wpAny_pure ⟨rfl, rfl, fun u hu => al u (List.mem_cons_of_mem _ hu)⟩
  · rintro ⟨r1, r2⟩ s' ⟨hr, rfl, _⟩
    simp only at hr
    subst hr
    exact wpAny_pure q
theorem nest_quiet {Q : Bool → Shared → Prop} (x : NestAt prog w m s.heap k a) (q : Q true s) : wpAny (model prog w) A (eqIsQuiet 8 (.ref a)) Q E s := by
  have T := x.ty
  obtain ⟨l1, o, items, n, b, vs, ho, -, hd, ev, rv, tb⟩ := x
  unfold eqIsQuiet
  refine wpAny_bind (wpAny_specialOf T F.slot_tuple_eq.lookup ?_)
  show wpAny _ _ (isInstance (.ref a) (.type "tuple") >>= _) _ _ s
  refine wpAny_bind (wpAny_isInstance T isSubtype_tuple_tuple ?_)
  simp only [Bool.not_true, Bool.false_eq_true, if_false]
  refine wpAny_bind (wpAny_seqItems ho hd ?_)
  refine wpAny_bind ?_
  show wpAny _ _ (forIn items _ _) _ _ s
  rw [← Array.forIn_toList, ev]
  refine wpAny_forIn_list _ (fun rest r s' => r.1 = none ∧ s' = s ∧ ∀ v ∈ rest, carriedByValue v = true ∨ v = .ref b) _ ?_ ?_ _ _ ⟨rfl, rfl, fun v hv => ?_⟩
  · rintro v rest r s' ⟨hr, rfl, al⟩
    have go : ∀ {Q : Bool → Shared → Prop} {A : Around}, Q true s' → wpAny (model prog w) A (eqIsQuiet 7 v) Q E s' := fun q => by
      rcases al v (List.mem_cons_self ..) with c | rfl
      · rw [eqIsQuiet_byValue _ c]
        exact wpAny_pure q
      · exact quiet_ints 6 tb q
    refine wpAny_bind (go ?_)
    simp only [Bool.not_true, Bool.false_eq_true, if_false]
    exact wpAny_pure ⟨rfl, rfl, fun u hu => al u (List.mem_cons_of_mem _ hu)⟩
  · rintro ⟨r1, r2⟩ s' ⟨hr, rfl, _⟩
    simp only at hr
    subst hr
    exact wpAny_pure q
  · rcases List.mem_append.mp hv with h | h
    · exact .inl (rv.byValue v h)
    · exact .inr (List.mem_singleton.mp h)
end
/-- keys of m whole numbers and a tuple of such -/
def nestKind {prog : Program} {w : World} (m : Nat) : HeapKind prog w NK where
  is := NestAt prog w m
  hash := nestHash prog w
  draws := fun k => k.1.length + k.2.length + 2
  room := fun A => A.units + 4 < cLine
  inj := fun x y => x.inj y
  keeps := fun x ho hd sb => x.stays ho hd sb
  pyHash := fun hu x q => nest_hash (by omega) x q
  eqBool := fun hu x y q => nest_eq hu x y q
  quiet := fun x q => nest_quiet x q
end PySem
/-! a dict of such keys, each with True: {}, k not in d, d[k] = True -/
namespace Kx
open L2 PySem PySem.Spec PyProof.Rows
abbrev rowsN (xs : List (NK × Addr)) : List (NK × Addr × Value) := xs.map fun x => (x.1, x.2, Value.bool true)
structure NestR (P : Program) (w : World) (m : Nat) (d : Addr) (xs : List (NK × Addr)) (h : Heap) : Prop where
  ob : ∃ (o : Obj) (es : Array DictEntry) (ep : Nat), h.get? d = some o ∧ o.ExactDict ∧ o.data = .dict es ep ∧ es.toList = (rowsN xs).map (entryOfKey (nestKind (prog := P) (w := w) m))
  nd : (xs.map (·.1)).Nodup
  few : xs.length ≤ sizeLine
  own : (d == sysModules) = false
def NestO (P : Program) (w : World) (m : Nat) (d : Addr) (xs : List (NK × Addr)) : HO := .ext (NestR P w m d xs)
/-- such a key stands at a -/
def KeyN (K : PySem.W.Frag) (H : Hp) (m : Nat) (k : NK) (a : Addr) : Prop := k.1.length = m ∧ ∃ b, SqT K H a (k.1.map V.int ++ [.ref b]) ∧ SqT K H b (k.2.map V.int)
theorem KeyN.same {K : PySem.W.Frag} {H H' : Hp} {m : Nat} {k : NK} {a : Addr} (e : Same H H') (h : KeyN K H m k a) : KeyN K H' m k a := ⟨h.1, h.2.elim fun b q => ⟨b, sqT_same e q.1, sqT_same e q.2⟩⟩
theorem nestR_ok {P : Program} {w : World} {m : Nat} {d : Addr} {xs : List (NK × Addr)} {H : Hp} {h : Heap} (r : NestR P w m d xs h) : ObjOk P w H h d (NestO P w m d xs) := by
  obtain ⟨⟨o, es, ep, h1, h2⟩, nd, few, own⟩ := id r
  refine ⟨r, ⟨o, h1⟩, fun g1 g2 q k => ?_⟩
  obtain ⟨⟨o', es', ep', h1', h2'⟩, q2, q3, q4⟩ := q
  exact ⟨⟨o', es', ep', k o' h1', h2'⟩, q2, q3, q4⟩
theorem items_ints {P : Program} {w : World} : ∀ {k : List Int} {us : List Value}, Vals (k.map V.int) us → ItemsAre (PySem.intKind P w) k us
  | [], _, .nil => .nil
  | i :: k, _, .cons r t => by
    obtain ⟨tk, rfl⟩ := r
    exact .cons (by simp [PySem.intKind, Value.isInt]) (items_ints t)
theorem vals_snoc : ∀ {xs : List V} {y : V} {us : List Value}, Vals (xs ++ [y]) us → ∃ vs u, us = vs ++ [u] ∧ Vals xs vs ∧ RelV y u
  | [], _, _, .cons r .nil => ⟨[], _, rfl, .nil, r⟩
  | x :: xs, y, _, .cons r t => by
    obtain ⟨vs, u, e, h1, h2⟩ := vals_snoc (xs := xs) t
    exact ⟨_ :: vs, u, by rw [e]; rfl, .cons r h1, h2⟩
section
variable {X : Cx} {pins : List (Addr × Obj)} {σ : L2.St} {H : Hp} {s : Shared} {m : Nat} {k : NK} {a d : Addr} {xs : List (NK × Addr)}
theorem key_ints (I : Inv X pins σ H s) {ns : List Int} (h : SqT X.K H a (ns.map V.int)) : IsTupleKey (PySem.intKind X.prog X.w) s.heap ns a := by
  obtain ⟨its, r, ⟨o, ho, hc, n, hd⟩, _⟩ := I.tuple h
  exact ⟨o, its.toArray, n, ho, hc, hd, by simpa using items_ints r⟩
theorem nest_of (I : Inv X pins σ H s) (h : KeyN X.K H m k a) : NestAt X.prog X.w m s.heap k a := by
  obtain ⟨l, b, h1, h2⟩ := h
  obtain ⟨its, r, ⟨o, ho, hc, n, hd⟩, _⟩ := I.tuple h1
  obtain ⟨vs, u, e, r1, r2⟩ := vals_snoc r
  cases r2
  exact ⟨l, o, its.toArray, n, b, vs, ho, hc, hd, by simpa using e, items_ints r1, key_ints I h2⟩
theorem nest_dict (I : Inv X pins σ H s) (hd : H d = some (NestO X.prog X.w m d xs)) (ks : ∀ x ∈ xs, KeyN X.K H m x.1 x.2) : NestR X.prog X.w m d xs s.heap ∧ s.heap.DictOfH (nestKind (prog := X.prog) (w := X.w) m) d (rowsN xs) := by
  have r : NestR X.prog X.w m d xs s.heap := (I.hok d _ hd).1
  obtain ⟨⟨o, es, ep, h1, h2, h3, h4⟩, nd, few, own⟩ := id r
  refine ⟨r, o, es, ep, h1, h2, h3, h4, fun x hx => ?_, by rw [List.map_map]; exact nd⟩
  obtain ⟨y, hy, rfl⟩ := List.mem_map.mp hx
  exact nest_of I (ks y hy)
theorem at_rows {k : NK} : (atKey (rowsN xs) k).isSome = decide (k ∈ xs.map (·.1)) := by
  unfold atKey
  rw [Option.isSome_map, Bool.eq_iff_iff, List.find?_isSome, decide_eq_true_eq, List.mem_map]
  constructor
  · rintro ⟨x, hx, e⟩
    obtain ⟨y, hy, rfl⟩ := List.mem_map.mp hx
    exact ⟨y, hy, of_decide_eq_true e⟩
  · rintro ⟨y, hy, rfl⟩
    exact ⟨_, List.mem_map.mpr ⟨y, hy, rfl⟩, decide_eq_true rfl⟩
end
section
variable {X : Cx}
/-- k not in d -/
def rNotInN (K : PySem.W.Frag) (P : Program) (w : World) : R2 := fun x y H Q => ∃ (d a : Addr) (xs : List (NK × Addr)) (m : Nat) (k : NK), x = .ref a ∧ y = .ref d ∧ H d = some (NestO P w m d xs) ∧ KeyN K H m k a ∧ (∀ x ∈ xs, KeyN K H m x.1 x.2) ∧ Q (.bl (!decide (k ∈ xs.map (·.1)))) H
theorem op_notInN (hu : X.A.units + 64 < cLine) : OpR X (compareOp .NotIn) (rNotInN X.K X.prog X.w) := by
  intro pins s σ H x y v u Q I rx ry h
  obtain ⟨d, a, xs, m, k, rfl, rfl, hd, hk, ks, q⟩ := h
  cases rx
  cases ry
  obtain ⟨r, dd⟩ := nest_dict I hd ks
  refine wpAny_notIn_heap (knd := nestKind (prog := X.prog) (w := X.w) m) (by show _ + 4 < _; simp only [units_in1]; omega) (nest_of I hk) r.own dd ?_
  rw [at_rows]
  exact ⟨.bl _, H, I.tok _, rfl, q⟩
/-- d[k] = True -/
def rSetN (K : PySem.W.Frag) (P : Program) (w : World) : V → V → V → Hp → (Hp → Prop) → Prop := fun o i v H Q => ∃ (d a : Addr) (xs : List (NK × Addr)) (m : Nat) (k : NK), o = .ref d ∧ i = .ref a ∧ v = .bl true ∧ H d = some (NestO P w m d xs) ∧ KeyN K H m k a ∧ (∀ x ∈ xs, KeyN K H m x.1 x.2) ∧
  k ∉ xs.map (·.1) ∧ xs.length < sizeLine ∧ Q (upd H d (NestO P w m d (xs ++ [(k, a)])))
theorem set_nest (hu : X.A.units + 64 < cLine) : PSet X (rSetN X.K X.prog X.w) := by
  intro pins s σ H o i v ov iv u Q I ro ri rv h
  obtain ⟨d, a, xs, m, k, rfl, rfl, rfl, hd, hk, ks, no, few, q⟩ := h
  cases ro
  cases ri
  cases rv
  obtain ⟨r, dd⟩ := nest_dict I hd ks
  refine wpAny_setItem_heap (knd := nestKind (prog := X.prog) (w := X.w) m) (hsz := by rw [List.length_map]; omega) (by show _ + 4 < _; simp only [units_in1]; omega) (nest_of I hk) dd fun h' dd' hs => ?_
  have new : atKey (rowsN xs) k = none := by
    have := at_rows (xs := xs) (k := k)
    rw [decide_eq_false no] at this
    exact Option.isNone_iff_eq_none.mp (by rw [← Option.not_isSome, this]; rfl)
  rw [storedH_new new] at dd'
  obtain ⟨q1, es, ep, h1, h2, h3, h4, _, h5⟩ := dd'
  have e : rowsN xs ++ [(k, a, Value.bool true)] = rowsN (xs ++ [(k, a)]) := by rw [show rowsN (xs ++ [(k, a)]) = rowsN xs ++ rowsN [(k, a)] from List.map_append ..]; rfl
  rw [e] at h4 h5
  refine ⟨_, d_write I (by rw [hd]; exact True.intro) hs ⟨q1, h1⟩ (nestR_ok ⟨⟨q1, es, ep, h1, h2, h3, h4⟩, by rw [List.map_map] at h5; exact h5, by rw [List.length_append, List.length_singleton]; omega, r.own⟩), q⟩
/-- {}, to be such a dict -/
def tDNewN (P : Program) (w : World) (m : Nat) : TE := fun _ H Q => ∀ p, H p = none → Q (.ref p) (upd H p (NestO P w m p []))
theorem pe_dnewN {pos : Pos} (m : Nat) : PE X (.Dict [] [] pos) (tDNewN X.prog X.w m) := ⟨fun pins s σ H Q I h =>
  wpAny_Dict_empty ⟨.ref s.heap.objs.size, _, I.laid (a := s.heap.objs.size) (o := NestO X.prog X.w m s.heap.objs.size []) (t' := s.toks) (fun _ _ q => Heap.get?_push_of_some _ q) (Nat.le_refl _)
    (nestR_ok ⟨⟨_, #[], 0, Heap.get?_push_size _ rfl, ⟨rfl, rfl, rfl⟩, rfl, rfl⟩, List.nodup_nil, Nat.zero_le _, beq_eq_false_iff_ne.mpr (Ne.symm (Nat.ne_of_lt I.big))⟩), rfl, h _ (I.hok.fresh (Nat.le_refl _))⟩⟩
end
end Kx
/-! a dict of such keys with any values: {k: v}, k not in d, d[k] = v, d[k] -/
namespace Kx
open L2 PySem PySem.Spec PyProof.Rows
/-- key, where it stands, value -/
abbrev NE := NK × Addr × V
inductive RowsNV : List NE → List (NK × Addr × Value) → Prop
  | nil : RowsNV [] []
  | cons {k : NK} {a : Addr} {v : V} {u : Value} {xs : List NE} {rs : List (NK × Addr × Value)} (r : RelV v u) (t : RowsNV xs rs) : RowsNV ((k, a, v) :: xs) ((k, a, u) :: rs)
theorem RowsNV.keys {xs : List NE} {rs : List (NK × Addr × Value)} (h : RowsNV xs rs) : rs.map (·.1) = xs.map (·.1) ∧ rs.length = xs.length := by
  induction h with
  | nil => exact ⟨rfl, rfl⟩
  | cons r t ih => exact ⟨by rw [List.map_cons, List.map_cons, ih.1], by rw [List.length_cons, List.length_cons, ih.2]⟩
theorem RowsNV.snoc {xs : List NE} {rs : List (NK × Addr × Value)} {k : NK} {a : Addr} {v : V} {u : Value} (h : RowsNV xs rs) (r : RelV v u) : RowsNV (xs ++ [(k, a, v)]) (rs ++ [(k, a, u)]) := by
  induction h with
  | nil => exact .cons r .nil
  | cons r' t ih => exact .cons r' ih
theorem RowsNV.mem {xs : List NE} {rs : List (NK × Addr × Value)} (h : RowsNV xs rs) {r : NK × Addr × Value} (hr : r ∈ rs) : ∃ x ∈ xs, x.1 = r.1 ∧ x.2.1 = r.2.1 ∧ RelV x.2.2 r.2.2 := by
  induction h with
  | nil => cases hr
  | cons r' t ih =>
    rcases List.mem_cons.mp hr with e | hr
    · subst e
      exact ⟨_, List.mem_cons_self, rfl, rfl, r'⟩
    · obtain ⟨x, hx, q⟩ := ih hr
      exact ⟨x, List.mem_cons_of_mem _ hx, q⟩
theorem RowsNV.find {xs : List NE} {rs : List (NK × Addr × Value)} (h : RowsNV xs rs) {i : Nat} {x : NE} (hx : xs[i]? = some x) : ∃ u, rs[i]? = some (x.1, x.2.1, u) ∧ RelV x.2.2 u := by
  induction h generalizing i with
  | nil => cases hx
  | cons r' t ih =>
    cases i with
    | zero =>
      cases hx
      exact ⟨_, rfl, r'⟩
    | succ i => exact ih (by simpa using hx)
structure NestVR (P : Program) (w : World) (m : Nat) (d : Addr) (xs : List NE) (h : Heap) : Prop where
  ob : ∃ (rs : List (NK × Addr × Value)) (o : Obj) (es : Array DictEntry) (ep : Nat), RowsNV xs rs ∧ h.get? d = some o ∧ o.ExactDict ∧ o.data = .dict es ep ∧ es.toList = rs.map (entryOfKey (nestKind (prog := P) (w := w) m))
  nd : (xs.map (·.1)).Nodup
  few : xs.length ≤ sizeLine
  own : (d == sysModules) = false
def NestV (P : Program) (w : World) (m : Nat) (d : Addr) (xs : List NE) : HO := .ext (NestVR P w m d xs)
theorem nestVR_ok {P : Program} {w : World} {m : Nat} {d : Addr} {xs : List NE} {H : Hp} {h : Heap} (r : NestVR P w m d xs h) : ObjOk P w H h d (NestV P w m d xs) := by
  obtain ⟨⟨rs, o, es, ep, h0, h1, h2⟩, nd, few, own⟩ := id r
  refine ⟨r, ⟨o, h1⟩, fun g1 g2 q k => ?_⟩
  obtain ⟨⟨rs', o', es', ep', h0', h1', h2'⟩, q2, q3, q4⟩ := q
  exact ⟨⟨rs', o', es', ep', h0', k o' h1', h2'⟩, q2, q3, q4⟩
section
variable {X : Cx} {pins : List (Addr × Obj)} {σ : L2.St} {H : Hp} {s : Shared} {m : Nat} {k : NK} {a d : Addr} {xs : List NE}
theorem nestV_dict (I : Inv X pins σ H s) (hd : H d = some (NestV X.prog X.w m d xs)) (ks : ∀ x ∈ xs, KeyN X.K H m x.1 x.2.1) : NestVR X.prog X.w m d xs s.heap ∧ ∃ rs, RowsNV xs rs ∧ s.heap.DictOfH (nestKind (prog := X.prog) (w := X.w) m) d rs := by
  have r : NestVR X.prog X.w m d xs s.heap := (I.hok d _ hd).1
  obtain ⟨⟨rs, o, es, ep, h0, h1, h2, h3, h4⟩, nd, few, own⟩ := id r
  refine ⟨r, rs, h0, o, es, ep, h1, h2, h3, h4, fun x hx => ?_, by rw [h0.keys.1]; exact nd⟩
  obtain ⟨y, hy, e1, e2, _⟩ := h0.mem hx
  have := nest_of I (ks y hy)
  rwa [e1, e2] at this
theorem at_rowsV {rs : List (NK × Addr × Value)} (h : RowsNV xs rs) : (atKey rs k).isSome = decide (k ∈ xs.map (·.1)) := by
  unfold atKey
  rw [← h.keys.1, Option.isSome_map, Bool.eq_iff_iff, List.find?_isSome, decide_eq_true_eq, List.mem_map]
  constructor
  · rintro ⟨x, hx, e⟩
    exact ⟨x, hx, of_decide_eq_true e⟩
  · rintro ⟨y, hy, rfl⟩
    exact ⟨_, hy, decide_eq_true rfl⟩
end
section
variable {X : Cx}
/-- k not in d -/
def rNotInV (K : PySem.W.Frag) (P : Program) (w : World) : R2 := fun x y H Q => ∃ (d a : Addr) (xs : List NE) (m : Nat) (k : NK), x = .ref a ∧ y = .ref d ∧ H d = some (NestV P w m d xs) ∧ KeyN K H m k a ∧ (∀ x ∈ xs, KeyN K H m x.1 x.2.1) ∧ Q (.bl (!decide (k ∈ xs.map (·.1)))) H
theorem op_notInV (hu : X.A.units + 64 < cLine) : OpR X (compareOp .NotIn) (rNotInV X.K X.prog X.w) := by
  intro pins s σ H x y v u Q I rx ry h
  obtain ⟨d, a, xs, m, k, rfl, rfl, hd, hk, ks, q⟩ := h
  cases rx
  cases ry
  obtain ⟨r, rs, rr, dd⟩ := nestV_dict I hd ks
  refine wpAny_notIn_heap (knd := nestKind (prog := X.prog) (w := X.w) m) (by show _ + 4 < _; simp only [units_in1]; omega) (nest_of I hk) r.own dd ?_
  rw [at_rowsV rr]
  exact ⟨.bl _, H, I.tok _, rfl, q⟩
/-- d[k] = v, a new key -/
def rSetV (K : PySem.W.Frag) (P : Program) (w : World) : V → V → V → Hp → (Hp → Prop) → Prop := fun o i v H Q => ∃ (d a : Addr) (xs : List NE) (m : Nat) (k : NK), o = .ref d ∧ i = .ref a ∧ H d = some (NestV P w m d xs) ∧ KeyN K H m k a ∧ (∀ x ∈ xs, KeyN K H m x.1 x.2.1) ∧
  k ∉ xs.map (·.1) ∧ xs.length < sizeLine ∧ Q (upd H d (NestV P w m d (xs ++ [(k, a, v)])))
theorem new_rows {P : Program} {w : World} {m : Nat} {d a : Addr} {k : NK} {v : V} {u : Value} {xs : List NE} {rs : List (NK × Addr × Value)} {h' : Heap} (r : RowsNV xs rs) (own : (d == sysModules) = false) (no : k ∉ xs.map (·.1)) (few : xs.length < sizeLine) (rv : RelV v u) (dd : h'.DictOfH (nestKind (prog := P) (w := w) m) d (storedH rs k a u)) :
    (∃ q, h'.get? d = some q) ∧ NestVR P w m d (xs ++ [(k, a, v)]) h' := by
  have new : atKey rs k = none := by
    have := at_rowsV (k := k) r
    rw [decide_eq_false no] at this
    exact Option.isNone_iff_eq_none.mp (by rw [← Option.not_isSome, this]; rfl)
  rw [storedH_new new] at dd
  obtain ⟨q1, es, ep, h1, h2, h3, h4, _, h5⟩ := dd
  have r2 := r.snoc (k := k) (a := a) rv
  exact ⟨⟨q1, h1⟩, ⟨_, q1, es, ep, r2, h1, h2, h3, h4⟩, by rw [← r2.keys.1]; exact h5, by rw [List.length_append, List.length_singleton]; omega, own⟩
theorem set_nestV (hu : X.A.units + 64 < cLine) : PSet X (rSetV X.K X.prog X.w) := by
  intro pins s σ H o i v ov iv u Q I ro ri rv h
  obtain ⟨d, a, xs, m, k, rfl, rfl, hd, hk, ks, no, few, q⟩ := h
  cases ro
  cases ri
  obtain ⟨r, rs, rr, dd⟩ := nestV_dict I hd ks
  refine wpAny_setItem_heap (knd := nestKind (prog := X.prog) (w := X.w) m) (hsz := by rw [rr.keys.2]; omega) (by show _ + 4 < _; simp only [units_in1]; omega) (nest_of I hk) dd fun h' dd' hs => ?_
  obtain ⟨e, n⟩ := new_rows rr r.own no few rv dd'
  exact ⟨_, d_write I (by rw [hd]; exact True.intro) hs e (nestVR_ok n), q⟩
/-- d[k], there -/
def rGetV (K : PySem.W.Frag) (P : Program) (w : World) : V → V → Hp → VK → Prop := fun o i H Q => ∃ (d a : Addr) (xs : List NE) (m : Nat) (k : NK) (j : Nat) (b : Addr) (v : V), o = .ref d ∧ i = .ref a ∧ H d = some (NestV P w m d xs) ∧ KeyN K H m k a ∧ (∀ x ∈ xs, KeyN K H m x.1 x.2.1) ∧ xs[j]? = some (k, b, v) ∧ Q v H
theorem get_nestV (hu : X.A.units + 64 < cLine) : PGet X (rGetV X.K X.prog X.w) := by
  intro pins s σ H o i ov iv Q I ro ri h
  obtain ⟨d, a, xs, m, k, j, b, v, rfl, rfl, hd, hk, ks, hj, q⟩ := h
  cases ro
  cases ri
  obtain ⟨r, rs, rr, dd⟩ := nestV_dict I hd ks
  obtain ⟨u, h1, h2⟩ := rr.find hj
  refine wpAny_getItem_heap (knd := nestKind (prog := X.prog) (w := X.w) m) (by show _ + 4 < _; simp only [units_in1]; omega) (nest_of I hk) dd (p := (b, u)) (atKey_of_get (by rw [rr.keys.1]; exact r.nd) h1) ?_
  exact ⟨v, H, I.tok _, h2, q⟩
/-- {k: v} -/
def tDict1 (K : PySem.W.Frag) (P : Program) (w : World) (m : Nat) (ta tv : TE) : TE := fun σ H Q => ∀ d, H d = none → ta σ (upd H d (NestV P w m d [])) fun x H1 => tv σ H1 fun y H2 => ∃ (a : Addr) (k : NK), x = .ref a ∧ H2 d = some (NestV P w m d []) ∧ KeyN K H2 m k a ∧ Q (.ref d) (upd H2 d (NestV P w m d [(k, a, y)]))
theorem pe_dict1 {a v : Expr} {ta tv : TE} {pos : Pos} (m : Nat) (hu : X.A.units + 64 < cLine) (ha : PE X a ta) (hv : PE X v tv) : PE X (.Dict [some a] [v] pos) (tDict1 X.K X.prog X.w m ta tv) := by
  refine ⟨fun pins s σ H Q I h => ?_⟩
  have sh : (evalEachOpt [some a] X.env).zip ((evalEach [v] X.env).map fun v => do let x ← v; standAt pos; pure x) = [(eval a X.env, do let x ← eval v X.env; standAt pos; pure x)].map fun p => (some p.1, p.2) := rfl
  rw [arm_eval_Dict, sh, dictDisplay_pairs _ (List.cons_ne_nil _ _) (by show 1 < 17; omega)]
  refine wpAny_bind (wpAny_standAt (wpAny_bind (wpAny_subDictH (knd := nestKind (prog := X.prog) (w := X.w) m) (by show _ + 4 < _; omega) (by show 1 ≤ 15; omega) ?_)))
  have own : (s.heap.objs.size == sysModules) = false := beq_eq_false_iff_ne.mpr (Ne.symm (Nat.ne_of_lt I.big))
  have I1 : Inv X pins σ (upd H s.heap.objs.size (NestV X.prog X.w m s.heap.objs.size [])) { s with heap := s.heap.push { cls := .type "dict", data := .dict #[] } } :=
    I.laid (a := s.heap.objs.size) (o := NestV X.prog X.w m s.heap.objs.size []) (t' := s.toks) (fun _ _ q => Heap.get?_push_of_some _ q) (Nat.le_refl _)
      (nestVR_ok ⟨⟨[], _, #[], 0, .nil, Heap.get?_push_size _ rfl, ⟨rfl, rfl, rfl⟩, rfl, rfl⟩, List.nodup_nil, Nat.zero_le _, own⟩)
  have q1 := h s.heap.objs.size (I.hok.fresh (Nat.le_refl _))
  refine evalPairs_cons (thn (ha.run pins _ σ _ _ I1 q1) fun kv s1 ⟨x, H1, I2, rx, q2⟩ => ?_)
  refine wpAny_bind (thn (hv.run pins _ σ _ _ I2 q2) fun vv s2 ⟨y, H2, I3, ry, b, k, ex, hd, hk, q3⟩ => ?_)
  refine wpAny_bind (wpAny_standAt (wpAny_pure ?_))
  refine evalPairs_nil ?_
  subst ex
  obtain rfl : kv = Value.ref b := rx
  obtain ⟨r, rs, rr, dd⟩ := nestV_dict I3 hd (fun _ z => nomatch z)
  cases rr
  refine ⟨[(k, b, vv)], ⟨rfl, rfl, nest_of I3 hk, trivial⟩, dd, fun h' tk dd' hs => ?_⟩
  obtain ⟨e, n⟩ := new_rows (xs := []) (v := y) .nil own (fun z => nomatch z) (by show 0 < sizeLine; decide) ry dd'
  exact wpAny_pure ⟨.ref s.heap.objs.size, _, d_write I3 (by rw [hd]; exact True.intro) hs e (nestVR_ok n), rfl, q3⟩
end
end Kx
/-! for x in d.values(), d a dict whose keys are tuples -/
namespace Kx
open PySem
section
variable {prog : Program} {w : World}
theorem meets_values_own (d : Addr) (hd : (d == sysModules) = false) :
    MeetsIn prog w (Builtin.«dict.values» ⟨[.ref d], []⟩) (fun _ R s => s.TypeIs (.ref d) "dict" ∧
      R (.ok (.ret (.ref s.heap.objs.size))) { s with heap := s.heap.push { cls := .type "dict_values", data := .fields #[.ref d] } }) :=
  .of_wp fun A R s ⟨hm, h⟩ => by
    refine wpAny_bind ?_
    unfold Builtin.Dict.noArgs
    refine wpAny_bind (wpAny_notOrdered_dict hm ?_)
    show wpAny _ _ (pure d) _ _ s
    refine wpAny_pure ?_
    show wpAny _ _ (Builtin.Dict.showsAll d >>= _) _ _ s
    unfold Builtin.Dict.showsAll
    rw [if_neg (by rw [hd]; exact Bool.false_ne_true)]
    refine wpAny_bind (wpAny_pure ?_)
    exact wpAny_bind (wpAny_newObj_type (wpAny_pure ⟨_, rfl, h⟩))
end
end Kx
namespace Kx
open L2 PySem PySem.Spec PyProof.Rows
section
variable {X : Cx} {pins : List (Addr × Obj)} {σ : L2.St} {H : Hp} {s : Shared} {d : Addr} {o : Obj}
theorem frzT_val {kvs : List (List Key × V)} (I : Inv X pins σ H s) (h : H d = some (.frz o (.dT kvs))) :
    (d == sysModules) = false ∧ s.heap.get? d = some o ∧ o.ExactDict ∧ ∃ (es : Array DictEntry) (ep : Nat), o.data = .dict es ep ∧ es.size = kvs.length ∧
      ∀ (i : Nat) (k : List Key) (v : V), kvs[i]? = some (k, v) → ∃ en : DictEntry, es[i]? = some en ∧ RelV v en.val := by
  obtain ⟨hd, z, hs, xs, pr, o', es, ep, ho, hx, hdt, he, _⟩ := I.hok d _ h
  rw [hd] at ho
  cases ho
  refine ⟨hs, hd, hx, es, ep, hdt, ?_, fun i k v e => ?_⟩
  · have l1 : es.size = xs.length := size_of_entries he
    have l2 : kvs.length = xs.length := Paired.length pr
    omega
  · obtain ⟨b, hb, e1, e2, e3⟩ := L2.paired_get pr e
    have q := entry_at he i
    rw [hb] at q
    exact ⟨_, q, e3⟩
end
/-- the values of the locked dict at d -/
def Itdt (d : Addr) (o : Obj) (kvs : List (List Key × V)) : It :=
  ⟨fun i H => H d = some (.frz o (.dT kvs)) ∧ i < kvs.length, fun i H x H' => H' = H ∧ ∃ k, kvs[i]? = some (k, x), fun i H => H d = some (.frz o (.dT kvs)) ∧ kvs.length ≤ i⟩
theorem turn_valsT {P : Program} {w : World} {K : PySem.W.Frag} {tg : Expr} {d : Addr} {o : Obj} {es : Array DictEntry} {ep : Nat} {kvs : List (List Key × V)} (it : Addr) (hod : o.data = .dict es ep) : Turn P w K tg (Itdt d o kvs) [it] it (fun i h => h.get? it = some (DVw.valOb d i kvs.length ep) ∧ it ≠ d) where
  mem := by simp
  obj := fun i h st b hb => by
    have e : b = it := by simpa using hb
    subst e
    exact ⟨_, st.1, fun v z => nomatch z⟩
  keep := fun i h h' st k => ⟨k it (by simp) _ st.1, st.2⟩
  item := by
    intro X hP hw hK hc i pins s σ H E I hf st hg
    subst hP hw hK
    obtain ⟨hd, hi⟩ := hg
    obtain ⟨f0, f1, f2, f3, f4, f5⟩ := hf it (by simp)
    obtain ⟨hs, hgd, hx, es', ep', hdt, hsz, ent⟩ := frzT_val I hd
    obtain ⟨rfl, rfl⟩ := dict_ep hod hdt
    obtain ⟨⟨k, v⟩, hkv⟩ : ∃ p, kvs[i]? = some p := ⟨kvs[i], List.getElem?_eq_getElem hi⟩
    obtain ⟨en, hen, hv⟩ := ent i k v hkv
    refine DVw.val_item st.1 hgd hdt hsz hen fun h' e1 sb => ?_
    have I1 : Inv X pins σ H { s with heap := h' } := I.turned (t' := s.toks) (fun b ob hb e => (sb.2 b hb).trans e) f0 f1 f3 f4 f5
    exact ⟨en.val, rfl, go_of (s := { s with heap := h' }) e1 rfl rfl (by decide) ⟨v, H, I1, hv, ⟨rfl, k, hkv⟩, ⟨e1, st.2⟩, fun b hb => (hf b hb).1⟩⟩
  done := by
    intro X hP hw hK hc i pins s σ H E I hf st hg
    subst hP hw hK
    obtain ⟨hd, hi⟩ := hg
    obtain ⟨f0, f1, f2, f3, f4, f5⟩ := hf it (by simp)
    obtain ⟨hs, hgd, hx, es', ep', hdt, hsz, ent⟩ := frzT_val I hd
    obtain ⟨rfl, rfl⟩ := dict_ep hod hdt
    exact DVw.val_end (I.ok.hd hc) st.1 hgd hdt hsz (Array.getElem?_eq_none (by omega)) fun h' eb => ⟨rfl, I.turned (t' := s.toks) (fun b ob hb e => eb b ob hb e) f0 f1 f3 f4 f5⟩
  self := fun A i s Q E st h => wpAny_pyIter_valiter (i := i) (n := kvs.length) (ep := ep) (d := d) ⟨_, st.1, rfl, rfl⟩ h
def iValsT (td : TE) : TI := fun σ H R => td σ H fun x H1 => ∃ d o kvs, x = .ref d ∧ H1 d = some (.frz o (.dT kvs)) ∧ R (Itdt d o kvs) H1
theorem pi_valuesT {X : Cx} {tg e : Expr} {td : TE} {apos cpos : Pos} (he : PE X e td) (hbase : attributeBase e "values" X.env (eval e X.env) = eval e X.env := by rfl) (hline : (apos.endLine == cpos.line) = true := by rfl) : PI X tg (.Call (.Attribute e "values" apos) [] [] cpos) (iValsT td) := by
  refine ⟨fun pins s σ H R I h => ?_⟩
  refine wpAny_Call_method (T := "dict") (id := "dict.values") hbase rfl hline F.plainAttrs_dict F.slot_dict_values F.type_dict_values (thn (he.run pins s σ H _ I h) fun u s1 ⟨x, H1, I1, rx, d, o, kvs, ex, hd, q⟩ => ?_)
  subst ex
  obtain rfl : u = Value.ref d := rx
  obtain ⟨hs, hgd, hx, es, ep, hdt, hsz, ent⟩ := frzT_val I1 hd
  refine ⟨⟨_, hgd, hx.1⟩, fun a e => ?_, ?_⟩
  · cases e
    exact ⟨_, hgd, hx.2.1⟩
  have I2 : Inv X pins σ H1 { s1 with heap := s1.heap.push { cls := .type "dict_values", data := .fields #[.ref d] } } := I1.kept (t' := s1.toks) fun b ob q => Heap.get?_push_of_some _ q
  have fin : wpAny (model X.prog X.w) X.A (pyIter (.ref s1.heap.objs.size)) (PIE X pins σ tg R) X.xe { s1 with heap := s1.heap.push { cls := .type "dict_values", data := .fields #[.ref d] } } := by
    refine DSub.iter_vals (a := d) (Heap.get?_push_size _ rfl) (Heap.get?_push_of_some _ hgd) hdt (pi_one (tk := s1.toks) I2 _ (turn_valsT _ hdt) ⟨?_, ?_⟩ q)
    · rw [Heap.get?_push_size _ rfl, hsz]
    · rw [Heap.size_push]
      exact Nat.ne_of_gt (Nat.lt_succ_of_lt (Heap.lt_size hgd))
  show wpAny _ _ (callWith cpos (.builtin "dict.values") [.ref d] [] []) _ X.xe s1
  exact method_meetsIn F.slot_dict_values F.entry_dict_values rfl (PySem.evalArgs_none ⟨rfl, ⟨_, hgd, hx.1⟩, F.args_dict_values_1 _, _, meets_values_own d hs, ⟨_, hgd, hx.1⟩, fin⟩)
end Kx
/-! set(xs), xs a list of ever so many tuples of whole numbers, few of them unlike -/
namespace Kx
open L2 PySem PySem.Spec PyProof.Rows
/-- at most 62 unlike ones -/
def FewT (ks : List (Addr × List Int)) : Prop := ∃ M : List (List Int), M.length ≤ 62 ∧ ∀ p ∈ ks, p.2 ∈ M
theorem nodup_len {α : Type} [DecidableEq α] : ∀ {A B : List α}, A.Nodup → (∀ x ∈ A, x ∈ B) → A.length ≤ B.length
  | [], _, _, _ => Nat.zero_le _
  | x :: A, B, nd, h => by
    obtain ⟨n1, n2⟩ := List.nodup_cons.mp nd
    have hx := h x List.mem_cons_self
    have := nodup_len (A := A) (B := B.erase x) n2 fun y hy => (List.mem_erase_of_ne (fun z => n1 (by rw [← z]; exact hy))).mpr (h y (List.mem_cons_of_mem _ hy))
    rw [List.length_erase_of_mem hx] at this
    have := List.length_pos_of_mem hx
    rw [List.length_cons]
    omega
theorem FewT.le {ks L : List (Addr × List Int)} (f : FewT ks) (sub : ∀ p ∈ L, p ∈ ks) (nd : (L.map (·.2)).Nodup) : L.length + 1 < 64 := by
  obtain ⟨M, m1, m2⟩ := f
  have := nodup_len nd fun x hx => by
    obtain ⟨p, hp, rfl⟩ := List.mem_map.mp hx
    exact m2 p (sub p hp)
  rw [List.length_map] at this
  omega
section
variable {P : Program} {w : World} {A : Around} {E : Value → Shared → Prop} {s : Shared}
/-- what is known of the list's items: of an older heap -/
structure OldT (P : Program) (w : World) (ks : List (Addr × List Int)) (hp : Heap) : Prop where
  few : FewT ks
  are : ∀ p ∈ ks, IsT P w hp p.2 p.1
def Later (hp : Heap) (s : Shared) : Prop := ∀ b o, hp.get? b = some o → s.heap.get? b = some o
/-- how far the set at S is -/
def SoFar (P : Program) (w : World) (ks : List (Addr × List Int)) (S : Addr) (i : Nat) (h : Heap) : Prop := ∃ L es ep t, SetTR P w h S L es ep t ∧ Got ks i L
theorem more_setM {I S : Addr} {fp wr : List Addr} {G : Array GenState → Array GenState → Prop} {n : Nat} {Pv : Nat → Value → Prop} {St : Nat → Shared → Prop} {ks : List (Addr × List Int)} {hp : Heap}
    (wk : WalksS P w A.in1 I fp wr G n Pv St) (out : S ∉ fp) (en : n = ks.length) (old : OldT P w ks hp) (val : ∀ i v, Pv i v → ∃ p, ks[i]? = some p ∧ v = .ref p.1) (nS : hp.get? S = none) (nw : ∀ b ∈ wr, hp.get? b = none) (room : A.in1.units < cLine) :
    ∀ (left i : Nat) (s : Shared) (R : Result → Shared → Prop), i + left = n → St i s → Later hp s → SoFar P w ks S i s.heap → (∀ s', Moved (S :: wr) G s s' → SoFar P w ks S n s'.heap → Later hp s' → R (.ok (.ret .none)) s') →
      codeAny (model P w) A (.builtin "set.update.loop" ⟨[.ref S, .ref I], []⟩) R s := by
  have offS : S ∉ wr := fun z => out (wk.sub _ z)
  have wider : ∀ b ∈ wr, b ∈ S :: wr := fun b z => List.mem_cons_of_mem _ z
  have stay : ∀ {s1 s2 : Shared}, Moved wr G s1 s2 → Later hp s1 → Later hp s2 := fun mv lt b o e => mv.heap b o (fun z => by
    rw [nw b z] at e
    cases e) (lt b o e)
  intro left
  induction left with
  | zero =>
    rintro i s R le st lt ⟨L, es, ep, t, tr, got⟩ q
    obtain rfl : i = n := by omega
    refine codeAny_builtin F.entry_set_update_loop ?_
    rw [Around.under_plainId F.plain_set_update_loop _]
    show wpAny _ A.in1 (pyNext (.ref I) >>= _) _ _ s
    refine wpAny_bind (wk.done s _ _ st fun s2 mv => ?_)
    show wpAny _ A.in1 (ret Value.none) _ _ s2
    have lt2 := stay mv lt
    have inK : ∀ p ∈ L, p ∈ ks := fun p z => List.mem_of_mem_take (got.sub p z)
    exact wpAny_pure (q s2 (mv.mono wider) ⟨L, es, ep, t, tr.keep (fun o e => mv.heap S o offS e) fun p z => isT_keep (old.are p (inK p z)) lt2, got⟩ lt2)
  | succ left ih =>
    rintro i s R le st lt ⟨L, es, ep, t, tr, got⟩ q
    refine codeAny_builtin F.entry_set_update_loop ?_
    rw [Around.under_plainId F.plain_set_update_loop _]
    show wpAny _ A.in1 (pyNext (.ref I) >>= _) _ _ s
    refine wpAny_bind (wk.item i s _ _ (by omega) st fun v s2 pv st2 mv => ?_)
    obtain ⟨p, at_, rfl⟩ := val i v pv
    have lt2 := stay mv lt
    have inK : ∀ p ∈ L, p ∈ ks := fun p z => List.mem_of_mem_take (got.sub p z)
    have tr2 : SetTR P w s2.heap S L es ep t := tr.keep (fun o e => mv.heap S o offS e) fun q z => isT_keep (old.are q (inK q z)) lt2
    have isp : IsT P w s2.heap p.2 p.1 := isT_keep (old.are p (List.mem_of_getElem? at_)) lt2
    show wpAny _ A.in1 (holding [Value.ref p.1] (setAdd S (.ref p.1)) >>= _) _ _ s2
    refine wpAny_bind (wpAny_holding ?_)
    unfold setAdd
    refine wpAny_holding (wpAny_bind (wpAny_pyHash_tuple room isp ?_))
    refine add_at (s := { s2 with toks := s2.toks + (p.2.length + 1) }) tr2 isp room (old.few.le inK tr2.nd) fun b h' L' es' ep' t' sb tr3 c1 c2 => ?_
    have got2 : Got ks (i + 1) L' := by
      by_cases z : p.2 ∈ L.map (·.2)
      · rw [c1 z]
        exact got.same at_ z
      · exact got.more at_ (c2 z)
    have lt3 : ∀ b o, hp.get? b = some o → h'.get? b = some o := fun b o e => (sb.2 b (fun z => by
      rw [z, nS] at e
      cases e)).trans (lt2 b o e)
    have fr : ∀ b ∈ fp, ∀ o, s2.heap.get? b = some o → h'.get? b = some o := fun b hb o e => by
      rw [sb.2 b fun z => out (by rw [← z]; exact hb)]
      exact e
    refine wpAny_pure ⟨plainId_quiet F.plain_set_update_loop _, ih (i + 1) _ R (by omega) (wk.frame _ s2 _ _ st2 (Nat.le_add_right _ _) fr) lt3 ⟨L', es', ep', t', tr3, got2⟩ fun s4 mv4 far lt4 => ?_⟩
    exact q s4 (Moved.trans wk.gtrans ((mv.mono wider).then_heap (Nat.le_add_right _ _) fun b o z e => by
      rw [sb.2 b fun y => z (by rw [y]; exact List.mem_cons_self)]
      exact e) mv4) far lt4
/-- the set as it is made -/
abbrev emptyS (w : World) : Obj := { cls := .type "set", dict := none, data := .set #[] 0 (.fresh 0 0 (!w.params.followText "set-order")) }
theorem call_setM {l : Addr} {items : Array Value} {ks : List (Addr × List Int)} {Q : Value → Shared → Prop} (hh : A.handled = none) (hl : s.heap.IsList l items) (hit : items.toList = ks.map fun p => Value.ref p.1) (old : OldT P w ks s.heap) (hu : A.units + 3 < cLine)
    (q : ∀ (h' : Heap) (tk : Nat), SoFar P w ks s.heap.objs.size ks.length h' → (∀ b o, s.heap.get? b = some o → h'.get? b = some o) → Q (.ref s.heap.objs.size) { s with heap := h', toks := tk }) : wpAny (model P w) A (call (.type "set") [.ref l]) Q E s := by
  have zn : items.size = ks.length := by
    have := congrArg List.length hit
    rwa [Array.length_toList, List.length_map] at this
  obtain ⟨c, tl, hmro⟩ := F.called_set.mro
  have hmade := F.called_set.made
  have hsub := F.called_set.sub
  refine wpAny_call (codeAny_of_tree ?_)
  show wpAny _ _ (callAny (.type "set") _) _ _ _
  refine wpAny_pure ⟨Code.quiet_builtin _ (by decide +kernel), codeAny_builtin F.entry_type_call ?_⟩
  rw [Around.under_plain (weight_type_call_type "set" [.ref l] []) rfl]
  have h1 := F.called_set.notType
  have h2 := F.called_set.canCreate
  have hct := F.typeCall_set_1 (.ref l)
  repeat (any_goals (first | assumption | wp_step))
  refine codeAny_mono (code_set_led1 (.ref l) (E := E) (Q₁ := fun obj s₁ => obj = .ref s.heap.objs.size ∧ s₁ = { s with heap := s.heap.push (emptyS w) }) ⟨rfl, rfl⟩) fun r s₁ hr => ?_
  match r, hr with
  | .error e, hr => exact hr
  | .ok (.ret obj), hr =>
    obtain ⟨rfl, rfl⟩ := hr
    have hS : (s.heap.push (emptyS w)).get? s.heap.objs.size = some (emptyS w) := Heap.get?_push_size _ rfl
    have hT : Shared.TypeIs { s with heap := s.heap.push (emptyS w) } (.ref s.heap.objs.size) "set" := ⟨_, hS, rfl⟩
    have hli := F.called_set.init.lookup
    have hbi := F.called_set.init.bind (.ref s.heap.objs.size)
    repeat (any_goals (first | assumption | wp_step))
    refine codeAny_mono (codeAny_call_builtin (R := wants (fun r s₂ => r = .none ∧ ∃ h' tk, s₂ = { s with heap := h', toks := tk } ∧ SoFar P w ks s.heap.objs.size ks.length h' ∧ (∀ b o, s.heap.get? b = some o → h'.get? b = some o)) E) F.called_set.init.plain F.entry_set_init (check_set_init_1 hT ?_)) fun r₂ s₂ hr₂ => ?_
    · obtain ⟨⟨ocls, odict, odata, oslots⟩, hol, hcl, nl, hdl⟩ := hl
      simp only at hcl hdl
      subst hcl hdl
      have holP : (s.heap.push (emptyS w)).get? l = some { cls := .type "list", dict := odict, data := .seq items nl, slots := oslots } := Heap.get?_push_of_some _ hol
      have hsls := F.sub_list_set
      have hslf := F.sub_list_frozenset
      have hne : (Value.type "list" == Value.type "dict") = false := by decide
      have hl1 : (s.heap.push (emptyS w)).IsList l items := ⟨_, holP, rfl, nl, rfl⟩
      unfold Builtin.«set.__init__» noKeywords Builtin.Frozenset.updateFrom
      generalize hPI : pyIter = PI
      wp_walk
      subst hPI
      refine wpAny_pyIter_list hl1 (wpAny_bind (wpAny_runValue ?_))
      have lS : l < s.heap.objs.size := Heap.lt_size hol
      have hh3 : A.in1.in1.in1.handled = none := by simp [hh]
      have off : l ≠ (s.heap.push (emptyS w)).objs.size := by
        rw [Heap.size_push]
        exact Nat.ne_of_lt (Nat.lt_succ_of_lt lS)
      have offS : s.heap.objs.size ∉ [(s.heap.push (emptyS w)).objs.size, l] := by
        rw [Heap.size_push]
        simp only [List.mem_cons, List.mem_singleton, List.not_mem_nil, or_false, not_or]
        exact ⟨Nat.ne_of_lt (Nat.lt_succ_self _), Nat.ne_of_gt lS⟩
      have val : ∀ (i : Nat) (v : Value), items[i]? = some v → ∃ p, ks[i]? = some p ∧ v = .ref p.1 := fun i v hv => by
        have z : items.toList[i]? = some v := by rw [Array.getElem?_toList]; exact hv
        rw [hit, List.getElem?_map] at z
        obtain ⟨p, e1, e2⟩ := Option.map_eq_some_iff.mp z
        exact ⟨p, e1, e2.symm⟩
      have fresh : ∀ b, s.heap.objs.size ≤ b → s.heap.get? b = none := fun b hb => by
        cases z : s.heap.get? b with
        | none => rfl
        | some o => exact absurd (Nat.lt_of_lt_of_le (Heap.lt_size z) hb) (Nat.lt_irrefl _)
      refine more_setM ((Walks.list hh3 _ l off items).toS) offS zn old val (fresh _ (Nat.le_refl _)) (fun b hb => fresh b (by
        rw [List.mem_singleton.mp hb, Heap.size_push]
        exact Nat.le_succ _)) hu items.size 0 _ _ (Nat.zero_add _) ⟨⟨_, Heap.get?_push_size _ rfl, rfl, rfl⟩, hl1.push _⟩ (fun b o e => Heap.get?_push_of_some _ (Heap.get?_push_of_some _ e)) ?_ ?_
      · exact ⟨[], #[], 0, _, setTR_fresh (Heap.get?_push_of_some _ hS), Got.zero ks⟩
      · intro s' hm far lt
        obtain ⟨h', g2, d', tk', os'⟩ := s'
        obtain rfl : g2 = s.gens := hm.gens
        obtain rfl : d' = s.drawn := hm.drawn
        obtain rfl : os' = s.os := hm.os
        show wpAny _ _ _ _ _ _
        refine wpAny_pure ?_
        show wpAny _ _ (ret Value.none) _ _ _
        rw [zn] at far
        exact wpAny_pure ⟨rfl, h', tk', rfl, far, lt⟩
    · match r₂, hr₂ with
      | .error e, hr₂ => exact hr₂
      | .ok (.ret r), hr₂ =>
        obtain ⟨rfl, h', tk, rfl, far, lt⟩ := hr₂
        repeat (any_goals (first | assumption | wp_step))
        exact q _ _ far lt
      | .ok .next, hr₂ => exact hr₂.elim
      | .ok .brk, hr₂ => exact hr₂.elim
      | .ok .cont, hr₂ => exact hr₂.elim
  | .ok .next, hr => exact hr.elim
  | .ok .brk, hr => exact hr.elim
  | .ok .cont, hr => exact hr.elim
end
/-- set(xs), xs a list of tuples of whole numbers, few of them unlike -/
def rSetM (K : PySem.W.Frag) (P : Program) (w : World) : List V → Hp → VK → Prop := fun xs H Q => ∃ (l : Addr) (ks : List (Addr × List Int)), xs = [V.ref l] ∧ SqL K H l (ks.map fun p => V.ref p.1) ∧ (∀ p ∈ ks, SqT K H p.1 (p.2.map V.int)) ∧ FewT ks ∧
  ∀ a L, H a = none → (∀ p ∈ L, p ∈ ks) → (∀ p ∈ ks, p.2 ∈ L.map (·.2)) → Q (.ref a) (upd H a (SetTO P w a L))
theorem cr_setM {X : Cx} (hc : X.calm = true) (hu : X.A.units + 64 < cLine) : CallR X (.type "set") (rSetM X.K X.prog X.w) := by
  intro pins s σ H xs us Q I r h
  obtain ⟨l, ks, rfl, hl, hk, hf, q⟩ := h
  rw [Vals.ref1 r]
  obtain ⟨its, rv, pl, hz⟩ := I.list hl
  refine call_setM (P := X.prog) (w := X.w) (ks := ks) (I.ok.hd hc) pl.isList (by simpa using refs_of_vals rv) ⟨hf, fun p hp => I.isT (hk p hp)⟩ (by omega) fun h' tk far keep => ?_
  obtain ⟨L, es, ep, t, tr, got⟩ := far
  exact ⟨.ref s.heap.objs.size, upd H s.heap.objs.size (SetTO X.prog X.w s.heap.objs.size L), I.laid (t' := tk) keep (Nat.le_refl _) (setTO_new tr.t0), rfl, q _ L (I.hok.fresh (Nat.le_refl _)) (fun p hp => List.mem_of_mem_take (got.sub p hp)) fun p hp => got.all p (by rw [List.take_length]; exact hp)⟩
end Kx
/-! where only tables move; a body whose code object is known -/
namespace Kx
open L2 PySem PySem.Spec PyProof.Rows
section
variable {P : Program} {w : World} {K : PySem.W.Frag} {mg : Str → Option Value} {base : Heap} {x qual : Str} {params : Arguments} {body : List Stmt} {scope : Scope} {dvs : List V} {kws : List (Str × V)} {f c : Addr} {fd : FuncData}
/-- a def's body, its code object known -/
theorem okGc {CX : CXT} {N ps : List Str} {k : Nat} {sp : Sp} (F : FunD K x qual params body scope dvs kws f fd) (hc : fd.code = .ref c) (S : FnScope N ps scope) (len : ∀ vs H Q E, sp vs H Q E → vs.length = ps.length)
    (hbody : ∀ (A : Around) (outer : List Env) (s : Shared) (H : Hp) (vs : List V) (Q : VK) (E : XK), Lone A → Room k (A.deeper (envOfC qual scope s.heap.objs.size f (.ref c))) → sp vs H Q E →
      ∃ t, PSs (cxOf CX P w K mg base N qual scope f (.ref c) A outer s H E) body t ∧ t { nx := fun _ H' => Q .non H', rt := Q } (start N vs) H) : FnG P w K mg base CX (k + 1) f fd ps sp := by
  obtain ⟨oc, od, dV, kV, doc, pm, an, cdv, ct, osl, rfl, lk, hcd, -, -⟩ := F.ex
  have hc : cdv = .ref c := hc
  subst hc
  exact ⟨len, fun A outer s H args us vs Q E hr lone e0 hb hv hs => LamX.run_ofS lk hcd S hr e0 hb hv (len _ _ _ _ hs) fun hr' => hbody A outer s H vs Q E lone hr' hs⟩
end
/-! ### where only tables move -/
section
variable {K : PySem.W.Frag} {H H' : Hp} {a : Addr} {xs : List V}
theorem ext_rd (e : LamX.ExtN H H') {u : HO} (n : ∀ ps, u ≠ .tbl ps) (h : Rd H a u) : Rd H' a u := h.elim (fun q => .inl (e _ _ q n)) fun ⟨z, q⟩ => .inr ⟨z, e _ _ q fun _ z => nomatch z⟩
theorem ext_sqT (e : LamX.ExtN H H') (h : SqT K H a xs) : SqT K H' a xs := h.imp (ext_rd e fun _ z => nomatch z) id
theorem ext_sqL (e : LamX.ExtN H H') (h : SqL K H a xs) : SqL K H' a xs := h.imp (ext_rd e fun _ z => nomatch z) id
theorem ext_sq (e : LamX.ExtN H H') (h : Sq K H a xs) : Sq K H' a xs := h.imp (ext_sqL e) (ext_sqT e)
theorem ext_of (e : Same H H') : LamX.ExtN H H' := fun b o q _ => e b o q
theorem ext_kn {v : V} (e : LamX.ExtN H H') (h : Kn K H v) : Kn K H' v := by
  cases h with
  | non => exact .non
  | bl b => exact .bl b
  | int i => exact .int i
  | str x => exact .str x
  | seq q => exact .seq (ext_sq e q)
theorem tabs_same {T : List (Addr × Str)} (t : LamX.Tabs T H) (e : Same H H') : LamX.Tabs T H' := t.ext e
/-- t == u, t != u: tuples of rows -/
def rRowsEq (K : PySem.W.Frag) (neg : Bool) : R2 := fun x y H Q => ∃ (xs ys : List (List Int)), Dp K H x (dRows xs) ∧ Dp K H y (dRows ys) ∧ Q (.bl (neg != decide (xs = ys))) H
theorem op_eqRows {X : Cx} (hu : X.A.units + 64 < cLine) : OpR X (compareOp .Eq) (rRowsEq X.K false) := by
  intro pins st σ H x y v u Q I rx ry ⟨xs, ys, h1, h2, q⟩
  refine op_eqD hu pins st σ H _ _ v u Q I rx ry ⟨_, _, h1, h2, shaped_rows xs, shaped_rows ys, ?_⟩
  simp only [PyData.eqv, eqv_rows]
  rwa [Bool.false_bne] at q
theorem op_neRows {X : Cx} (hu : X.A.units + 64 < cLine) : OpR X (compareOp .NotEq) (rRowsEq X.K true) := by
  intro pins st σ H x y v u Q I rx ry ⟨xs, ys, h1, h2, q⟩
  refine op_neD hu pins st σ H _ _ v u Q I rx ry ⟨_, _, h1, h2, shaped_rows xs, shaped_rows ys, ?_⟩
  simp only [PyData.eqv, eqv_rows]
  rwa [Bool.true_bne] at q
end
end Kx
/-! rules by K -/
namespace KJ
open L2 PySem PySem.Spec PyProof.Rows Kx RZ TL
theorem at_last {xs : List V} {v : V} {j : Nat} (h : xs[j]? = some v) (hl : xs.length = j + 1) : atI xs (-1) = some v := by
  have e : ixN xs.length (-1) = some j := by
    unfold ixN
    rw [hl, if_neg (by decide), if_pos (by omega)]
    congr 1
    omega
  unfold atI
  rw [e]
  exact h
theorem r1 {k : Nat} {X : Cx} (r : Room k X.A) : X.A.units + 1 < cLine := by have := r.un; omega
theorem ix_tupK {X : Cx} {K : PySem.W.Frag} (hK : X.K = K := by rfl) : IxR X (rIxT K) := by
  subst hK
  exact ix_tup
theorem getD_of {ts : List (List Int)} {d : Nat} {t : List Int} (h : ts[d]? = some t) : ts.getD d [] = t := by rw [List.getD_eq_getElem?_getD, h]; rfl
theorem pi_tupK {X : Cx} {K : PySem.W.Frag} {tg l : Expr} {tl : TE} (hl : PE X l tl) (hK : X.K = K := by rfl) : PI X tg l (iTup K tl) := by
  subst hK
  exact pi_tup hl
theorem pi_listK {X : Cx} {K : PySem.W.Frag} {tg l : Expr} {tl : TE} (hl : PE X l tl) (hK : X.K = K := by rfl) : PI X tg l (iList K tl) := by
  subst hK
  exact pi_list hl
theorem call_lenK {X : Cx} {K : PySem.W.Frag} (hK : X.K = K := by rfl) : CallR X (.builtin "len") (fun xs H Q => ∃ p ys, xs = [.ref p] ∧ (SqL K H p ys ∨ SqT K H p ys) ∧ Q (.int ys.length) H) := by
  subst hK
  exact call_len_seq
theorem call_tupleK {X : Cx} {K : PySem.W.Frag} (hK : X.K = K := by rfl) : CallR X (.type "tuple") (fun xs H Q => ∃ p ys, xs = [.ref p] ∧ ((SqL K H p ys ∧ ∀ l, H l = none → Q (.ref l) (upd H l (.tup ys))) ∨ (SqT K H p ys ∧ Q (.ref p) H))) := by
  subst hK
  exact call_tuple_of
theorem turns_zipM {K : PySem.W.Frag} {a b : Addr} {xs ys : List V} {Z : Hp → Prop} {H0 : Hp} {B : (Hp → Prop) → V → Hp → Prop} (hl : xs.length = ys.length) (Pv : Nat → Hp → Prop) (h0 : Pv 0 H0) (hq : ∀ i H, Pv i H → SqT K H a xs ∧ SqL K H b ys)
    (hs : ∀ (i : Nat) (x y : V) (T : Addr) (H : Hp), xs[i]? = some x → ys[i]? = some y → Pv i H → H T = none → B (Pv (i + 1)) (.ref T) (upd H T (.tup [x, y]))) (hd : ∀ H, Pv xs.length H → Z H) :
    ∃ W : Nat → Nat → Hp → Prop, (∃ m, W 0 m H0) ∧ ∀ i m H, W i m H → ((ItM K a b).stop i H ∧ Z H) ∨ ((ItM K a b).go i H ∧ ∃ Nx : Hp → Prop, (∀ H', Nx H' → ∃ m', m' < m ∧ W (i + 1) m' H') ∧ ∀ x H', (ItM K a b).yld i H x H' → B Nx x H') :=
  turns (n := xs.length) Pv h0 (fun i H lt p => by
    obtain ⟨q1, q2⟩ := hq i H p
    refine ⟨⟨xs, ys, _, _, q1, q2, List.getElem?_eq_getElem lt, List.getElem?_eq_getElem (by omega : i < ys.length)⟩, ?_⟩
    rintro v H3 ⟨T, x, y, rfl, hT, rfl, f1, f2⟩
    exact hs i x y T _ (f1 xs q1) (f2 ys q2) p hT) (fun H p => ⟨⟨xs, (hq _ H p).1, Nat.le_refl _⟩, hd H p⟩)
abbrev natV (l : List Nat) : List V := l.map fun c => V.int (c : Nat)
abbrev intO (l : List Nat) : List Int := l.map fun c => ((c : Nat) : Int)
theorem natV_int {l : List Nat} : natV l = (intO l).map V.int := by
  unfold natV intO
  rw [List.map_map]
  rfl
theorem intO_len {l : List Nat} : (intO l).length = l.length := List.length_map ..
theorem intO_at {l : List Nat} {d : Nat} : (intO l).getD d 0 = ((l.getD d 0 : Nat) : Int) := by
  unfold intO
  rw [List.getD_eq_getElem?_getD, List.getElem?_map, List.getD_eq_getElem?_getD]
  cases l[d]? <;> rfl
theorem ints_at {l : List Int} {d : Nat} (h : d < l.length) : atI (l.map V.int) ((d : Nat) : Int) = some (V.int (l.getD d 0)) := atI_nat (by rw [List.getElem?_map, getD_at h]; rfl)
theorem rng_srt {n : Nat} : (rng n).Pairwise (· < ·) := List.pairwise_map.mpr (List.pairwise_lt_range.imp fun h => Int.ofNat_lt.mpr h)
theorem cr_setMK {X : Cx} {K : PySem.W.Frag} (hc : X.calm = true) (hu : X.A.units + 64 < cLine) (hK : X.K = K := by rfl) : CallR X (.type "set") (rSetM K X.prog X.w) := by
  subst hK
  exact cr_setM hc hu
theorem cr_sortedK {X : Cx} {K : PySem.W.Frag} (hK : X.K = K := by rfl) : CallR X (.builtin "sorted") (rSorted K) := by
  subst hK
  exact cr_sorted
theorem pi_lt {X : Cx} {K : PySem.W.Frag} {tg l : Expr} {tl : TE} (hl : PE X l tl) (hK : X.K = K := by rfl) : PI X tg l (fun σ H R => iList K tl σ H R ∨ iTup K tl σ H R) := by
  subst hK
  exact ⟨fun pins s σ H R I h => h.elim ((pi_list hl).run pins s σ H R I) ((pi_tup hl).run pins s σ H R I)⟩
theorem call_isiK {X : Cx} {K : PySem.W.Frag} (hK : X.K = K := by rfl) : CallR X (.builtin "isinstance") (rIsi K) := by
  subst hK
  exact call_isi
theorem same_none {H H' : Hp} {p : Addr} (e : Same H H') (h : H' p = none) : H p = none := by
  cases hh : H p with
  | none => rfl
  | some o =>
    rw [e _ _ hh] at h
    cases h
theorem op_neDK {X : Cx} {K : PySem.W.Frag} (hu : X.A.units + 64 < cLine) (hK : X.K = K := by rfl) : OpR X (compareOp .NotEq) (rNeD K) := by
  subst hK
  exact op_neD hu
theorem op_eqDK {X : Cx} {K : PySem.W.Frag} (hu : X.A.units + 64 < cLine) (hK : X.K = K := by rfl) : OpR X (compareOp .Eq) (rEqD K) := by
  subst hK
  exact op_eqD hu
theorem op_timesK {X : Cx} {K : PySem.W.Frag} (hK : X.K = K := by rfl) : OpR X (binaryOp .Mult) (rTimes K) := by
  subst hK
  exact op_times
theorem rep_ints {k : Nat} {r : Int} : (List.replicate k [V.int r]).flatten = (List.replicate k r).map V.int := by
  rw [List.map_replicate, List.flatten_replicate_singleton]
theorem pe_fldK {X : Cx} {K : PySem.W.Frag} {e : Expr} {f : Str} {pos : Pos} {ta : TE} (he : PE X e ta) (hb : attributeBase e f X.env (eval e X.env) = eval e X.env) (hK : X.K = K := by rfl) : PE X (.Attribute e f pos) (tFld K ta f) := by
  subst hK
  exact pe_fld he hb
theorem rep_one {k : Nat} {v : V} : (List.replicate k [v]).flatten = List.replicate k v := by rw [List.flatten_replicate_singleton]
theorem ixN_at {n j : Nat} (hj : j < n) : ixN n (j : Int) = some j := by
  unfold ixN
  rw [if_pos (by omega), if_pos (by omega)]
  simp
theorem isi_tup {K : PySem.W.Frag} {H : Hp} {p : Addr} {xs : List V} {Q : VK} (h : SqT K H p xs) (q : Q (.bl true) H) : rIsi K [.ref p, .ty "tuple"] H Q := ⟨_, .ty "tuple", _, _, true, rfl, .ty _, tyx_tuple h, kit_ty (by decide +kernel), q⟩
theorem isi_int {K : PySem.W.Frag} {H : Hp} {i : Int} {Q : VK} (q : Q (.bl true) H) : rIsi K [.int i, .ty "int"] H Q := ⟨_, .ty "int", _, _, true, rfl, .ty _, .base (.int i), kit_ty (by decide +kernel), q⟩
theorem isi_nobool {K : PySem.W.Frag} {H : Hp} {i : Int} {Q : VK} (q : Q (.bl false) H) : rIsi K [.int i, .ty "bool"] H Q := ⟨_, .ty "bool", _, _, false, rfl, .ty _, .base (.int i), kit_ty (by decide +kernel), q⟩
theorem op_inK {X : Cx} {K : PySem.W.Frag} (hK : X.K = K := by rfl) : OpR X (compareOp .In) (rIn K false) := by
  subst hK
  exact op_in_seq
theorem ix_listK {X : Cx} {K : PySem.W.Frag} (hK : X.K = K := by rfl) : IxR X (rIxL K) := by
  subst hK
  exact ix_list
theorem okA_rows2 : ∀ {rs : List (List Int)}, (∀ r ∈ rs, r.length ≤ 8 ∧ ∀ n ∈ r, -1000000 ≤ n ∧ n ≤ 1000000) → OkA 1 (15402 * rs.length) (rs.map dNums)
  | [], _ => okA_nil
  | r :: rs, h => (okA_cons (okD_nums (h r List.mem_cons_self).2 (h r List.mem_cons_self).1) (okA_rows2 fun x hx => h x (List.mem_cons_of_mem _ hx))).mono (Nat.le_refl _) (by rw [List.length_cons]; omega)
theorem okD_rows2 {rs : List (List Int)} (h : ∀ r ∈ rs, r.length ≤ 8 ∧ ∀ n ∈ r, -1000000 ≤ n ∧ n ≤ 1000000) (l : rs.length ≤ 64) : OkD 2 1000000 (dRows rs) := (okD_tuple (okA_rows2 h)).mono (Nat.le_refl _) (by omega)
theorem pe_callC0 {X : Cx} {CX : CXT} {k j : Nat} {x : Str} {sp : Sp} {E : XK} {p pos : Pos} (c : Cal X.prog X.w X.K X.mg X.base CX k x [] sp) (hr : Room j X.A) (hx : Passes CX X E) (hk : k ≤ j := by decide) (hg : L2.Gl X x := by rfl) (hdb : (x == ("__debug__" : Str)) = false := by decide) : PE X (.Call (.Name x p) [] [] pos) (tCall sp [] E tNil) := by
  obtain ⟨f, fd, h1, h2, h3, h4⟩ := c.ex
  exact pe_call0 h4 (hr.mono hk) hg h1 h2 h3 .nil hx hdb
end KJ
/-! the program: pairs apart, rounds and rests -/
namespace KJ
open L2 PySem PySem.Spec PyProof.Rows Kx RZ TL
theorem pt_tr {X : Cx} {a : Expr} {ta : TE} (ha : PE X a ta) (he : ∀ whole, isTrue a X.env whole = (do let v ← whole; standAt a.pos; holding [v] (truthy v)) := by intro _; rfl) :
    PT X a (fun σ H Q => ta σ H fun x H' => ∃ k, TruV X.K x H' k ∧ Q k H') := pt_truth ha he
def rLcm : List V → Hp → VK → Prop := fun vs H Q => ∃ a b : Int, vs = [.int a, .int b] ∧ a.natAbs < 2 ^ 64 ∧ b.natAbs < 2 ^ 64 ∧ Q (.int ((Nat.lcm a.natAbs b.natAbs : Nat) : Int)) H
theorem cr_lcm {X : Cx} : CallR X (.builtin "math.lcm") rLcm := by
  intro pins s σ H vs us Q I r h
  obtain ⟨a, b, rfl, ha, hb, q⟩ := h
  obtain ⟨t, u, rfl⟩ := Vals.int2 r
  exact PySem.W.mc_lcm ha hb fun _ => ⟨.int _, H, I.tok _, ⟨_, rfl⟩, q⟩
/-- two tables lead alike, whichever comes first -/
def Alike (L : Int → Prop) (t u : List Int) : Prop := ∀ x, L x → tx u (tx t x) = tx t (tx u x)
theorem at_ts {ts : List (List Int)} {t : List Int} (h : t ∈ ts) : ∃ d, d < ts.length ∧ ts.getD d [] = t := by
  obtain ⟨d, hd⟩ := List.mem_iff_getElem?.mp h
  exact ⟨d, (List.getElem?_eq_some_iff.mp hd).1, by rw [List.getD_eq_getElem?_getD, hd]; rfl⟩
def spApart (K : PySem.W.Frag) (a : Ad) (CM : Addr) : Sp := fun vs H Q E => ∃ m n ts v, vs = [.ref m, v] ∧ McAt K CM H m n ts ∧ Kn K H v ∧ (isBel n v = false → Thrown E H a.cN "state" v) ∧
  (isBel n v = true → ∃ s, v = .int s ∧ ∀ (q : Addr) (us : List V) H', Same H H' → SqT K H' q us → (us = [] ↔ Cm (Rch ts s) ts) → Q (.ref q) H')
section
variable {P : Program} {w : World} {K : PySem.W.Frag} {mg : Str → Option Value} {base : Heap} {f : Addr} {fd : FuncData} {a : Ad} {CM : Addr}
theorem sc_apart : FnScope ["machine", "first", "come", "apart", "one", "other", "before", "later", "state"] ["machine", "first"] (defScope s_apart_pairs) := ⟨rfl, rfl, rfl, by decide +kernel, rfl, by decide +kernel, by decide +kernel⟩
theorem ok_apart (F : FnP K "apart_pairs" s_apart_pairs f fd) (T : Mg mg) (TM : ClsM K mg CM) (c_reached : Cal P w K mg base (L2N.CX P w) 6 "reached" ["machine", "first"] (spReached K a CM)) (c_pairs : Cal P w K mg base CX0 1 "deed_pairs" ["deeds"] (spPairs K)) :
    FnOk P w K mg base (L2N.CX P w) 7 f fd ["machine", "first"] (spApart K a CM) := by
  refine F.ok sc_apart (fun vs H Q E h => ?_) (fun cdv A outer s H vs Q E hr h => ?_)
  · obtain ⟨m, n, ts, v, rfl, _⟩ := h
    rfl
  · obtain ⟨m, n, ts, v, rfl, hm, hv, bad, good⟩ := h
    obtain ⟨ok, dx, t, ps, h1, h2, h3⟩ := id hm
    have l4 := ok.l4
    refine ⟨_, pss_cons (ps_set (i := 2) sc_apart.nd rfl (by first | exact Or.inl rfl | exact Or.inr rfl) (pe_callC c_reached hr (L2N.passes_call (E := E) (L2N.takes_of rfl rfl rfl rfl) (fun _ _ _ _ z => z)) (pa_cons (pv 0) (pa_cons (pv 1) pa_nil)))) (PSs.nox (pss_cons (ps_mid (ps_set (i := 3) sc_apart.nd rfl (by first | exact Or.inl rfl | exact Or.inr rfl) (pe_lst pa_nil))) (pss_cons (ps_mid (ps_for PassesOwn.never rfl (pi_list (pe_callC c_pairs hr pass0 (pa_cons (pe_fld (pv 0) rfl) pa_nil))) (pg_tup rfl (pgs_cons (pg_name (i := 4) sc_apart.nd rfl (by first | exact Or.inl rfl | exact Or.inr rfl)) (pgs_cons (pg_name (i := 5) sc_apart.nd rfl (by first | exact Or.inl rfl | exact Or.inr rfl)) pgs_nil)))
  (pss_cons (ps_asg (pe_tup (pa_cons (pe_ix (ix_tupK (K := K)) (pe_fld (pv 0) rfl) (pv 4) (fun _ _ => rfl)) (pa_cons (pe_ix (ix_tupK (K := K)) (pe_fld (pv 0) rfl) (pv 5) (fun _ _ => rfl)) pa_nil))) (pg_tup rfl (pgs_cons (pg_name (i := 6) sc_apart.nd rfl (by first | exact Or.inl rfl | exact Or.inr rfl)) (pgs_cons (pg_name (i := 7) sc_apart.nd rfl (by first | exact Or.inl rfl | exact Or.inr rfl)) pgs_nil))))
  (pss_one (ps_if (pt_tr (pe_lc (own := [("state", 8)]) (by rfl) sc_apart.nd (pi_tup (pv 2)) (blkOk_by (own := [("state", 8)]) (N := ["machine", "first", "come", "apart", "one", "other", "before", "later", "state"]) (sc := defScope s_apart_pairs) (by decide +kernel)) (fun _ _ _ _ _ => (pg_name (i := 8) sc_apart.nd rfl (by first | exact Or.inl rfl | exact Or.inr rfl))) (fun _ _ _ _ _ => (pts_one (pt_cmpR op_ne (pe_ix (ix_tupK (K := K)) (pv 7) (pe_ix (ix_tupK (K := K)) (pv 6) (pv 8) (fun _ _ => rfl)) (fun _ _ => rfl)) (pe_ix (ix_tupK (K := K)) (pv 6) (pe_ix (ix_tupK (K := K)) (pv 7) (pv 8) (fun _ _ => rfl)) (fun _ _ => rfl)) (nomark _)))) (fun _ _ _ _ _ => (pv 8))))
  (pss_one (ps_expr (pe_bm PySem.F.plainAttrs_list PySem.F.slot_list_append PySem.F.type_list_append mt_append (pv 3) (pa_cons (pe_tup (pa_cons (pv 4) (pa_cons (pv 5) pa_nil))) pa_nil))))
  pss_nil))))) (pss_one (ps_ret (pe_callTy (call_tupleK (K := K)) (by rfl) T.z_tuple (by decide +kernel) (pa_cons (pv 3) pa_nil))))))), ?_⟩
    refine ⟨_, rfl, _, rfl, m, n, ts, v, rfl, hm, hv, bad, fun eb => ?_⟩
    obtain ⟨s0, rfl, fin⟩ := good eb
    obtain ⟨s1, s2⟩ := isBel_iff.mp eb
    refine ⟨s0, rfl, fun p L H1 e1 srt mem hp => ?_⟩
    have inL : ∀ x, x ∈ L → 0 ≤ x ∧ x < (n : Int) := fun x hx => ok.rch s1 s2 ((mem x).mp hx)
    have lenL := len_le (srt.imp fun h => Int.ne_of_lt h) inL
    have n8 := ok.n8
    refine ⟨fun σ' H' => ∃ A : Addr, σ' = [some (.ref m), some (.int s0), some (.ref p), some (.ref A), none, none, none, none, none] ∧ Same H H' ∧ H A = none ∧ SqT K H' p (L.map V.int) ∧ H' A = some (.lst []), ?_, ?_⟩
    · refine ⟨(by show 0 ≤ sizeLine; decide), fun A hA => ⟨A, rfl, e1.trans (same_new hA), ?_, sqT_same (same_new hA) hp, upd_same⟩⟩
      cases z : H A with
      | none => rfl
      | some o => have := e1 _ _ z; rw [show H1 A = none from hA] at this; cases this
    rintro σ' H2 ⟨A, rfl, e2, nA, hp2, hA⟩
    refine ⟨fun σ' H' => ∃ (us : List V) (x4 x5 x6 x7 : Option V), σ' = [some (.ref m), some (.int s0), some (.ref p), some (.ref A), x4, x5, x6, x7, none] ∧ Same H H' ∧ H' A = some (.lst us) ∧ us.length ≤ 12 ∧ (us = [] ↔ ∀ i j : Nat, i < j → j < ts.length → Alike (fun x => x ∈ L) (ts.getD i []) (ts.getD j [])), ?_, ?_⟩
    · refine ⟨_, rfl, m, CM, dx, _, _, rfl, e2 _ _ h1, TM.cl, TM.n1, rfl, ts.length, rfl, l4, fun D H3 qs prs e3 nD hD rows pa => ?_⟩
      have lq := rows.length
      have fw := pa.few
      have AD : A ≠ D := fun z => by rw [z, nD] at hA; cases hA
      refine ⟨D, rfl, ⟨_, SqL.of hD⟩, ?_⟩
      refine for_list (K := K) (xs := qs) (fun i σ' H' => ∃ (us : List V) (x4 x5 x6 x7 : Option V), σ' = [some (.ref m), some (.int s0), some (.ref p), some (.ref A), x4, x5, x6, x7, none] ∧ Same H H' ∧ H' D = some (.lst qs) ∧ RowsBy (SqT K H') qs prs ∧ SqT K H' p (L.map V.int) ∧ H' A = some (.lst us) ∧ us.length ≤ i ∧ (us = [] ↔ ∀ pr ∈ prs.take i, ∀ i j : Nat, pr = [(i : Int), (j : Int)] → Alike (fun x => x ∈ L) (ts.getD i []) (ts.getD j []))) ⟨[], _, _, _, _, rfl, e2.trans e3, hD, rows, sqT_same e3 hp2, e3 _ _ hA, Nat.le_refl _, by simp⟩ (fun i σ' H' _ q => by
        obtain ⟨_, _, _, _, _, _, _, q, _⟩ := q
        exact SqL.of q) ?_ ?_
      · rintro i q σ' H4 hq ⟨us, x4, x5, x6, x7, rfl, e4, hD4, rows4, hp4, hA4, lu, iff⟩
        have hi : i < prs.length := by rw [← lq]; exact (List.getElem?_eq_some_iff.mp hq).1
        have pi : prs[i]? = some prs[i] := List.getElem?_eq_getElem hi
        obtain ⟨w0, w1, w2⟩ := rows4.at_ pi
        rw [hq] at w1
        cases w1
        obtain ⟨x, y, exy, xy, yk⟩ := pa.are _ (List.mem_of_getElem? pi)
        generalize prs[i] = pr at pi w2 exy
        subst exy
        obtain ⟨qx, qx1, qx2⟩ := h3.at_ (i := x) (t := ts[x]) (List.getElem?_eq_getElem (by omega))
        obtain ⟨qy, qy1, qy2⟩ := h3.at_ (i := y) (t := ts[y]) (List.getElem?_eq_getElem (by omega))
        have gx : ts.getD x [] = ts[x] := by rw [List.getD_eq_getElem?_getD, List.getElem?_eq_getElem (by omega)]; rfl
        have gy : ts.getD y [] = ts[y] := by rw [List.getD_eq_getElem?_getD, List.getElem?_eq_getElem (by omega)]; rfl
        have tlx := ok.len _ (List.getElem_mem (show x < ts.length by omega))
        have tly := ok.len _ (List.getElem_mem (show y < ts.length by omega))
        have irx : InR ts[x] := fun z hz => by rw [tlx]; exact ok.ent _ (List.getElem_mem _) z hz
        have iry : InR ts[y] := fun z hz => by rw [tly]; exact ok.ent _ (List.getElem_mem _) z hz
        generalize ts[x] = tX at qx2 gx tlx irx
        generalize ts[y] = tY at qy2 gy tly iry
        refine ⟨_, _, rfl, w2, rfl, _, _, rfl, _, _, rfl, rfl, ?_⟩
        refine ⟨_, rfl, m, CM, dx, _, _, rfl, e4 _ _ h1, TM.cl, TM.n3, rfl, _, rfl, t, ps, _, _, rfl, rfl, sqT_same e4 h2, atI_nat qx1, ?_⟩
        refine ⟨_, rfl, m, CM, dx, _, _, rfl, e4 _ _ h1, TM.cl, TM.n3, rfl, _, rfl, t, ps, _, _, rfl, rfl, sqT_same e4 h2, atI_nat qy1, ?_⟩
        refine ⟨(by show 2 ≤ sizeLine; decide), fun pt hpt => ?_⟩
        have e5 := same_new (o := HO.tup [.ref qx, .ref qy]) hpt
        have u5 : SqT K (upd H4 pt (HO.tup [.ref qx, .ref qy])) pt [.ref qx, .ref qy] := SqT.of upd_same
        generalize upd H4 pt (HO.tup [.ref qx, .ref qy]) = H5 at e5 u5 ⊢
        refine ⟨pt, _, rfl, u5, rfl, _, _, rfl, _, _, rfl, rfl, ?_⟩
        have e45 := e4.trans e5
        have gx2 := sqT_same e45 qx2
        have gy2 := sqT_same e45 qy2
        have hp5 := sqT_same e5 hp4
        have hA5 := e5 _ _ hA4
        refine ⟨_, rfl, p, rfl, ⟨_, hp5⟩, fun Dl hDl => ?_⟩
        have nDl : Dl ≠ A := fun z => by rw [z, show H5 A = _ from hA5] at hDl; cases hDl
        refine lc_tup (xs := L.map V.int) (fun j H' => Same H5 H' ∧ H' Dl = some (.lst (((L.take j).filter fun x => decide (tx tY (tx tX x) ≠ tx tX (tx tY x))).map V.int))) ⟨same_new hDl, upd_same⟩ (fun j H' _ z => sqT_same z.1 hp5) ?_ ?_
        · rintro j v H6 hv ⟨e6, h6⟩
          rw [List.getElem?_map] at hv
          obtain ⟨z, hz, rfl⟩ := Option.map_eq_some_iff.mp hv
          have zb := inL z (List.mem_of_getElem? hz)
          obtain ⟨a1, a2, a3⟩ := irx.at_ zb.1 (by rw [tlx]; exact zb.2)
          obtain ⟨b1, b2, b3⟩ := iry.at_ zb.1 (by rw [tly]; exact zb.2)
          obtain ⟨c1, _, _⟩ := iry.at_ a2 (by rw [tly]; rw [tlx] at a3; exact a3)
          obtain ⟨d1, _, _⟩ := irx.at_ b2 (by rw [tlx]; rw [tly] at b3; exact b3)
          have g6x := sqT_same e6 gx2
          have g6y := sqT_same e6 gy2
          have tk : L.take (j + 1) = L.take j ++ [z] := by rw [List.take_add_one, hz]; rfl
          refine ⟨rfl, ?_⟩
          refine ⟨_, rfl, _, rfl, _, rfl, qx, _, _, _, rfl, rfl, g6x, at_int zb.1 a1, ?_⟩
          refine ⟨qy, _, _, _, rfl, rfl, g6y, at_int a2 c1, ?_⟩
          refine ⟨_, rfl, _, rfl, _, rfl, qy, _, _, _, rfl, rfl, g6y, at_int zb.1 b1, ?_⟩
          refine ⟨qx, _, _, _, rfl, rfl, g6x, at_int b2 d1, ?_⟩
          have l8 : ((L.take j).filter fun x => decide (tx tY (tx tX x) ≠ tx tX (tx tY x))).length ≤ 8 := Nat.le_trans (List.length_filter_le _ _) (by rw [List.length_take]; omega)
          refine ⟨rfl, _, rfl, ite2 (fun h => ?_) (fun h => ?_)⟩
          · have ne : tx tY (tx tX z) ≠ tx tX (tx tY z) := by simpa using h
            refine ⟨_, rfl, _, h6, by rw [List.length_map, sizeLine_eq]; omega, same_put e6 hDl, ?_⟩
            rw [upd_same, tk, List.filter_append, List.map_append, List.filter_cons_of_pos (by simpa using ne)]
            rfl
          · have eq : tx tY (tx tX z) = tx tX (tx tY z) := by simpa using h
            refine ⟨e6, ?_⟩
            rw [h6, tk, List.filter_append, List.filter_cons_of_neg (by simpa using eq), List.filter_nil, List.append_nil]
        · rintro H6 ⟨e6, h6⟩
          rw [List.length_map, List.take_length] at h6
          have e46 := e45.trans e6
          have tkp : prs.take (i + 1) = prs.take i ++ [[(x : Int), (y : Int)]] := by rw [List.take_add_one, pi]; rfl
          have last : ∀ {us' : List V} {b : Bool}, (us' = [] ↔ us = [] ∧ Alike (fun x => x ∈ L) tX tY) → (us' = [] ↔ ∀ pr ∈ prs.take (i + 1), ∀ i j : Nat, pr = [(i : Int), (j : Int)] → Alike (fun x => x ∈ L) (ts.getD i []) (ts.getD j [])) := fun {us' b} h => by
            rw [h, iff, tkp]
            constructor
            · rintro ⟨h1, h2⟩ pr hpr i' j' epr
              rcases List.mem_append.mp hpr with hpr | hpr
              · exact h1 pr hpr i' j' epr
              · rw [List.mem_singleton.mp hpr] at epr
                injection epr with q1 q2
                injection q2 with q2 _
                have q1 : x = i' := by omega
                have q2 : y = j' := by omega
                rw [← q1, ← q2, gx, gy]
                exact h2
            · intro h1
              refine ⟨fun pr hpr => h1 pr (List.mem_append_left _ hpr), ?_⟩
              have := h1 _ (List.mem_append_right _ (List.mem_singleton.mpr rfl)) x y rfl
              rwa [gx, gy] at this
          refine ⟨_, .inl ⟨_, SqL.of h6, rfl⟩, ?_⟩
          by_cases al : Alike (fun x => x ∈ L) tX tY
          · have fe : (L.filter fun x => decide (tx tY (tx tX x) ≠ tx tX (tx tY x))) = [] := List.filter_eq_nil_iff.mpr fun z hz h => by
              have := al z hz
              simp [this] at h
            rw [fe]
            refine iteF ⟨us, _, _, _, _, rfl, e46, e6 _ _ (e5 _ _ hD4), rows4.imp fun _ _ z => sqT_same (e5.trans e6) z, sqT_same e6 hp5, e6 _ _ hA5, by omega, last (b := true) ?_⟩
            exact ⟨fun z => ⟨z, al⟩, fun z => z.1⟩
          · have fe : (!((L.filter fun x => decide (tx tY (tx tX x) ≠ tx tX (tx tY x))).map V.int).isEmpty) = true := by
              cases hf : (L.filter fun x => decide (tx tY (tx tX x) ≠ tx tX (tx tY x))) with
              | cons _ _ => rfl
              | nil =>
                exfalso
                refine al fun z hz => Classical.byContradiction fun ne => ?_
                exact List.filter_eq_nil_iff.mp hf z hz (by simpa using ne)
            rw [fe]
            refine iteT ?_
            refine ⟨_, rfl, .inl ⟨rfl, _, SqL.of (e6 _ _ hA5)⟩, _, rfl, _, rfl, (by show 2 ≤ sizeLine; decide), fun tp htp => ?_⟩
            have e7 := same_new (o := HO.tup [.int (x : Nat), .int (y : Nat)]) htp
            have hA7 := e7 _ _ (e6 _ _ hA5)
            generalize upd H6 tp (HO.tup [.int (x : Nat), .int (y : Nat)]) = H7 at e7 hA7 ⊢
            have e47 := e46.trans e7
            have e57 := e6.trans e7
            refine ⟨A, _, _, rfl, rfl, hA7, by rw [sizeLine_eq]; omega, ?_⟩
            have ke : Same H (upd H7 A (HO.lst (us ++ [V.ref tp]))) := same_put e47 nA
            refine ⟨us ++ [V.ref tp], _, _, _, _, rfl, ke, ?_, ?_, ?_, upd_same, by rw [List.length_append, List.length_singleton]; omega, last (b := false) ⟨fun z => by simp at z, fun z => absurd z.2 al⟩⟩
            · rw [upd_ne (Ne.symm AD)]
              exact e57 _ _ (e5 _ _ hD4)
            · exact rows4.imp fun _ _ z => sqT_lst hA7 (sqT_same (e5.trans e57) z)
            · exact sqT_lst hA7 (sqT_same e57 hp5)
      · rintro σ' H4 ⟨us, x4, x5, x6, x7, rfl, e4, hD4, rows4, hp4, hA4, lu, iff⟩
        refine ⟨us, x4, x5, x6, x7, rfl, e4, hA4, by omega, iff.trans ⟨fun h i j ij jk => ?_, fun h pr hpr i j epr => ?_⟩⟩
        · rw [lq, List.take_length] at h
          exact h _ (pa.all i j ij jk) i j rfl
        · rw [lq, List.take_length] at hpr
          obtain ⟨i', j', e, l1, l2⟩ := pa.are _ hpr
          rw [epr] at e
          injection e with e1 e2
          injection e2 with e2 _
          exact h i j (by omega) (by omega)
    rintro σ' H3 ⟨us, x4, x5, x6, x7, rfl, e3, hA3, lu, iff⟩
    refine ⟨_, rfl, A, us, rfl, .inl ⟨SqL.of hA3, fun r hr => ?_⟩⟩
    refine fin r us _ (e3.trans (same_new hr)) (SqT.of upd_same) (iff.trans ⟨fun h => ⟨fun t ht x hx => ?_, fun t ht u hu x hx => ?_⟩, fun h i j ij jk x hx => ?_⟩)
    · obtain ⟨d, hd, rfl⟩ := at_ts ht
      exact hx.step hd
    · obtain ⟨i, hi, rfl⟩ := at_ts ht
      obtain ⟨j, hj, rfl⟩ := at_ts hu
      rcases Nat.lt_trichotomy i j with l | l | l
      · exact (h i j l hj x ((mem x).mpr hx)).symm
      · rw [l]
      · exact h j i l hi x ((mem x).mpr hx)
    · exact h.comm _ (getD_mem jk) _ (getD_mem (by omega)) x ((mem x).mp hx)
end
end KJ
/-! the program: rounds and rests of a table -/
namespace KJ
open L2 PySem PySem.Spec PyProof.Rows Kx RZ TL
def spRR (K : PySem.W.Frag) : Sp := fun vs H Q _ => ∃ (q p : Addr) (t : List Int) (xs : List Int) (n : Nat), vs = [.ref q, .ref p] ∧ SqT K H q (t.map V.int) ∧ SqT K H p (xs.map V.int) ∧ t.length = n ∧ n ≤ 8 ∧ InR t ∧ (∀ x ∈ xs, 0 ≤ x ∧ x < (n : Int)) ∧
  ∀ (u : Addr) (r e : Nat) H', Same H H' → SqT K H' u [.int (r : Nat), .int (e : Nat)] → RR0 t xs r e → Q (.ref u) H'
/-- what is told of a machine: rounds and rests, or none -/
structure LeastAt (K : PySem.W.Frag) (H : Hp) (u : Addr) (n : Nat) (ts : List (List Int)) (s : Int) (rs es : List Nat) : Prop where
  at_ : ∃ p q : Addr, SqT K H u [.ref p, .ref q] ∧ SqT K H p (natV rs) ∧ SqT K H q (natV es)
  lr : rs.length = ts.length
  le : es.length = ts.length
  rr : ∀ d, d < ts.length → RR (Rch ts s) (ts.getD d []) (rs.getD d 0) (es.getD d 0) ∧ rs.getD d 0 ≤ len8 n ∧ es.getD d 0 + 1 ≤ n
def spLeastA (K : PySem.W.Frag) (a : Ad) (CM : Addr) : Sp := fun vs H Q E => ∃ m n ts v, vs = [.ref m, v] ∧ McAt K CM H m n ts ∧ Kn K H v ∧ (isBel n v = false → Thrown E H a.cN "state" v) ∧
  (isBel n v = true → ∃ s, v = .int s ∧ (¬ Cm (Rch ts s) ts → ∀ H', Same H H' → Q .non H') ∧ (Cm (Rch ts s) ts → ∀ (u : Addr) (rs es : List Nat) H', Same H H' → LeastAt K H' u n ts s rs es → Q (.ref u) H'))
theorem dvd840 {c : Nat} (c1 : 1 ≤ c) (c8 : c ≤ 8) : c ∣ 840 := by
  have : c = 1 ∨ c = 2 ∨ c = 3 ∨ c = 4 ∨ c = 5 ∨ c = 6 ∨ c = 7 ∨ c = 8 := by omega
  rcases this with rfl | rfl | rfl | rfl | rfl | rfl | rfl | rfl <;> decide
theorem inj_len {t : List Int} {x : Int} {n m : Nat} (b : ∀ k, 0 ≤ it t k x ∧ it t k x < (n : Int)) (ne : ∀ i j, i < j → j < m → it t i x ≠ it t j x) : m ≤ n := by
  have := nodup_le (F := (List.range m).map fun i => it t i x) (L := rng n) (List.pairwise_map.mpr (List.pairwise_lt_range.imp_of_mem fun {i j} hi hj lt => ne i j lt (List.mem_range.mp hj))) fun y hy => by
    obtain ⟨i, _, rfl⟩ := List.mem_map.mp hy
    exact mem_rng.mpr (b i)
  rwa [List.length_map, List.length_range, rng_len] at this
section
variable {P : Program} {w : World} {K : PySem.W.Frag} {mg : Str → Option Value} {base : Heap} {f : Addr} {fd : FuncData} {a : Ad} {CM : Addr}
theorem sc_rr : FnScope ["table", "states", "turn", "rest", "state", "way", "ahead"] ["table", "states"] (defScope s_round_and_rest) := ⟨rfl, rfl, rfl, by decide +kernel, rfl, by decide +kernel, by decide +kernel⟩
theorem ok_rr (F : FnP K "_round_and_rest" s_round_and_rest f fd) (T : Mg mg) (g_lcm : mg "lcm" = some (.builtin "math.lcm")) : FnOk P w K mg base CX0 1 f fd ["table", "states"] (spRR K) := by
  refine F.ok sc_rr (fun vs H Q E h => ?_) (fun cdv A outer s H vs Q E hr h => ?_)
  · obtain ⟨q, p, t, xs, n, rfl, _⟩ := h
    rfl
  · obtain ⟨q, p, t, xs, n, rfl, hq, hp, tl, n8, ir, bx, fin⟩ := h
    refine ⟨_, PSs.nox (pss_cons (ps_mid (ps_asg (pe_tup (pa_cons pe_int (pa_cons pe_int pa_nil))) (pg_tup rfl (pgs_cons (pg_name (i := 2) sc_rr.nd rfl (by first | exact Or.inl rfl | exact Or.inr rfl)) (pgs_cons (pg_name (i := 3) sc_rr.nd rfl (by first | exact Or.inl rfl | exact Or.inr rfl)) pgs_nil))))) (pss_cons (ps_mid (ps_for PassesOwn.never rfl (pi_tup (pv 1)) (pg_name (i := 4) sc_rr.nd rfl (by first | exact Or.inl rfl | exact Or.inr rfl))
  (pss_cons (ps_set (i := 5) sc_rr.nd rfl (by first | exact Or.inl rfl | exact Or.inr rfl) (pe_lst (pa_cons (pv 4) pa_nil)))
  (pss_cons (ps_while PassesOwn.never (pt_cmpR op_notIn_seq (pe_ix (ix_tupK (K := K)) (pv 0) (pe_ix ix_list (pv 5) (pe_un un_neg pe_int) (fun _ _ => rfl)) (fun _ _ => rfl)) (pv 5) (by rfl))
  (pss_one (ps_expr (pe_bm PySem.F.plainAttrs_list PySem.F.slot_list_append PySem.F.type_list_append mt_append (pv 5) (pa_cons (pe_ix (ix_tupK (K := K)) (pv 0) (pe_ix ix_list (pv 5) (pe_un un_neg pe_int) (fun _ _ => rfl)) (fun _ _ => rfl)) pa_nil)))))
  (pss_cons (ps_set (i := 6) sc_rr.nd rfl (by first | exact Or.inl rfl | exact Or.inr rfl) (pe_bm PySem.F.plainAttrs_list PySem.F.slot_list_index PySem.F.type_list_index mt_index (pv 5) (pa_cons (pe_ix ix_tup (pv 0) (pe_ix ix_list (pv 5) (pe_un un_neg pe_int) (fun _ _ => rfl)) (fun _ _ => rfl)) pa_nil)))
  (pss_one (ps_par (i := 2) (j := 3) (by rfl) sc_rr.nd rfl rfl (by decide) rfl rfl (pa_cons (pe_callBfun cr_lcm (by rfl) g_lcm (pa_cons (pv 2) (pa_cons (pe_op op_sub (pe_callB call_len_seq (by rfl) T.z_len PySem.boot_len (pa_cons (pv 5) pa_nil)) (pv 6)) pa_nil))) (pa_cons (pe_callB (call_max2 rfl) (by rfl) T.z_max (by decide +kernel) (pa_cons (pv 3) (pa_cons (pv 6) pa_nil))) pa_nil)) (by rfl)))))))) (pss_one (ps_ret (pe_tup (pa_cons (pv 2) (pa_cons (pv 3) pa_nil))))))), ?_⟩
    have r840 : ∀ {zs : List Int} {r e : Nat}, (∀ x ∈ zs, x ∈ xs) → RR0 t zs r e → 1 ≤ r ∧ r ≤ 840 ∧ e ≤ 8 := fun {zs r e} sub h => by
      have b : ∀ x ∈ zs, ∀ a c, Tc t x a c → a + c ≤ n := fun x hx a c g => inj_len (fun k => by have := ir.it_in (bx x (sub x hx)).1 (by rw [tl]; exact (bx x (sub x hx)).2) k; rw [tl] at this; exact this) g.ne
      refine ⟨h.r1, Nat.le_of_dvd (by decide) (h.least 840 fun x hx a c g => ?_), ?_⟩
      · have := b x hx a c g
        exact dvd840 g.c1 (by omega)
      · rcases h.some_ with z | ⟨x, hx, c, g⟩
        · omega
        · have := b x hx _ _ g
          omega
    refine ⟨fun σ' H' => σ' = [some (.ref q), some (.ref p), some (.int ((1 : Nat) : Int)), some (.int ((0 : Nat) : Int)), none, none, none] ∧ Same H H', ?_, ?_⟩
    · refine ⟨(by show 2 ≤ sizeLine; decide), fun u hu => ?_⟩
      exact ⟨u, _, rfl, SqT.of upd_same, rfl, _, _, rfl, _, _, rfl, rfl, rfl, same_new hu⟩
    rintro σ' H1 ⟨rfl, e1⟩
    have hq := sqT_same e1 hq
    have hp := sqT_same e1 hp
    have fin := fun u r e H' (e2 : Same H1 H') => fin u r e H' (e1.trans e2)
    refine ⟨fun σ' H' => ∃ (r e : Nat) (x4 x5 x6 : Option V), σ' = [some (.ref q), some (.ref p), some (.int (r : Nat)), some (.int (e : Nat)), x4, x5, x6] ∧ Same H1 H' ∧ RR0 t xs r e, ?_, ?_⟩
    · refine ⟨_, rfl, p, rfl, ⟨_, hp⟩, ?_⟩
      refine for_tup (K := K) (xs := xs.map V.int) (fun i σ' H' => ∃ (r e : Nat) (x4 x5 x6 : Option V), σ' = [some (.ref q), some (.ref p), some (.int (r : Nat)), some (.int (e : Nat)), x4, x5, x6] ∧ Same H1 H' ∧ RR0 t (xs.take i) r e) ⟨1, 0, _, _, _, rfl, .refl _, .zero⟩ (fun i σ' H' _ z => by
        obtain ⟨_, _, _, _, _, _, z, _⟩ := z
        exact sqT_same z hp) ?_ ?_
      · rintro i v σ' H2 hv ⟨r, e, x4, x5, x6, rfl, e2, rr⟩
        rw [List.getElem?_map] at hv
        obtain ⟨x, hx, rfl⟩ := Option.map_eq_some_iff.mp hv
        have xb := bx x (List.mem_of_getElem? hx)
        have x1 : x < (t.length : Int) := by rw [tl]; exact xb.2
        have tk : xs.take (i + 1) = xs.take i ++ [x] := by rw [List.take_add_one, hx]; rfl
        have rb := r840 (fun y hy => List.mem_of_mem_take hy) rr
        have itb : ∀ k, 0 ≤ it t k x ∧ it t k x < (n : Int) := fun k => by have := ir.it_in xb.1 x1 k; rw [tl] at this; exact this
        refine ⟨_, rfl, (by show 1 ≤ sizeLine; decide), fun l hl => ?_⟩
        have e3 := same_new (o := HO.lst [V.int x]) hl
        have u3 : upd H2 l (HO.lst [V.int x]) l = some (.lst ((orb t x 1).map V.int)) := upd_same
        generalize upd H2 l (HO.lst [V.int x]) = H3 at e3 u3 ⊢
        refine ⟨fun k σ' H' => ∃ j : Nat, k = n - (j + 1) ∧ (∀ i j', i < j' → j' < j + 1 → it t i x ≠ it t j' x) ∧ σ' = [some (.ref q), some (.ref p), some (.int (r : Nat)), some (.int (e : Nat)), some (.int x), some (.ref l), x6] ∧ Same H2 H' ∧ H' l = some (.lst ((orb t x (j + 1)).map V.int)), ⟨n - 1, 0, rfl, (fun i j' h1 h2 => by omega), rfl, e3, u3⟩, ?_⟩
        rintro k' σ' H' ⟨j, rfl, ne, rfl, e4, hl'⟩
        have jn := inj_len itb ne
        have lo : ((orb t x (j + 1)).map V.int).length = j + 1 := by rw [List.length_map, orb_len]
        have la : atI ((orb t x (j + 1)).map V.int) (-1) = some (.int (it t j x)) := at_last (j := j) (by rw [List.getElem?_map, orb_at (by omega)]; rfl) lo
        have inr := ir.it_in xb.1 x1 j
        obtain ⟨g1, g2, g3⟩ := ir.at_ inr.1 inr.2
        have lb : atI (t.map V.int) (it t j x) = some (.int (it t (j + 1) x)) := at_int inr.1 g1
        have e24 := e2.trans e4
        have inO : ∀ y, y ∈ orb t x (j + 1) ↔ ∃ i, i < j + 1 ∧ it t i x = y := fun y => by
          unfold orb
          rw [List.mem_map]
          exact ⟨fun ⟨i, h1, h2⟩ => ⟨i, List.mem_range.mp h1, h2⟩, fun ⟨i, h1, h2⟩ => ⟨i, List.mem_range.mpr h1, h2⟩⟩
        refine ⟨_, rfl, _, rfl, _, rfl, l, _, _, _, rfl, rfl, SqL.of hl', la, q, _, _, _, rfl, rfl, sqT_same e24 hq, lb, ?_⟩
        refine ⟨_, rfl, l, _, rfl, .inl (SqL.of hl'), rfl, flat_nums, _, rfl, ?_⟩
        rw [if_pos rfl, inV_nums]
        refine ite2 (fun no => ?_) (fun yes => ?_)
        · have no : it t (j + 1) x ∉ orb t x (j + 1) := by simpa using no
          have ne2 : ∀ i j', i < j' → j' < j + 1 + 1 → it t i x ≠ it t j' x := fun i j' h1 h2 => by
            by_cases z : j' < j + 1
            · exact ne i j' h1 z
            · have : j' = j + 1 := by omega
              subst this
              exact fun z => no ((inO _).mpr ⟨i, h1, z⟩)
          have jn2 := inj_len itb ne2
          refine ⟨fun σ2 H3 => σ2 = [some (.ref q), some (.ref p), some (.int (r : Nat)), some (.int (e : Nat)), some (.int x), some (.ref l), x6] ∧ Same H2 H3 ∧ H3 l = some (.lst ((orb t x (j + 1 + 1)).map V.int)), ?_, ?_⟩
          · rintro σ2 H3 ⟨rfl, e5, h5⟩
            exact ⟨n - (j + 1 + 1), by omega, j + 1, rfl, ne2, rfl, e5, h5⟩
          · refine ⟨_, rfl, .inl ⟨rfl, _, SqL.of hl'⟩, _, rfl, _, rfl, _, rfl, l, _, _, _, rfl, rfl, SqL.of hl', la, q, _, _, _, rfl, rfl, sqT_same e24 hq, lb, ?_⟩
            refine ⟨l, _, _, rfl, rfl, hl', by rw [lo, sizeLine_eq]; omega, rfl, same_put e4 hl, ?_⟩
            rw [upd_same, orb_more (c := j + 1), List.map_append, List.map_singleton]
        · have yes : it t (j + 1) x ∈ orb t x (j + 1) := Decidable.not_not.mp (by simpa using yes)
          obtain ⟨b, b1, b2⟩ := (inO _).mp yes
          have tc : Tc t x b (j + 1 - b) := ⟨by omega, by rw [show b + (j + 1 - b) = j + 1 by omega]; exact b2.symm, fun i j' h1 h2 => ne i j' h1 (by omega)⟩
          refine ⟨_, rfl, .inl ⟨rfl, _, SqL.of hl'⟩, _, rfl, _, rfl, _, rfl, l, _, _, _, rfl, rfl, SqL.of hl', la, q, _, _, _, rfl, rfl, sqT_same e24 hq, lb, ?_⟩
          refine ⟨l, _, _, b, _, rfl, rfl, SqL.of hl', rfl, flat_nums, (by rw [List.getElem?_map, orb_at b1]; rfl), (by show decide (it t b x = it t (j + 1) x) = true; exact decide_eq_true b2), fun m z' hm hz => ?_, ?_⟩
          · rw [List.getElem?_map, orb_at (by omega)] at hz
            cases hz
            show decide (it t m x = it t (j + 1) x) = false
            refine decide_eq_false fun z => ne m b hm b1 (z.trans b2.symm)
          refine ⟨_, rfl, _, rfl, l, _, rfl, .inl (SqL.of hl'), _, rfl, _, _, rfl, rfl, _, _, rfl, ?_, ?_, ?_⟩
          · omega
          · rw [lo]
            omega
          refine ⟨_, rfl, _, rfl, _, _, rfl, _, _, rfl, ?_⟩
          refine ⟨Nat.lcm r (j + 1 - b), max e b, some (.int x), some (.ref l), some (.int (b : Nat)), ?_, e24, ?_⟩
          · rw [lo]
            rw [show ((r : Nat) : Int).natAbs = r by omega, show (((j + 1 : Nat) : Int) - (b : Nat)).natAbs = j + 1 - b by omega]
            rw [show (if ((b : Nat) : Int) > ((e : Nat) : Int) then ((b : Nat) : Int) else ((e : Nat) : Int)) = ((max e b : Nat) : Int) by split <;> omega]
            rfl
          · rw [tk]
            exact rr.step tc
      · rintro σ' H2 ⟨r, e, x4, x5, x6, rfl, e2, rr⟩
        rw [List.length_map, List.take_length] at rr
        exact ⟨r, e, x4, x5, x6, rfl, e2, rr⟩
    rintro σ' H2 ⟨r, e, x4, x5, x6, rfl, e2, rr⟩
    refine ⟨_, rfl, _, rfl, (by show 2 ≤ sizeLine; decide), fun u hu => ?_⟩
    exact fin u r e _ (e2.trans (same_new hu)) (SqT.of upd_same) rr
end
end KJ
/-! the program: the least counters that tell alone -/
namespace KJ
open L2 PySem PySem.Spec PyProof.Rows Kx RZ TL
abbrev wayR (z : Nat × Nat) : List Int := [(z.1 : Int), (z.2 : Int)]
section
variable {P : Program} {w : World} {K : PySem.W.Frag} {mg : Str → Option Value} {base : Heap} {f : Addr} {fd : FuncData} {a : Ad} {CM : Addr}
theorem sc_least : FnScope ["machine", "first", "ways", "table", "turn", "_", "rest"] ["machine", "first"] (defScope s_least_alone) := ⟨rfl, rfl, rfl, by decide +kernel, rfl, by decide +kernel, by decide +kernel⟩
theorem ok_least (F : FnP K "least_alone" s_least_alone f fd) (T : Mg mg) (TM : ClsM K mg CM) (c_reached : Cal P w K mg base (L2N.CX P w) 6 "reached" ["machine", "first"] (spReached K a CM)) (c_apart : Cal P w K mg base (L2N.CX P w) 7 "apart_pairs" ["machine", "first"] (spApart K a CM)) (c_rr : Cal P w K mg base CX0 1 "_round_and_rest" ["table", "states"] (spRR K)) :
    FnOk P w K mg base (L2N.CX P w) 8 f fd ["machine", "first"] (spLeastA K a CM) := by
  refine F.ok sc_least (fun vs H Q E h => ?_) (fun cdv A outer s H vs Q E hr h => ?_)
  · obtain ⟨m, n, ts, v, rfl, _⟩ := h
    rfl
  · obtain ⟨m, n, ts, v, rfl, hm, hv, bad, good⟩ := h
    obtain ⟨ok, dx, t, ps, h1, h2, h3⟩ := id hm
    have l4 := ok.l4
    have n8 := ok.n8
    refine ⟨_, pss_cons (ps_if (pt_tr (pe_callC c_apart hr (L2N.passes_call (E := E) (L2N.takes_of rfl rfl rfl rfl) (fun _ _ _ _ z => z)) (pa_cons (pv 0) (pa_cons (pv 1) pa_nil))))
  (pss_one (ps_ret pe_non))
  pss_nil) (PSs.nox (pss_cons (ps_mid (ps_setLc (i := 2) (own := [("table", 3)]) (by rfl) sc_least.nd rfl rfl (sw_true rfl rfl rfl (by decide +kernel)) (pi_tup (pe_fld (pv 0) rfl)) (blkOk_by (own := [("table", 3)]) (N := ["machine", "first", "ways", "table", "turn", "_", "rest"]) (sc := defScope s_least_alone) (by decide +kernel)) (fun _ _ _ _ _ => (pg_name (i := 3) sc_least.nd rfl (by first | exact Or.inl rfl | exact Or.inr rfl))) (fun _ _ _ _ _ => pts_nil) (fun _ _ _ _ _ => (pe_callC c_rr hr pass0 (pa_cons (pv 3) (pa_cons (pe_callC c_reached hr pzN (pa_cons (pv 0) (pa_cons (pv 1) pa_nil))) pa_nil)))))) (pss_one (ps_ret (pe_tup (pa_cons (pe_callTy (call_tupleK (K := K)) (by rfl) T.z_tuple (by decide +kernel) (pa_cons (pe_lc (own := [("turn", 4), ("_", 5)]) (g := gTup K 2 (gCons (gName 4) (gCons (gName 5) gNil))) (by rfl) sc_least.nd (pi_list (pv 2)) (blkOk_by (own := [("turn", 4), ("_", 5)]) (N := ["machine", "first", "ways", "table", "turn", "_", "rest"]) (sc := defScope s_least_alone) (by decide +kernel)) (fun _ _ _ _ _ => (pg_tup rfl (pgs_cons (pg_name (i := 4) sc_least.nd rfl (by first | exact Or.inl rfl | exact Or.inr rfl)) (pgs_cons (pg_name (i := 5) sc_least.nd rfl (by first | exact Or.inl rfl | exact Or.inr rfl)) pgs_nil)))) (fun _ _ _ _ _ => pts_nil) (fun _ _ _ _ _ => (pv 4))) pa_nil)) (pa_cons (pe_callTy (call_tupleK (K := K)) (by rfl) T.z_tuple (by decide +kernel) (pa_cons (pe_lc (own := [("_", 5), ("rest", 6)]) (g := gTup K 2 (gCons (gName 5) (gCons (gName 6) gNil))) (by rfl) sc_least.nd (pi_list (pv 2)) (blkOk_by (own := [("_", 5), ("rest", 6)]) (N := ["machine", "first", "ways", "table", "turn", "_", "rest"]) (sc := defScope s_least_alone) (by decide +kernel)) (fun _ _ _ _ _ => (pg_tup rfl (pgs_cons (pg_name (i := 5) sc_least.nd rfl (by first | exact Or.inl rfl | exact Or.inr rfl)) (pgs_cons (pg_name (i := 6) sc_least.nd rfl (by first | exact Or.inl rfl | exact Or.inr rfl)) pgs_nil)))) (fun _ _ _ _ _ => pts_nil) (fun _ _ _ _ _ => (pv 6))) pa_nil)) pa_nil))))))), ?_⟩
    refine ⟨_, rfl, _, rfl, m, n, ts, v, rfl, hm, hv, bad, fun eb => ?_⟩
    obtain ⟨s0, rfl, no, fin⟩ := good eb
    obtain ⟨s1, s2⟩ := isBel_iff.mp eb
    refine ⟨s0, rfl, fun q us H1 e1 hq iff => ?_⟩
    by_cases cm : Cm (Rch ts s0) ts
    · have ue : us = [] := iff.mpr cm
      subst ue
      refine ⟨_, .inr (.inl ⟨_, hq, rfl⟩), ?_⟩
      refine iteF ?_
      refine ⟨fun σ' H' => ∃ (D : Addr) (us : List V) (ws : List (Nat × Nat)), σ' = [some (.ref m), some (.int s0), some (.ref D), none, none, none, none] ∧ Same H H' ∧ H' D = some (.lst us) ∧ RowsBy (SqT K H') us (ws.map wayR) ∧ ws.length = ts.length ∧ ∀ d z, ws[d]? = some z → RR (Rch ts s0) (ts.getD d []) z.1 z.2 ∧ z.1 ≤ len8 n ∧ z.2 + 1 ≤ n, ?_, ?_⟩
      · refine ⟨_, rfl, m, CM, dx, _, _, rfl, e1 _ _ h1, TM.cl, TM.n3, rfl, t, rfl, ⟨ps, sqT_same e1 h2⟩, fun D hD => ?_⟩
        have nD := same_none e1 hD
        refine lc_tup (xs := ps) (fun i H' => Same H H' ∧ ∃ (us : List V) (ws : List (Nat × Nat)), H' D = some (.lst us) ∧ RowsBy (SqT K H') us (ws.map wayR) ∧ ws.length = i ∧ ∀ d z, ws[d]? = some z → RR (Rch ts s0) (ts.getD d []) z.1 z.2 ∧ z.1 ≤ len8 n ∧ z.2 + 1 ≤ n) ⟨e1.trans (same_new hD), [], [], upd_same, trivial, rfl, fun _ _ h => nomatch h⟩ (fun i H' _ z => sqT_same z.1 h2) ?_ ?_
        · rintro i v H2 hv ⟨e2, us, ws, h2', rw2, lw, al⟩
          have hi : i < ts.length := by rw [← h3.length]; exact (List.getElem?_eq_some_iff.mp hv).1
          obtain ⟨q2, g1, g2⟩ := h3.at_ (i := i) (t := ts[i]) (List.getElem?_eq_getElem hi)
          rw [hv] at g1
          cases g1
          have gt : ts.getD i [] = ts[i] := by rw [List.getD_eq_getElem?_getD, List.getElem?_eq_getElem hi]; rfl
          have tl := ok.len _ (List.getElem_mem hi)
          have ir : InR ts[i] := fun z hz => by rw [tl]; exact ok.ent _ (List.getElem_mem _) z hz
          generalize ts[i] = tI at g2 gt tl ir
          refine ⟨rfl, yes ((if_pos rfl).mpr ?_)⟩
          refine ⟨_, rfl, _, rfl, _, rfl, m, n, ts, .int s0, rfl, hm.same e2, .int _, (fun z => by rw [eb] at z; cases z), fun _ => ⟨s0, rfl, fun p L H3 e3 srt mem hp => ?_⟩⟩
          have inL : ∀ x ∈ L, 0 ≤ x ∧ x < (n : Int) := fun x hx => ok.rch s1 s2 ((mem x).mp hx)
          refine ⟨q2, p, tI, L, n, rfl, sqT_same (e2.trans e3) g2, hp, tl, n8, ir, inL, fun u r e H4 e4 hu rr => ?_⟩
          have fw := rr.few n8 (fun x x0 x1 => by have := ir.at_ x0 (by rw [tl]; exact x1); rw [tl] at this; exact this.2) inL
          have e34 := e3.trans e4
          refine ⟨us, e34 _ _ h2', ?_, same_put (e2.trans e34) nD, us ++ [.ref u], ws ++ [(r, e)], upd_same, ?_, by rw [List.length_append, lw]; rfl, fun d z hz => ?_⟩
          · have := rw2.length
            rw [List.length_map, lw] at this
            rw [sizeLine_eq]
            omega
          · rw [List.map_append]
            refine RowsBy.snoc (t := wayR (r, e)) (sqT_lst (e34 _ _ h2') hu) ?_
            exact rw2.imp fun _ _ z => sqT_lst (e34 _ _ h2') (sqT_same e34 z)
          · by_cases dl : d < ws.length
            · rw [List.getElem?_append_left dl] at hz
              exact al d z hz
            · have : d = i := by
                have := (List.getElem?_eq_some_iff.mp hz).1
                rw [List.length_append, List.length_singleton] at this
                omega
              subst this
              rw [List.getElem?_append_right (by omega), lw, Nat.sub_self] at hz
              cases hz
              rw [gt]
              exact ⟨rr.done mem, fw.1, fw.2 ok.n1⟩
        · rintro H2 ⟨e2, us, ws, h2', rw2, lw, al⟩
          exact ⟨D, us, ws, rfl, e2, h2', rw2, by rw [lw]; exact h3.length, al⟩
      rintro σ' H2 ⟨D, us, ws, rfl, e2, hD, rw2, lw, al⟩
      have lus := rw2.length
      rw [List.length_map, lw] at lus
      refine ⟨_, rfl, D, rfl, ⟨_, SqL.of hD⟩, fun D1 hD1 => ?_⟩
      refine lc_list (xs := us) (fun i H' => Same H2 H' ∧ H' D1 = some (.lst (natV ((ws.take i).map (·.1))))) ⟨same_new hD1, upd_same⟩ (fun i H' _ z => SqL.of (z.1 _ _ hD)) ?_ ?_
      · rintro i v H3 hv ⟨e3, h3'⟩
        have hi : i < ws.length := by have := (List.getElem?_eq_some_iff.mp hv).1; omega
        obtain ⟨q2, g1, g2⟩ := rw2.at_ (i := i) (t := wayR ws[i]) (by rw [List.getElem?_map, List.getElem?_eq_getElem hi]; rfl)
        rw [hv] at g1
        cases g1
        have tk : ws.take (i + 1) = ws.take i ++ [ws[i]] := by rw [List.take_add_one, List.getElem?_eq_getElem hi]; rfl
        have ll : (ws.take i).length ≤ 4 := by rw [List.length_take]; omega
        generalize ws[i] = z at g2 tk
        refine ⟨_, _, rfl, sqT_same e3 g2, rfl, _, _, rfl, _, _, rfl, rfl, rfl, yes ((if_pos rfl).mpr ?_)⟩
        refine ⟨_, rfl, _, h3', by rw [List.length_map, List.length_map, sizeLine_eq]; omega, same_put e3 hD1, ?_⟩
        rw [upd_same, tk, List.map_append]
        unfold natV
        rw [List.map_append]
        rfl
      · rintro H3 ⟨e3, h3'⟩
        rw [show us.length = ws.length by omega, List.take_length] at h3'
        refine ⟨D1, _, rfl, .inl ⟨SqL.of h3', fun p1 hp1 => ?_⟩⟩
        have e4 := same_new (o := HO.tup (natV (ws.map (·.1)))) hp1
        have u4 : SqT K (upd H3 p1 (HO.tup (natV (ws.map (·.1))))) p1 (natV (ws.map (·.1))) := SqT.of upd_same
        generalize upd H3 p1 (HO.tup (natV (ws.map (·.1)))) = H4 at e4 u4 ⊢
        have e24 := e3.trans e4
        refine ⟨_, rfl, D, rfl, ⟨_, SqL.of (e24 _ _ hD)⟩, fun D2 hD2 => ?_⟩
        refine lc_list (xs := us) (fun i H' => Same H4 H' ∧ H' D2 = some (.lst (natV ((ws.take i).map (·.2))))) ⟨same_new hD2, upd_same⟩ (fun i H' _ z => SqL.of (z.1 _ _ (e24 _ _ hD))) ?_ ?_
        · rintro i v H5 hv ⟨e5, h5'⟩
          have hi : i < ws.length := by have := (List.getElem?_eq_some_iff.mp hv).1; omega
          obtain ⟨q2, g1, g2⟩ := rw2.at_ (i := i) (t := wayR ws[i]) (by rw [List.getElem?_map, List.getElem?_eq_getElem hi]; rfl)
          rw [hv] at g1
          cases g1
          have tk : ws.take (i + 1) = ws.take i ++ [ws[i]] := by rw [List.take_add_one, List.getElem?_eq_getElem hi]; rfl
          have ll : (ws.take i).length ≤ 4 := by rw [List.length_take]; omega
          generalize ws[i] = z at g2 tk
          refine ⟨_, _, rfl, sqT_same (e24.trans e5) g2, rfl, _, _, rfl, _, _, rfl, rfl, rfl, yes ((if_pos rfl).mpr ?_)⟩
          refine ⟨_, rfl, _, h5', by rw [List.length_map, List.length_map, sizeLine_eq]; omega, same_put e5 hD2, ?_⟩
          rw [upd_same, tk, List.map_append]
          unfold natV
          rw [List.map_append]
          rfl
        · rintro H5 ⟨e5, h5'⟩
          rw [show us.length = ws.length by omega, List.take_length] at h5'
          refine ⟨D2, _, rfl, .inl ⟨SqL.of h5', fun p2 hp2 => ?_⟩⟩
          have e6 := same_new (o := HO.tup (natV (ws.map (·.2)))) hp2
          have u6 : SqT K (upd H5 p2 (HO.tup (natV (ws.map (·.2))))) p2 (natV (ws.map (·.2))) := SqT.of upd_same
          generalize upd H5 p2 (HO.tup (natV (ws.map (·.2)))) = H6 at e6 u6 ⊢
          refine ⟨(by show 2 ≤ sizeLine; decide), fun u hu => ?_⟩
          have e7 := same_new (o := HO.tup [.ref p1, .ref p2]) hu
          have u7 : SqT K (upd H6 u (HO.tup [.ref p1, .ref p2])) u [.ref p1, .ref p2] := SqT.of upd_same
          generalize upd H6 u (HO.tup [.ref p1, .ref p2]) = H7 at e7 u7 ⊢
          refine fin cm u _ _ _ (e2.trans (e24.trans (e5.trans (e6.trans e7)))) ⟨⟨p1, p2, u7, sqT_same (e5.trans (e6.trans e7)) u4, sqT_same e7 u6⟩, by rw [List.length_map, lw], by rw [List.length_map, lw], fun d hd => ?_⟩
          have hw : ws[d]? = some ws[d] := List.getElem?_eq_getElem (by omega)
          have := al d _ hw
          have g1 : (ws.map (·.1)).getD d 0 = ws[d].1 := by rw [List.getD_eq_getElem?_getD, List.getElem?_map, hw]; rfl
          have g2 : (ws.map (·.2)).getD d 0 = ws[d].2 := by rw [List.getD_eq_getElem?_getD, List.getElem?_map, hw]; rfl
          rw [g1, g2]
          exact this
    · have ne : us ≠ [] := fun z => cm (iff.mp z)
      refine ⟨_, .inr (.inl ⟨_, hq, rfl⟩), ?_⟩
      rw [show (!us.isEmpty) = true by cases us with | nil => exact absurd rfl ne | cons _ _ => rfl]
      exact iteT (no cm _ e1)
end
end KJ
/-! a walk, point by point (pure) -/
namespace KJ
open L2 PySem PySem.Spec PyProof.Rows Kx RZ TL
/-- t points are gone on from, and the next one by d deeds -/
structure Wi (W : WkP) (hs : List Pnt) (t d : Nat) : Prop where
  nd : hs.Nodup
  p0 : hs[0]? = some W.p0
  pt : ∀ p ∈ hs, W.Pt p
  tl : t ≤ hs.length
  clo : ∀ i p, i < t → hs[i]? = some p → ∀ e, e < W.ts.length → W.nxt p e ∈ hs
  next : ∀ p, hs[t]? = some p → ∀ e, e < d → e < W.ts.length → W.nxt p e ∈ hs
  len : hs.length ≤ 1 + 4 * t + d
section
variable {W : WkP} {hs : List Pnt} {t d : Nat} {p : Pnt}
theorem Wi.init : Wi W [W.p0] 0 0 := ⟨by simp, rfl, fun p hp => by rw [List.mem_singleton.mp hp]; exact .start, Nat.zero_le _, fun _ _ h => absurd h (Nat.not_lt_zero _), fun _ _ _ h => absurd h (Nat.not_lt_zero _), Nat.le_refl _⟩
theorem Wi.skip (h : Wi W hs t d) (hp : hs[t]? = some p) (m : W.nxt p d ∈ hs) : Wi W hs t (d + 1) := by
  refine ⟨h.nd, h.p0, h.pt, h.tl, h.clo, fun q hq e he hk => ?_, by have := h.len; omega⟩
  by_cases z : e = d
  · rw [hp] at hq
    rw [z, ← Option.some.inj hq]
    exact m
  · exact h.next q hq e (by omega) hk
theorem Wi.more (h : Wi W hs t d) (hp : hs[t]? = some p) (hd : d < W.ts.length) (no : W.nxt p d ∉ hs) : Wi W (hs ++ [W.nxt p d]) t (d + 1) := by
  have lt := (List.getElem?_eq_some_iff.mp hp).1
  have at_ : ∀ {i : Nat} {q : Pnt}, i ≤ t → (hs ++ [W.nxt p d])[i]? = some q → hs[i]? = some q := fun {i q} hi hq => by
    rwa [List.getElem?_append_left (by omega)] at hq
  refine ⟨List.nodup_append.mpr ⟨h.nd, by simp, fun a ha b hb e => no (by rw [← List.mem_singleton.mp hb, ← e]; exact ha)⟩, by rw [List.getElem?_append_left (by omega)]; exact h.p0, fun q hq => ?_, by rw [List.length_append]; have := h.tl; omega, fun i q hi hq e he => List.mem_append_left _ (h.clo i q hi (at_ (by omega) hq) e he), fun q hq e he hk => ?_, by rw [List.length_append, List.length_singleton]; have := h.len; omega⟩
  · rcases List.mem_append.mp hq with hq | hq
    · exact h.pt q hq
    · rw [List.mem_singleton.mp hq]
      exact .step p d hd (h.pt p (List.mem_of_getElem? hp))
  · have hq' := at_ (Nat.le_refl _) hq
    by_cases z : e = d
    · rw [hp] at hq'
      rw [z, ← Option.some.inj hq']
      exact List.mem_append_right _ (List.mem_singleton.mpr rfl)
    · exact List.mem_append_left _ (h.next q hq' e (by omega) hk)
theorem Wi.on (h : Wi W hs t W.ts.length) (hp : hs[t]? = some p) (l4 : W.ts.length ≤ 4) : Wi W hs (t + 1) 0 := by
  have lt := (List.getElem?_eq_some_iff.mp hp).1
  refine ⟨h.nd, h.p0, h.pt, lt, fun i q hi hq e he => ?_, fun _ _ e h => absurd h (Nat.not_lt_zero _), by have := h.len; omega⟩
  by_cases z : i = t
  · rw [z] at hq
    exact h.next q hq e he he
  · exact h.clo i q (by omega) hq e he
theorem Wi.all (h : Wi W hs hs.length 0) : ∀ p, W.Pt p ↔ p ∈ hs := fun p => by
  refine ⟨fun hp => ?_, h.pt p⟩
  induction hp with
  | start => exact List.mem_of_getElem? h.p0
  | step p d hd _ ih =>
    obtain ⟨i, hi⟩ := List.getElem?_of_mem ih
    exact h.clo i p (List.getElem?_eq_some_iff.mp hi).1 hi d hd
end
theorem nodup_leG {α : Type} [DecidableEq α] : ∀ {F L : List α}, F.Nodup → (∀ x ∈ F, x ∈ L) → F.length ≤ L.length
  | [], _, _, _ => Nat.zero_le _
  | x :: F, L, nd, h => by
    have hx := h x (List.mem_cons_self ..)
    have nd' := List.nodup_cons.mp nd
    have := nodup_leG (F := F) (L := L.erase x) nd'.2 fun y hy => by
      have ne : y ≠ x := fun z => nd'.1 (z ▸ hy)
      exact (List.mem_erase_of_ne ne).mpr (h y (List.mem_cons_of_mem _ hy))
    rw [List.length_erase_of_mem hx] at this
    have : 0 < L.length := List.length_pos_of_mem hx
    rw [List.length_cons]
    omega
theorem len_prod {α β : Type} (xs : List α) (ys : List β) : (xs.flatMap fun x => ys.map fun y => (x, y)).length = xs.length * ys.length := by
  induction xs with
  | nil => rw [List.flatMap_nil, List.length_nil, List.length_nil, Nat.zero_mul]
  | cons x xs ih => rw [List.flatMap_cons, List.length_append, ih, List.length_map, List.length_cons, Nat.succ_mul, Nat.add_comm]
/-- all rows below -/
def boxR : List Int → List (List Int)
  | [] => [[]]
  | r :: rs => ((rng r.toNat).flatMap fun x => (boxR rs).map fun y => (x, y)).map fun q => q.1 :: q.2
def prodI : List Int → Nat
  | [] => 1
  | r :: rs => r.toNat * prodI rs
theorem box_len : ∀ {rs : List Int}, (boxR rs).length = prodI rs
  | [] => rfl
  | r :: rs => by
    show (((rng r.toNat).flatMap fun x => (boxR rs).map fun y => (x, y)).map fun q => q.1 :: q.2).length = r.toNat * prodI rs
    rw [List.length_map, len_prod, rng_len, box_len]
theorem box_mem : ∀ {rs sh : List Int}, sh.length = rs.length → (∀ d, d < rs.length → 0 ≤ sh.getD d 0 ∧ sh.getD d 0 < rs.getD d 0) → sh ∈ boxR rs
  | [], [], _, _ => List.mem_singleton.mpr rfl
  | r :: rs, x :: sh, h, k => by
    have k0 := k 0 (Nat.zero_lt_succ _)
    have k0 : 0 ≤ x ∧ x < r := k0
    refine List.mem_map.mpr ⟨(x, sh), List.mem_flatMap.mpr ⟨x, mem_rng.mpr ⟨k0.1, by omega⟩, List.mem_map.mpr ⟨sh, box_mem (by simpa using h) fun d hd => ?_, rfl⟩⟩, rfl⟩
    exact k (d + 1) (Nat.succ_lt_succ hd)
  | [], _ :: _, h, _ => by simp at h
  | _ :: _, [], h, _ => by simp at h
def caps (W : WkP) : List Int := (List.range W.ts.length).map fun d => (W.es.getD d 0 : Int) + W.rs.getD d 0
theorem caps_at {W : WkP} {d : Nat} (hd : d < W.ts.length) : (caps W).getD d 0 = (W.es.getD d 0 : Int) + W.rs.getD d 0 := by
  unfold caps
  rw [List.getD_eq_getElem?_getD, List.getElem?_map, List.getElem?_range hd]
  rfl
theorem caps_len {W : WkP} : (caps W).length = W.ts.length := by
  unfold caps
  rw [List.length_map, List.length_range]
/-- no more points than states and showings -/
theorem Wk.few {n : Nat} {W : WkP} (R : Wk n W) {hs : List Pnt} (nd : hs.Nodup) (h : ∀ p ∈ hs, W.Pt p) : hs.length ≤ n * prodI (caps W) := by
  have := nodup_leG (L := (KJ.rng n).flatMap fun x => (boxR (caps W)).map fun y => (x, y)) nd fun p hp => by
    have r := R.rng (h p hp)
    have b := R.ok.rch R.s0 R.s1 r.rch
    exact List.mem_flatMap.mpr ⟨p.1, mem_rng.mpr b, List.mem_map.mpr ⟨p.2, box_mem (by rw [r.len, caps_len]) (fun d hd => by rw [caps_len] at hd; rw [caps_at hd]; exact r.rng d hd), rfl⟩⟩
  rwa [len_prod, box_len, rng_len] at this
theorem prod_caps : ∀ {zs : List Int} {m : Nat}, (∀ z ∈ zs, z ≤ (m : Int)) → prodI zs ≤ m ^ zs.length
  | [], _, _ => Nat.le_refl _
  | z :: zs, m, h => by
    have h1 := h z (List.mem_cons_self ..)
    have h2 := prod_caps (zs := zs) fun x hx => h x (List.mem_cons_of_mem _ hx)
    show z.toNat * prodI zs ≤ m ^ (zs.length + 1)
    rw [Nat.pow_succ, Nat.mul_comm (m ^ zs.length)]
    exact Nat.mul_le_mul (by omega) h2
end KJ
/-! _law_lots: what stands -/
namespace KJ
open L2 PySem PySem.Spec PyProof.Rows Kx RZ TL
/-- a point's tuple -/
def PtAt (H : Hp) (a : Addr) (p : Pnt) : Prop := ∃ b, H a = some (.tup [.int p.1, .ref b]) ∧ H b = some (.tup (p.2.map V.int))
def keyP (p : Pnt) : NK := ([p.1], p.2)
theorem keyP_inj {p q : Pnt} (h : keyP p = keyP q) : p = q := by
  unfold keyP at h
  injection h with h1 h2
  injection h1 with h1 _
  exact Prod.ext h1 h2
theorem PtAt.same {H H' : Hp} {a : Addr} {p : Pnt} (h : PtAt H a p) (e : ∀ b us, H b = some (.tup us) → H' b = some (.tup us)) : PtAt H' a p := h.elim fun b q => ⟨b, e _ _ q.1, e _ _ q.2⟩
theorem PtAt.key {K : PySem.W.Frag} {H : Hp} {a : Addr} {p : Pnt} (h : PtAt H a p) : KeyN K H 1 (keyP p) a := h.elim fun b q => ⟨rfl, b, SqT.of q.1, SqT.of q.2⟩
/-- the list of states at l -/
def FAt (H : Hp) (ha l : Addr) (xs : List Int) : Prop := l ≠ ha ∧ ∃ ys : List Int, H l = some (.lst (ys.map V.int)) ∧ ys.Perm xs
theorem FAt.same {H H' : Hp} {ha l : Addr} {xs : List Int} (h : FAt H ha l xs) (e2 : ∀ us, H l = some (.lst us) → H' l = some (.lst us)) : FAt H' ha l xs := ⟨h.1, h.2.imp fun _ z => ⟨e2 _ z.1, z.2⟩⟩
/-- what found holds -/
def kvOf (fs : List (List Int × Addr)) : List (List L2.Key × V) := fs.map fun e => (e.1.map Sum.inl, V.ref e.2)
theorem inl_inj : ∀ {a b : List Int}, a.map (Sum.inl : Int → L2.Key) = b.map Sum.inl → a = b
  | [], [], _ => rfl
  | [], _ :: _, h => nomatch h
  | _ :: _, [], h => nomatch h
  | x :: a, y :: b, h => by
    rw [List.map_cons, List.map_cons] at h
    obtain ⟨h1, h2⟩ := List.cons.inj h
    rw [Sum.inl.inj h1, inl_inj h2]
theorem inl_kV {sh : List Int} : (sh.map (Sum.inl : Int → L2.Key)).map kV = sh.map V.int := by
  rw [List.map_map]
  rfl
theorem val_kv {sh : List Int} {l : Addr} : ∀ {fs : List (List Int × Addr)}, (fs.map (·.1)).Nodup → (sh, l) ∈ fs → valV (kvOf fs) (sh.map Sum.inl) = some (V.ref l)
  | [], _, h => nomatch h
  | e :: fs, nd, h => by
    obtain ⟨n1, n2⟩ := List.nodup_cons.mp (show (e.1 :: fs.map (·.1)).Nodup from nd)
    rcases List.mem_cons.mp h with h | h
    · subst h
      exact valV_pos (p := (sh.map Sum.inl, V.ref l)) rfl
    · have ne : e.1 ≠ sh := fun z => n1 (by rw [z]; exact List.mem_map.mpr ⟨_, h, rfl⟩)
      show valV ((e.1.map Sum.inl, V.ref e.2) :: kvOf fs) (sh.map Sum.inl) = _
      rw [valV_neg (p := (e.1.map Sum.inl, V.ref e.2)) fun z => ne (inl_inj z)]
      exact val_kv n2 h
theorem val_no {sh : List Int} : ∀ {fs : List (List Int × Addr)}, sh ∉ fs.map (·.1) → valV (kvOf fs) (sh.map Sum.inl) = none
  | [], _ => rfl
  | e :: fs, h => by
    have ne : e.1 ≠ sh := fun z => h (by rw [← z]; exact List.mem_cons_self)
    show valV ((e.1.map Sum.inl, V.ref e.2) :: kvOf fs) (sh.map Sum.inl) = _
    rw [valV_neg (p := (e.1.map Sum.inl, V.ref e.2)) fun z => ne (inl_inj z)]
    exact val_no fun z => h (List.mem_cons_of_mem _ z)
def putF (fs : List (List Int × Addr)) (sh : List Int) (p : Addr) : List (List Int × Addr) := if sh ∈ fs.map (·.1) then fs.map fun e => if e.1 = sh then (e.1, p) else e else fs ++ [(sh, p)]
theorem kv_put {fs : List (List Int × Addr)} {sh : List Int} {p : Addr} : putK (kvOf fs) (sh.map Sum.inl) (V.ref p) = kvOf (putF fs sh p) := by
  unfold putK putF
  have e : ((kvOf fs).any fun kv => decide (kv.1 = sh.map Sum.inl)) = decide (sh ∈ fs.map (·.1)) := by
    rw [Bool.eq_iff_iff, List.any_eq_true, decide_eq_true_eq, List.mem_map]
    unfold kvOf
    constructor
    · rintro ⟨kv, h, z⟩
      obtain ⟨e, he, rfl⟩ := List.mem_map.mp h
      exact ⟨e, he, inl_inj (of_decide_eq_true z)⟩
    · rintro ⟨e, he, rfl⟩
      exact ⟨_, List.mem_map.mpr ⟨e, he, rfl⟩, decide_eq_true rfl⟩
  rw [e]
  by_cases z : sh ∈ fs.map (·.1)
  · rw [if_pos (decide_eq_true z), if_pos z]
    unfold kvOf
    rw [List.map_map, List.map_map]
    refine List.map_congr_left fun e he => ?_
    show (if e.1.map Sum.inl = sh.map Sum.inl then (e.1.map Sum.inl, V.ref p) else (e.1.map Sum.inl, V.ref e.2)) = _
    show _ = ((if e.1 = sh then (e.1, p) else e).1.map Sum.inl, V.ref (if e.1 = sh then (e.1, p) else e).2)
    by_cases q : e.1 = sh
    · rw [if_pos (by rw [q]), if_pos q]
    · rw [if_neg (fun w => q (inl_inj w)), if_neg q]
  · rw [if_neg (by simpa using z), if_neg z]
    unfold kvOf
    rw [List.map_append]
    rfl
theorem putF_mem {fs : List (List Int × Addr)} {sh : List Int} {p : Addr} {e : List Int × Addr} (h : e ∈ putF fs sh p) : (e ∈ fs ∧ e.1 ≠ sh) ∨ e = (sh, p) := by
  unfold putF at h
  split at h
  · obtain ⟨d, hd, rfl⟩ := List.mem_map.mp h
    by_cases q : d.1 = sh
    · rw [if_pos q, q]; exact .inr rfl
    · rw [if_neg q]; exact .inl ⟨hd, q⟩
  · rename_i no
    rcases List.mem_append.mp h with h | h
    · exact .inl ⟨h, fun z => no (List.mem_map.mpr ⟨e, h, z⟩)⟩
    · exact .inr (List.mem_singleton.mp h)
theorem putF_keys {fs : List (List Int × Addr)} {sh : List Int} {p : Addr} : (putF fs sh p).map (·.1) = if sh ∈ fs.map (·.1) then fs.map (·.1) else fs.map (·.1) ++ [sh] := by
  unfold putF
  split
  · rw [List.map_map]
    refine List.map_congr_left fun e _ => ?_
    show (if e.1 = sh then (e.1, p) else e).1 = e.1
    split <;> rfl
  · rw [List.map_append]
    rfl
theorem putF_nd {fs : List (List Int × Addr)} {sh : List Int} {p : Addr} (h : (fs.map (·.1)).Nodup) : ((putF fs sh p).map (·.1)).Nodup := by
  rw [putF_keys]
  split
  · exact h
  · rename_i no
    exact List.nodup_append.mpr ⟨h, by simp, fun a ha b hb z => no (by rw [← List.mem_singleton.mp hb, ← z]; exact ha)⟩
theorem putF_len {fs : List (List Int × Addr)} {sh : List Int} {p : Addr} : (putF fs sh p).length ≤ fs.length + 1 := by
  unfold putF
  split
  · rw [List.length_map]; omega
  · rw [List.length_append, List.length_singleton]; omega
/-- the objects -/
structure Go where
  ha : Addr
  da : Addr
  fa : Addr
  as : List Addr
  hs : List Pnt
  fs : List (List Int × Addr)
abbrev prsOf (hs : List Pnt) (sh : List Int) : List Int := (hs.filter fun p => decide (p.2 = sh)).map fun p => p.1
/-- what stands: of t points the showings are found -/
structure Gw (P : Program) (w : World) (H0 : Hp) (g : Go) (t : Nat) (H : Hp) : Prop where
  old : Same H0 H
  nh : H0 g.ha = none
  nd : H0 g.da = none
  nf : H0 g.fa = none
  here : H g.ha = some (.lst (g.as.map V.ref))
  there : H g.da = some (NestO P w 1 g.da ((g.hs.map keyP).zip g.as))
  found : H g.fa = some (.dT (kvOf g.fs))
  la : g.as.length = g.hs.length
  pts : ∀ (i : Nat) (p : Pnt) (a : Addr), g.hs[i]? = some p → g.as[i]? = some a → PtAt H a p
  fat : ∀ e ∈ g.fs, FAt H g.ha e.2 (prsOf (g.hs.take t) e.1)
  fnd : (g.fs.map (·.1)).Nodup
  fky : ∀ sh, sh ∈ g.fs.map (·.1) ↔ ∃ p ∈ g.hs.take t, p.2 = sh
  flen : g.fs.length ≤ t
section
variable {P : Program} {w : World} {H0 H H' : Hp} {g : Go} {t : Nat}
theorem Gw.same (h : Gw P w H0 g t H) (e : Same H H') : Gw P w H0 g t H' :=
  ⟨h.old.trans e, h.nh, h.nd, h.nf, e _ _ h.here, e _ _ h.there, e _ _ h.found, h.la, fun i p a h1 h2 => (h.pts i p a h1 h2).same fun _ _ z => e _ _ z, fun d hd => (h.fat d hd).same fun _ z => e _ _ z, h.fnd, h.fky, h.flen⟩
theorem Gw.new (h : Gw P w H0 g t H) {a : Addr} (ha : H a = none) : H0 a = none := by
  cases z : H0 a with
  | none => rfl
  | some o =>
    have := h.old _ _ z
    rw [ha] at this
    cases this
/-- a point comes -/
theorem Gw.come (h : Gw P w H0 g t H) {a : Addr} {p : Pnt} (tl : t ≤ g.hs.length) (hp : PtAt H a p) : Gw P w H0 { g with as := g.as ++ [a], hs := g.hs ++ [p] } t (upd (upd H g.da (NestO P w 1 g.da ((g.hs.map keyP).zip g.as ++ [(keyP p, a)]))) g.ha (.lst (g.as.map V.ref ++ [.ref a]))) := by
  have hd : g.ha ≠ g.da := ne_of h.here h.there fun z => nomatch z
  have hf : g.ha ≠ g.fa := ne_of h.here h.found fun z => nomatch z
  have df : g.da ≠ g.fa := ne_of h.there h.found fun z => nomatch z
  have tup : ∀ b us, H b = some (.tup us) → (upd (upd H g.da (NestO P w 1 g.da ((g.hs.map keyP).zip g.as ++ [(keyP p, a)]))) g.ha (.lst (g.as.map V.ref ++ [.ref a]))) b = some (.tup us) := fun b us z => by
    rw [upd_ne (ne_of z h.here fun z => nomatch z), upd_ne (ne_of z h.there fun z => nomatch z)]
    exact z
  have zs : (((g.hs ++ [p]).map keyP).zip (g.as ++ [a])) = (g.hs.map keyP).zip g.as ++ [(keyP p, a)] := by
    rw [List.map_append]
    exact zip_snoc (by rw [List.length_map, h.la])
  have tk : (g.hs ++ [p]).take t = g.hs.take t := List.take_append_of_le_length tl
  refine ⟨same_put (same_put h.old h.nd) h.nh, h.nh, h.nd, h.nf, by rw [upd_same, List.map_append]; rfl, ?_, ?_, by rw [List.length_append, List.length_append, h.la]; rfl, fun i q b h1 h2 => ?_, fun e he => ?_, h.fnd, fun sh => ?_, h.flen⟩
  · rw [upd_ne (Ne.symm hd)]
    show upd H g.da _ g.da = some (NestO P w 1 g.da (((g.hs ++ [p]).map keyP).zip (g.as ++ [a])))
    rw [upd_same, zs]
  · rw [upd_ne (Ne.symm hf), upd_ne (Ne.symm df)]
    exact h.found
  · by_cases z : i < g.hs.length
    · rw [List.getElem?_append_left z] at h1
      rw [List.getElem?_append_left (by rw [h.la]; exact z)] at h2
      exact (h.pts i q b h1 h2).same tup
    · have : i = g.hs.length := by
        have := (List.getElem?_eq_some_iff.mp h1).1
        rw [List.length_append, List.length_singleton] at this
        omega
      subst this
      rw [List.getElem?_append_right (Nat.le_refl _), Nat.sub_self] at h1
      rw [← h.la, List.getElem?_append_right (Nat.le_refl _), Nat.sub_self] at h2
      cases h1
      cases h2
      exact hp.same tup
  · rw [tk]
    refine (h.fat e he).same fun us z => ?_
    rw [upd_ne (h.fat e he).1, upd_ne (ne_of z h.there fun z => nomatch z)]
    exact z
  · rw [tk]
    exact h.fky sh
/-- one more is found -/
theorem Gw.find (h : Gw P w H0 g t H) {p : Pnt} (hp : g.hs[t]? = some p) {l : Addr} {ys : List Int} (hl : H l = some (.lst (ys.map V.int))) (pl : ys.Perm (prsOf (g.hs.take t) p.2 ++ [p.1])) (lh : l ≠ g.ha) :
    Gw P w H0 { g with fs := putF g.fs p.2 l } (t + 1) (upd H g.fa (.dT (kvOf (putF g.fs p.2 l)))) := by
  have hf : g.ha ≠ g.fa := ne_of h.here h.found fun z => nomatch z
  have df : g.da ≠ g.fa := ne_of h.there h.found fun z => nomatch z
  have lf : l ≠ g.fa := ne_of hl h.found fun z => nomatch z
  have tup : ∀ b us, H b = some (.tup us) → (upd H g.fa (.dT (kvOf (putF g.fs p.2 l)))) b = some (.tup us) := fun b us z => by
    rw [upd_ne (ne_of z h.found fun z => nomatch z)]
    exact z
  have tk : g.hs.take (t + 1) = g.hs.take t ++ [p] := by rw [List.take_add_one, hp]; rfl
  have prs : ∀ sh, prsOf (g.hs.take (t + 1)) sh = prsOf (g.hs.take t) sh ++ if p.2 = sh then [p.1] else [] := fun sh => by
    unfold prsOf
    rw [tk, List.filter_append, List.map_append]
    congr 1
    by_cases z : p.2 = sh
    · rw [if_pos z, List.filter_cons_of_pos (by simpa using z)]
      rfl
    · rw [if_neg z, List.filter_cons_of_neg (by simpa using z)]
      rfl
  refine ⟨same_put h.old h.nf, h.nh, h.nd, h.nf, by rw [upd_ne hf]; exact h.here, by rw [upd_ne df]; exact h.there, upd_same, h.la, fun i q b h1 h2 => (h.pts i q b h1 h2).same tup, fun e he => ?_, putF_nd h.fnd, fun sh => ?_, Nat.le_trans putF_len (Nat.succ_le_succ h.flen)⟩
  · rcases putF_mem he with ⟨he, ne⟩ | rfl
    · show FAt _ g.ha e.2 (prsOf (g.hs.take (t + 1)) e.1)
      rw [prs, if_neg (Ne.symm ne), List.append_nil]
      refine (h.fat e he).same fun us z => ?_
      rw [upd_ne (ne_of z h.found fun z => nomatch z)]
      exact z
    · show FAt _ g.ha l (prsOf (g.hs.take (t + 1)) p.2)
      rw [prs, if_pos rfl]
      exact ⟨lh, ys, by rw [upd_ne lf]; exact hl, pl⟩
  · show sh ∈ (putF g.fs p.2 l).map (·.1) ↔ ∃ r ∈ g.hs.take (t + 1), r.2 = sh
    rw [tk, putF_keys]
    constructor
    · intro m
      have : sh ∈ g.fs.map (·.1) ∨ sh = p.2 := by
        split at m
        · exact .inl m
        · rcases List.mem_append.mp m with m | m
          · exact .inl m
          · exact .inr (List.mem_singleton.mp m)
      rcases this with m | rfl
      · obtain ⟨r, hr, e⟩ := (h.fky sh).mp m
        exact ⟨r, List.mem_append_left _ hr, e⟩
      · exact ⟨p, List.mem_append_right _ (List.mem_singleton.mpr rfl), rfl⟩
    · rintro ⟨r, hr, rfl⟩
      rcases List.mem_append.mp hr with hr | hr
      · have m := (h.fky r.2).mpr ⟨r, hr, rfl⟩
        split
        · exact m
        · exact List.mem_append_left _ m
      · rw [List.mem_singleton.mp hr]
        split
        · rename_i m
          exact m
        · exact List.mem_append_right _ (List.mem_singleton.mpr rfl)
end
end KJ
/-! _law_next; _law_lots: the first statements -/
namespace KJ
open L2 PySem PySem.Spec PyProof.Rows Kx RZ TL
def spLNext : Sp := fun vs H Q _ => ∃ (v : Int) (r e : Nat), vs = [.int v, .int (r : Nat), .int (e : Nat)] ∧ Q (.int (lnx r e v)) H
section
variable {P : Program} {w : World} {K : PySem.W.Frag} {mg : Str → Option Value} {base : Heap} {f : Addr} {fd : FuncData} {a : Ad} {CM : Addr}
theorem sc_lnext : FnScope ["number", "turn", "rest"] ["number", "turn", "rest"] (defScope s_law_next) := ⟨rfl, rfl, rfl, by decide +kernel, rfl, by decide +kernel, by decide +kernel⟩
theorem ok_next (F : FnP K "_law_next" s_law_next f fd) (T : Mg mg) : FnOk P w K mg base CX0 1 f fd ["number", "turn", "rest"] spLNext := by
  refine F.ok sc_lnext (fun vs H Q E h => ?_) (fun cdv A outer s H vs Q E hr h => ?_)
  · obtain ⟨v, r, e, rfl, _⟩ := h
    rfl
  · obtain ⟨v, r, e, rfl, k⟩ := h
    refine ⟨_, PSs.nox (pss_cons (ps_set (i := 0) sc_lnext.nd rfl (by first | exact Or.inl rfl | exact Or.inr rfl) (pe_op op_add (pv 0) pe_int)) (pss_one (ps_ret (pe_ifExp (PW.pt (pw_or (pt_cmpR op_eq (pv 1) pe_int (nomark _)) (pw_or1 (pt_cmpR op_lt (pv 0) (pe_op op_add (pv 2) (pv 1)) (nomark _))))) (pv 0) (pv 2))))), ?_⟩
    refine ⟨_, rfl, _, _, rfl, rfl, ?_⟩
    refine ⟨_, rfl, rfl, _, rfl, ite2 (fun h => ?_) (fun h => ?_)⟩
    · have z : r = 0 := by
        have : ((r : Nat) : Int) = 0 := by simpa using h
        omega
      refine iteT ⟨_, rfl, ?_⟩
      unfold lnx at k
      rw [if_pos (.inl z)] at k
      exact k
    · have z : ¬ r = 0 := fun z => h (by rw [z]; rfl)
      refine ⟨_, rfl, _, rfl, _, rfl, _, _, rfl, rfl, _, _, rfl, rfl, _, rfl, ite2 (fun h2 => ?_) (fun h2 => ?_)⟩
      · have l : v + 1 < (e : Int) + r := by simpa using h2
        refine ⟨_, rfl, ?_⟩
        unfold lnx at k
        rw [if_pos (.inr l)] at k
        exact k
      · have l : ¬ v + 1 < (e : Int) + r := by simpa using h2
        refine ⟨_, rfl, ?_⟩
        unfold lnx at k
        rw [if_neg (fun y => y.elim z l)] at k
        exact k
end
structure Ga where
  tt : Addr
  r : Addr
  e : Addr
  ps : List V
  n : Nat
  W : WkP
structure GivW (K : PySem.W.Frag) (H : Hp) (a : Ga) : Prop where
  tt : SqL K H a.tt a.ps
  rows : RowsBy (SqT K H) a.ps a.W.ts
  r : SqT K H a.r (natV a.W.rs)
  e : SqT K H a.e (natV a.W.es)
  wk : Wk a.n a.W
  few : a.n * prodI (caps a.W) ≤ 60000
theorem sc_llots : FnScope ["tables", "first", "rounds", "rests", "begin", "met", "waiting", "lots", "at", "state", "showing", "deed", "number", "after"] ["tables", "first", "rounds", "rests"] (defScope s_law_lots) := ⟨rfl, rfl, rfl, by decide +kernel, rfl, by decide +kernel, by decide +kernel⟩
abbrev XQ (P : Program) (w : World) (K : PySem.W.Frag) (mg : Str → Option Value) (base : Heap) (f : Addr) (cdv : Value) (A : Around) (outer : List Env) (st : Shared) (H : Hp) (E : XK) : Cx := (cxOf CX0 P w K mg base ["tables", "first", "rounds", "rests", "begin", "met", "waiting", "lots", "at", "state", "showing", "deed", "number", "after"] "_law_lots" (defScope s_law_lots) f cdv A outer st H E).nox
abbrev loS : List Stmt := defBody s_law_lots
structure Lq (P : Program) (w : World) (K : PySem.W.Frag) (mg : Str → Option Value) (base : Heap) (f : Addr) (cdv : Value) (A : Around) (outer : List Env) (st : Shared) (H0 : Hp) (a : Ga) : Prop where
  T : Mg mg
  next : Cal P w K mg base CX0 1 "_law_next" ["number", "turn", "rest"] spLNext
  hr : Room 1 (A.deeper (envOfC "_law_lots" (defScope s_law_lots) st.heap.objs.size f cdv))
  giv : GivW K H0 a
abbrev sgQ (a : Ga) (x4 x5 x6 x7 x8 x9 x10 x11 x12 x13 : Option V) : L2.St := [some (.ref a.tt), some (.int a.W.s), some (.ref a.r), some (.ref a.e), x4, x5, x6, x7, x8, x9, x10, x11, x12, x13]
abbrev sgK (a : Ga) (bg : Addr) (g : Go) (x8 x9 x10 x11 x12 x13 : Option V) : L2.St := sgQ a (some (.ref bg)) (some (.ref g.da)) (some (.ref g.ha)) (some (.ref g.fa)) x8 x9 x10 x11 x12 x13
section
variable {P : Program} {w : World} {K : PySem.W.Frag} {mg : Str → Option Value} {base : Heap} {f : Addr} {cdv : Value} {A : Around} {outer : List Env} {st : Shared} {H0 : Hp} {E : XK} {a : Ga} {fd : FuncData}
variable (Z : Lq P w K mg base f cdv A outer st H0 a)
include Z
theorem lo0 : HT (ι := Unit) (XQ P w K mg base f cdv A outer st H0 E) (nthS loS 0) (fun _ σ H => σ = sgQ a none none none none none none none none none none ∧ H = H0) (fun _ σ H => ∃ bg : Addr, σ = sgQ a (some (.ref bg)) none none none none none none none none none ∧ Same H0 H ∧ PtAt H bg a.W.p0) := by
  obtain ⟨T, c_next, hr, G⟩ := Z
  refine ⟨_, (ps_set (i := 4) sc_llots.nd rfl (by first | exact Or.inl rfl | exact Or.inr rfl) (pe_tup (pa_cons (pv 1) (pa_cons (pe_op op_timesX (pe_tup (pa_cons pe_int pa_nil)) (pe_callB call_len_seq (by rfl) T.z_len PySem.boot_len (pa_cons (pv 0) pa_nil))) pa_nil)))), ?_⟩
  rintro _ D σ H ⟨rfl, rfl⟩ kk
  have l1 := G.wk.ok.l1
  have l4 := G.wk.ok.l4
  have lps := G.rows.length
  refine ⟨_, rfl, (by show 1 ≤ sizeLine; decide), fun t0 ht0 => ?_⟩
  have e0 := same_new (o := HO.tup [.int 0]) ht0
  have u0 : upd H t0 (HO.tup [.int 0]) t0 = some (.tup [.int 0]) := upd_same
  generalize upd H t0 (HO.tup [.int 0]) = H1 at e0 u0 ⊢
  refine ⟨_, rfl, a.tt, a.ps, rfl, .inl (sqL_same e0 G.tt), ?_⟩
  refine ⟨t0, a.ps.length, [.int 0], rfl, rfl, u0, by simp, by omega, by omega, by decide, fun b H2 e2 hb => ?_⟩
  rw [show (List.replicate a.ps.length [V.int 0]).flatten = (List.replicate a.W.ts.length (0 : Int)).map V.int by rw [List.flatten_replicate_singleton, List.map_replicate, lps]] at hb
  refine ⟨(by show 2 ≤ sizeLine; decide), fun c hc => ?_⟩
  have e3 := same_new (o := HO.tup [.int a.W.s, .ref b]) hc
  have u3 : upd H2 c (HO.tup [.int a.W.s, .ref b]) c = some (.tup [.int a.W.s, .ref b]) := upd_same
  generalize upd H2 c (HO.tup [.int a.W.s, .ref b]) = H3 at e3 u3 ⊢
  have e03 := e0.trans (e2.trans e3)
  exact kk _ _ ⟨c, rfl, e03, b, u3, e3 _ _ hb⟩
theorem lo1 : HT (ι := Unit) (XQ P w K mg base f cdv A outer st H0 E) (nthS loS 1) (fun _ σ H => ∃ bg : Addr, σ = sgQ a (some (.ref bg)) none none none none none none none none none ∧ Same H0 H ∧ PtAt H bg a.W.p0) (fun _ σ H => ∃ (bg ha da fa : Addr), σ = sgQ a (some (.ref bg)) (some (.ref da)) (some (.ref ha)) (some (.ref fa)) none none none none none none ∧ Same H0 H ∧ PtAt H bg a.W.p0 ∧ H0 ha = none ∧ H0 da = none ∧ H0 fa = none ∧ H ha = some (.lst [.ref bg]) ∧ H da = some (NestO P w 1 da []) ∧ H fa = some (.dT [])) := by
  obtain ⟨T, c_next, hr, G⟩ := Z
  refine ⟨_, (ps_par3 (i := 5) (j := 6) (l := 7) (by rfl) sc_llots.nd rfl rfl rfl (by decide) (by decide) (by decide) rfl rfl rfl (pa_cons (pe_dnewN 1) (pa_cons (pe_lst (pa_cons (pv 4) pa_nil)) (pa_cons pe_dnewT pa_nil))) (by rfl)), ?_⟩
  rintro _ D σ H ⟨bg, rfl, e1, pc⟩ kk
  refine fun da hda => ?_
  let H5 := upd H da (NestO P w 1 da [])
  have e5 : Same H H5 := same_new (o := NestO P w 1 da []) hda
  have u5 : H5 da = some (NestO P w 1 da []) := upd_same
  refine ⟨_, rfl, (by show 1 ≤ sizeLine; decide), fun ha hha => ?_⟩
  let H6 := upd H5 ha (HO.lst [.ref bg])
  have e6 : Same H5 H6 := same_new (o := HO.lst [.ref bg]) hha
  have u6 : H6 ha = some (HO.lst [.ref bg]) := upd_same
  refine fun fa hfa => ?_
  let H7 := upd H6 fa (HO.dT [])
  have e7 : Same H6 H7 := same_new (o := HO.dT []) hfa
  have u7 : H7 fa = some (HO.dT []) := upd_same
  have e67 := e6.trans e7
  have e57 := e5.trans e67
  exact ⟨_, _, _, rfl, kk _ _ ⟨bg, ha, da, fa, rfl, e1.trans e57, pc.same fun _ _ z => e57 _ _ z, same_none (e1.trans e5) hha, same_none e1 hda, same_none (e1.trans (e5.trans e6)) hfa, e7 _ _ u6, e67 _ _ u5, u7⟩⟩
theorem lo2 : HT (ι := Unit) (XQ P w K mg base f cdv A outer st H0 E) (nthS loS 2) (fun _ σ H => ∃ (bg ha da fa : Addr), σ = sgQ a (some (.ref bg)) (some (.ref da)) (some (.ref ha)) (some (.ref fa)) none none none none none none ∧ Same H0 H ∧ PtAt H bg a.W.p0 ∧ H0 ha = none ∧ H0 da = none ∧ H0 fa = none ∧ H ha = some (.lst [.ref bg]) ∧ H da = some (NestO P w 1 da []) ∧ H fa = some (.dT [])) (fun _ σ H => ∃ (bg : Addr) (g : Go) (x8 x9 x10 x11 x12 x13 : Option V), σ = sgK a bg g x8 x9 x10 x11 x12 x13 ∧ Gw P w H0 g 0 H ∧ Wi a.W g.hs 0 0) := by
  obtain ⟨T, c_next, hr, G⟩ := Z
  refine ⟨_, (ps_asg pe_bl (pg_sub (pv 5) (pv 4) (set_nest (r64 hr)))), ?_⟩
  rintro _ D σ H ⟨bg, ha, da, fa, rfl, e1, pc, nh, nd, nf, hh, hd, hf⟩ kk
  refine ⟨_, rfl, _, rfl, ?_⟩
  refine ⟨da, bg, [], 1, keyP a.W.p0, rfl, rfl, rfl, hd, pc.key, (fun _ h => nomatch h), (fun h => nomatch h), (by show 0 < sizeLine; decide), ?_⟩
  have dh : ha ≠ da := ne_of hh hd fun z => nomatch z
  have df : fa ≠ da := ne_of hf hd fun z => nomatch z
  have tup : ∀ b us, H b = some (.tup us) → upd H da (NestO P w 1 da ([] ++ [(keyP a.W.p0, bg)])) b = some (.tup us) := fun b us z => by
    rw [upd_ne (ne_of z hd fun z => nomatch z)]
    exact z
  refine kk _ _ ⟨bg, ⟨ha, da, fa, [bg], [a.W.p0], []⟩, _, _, _, _, _, _, rfl, ⟨same_put e1 nd, nh, nd, nf, by rw [upd_ne dh]; exact hh, upd_same, by rw [upd_ne df]; exact hf, rfl, fun i p b h1 h2 => ?_, (fun _ h => nomatch h), List.nodup_nil, fun sh => ?_, Nat.zero_le _⟩, .init⟩
  · obtain rfl : i = 0 := by
      have : i < 1 := (List.getElem?_eq_some_iff.mp h1).1
      omega
    cases h1
    cases h2
    exact pc.same tup
  · constructor
    · intro h
      cases h
    · rintro ⟨p, hp, _⟩
      cases hp
end
end KJ
/-! _law_lots: the walk -/
namespace KJ
open L2 PySem PySem.Spec PyProof.Rows Kx RZ TL
abbrev C1 (P : Program) (w : World) (H0 : Hp) (a : Ga) (bg : Addr) (t tf d : Nat) (σ : L2.St) (H : Hp) : Prop := ∃ (g : Go) (p : Pnt) (b : Addr) (x11 x12 x13 : Option V), σ = sgK a bg g (some (.int (t : Nat))) (some (.int p.1)) (some (.ref b)) x11 x12 x13 ∧ Gw P w H0 g tf H ∧ Wi a.W g.hs t d ∧ g.hs[t]? = some p ∧ H b = some (.tup (p.2.map V.int))
section
variable {P : Program} {w : World} {K : PySem.W.Frag} {mg : Str → Option Value} {base : Heap} {f : Addr} {cdv : Value} {A : Around} {outer : List Env} {st : Shared} {H0 : Hp} {E : XK} {a : Ga} {fd : FuncData}
variable (Z : Lq P w K mg base f cdv A outer st H0 a)
include Z
theorem lb1 : HT (ι := Nat × Addr) (XQ P w K mg base f cdv A outer st H0 E) (nthS (inS (nthS loS 3)) 1) (fun (t, bg) σ H => ∃ (g : Go) (x9 x10 x11 x12 x13 : Option V), σ = sgK a bg g (some (.int (t : Nat))) x9 x10 x11 x12 x13 ∧ Gw P w H0 g t H ∧ Wi a.W g.hs t 0 ∧ t < g.hs.length) (fun (t, bg) σ H => C1 P w H0 a bg t t 0 σ H) := by
  obtain ⟨T, c_next, hr, G⟩ := Z
  refine ⟨_, (ps_asg (pe_ix ix_list (pv 6) (pv 8) (fun _ _ => rfl)) (pg_tup rfl (pgs_cons (pg_name (i := 9) sc_llots.nd rfl (by first | exact Or.inl rfl | exact Or.inr rfl)) (pgs_cons (pg_name (i := 10) sc_llots.nd rfl (by first | exact Or.inl rfl | exact Or.inr rfl)) pgs_nil)))), ?_⟩
  rintro ⟨t, bg⟩ D σ H ⟨g, x9, x10, x11, x12, x13, rfl, gw, wi, lt⟩ kk
  have hp : g.hs[t]? = some g.hs[t] := List.getElem?_eq_getElem lt
  have la : t < g.as.length := by rw [gw.la]; exact lt
  have hA : g.as[t]? = some g.as[t] := List.getElem?_eq_getElem la
  have pa := gw.pts t _ _ hp hA
  obtain ⟨b, b1, b2⟩ := id pa
  refine ⟨_, rfl, _, rfl, g.ha, _, _, _, rfl, rfl, SqL.of gw.here, atI_nat (by rw [List.getElem?_map, hA]; rfl), ?_⟩
  exact ⟨_, _, rfl, SqT.of b1, rfl, _, _, rfl, _, _, rfl, rfl, kk _ _ ⟨g, _, b, x11, x12, x13, rfl, gw, wi, hp, b2⟩⟩
theorem lb2 : HT (ι := Nat × Addr) (XQ P w K mg base f cdv A outer st H0 E) (nthS (inS (nthS loS 3)) 2) (fun (t, bg) σ H => C1 P w H0 a bg t t 0 σ H ∧ t < 60000) (fun (t, bg) σ H => C1 P w H0 a bg t (t + 1) 0 σ H) := by
  obtain ⟨T, c_next, hr, G⟩ := Z
  refine ⟨_, (ps_dput (r1 hr) (pv 7) (pv 10) (pe_callB cr_sorted (by rfl) T.z_sorted (by decide +kernel) (pa_cons (pe_op op_cat (pe_dget2 (r1 hr) (pv 7) (pv 10) (pe_lst pa_nil) ⟨rfl, rfl, rfl, rfl⟩) (pe_lst (pa_cons (pv 9) pa_nil))) pa_nil)) rfl), ?_⟩
  rintro ⟨t, bg⟩ D σ H ⟨⟨g, p, b, x11, x12, x13, rfl, gw, wi, hp, hb⟩, t5⟩ kk
  have wl := wi.len
  have get : DGet H g.fa (.ref b) (valV (kvOf g.fs) (p.2.map Sum.inl)) := DGet.t gw.found (by rw [inl_kV]; exact hb)
  refine ⟨_, rfl, g.fa, rfl, .inr ⟨_, .inl gw.found⟩, _, rfl, (by show 0 ≤ sizeLine; decide), fun l0 hl0 => ?_⟩
  have e0 := same_new (o := HO.lst []) hl0
  have u0 : upd H l0 (HO.lst []) l0 = some (.lst []) := upd_same
  have n0 : l0 ≠ g.ha := fun z => by
    have := gw.here
    rw [← z, show H l0 = none from hl0] at this
    cases this
  generalize upd H l0 (HO.lst []) = H1 at e0 u0 ⊢
  have g1 := gw.same e0
  have get1 : DGet H1 g.fa (.ref b) (valV (kvOf g.fs) (p.2.map Sum.inl)) := DGet.t g1.found (by rw [inl_kV]; exact e0 _ _ hb)
  refine ⟨_, get1, ?_⟩
  refine ⟨_, rfl, (by show 1 ≤ sizeLine; decide), fun l1 hl1 => ?_⟩
  have e2 := same_new (o := HO.lst [.int p.1]) hl1
  have u2 : upd H1 l1 (HO.lst [.int p.1]) l1 = some (.lst [.int p.1]) := upd_same
  generalize upd H1 l1 (HO.lst [.int p.1]) = H3 at e2 u2 ⊢
  have g3 := g1.same e2
  have e03 := e0.trans e2
  -- what was found there before
  obtain ⟨l, el, ys, hl, py⟩ : ∃ (l : Addr), ((valV (kvOf g.fs) (p.2.map Sum.inl)).getD (.ref l0)) = .ref l ∧ ∃ ys : List Int, H3 l = some (.lst (ys.map V.int)) ∧ ys.Perm (prsOf (g.hs.take t) p.2) := by
    by_cases m : p.2 ∈ g.fs.map (·.1)
    · obtain ⟨e, he, ee⟩ := List.mem_map.mp m
      obtain ⟨_, h1⟩ := g3.fat e he
      rw [ee] at h1
      refine ⟨e.2, ?_, h1⟩
      rw [val_kv gw.fnd (l := e.2) (by rw [← ee]; exact he)]
      rfl
    · refine ⟨l0, ?_, ?_⟩
      · rw [val_no m]
        rfl
      · have : (g.hs.take t).filter (fun r => decide (r.2 = p.2)) = [] := List.filter_eq_nil_iff.mpr fun r hr z => m ((gw.fky _).mpr ⟨r, hr, of_decide_eq_true z⟩)
        unfold prsOf
        rw [this]
        exact ⟨[], e2 _ _ u0, .refl _⟩
  have few : (prsOf (g.hs.take t) p.2 ++ [p.1]).length ≤ 8 := by
    have tk1 : g.hs.take (t + 1) = g.hs.take t ++ [p] := by rw [List.take_add_one, hp]; rfl
    have e : prsOf (g.hs.take t) p.2 ++ [p.1] = prsOf (g.hs.take (t + 1)) p.2 := by
      unfold prsOf
      rw [tk1, List.filter_append, List.map_append, List.filter_cons_of_pos (by simp)]
      rfl
    rw [e]
    have nd : (prsOf (g.hs.take (t + 1)) p.2).Nodup := by
      unfold prsOf
      refine List.pairwise_map.mpr (((wi.nd.sublist (List.take_sublist _ _)).filter _).imp_of_mem fun {x y} hx hy ne z => ne ?_)
      exact Prod.ext z ((of_decide_eq_true (List.mem_filter.mp hx).2).trans (of_decide_eq_true (List.mem_filter.mp hy).2).symm)
    have := len_le (n := a.n) nd fun x hx => by
      obtain ⟨q, hq, rfl⟩ := List.mem_map.mp hx
      have r := G.wk.rng (wi.pt q (List.mem_of_mem_take (List.mem_filter.mp hq).1))
      exact G.wk.ok.rch G.wk.s0 G.wk.s1 r.rch
    have := G.wk.ok.n8
    omega
  have ly : ys.length + 1 ≤ 8 := by
    have := py.length_eq
    rw [List.length_append, List.length_singleton] at few
    omega
  rw [el]
  refine ⟨l, l1, _, [.int p.1], rfl, rfl, hl, u2, by rw [sizeLine_eq, List.length_map]; show _ + 1 ≤ _; omega, fun ln hln => ?_⟩
  have u4 : upd H3 ln (HO.lst (ys.map V.int ++ [.int p.1])) ln = some (.lst ((ys ++ [p.1]).map V.int)) := by rw [upd_same, List.map_append]; rfl
  have e4 := same_new (o := HO.lst (ys.map V.int ++ [.int p.1])) hln
  generalize upd H3 ln (HO.lst (ys.map V.int ++ [.int p.1])) = H4 at e4 u4 ⊢
  refine ⟨ln, ys ++ [p.1], rfl, SqL.of u4, by rw [List.length_append, List.length_singleton]; omega, fun zs lz pz _ hlz => ?_⟩
  have e5 := same_new (o := HO.lst (zs.map V.int)) hlz
  have u5 : upd H4 lz (HO.lst (zs.map V.int)) lz = some (.lst (zs.map V.int)) := upd_same
  have g5 := (g3.same e4).same e5
  have n5 : lz ≠ g.ha := fun z => by
    have := (g3.same e4).here
    rw [← z, show H4 lz = none from hlz] at this
    cases this
  generalize upd H4 lz (HO.lst (zs.map V.int)) = H5 at e5 u5 g5 ⊢
  have fl := g5.flen
  have hb5 := ((e03.trans e4).trans e5) _ _ hb
  refine ⟨_, rfl, _, rfl, g.fa, _, rfl, DPut.t (k := p.2.map Sum.inl) (v := .ref lz) g5.found (by rw [inl_kV]; exact hb5) (by unfold kvOf; rw [List.length_map, sizeLine_eq]; omega), ?_⟩
  rw [kv_put]
  refine kk _ _ ⟨{ g with fs := putF g.fs p.2 lz }, p, b, x11, x12, x13, rfl, g5.find hp u5 (pz.trans (py.append_right _)) n5, wi, hp, ?_⟩
  rw [upd_ne (ne_of hb5 g5.found fun z => nomatch z)]
  exact hb5
end
end KJ
/-! _law_lots: one point's deeds -/
namespace KJ
open L2 PySem PySem.Spec PyProof.Rows Kx RZ TL
section
variable {P : Program} {w : World} {K : PySem.W.Frag} {mg : Str → Option Value} {base : Heap} {f : Addr} {cdv : Value} {A : Around} {outer : List Env} {st : Shared} {H0 : Hp} {E : XK} {a : Ga} {fd : FuncData}
variable (Z : Lq P w K mg base f cdv A outer st H0 a)
include Z
theorem lb3 : HT (ι := Nat × Addr) (XQ P w K mg base f cdv A outer st H0 E) (nthS (inS (nthS loS 3)) 3) (fun (t, bg) σ H => C1 P w H0 a bg t (t + 1) 0 σ H ∧ t < 60000) (fun (t, bg) σ H => C1 P w H0 a bg t (t + 1) a.W.ts.length σ H) := by
  obtain ⟨T, c_next, hr, G⟩ := Z
  refine ⟨_, (ps_for PassesOwn.never rfl (pi_range1 (by rfl) T.z_range (pa_cons (pe_callB call_len_seq (by rfl) T.z_len PySem.boot_len (pa_cons (pv 0) pa_nil)) pa_nil)) (pg_name (i := 11) sc_llots.nd rfl (by first | exact Or.inl rfl | exact Or.inr rfl))
  (pss_cons (ps_set (i := 12) sc_llots.nd rfl (by first | exact Or.inl rfl | exact Or.inr rfl) (pe_callC c_next hr pass0 (pa_cons (pe_ix (ix_tupK (K := K)) (pv 10) (pv 11) (fun _ _ => rfl)) (pa_cons (pe_ix (ix_tupK (K := K)) (pv 2) (pv 11) (fun _ _ => rfl)) (pa_cons (pe_ix (ix_tupK (K := K)) (pv 3) (pv 11) (fun _ _ => rfl)) pa_nil)))))
  (pss_cons (ps_set (i := 13) sc_llots.nd rfl (by first | exact Or.inl rfl | exact Or.inr rfl) (pe_tup (pa_cons (pe_ix (ix_tupK (K := K)) (pe_ix ix_list (pv 0) (pv 11) (fun _ _ => rfl)) (pv 9) (fun _ _ => rfl)) (pa_cons (pe_op op_catX (pe_op op_catX (pe_slice sl_cutX (pv 10) po_none (po_some (pv 11))) (pe_tup (pa_cons (pv 12) pa_nil))) (pe_slice sl_cutX (pv 10) (po_some (pe_op op_add (pv 11) pe_int)) po_none)) pa_nil))))
  (pss_one (ps_if (pt_cmpR (op_notInN (r64 hr)) (pv 13) (pv 5) (by rfl))
  (pss_cons (ps_asg pe_bl (pg_sub (pv 5) (pv 13) (set_nest (r64 hr))))
  (pss_one (ps_expr (pe_bm PySem.F.plainAttrs_list PySem.F.slot_list_append PySem.F.type_list_append mt_append (pv 6) (pa_cons (pv 13) pa_nil)))))
  pss_nil))))), ?_⟩
  rintro ⟨t, bg⟩ D σ H ⟨⟨g, p, b, x11, x12, x13, rfl, gw, wi, hp, hb⟩, t5⟩ kk
  have lps := G.rows.length
  have l4 := G.wk.ok.l4
  have R := G.wk
  refine ⟨_, rfl, a.tt, a.ps, rfl, .inl (sqL_same gw.old G.tt), ?_⟩
  refine ⟨a.ps.length, rfl, by omega, by omega, for_range (lo := 0) (n := a.ps.length) (fun d σ' H' => C1 P w H0 a bg t (t + 1) d σ' H') ⟨g, p, b, x11, x12, x13, rfl, gw, wi, hp, hb⟩ ?_ ?_⟩
  · rintro d σ' H1 hd ⟨g, p, b, x11, x12, x13, rfl, gw, wi, hp, hb⟩
    rw [show (0 : Int) + (d : Int) = (d : Int) from Int.zero_add _]
    rw [lps] at hd
    have wl := wi.len
    have pp := wi.pt p (List.mem_of_getElem? hp)
    have rg := R.rng pp
    obtain ⟨px, sh⟩ := p
    have lsh : sh.length = a.W.ts.length := rg.len
    dsimp only at hb hp
    have xr := R.ok.rch R.s0 R.s1 rg.rch
    dsimp only at xr
    have td : a.W.ts[d]? = some a.W.ts[d] := List.getElem?_eq_getElem hd
    obtain ⟨qt, t1, t2⟩ := G.rows.at_ td
    have tl := R.ok.len _ (List.getElem_mem hd)
    have te := R.ok.ent _ (List.getElem_mem hd)
    have gt : a.W.ts.getD d [] = a.W.ts[d] := getD_of td
    have nxt : a.W.nxt (px, sh) d = (tx (a.W.ts.getD d []) px, sh.set d (lnx (a.W.rs.getD d 0) (a.W.es.getD d 0) (sh.getD d 0))) := rfl
    rw [gt] at nxt
    generalize a.W.ts[d] = tA at t2 gt td nxt tl te
    have tr1 : tA[px.toNat]? = some (tA.getD px.toNat 0) := by rw [List.getD_eq_getElem?_getD, List.getElem?_eq_getElem (by omega)]; rfl
    have sat := ints_at (l := sh) (d := d) (by rw [lsh]; exact hd)
    have nat_at : ∀ {ns : List Nat}, d < ns.length → atI (natV ns) ((d : Nat) : Int) = some (V.int (ns.getD d 0 : Nat)) := fun {ns} h => by
      rw [natV_int, ← intO_at]
      exact ints_at (by rw [intO_len]; exact h)
    have rat := nat_at (ns := a.W.rs) (by rw [R.lr]; exact hd)
    have eat := nat_at (ns := a.W.es) (by rw [R.le]; exact hd)
    have old := gw.old
    refine ⟨_, rfl, _, rfl, b, _, _, _, rfl, rfl, SqT.of hb, sat, ?_⟩
    refine ⟨_, rfl, _, rfl, a.r, _, _, _, rfl, rfl, sqT_same old G.r, rat, ?_⟩
    refine ⟨_, rfl, _, rfl, a.e, _, _, _, rfl, rfl, sqT_same old G.e, eat, ?_⟩
    refine ⟨_, _, _, rfl, ?_⟩
    refine ⟨_, rfl, _, rfl, a.tt, a.ps, _, _, rfl, rfl, sqL_same old G.tt, atI_nat t1, _, rfl, qt, _, _, _, rfl, rfl, sqT_same old t2, at_int xr.1 (by rw [List.getElem?_map, tr1]; rfl), ?_⟩
    refine ⟨_, rfl, _, rfl, _, rfl, b, _, rfl, hb, fun c1 H2 e2 h2 => ?_⟩
    refine ⟨_, rfl, (by show 1 ≤ sizeLine; decide), fun c2 hc2 => ?_⟩
    let nv : Int := lnx (a.W.rs.getD d 0) (a.W.es.getD d 0) (sh.getD d 0)
    have e3 := same_new (o := HO.tup [.int nv]) hc2
    have u3 : upd H2 c2 (HO.tup [.int nv]) c2 = some (.tup [.int nv]) := upd_same
    refine ⟨c1, c2, _, _, rfl, rfl, e3 _ _ h2, u3, ?_, fun c3 H4 e4 h4 => ?_⟩
    · have := cutV_length (sh.map V.int) none (some (d : Int))
      rw [List.length_map] at this
      rw [List.length_singleton, sizeLine_eq]
      omega
    have e24 := e2.trans (e3.trans e4)
    refine ⟨_, rfl, _, rfl, _, _, rfl, rfl, _, rfl, b, _, rfl, e24 _ _ hb, fun c5 H5 e5 h5 => ?_⟩
    refine ⟨c3, c5, _, _, rfl, rfl, e5 _ _ h4, h5, ?_, fun c6 H6 e6 h6 => ?_⟩
    · have a1 := cutV_length (sh.map V.int) none (some (d : Int))
      have a2 := cutV_length (sh.map V.int) (some ((d : Int) + 1)) none
      rw [List.length_map] at a1 a2
      rw [List.length_append, List.length_singleton, sizeLine_eq]
      omega
    rw [cut_put (by rw [List.length_map, lsh]; exact hd)] at h6
    have e26 := e24.trans (e5.trans e6)
    refine ⟨(by show 2 ≤ sizeLine; decide), fun c hc => ?_⟩
    have e7 := same_new (o := HO.tup [.int (tA.getD px.toNat 0), .ref c6]) hc
    have u7 : upd H6 c (HO.tup [.int (tA.getD px.toNat 0), .ref c6]) c = some (.tup [.int (tA.getD px.toNat 0), .ref c6]) := upd_same
    generalize upd H6 c (HO.tup [.int (tA.getD px.toNat 0), .ref c6]) = H7 at e7 u7 ⊢
    have pc : PtAt H7 c (a.W.nxt (px, sh) d) := by
      rw [nxt]
      exact ⟨c6, u7, by rw [e7 _ _ h6]; show some (HO.tup _) = some (HO.tup _); rw [List.map_set]⟩
    have g7 := gw.same (e26.trans e7)
    have hb7 := (e26.trans e7) _ _ hb
    have fk : ((g.hs.map keyP).zip g.as).map (·.1) = g.hs.map keyP := List.map_fst_zip (by rw [List.length_map, gw.la]; exact Nat.le_refl _)
    have keys : ∀ x ∈ (g.hs.map keyP).zip g.as, KeyN K H7 1 x.1 x.2 := fun x hx => by
      obtain ⟨i, hi⟩ := List.getElem?_of_mem hx
      obtain ⟨i1, i2⟩ := List.getElem?_zip_eq_some.mp hi
      rw [List.getElem?_map] at i1
      obtain ⟨q, hq, eq⟩ := Option.map_eq_some_iff.mp i1
      rw [← eq]
      exact (g7.pts i q _ hq i2).key
    refine ⟨_, rfl, _, rfl, g.da, c, _, 1, keyP (a.W.nxt (px, sh) d), rfl, rfl, g7.there, pc.key, keys, ?_⟩
    rw [fk]
    by_cases m : a.W.nxt (px, sh) d ∈ g.hs
    · rw [decide_eq_true (List.mem_map.mpr ⟨_, m, rfl⟩ : keyP (a.W.nxt (px, sh) d) ∈ g.hs.map keyP)]
      exact ⟨_, rfl, iteF ⟨g, _, b, _, _, _, rfl, g7, wi.skip hp m, hp, hb7⟩⟩
    · have no : keyP (a.W.nxt (px, sh) d) ∉ g.hs.map keyP := fun z => by
        obtain ⟨q, hq, e⟩ := List.mem_map.mp z
        exact m (by rw [← keyP_inj e]; exact hq)
      rw [decide_eq_false no]
      refine ⟨_, rfl, iteT ?_⟩
      refine ⟨_, rfl, _, rfl, g.da, c, _, 1, keyP (a.W.nxt (px, sh) d), rfl, rfl, rfl, g7.there, pc.key, keys, by rw [fk]; exact no, ?_, ?_⟩
      · rw [List.length_zip, List.length_map, gw.la, Nat.min_self, sizeLine_eq]
        omega
      have hd' : g.ha ≠ g.da := ne_of g7.here g7.there fun z => nomatch z
      refine ⟨_, rfl, .inl ⟨rfl, _, SqL.of (by rw [upd_ne hd']; exact g7.here)⟩, ?_⟩
      have tl' : t + 1 ≤ g.hs.length := (List.getElem?_eq_some_iff.mp hp).1
      have cm := g7.come tl' pc
      have lth := (List.getElem?_eq_some_iff.mp hp).1
      refine ⟨_, rfl, g.ha, _, _, rfl, rfl, (by rw [upd_ne hd']; exact g7.here), by rw [List.length_map, gw.la, sizeLine_eq]; omega, ?_⟩
      refine ⟨{ g with as := g.as ++ [c], hs := g.hs ++ [a.W.nxt (px, sh) d] }, (px, sh), b, _, _, _, rfl, cm, wi.more hp hd m, ?_, ?_⟩
      · show (g.hs ++ [a.W.nxt (px, sh) d])[t]? = some _
        rw [List.getElem?_append_left lth]
        exact hp
      · rw [upd_ne (ne_of hb7 g7.here fun z => nomatch z), upd_ne (ne_of hb7 g7.there fun z => nomatch z)]
        exact hb7
  · rintro σ' H1 h
    rw [lps] at h
    exact kk _ _ h
end
end KJ
/-! _law_lots -/
namespace KJ
open L2 PySem PySem.Spec PyProof.Rows Kx RZ TL
section
variable {P : Program} {w : World} {K : PySem.W.Frag} {mg : Str → Option Value} {base : Heap} {f : Addr} {cdv : Value} {A : Around} {outer : List Env} {st : Shared} {H0 : Hp} {E : XK} {a : Ga} {fd : FuncData}
variable (Z : Lq P w K mg base f cdv A outer st H0 a)
include Z
theorem lrest : HTs (ι := Nat × Addr) (XQ P w K mg base f cdv A outer st H0 E) [nthS (inS (nthS loS 3)) 1, nthS (inS (nthS loS 3)) 2, nthS (inS (nthS loS 3)) 3] (fun (t, bg) σ H => (∃ (g : Go) (x9 x10 x11 x12 x13 : Option V), σ = sgK a bg g (some (.int (t : Nat))) x9 x10 x11 x12 x13 ∧ Gw P w H0 g t H ∧ Wi a.W g.hs t 0 ∧ t < g.hs.length) ∧ t < 60000) (fun (t, bg) σ H => (∃ (g : Go) (x8 x9 x10 x11 x12 x13 : Option V), σ = sgK a bg g x8 x9 x10 x11 x12 x13 ∧ Gw P w H0 g (t + 1) H ∧ Wi a.W g.hs (t + 1) 0)) := by
  have l4 := Z.giv.wk.ok.l4
  have h1 : HT (ι := Nat × Addr) (XQ P w K mg base f cdv A outer st H0 E) (nthS (inS (nthS loS 3)) 1) (fun (t, bg) σ H => (∃ (g : Go) (x9 x10 x11 x12 x13 : Option V), σ = sgK a bg g (some (.int (t : Nat))) x9 x10 x11 x12 x13 ∧ Gw P w H0 g t H ∧ Wi a.W g.hs t 0 ∧ t < g.hs.length) ∧ t < 60000) (fun (t, bg) σ H => C1 P w H0 a bg t t 0 σ H ∧ t < 60000) := HT.by (lb1 Z) fun (t, bg) σ H h => ⟨(t, bg), h.1, fun _ _ q => ⟨q, h.2⟩⟩
  have h2 : HT (ι := Nat × Addr) (XQ P w K mg base f cdv A outer st H0 E) (nthS (inS (nthS loS 3)) 2) (fun (t, bg) σ H => C1 P w H0 a bg t t 0 σ H ∧ t < 60000) (fun (t, bg) σ H => C1 P w H0 a bg t (t + 1) 0 σ H ∧ t < 60000) := HT.by (lb2 Z) fun (t, bg) σ H h => ⟨(t, bg), h, fun _ _ q => ⟨q, h.2⟩⟩
  have h3 : HT (ι := Nat × Addr) (XQ P w K mg base f cdv A outer st H0 E) (nthS (inS (nthS loS 3)) 3) (fun (t, bg) σ H => C1 P w H0 a bg t (t + 1) 0 σ H ∧ t < 60000) (fun (t, bg) σ H => (∃ (g : Go) (x8 x9 x10 x11 x12 x13 : Option V), σ = sgK a bg g x8 x9 x10 x11 x12 x13 ∧ Gw P w H0 g (t + 1) H ∧ Wi a.W g.hs (t + 1) 0)) := HT.by (lb3 Z) fun (t, bg) σ H h => ⟨(t, bg), h, fun _ _ q => by
    obtain ⟨g, p, b, x11, x12, x13, e, gw, wi, hp, hb⟩ := q
    exact ⟨g, _, _, _, _, _, _, e, gw, wi.on hp l4⟩⟩
  exact HTs.cons h1 (HTs.cons h2 (HTs.one h3))
theorem lo3 : HT (ι := Unit) (XQ P w K mg base f cdv A outer st H0 E) (nthS loS 3) (fun _ σ H => ∃ bg : Addr, (∃ (g : Go) (x8 x9 x10 x11 x12 x13 : Option V), σ = sgK a bg g x8 x9 x10 x11 x12 x13 ∧ Gw P w H0 g 0 H ∧ Wi a.W g.hs 0 0)) (fun _ σ H => ∃ (bg : Addr) (g : Go) (x8 x9 x10 x11 x12 x13 : Option V), σ = sgK a bg g x8 x9 x10 x11 x12 x13 ∧ Gw P w H0 g g.hs.length H ∧ Wi a.W g.hs g.hs.length 0) := by
  obtain ⟨tb, hb1, hb2⟩ := lrest (E := E) Z
  obtain ⟨T, c_next, hr, G⟩ := Z
  refine ⟨_, (ps_for PassesOwn.never rfl (pi_range1 (by rfl) T.z_range (pa_cons pe_int pa_nil)) (pg_name (i := 8) sc_llots.nd rfl (by first | exact Or.inl rfl | exact Or.inr rfl))
  (pss_cons (ps_if (pt_cmpR op_eq (pv 8) (pe_callB call_len_seq (by rfl) T.z_len PySem.boot_len (pa_cons (pv 6) pa_nil)) (nomark _))
  (pss_one ps_break)
  pss_nil) hb1)), ?_⟩
  rintro _ D σ H ⟨bg, h0⟩ kk
  refine ⟨60000, rfl, by decide, by decide, for_range (lo := 0) (n := 60000) (fun t σ H => (∃ (g : Go) (x8 x9 x10 x11 x12 x13 : Option V), σ = sgK a bg g x8 x9 x10 x11 x12 x13 ∧ Gw P w H0 g t H ∧ Wi a.W g.hs t 0)) h0 ?_ ?_⟩
  · rintro t σ' H1 ht ⟨g, x8, x9, x10, x11, x12, x13, rfl, gw, wi⟩
    rw [show (0 : Int) + (t : Int) = (t : Int) from Int.zero_add _]
    refine ⟨_, rfl, _, rfl, g.ha, _, rfl, .inl (SqL.of gw.here), ?_⟩
    refine ⟨rfl, _, rfl, ite2 (fun h => ?_) (fun h => ?_)⟩
    · have e : t = g.hs.length := by
        have e := of_decide_eq_true h
        rw [List.length_map, gw.la] at e
        cases e
        rfl
      subst e
      exact kk _ _ ⟨bg, g, _, _, _, _, _, _, rfl, gw, wi⟩
    · have ne' : t ≠ g.hs.length := fun z => h (by rw [List.length_map, gw.la, z]; exact decide_eq_true rfl)
      have tl := wi.tl
      exact hb2 (t, bg) _ _ _ ⟨⟨g, _, _, _, _, _, rfl, gw, wi, by omega⟩, ht⟩ fun _ _ q => q
  · rintro σ' H1 ⟨g, x8, x9, x10, x11, x12, x13, rfl, gw, wi⟩
    have tl := wi.tl
    have fw := G.wk.few wi.nd wi.pt
    have fw2 := G.few
    have e : 60000 = g.hs.length := by omega
    rw [e] at gw wi
    exact kk _ _ ⟨bg, g, _, _, _, _, _, _, rfl, gw, wi⟩
end
/-- what the walk tells: by counts the states -/
structure LotsAt (H : Hp) (W : WkP) (fa : Addr) (fs : List (List Int × Addr)) : Prop where
  found : H fa = some (.dT (kvOf fs))
  nd : (fs.map (·.1)).Nodup
  few : fs.length ≤ 60000
  key : ∀ sh, sh ∈ fs.map (·.1) ↔ ∃ x, W.Pt (x, sh)
  at_ : ∀ e ∈ fs, ∃ xs : List Int, H e.2 = some (.lst (xs.map V.int)) ∧ xs.length ≤ 8 ∧ xs.Nodup ∧ ∀ x, x ∈ xs ↔ W.Pt (x, e.1)
def spLotsL (K : PySem.W.Frag) : Sp := fun vs H Q _ => ∃ a : Ga, vs = [.ref a.tt, .int a.W.s, .ref a.r, .ref a.e] ∧ GivW K H a ∧ ∀ fa fs H', Same H H' → H fa = none → LotsAt H' a.W fa fs → Q (.ref fa) H'
section
variable {P : Program} {w : World} {K : PySem.W.Frag} {mg : Str → Option Value} {base : Heap} {f : Addr} {fd : FuncData} 
theorem ok_llots (F : FnP K "_law_lots" s_law_lots f fd) (T : Mg mg) (c_next : Cal P w K mg base CX0 1 "_law_next" ["number", "turn", "rest"] spLNext) : FnOk P w K mg base CX0 2 f fd ["tables", "first", "rounds", "rests"] (spLotsL K) := by
  refine F.ok sc_llots (fun vs H Q E h => ?_) (fun cdv A outer st H vs Q E hr h => ?_)
  · obtain ⟨a, rfl, _⟩ := h
    rfl
  · obtain ⟨a, rfl, G, k1⟩ := h
    have Z : Lq P w K mg base f cdv A outer st H a := ⟨T, c_next, hr, G⟩
    obtain ⟨t0, a0, b0⟩ := lo0 (E := E) Z
    obtain ⟨t1, a1, b1⟩ := lo1 (E := E) Z
    obtain ⟨t2, a2, b2⟩ := lo2 (E := E) Z
    obtain ⟨t3, a3, b3⟩ := lo3 (E := E) Z
    refine ⟨_, PSs.nox (pss_cons a0 (pss_cons a1 (pss_cons a2 (pss_cons a3 (pss_one (ps_ret (pv 7))))))), ?_⟩
    refine b0 () _ _ _ ⟨rfl, rfl⟩ fun σ0 H1 h0 => b1 () _ _ _ h0 fun σ1 H1 h1 => b2 () _ _ _ h1 fun σ2 H2 h2 => b3 () _ _ _ h2 fun σ3 H3 h3 => ?_
    obtain ⟨bg, g, x8, x9, x10, x11, x12, x13, rfl, gw, wi⟩ := h3
    have fw := G.wk.few wi.nd wi.pt
    have fw2 := G.few
    have all := wi.all
    have fat := gw.fat
    have fky := gw.fky
    have fl := gw.flen
    rw [List.take_length] at fat fky
    refine ⟨_, rfl, k1 g.fa g.fs H3 gw.old gw.nf ⟨gw.found, gw.fnd, by omega, fun sh => ?_, fun e he => ?_⟩⟩
    · rw [fky]
      constructor
      · rintro ⟨p, hp, rfl⟩
        exact ⟨p.1, (all _).mpr hp⟩
      · rintro ⟨x, hx⟩
        exact ⟨_, (all _).mp hx, rfl⟩
    · obtain ⟨_, ys, h1, h2⟩ := fat e he
      have nd : (prsOf g.hs e.1).Nodup := by
        refine List.pairwise_map.mpr ((wi.nd.filter _).imp_of_mem fun {p q} hp hq ne z => ne ?_)
        exact Prod.ext z ((of_decide_eq_true (List.mem_filter.mp hp).2).trans (of_decide_eq_true (List.mem_filter.mp hq).2).symm)
      have mem : ∀ x, x ∈ prsOf g.hs e.1 ↔ a.W.Pt (x, e.1) := fun x => by
        rw [all]
        unfold prsOf
        rw [List.mem_map]
        constructor
        · rintro ⟨p, hp, rfl⟩
          obtain ⟨h1, h2⟩ := List.mem_filter.mp hp
          rw [← of_decide_eq_true h2]
          exact h1
        · intro h
          exact ⟨_, List.mem_filter.mpr ⟨h, decide_eq_true rfl⟩, rfl⟩
      refine ⟨ys, h1, ?_, (h2.nodup_iff).mpr nd, fun x => (h2.mem_iff).trans (mem x)⟩
      have := len_le (n := a.n) nd fun x hx => G.wk.ok.rch G.wk.s0 G.wk.s1 (G.wk.rng ((mem x).mp hx)).rch
      have := G.wk.ok.n8
      rw [h2.length_eq]
      omega
end
end KJ
/-! for x in f(..).values(): the dict is made by the call, none else holds it; it stays locked -/
namespace Kx
open L2 PySem PySem.Spec PyProof.Rows
def iValsL (td : TE) : TI := fun σ H R => td σ H fun x H1 => ∃ d kvs, x = .ref d ∧ H1 d = some (.dT kvs) ∧ ∀ o, R (Itdt d o kvs) (upd H1 d (.frz o (.dT kvs)))
theorem pi_valuesL {X : Cx} {tg e : Expr} {td : TE} {apos cpos : Pos} (he : PE X e td) (hbase : attributeBase e "values" X.env (eval e X.env) = eval e X.env := by rfl) (hline : (apos.endLine == cpos.line) = true := by rfl) : PI X tg (.Call (.Attribute e "values" apos) [] [] cpos) (iValsL td) := by
  refine ⟨fun pins s σ H R I h => ?_⟩
  refine wpAny_Call_method (T := "dict") (id := "dict.values") hbase rfl hline F.plainAttrs_dict F.slot_dict_values F.type_dict_values (thn (he.run pins s σ H _ I h) fun u s1 ⟨x, H1, I1, rx, d, kvs, ex, hd0, q0⟩ => ?_)
  subst ex
  obtain rfl : u = Value.ref d := rx
  obtain ⟨od, I1⟩ := I1.lock hd0 trivial
  have q := q0 od
  obtain ⟨hs, hgd, hx, es, ep, hdt, hsz, ent⟩ := frzT_val I1 upd_same
  refine ⟨⟨_, hgd, hx.1⟩, fun a e => ?_, ?_⟩
  · cases e
    exact ⟨_, hgd, hx.2.1⟩
  have I2 : Inv X pins σ (upd H1 d (.frz od (.dT kvs))) { s1 with heap := s1.heap.push { cls := .type "dict_values", data := .fields #[.ref d] } } := I1.kept (t' := s1.toks) fun b ob q => Heap.get?_push_of_some _ q
  have fin : wpAny (model X.prog X.w) X.A (pyIter (.ref s1.heap.objs.size)) (PIE X pins σ tg R) X.xe { s1 with heap := s1.heap.push { cls := .type "dict_values", data := .fields #[.ref d] } } := by
    refine DSub.iter_vals (a := d) (Heap.get?_push_size _ rfl) (Heap.get?_push_of_some _ hgd) hdt (pi_one (tk := s1.toks) I2 _ (turn_valsT _ hdt) ⟨?_, ?_⟩ q)
    · rw [Heap.get?_push_size _ rfl, hsz]
    · rw [Heap.size_push]
      exact Nat.ne_of_gt (Nat.lt_succ_of_lt (Heap.lt_size hgd))
  show wpAny _ _ (callWith cpos (.builtin "dict.values") [.ref d] [] []) _ X.xe s1
  exact method_meetsIn F.slot_dict_values F.entry_dict_values rfl (PySem.evalArgs_none ⟨rfl, ⟨_, hgd, hx.1⟩, F.args_dict_values_1 _, _, meets_values_own d hs, ⟨_, hgd, hx.1⟩, fin⟩)
end Kx
/-! all(a list of bools) -/
namespace Kx
open L2 PySem PySem.Spec PyProof.Rows
theorem dp_bls {K : PySem.W.Frag} {H : Hp} : ∀ (bs : List Bool), DpAll K H (bs.map V.bl) (bs.map PyData.bool)
  | [] => .nil
  | b :: bs => .cons (.bl b) (dp_bls bs)
theorem plain_bls : ∀ (bs : List Bool), PyData.plainAll (bs.map PyData.bool) = true
  | [] => by simp [PyData.plainAll]
  | b :: bs => by
    have := plain_bls bs
    simp [PyData.plainAll, PyData.plain, this]
theorem call_allL {X : Cx} (hc : X.calm = true) : CallR X (.builtin "all") (fun xs H Q => ∃ (p : Addr) (bs : List Bool), xs = [.ref p] ∧ SqL X.K H p (bs.map V.bl) ∧ Q (.bl (bs.all id)) H) := by
  intro pins s σ H xs us Q I r h
  obtain ⟨p, bs, rfl, hq, q⟩ := h
  obtain ⟨u, rfl, rx⟩ := vals1 r
  cases rx
  obtain ⟨its, rv, pl, hz⟩ := I.list hq
  obtain ⟨as, ra⟩ := Dp.readsAll I _ _ _ (dp_bls bs) rv
  refine PySem.W.all_list_data (I.ok.hd hc) pl.isList (by simpa using ra) (plain_bls bs) (fun x hx => ?_) fun h' tk k => ⟨.bl (bs.all id), H, I.kept (t' := tk) k, ?_, q⟩
  · obtain ⟨b, _, rfl⟩ := List.mem_map.mp hx
    simp [PyData.fits63]
  · have e : (bs.map PyData.bool).all PyData.truthy = bs.all id := by
      rw [List.all_map]
      rfl
    rw [e]
    rfl
end Kx
/-! _law_tell -/
namespace KJ
open L2 PySem PySem.Spec PyProof.Rows Kx RZ TL
def spLTell (K : PySem.W.Frag) : Sp := fun vs H Q _ => ∃ a : Ga, vs = [.ref a.tt, .int a.W.s, .ref a.r, .ref a.e] ∧ GivW K H a ∧ ∀ (b : Bool) H', Same H H' → (b = true ↔ a.W.Tell) → Q (.bl b) H'
section
variable {P : Program} {w : World} {K : PySem.W.Frag} {mg : Str → Option Value} {base : Heap} {f : Addr} {fd : FuncData} {a : Ad} {CM : Addr}
theorem sc_ltell : FnScope ["tables", "first", "rounds", "rests", "states"] ["tables", "first", "rounds", "rests"] (defScope s_law_tell) := ⟨rfl, rfl, rfl, by decide +kernel, rfl, by decide +kernel, by decide +kernel⟩
theorem ok_ltell (F : FnP K "_law_tell" s_law_tell f fd) (T : Mg mg) (c_lots : Cal P w K mg base CX0 2 "_law_lots" ["tables", "first", "rounds", "rests"] (spLotsL K)) : FnOk P w K mg base CX0 3 f fd ["tables", "first", "rounds", "rests"] (spLTell K) := by
  refine F.ok sc_ltell (fun vs H Q E h => ?_) (fun cdv A outer s H vs Q E hr h => ?_)
  · obtain ⟨a, rfl, _⟩ := h
    rfl
  · obtain ⟨a, rfl, G, k⟩ := h
    refine ⟨_, PSs.nox (pss_one (ps_ret (pe_callB (call_allL (by rfl)) (by rfl) T.z_all (by decide +kernel) (pa_cons (pe_lc (own := [("states", 4)]) (by rfl) sc_ltell.nd (pi_valuesL (pe_callC c_lots hr pass0 (pa_cons (pv 0) (pa_cons (pv 1) (pa_cons (pv 2) (pa_cons (pv 3) pa_nil)))))) (blkOk_by (own := [("states", 4)]) (N := ["tables", "first", "rounds", "rests", "states"]) (sc := defScope s_law_tell) (by decide +kernel)) (fun _ _ _ _ _ => (pg_name (i := 4) sc_ltell.nd rfl (by first | exact Or.inl rfl | exact Or.inr rfl))) (fun _ _ _ _ _ => pts_nil) (fun _ _ _ _ _ => (pe_cmpR op_eq (pe_callB (call_lenK (K := K)) (by rfl) T.z_len PySem.boot_len (pa_cons (pv 4) pa_nil)) pe_int (nomark _)))) pa_nil)))), ?_⟩
    refine ⟨_, rfl, _, rfl, _, rfl, _, rfl, a, rfl, G, fun fa fs H1 e1 nf lo => ?_⟩
    refine ⟨fa, kvOf fs, rfl, lo.found, fun od D0 hD => ?_⟩
    have fD : fa ≠ D0 := fun z => by rw [← z, upd_same] at hD; cases hD
    have nD : H1 D0 = none := by rw [upd_ne (Ne.symm fD)] at hD; exact hD
    have lkv : (kvOf fs).length = fs.length := by unfold kvOf; rw [List.length_map]
    have few5 := lo.few
    refine turns (n := fs.length) (fun i H' => ∃ bs : List Bool, H' fa = some (.frz od (.dT (kvOf fs))) ∧ (∀ b o, b ≠ fa → H1 b = some o → H' b = some o) ∧ H' D0 = some (.lst (bs.map V.bl)) ∧ bs.length = i ∧ (bs.all id = true ↔ ∀ e ∈ fs.take i, ∀ x y, a.W.Pt (x, e.1) → a.W.Pt (y, e.1) → x = y)) ⟨[], by rw [upd_ne fD]; exact upd_same, fun b o nb hb => by rw [upd_ne (fun z => by rw [z, nD] at hb; cases hb), upd_ne nb]; exact hb, upd_same, rfl, by simp⟩ ?_ ?_
    · rintro i H7 hi ⟨bs, f7, ke7, h7, len7, all7⟩
      have fi : fs[i]? = some fs[i] := List.getElem?_eq_getElem hi
      have kvi : (kvOf fs)[i]? = some (fs[i].1.map Sum.inl, V.ref fs[i].2) := by unfold kvOf; rw [List.getElem?_map, fi]; rfl
      refine ⟨⟨f7, by rw [lkv]; exact hi⟩, ?_⟩
      rintro v H8 ⟨rfl, kk, hv⟩
      rw [kvi] at hv
      cases hv
      have me := List.getElem_mem hi
      obtain ⟨xs, a1, a2, a3, a4⟩ := lo.at_ _ me
      have key := (lo.key fs[i].1).mp (List.mem_map.mpr ⟨_, me, rfl⟩)
      have tk : fs.take (i + 1) = fs.take i ++ [fs[i]] := by rw [List.take_add_one, fi]; rfl
      generalize fs[i] = e at fi kvi me a1 a2 a3 a4 key tk
      have a1' := ke7 _ _ (ne_of a1 lo.found fun z => nomatch z) a1
      refine ⟨rfl, yes ((if_pos rfl).mpr ?_)⟩
      refine ⟨_, rfl, e.2, _, rfl, .inl (SqL.of a1'), ?_⟩
      refine ⟨rfl, ?_⟩
      refine ⟨_, h7, by rw [List.length_map, sizeLine_eq]; omega, bs ++ [decide (V.int ((xs.map V.int).length : Nat) = V.int 1)], by rw [upd_ne fD]; exact f7, fun b o nb hb => ?_, ?_, by rw [List.length_append, len7]; rfl, ?_⟩
      · rw [upd_ne (fun z => by rw [z, nD] at hb; cases hb)]
        exact ke7 b o nb hb
      · rw [upd_same, List.map_append]
        rfl
      · rw [List.all_append, Bool.and_eq_true, all7, tk]
        have one : ([decide (V.int ((xs.map V.int).length : Nat) = V.int 1)].all id = true) ↔ ∀ x y, a.W.Pt (x, e.1) → a.W.Pt (y, e.1) → x = y := by
          rw [show ([decide (V.int ((xs.map V.int).length : Nat) = V.int 1)].all id) = decide (V.int ((xs.map V.int).length : Nat) = V.int 1) by simp [List.all]]
          rw [decide_eq_true_iff, List.length_map]
          constructor
          · intro l x y hx hy
            have l : xs.length = 1 := by
              have : ((xs.length : Nat) : Int) = 1 := V.int.inj l
              omega
            obtain ⟨z, rfl⟩ := List.length_eq_one_iff.mp l
            exact (List.mem_singleton.mp ((a4 x).mpr hx)).trans (List.mem_singleton.mp ((a4 y).mpr hy)).symm
          · intro h
            obtain ⟨x, hx⟩ := key
            have mx := (a4 x).mpr hx
            have : xs.length = 1 := by
              match xs, a3, a4, mx with
              | [z], _, _, _ => rfl
              | z :: u :: zs, nd, a4, _ =>
                exfalso
                exact (List.nodup_cons.mp nd).1 (by rw [h z u ((a4 z).mp (List.mem_cons_self ..)) ((a4 u).mp (List.mem_cons_of_mem _ (List.mem_cons_self ..)))]; exact List.mem_cons_self ..)
            rw [this]
            rfl
        rw [one]
        constructor
        · rintro ⟨h1, h2⟩ f hf
          rcases List.mem_append.mp hf with hf | hf
          · exact h1 f hf
          · rw [List.mem_singleton.mp hf]
            exact h2
        · exact fun h => ⟨fun f hf => h f (List.mem_append_left _ hf), h e (List.mem_append_right _ (List.mem_singleton.mpr rfl))⟩
    · rintro H7 ⟨bs, f7, ke7, h7, len7, all7⟩
      refine ⟨⟨f7, by rw [lkv]; exact Nat.le_refl _⟩, ?_⟩
      rw [List.take_length] at all7
      refine ⟨D0, bs, rfl, SqL.of h7, ?_⟩
      refine k _ _ (fun b o hb => ke7 b o (fun z => by rw [z, nf] at hb; cases hb) (e1 _ _ hb)) (all7.trans ⟨fun h sh x y hx hy => ?_, fun h e he x y hx hy => h _ _ _ hx hy⟩)
      obtain ⟨e, he, ee⟩ := List.mem_map.mp ((lo.key sh).mpr ⟨x, hx⟩)
      subst ee
      exact h e he x y hx hy
end
end KJ
/-! set(xs), xs a list of whole numbers -/
namespace Kx
open L2 PySem PySem.Spec PySem.Calls PyProof.Rows
/-- a set that is new -/
abbrev set0 (w : World) : Obj := { cls := .type "set", dict := none, data := .set #[] 0 (.fresh 0 0 (!w.params.followText "set-order")) }
section
variable {P : Program} {w : World} {A : Around} {E : Value → Shared → Prop} {s : Shared}
theorem set_of_list {l : Addr} {items : Array Value} (ns : List Int) {Q : Value → Shared → Prop} (calm : A.handled = none) (isL : s.heap.IsList l items) (are : IntsAre items.toList ns) (room : ns.length + 1 < scanBound)
    (h : ∀ (h' : Heap) (tk c : Nat), SetR w h' s.heap.objs.size (fun j => decide (j ∈ ns)) c → c ≤ ns.length → (∀ b o, s.heap.get? b = some o → h'.get? b = some o) → Q (.ref s.heap.objs.size) { s with heap := h', toks := tk }) : wpAny (model P w) A (call (.type "set") [.ref l]) Q E s := by
  have size : items.size = ns.length := by have q := are.length; rwa [Array.length_toList] at q
  obtain ⟨_, _, line⟩ := F.called_set.mro
  have made := F.called_set.made
  have subs := F.called_set.sub
  refine wpAny_call (codeAny_of_tree (show wpAny _ _ (callAny (.type "set") _) _ _ _ from wpAny_pure ⟨Code.quiet_builtin _ (by decide +kernel), codeAny_builtin F.entry_type_call ?_⟩))
  rw [Around.under_plain (weight_type_call_type "set" [.ref l] []) rfl]
  have notT := F.called_set.notType
  have can := F.called_set.canCreate
  have tcall := F.typeCall_set_1 (.ref l)
  repeat (any_goals (first | assumption | wp_step))
  refine codeAny_mono (code_set_led1 (.ref l) (E := E) (Q₁ := fun v t => v = .ref s.heap.objs.size ∧ t = { s with heap := s.heap.push (set0 w) }) ⟨rfl, rfl⟩) fun r t hr => ?_
  match r, hr with
  | .error e, hr => exact hr
  | .ok .next, hr => exact hr.elim
  | .ok .brk, hr => exact hr.elim
  | .ok .cont, hr => exact hr.elim
  | .ok (.ret obj), hr =>
    obtain ⟨rfl, rfl⟩ := hr
    have new : (s.heap.push (set0 w)).get? s.heap.objs.size = some (set0 w) := Heap.get?_push_size _ rfl
    have isS : Shared.TypeIs { s with heap := s.heap.push (set0 w) } (.ref s.heap.objs.size) "set" := ⟨_, new, rfl⟩
    have look := F.called_set.init.lookup
    have bnd := F.called_set.init.bind (.ref s.heap.objs.size)
    repeat (any_goals (first | assumption | wp_step))
    refine codeAny_mono (codeAny_call_builtin (R := wants (fun r t => r = .none ∧ ∃ h' tk c, t = { s with heap := h', toks := tk } ∧ SetR w h' s.heap.objs.size (fun j => decide (j ∈ ns)) c ∧ c ≤ ns.length ∧ (∀ b o, s.heap.get? b = some o → h'.get? b = some o)) E)
      F.called_set.init.plain F.entry_set_init (check_set_init_1 isS ?_)) fun r t hr => ?_
    · obtain ⟨⟨oc, od, dt, sl⟩, at_, e1, n, e2⟩ := isL
      simp only at e1 e2
      subst e1 e2
      have there : (s.heap.push (set0 w)).get? l = some { cls := .type "list", dict := od, data := .seq items n, slots := sl } := Heap.get?_push_of_some _ at_
      have sub1 := F.sub_list_set
      have sub2 := F.sub_list_frozenset
      have noD : (Value.type "list" == Value.type "dict") = false := by decide
      have isL1 : (s.heap.push (set0 w)).IsList l items := ⟨_, there, rfl, n, rfl⟩
      unfold Builtin.«set.__init__» noKeywords Builtin.Frozenset.updateFrom
      generalize gi : pyIter = it
      wp_walk
      subst gi
      refine wpAny_pyIter_list isL1 (wpAny_bind (wpAny_runValue ?_))
      have lt := Heap.lt_size at_
      have z1 : (s.heap.push (set0 w)).objs.size = s.heap.objs.size + 1 := Heap.size_push ..
      have ne1 : l ≠ (s.heap.push (set0 w)).objs.size := by rw [z1]; exact Nat.ne_of_lt (Nat.lt_succ_of_lt lt)
      refine set_update_ints ((Walks.list (show A.in1.in1.in1.handled = none by simp [calm]) _ l ne1 items).toS) s.heap.objs.size (by rw [z1]; simp only [List.mem_cons, List.not_mem_nil, or_false, not_or]; exact ⟨Nat.ne_of_lt (Nat.lt_succ_self _), Nat.ne_of_gt lt⟩) ns size room (fun i v hv => ?_) (items.size - 0) 0 _ (by omega) (Nat.zero_le _)
        ⟨⟨_, Heap.get?_push_size _ rfl, rfl, rfl⟩, (isL1.push _)⟩ ⟨0, Nat.le_refl 0, setR_new_at (Heap.get?_push_of_some _ new)⟩ fun t c moved le set => ?_
      · have hi : i < ns.length := by rw [← size]; exact (Array.getElem?_eq_some_iff.mp hv).1
        obtain ⟨tk, e⟩ := IntsAre.int_at are i v (by rw [Array.getElem?_toList]; exact hv)
        exact ⟨ns[i], tk, List.getElem?_eq_getElem hi, by rw [e, List.getD_eq_getElem?_getD, List.getElem?_eq_getElem hi] <;> rfl⟩
      · obtain ⟨h', g2, d2, tk, os2⟩ := t
        have eg : g2 = s.gens := moved.gens
        have ed : d2 = s.drawn := moved.drawn
        have eo : os2 = s.os := moved.os
        subst eg ed eo
        refine wpAny_pure (show wpAny _ _ (ret Value.none) _ _ _ from ?_)
        rw [size] at le
        refine wpAny_pure ⟨rfl, h', tk, c, rfl, set, le, fun b o e => moved.heap b o ?_ (Heap.get?_push_of_some _ (Heap.get?_push_of_some _ e))⟩
        have := Heap.lt_size e
        simp only [List.mem_cons, List.not_mem_nil, or_false, not_or]
        rw [z1]
        exact ⟨Nat.ne_of_lt this, Nat.ne_of_lt (Nat.lt_succ_of_lt this)⟩
    · match r, hr with
      | .error e, hr => exact hr
      | .ok .next, hr => exact hr.elim
      | .ok .brk, hr => exact hr.elim
      | .ok .cont, hr => exact hr.elim
      | .ok (.ret r), hr =>
        obtain ⟨rfl, h', tk, c, rfl, set, le, keep⟩ := hr
        repeat (any_goals (first | assumption | wp_step))
        exact h _ _ _ set le keep
end
/-- set(xs): at most 60 numbers -/
theorem call_setI {X : Cx} (hc : X.calm = true) : CallR X (.type "set") (fun xs H Q => ∃ (l : Addr) (ns : List Int), xs = [.ref l] ∧ SqL X.K H l (ns.map V.int) ∧ ns.length ≤ 60 ∧ ∀ p c, H p = none → c ≤ ns.length → Q (.ref p) (upd H p (SetO X.w p (fun j => decide (j ∈ ns)) c))) := by
  intro pins s σ H vs us Q I r h
  obtain ⟨l, ns, rfl, hl, len, q⟩ := h
  rw [Vals.ref1 r]
  obtain ⟨its, rv, pl, _⟩ := I.list hl
  refine set_of_list ns (I.ok.hd hc) pl.isList (by simpa using rv.ints) (by unfold scanBound; omega) fun h' tk c set le keep => ?_
  exact ⟨.ref s.heap.objs.size, upd H s.heap.objs.size (SetO X.w s.heap.objs.size (fun j => decide (j ∈ ns)) c), I.laid (t' := tk) keep (Nat.le_refl _) (setO_new set), rfl, q _ c (I.hok.fresh (Nat.le_refl _)) le⟩
end Kx
/-! _law_reached, _law_commute -/
namespace KJ
open L2 PySem PySem.Spec PyProof.Rows Kx RZ TL
theorem op_notInK {X : Cx} {K : PySem.W.Frag} (hK : X.K = K := by rfl) : OpR X (compareOp .NotIn) (rIn K true) := by
  subst hK
  exact op_notIn_seq
structure GivT (K : PySem.W.Frag) (H : Hp) (tt : Addr) (ps : List V) (n : Nat) (ts : List (List Int)) (s : Int) : Prop where
  tt : SqL K H tt ps
  rows : RowsBy (SqT K H) ps ts
  ok : Mok n ts
  s0 : 0 ≤ s
  s1 : s < (n : Int)
def spLReached (K : PySem.W.Frag) : Sp := fun vs H Q _ => ∃ (tt : Addr) (ps : List V) (n : Nat) (ts : List (List Int)) (s : Int), vs = [.ref tt, .int s] ∧ GivT K H tt ps n ts s ∧
  ∀ (l : Addr) (L : List Int) H', Same H H' → H l = none → H' l = some (.lst (L.map V.int)) → L.Pairwise (· < ·) → (∀ x, x ∈ L ↔ Rch ts s x) → Q (.ref l) H'
section
variable {P : Program} {w : World} {K : PySem.W.Frag} {mg : Str → Option Value} {base : Heap} {f : Addr} {fd : FuncData} {a : Ad} {CM : Addr}
theorem sc_lreached : FnScope ["tables", "first", "found", "at", "state", "table"] ["tables", "first"] (defScope s_law_reached) := ⟨rfl, rfl, rfl, by decide +kernel, rfl, by decide +kernel, by decide +kernel⟩
theorem ok_lreached (F : FnP K "_law_reached" s_law_reached f fd) (T : Mg mg) : FnOk P w K mg base CX0 1 f fd ["tables", "first"] (spLReached K) := by
  refine F.ok sc_lreached (fun vs H Q E h => ?_) (fun cdv A outer s H vs Q E hr h => ?_)
  · obtain ⟨tt, ps, n, ts, s, rfl, _⟩ := h
    rfl
  · obtain ⟨tt, ps, n, ts, s0, rfl, G, k⟩ := h
    refine ⟨_, PSs.nox (pss_cons (ps_mid (ps_set (i := 2) sc_lreached.nd rfl (by first | exact Or.inl rfl | exact Or.inr rfl) (pe_lst (pa_cons (pv 1) pa_nil)))) (pss_cons (ps_mid (ps_for PassesOwn.never rfl (pi_range1 (by rfl) T.z_range (pa_cons (pe_callB call_len_seq (by rfl) T.z_len PySem.boot_len (pa_cons (pe_ix ix_list (pv 0) pe_int (fun _ _ => rfl)) pa_nil)) pa_nil)) (pg_name (i := 3) sc_lreached.nd rfl (by first | exact Or.inl rfl | exact Or.inr rfl))
  (pss_one (ps_if (pt_cmpR op_lt (pv 3) (pe_callB call_len_seq (by rfl) T.z_len PySem.boot_len (pa_cons (pv 2) pa_nil)) (nomark _))
  (pss_one (ps_set (i := 2) sc_lreached.nd rfl (by first | exact Or.inl rfl | exact Or.inr rfl) (pe_op op_cat (pv 2) (pe_lc (own := [("state", 4)]) (by rfl) sc_lreached.nd (pi_list (pe_callB (cr_sortedSet rfl) (by rfl) T.z_sorted (by decide +kernel) (pa_cons (pe_callTy (call_setI rfl) (by rfl) T.z_set (by decide +kernel) (pa_cons (pe_lc (own := [("table", 5)]) (by rfl) sc_lreached.nd (pi_list (pv 0)) (blkOk_by (own := [("table", 5)]) (N := ["tables", "first", "found", "at", "state", "table"]) (sc := defScope s_law_reached) (by decide +kernel)) (fun _ _ _ _ _ => (pg_name (i := 5) sc_lreached.nd rfl (by first | exact Or.inl rfl | exact Or.inr rfl))) (fun _ _ _ _ _ => pts_nil) (fun _ _ _ _ _ => (pe_ix (ix_tupK (K := K)) (pv 5) (pe_ix (ix_listK (K := K)) (pv 2) (pv 3) (fun _ _ => rfl)) (fun _ _ => rfl)))) pa_nil)) pa_nil))) (blkOk_by (own := [("state", 4)]) (N := ["tables", "first", "found", "at", "state", "table"]) (sc := defScope s_law_reached) (by decide +kernel)) (fun _ _ _ _ _ => (pg_name (i := 4) sc_lreached.nd rfl (by first | exact Or.inl rfl | exact Or.inr rfl))) (fun _ _ _ _ _ => (pts_one (pt_cmpR (op_notInK (K := K)) (pv 4) (pv 2) (by rfl)))) (fun _ _ _ _ _ => (pv 4))))))
  pss_nil)))) (pss_one (ps_ret (pe_callB cr_sorted (by rfl) T.z_sorted (by decide +kernel) (pa_cons (pv 2) pa_nil)))))), ?_⟩
    have ok := G.ok
    have l1 := ok.l1
    have l4 := ok.l4
    have n8 := ok.n8
    have lps := G.rows.length
    refine ⟨fun σ' H' => ∃ A : Addr, σ' = [some (.ref tt), some (.int s0), some (.ref A), none, none, none] ∧ Same H H' ∧ H A = none ∧ H' A = some (.lst ([s0].map V.int)), ?_, ?_⟩
    · exact ⟨_, rfl, (by show 1 ≤ sizeLine; decide), fun A hA => ⟨A, rfl, same_new hA, hA, upd_same⟩⟩
    rintro σ' H1 ⟨A0, rfl, e1, nA0, hA0⟩
    refine ⟨fun σ' H' => ∃ (A : Addr) (F : List Int) (x3 : Option V), σ' = [some (.ref tt), some (.int s0), some (.ref A), x3, none, none] ∧ Same H H' ∧ H' A = some (.lst (F.map V.int)) ∧ Fnd ts s0 F F.length, ?_, ?_⟩
    · obtain ⟨q0, p0, hq0⟩ := G.rows.at_ (i := 0) (t := ts[0]) (List.getElem?_eq_getElem (by omega))
      have tl0 : ts[0].length = n := ok.len _ (List.getElem_mem _)
      generalize ts[0] = t0 at hq0 tl0
      refine ⟨_, rfl, tt, ps, _, _, rfl, rfl, sqL_same e1 G.tt, (show atI ps 0 = some (.ref q0) from atI_nat (j := 0) p0), q0, _, rfl, .inr (sqT_same e1 hq0), ?_⟩
      rw [List.length_map, tl0]
      have bF : ∀ {F : List Int} {j : Nat}, Fnd ts s0 F j → F.length ≤ n := fun {F j} f => len_le f.nd fun x hx => ok.rch G.s0 G.s1 (f.rch x hx)
      refine ⟨n, rfl, by omega, by omega, for_range (lo := 0) (n := n) (fun i σ' H' => ∃ (A : Addr) (F : List Int) (x3 : Option V), σ' = [some (.ref tt), some (.int s0), some (.ref A), x3, none, none] ∧ Same H H' ∧ H' A = some (.lst (F.map V.int)) ∧ Fnd ts s0 F (min i F.length)) ⟨A0, [s0], _, rfl, e1, hA0, ⟨by simp, fun x hx => by rw [List.mem_singleton.mp hx]; exact .refl, by simp, Nat.zero_le _, fun i x h => absurd h (Nat.not_lt_zero i)⟩⟩ ?_ ?_⟩
      · rintro i σ' H2 hi ⟨A, F, x3, rfl, e2, hA, fnd⟩
        rw [show (0 : Int) + (i : Int) = (i : Int) from Int.zero_add _]
        have lF := bF fnd
        refine ⟨_, rfl, _, rfl, A, _, rfl, .inl (SqL.of hA), _, _, rfl, rfl, _, rfl, ite2 (fun h => ?_) (fun h => ?_)⟩
        · have lt : i < F.length := by
            have : ((i : Nat) : Int) < ((F.map V.int).length : Nat) := by simpa using h
            rw [List.length_map] at this
            omega
          rw [Nat.min_eq_left (by omega)] at fnd
          have ex : F[i]? = some F[i] := List.getElem?_eq_getElem lt
          have rx := fnd.rch _ (List.getElem_mem lt)
          have xb := ok.rch G.s0 G.s1 rx
          generalize F[i] = x at ex rx xb
          refine ⟨_, rfl, ?_⟩
          refine ⟨_, rfl, tt, rfl, ⟨_, sqL_same e2 G.tt⟩, fun D hD => ?_⟩
          have atF : atI (F.map V.int) ((i : Nat) : Int) = some (.int x) := atI_nat (by rw [List.getElem?_map, ex]; rfl)
          refine lc_list (xs := ps) (fun j H' => Same H2 H' ∧ H' D = some (.lst (((ts.take j).map fun t => tx t x).map V.int))) ⟨same_new hD, upd_same⟩ (fun j H' _ z => sqL_same (e2.trans z.1) G.tt) ?_ ?_
          · rintro j v H3 hv ⟨e3, h3⟩
            have hj : j < ts.length := by rw [← lps]; exact (List.getElem?_eq_some_iff.mp hv).1
            have tj : ts[j]? = some ts[j] := List.getElem?_eq_getElem hj
            obtain ⟨q, g1, g2⟩ := G.rows.at_ tj
            rw [hv] at g1
            cases g1
            have tl := ok.len _ (List.getElem_mem hj)
            have ir : InR ts[j] := fun z hz => by rw [tl]; exact ok.ent _ (List.getElem_mem _) z hz
            have tk : ts.take (j + 1) = ts.take j ++ [ts[j]] := by rw [List.take_add_one, tj]; rfl
            generalize ts[j] = t at g2 tl ir tk
            obtain ⟨a1, a2, a3⟩ := ir.at_ xb.1 (by rw [tl]; exact xb.2)
            refine ⟨rfl, yes ((if_pos rfl).mpr ?_)⟩
            refine ⟨_, rfl, _, rfl, _, rfl, A, _, _, _, rfl, rfl, SqL.of (e3 _ _ hA), atF, ?_⟩
            refine ⟨q, _, _, _, rfl, rfl, sqT_same (e2.trans e3) g2, at_int xb.1 a1, ?_⟩
            refine ⟨_, h3, by rw [List.length_map, List.length_map, List.length_take, sizeLine_eq]; omega, same_put e3 hD, ?_⟩
            rw [upd_same, tk, List.map_append, List.map_append]
            rfl
          rintro H3 ⟨e3, h3⟩
          rw [lps, List.take_length] at h3
          refine ⟨D, _, rfl, SqL.of h3, by rw [List.length_map]; omega, fun S c hS hc => ?_⟩
          let H4 := upd H3 S (SetO w S (fun j => decide (j ∈ ts.map fun t => tx t x)) c)
          have e4 : Same H3 H4 := same_new (o := SetO w S (fun j => decide (j ∈ ts.map fun t => tx t x)) c) hS
          have u4 : H4 S = some (SetO w S (fun j => decide (j ∈ ts.map fun t => tx t x)) c) := upd_same
          rw [List.length_map] at hc
          refine ⟨S, _, c, rfl, u4, by omega, fun ns l srt mem len hl => ?_⟩
          have mem : ∀ y, y ∈ ns ↔ ∃ t ∈ ts, tx t x = y := fun y => by rw [mem y, decide_eq_true_iff, List.mem_map]
          let H5 := upd H4 l (HO.lst (ns.map V.int))
          have e5 : Same H4 H5 := same_new (o := HO.lst (ns.map V.int)) hl
          have u5 : H5 l = some (.lst (ns.map V.int)) := upd_same
          have e25 := e3.trans (e4.trans e5)
          refine ⟨l, rfl, ⟨_, SqL.of u5⟩, fun D2 hD2 => ?_⟩
          have hA5 := e25 _ _ hA
          refine lc_list (xs := ns.map V.int) (fun j H' => Same H5 H' ∧ H' D2 = some (.lst (((ns.take j).filter fun y => decide (y ∉ F)).map V.int))) ⟨same_new hD2, upd_same⟩ (fun j H' _ z => SqL.of (z.1 _ _ u5)) ?_ ?_
          · rintro j v H6 hv ⟨e6, h6⟩
            rw [List.getElem?_map] at hv
            obtain ⟨y, hy, rfl⟩ := Option.map_eq_some_iff.mp hv
            have tk : ns.take (j + 1) = ns.take j ++ [y] := by rw [List.take_add_one, hy]; rfl
            have ll : ((ns.take j).filter fun y => decide (y ∉ F)).length ≤ c := Nat.le_trans (List.length_filter_le _ _) (by rw [List.length_take]; omega)
            refine ⟨rfl, _, rfl, _, rfl, A, _, rfl, .inl (SqL.of (e6 _ _ hA5)), rfl, flat_nums, _, rfl, ?_⟩
            rw [if_pos rfl, inV_nums]
            refine ite2 (fun no => ?_) (fun yes => ?_)
            · have no : y ∉ F := by simpa using no
              refine ⟨_, rfl, _, h6, by rw [List.length_map, sizeLine_eq]; omega, same_put e6 hD2, ?_⟩
              rw [upd_same, tk, List.filter_append, List.map_append, List.filter_cons_of_pos (by simpa using no)]
              rfl
            · have yes : y ∈ F := Decidable.not_not.mp (by simpa using yes)
              refine ⟨e6, ?_⟩
              rw [h6, tk, List.filter_append, List.filter_cons_of_neg (by simpa using yes), List.filter_nil, List.append_nil]
          rintro H6 ⟨e6, h6⟩
          rw [List.length_map, List.take_length] at h6
          have e26 := e25.trans e6
          have fg : Fnd ts s0 (F ++ ns.filter fun y => decide (y ∉ F)) (i + 1) := by
            refine ⟨List.nodup_append.mpr ⟨fnd.nd, (srt.imp fun h => Int.ne_of_lt h).filter _, fun a ha b hb e => ?_⟩, fun y hy => ?_, List.mem_append_left _ fnd.st, by rw [List.length_append]; omega, fun j z hj hz d hd => ?_⟩
            · have := of_decide_eq_true (List.mem_filter.mp hb).2
              exact this (e ▸ ha)
            · rcases List.mem_append.mp hy with hy | hy
              · exact fnd.rch y hy
              · obtain ⟨t, ht, rfl⟩ := (mem y).mp (List.mem_filter.mp hy).1
                obtain ⟨d, hd, rfl⟩ := at_ts ht
                exact rx.step hd
            · by_cases ji : j < i
              · exact List.mem_append_left _ (fnd.done j z ji (by rw [List.getElem?_append_left (by omega)] at hz; exact hz) d hd)
              · have : j = i := by omega
                subst this
                rw [List.getElem?_append_left lt, ex] at hz
                cases hz
                by_cases m : nx ts d x ∈ F
                · exact List.mem_append_left _ m
                · exact List.mem_append_right _ (List.mem_filter.mpr ⟨(mem _).mpr ⟨_, getD_mem hd, rfl⟩, decide_eq_true m⟩)
          have lg := bF fg
          rw [List.length_append] at lg
          refine ⟨_, _, _, _, rfl, rfl, e26 _ _ hA, h6, by rw [sizeLine_eq, List.length_map, List.length_map]; omega, fun A2 hA2 => ?_⟩
          refine ⟨A2, F ++ ns.filter fun y => decide (y ∉ F), _, rfl, e2.trans (e26.trans (same_new hA2)), by rw [upd_same, List.map_append], ?_⟩
          rw [Nat.min_eq_left fg.le]
          exact fg
        · have ge : F.length ≤ i := by
            have : ¬ ((i : Nat) : Int) < ((F.map V.int).length : Nat) := by simpa using h
            rw [List.length_map] at this
            omega
          rw [Nat.min_eq_right ge] at fnd
          exact ⟨A, F, _, rfl, e2, hA, by rw [Nat.min_eq_right (by omega)]; exact fnd⟩
      · rintro σ' H2 ⟨A, F, x3, rfl, e2, hA, fnd⟩
        rw [Nat.min_eq_right (bF fnd)] at fnd
        exact ⟨A, F, x3, rfl, e2, hA, fnd⟩
    rintro σ' H2 ⟨A, F, x3, rfl, e2, hA, fnd⟩
    have lF := len_le fnd.nd fun x hx => ok.rch G.s0 G.s1 (fnd.rch x hx)
    refine ⟨_, rfl, A, F, rfl, SqL.of hA, by omega, fun L l pm srt hl => ?_⟩
    refine k l L _ (e2.trans (same_new hl)) (same_none e2 hl) upd_same (lt_of_le srt ((pm.nodup_iff).mpr fnd.nd)) fun x => (pm.mem_iff).trans (fnd.all x)
end
end KJ
/-! _law_commute -/
namespace KJ
open L2 PySem PySem.Spec PyProof.Rows Kx RZ TL
def spLCommute (K : PySem.W.Frag) : Sp := fun vs H Q _ => ∃ (tt : Addr) (ps : List V) (n : Nat) (ts : List (List Int)) (s : Int), vs = [.ref tt, .int s] ∧ GivT K H tt ps n ts s ∧
  ∀ (b : Bool) H', Same H H' → (b = true ↔ Cm (Rch ts s) ts) → Q (.bl b) H'
section
variable {P : Program} {w : World} {K : PySem.W.Frag} {mg : Str → Option Value} {base : Heap} {f : Addr} {fd : FuncData} {a : Ad} {CM : Addr}
theorem sc_lcommute : FnScope ["tables", "first", "state", "one", "other"] ["tables", "first"] (defScope s_law_commute) := ⟨rfl, rfl, rfl, by decide +kernel, rfl, by decide +kernel, by decide +kernel⟩
theorem ok_lcommute (F : FnP K "_law_commute" s_law_commute f fd) (T : Mg mg) (c_reached : Cal P w K mg base CX0 1 "_law_reached" ["tables", "first"] (spLReached K)) : FnOk P w K mg base CX0 2 f fd ["tables", "first"] (spLCommute K) := by
  refine F.ok sc_lcommute (fun vs H Q E h => ?_) (fun cdv A outer s H vs Q E hr h => ?_)
  · obtain ⟨tt, ps, n, ts, s, rfl, _⟩ := h
    rfl
  · obtain ⟨tt, ps, n, ts, s0, rfl, G, k⟩ := h
    refine ⟨_, PSs.nox (pss_cons (ps_for PassesOwn.never rfl (pi_list (pe_callC c_reached hr pass0 (pa_cons (pv 0) (pa_cons (pv 1) pa_nil)))) (pg_name (i := 2) sc_lcommute.nd rfl (by first | exact Or.inl rfl | exact Or.inr rfl))
  (pss_one (ps_for PassesOwn.never rfl (pi_list (pv 0)) (pg_name (i := 3) sc_lcommute.nd rfl (by first | exact Or.inl rfl | exact Or.inr rfl))
  (pss_one (ps_for PassesOwn.never rfl (pi_list (pv 0)) (pg_name (i := 4) sc_lcommute.nd rfl (by first | exact Or.inl rfl | exact Or.inr rfl))
  (pss_one (ps_if (pt_cmpR op_ne (pe_ix (ix_tupK (K := K)) (pv 3) (pe_ix (ix_tupK (K := K)) (pv 4) (pv 2) (fun _ _ => rfl)) (fun _ _ => rfl)) (pe_ix (ix_tupK (K := K)) (pv 4) (pe_ix (ix_tupK (K := K)) (pv 3) (pv 2) (fun _ _ => rfl)) (fun _ _ => rfl)) (nomark _))
  (pss_one (ps_ret pe_bl))
  pss_nil))))))) (pss_one (ps_ret pe_bl))), ?_⟩
    have ok := G.ok
    have lps := G.rows.length
    refine ⟨_, rfl, _, rfl, tt, ps, n, ts, s0, rfl, G, fun l L H1 e1 nl hl srt mem => ?_⟩
    refine ⟨l, rfl, ⟨_, SqL.of hl⟩, ?_⟩
    have bad : ∀ {x : Int} {i j : Nat}, x ∈ L → i < ts.length → j < ts.length → tx (ts.getD i []) (tx (ts.getD j []) x) ≠ tx (ts.getD j []) (tx (ts.getD i []) x) → ∀ H', Same H H' → Q (.bl false) H' := fun {x i j} hx hi hj ne H' e => k false H' e ⟨fun z => (by cases z), fun c => absurd (c.comm _ (getD_mem hi) _ (getD_mem hj) x ((mem x).mp hx)) ne⟩
    have at_ : ∀ {i : Nat} {v : V}, ps[i]? = some v → ∃ q, v = .ref q ∧ SqT K H q ((ts.getD i []).map V.int) ∧ i < ts.length ∧ (ts.getD i []).length = n ∧ InR (ts.getD i []) := fun {i v} hv => by
      have hi : i < ts.length := by rw [← lps]; exact (List.getElem?_eq_some_iff.mp hv).1
      obtain ⟨q, g1, g2⟩ := G.rows.at_ (i := i) (t := ts[i]) (List.getElem?_eq_getElem hi)
      rw [hv] at g1
      have gt : ts.getD i [] = ts[i] := by rw [List.getD_eq_getElem?_getD, List.getElem?_eq_getElem hi]; rfl
      have tl := ok.len _ (List.getElem_mem hi)
      rw [gt]
      exact ⟨q, Option.some.inj g1, g2, hi, tl, fun z hz => by rw [tl]; exact ok.ent _ (List.getElem_mem _) z hz⟩
    refine for_list (K := K) (xs := L.map V.int) (fun i σ' H' => ∃ (x2 x3 x4 : Option V), σ' = [some (.ref tt), some (.int s0), x2, x3, x4] ∧ Same H H' ∧ H' l = some (.lst (L.map V.int)) ∧ ∀ x ∈ L.take i, ∀ i j : Nat, i < ts.length → j < ts.length → tx (ts.getD i []) (tx (ts.getD j []) x) = tx (ts.getD j []) (tx (ts.getD i []) x)) ⟨_, _, _, rfl, e1, hl, by simp⟩ (fun i σ' H' _ z => by
      obtain ⟨_, _, _, _, _, z, _⟩ := z
      exact SqL.of z) ?_ ?_
    · rintro i v σ' H2 hv ⟨x2, x3, x4, rfl, e2, h2, al⟩
      rw [List.getElem?_map] at hv
      obtain ⟨x, hx, rfl⟩ := Option.map_eq_some_iff.mp hv
      have xL := List.mem_of_getElem? hx
      have xb := ok.rch G.s0 G.s1 ((mem x).mp xL)
      have tk : L.take (i + 1) = L.take i ++ [x] := by rw [List.take_add_one, hx]; rfl
      refine ⟨_, rfl, tt, rfl, ⟨_, sqL_same e2 G.tt⟩, ?_⟩
      refine for_list (K := K) (xs := ps) (fun a σ' H' => ∃ (x3 x4 : Option V), σ' = [some (.ref tt), some (.int s0), some (.int x), x3, x4] ∧ Same H H' ∧ H' l = some (.lst (L.map V.int)) ∧ ∀ i j : Nat, i < a → j < ts.length → tx (ts.getD i []) (tx (ts.getD j []) x) = tx (ts.getD j []) (tx (ts.getD i []) x)) ⟨_, _, rfl, e2, h2, fun i j h => absurd h (Nat.not_lt_zero i)⟩ (fun i σ' H' _ z => by
        obtain ⟨_, _, _, z, _⟩ := z
        exact sqL_same z G.tt) ?_ ?_
      · rintro a v σ' H3 hv ⟨x3, x4, rfl, e3, h3, al3⟩
        obtain ⟨qa, rfl, ga, ha, la, ira⟩ := at_ hv
        refine ⟨_, rfl, tt, rfl, ⟨_, sqL_same e3 G.tt⟩, ?_⟩
        refine for_list (K := K) (xs := ps) (fun b σ' H' => ∃ (x4 : Option V), σ' = [some (.ref tt), some (.int s0), some (.int x), some (.ref qa), x4] ∧ Same H H' ∧ H' l = some (.lst (L.map V.int)) ∧ ∀ j : Nat, j < b → tx (ts.getD a []) (tx (ts.getD j []) x) = tx (ts.getD j []) (tx (ts.getD a []) x)) ⟨_, rfl, e3, h3, fun j h => absurd h (Nat.not_lt_zero j)⟩ (fun i σ' H' _ z => by
          obtain ⟨_, _, z, _⟩ := z
          exact sqL_same z G.tt) ?_ ?_
        · rintro b v σ' H4 hv ⟨x4, rfl, e4, h4, al4⟩
          obtain ⟨qb, rfl, gb, hb, lb, irb⟩ := at_ hv
          have ga4 := sqT_same e4 ga
          have gb4 := sqT_same e4 gb
          obtain ⟨a1, a2, a3⟩ := ira.at_ xb.1 (by rw [la]; exact xb.2)
          obtain ⟨b1, b2, b3⟩ := irb.at_ xb.1 (by rw [lb]; exact xb.2)
          obtain ⟨c1, _, _⟩ := ira.at_ b2 (by rw [la]; rw [lb] at b3; exact b3)
          obtain ⟨d1, _, _⟩ := irb.at_ a2 (by rw [lb]; rw [la] at a3; exact a3)
          refine ⟨_, rfl, _, rfl, _, rfl, qb, _, _, _, rfl, rfl, gb4, at_int xb.1 b1, qa, _, _, _, rfl, rfl, ga4, at_int b2 c1, ?_⟩
          refine ⟨_, rfl, _, rfl, _, rfl, qa, _, _, _, rfl, rfl, ga4, at_int xb.1 a1, qb, _, _, _, rfl, rfl, gb4, at_int a2 d1, ?_⟩
          refine ⟨rfl, _, rfl, ite2 (fun h => ?_) (fun h => ?_)⟩
          · have ne : tx (ts.getD a []) (tx (ts.getD b []) x) ≠ tx (ts.getD b []) (tx (ts.getD a []) x) := by simpa using h
            exact bad xL ha hb ne _ e4
          · have eq : tx (ts.getD a []) (tx (ts.getD b []) x) = tx (ts.getD b []) (tx (ts.getD a []) x) := by simpa using h
            refine ⟨_, rfl, e4, h4, fun j hj => ?_⟩
            by_cases z : j = b
            · rw [z]
              exact eq
            · exact al4 j (by omega)
        · rintro σ' H4 ⟨x4, rfl, e4, h4, al4⟩
          refine ⟨_, _, rfl, e4, h4, fun i j hi hj => ?_⟩
          by_cases z : i = a
          · rw [z]
            exact al4 j (by rw [lps]; exact hj)
          · exact al3 i j (by omega) hj
      · rintro σ' H3 ⟨x3, x4, rfl, e3, h3, al3⟩
        refine ⟨_, _, _, rfl, e3, h3, fun y hy i j hi hj => ?_⟩
        rw [tk] at hy
        rcases List.mem_append.mp hy with hy | hy
        · exact al y hy i j hi hj
        · rw [List.mem_singleton.mp hy]
          exact al3 i j (by rw [lps]; exact hi) hj
    · rintro σ' H2 ⟨x2, x3, x4, rfl, e2, h2, al⟩
      rw [List.length_map, List.take_length] at al
      refine k true _ e2 ⟨fun _ => ⟨fun t ht x hx => ?_, fun t ht u hu x hx => ?_⟩, fun _ => rfl⟩
      · obtain ⟨d, hd, rfl⟩ := at_ts ht
        exact hx.step hd
      · obtain ⟨i, hi, rfl⟩ := at_ts ht
        obtain ⟨j, hj, rfl⟩ := at_ts hu
        exact al x ((mem x).mpr hx) i j hi hj
end
end KJ
/-! _law_tables -/
namespace KJ
open L2 PySem PySem.Spec PyProof.Rows Kx RZ TL
theorem Mv.free {b D : Addr} {H H' : Hp} (m : Mv b H H') (h : H' D = .none) : H D = .none ∧ D ≠ b := by
  have ne : D ≠ b := fun z => by
    obtain ⟨t, ht⟩ := m.2
    rw [z, ht] at h
    cases h
  refine ⟨?_, ne⟩
  cases e : H D with
  | none => rfl
  | some o => rw [m.1 _ _ ne e] at h; cases h
theorem Mv.put {b D : Addr} {H H' : Hp} {o : HO} (m : Mv b H H') (h1 : H D = .none) (h2 : D ≠ b) : Mv b H (L2.upd H' D o) := by
  refine ⟨fun c u ne q => ?_, ?_⟩
  · rw [upd_ne (fun z => by rw [z, h1] at q; cases q)]
    exact m.1 c u ne q
  · obtain ⟨t, ht⟩ := m.2
    exact ⟨t, by rw [upd_ne (Ne.symm h2)]; exact ht⟩
/-- tables so far -/
structure Tbs (K : PySem.W.Frag) (H0 : Hp) (b F : Addr) (n : Nat) (us : List V) (ts : List (List Int)) (H : Hp) : Prop where
  mv : Mv b H0 H
  nF : H0 F = none
  Fb : F ≠ b
  hF : H F = some (.lst us)
  rows : RowsBy (SqT K H) us ts
  ok : ∀ t ∈ ts, t.length = n ∧ ∀ x ∈ t, 0 ≤ x ∧ x < (n : Int)
section
variable {K : PySem.W.Frag} {H0 H H' : Hp} {b F : Addr} {n : Nat} {us : List V} {ts : List (List Int)}
theorem Tbs.box (h : Tbs K H0 b F n us ts H) : ∃ t, H b = some (bx t) := h.mv.2
theorem Tbs.mv_ (h : Tbs K H0 b F n us ts H) (m : Mv b H H') : Tbs K H0 b F n us ts H' := by
  obtain ⟨t, hb⟩ := h.box
  exact ⟨h.mv.trans m, h.nF, h.Fb, m.1 _ _ h.Fb h.hF, h.rows.imp fun _ _ z => m.sqT hb z, h.ok⟩
theorem Tbs.same (h : Tbs K H0 b F n us ts H) (e : Same H H') : Tbs K H0 b F n us ts H' := h.mv_ ((Mv.refl h.box.choose_spec).same e)
theorem Tbs.add (h : Tbs K H0 b F n us ts H) {q : Addr} {z : List Int} (hq : SqT K H q (z.map V.int)) (l : z.length = n) (e : ∀ x ∈ z, 0 ≤ x ∧ x < (n : Int)) : Tbs K H0 b F n (us ++ [.ref q]) (ts ++ [z]) (upd H F (.lst (us ++ [.ref q]))) := by
  obtain ⟨t, hb⟩ := h.box
  refine ⟨⟨fun c o nc hc => ?_, t, by rw [upd_ne (Ne.symm h.Fb)]; exact hb⟩, h.nF, h.Fb, upd_same, RowsBy.snoc (sqT_lst h.hF hq) (h.rows.imp fun _ _ z => sqT_lst h.hF z), fun t ht => ?_⟩
  · rw [upd_ne (fun z => by rw [z, h.nF] at hc; cases hc)]
    exact h.mv.1 _ _ nc hc
  · rcases List.mem_append.mp ht with ht | ht
    · exact h.ok t ht
    · rw [List.mem_singleton.mp ht]
      exact ⟨l, e⟩
end
/-- one more number of a list -/
theorem snoc_rng {zs : List Int} {n : Nat} {x : Int} (h : ∀ y ∈ zs, 0 ≤ y ∧ y < (n : Int)) (x0 : 0 ≤ x) (x1 : x < (n : Int)) : ∀ y ∈ zs ++ [x], 0 ≤ y ∧ y < (n : Int) := fun y hy => by
  rcases List.mem_append.mp hy with hy | hy
  · exact h y hy
  · rw [List.mem_singleton.mp hy]
    exact ⟨x0, x1⟩
def spLTables (K : PySem.W.Frag) : Sp := fun vs H Q _ => ∃ (b : Addr) (t : Int × Int) (most : Nat), vs = [.ref b, .int (most : Nat)] ∧ H b = some (bx t) ∧ 1 ≤ most ∧ most ≤ 5 ∧
  ∀ (F : Addr) (us : List V) (n : Nat) (ts : List (List Int)) H', Tbs K H b F n us ts H' → Mok n ts → ts.length ≤ 3 → n ≤ 6 → Q (.ref F) H'
theorem sc_ltables : FnScope ["box", "most", "states", "style", "found", "one", "other", "back", "deed", "more", "table", "state", "here", "there", "turn", "by"] ["box", "most"] (defScope s_law_tables) := ⟨rfl, rfl, rfl, by decide +kernel, rfl, by decide +kernel, by decide +kernel⟩
abbrev XT (P : Program) (w : World) (K : PySem.W.Frag) (mg : Str → Option Value) (base : Heap) (f : Addr) (cdv : Value) (A : Around) (outer : List Env) (st : Shared) (H : Hp) (E : XK) : Cx := (cxOf CX0 P w K mg base ["box", "most", "states", "style", "found", "one", "other", "back", "deed", "more", "table", "state", "here", "there", "turn", "by"] "_law_tables" (defScope s_law_tables) f cdv A outer st H E).nox
abbrev taS : List Stmt := defBody s_law_tables
structure Lt (P : Program) (w : World) (K : PySem.W.Frag) (mg : Str → Option Value) (base : Heap) (f : Addr) (cdv : Value) (A : Around) (outer : List Env) (st : Shared) (b : Addr) (most : Nat) : Prop where
  T : Mg mg
  take : Cal P w K mg base CX0 1 "_law_take" ["box", "many"] spTake
  pick : Cal P w K mg base CX0 2 "_law_pick" ["box", "some"] (spPick K)
  hr : Room 2 (A.deeper (envOfC "_law_tables" (defScope s_law_tables) st.heap.objs.size f cdv))
  m1 : 1 ≤ most
  m5 : most ≤ 5
/-- how many tables -/
theorem one_to_three {v : V} (h : v ∈ [V.int 1, .int 2, .int 2, .int 3]) : ∃ m : Nat, v = .int (m : Nat) ∧ 1 ≤ m ∧ m ≤ 3 := by
  simp only [List.mem_cons, List.not_mem_nil, or_false] at h
  rcases h with rfl | rfl | rfl | rfl
  · exact ⟨1, rfl, by decide, by decide⟩
  · exact ⟨2, rfl, by decide, by decide⟩
  · exact ⟨2, rfl, by decide, by decide⟩
  · exact ⟨3, rfl, by decide, by decide⟩
section
variable {P : Program} {w : World} {K : PySem.W.Frag} {mg : Str → Option Value} {base : Heap} {f : Addr} {cdv : Value} {A : Around} {outer : List Env} {st : Shared} {H0 : Hp} {E : XK} {b : Addr} {most : Nat}
variable (Z : Lt P w K mg base f cdv A outer st b most)
include Z
theorem ta0 : HT (ι := Unit) (XT P w K mg base f cdv A outer st H0 E) (nthS taS 0) (fun _ σ H => σ = [some (.ref b), some (.int (most : Nat)), none, none, none, none, none, none, none, none, none, none, none, none, none, none] ∧ H = H0 ∧ ∃ t, H0 b = some (bx t)) (fun _ σ H => ∃ (n st : Nat) (F : Addr), σ = [some (.ref b), some (.int (most : Nat)), some (.int (n : Nat)), some (.int (st : Nat)), some (.ref F), none, none, none, none, none, none, none, none, none, none, none] ∧ Tbs K H0 b F n [] [] H ∧ 1 ≤ n ∧ n ≤ 5 ∧ st < 7) := by
  obtain ⟨T, c_take, c_pick, hr, m1, m5⟩ := Z
  refine ⟨_, (ps_asg (pe_tup (pa_cons (pe_op op_add pe_int (pe_callC c_take hr pass0 (pa_cons (pv 0) (pa_cons (pv 1) pa_nil)))) (pa_cons (pe_callC c_take hr pass0 (pa_cons (pv 0) (pa_cons pe_int pa_nil))) (pa_cons (pe_lst pa_nil) pa_nil)))) (pg_tup rfl (pgs_cons (pg_name (i := 2) sc_ltables.nd rfl (by first | exact Or.inl rfl | exact Or.inr rfl)) (pgs_cons (pg_name (i := 3) sc_ltables.nd rfl (by first | exact Or.inl rfl | exact Or.inr rfl)) (pgs_cons (pg_name (i := 4) sc_ltables.nd rfl (by first | exact Or.inl rfl | exact Or.inr rfl)) pgs_nil))))), ?_⟩
  rintro _ D σ H ⟨rfl, rfl, t, hb⟩ kk
  refine ⟨_, rfl, _, rfl, b, t, _, rfl, hb, by omega, by omega, fun x H1 x0 x1 mv1 => ?_⟩
  obtain ⟨d, rfl⟩ : ∃ d : Nat, x = (d : Int) := ⟨x.toNat, by omega⟩
  obtain ⟨t1, hb1⟩ := mv1.2
  refine ⟨_, _, rfl, rfl, ?_⟩
  refine ⟨_, rfl, b, t1, 7, rfl, hb1, by omega, by omega, fun y H2 y0 y1 mv2 => ?_⟩
  obtain ⟨st, rfl⟩ : ∃ st : Nat, y = (st : Int) := ⟨y.toNat, by omega⟩
  have mv12 := mv1.trans mv2
  refine ⟨(by show 0 ≤ sizeLine; decide), fun F hF => ?_⟩
  have fF := mv12.free hF
  have e3 := same_new (o := HO.lst []) hF
  have u3 : upd H2 F (HO.lst []) F = some (.lst []) := upd_same
  generalize upd H2 F (HO.lst []) = H3 at e3 u3 ⊢
  refine ⟨(by show 3 ≤ sizeLine; decide), fun p hp => ?_⟩
  have e4 := same_new (o := HO.tup [V.int (1 + (d : Int)), .int (st : Nat), .ref F]) hp
  refine ⟨p, _, rfl, SqT.of upd_same, rfl, _, _, rfl, _, _, rfl, _, _, rfl, rfl, ?_⟩
  have ed : (1 : Int) + (d : Nat) = ((d + 1 : Nat) : Int) := by omega
  show D.nx [some (.ref b), some (.int (most : Nat)), some (.int ((1 : Int) + (d : Int))), some (.int (st : Nat)), some (.ref F), none, none, none, none, none, none, none, none, none, none, none] _
  rw [ed]
  exact kk _ _ ⟨d + 1, st, F, rfl, ⟨(mv12.same e3).same e4, fF.1, fF.2, e4 _ _ u3, trivial, fun _ h => nomatch h⟩, by omega, by omega, by omega⟩
end
end KJ
/-! _law_tables: by styles -/
namespace KJ
open L2 PySem PySem.Spec PyProof.Rows Kx RZ TL
section
variable {P : Program} {w : World} {K : PySem.W.Frag} {mg : Str → Option Value} {base : Heap} {f : Addr} {cdv : Value} {A : Around} {outer : List Env} {st : Shared} {H0 : Hp} {E : XK} {b : Addr} {most : Nat}
variable (Z : Lt P w K mg base f cdv A outer st b most)
include Z
theorem ta2 : HT (ι := Unit) (XT P w K mg base f cdv A outer st H0 E) (nthS taS 2) (fun _ σ H => ∃ (n st : Nat) (F : Addr) (us : List V) (ts : List (List Int)) (x5 x6 x7 x8 x9 x10 x11 x12 x13 x14 x15 : Option V), σ = [some (.ref b), some (.int (most : Nat)), some (.int (n : Nat)), some (.int (st : Nat)), some (.ref F), x5, x6, x7, x8, x9, x10, x11, x12, x13, x14, x15] ∧ Tbs K H0 b F n us ts H ∧ 1 ≤ n ∧ n ≤ 5 ∧ ts.length = 0) (fun _ σ H => ∃ (n : Nat) (F : Addr) (us : List V) (ts : List (List Int)) (x2 x3 x5 x6 x7 x8 x9 x10 x11 x12 x13 x14 x15 : Option V), σ = [some (.ref b), some (.int (most : Nat)), x2, x3, some (.ref F), x5, x6, x7, x8, x9, x10, x11, x12, x13, x14, x15] ∧ Tbs K H0 b F n us ts H ∧ Mok n ts ∧ ts.length ≤ 3 ∧ n ≤ 6) := by
  obtain ⟨T, c_take, c_pick, hr, m1, m5⟩ := Z
  refine ⟨_, (ps_for PassesOwn.never rfl (pi_range1 (by rfl) T.z_range (pa_cons (pe_callC c_pick hr pass0 (pa_cons (pv 0) (pa_cons (pe_lst (pa_cons pe_int (pa_cons pe_int (pa_cons pe_int (pa_cons pe_int pa_nil))))) pa_nil))) pa_nil)) (pg_name (i := 8) sc_ltables.nd rfl (by first | exact Or.inl rfl | exact Or.inr rfl))
  (pss_cons (ps_set (i := 15) sc_ltables.nd rfl (by first | exact Or.inl rfl | exact Or.inr rfl) (pe_callC c_take hr pass0 (pa_cons (pv 0) (pa_cons (pv 2) pa_nil))))
  (pss_one (ps_if (pt_cmpR op_eq (pv 3) pe_int (nomark _))
  (pss_one (ps_expr (pe_bm PySem.F.plainAttrs_list PySem.F.slot_list_append PySem.F.type_list_append mt_append (pv 4) (pa_cons (pe_callTy (call_tupleK (K := K)) (by rfl) T.z_tuple (by decide +kernel) (pa_cons (pe_lc (own := [("state", 11)]) (by rfl) sc_ltables.nd (pi_range1 (by rfl) T.z_range (pa_cons (pv 2) pa_nil)) (blkOk_by (own := [("state", 11)]) (N := ["box", "most", "states", "style", "found", "one", "other", "back", "deed", "more", "table", "state", "here", "there", "turn", "by"]) (sc := defScope s_law_tables) (by decide +kernel)) (fun _ _ _ _ _ => (pg_name (i := 11) sc_ltables.nd rfl (by first | exact Or.inl rfl | exact Or.inr rfl))) (fun _ _ _ _ _ => pts_nil) (fun _ _ _ _ _ => (pe_ifExp (pt_cmpR op_gt (pe_callC c_take hr pass0 (pa_cons (pv 0) (pa_cons pe_int pa_nil))) pe_int (nomark _)) (pv 15) (pv 11)))) pa_nil)) pa_nil))))
  (pss_one (ps_if (pt_cmpR op_eq (pv 3) pe_int (nomark _))
  (pss_one (ps_expr (pe_bm PySem.F.plainAttrs_list PySem.F.slot_list_append PySem.F.type_list_append mt_append (pv 4) (pa_cons (pe_callTy (call_tupleK (K := K)) (by rfl) T.z_tuple (by decide +kernel) (pa_cons (pe_lc (own := [("state", 11)]) (by rfl) sc_ltables.nd (pi_range1 (by rfl) T.z_range (pa_cons (pv 2) pa_nil)) (blkOk_by (own := [("state", 11)]) (N := ["box", "most", "states", "style", "found", "one", "other", "back", "deed", "more", "table", "state", "here", "there", "turn", "by"]) (sc := defScope s_law_tables) (by decide +kernel)) (fun _ _ _ _ _ => (pg_name (i := 11) sc_ltables.nd rfl (by first | exact Or.inl rfl | exact Or.inr rfl))) (fun _ _ _ _ _ => pts_nil) (fun _ _ _ _ _ => (pe_callB (call_min2 rfl) (by rfl) T.z_min (by decide +kernel) (pa_cons (pe_op op_sub (pv 2) pe_int) (pa_cons (pe_op op_add (pv 11) (pv 15)) pa_nil))))) pa_nil)) pa_nil))))
  (pss_one (ps_if (pt_cmpR op_eq (pv 3) pe_int (nomark _))
  (pss_one (ps_expr (pe_bm PySem.F.plainAttrs_list PySem.F.slot_list_append PySem.F.type_list_append mt_append (pv 4) (pa_cons (pe_callTy (call_tupleK (K := K)) (by rfl) T.z_tuple (by decide +kernel) (pa_cons (pe_lc (own := [("state", 11)]) (by rfl) sc_ltables.nd (pi_range1 (by rfl) T.z_range (pa_cons (pv 2) pa_nil)) (blkOk_by (own := [("state", 11)]) (N := ["box", "most", "states", "style", "found", "one", "other", "back", "deed", "more", "table", "state", "here", "there", "turn", "by"]) (sc := defScope s_law_tables) (by decide +kernel)) (fun _ _ _ _ _ => (pg_name (i := 11) sc_ltables.nd rfl (by first | exact Or.inl rfl | exact Or.inr rfl))) (fun _ _ _ _ _ => pts_nil) (fun _ _ _ _ _ => (pe_op op_mod (pe_callTy call_int1 (by rfl) T.z_int (by decide +kernel) (pa_cons (pe_op op_add (pv 11) (pv 15)) pa_nil)) (pv 2)))) pa_nil)) pa_nil))))
  (pss_one (ps_expr (pe_bm PySem.F.plainAttrs_list PySem.F.slot_list_append PySem.F.type_list_append mt_append (pv 4) (pa_cons (pe_callTy (call_tupleK (K := K)) (by rfl) T.z_tuple (by decide +kernel) (pa_cons (pe_lc (own := [("state", 11)]) (by rfl) sc_ltables.nd (pi_range1 (by rfl) T.z_range (pa_cons (pv 2) pa_nil)) (blkOk_by (own := [("state", 11)]) (N := ["box", "most", "states", "style", "found", "one", "other", "back", "deed", "more", "table", "state", "here", "there", "turn", "by"]) (sc := defScope s_law_tables) (by decide +kernel)) (fun _ _ _ _ _ => (pg_name (i := 11) sc_ltables.nd rfl (by first | exact Or.inl rfl | exact Or.inr rfl))) (fun _ _ _ _ _ => pts_nil) (fun _ _ _ _ _ => (pe_callC c_take hr pass0 (pa_cons (pv 0) (pa_cons (pv 2) pa_nil))))) pa_nil)) pa_nil)))))))))))), ?_⟩
  rintro _ D σ H ⟨n, st, F, us, ts, x5, x6, x7, x8, x9, x10, x11, x12, x13, x14, x15, rfl, j, n1, n5, lt⟩ kk
  obtain ⟨t, hb⟩ := j.box
  refine ⟨_, rfl, (by show 4 ≤ sizeLine; decide), fun l hl => ?_⟩
  have lb : l ≠ b := fun z => by rw [z, hb] at hl; cases hl
  have e1 := same_new (o := HO.lst [V.int 1, .int 2, .int 2, .int 3]) hl
  have u1 : SqL K (upd H l (HO.lst [V.int 1, .int 2, .int 2, .int 3])) l [V.int 1, .int 2, .int 2, .int 3] := SqL.of upd_same
  generalize upd H l (HO.lst [V.int 1, .int 2, .int 2, .int 3]) = H1 at e1 u1 ⊢
  refine ⟨b, l, t, _, rfl, e1 _ _ hb, lb, u1, by simp, by simp, fun v H2 hv m2 => ?_⟩
  obtain ⟨m, rfl, m1', m3'⟩ := one_to_three hv
  have j2 := (j.same e1).mv_ m2
  refine ⟨m, rfl, by omega, by omega, for_range (lo := 0) (n := m) (fun i σ H => ∃ (n st : Nat) (F : Addr) (us : List V) (ts : List (List Int)) (x5 x6 x7 x8 x9 x10 x11 x12 x13 x14 x15 : Option V), σ = [some (.ref b), some (.int (most : Nat)), some (.int (n : Nat)), some (.int (st : Nat)), some (.ref F), x5, x6, x7, x8, x9, x10, x11, x12, x13, x14, x15] ∧ Tbs K H0 b F n us ts H ∧ 1 ≤ n ∧ n ≤ 5 ∧ ts.length = i) ⟨n, st, F, us, ts, _, _, _, _, _, _, _, _, _, _, _, rfl, j2, n1, n5, lt⟩ ?_ ?_⟩
  · rintro i σ' H1 hi ⟨n, st, F, us, ts, x5, x6, x7, x8, x9, x10, x11, x12, x13, x14, x15, rfl, j, n1, n5, lt⟩
    obtain ⟨t, hb⟩ := j.box
    refine ⟨_, rfl, _, rfl, b, t, _, rfl, hb, by omega, by omega, fun x H2 x0 x1 mv2 => ?_⟩
    have j2 := j.mv_ mv2
    refine ⟨_, rfl, rfl, _, rfl, ite2 (fun _ => ?_) (fun _ => ?_)⟩
    · refine ⟨_, rfl, .inl ⟨rfl, _, SqL.of j2.hF⟩, ?_⟩
      refine ⟨_, rfl, n, rfl, by omega, by omega, fun D0 hD => ?_⟩
      obtain ⟨tb, hb2⟩ := j2.box
      have Db : D0 ≠ b := fun z => by rw [z, hb2] at hD; cases hD
      have m0 := Mv.refl hb2
      refine lc_range (lo := 0) (n := n) (fun i H' => ∃ zs : List Int, zs.length = i ∧ (∀ y ∈ zs, 0 ≤ y ∧ y < (n : Int)) ∧ H' D0 = some (.lst (zs.map V.int)) ∧ Mv b H2 H') ⟨[], rfl, (fun _ h => nomatch h), upd_same, m0.put hD Db⟩ ?_ ?_
      · rintro i H3 hi ⟨zs, lz, rz, hz, m3⟩
        have hi : i < n := hi
        rw [show (0 : Int) + (i : Int) = (i : Int) from Int.zero_add _]
        have push : ∀ (x : Int) (H5 : Hp), 0 ≤ x → x < (n : Int) → Mv b H3 H5 → ∃ acc, H5 D0 = some (.lst acc) ∧ acc.length < sizeLine ∧ ∃ zs' : List Int, zs'.length = i + 1 ∧ (∀ y ∈ zs', 0 ≤ y ∧ y < (n : Int)) ∧ upd H5 D0 (.lst (acc ++ [V.int x])) D0 = some (.lst (zs'.map V.int)) ∧ Mv b H2 (upd H5 D0 (.lst (acc ++ [V.int x]))) := fun x H5 x0 x1 m5 =>
          ⟨_, m5.1 _ _ Db hz, by rw [List.length_map, lz, sizeLine_eq]; omega, zs ++ [x], by rw [List.length_append, lz]; rfl, snoc_rng rz x0 x1, by rw [upd_same, List.map_append]; rfl, (m3.trans m5).put hD Db⟩
        obtain ⟨t3, hb3⟩ := m3.2
        refine ⟨rfl, yes ((if_pos rfl).mpr ?_)⟩
        refine ⟨_, rfl, b, t3, 3, rfl, hb3, by decide, by decide, fun r H5 r0 r1 m5 => ?_⟩
        refine ⟨_, _, rfl, rfl, _, rfl, ite2 (fun _ => ?_) (fun _ => ?_)⟩
        · exact ⟨_, rfl, push _ _ x0 x1 m5⟩
        · exact ⟨_, rfl, push _ _ (by omega) (by omega) m5⟩
      · rintro H3 ⟨zs, lz, rz, hz, m3⟩
        refine ⟨D0, _, rfl, .inl ⟨SqL.of hz, fun q hq => ?_⟩⟩
        have e4 := same_new (o := HO.tup (zs.map V.int)) hq
        have u4 : SqT K (upd H3 q (HO.tup (zs.map V.int))) q (zs.map V.int) := SqT.of upd_same
        generalize upd H3 q (HO.tup (zs.map V.int)) = H4 at e4 u4 ⊢
        have j4 := (j2.mv_ m3).same e4
        have lr := j4.rows.length
        refine ⟨F, _, _, rfl, rfl, j4.hF, by rw [sizeLine_eq]; omega, ?_⟩
        exact ⟨n, st, F, _, _, _, _, _, _, _, _, _, _, _, _, _, rfl, j4.add u4 lz rz, n1, n5, by rw [List.length_append, lt]; rfl⟩
    refine ⟨_, rfl, rfl, _, rfl, ite2 (fun _ => ?_) (fun _ => ?_)⟩
    · refine ⟨_, rfl, .inl ⟨rfl, _, SqL.of j2.hF⟩, ?_⟩
      refine ⟨_, rfl, n, rfl, by omega, by omega, fun D0 hD => ?_⟩
      obtain ⟨tb, hb2⟩ := j2.box
      have Db : D0 ≠ b := fun z => by rw [z, hb2] at hD; cases hD
      have m0 := Mv.refl hb2
      refine lc_range (lo := 0) (n := n) (fun i H' => ∃ zs : List Int, zs.length = i ∧ (∀ y ∈ zs, 0 ≤ y ∧ y < (n : Int)) ∧ H' D0 = some (.lst (zs.map V.int)) ∧ Mv b H2 H') ⟨[], rfl, (fun _ h => nomatch h), upd_same, m0.put hD Db⟩ ?_ ?_
      · rintro i H3 hi ⟨zs, lz, rz, hz, m3⟩
        have hi : i < n := hi
        rw [show (0 : Int) + (i : Int) = (i : Int) from Int.zero_add _]
        have push : ∀ (x : Int) (H5 : Hp), 0 ≤ x → x < (n : Int) → Mv b H3 H5 → ∃ acc, H5 D0 = some (.lst acc) ∧ acc.length < sizeLine ∧ ∃ zs' : List Int, zs'.length = i + 1 ∧ (∀ y ∈ zs', 0 ≤ y ∧ y < (n : Int)) ∧ upd H5 D0 (.lst (acc ++ [V.int x])) D0 = some (.lst (zs'.map V.int)) ∧ Mv b H2 (upd H5 D0 (.lst (acc ++ [V.int x]))) := fun x H5 x0 x1 m5 =>
          ⟨_, m5.1 _ _ Db hz, by rw [List.length_map, lz, sizeLine_eq]; omega, zs ++ [x], by rw [List.length_append, lz]; rfl, snoc_rng rz x0 x1, by rw [upd_same, List.map_append]; rfl, (m3.trans m5).put hD Db⟩
        obtain ⟨t3, hb3⟩ := m3.2
        refine ⟨rfl, yes ((if_pos rfl).mpr ?_)⟩
        refine ⟨_, rfl, _, _, rfl, rfl, _, rfl, _, rfl, _, _, rfl, rfl, _, _, rfl, ?_⟩
        exact push _ _ (by split <;> omega) (by split <;> omega) (Mv.refl hb3)
      · rintro H3 ⟨zs, lz, rz, hz, m3⟩
        refine ⟨D0, _, rfl, .inl ⟨SqL.of hz, fun q hq => ?_⟩⟩
        have e4 := same_new (o := HO.tup (zs.map V.int)) hq
        have u4 : SqT K (upd H3 q (HO.tup (zs.map V.int))) q (zs.map V.int) := SqT.of upd_same
        generalize upd H3 q (HO.tup (zs.map V.int)) = H4 at e4 u4 ⊢
        have j4 := (j2.mv_ m3).same e4
        have lr := j4.rows.length
        refine ⟨F, _, _, rfl, rfl, j4.hF, by rw [sizeLine_eq]; omega, ?_⟩
        exact ⟨n, st, F, _, _, _, _, _, _, _, _, _, _, _, _, _, rfl, j4.add u4 lz rz, n1, n5, by rw [List.length_append, lt]; rfl⟩
    refine ⟨_, rfl, rfl, _, rfl, ite2 (fun _ => ?_) (fun _ => ?_)⟩
    · refine ⟨_, rfl, .inl ⟨rfl, _, SqL.of j2.hF⟩, ?_⟩
      refine ⟨_, rfl, n, rfl, by omega, by omega, fun D0 hD => ?_⟩
      obtain ⟨tb, hb2⟩ := j2.box
      have Db : D0 ≠ b := fun z => by rw [z, hb2] at hD; cases hD
      have m0 := Mv.refl hb2
      refine lc_range (lo := 0) (n := n) (fun i H' => ∃ zs : List Int, zs.length = i ∧ (∀ y ∈ zs, 0 ≤ y ∧ y < (n : Int)) ∧ H' D0 = some (.lst (zs.map V.int)) ∧ Mv b H2 H') ⟨[], rfl, (fun _ h => nomatch h), upd_same, m0.put hD Db⟩ ?_ ?_
      · rintro i H3 hi ⟨zs, lz, rz, hz, m3⟩
        have hi : i < n := hi
        rw [show (0 : Int) + (i : Int) = (i : Int) from Int.zero_add _]
        have push : ∀ (x : Int) (H5 : Hp), 0 ≤ x → x < (n : Int) → Mv b H3 H5 → ∃ acc, H5 D0 = some (.lst acc) ∧ acc.length < sizeLine ∧ ∃ zs' : List Int, zs'.length = i + 1 ∧ (∀ y ∈ zs', 0 ≤ y ∧ y < (n : Int)) ∧ upd H5 D0 (.lst (acc ++ [V.int x])) D0 = some (.lst (zs'.map V.int)) ∧ Mv b H2 (upd H5 D0 (.lst (acc ++ [V.int x]))) := fun x H5 x0 x1 m5 =>
          ⟨_, m5.1 _ _ Db hz, by rw [List.length_map, lz, sizeLine_eq]; omega, zs ++ [x], by rw [List.length_append, lz]; rfl, snoc_rng rz x0 x1, by rw [upd_same, List.map_append]; rfl, (m3.trans m5).put hD Db⟩
        obtain ⟨t3, hb3⟩ := m3.2
        refine ⟨rfl, yes ((if_pos rfl).mpr ?_)⟩
        refine ⟨_, rfl, _, rfl, _, _, rfl, rfl, .inl ⟨_, rfl, ?_⟩⟩
        refine ⟨_, rfl, _, _, rfl, rfl, (by omega), ?_⟩
        exact push _ _ (Int.emod_nonneg _ (by omega)) (Int.emod_lt_of_pos _ (by omega)) (Mv.refl hb3)
      · rintro H3 ⟨zs, lz, rz, hz, m3⟩
        refine ⟨D0, _, rfl, .inl ⟨SqL.of hz, fun q hq => ?_⟩⟩
        have e4 := same_new (o := HO.tup (zs.map V.int)) hq
        have u4 : SqT K (upd H3 q (HO.tup (zs.map V.int))) q (zs.map V.int) := SqT.of upd_same
        generalize upd H3 q (HO.tup (zs.map V.int)) = H4 at e4 u4 ⊢
        have j4 := (j2.mv_ m3).same e4
        have lr := j4.rows.length
        refine ⟨F, _, _, rfl, rfl, j4.hF, by rw [sizeLine_eq]; omega, ?_⟩
        exact ⟨n, st, F, _, _, _, _, _, _, _, _, _, _, _, _, _, rfl, j4.add u4 lz rz, n1, n5, by rw [List.length_append, lt]; rfl⟩
    refine ⟨_, rfl, .inl ⟨rfl, _, SqL.of j2.hF⟩, ?_⟩
    refine ⟨_, rfl, n, rfl, by omega, by omega, fun D0 hD => ?_⟩
    obtain ⟨tb, hb2⟩ := j2.box
    have Db : D0 ≠ b := fun z => by rw [z, hb2] at hD; cases hD
    have m0 := Mv.refl hb2
    refine lc_range (lo := 0) (n := n) (fun i H' => ∃ zs : List Int, zs.length = i ∧ (∀ y ∈ zs, 0 ≤ y ∧ y < (n : Int)) ∧ H' D0 = some (.lst (zs.map V.int)) ∧ Mv b H2 H') ⟨[], rfl, (fun _ h => nomatch h), upd_same, m0.put hD Db⟩ ?_ ?_
    · rintro i H3 hi ⟨zs, lz, rz, hz, m3⟩
      have hi : i < n := hi
      rw [show (0 : Int) + (i : Int) = (i : Int) from Int.zero_add _]
      have push : ∀ (x : Int) (H5 : Hp), 0 ≤ x → x < (n : Int) → Mv b H3 H5 → ∃ acc, H5 D0 = some (.lst acc) ∧ acc.length < sizeLine ∧ ∃ zs' : List Int, zs'.length = i + 1 ∧ (∀ y ∈ zs', 0 ≤ y ∧ y < (n : Int)) ∧ upd H5 D0 (.lst (acc ++ [V.int x])) D0 = some (.lst (zs'.map V.int)) ∧ Mv b H2 (upd H5 D0 (.lst (acc ++ [V.int x]))) := fun x H5 x0 x1 m5 =>
        ⟨_, m5.1 _ _ Db hz, by rw [List.length_map, lz, sizeLine_eq]; omega, zs ++ [x], by rw [List.length_append, lz]; rfl, snoc_rng rz x0 x1, by rw [upd_same, List.map_append]; rfl, (m3.trans m5).put hD Db⟩
      obtain ⟨t3, hb3⟩ := m3.2
      refine ⟨rfl, yes ((if_pos rfl).mpr ?_)⟩
      refine ⟨_, rfl, _, rfl, b, t3, _, rfl, hb3, by omega, by omega, fun r H5 r0 r1 m5 => ?_⟩
      exact push _ _ r0 r1 m5
    · rintro H3 ⟨zs, lz, rz, hz, m3⟩
      refine ⟨D0, _, rfl, .inl ⟨SqL.of hz, fun q hq => ?_⟩⟩
      have e4 := same_new (o := HO.tup (zs.map V.int)) hq
      have u4 : SqT K (upd H3 q (HO.tup (zs.map V.int))) q (zs.map V.int) := SqT.of upd_same
      generalize upd H3 q (HO.tup (zs.map V.int)) = H4 at e4 u4 ⊢
      have j4 := (j2.mv_ m3).same e4
      have lr := j4.rows.length
      refine ⟨F, _, _, rfl, rfl, j4.hF, by rw [sizeLine_eq]; omega, ?_⟩
      exact ⟨n, st, F, _, _, _, _, _, _, _, _, _, _, _, _, _, rfl, j4.add u4 lz rz, n1, n5, by rw [List.length_append, lt]; rfl⟩
  · rintro σ' H1 ⟨n, st, F, us, ts, x5, x6, x7, x8, x9, x10, x11, x12, x13, x14, x15, rfl, j, n1, n5, lt⟩
    refine kk _ _ ⟨n, F, us, ts, _, _, _, _, _, _, _, _, _, _, _, _, _, rfl, j, ⟨by omega, by omega, n1, by omega, fun t ht => (j.ok t ht).1, fun t ht => (j.ok t ht).2⟩, by omega, by omega⟩
end
end KJ
/-! _law_tables: two circles side by side -/
namespace KJ
open L2 PySem PySem.Spec PyProof.Rows Kx RZ TL
/-- two circles: their sizes, where they come back -/
structure Two (K : PySem.W.Frag) (H0 : Hp) (b F Bk : Addr) (p q k0 k1 : Nat) (us : List V) (ts : List (List Int)) (H : Hp) : Prop where
  tb : Tbs K H0 b F (p * q) us ts H
  p1 : 1 ≤ p
  p3 : p ≤ 3
  q1 : 1 ≤ q
  q2 : q ≤ 2
  bk : H Bk = some (.lst [.int (k0 : Nat), .int (k1 : Nat)])
  Bb : Bk ≠ b
  BF : Bk ≠ F
  k0l : k0 < p
  k1l : k1 < q
/-- one table under way -/
structure One (K : PySem.W.Frag) (H0 : Hp) (b F Bk Mo Tl : Addr) (p q k0 k1 m0 m1 : Nat) (us : List V) (ts : List (List Int)) (zs : List Int) (H : Hp) : Prop where
  two : Two K H0 b F Bk p q k0 k1 us ts H
  mo : H Mo = some (.lst [.int (m0 : Nat), .int (m1 : Nat)])
  tl : H Tl = some (.lst (zs.map V.int))
  nT : H0 Tl = none
  Tb : Tl ≠ b
  TF : Tl ≠ F
  TB : Tl ≠ Bk
  TM : Tl ≠ Mo
  m0l : m0 < 3
  m1l : m1 < 2
  zr : ∀ z ∈ zs, 0 ≤ z ∧ z < ((p * q : Nat) : Int)
section
variable {K : PySem.W.Frag} {H0 H H' : Hp} {b F Bk Mo Tl : Addr} {p q k0 k1 m0 m1 : Nat} {us : List V} {ts : List (List Int)} {zs : List Int}
theorem Two.mv_ (h : Two K H0 b F Bk p q k0 k1 us ts H) (m : Mv b H H') : Two K H0 b F Bk p q k0 k1 us ts H' := ⟨h.tb.mv_ m, h.p1, h.p3, h.q1, h.q2, m.1 _ _ h.Bb h.bk, h.Bb, h.BF, h.k0l, h.k1l⟩
theorem Two.same (h : Two K H0 b F Bk p q k0 k1 us ts H) (e : Same H H') : Two K H0 b F Bk p q k0 k1 us ts H' := h.mv_ ((Mv.refl h.tb.box.choose_spec).same e)
theorem Tbs.put {n : Nat} (h : Tbs K H0 b F n us ts H) (nT : H0 Tl = none) (Tb : Tl ≠ b) (TF : Tl ≠ F) {xs ys : List V} (hT : H Tl = some (.lst xs)) : Tbs K H0 b F n us ts (upd H Tl (.lst ys)) := by
  obtain ⟨t, hb⟩ := h.box
  refine ⟨⟨fun c o nc hc => ?_, t, by rw [upd_ne (Ne.symm Tb)]; exact hb⟩, h.nF, h.Fb, by rw [upd_ne (Ne.symm TF)]; exact h.hF, h.rows.imp fun _ _ z => sqT_lst hT z, h.ok⟩
  rw [upd_ne (fun z => by rw [z, nT] at hc; cases hc)]
  exact h.mv.1 _ _ nc hc
theorem One.push (h : One K H0 b F Bk Mo Tl p q k0 k1 m0 m1 us ts zs H) {z : Int} (z0 : 0 ≤ z) (z1 : z < ((p * q : Nat) : Int)) : One K H0 b F Bk Mo Tl p q k0 k1 m0 m1 us ts (zs ++ [z]) (upd H Tl (.lst (zs.map V.int ++ [.int z]))) := by
  have t := h.two
  refine ⟨⟨t.tb.put h.nT h.Tb h.TF h.tl, t.p1, t.p3, t.q1, t.q2, by rw [upd_ne (Ne.symm h.TB)]; exact t.bk, t.Bb, t.BF, t.k0l, t.k1l⟩, by rw [upd_ne (Ne.symm h.TM)]; exact h.mo, by rw [upd_same, List.map_append]; rfl, h.nT, h.Tb, h.TF, h.TB, h.TM, h.m0l, h.m1l, snoc_rng h.zr z0 z1⟩
end
def ifS : Stmt → List Stmt
  | .If _ b _ _ => b
  | _ => []
section
variable {P : Program} {w : World} {K : PySem.W.Frag} {mg : Str → Option Value} {base : Heap} {f : Addr} {cdv : Value} {A : Around} {outer : List Env} {st : Shared} {H0 : Hp} {E : XK} {b : Addr} {most : Nat}
variable (Z : Lt P w K mg base f cdv A outer st b most)
include Z
theorem tw0 : HT (ι := Unit) (XT P w K mg base f cdv A outer st H0 E) (nthS (ifS (nthS taS 1)) 0) (fun _ σ H => ∃ (n st : Nat) (F : Addr), σ = [some (.ref b), some (.int (most : Nat)), some (.int (n : Nat)), some (.int (st : Nat)), some (.ref F), none, none, none, none, none, none, none, none, none, none, none] ∧ Tbs K H0 b F n [] [] H ∧ 1 ≤ n ∧ n ≤ 5 ∧ st < 7) (fun _ σ H => ∃ (F : Addr) (p q : Nat) (x2 x3 x7 x8 x9 x10 x11 x12 x13 x14 x15 : Option V), σ = [some (.ref b), some (.int (most : Nat)), x2, x3, some (.ref F), some (.int (p : Nat)), some (.int (q : Nat)), x7, x8, x9, x10, x11, x12, x13, x14, x15] ∧ Tbs K H0 b F (p * q) [] [] H ∧ 1 ≤ p ∧ p ≤ 3 ∧ 1 ≤ q ∧ q ≤ 2) := by
  obtain ⟨T, c_take, c_pick, hr, m1, m5⟩ := Z
  refine ⟨_, (ps_par (i := 5) (j := 6) (by rfl) sc_ltables.nd rfl rfl (by decide) rfl rfl (pa_cons (pe_op op_add pe_int (pe_callC c_take hr pass0 (pa_cons (pv 0) (pa_cons pe_int pa_nil)))) (pa_cons (pe_op op_add pe_int (pe_callC c_take hr pass0 (pa_cons (pv 0) (pa_cons pe_int pa_nil)))) pa_nil)) (by rfl)), ?_⟩
  rintro _ D σ H ⟨n, st, F, rfl, j, n1, n5, s7⟩ kk
  obtain ⟨t, hb⟩ := j.box
  refine ⟨_, rfl, b, t, 3, rfl, hb, by decide, by decide, fun x H1 x0 x1 mv1 => ?_⟩
  obtain ⟨p, rfl⟩ : ∃ p : Nat, x = (p : Int) := ⟨x.toNat, by omega⟩
  obtain ⟨t1, hb1⟩ := mv1.2
  refine ⟨_, _, rfl, rfl, ?_⟩
  refine ⟨_, rfl, b, t1, 2, rfl, hb1, by decide, by decide, fun y H2 y0 y1 mv2 => ?_⟩
  obtain ⟨q, rfl⟩ : ∃ q : Nat, y = (q : Int) := ⟨y.toNat, by omega⟩
  refine ⟨_, _, rfl, rfl, ?_⟩
  refine ⟨_, _, rfl, ?_⟩
  have e1 : (1 : Int) + (p : Nat) = ((p + 1 : Nat) : Int) := by omega
  have e2 : (1 : Int) + (q : Nat) = ((q + 1 : Nat) : Int) := by omega
  show D.nx ([some (.ref b), some (.int (most : Nat)), some (.int (n : Nat)), some (.int (st : Nat)), some (.ref F), some (.int ((1 : Int) + (p : Nat))), some (.int ((1 : Int) + (q : Nat))), none, none, none, none, none, none, none, none, none]) _
  rw [e1, e2]
  have j2 := (j.mv_ mv1).mv_ mv2
  exact kk _ _ ⟨F, p + 1, q + 1, _, _, _, _, _, _, _, _, _, _, _, rfl, ⟨j2.mv, j2.nF, j2.Fb, j2.hF, j2.rows, fun _ h => nomatch h⟩, by omega, by omega, by omega, by omega⟩
theorem tw1 : HT (ι := Unit) (XT P w K mg base f cdv A outer st H0 E) (nthS (ifS (nthS taS 1)) 1) (fun _ σ H => ∃ (F : Addr) (p q : Nat) (x2 x3 x7 x8 x9 x10 x11 x12 x13 x14 x15 : Option V), σ = [some (.ref b), some (.int (most : Nat)), x2, x3, some (.ref F), some (.int (p : Nat)), some (.int (q : Nat)), x7, x8, x9, x10, x11, x12, x13, x14, x15] ∧ Tbs K H0 b F (p * q) [] [] H ∧ 1 ≤ p ∧ p ≤ 3 ∧ 1 ≤ q ∧ q ≤ 2) (fun _ σ H => ∃ (F Bk : Addr) (p q k0 k1 : Nat) (x2 x3 x8 x9 x10 x11 x12 x13 x14 x15 : Option V), σ = [some (.ref b), some (.int (most : Nat)), x2, x3, some (.ref F), some (.int (p : Nat)), some (.int (q : Nat)), some (.ref Bk), x8, x9, x10, x11, x12, x13, x14, x15] ∧ Two K H0 b F Bk p q k0 k1 [] [] H) := by
  obtain ⟨T, c_take, c_pick, hr, m1, m5⟩ := Z
  refine ⟨_, (ps_set (i := 7) sc_ltables.nd rfl (by first | exact Or.inl rfl | exact Or.inr rfl) (pe_lst (pa_cons (pe_callC c_take hr pass0 (pa_cons (pv 0) (pa_cons (pv 5) pa_nil))) (pa_cons (pe_callC c_take hr pass0 (pa_cons (pv 0) (pa_cons (pv 6) pa_nil))) pa_nil)))), ?_⟩
  rintro _ D σ H ⟨F, p, q, x2, x3, x7, x8, x9, x10, x11, x12, x13, x14, x15, rfl, j, p1, p3, q1, q2⟩ kk
  obtain ⟨t, hb⟩ := j.box
  refine ⟨_, rfl, _, rfl, b, t, _, rfl, hb, by omega, by omega, fun x H1 x0 x1 mv1 => ?_⟩
  obtain ⟨k0, rfl⟩ : ∃ p : Nat, x = (p : Int) := ⟨x.toNat, by omega⟩
  obtain ⟨t1, hb1⟩ := mv1.2
  refine ⟨_, rfl, _, rfl, b, t1, _, rfl, hb1, by omega, by omega, fun y H2 y0 y1 mv2 => ?_⟩
  obtain ⟨k1, rfl⟩ : ∃ q : Nat, y = (q : Int) := ⟨y.toNat, by omega⟩
  have j2 := (j.mv_ mv1).mv_ mv2
  refine ⟨(by show 2 ≤ sizeLine; decide), fun Bk hB => ?_⟩
  obtain ⟨t2, hb2⟩ := j2.box
  have Bb : Bk ≠ b := fun z => by rw [z, hb2] at hB; cases hB
  have BF : Bk ≠ F := fun z => by rw [z, j2.hF] at hB; cases hB
  exact kk _ _ ⟨F, Bk, p, q, k0, k1, _, _, _, _, _, _, _, _, _, _, rfl, ⟨j2.same (same_new hB), p1, p3, q1, q2, upd_same, Bb, BF, by omega, by omega⟩⟩
theorem td0 : HT (ι := Nat) (XT P w K mg base f cdv A outer st H0 E) (nthS (inS (nthS (ifS (nthS taS 1)) 2)) 0) (fun i σ H => ∃ (F Bk : Addr) (p q k0 k1 : Nat) (us : List V) (ts : List (List Int)) (x2 x3 x8 x9 x10 x11 x12 x13 x14 x15 : Option V), σ = [some (.ref b), some (.int (most : Nat)), x2, x3, some (.ref F), some (.int (p : Nat)), some (.int (q : Nat)), some (.ref Bk), x8, x9, x10, x11, x12, x13, x14, x15] ∧ Two K H0 b F Bk p q k0 k1 us ts H ∧ ts.length = i) (fun i σ H => ∃ (F Bk Mo Tl : Addr) (p q k0 k1 m0 m1 : Nat) (us : List V) (ts : List (List Int)) (zs : List Int) (x2 x3 x8 x11 x12 x13 x14 x15 : Option V), σ = [some (.ref b), some (.int (most : Nat)), x2, x3, some (.ref F), some (.int (p : Nat)), some (.int (q : Nat)), some (.ref Bk), x8, some (.ref Mo), some (.ref Tl), x11, x12, x13, x14, x15] ∧ One K H0 b F Bk Mo Tl p q k0 k1 m0 m1 us ts zs H ∧ zs.length = 0 ∧ ts.length = i) := by
  obtain ⟨T, c_take, c_pick, hr, m1, m5⟩ := Z
  refine ⟨_, (ps_par (i := 9) (j := 10) (by rfl) sc_ltables.nd rfl rfl (by decide) rfl rfl (pa_cons (pe_lst (pa_cons (pe_callC c_take hr pass0 (pa_cons (pv 0) (pa_cons pe_int pa_nil))) (pa_cons (pe_callC c_take hr pass0 (pa_cons (pv 0) (pa_cons pe_int pa_nil))) pa_nil))) (pa_cons (pe_lst pa_nil) pa_nil)) (by rfl)), ?_⟩
  rintro i D σ H ⟨F, Bk, p, q, k0, k1, us, ts, x2, x3, x8, x9, x10, x11, x12, x13, x14, x15, rfl, j, lt⟩ kk
  obtain ⟨t, hb⟩ := j.tb.box
  refine ⟨_, rfl, b, t, 3, rfl, hb, by decide, by decide, fun x H1 x0 x1 mv1 => ?_⟩
  obtain ⟨m0, rfl⟩ : ∃ p : Nat, x = (p : Int) := ⟨x.toNat, by omega⟩
  obtain ⟨t1, hb1⟩ := mv1.2
  refine ⟨_, rfl, b, t1, 2, rfl, hb1, by decide, by decide, fun y H2 y0 y1 mv2 => ?_⟩
  obtain ⟨m1, rfl⟩ : ∃ q : Nat, y = (q : Int) := ⟨y.toNat, by omega⟩
  have j2 := (j.mv_ mv1).mv_ mv2
  refine ⟨(by show 2 ≤ sizeLine; decide), fun Mo hM => ?_⟩
  have e3 := same_new (o := HO.lst [V.int (m0 : Nat), .int (m1 : Nat)]) hM
  have u3 : upd H2 Mo (HO.lst [V.int (m0 : Nat), .int (m1 : Nat)]) Mo = some (.lst [V.int (m0 : Nat), .int (m1 : Nat)]) := upd_same
  generalize upd H2 Mo (HO.lst [V.int (m0 : Nat), .int (m1 : Nat)]) = H3 at e3 u3 ⊢
  have j3 := j2.same e3
  refine ⟨(by show 0 ≤ sizeLine; decide), fun Tl hT => ?_⟩
  have e4 := same_new (o := HO.lst []) hT
  have j4 := j3.same e4
  obtain ⟨t3, hb3⟩ := j3.tb.box
  have nT : H0 Tl = none := by
    cases z : H0 Tl with
    | none => rfl
    | some o =>
      by_cases zb : Tl = b
      · rw [zb, hb3] at hT
        cases hT
      · have := j3.tb.mv.1 _ _ zb z
        rw [hT] at this
        cases this
  have ne : ∀ {c : Addr} {o : HO}, H3 c = some o → Tl ≠ c := fun hc z => by rw [← z, show H3 Tl = none from hT] at hc; cases hc
  refine ⟨_, _, rfl, ?_⟩
  exact kk _ _ ⟨F, Bk, Mo, Tl, p, q, k0, k1, m0, m1, us, ts, [], _, _, _, _, _, _, _, _, rfl, ⟨j4, e4 _ _ u3, upd_same, nT, ne hb3, ne j3.tb.hF, ne j3.bk, ne u3, by omega, by omega, fun _ h => nomatch h⟩, rfl, lt⟩
end
end KJ
/-! _law_tables: whole -/
namespace KJ
open L2 PySem PySem.Spec PyProof.Rows Kx RZ TL
section
variable {P : Program} {w : World} {K : PySem.W.Frag} {mg : Str → Option Value} {base : Heap} {f : Addr} {cdv : Value} {A : Around} {outer : List Env} {st : Shared} {H0 : Hp} {E : XK} {b : Addr} {most : Nat}
variable (Z : Lt P w K mg base f cdv A outer st b most)
include Z
theorem tn0 : HT (ι := Nat × Nat × Nat) (XT P w K mg base f cdv A outer st H0 E) (nthS (inS (nthS (inS (nthS (ifS (nthS taS 1)) 2)) 1)) 0) (fun (i, a, m) σ H => ∃ (F Bk Mo Tl : Addr) (p q k0 k1 m0 m1 : Nat) (us : List V) (ts : List (List Int)) (zs : List Int) (x2 x3 x8 x12 x13 x14 x15 : Option V), σ = [some (.ref b), some (.int (most : Nat)), x2, x3, some (.ref F), some (.int (p : Nat)), some (.int (q : Nat)), some (.ref Bk), x8, some (.ref Mo), some (.ref Tl), some (.int (a : Nat)), x12, x13, x14, x15] ∧ One K H0 b F Bk Mo Tl p q k0 k1 m0 m1 us ts zs H ∧ zs.length = a ∧ ts.length = i ∧ a < p * q ∧ p * q = m) (fun (i, a, m) σ H => ∃ (F Bk Mo Tl : Addr) (p q k0 k1 m0 m1 : Nat) (us : List V) (ts : List (List Int)) (zs : List Int) (h u : Nat) (x2 x3 x8 x14 x15 : Option V), σ = [some (.ref b), some (.int (most : Nat)), x2, x3, some (.ref F), some (.int (p : Nat)), some (.int (q : Nat)), some (.ref Bk), x8, some (.ref Mo), some (.ref Tl), some (.int (a : Nat)), some (.int (h : Nat)), some (.int (u : Nat)), x14, x15] ∧ One K H0 b F Bk Mo Tl p q k0 k1 m0 m1 us ts zs H ∧ zs.length = a ∧ ts.length = i ∧ a < p * q ∧ p * q = m ∧ h < p ∧ u < q) := by
  obtain ⟨T, c_take, c_pick, hr, m1, m5⟩ := Z
  refine ⟨_, (ps_par (i := 12) (j := 13) (by rfl) sc_ltables.nd rfl rfl (by decide) rfl rfl (pa_cons (pe_op op_fdiv (pv 11) (pv 6)) (pa_cons (pe_op op_mod (pe_callTy call_int1 (by rfl) T.z_int (by decide +kernel) (pa_cons (pv 11) pa_nil)) (pv 6)) pa_nil)) (by rfl)), ?_⟩
  rintro ⟨i, a, m⟩ D σ H ⟨F, Bk, Mo, Tl, p, q, k0, k1, m0, m1, us, ts, zs, x2, x3, x8, x12, x13, x14, x15, rfl, j, lz, lt, al, pm⟩ kk
  have q1 := j.two.q1
  have q2 := j.two.q2
  refine ⟨_, rfl, _, rfl, _, _, rfl, rfl, (by show (0 : Int) < ((q : Nat) : Int) ∧ ((q : Nat) : Int) < 1073741824; omega), ?_⟩
  refine ⟨_, rfl, .inl ⟨_, rfl, _, rfl, _, _, rfl, rfl, (by show (0 : Int) < ((q : Nat) : Int); omega), ?_⟩⟩
  refine ⟨_, _, rfl, ?_⟩
  have e1 : ((a : Nat) : Int) / ((q : Nat) : Int) = ((a / q : Nat) : Int) := by rw [Int.natCast_ediv]
  have e2 : ((a : Nat) : Int) % ((q : Nat) : Int) = ((a % q : Nat) : Int) := by rw [Int.natCast_emod]
  show D.nx ([some (.ref b), some (.int (most : Nat)), x2, x3, some (.ref F), some (.int (p : Nat)), some (.int (q : Nat)), some (.ref Bk), x8, some (.ref Mo), some (.ref Tl), some (.int (a : Nat)), some (.int (((a : Nat) : Int) / ((q : Nat) : Int))), some (.int (((a : Nat) : Int) % ((q : Nat) : Int))), x14, x15]) _
  rw [e1, e2]
  exact kk _ _ ⟨F, Bk, Mo, Tl, p, q, k0, k1, m0, m1, us, ts, zs, a / q, a % q, _, _, _, _, _, rfl, j, lz, lt, al, pm, (Nat.div_lt_iff_lt_mul (by omega)).mpr al, Nat.mod_lt _ (by omega)⟩
theorem tn1 : HT (ι := Nat × Nat × Nat) (XT P w K mg base f cdv A outer st H0 E) (nthS (inS (nthS (inS (nthS (ifS (nthS taS 1)) 2)) 1)) 1) (fun (i, a, m) σ H => ∃ (F Bk Mo Tl : Addr) (p q k0 k1 m0 m1 : Nat) (us : List V) (ts : List (List Int)) (zs : List Int) (h u : Nat) (x2 x3 x8 x14 x15 : Option V), σ = [some (.ref b), some (.int (most : Nat)), x2, x3, some (.ref F), some (.int (p : Nat)), some (.int (q : Nat)), some (.ref Bk), x8, some (.ref Mo), some (.ref Tl), some (.int (a : Nat)), some (.int (h : Nat)), some (.int (u : Nat)), x14, x15] ∧ One K H0 b F Bk Mo Tl p q k0 k1 m0 m1 us ts zs H ∧ zs.length = a ∧ ts.length = i ∧ a < p * q ∧ p * q = m ∧ h < p ∧ u < q) (fun (i, a, m) σ H => ∃ (F Bk Mo Tl : Addr) (p q k0 k1 m0 m1 : Nat) (us : List V) (ts : List (List Int)) (zs : List Int) (h u : Nat) (x2 x3 x8 x14 x15 : Option V), σ = [some (.ref b), some (.int (most : Nat)), x2, x3, some (.ref F), some (.int (p : Nat)), some (.int (q : Nat)), some (.ref Bk), x8, some (.ref Mo), some (.ref Tl), some (.int (a : Nat)), some (.int (h : Nat)), some (.int (u : Nat)), x14, x15] ∧ One K H0 b F Bk Mo Tl p q k0 k1 m0 m1 us ts zs H ∧ zs.length = a ∧ ts.length = i ∧ a < p * q ∧ p * q = m ∧ h < p ∧ u < q) := by
  obtain ⟨T, c_take, c_pick, hr, m1, m5⟩ := Z
  refine ⟨_, (ps_for PassesOwn.never rfl (pi_range1 (by rfl) T.z_range (pa_cons (pe_ix ix_list (pv 9) pe_int (fun _ _ => rfl)) pa_nil)) (pg_name (i := 14) sc_ltables.nd rfl (by first | exact Or.inl rfl | exact Or.inr rfl))
  (pss_one (ps_set (i := 12) sc_ltables.nd rfl (by first | exact Or.inl rfl | exact Or.inr rfl) (pe_ifExp (pt_cmpR op_lt (pe_op op_add (pv 12) pe_int) (pv 5) (nomark _)) (pe_op op_add (pv 12) pe_int) (pe_ix ix_list (pv 7) pe_int (fun _ _ => rfl)))))), ?_⟩
  rintro ⟨i, a, m⟩ D σ H ⟨F, Bk, Mo, Tl, p, q, k0, k1, m0, m1, us, ts, zs, h, u, x2, x3, x8, x14, x15, rfl, j, lz, lt, al, pm, hp, uq⟩ kk
  have p1 := j.two.p1
  have p3 := j.two.p3
  have q1 := j.two.q1
  have q2 := j.two.q2
  have k0l := j.two.k0l
  have k1l := j.two.k1l
  have m0l := j.m0l
  have m1l := j.m1l
  obtain ⟨H1, hH⟩ : ∃ H1, H1 = H := ⟨_, rfl⟩
  refine ⟨_, rfl, Mo, _, _, _, rfl, rfl, SqL.of j.mo, (show atI [V.int (m0 : Nat), .int (m1 : Nat)] 0 = some (.int (m0 : Nat)) from rfl), ?_⟩
  refine ⟨m0, rfl, by omega, by omega, for_range (lo := 0) (n := m0) (fun _ σ H => ∃ (h u : Nat) (x14 : Option V), σ = [some (.ref b), some (.int (most : Nat)), x2, x3, some (.ref F), some (.int (p : Nat)), some (.int (q : Nat)), some (.ref Bk), x8, some (.ref Mo), some (.ref Tl), some (.int (a : Nat)), some (.int (h : Nat)), some (.int (u : Nat)), x14, x15] ∧ H = H1 ∧ h < p ∧ u < q) ⟨h, u, _, rfl, hH.symm, hp, uq⟩ ?_ ?_⟩
  · rintro r σ' H2 _ ⟨h, u, x14, rfl, rfl, hp, uq⟩
    subst hH
    refine ⟨_, rfl, _, _, rfl, rfl, _, rfl, _, _, rfl, rfl, _, rfl, ite2 (fun z => ?_) (fun _ => ?_)⟩
    · have z : ((h : Nat) : Int) + 1 < ((p : Nat) : Int) := by simpa using z
      refine ⟨_, rfl, _, _, rfl, rfl, ?_⟩
      have e : ((h : Nat) : Int) + 1 = ((h + 1 : Nat) : Int) := by omega
      exact ⟨h + 1, u, some (.int (0 + (r : Int))), by rw [← e]; rfl, rfl, by omega, by omega⟩
    · refine ⟨_, rfl, Bk, _, _, _, rfl, rfl, SqL.of j.two.bk, (show atI [V.int (k0 : Nat), .int (k1 : Nat)] 0 = some (.int (k0 : Nat)) from rfl), ?_⟩
      exact ⟨k0, u, some (.int (0 + (r : Int))), rfl, rfl, by omega, by omega⟩
  · rintro σ' H2 ⟨h, u, x14, rfl, rfl, hp, uq⟩
    subst hH
    exact kk _ _ ⟨F, Bk, Mo, Tl, p, q, k0, k1, m0, m1, us, ts, zs, h, u, _, _, _, _, _, rfl, j, lz, lt, al, pm, hp, uq⟩
theorem tn2 : HT (ι := Nat × Nat × Nat) (XT P w K mg base f cdv A outer st H0 E) (nthS (inS (nthS (inS (nthS (ifS (nthS taS 1)) 2)) 1)) 2) (fun (i, a, m) σ H => ∃ (F Bk Mo Tl : Addr) (p q k0 k1 m0 m1 : Nat) (us : List V) (ts : List (List Int)) (zs : List Int) (h u : Nat) (x2 x3 x8 x14 x15 : Option V), σ = [some (.ref b), some (.int (most : Nat)), x2, x3, some (.ref F), some (.int (p : Nat)), some (.int (q : Nat)), some (.ref Bk), x8, some (.ref Mo), some (.ref Tl), some (.int (a : Nat)), some (.int (h : Nat)), some (.int (u : Nat)), x14, x15] ∧ One K H0 b F Bk Mo Tl p q k0 k1 m0 m1 us ts zs H ∧ zs.length = a ∧ ts.length = i ∧ a < p * q ∧ p * q = m ∧ h < p ∧ u < q) (fun (i, a, m) σ H => ∃ (F Bk Mo Tl : Addr) (p q k0 k1 m0 m1 : Nat) (us : List V) (ts : List (List Int)) (zs : List Int) (h u : Nat) (x2 x3 x8 x14 x15 : Option V), σ = [some (.ref b), some (.int (most : Nat)), x2, x3, some (.ref F), some (.int (p : Nat)), some (.int (q : Nat)), some (.ref Bk), x8, some (.ref Mo), some (.ref Tl), some (.int (a : Nat)), some (.int (h : Nat)), some (.int (u : Nat)), x14, x15] ∧ One K H0 b F Bk Mo Tl p q k0 k1 m0 m1 us ts zs H ∧ zs.length = a ∧ ts.length = i ∧ a < p * q ∧ p * q = m ∧ h < p ∧ u < q) := by
  obtain ⟨T, c_take, c_pick, hr, m1, m5⟩ := Z
  refine ⟨_, (ps_for PassesOwn.never rfl (pi_range1 (by rfl) T.z_range (pa_cons (pe_ix ix_list (pv 9) pe_int (fun _ _ => rfl)) pa_nil)) (pg_name (i := 14) sc_ltables.nd rfl (by first | exact Or.inl rfl | exact Or.inr rfl))
  (pss_one (ps_set (i := 13) sc_ltables.nd rfl (by first | exact Or.inl rfl | exact Or.inr rfl) (pe_ifExp (pt_cmpR op_lt (pe_op op_add (pv 13) pe_int) (pv 6) (nomark _)) (pe_op op_add (pv 13) pe_int) (pe_ix ix_list (pv 7) pe_int (fun _ _ => rfl)))))), ?_⟩
  rintro ⟨i, a, m⟩ D σ H ⟨F, Bk, Mo, Tl, p, q, k0, k1, m0, m1, us, ts, zs, h, u, x2, x3, x8, x14, x15, rfl, j, lz, lt, al, pm, hp, uq⟩ kk
  have p1 := j.two.p1
  have p3 := j.two.p3
  have q1 := j.two.q1
  have q2 := j.two.q2
  have k0l := j.two.k0l
  have k1l := j.two.k1l
  have m0l := j.m0l
  have m1l := j.m1l
  obtain ⟨H1, hH⟩ : ∃ H1, H1 = H := ⟨_, rfl⟩
  refine ⟨_, rfl, Mo, _, _, _, rfl, rfl, SqL.of j.mo, (show atI [V.int (m0 : Nat), .int (m1 : Nat)] 1 = some (.int (m1 : Nat)) from rfl), ?_⟩
  refine ⟨m1, rfl, by omega, by omega, for_range (lo := 0) (n := m1) (fun _ σ H => ∃ (h u : Nat) (x14 : Option V), σ = [some (.ref b), some (.int (most : Nat)), x2, x3, some (.ref F), some (.int (p : Nat)), some (.int (q : Nat)), some (.ref Bk), x8, some (.ref Mo), some (.ref Tl), some (.int (a : Nat)), some (.int (h : Nat)), some (.int (u : Nat)), x14, x15] ∧ H = H1 ∧ h < p ∧ u < q) ⟨h, u, _, rfl, hH.symm, hp, uq⟩ ?_ ?_⟩
  · rintro r σ' H2 _ ⟨h, u, x14, rfl, rfl, hp, uq⟩
    subst hH
    refine ⟨_, rfl, _, _, rfl, rfl, _, rfl, _, _, rfl, rfl, _, rfl, ite2 (fun z => ?_) (fun _ => ?_)⟩
    · have z : ((u : Nat) : Int) + 1 < ((q : Nat) : Int) := by simpa using z
      refine ⟨_, rfl, _, _, rfl, rfl, ?_⟩
      have e : ((u : Nat) : Int) + 1 = ((u + 1 : Nat) : Int) := by omega
      exact ⟨h, u + 1, some (.int (0 + (r : Int))), by rw [← e]; rfl, rfl, by omega, by omega⟩
    · refine ⟨_, rfl, Bk, _, _, _, rfl, rfl, SqL.of j.two.bk, (show atI [V.int (k0 : Nat), .int (k1 : Nat)] 1 = some (.int (k1 : Nat)) from rfl), ?_⟩
      exact ⟨h, k1, some (.int (0 + (r : Int))), rfl, rfl, by omega, by omega⟩
  · rintro σ' H2 ⟨h, u, x14, rfl, rfl, hp, uq⟩
    subst hH
    exact kk _ _ ⟨F, Bk, Mo, Tl, p, q, k0, k1, m0, m1, us, ts, zs, h, u, _, _, _, _, _, rfl, j, lz, lt, al, pm, hp, uq⟩
theorem tn3 : HT (ι := Nat × Nat × Nat) (XT P w K mg base f cdv A outer st H0 E) (nthS (inS (nthS (inS (nthS (ifS (nthS taS 1)) 2)) 1)) 3) (fun (i, a, m) σ H => ∃ (F Bk Mo Tl : Addr) (p q k0 k1 m0 m1 : Nat) (us : List V) (ts : List (List Int)) (zs : List Int) (h u : Nat) (x2 x3 x8 x14 x15 : Option V), σ = [some (.ref b), some (.int (most : Nat)), x2, x3, some (.ref F), some (.int (p : Nat)), some (.int (q : Nat)), some (.ref Bk), x8, some (.ref Mo), some (.ref Tl), some (.int (a : Nat)), some (.int (h : Nat)), some (.int (u : Nat)), x14, x15] ∧ One K H0 b F Bk Mo Tl p q k0 k1 m0 m1 us ts zs H ∧ zs.length = a ∧ ts.length = i ∧ a < p * q ∧ p * q = m ∧ h < p ∧ u < q) (fun (i, a, m) σ H => ∃ (F Bk Mo Tl : Addr) (p q k0 k1 m0 m1 : Nat) (us : List V) (ts : List (List Int)) (zs : List Int) (x2 x3 x8 x11 x12 x13 x14 x15 : Option V), σ = [some (.ref b), some (.int (most : Nat)), x2, x3, some (.ref F), some (.int (p : Nat)), some (.int (q : Nat)), some (.ref Bk), x8, some (.ref Mo), some (.ref Tl), x11, x12, x13, x14, x15] ∧ One K H0 b F Bk Mo Tl p q k0 k1 m0 m1 us ts zs H ∧ zs.length = a + 1 ∧ ts.length = i ∧ p * q = m) := by
  obtain ⟨T, c_take, c_pick, hr, m1, m5⟩ := Z
  refine ⟨_, (ps_expr (pe_bm PySem.F.plainAttrs_list PySem.F.slot_list_append PySem.F.type_list_append mt_append (pv 10) (pa_cons (pe_op op_add (pe_op op_mul (pv 12) (pv 6)) (pv 13)) pa_nil))), ?_⟩
  rintro ⟨i, a, m⟩ D σ H ⟨F, Bk, Mo, Tl, p, q, k0, k1, m0, m1, us, ts, zs, h, u, x2, x3, x8, x14, x15, rfl, j, lz, lt, al, pm, hp, uq⟩ kk
  have p1 := j.two.p1
  have p3 := j.two.p3
  have q1 := j.two.q1
  have q2 := j.two.q2
  have le : h * q + u < p * q := by
    have : (h + 1) * q ≤ p * q := Nat.mul_le_mul_right _ hp
    rw [Nat.succ_mul] at this
    omega
  have pq : p * q ≤ 6 := Nat.le_trans (Nat.mul_le_mul p3 q2) (by decide)
  have e : ((h : Nat) : Int) * ((q : Nat) : Int) + ((u : Nat) : Int) = ((h * q + u : Nat) : Int) := by rw [Int.natCast_add, Int.natCast_mul]
  refine ⟨_, rfl, .inl ⟨rfl, _, SqL.of j.tl⟩, ?_⟩
  refine ⟨_, rfl, _, rfl, _, _, rfl, rfl, .inr ⟨by omega, by omega⟩, _, rfl, _, _, rfl, rfl, ?_⟩
  refine ⟨Tl, _, _, rfl, rfl, j.tl, by rw [List.length_map, sizeLine_eq]; omega, ?_⟩
  have jp := j.push (z := ((h : Nat) : Int) * ((q : Nat) : Int) + ((u : Nat) : Int)) (by rw [e]; omega) (by rw [e]; omega)
  exact kk _ _ ⟨F, Bk, Mo, Tl, p, q, k0, k1, m0, m1, us, ts, _, _, _, _, _, _, _, _, _, rfl, jp, by rw [List.length_append, lz]; rfl, lt, pm⟩
theorem td1 : HT (ι := Nat) (XT P w K mg base f cdv A outer st H0 E) (nthS (inS (nthS (ifS (nthS taS 1)) 2)) 1) (fun i σ H => ∃ (F Bk Mo Tl : Addr) (p q k0 k1 m0 m1 : Nat) (us : List V) (ts : List (List Int)) (zs : List Int) (x2 x3 x8 x11 x12 x13 x14 x15 : Option V), σ = [some (.ref b), some (.int (most : Nat)), x2, x3, some (.ref F), some (.int (p : Nat)), some (.int (q : Nat)), some (.ref Bk), x8, some (.ref Mo), some (.ref Tl), x11, x12, x13, x14, x15] ∧ One K H0 b F Bk Mo Tl p q k0 k1 m0 m1 us ts zs H ∧ zs.length = 0 ∧ ts.length = i) (fun i σ H => ∃ (F Bk Mo Tl : Addr) (p q k0 k1 m0 m1 : Nat) (us : List V) (ts : List (List Int)) (zs : List Int) (x2 x3 x8 x11 x12 x13 x14 x15 : Option V), σ = [some (.ref b), some (.int (most : Nat)), x2, x3, some (.ref F), some (.int (p : Nat)), some (.int (q : Nat)), some (.ref Bk), x8, some (.ref Mo), some (.ref Tl), x11, x12, x13, x14, x15] ∧ One K H0 b F Bk Mo Tl p q k0 k1 m0 m1 us ts zs H ∧ zs.length = p * q ∧ ts.length = i) := by
  obtain ⟨tn, ab, cb⟩ := HTs.cons (tn0 (H0 := H0) (E := E) Z) (.cons (tn1 Z) (.cons (tn2 Z) (.one (tn3 Z))))
  obtain ⟨T, c_take, c_pick, hr, m1, m5⟩ := Z
  refine ⟨_, ps_for PassesOwn.never rfl (pi_range1 (by rfl) T.z_range (pa_cons (pe_op op_mul (pv 5) (pv 6)) pa_nil)) (pg_name (i := 11) sc_ltables.nd rfl (by first | exact Or.inl rfl | exact Or.inr rfl)) ab, ?_⟩
  rintro i D σ H ⟨F, Bk, Mo, Tl, p, q, k0, k1, m0, m1, us, ts, zs, x2, x3, x8, x11, x12, x13, x14, x15, rfl, j, lz, lt⟩ kk
  have p3 := j.two.p3
  have q2 := j.two.q2
  have pq : p * q ≤ 6 := Nat.le_trans (Nat.mul_le_mul p3 q2) (by decide)
  refine ⟨_, rfl, _, rfl, _, _, rfl, rfl, .inr ⟨by omega, by omega⟩, ((p * q : Nat) : Int), ?_, by omega, by omega, ?_⟩
  · show [V.int (((p : Nat) : Int) * ((q : Nat) : Int))] = [V.int ((p * q : Nat) : Int)]
    rw [Int.natCast_mul]
  refine for_range (lo := 0) (n := p * q) (fun a σ H => ∃ (F Bk Mo Tl : Addr) (p' q' k0 k1 m0 m1 : Nat) (us : List V) (ts : List (List Int)) (zs : List Int) (x2 x3 x8 x11 x12 x13 x14 x15 : Option V), σ = [some (.ref b), some (.int (most : Nat)), x2, x3, some (.ref F), some (.int (p' : Nat)), some (.int (q' : Nat)), some (.ref Bk), x8, some (.ref Mo), some (.ref Tl), x11, x12, x13, x14, x15] ∧ One K H0 b F Bk Mo Tl p' q' k0 k1 m0 m1 us ts zs H ∧ zs.length = a ∧ ts.length = i ∧ p' * q' = p * q) ⟨F, Bk, Mo, Tl, p, q, k0, k1, m0, m1, us, ts, zs, _, _, _, _, _, _, _, _, rfl, j, lz, lt, rfl⟩ ?_ ?_
  · rintro a σ' H1 ha ⟨F, Bk, Mo, Tl, p', q', k0, k1, m0, m1, us, ts, zs, x2, x3, x8, x11, x12, x13, x14, x15, rfl, j, lz, lt, epq⟩
    rw [show (0 : Int) + (a : Int) = (a : Int) from Int.zero_add _]
    refine cb (i, a, p * q) _ _ _ ⟨F, Bk, Mo, Tl, p', q', k0, k1, m0, m1, us, ts, zs, _, _, _, _, _, _, _, rfl, j, lz, lt, by omega, epq⟩ ?_
    rintro σ2 H2 ⟨F, Bk, Mo, Tl, p', q', k0, k1, m0, m1, us, ts, zs, x2, x3, x8, x11, x12, x13, x14, x15, rfl, j, lz, lt, epq⟩
    exact ⟨F, Bk, Mo, Tl, p', q', k0, k1, m0, m1, us, ts, zs, _, _, _, _, _, _, _, _, rfl, j, lz, lt, epq⟩
  · rintro σ' H1 ⟨F, Bk, Mo, Tl, p', q', k0, k1, m0, m1, us, ts, zs, x2, x3, x8, x11, x12, x13, x14, x15, rfl, j, lz, lt, epq⟩
    exact kk _ _ ⟨F, Bk, Mo, Tl, p', q', k0, k1, m0, m1, us, ts, zs, _, _, _, _, _, _, _, _, rfl, j, by rw [lz, epq], lt⟩
theorem td2 : HT (ι := Nat) (XT P w K mg base f cdv A outer st H0 E) (nthS (inS (nthS (ifS (nthS taS 1)) 2)) 2) (fun i σ H => (∃ (F Bk Mo Tl : Addr) (p q k0 k1 m0 m1 : Nat) (us : List V) (ts : List (List Int)) (zs : List Int) (x2 x3 x8 x11 x12 x13 x14 x15 : Option V), σ = [some (.ref b), some (.int (most : Nat)), x2, x3, some (.ref F), some (.int (p : Nat)), some (.int (q : Nat)), some (.ref Bk), x8, some (.ref Mo), some (.ref Tl), x11, x12, x13, x14, x15] ∧ One K H0 b F Bk Mo Tl p q k0 k1 m0 m1 us ts zs H ∧ zs.length = p * q ∧ ts.length = i) ∧ i < 3) (fun i σ H => ∃ (F Bk : Addr) (p q k0 k1 : Nat) (us : List V) (ts : List (List Int)) (x2 x3 x8 x9 x10 x11 x12 x13 x14 x15 : Option V), σ = [some (.ref b), some (.int (most : Nat)), x2, x3, some (.ref F), some (.int (p : Nat)), some (.int (q : Nat)), some (.ref Bk), x8, x9, x10, x11, x12, x13, x14, x15] ∧ Two K H0 b F Bk p q k0 k1 us ts H ∧ ts.length = i + 1) := by
  obtain ⟨T, c_take, c_pick, hr, m1, m5⟩ := Z
  refine ⟨_, (ps_expr (pe_bm PySem.F.plainAttrs_list PySem.F.slot_list_append PySem.F.type_list_append mt_append (pv 4) (pa_cons (pe_callTy (call_tupleK (K := K)) (by rfl) T.z_tuple (by decide +kernel) (pa_cons (pv 10) pa_nil)) pa_nil))), ?_⟩
  rintro i D σ H ⟨⟨F, Bk, Mo, Tl, p, q, k0, k1, m0, m1, us, ts, zs, x2, x3, x8, x11, x12, x13, x14, x15, rfl, j, lz, lt⟩, i3⟩ kk
  refine ⟨_, rfl, .inl ⟨rfl, _, SqL.of j.two.tb.hF⟩, ?_⟩
  refine ⟨_, rfl, Tl, _, rfl, .inl ⟨SqL.of j.tl, fun r hr => ?_⟩⟩
  have e4 := same_new (o := HO.tup (zs.map V.int)) hr
  have u4 : SqT K (upd H r (HO.tup (zs.map V.int))) r (zs.map V.int) := SqT.of upd_same
  generalize upd H r (HO.tup (zs.map V.int)) = H4 at e4 u4 ⊢
  have j4 := j.two.same e4
  have lr := j4.tb.rows.length
  refine ⟨F, _, _, rfl, rfl, j4.tb.hF, by rw [sizeLine_eq]; omega, ?_⟩
  exact kk _ _ ⟨F, Bk, p, q, k0, k1, _, _, _, _, _, _, _, _, _, _, _, _, rfl, ⟨j4.tb.add u4 lz j.zr, j4.p1, j4.p3, j4.q1, j4.q2, by rw [upd_ne j4.BF]; exact j4.bk, j4.Bb, j4.BF, j4.k0l, j4.k1l⟩, by rw [List.length_append, lt]; rfl⟩
theorem tw2 : HT (ι := Unit) (XT P w K mg base f cdv A outer st H0 E) (nthS (ifS (nthS taS 1)) 2) (fun _ σ H => ∃ (F Bk : Addr) (p q k0 k1 : Nat) (x2 x3 x8 x9 x10 x11 x12 x13 x14 x15 : Option V), σ = [some (.ref b), some (.int (most : Nat)), x2, x3, some (.ref F), some (.int (p : Nat)), some (.int (q : Nat)), some (.ref Bk), x8, x9, x10, x11, x12, x13, x14, x15] ∧ Two K H0 b F Bk p q k0 k1 [] [] H) (fun _ σ H => ∃ (n : Nat) (F : Addr) (us : List V) (ts : List (List Int)) (x2 x3 x5 x6 x7 x8 x9 x10 x11 x12 x13 x14 x15 : Option V), σ = [some (.ref b), some (.int (most : Nat)), x2, x3, some (.ref F), x5, x6, x7, x8, x9, x10, x11, x12, x13, x14, x15] ∧ Tbs K H0 b F n us ts H ∧ Mok n ts ∧ ts.length ≤ 3 ∧ n ≤ 6) := by
  have up : ∀ {s1 : Stmt} {U V : Nat → L2.St → Hp → Prop}, HT (ι := Nat) (XT P w K mg base f cdv A outer st H0 E) s1 U V → HT (ι := Nat) (XT P w K mg base f cdv A outer st H0 E) s1 (fun i σ H => U i σ H ∧ i < 3) (fun i σ H => V i σ H ∧ i < 3) := fun h => HT.by h fun i σ H ⟨a, l⟩ => ⟨i, a, fun _ _ q => ⟨q, l⟩⟩
  obtain ⟨tn, ab, cb⟩ := HTs.cons (up (td0 (H0 := H0) (E := E) Z)) (.cons (up (td1 Z)) (.one (td2 Z)))
  obtain ⟨T, c_take, c_pick, hr, m1, m5⟩ := Z
  refine ⟨_, ps_for PassesOwn.never rfl (pi_range1 (by rfl) T.z_range (pa_cons (pe_callC c_pick hr pass0 (pa_cons (pv 0) (pa_cons (pe_lst (pa_cons pe_int (pa_cons pe_int (pa_cons pe_int (pa_cons pe_int pa_nil))))) pa_nil))) pa_nil)) (pg_name (i := 8) sc_ltables.nd rfl (by first | exact Or.inl rfl | exact Or.inr rfl)) ab, ?_⟩
  rintro _ D σ H ⟨F, Bk, p, q, k0, k1, x2, x3, x8, x9, x10, x11, x12, x13, x14, x15, rfl, j⟩ kk
  obtain ⟨t, hb⟩ := j.tb.box
  refine ⟨_, rfl, (by show 4 ≤ sizeLine; decide), fun l hl => ?_⟩
  have lb : l ≠ b := fun z => by rw [z, hb] at hl; cases hl
  have e1 := same_new (o := HO.lst [V.int 1, .int 2, .int 2, .int 3]) hl
  have u1 : SqL K (upd H l (HO.lst [V.int 1, .int 2, .int 2, .int 3])) l [V.int 1, .int 2, .int 2, .int 3] := SqL.of upd_same
  generalize upd H l (HO.lst [V.int 1, .int 2, .int 2, .int 3]) = H1 at e1 u1 ⊢
  refine ⟨b, l, t, _, rfl, e1 _ _ hb, lb, u1, by simp, by simp, fun v H2 hv m2 => ?_⟩
  obtain ⟨m, rfl, m1', m3'⟩ := one_to_three hv
  have j2 := (j.same e1).mv_ m2
  refine ⟨m, rfl, by omega, by omega, for_range (lo := 0) (n := m) (fun i σ H => ∃ (F Bk : Addr) (p q k0 k1 : Nat) (us : List V) (ts : List (List Int)) (x2 x3 x8 x9 x10 x11 x12 x13 x14 x15 : Option V), σ = [some (.ref b), some (.int (most : Nat)), x2, x3, some (.ref F), some (.int (p : Nat)), some (.int (q : Nat)), some (.ref Bk), x8, x9, x10, x11, x12, x13, x14, x15] ∧ Two K H0 b F Bk p q k0 k1 us ts H ∧ ts.length = i) ⟨F, Bk, p, q, k0, k1, [], [], _, _, _, _, _, _, _, _, _, _, rfl, j2, rfl⟩ ?_ ?_⟩
  · rintro i σ' H1 hi ⟨F, Bk, p, q, k0, k1, us, ts, x2, x3, x8, x9, x10, x11, x12, x13, x14, x15, rfl, j, lt⟩
    refine cb i _ _ _ ⟨⟨F, Bk, p, q, k0, k1, us, ts, _, _, _, _, _, _, _, _, _, _, rfl, j, lt⟩, by omega⟩ ?_
    exact fun σ2 H2 h => h
  · rintro σ' H1 ⟨F, Bk, p, q, k0, k1, us, ts, x2, x3, x8, x9, x10, x11, x12, x13, x14, x15, rfl, j, lt⟩
    have pq : p * q ≤ 6 := Nat.le_trans (Nat.mul_le_mul j.p3 j.q2) (by decide)
    have pq1 : 1 ≤ p * q := Nat.mul_pos j.p1 j.q1
    exact kk _ _ ⟨p * q, F, us, ts, _, _, _, _, _, _, _, _, _, _, _, _, _, rfl, j.tb, ⟨by omega, by omega, pq1, by omega, fun t ht => (j.tb.ok t ht).1, fun t ht => (j.tb.ok t ht).2⟩, by omega, pq⟩
theorem ta1 : HTr (ι := Unit) (XT P w K mg base f cdv A outer st H0 E) (nthS taS 1) (fun _ σ H => ∃ (n st : Nat) (F : Addr), σ = [some (.ref b), some (.int (most : Nat)), some (.int (n : Nat)), some (.int (st : Nat)), some (.ref F), none, none, none, none, none, none, none, none, none, none, none] ∧ Tbs K H0 b F n [] [] H ∧ 1 ≤ n ∧ n ≤ 5 ∧ st < 7) (fun _ σ H => ∃ (n st : Nat) (F : Addr), σ = [some (.ref b), some (.int (most : Nat)), some (.int (n : Nat)), some (.int (st : Nat)), some (.ref F), none, none, none, none, none, none, none, none, none, none, none] ∧ Tbs K H0 b F n [] [] H ∧ 1 ≤ n ∧ n ≤ 5 ∧ st < 7) (fun _ v H => ∃ (F : Addr) (us : List V) (n : Nat) (ts : List (List Int)), v = .ref F ∧ Tbs K H0 b F n us ts H ∧ Mok n ts ∧ ts.length ≤ 3 ∧ n ≤ 6) := by
  obtain ⟨t0, a0, b0⟩ := tw0 (H0 := H0) (E := E) Z
  obtain ⟨t1, a1, b1⟩ := tw1 (H0 := H0) (E := E) Z
  obtain ⟨t2, a2, b2⟩ := tw2 (H0 := H0) (E := E) Z
  refine ⟨_, ps_if (pt_cmpR op_gt (pv 3) pe_int (nomark _)) (pss_cons a0 (pss_cons a1 (pss_cons a2 (pss_one (ps_ret (pv 4)))))) pss_nil, ?_⟩
  rintro _ D σ H ⟨n, st, F, rfl, j, n1, n5, s7⟩ kk kr
  refine ⟨_, rfl, _, _, rfl, rfl, _, rfl, ite2 (fun _ => ?_) (fun _ => ?_)⟩
  · refine b0 () _ _ _ ⟨n, st, F, rfl, j, n1, n5, s7⟩ fun σ1 H1 h1 => b1 () _ _ _ h1 fun σ2 H2 h2 => b2 () _ _ _ h2 fun σ3 H3 h3 => ?_
    obtain ⟨n, F, us, ts, x2, x3, x5, x6, x7, x8, x9, x10, x11, x12, x13, x14, x15, rfl, j, ok, l3, n6⟩ := h3
    exact ⟨_, rfl, kr _ _ ⟨F, us, n, ts, rfl, j, ok, l3, n6⟩⟩
  · exact kk _ _ ⟨n, st, F, rfl, j, n1, n5, s7⟩
end
section
variable {P : Program} {w : World} {K : PySem.W.Frag} {mg : Str → Option Value} {base : Heap} {f : Addr} {fd : FuncData}
theorem ok_ltables (F : FnP K "_law_tables" s_law_tables f fd) (T : Mg mg) (c_take : Cal P w K mg base CX0 1 "_law_take" ["box", "many"] spTake) (c_pick : Cal P w K mg base CX0 2 "_law_pick" ["box", "some"] (spPick K)) : FnOk P w K mg base CX0 3 f fd ["box", "most"] (spLTables K) := by
  refine F.ok sc_ltables (fun vs H Q E h => ?_) (fun cdv A outer st H vs Q E hr h => ?_)
  · obtain ⟨b, t, most, rfl, _⟩ := h
    rfl
  · obtain ⟨b, t, most, rfl, hb, m1, m5, k⟩ := h
    have Z : Lt P w K mg base f cdv A outer st b most := ⟨T, c_take, c_pick, hr, m1, m5⟩
    obtain ⟨t0, a0, b0⟩ := ta0 (H0 := H) (E := E) Z
    obtain ⟨t1, a1, b1⟩ := ta1 (H0 := H) (E := E) Z
    obtain ⟨t2, a2, b2⟩ := ta2 (H0 := H) (E := E) Z
    refine ⟨_, PSs.nox (pss_cons a0 (pss_cons a1 (pss_cons a2 (pss_one (ps_ret (pv 4)))))), ?_⟩
    refine b0 () _ _ _ ⟨rfl, rfl, t, hb⟩ fun σ1 H1 h1 => b1 () _ _ _ h1 (fun σ2 H2 h2 => ?_) fun v H2 h2 => ?_
    · obtain ⟨n, st, F, rfl, j, n1, n5, s7⟩ := h2
      refine b2 () _ _ _ ⟨n, st, F, [], [], _, _, _, _, _, _, _, _, _, _, _, rfl, j, n1, n5, rfl⟩ fun σ3 H3 h3 => ?_
      obtain ⟨n, F, us, ts, x2, x3, x5, x6, x7, x8, x9, x10, x11, x12, x13, x14, x15, rfl, j, ok, l3, n6⟩ := h3
      exact ⟨_, rfl, k F us n ts _ j ok l3 n6⟩
    · obtain ⟨F, us, n, ts, rfl, j, ok, l3, n6⟩ := h2
      exact k F us n ts _ j ok l3 n6
end
end KJ
/-! which counters tell (pure) -/
namespace KJ
open L2 PySem PySem.Spec PyProof.Rows Kx RZ TL
/-- machines of the law: few enough -/
structure Prm (n : Nat) (ts : List (List Int)) (s : Int) : Prop where
  ok : Mok n ts
  s0 : 0 ≤ s
  s1 : s < (n : Int)
  few : (n ≤ 6 ∧ ts.length ≤ 3) ∨ ts.length ≤ 2
/-- counters that fit such a machine -/
structure Fit (n : Nat) (ts : List (List Int)) (rs es : List Nat) : Prop where
  lr : rs.length = ts.length
  le : es.length = ts.length
  r1 : ∀ r ∈ rs, 1 ≤ r
  rb : ∀ r ∈ rs, r ≤ 12 ∨ r ≤ 2 * len8 n
  eb : ∀ e ∈ es, e ≤ n
section
variable {n : Nat} {ts : List (List Int)} {s : Int} {rs es : List Nat}
theorem Prm.wk (P : Prm n ts s) (F : Fit n ts rs es) : Wk n ⟨ts, rs, es, s⟩ := ⟨P.ok, P.s0, P.s1, F.lr, F.le, F.r1⟩
theorem getD_all {p : Nat → Prop} {l : List Nat} {d : Nat} (h : ∀ x ∈ l, p x) (hd : d < l.length) : p (l.getD d 0) := h _ (getD_mem hd)
theorem Prm.small (P : Prm n ts s) (F : Fit n ts rs es) : n * prodI (caps ⟨ts, rs, es, s⟩) ≤ 60000 := by
  have n8 := P.ok.n8
  have at_ : ∀ {m : Nat}, 12 + n ≤ m → 2 * len8 n + n ≤ m → ∀ z ∈ caps ⟨ts, rs, es, s⟩, z ≤ (m : Int) := fun {m} h1 h2 z hz => by
    unfold caps at hz
    obtain ⟨d, hd, rfl⟩ := List.mem_map.mp hz
    have hd : d < ts.length := List.mem_range.mp hd
    have a := getD_all F.rb (d := d) (by rw [F.lr]; exact hd)
    have b := getD_all F.eb (d := d) (by rw [F.le]; exact hd)
    show ((es.getD d 0 : Nat) : Int) + ((rs.getD d 0 : Nat) : Int) ≤ (m : Int)
    omega
  have cl : (caps ⟨ts, rs, es, s⟩).length = ts.length := caps_len
  have l8 : len8 n ≤ 15 := by unfold len8; split <;> (try split) <;> omega
  rcases P.few with ⟨n6, l3⟩ | l2
  · have l6 : len8 n ≤ 6 := by unfold len8; split <;> (try split) <;> omega
    have p := prod_caps (at_ (m := 18) (by omega) (by omega))
    rw [cl] at p
    have : 18 ^ ts.length ≤ 18 ^ 3 := Nat.pow_le_pow_right (by decide) l3
    have := Nat.mul_le_mul n6 (Nat.le_trans p this)
    omega
  · have p := prod_caps (at_ (m := 38) (by omega) (by omega))
    rw [cl] at p
    have : 38 ^ ts.length ≤ 38 ^ 2 := Nat.pow_le_pow_right (by decide) l2
    have := Nat.mul_le_mul n8 (Nat.le_trans p this)
    omega
/-- rounds and rests as they are told -/
structure Told (n : Nat) (ts : List (List Int)) (s : Int) (rs es : List Nat) : Prop where
  lr : rs.length = ts.length
  le : es.length = ts.length
  rr : ∀ d, d < ts.length → RR (Rch ts s) (ts.getD d []) (rs.getD d 0) (es.getD d 0) ∧ rs.getD d 0 ≤ len8 n ∧ es.getD d 0 + 1 ≤ n
theorem all_getD {p : Nat → Prop} {l : List Nat} {m : Nat} (e : l.length = m) (h : ∀ d, d < m → p (l.getD d 0)) : ∀ x ∈ l, p x := fun x hx => by
  obtain ⟨d, hd⟩ := List.mem_iff_getElem?.mp hx
  have ld := (List.getElem?_eq_some_iff.mp hd).1
  have := h d (by omega)
  rw [List.getD_eq_getElem?_getD, hd] at this
  exact this
theorem Told.r1 (t : Told n ts s rs es) : ∀ r ∈ rs, 1 ≤ r := all_getD t.lr fun d hd => (t.rr d hd).1.r1
theorem Told.r8 (t : Told n ts s rs es) : ∀ r ∈ rs, r ≤ len8 n := all_getD t.lr fun d hd => (t.rr d hd).2.1
theorem Told.e8 (t : Told n ts s rs es) : ∀ e ∈ es, e + 1 ≤ n := all_getD t.le fun d hd => (t.rr d hd).2.2
theorem Told.fit (t : Told n ts s rs es) : Fit n ts rs es := ⟨t.lr, t.le, t.r1, fun r hr => .inr (by have := t.r8 r hr; omega), fun e he => by have := t.e8 e he; omega⟩
theorem mem_set_nat {l : List Nat} {d v x : Nat} (h : x ∈ l.set d v) : x = v ∨ x ∈ l := by
  rcases List.mem_or_eq_of_mem_set h with h | h
  · exact .inr h
  · exact .inl h
theorem Told.fit_r (t : Told n ts s rs es) {d v : Nat} (v1 : 1 ≤ v) (vb : v ≤ 12 ∨ v ≤ 2 * len8 n) : Fit n ts (rs.set d v) es := by
  refine ⟨by rw [List.length_set]; exact t.lr, t.le, fun r hr => ?_, fun r hr => ?_, t.fit.eb⟩
  · rcases mem_set_nat hr with rfl | hr
    · exact v1
    · exact t.r1 r hr
  · rcases mem_set_nat hr with rfl | hr
    · exact vb
    · exact t.fit.rb r hr
theorem Told.fit_e (t : Told n ts s rs es) {d v : Nat} (vb : v ≤ n) : Fit n ts rs (es.set d v) := by
  refine ⟨t.lr, by rw [List.length_set]; exact t.le, t.r1, t.fit.rb, fun e he => ?_⟩
  rcases mem_set_nat he with rfl | he
  · exact vb
  · exact t.fit.eb e he
/-- from e on r goes round, so does any multiple from later on -/
theorem per_more {L : Int → Prop} {t : List Int} {r e r' e' : Nat} (h : ∀ x, L x → it t (e + r) x = it t e x) (d : r ∣ r') (le : e ≤ e') {x : Int} (hx : L x) : it t (e' + r') x = it t e' x := by
  obtain ⟨q, rfl⟩ := d
  have turn : ∀ q, it t (e + r * q) x = it t e x := fun q => by
    induction q with
    | zero => rfl
    | succ q ih => rw [show e + r * (q + 1) = (e + r) + r * q by rw [Nat.mul_succ]; omega, it_add, h x hx, ← it_add, ih]
  rw [show e' + r * q = (e + r * q) + (e' - e) by omega, it_add, turn, ← it_add]
  congr 1
  omega
/-- multiples of rounds, more rests: they tell -/
theorem Told.yes (t : Told n ts s rs es) (P : Prm n ts s) (C : Cm (Rch ts s) ts) {rs' es' : List Nat} (F : Fit n ts rs' es') (dv : ∀ d, d < ts.length → rs.getD d 0 ∣ rs'.getD d 0) (le : ∀ d, d < ts.length → es.getD d 0 ≤ es'.getD d 0) : (WkP.mk ts rs' es' s).Tell :=
  (P.wk F).tells C fun d hd x hx => per_more (t.rr d hd).1.per (dv d hd) (le d hd) hx
/-- one rest less: they don't -/
theorem Told.rest (t : Told n ts s rs es) (P : Prm n ts s) {d : Nat} (hd : d < ts.length) (e0 : 0 < es.getD d 0) : ¬ (WkP.mk ts rs (es.set d (es.getD d 0 - 1)) s).Tell := fun tl => by
  obtain ⟨x, hx, ne⟩ := (t.rr d hd).1.emin e0
  have e8 := (t.rr d hd).2.2
  have := (P.wk (t.fit_e (d := d) (v := es.getD d 0 - 1) (by omega))).fits tl hd hx
  have g : (es.set d (es.getD d 0 - 1)).getD d 0 = es.getD d 0 - 1 := by rw [getD_set (by rw [t.le]; exact hd), if_pos rfl]
  have this : it (ts.getD d []) ((es.set d (es.getD d 0 - 1)).getD d 0 + rs.getD d 0) x = it (ts.getD d []) ((es.set d (es.getD d 0 - 1)).getD d 0) x := this
  rw [g] at this
  exact ne this
/-- rounds that are no multiple: they don't -/
theorem Told.round (t : Told n ts s rs es) (P : Prm n ts s) {d v : Nat} (hd : d < ts.length) (v1 : 1 ≤ v) (vb : v ≤ 12 ∨ v ≤ 2 * len8 n) (nd : ¬ rs.getD d 0 ∣ v) : ¬ (WkP.mk ts (rs.set d v) es s).Tell := fun tl => by
  refine nd ((t.rr d hd).1.rmin v fun x hx => ?_)
  have := (P.wk (t.fit_r (d := d) v1 vb)).fits tl hd hx
  have g : (rs.set d v).getD d 0 = v := by rw [getD_set (by rw [t.lr]; exact hd), if_pos rfl]
  have this : it (ts.getD d []) (es.getD d 0 + (rs.set d v).getD d 0) x = it (ts.getD d []) (es.getD d 0) x := this
  rw [g] at this
  exact this
theorem Told.one (t : Told n ts s rs es) {rs' es' : List Nat} (u : Told n ts s rs' es') : rs = rs' ∧ es = es' := by
  have at_ : ∀ d, d < ts.length → rs.getD d 0 = rs'.getD d 0 ∧ es.getD d 0 = es'.getD d 0 := fun d hd => (t.rr d hd).1.one (u.rr d hd).1
  have ext : ∀ {a b : List Nat}, a.length = ts.length → b.length = ts.length → (∀ d, d < ts.length → a.getD d 0 = b.getD d 0) → a = b := fun {a b} la lb h => List.ext_getElem? fun d => by
    by_cases hd : d < ts.length
    · have := h d hd
      rw [List.getD_eq_getElem?_getD, List.getD_eq_getElem?_getD, List.getElem?_eq_getElem (by omega), List.getElem?_eq_getElem (by omega)] at this
      rw [List.getElem?_eq_getElem (by omega), List.getElem?_eq_getElem (by omega)]
      exact congrArg some this
    · rw [List.getElem?_eq_none (by omega), List.getElem?_eq_none (by omega)]
  exact ⟨ext t.lr u.lr fun d hd => (at_ d hd).1, ext t.le u.le fun d hd => (at_ d hd).2⟩
end
end KJ
/-! tuples, however they stand: t[lo:hi], t + u; zip of two tuples in a comprehension -/
namespace Kx
open L2 PySem PySem.Spec PyProof.Rows
/-- t[lo:hi] -/
def rCutS (K : PySem.W.Frag) : V → Option Int → Option Int → Hp → VK → Prop := fun x lo hi H Q => ∃ a xs, x = .ref a ∧ SqT K H a xs ∧ ∀ p H', Same H H' → SqT K H' p (cutV xs lo hi) → Q (.ref p) H'
theorem sl_cutS {X : Cx} {K : PySem.W.Frag} (hK : X.K = K := by rfl) : SlR X (rCutS K) := by
  subst hK
  intro pins s σ H x v vl vu lo hi sl Q I rx hs pl pu ⟨a, xs, e, h, q⟩
  refine sl_tupA pins s σ H x v vl vu lo hi sl Q I rx hs pl pu ⟨a, xs, e, h, fun ⟨z1, z2⟩ => q a H (Same.refl H) ?_, fun _ p hp => q p _ (same_new hp) (SqT.of upd_same)⟩
  unfold cutV
  rw [z1, z2, List.drop_zero, Nat.sub_zero, List.take_length]
  exact h
/-- t + u -/
def rCatU (K : PySem.W.Frag) : R2 := fun x y H Q => ∃ (a b : Addr) (xs ys : List V), x = .ref a ∧ y = .ref b ∧ SqT K H a xs ∧ SqT K H b ys ∧ xs.length + ys.length ≤ sizeLine ∧ ∀ p H', Same H H' → SqT K H' p (xs ++ ys) → Q (.ref p) H'
theorem op_catU {X : Cx} {K : PySem.W.Frag} (hK : X.K = K := by rfl) : OpR X (binaryOp .Add) (rCatU K) := by
  subst hK
  intro pins st σ H x y v u Q I rx ry h
  obtain ⟨a, b, xs, ys, rfl, rfl, h1, h2, fits, key⟩ := h
  refine op_catA pins st σ H _ _ v u Q I rx ry ⟨a, b, xs, ys, rfl, rfl, h1, h2, fits, fun e => ?_, fun _ e => ?_, fun _ _ p hp => key p _ (same_new hp) (SqT.of upd_same)⟩
  · subst e
    exact key b H (Same.refl H) h2
  · subst e
    exact key a H (Same.refl H) (by rw [List.append_nil]; exact h1)
theorem turns_zipT {K : PySem.W.Frag} {a b : Addr} {xs ys : List V} {Z : Hp → Prop} {H0 : Hp} {B : (Hp → Prop) → V → Hp → Prop} (hl : xs.length = ys.length) (Pv : Nat → Hp → Prop) (h0 : Pv 0 H0) (hq : ∀ i H, Pv i H → SqT K H a xs ∧ SqT K H b ys)
    (hs : ∀ (i : Nat) (x y : V) (T : Addr) (H : Hp), xs[i]? = some x → ys[i]? = some y → Pv i H → H T = none → B (Pv (i + 1)) (.ref T) (upd H T (.tup [x, y]))) (hd : ∀ H, Pv xs.length H → Z H) :
    ∃ W : Nat → Nat → Hp → Prop, (∃ m, W 0 m H0) ∧ ∀ i m H, W i m H → ((RZ.ItzT K a b).stop i H ∧ Z H) ∨ ((RZ.ItzT K a b).go i H ∧ ∃ Nx : Hp → Prop, (∀ H', Nx H' → ∃ m', m' < m ∧ W (i + 1) m' H') ∧ ∀ x H', (RZ.ItzT K a b).yld i H x H' → B Nx x H') :=
  turns (n := xs.length) Pv h0 (fun i H lt p => by
    obtain ⟨q1, q2⟩ := hq i H p
    refine ⟨⟨xs, ys, _, _, q1, q2, List.getElem?_eq_getElem lt, List.getElem?_eq_getElem (by omega : i < ys.length)⟩, ?_⟩
    rintro v H3 ⟨T, x, y, rfl, hT, rfl, f1, f2⟩
    exact hs i x y T _ (f1 xs q1) (f2 ys q2) p hT) (fun H p => by
    obtain ⟨q1, q2⟩ := hq _ H p
    exact ⟨⟨xs, ys, q1, q2, .inl (Nat.le_refl _)⟩, hd H p⟩)
end Kx
/-! _law_least_right -/
namespace KJ
open L2 PySem PySem.Spec PyProof.Rows Kx RZ TL
theorem natV_map {c : List Nat} {k a : Nat} : natV (c.set k a) = (natV c).set k (.int (a : Nat)) := by unfold natV; rw [List.map_set]
def spLLeast (K : PySem.W.Frag) : Sp := fun vs H Q _ => ∃ (b tt r e : Addr) (t : Int × Int) (ps : List V) (n : Nat) (ts : List (List Int)) (s : Int) (rs es : List Nat), vs = [.ref b, .ref tt, .int s, .ref r, .ref e] ∧ H b = some (bx t) ∧ SqL K H tt ps ∧ tt ≠ b ∧ RowsBy (SqT K H) ps ts ∧ Prm n ts s ∧ Cm (Rch ts s) ts ∧ SqT K H r (natV rs) ∧ SqT K H e (natV es) ∧ Told n ts s rs es ∧ ∀ H', Mv b H H' → Q (.bl true) H'
theorem nat_at {ns : List Nat} {d : Nat} (h : d < ns.length) : atI (natV ns) ((d : Nat) : Int) = some (V.int (ns.getD d 0 : Nat)) := by
  rw [natV_int, ← intO_at]
  exact ints_at (by rw [intO_len]; exact h)
section
variable {P : Program} {w : World} {K : PySem.W.Frag} {mg : Str → Option Value} {base : Heap} {f : Addr} {fd : FuncData} {a : Ad} {CM : Addr}
theorem sc_lleast : FnScope ["box", "tables", "first", "rounds", "rests", "kind", "turn", "more", "rest"] ["box", "tables", "first", "rounds", "rests"] (defScope s_law_least_right) := ⟨rfl, rfl, rfl, by decide +kernel, rfl, by decide +kernel, by decide +kernel⟩
theorem ok_lleast (F : FnP K "_law_least_right" s_law_least_right f fd) (T : Mg mg) (c_take : Cal P w K mg base CX0 1 "_law_take" ["box", "many"] spTake) (c_pick : Cal P w K mg base CX0 2 "_law_pick" ["box", "some"] (spPick K)) (c_tell : Cal P w K mg base CX0 3 "_law_tell" ["tables", "first", "rounds", "rests"] (spLTell K)) :
    FnOk P w K mg base CX0 4 f fd ["box", "tables", "first", "rounds", "rests"] (spLLeast K) := by
  refine F.ok sc_lleast (fun vs H Q E h => ?_) (fun cdv A outer st H vs Q E hr h => ?_)
  · obtain ⟨b, tt, r, e, t, ps, n, ts, s, rs, es, rfl, _⟩ := h
    rfl
  · obtain ⟨b, tt, r, e, t, ps, n, ts, s0, rs, es, rfl, hb, htt, tb, rows, P, C, hR, hE, told, k⟩ := h
    have l1 := P.ok.l1
    have l4 := P.ok.l4
    have lps := rows.length
    have lr := told.lr
    have le := told.le
    have lvr : (natV rs).length = rs.length := List.length_map _
    have lve : (natV es).length = es.length := List.length_map _
    have giv : ∀ {H' : Hp} {r' e' : Addr} {rs' es' : List Nat}, Mv b H H' → SqT K H' r' (natV rs') → SqT K H' e' (natV es') → Fit n ts rs' es' → GivW K H' ⟨tt, r', e', ps, n, ⟨ts, rs', es', s0⟩⟩ := fun m h1 h2 F => ⟨m.sqL tb htt, rows.imp fun _ _ z => m.sqT hb z, h1, h2, P.wk F, P.small F⟩
    have m0 := Mv.refl hb
    refine ⟨_, PSs.nox (pss_cons (ps_mid (ps_if (pt_not (pt_val (pe_callC c_tell hr pass0 (pa_cons (pv 1) (pa_cons (pv 2) (pa_cons (pv 3) (pa_cons (pv 4) pa_nil)))))))
  (pss_one (ps_ret pe_bl))
  pss_nil)) (pss_cons (ps_mid (ps_for PassesOwn.never rfl (pi_range1 (by rfl) T.z_range (pa_cons (pe_callB call_len_seq (by rfl) T.z_len PySem.boot_len (pa_cons (pv 1) pa_nil)) pa_nil)) (pg_name (i := 5) sc_lleast.nd rfl (by first | exact Or.inl rfl | exact Or.inr rfl))
  (pss_cons (ps_mid (ps_if (PW.pt (pw_and (pt_cmpR op_gt (pe_ix (ix_tupK (K := K)) (pv 4) (pv 5) (fun _ _ => rfl)) pe_int (nomark _)) (pw_and1 (pt_val (pe_callC c_tell hr pass0 (pa_cons (pv 1) (pa_cons (pv 2) (pa_cons (pv 3) (pa_cons (pe_op (op_catU (K := K)) (pe_op (op_catU (K := K)) (pe_slice (sl_cutS (K := K)) (pv 4) po_none (po_some (pv 5))) (pe_tup (pa_cons (pe_op op_sub (pe_ix (ix_tupK (K := K)) (pv 4) (pv 5) (fun _ _ => rfl)) pe_int) pa_nil))) (pe_slice (sl_cutS (K := K)) (pv 4) (po_some (pe_op op_add (pv 5) pe_int)) po_none)) pa_nil)))))))))
  (pss_one (ps_ret pe_bl))
  pss_nil))
  (pss_one (ps_for PassesOwn.never rfl (pi_range2 (by rfl) T.z_range (pa_cons pe_int (pa_cons (pe_ix (ix_tupK (K := K)) (pv 3) (pv 5) (fun _ _ => rfl)) pa_nil))) (pg_name (i := 6) sc_lleast.nd rfl (by first | exact Or.inl rfl | exact Or.inr rfl))
  (pss_one (ps_if (PW.pt (pw_and (pt_cmpR op_eq (pe_op op_mod (pe_callTy call_int1 (by rfl) T.z_int (by decide +kernel) (pa_cons (pe_ix (ix_tupK (K := K)) (pv 3) (pv 5) (fun _ _ => rfl)) pa_nil)) (pv 6)) pe_int (nomark _)) (pw_and1 (pt_val (pe_callC c_tell hr pass0 (pa_cons (pv 1) (pa_cons (pv 2) (pa_cons (pe_op (op_catU (K := K)) (pe_op (op_catU (K := K)) (pe_slice (sl_cutS (K := K)) (pv 3) po_none (po_some (pv 5))) (pe_tup (pa_cons (pv 6) pa_nil))) (pe_slice (sl_cutS (K := K)) (pv 3) (po_some (pe_op op_add (pv 5) pe_int)) po_none)) (pa_cons (pv 4) pa_nil)))))))))
  (pss_one (ps_ret pe_bl))
  pss_nil))))))) (pss_cons (ps_mid (ps_for PassesOwn.never rfl (pi_range1 (by rfl) T.z_range (pa_cons (pe_callB call_len_seq (by rfl) T.z_len PySem.boot_len (pa_cons (pv 1) pa_nil)) pa_nil)) (pg_name (i := 5) sc_lleast.nd rfl (by first | exact Or.inl rfl | exact Or.inr rfl))
  (pss_cons (ps_set (i := 6) sc_lleast.nd rfl (by first | exact Or.inl rfl | exact Or.inr rfl) (pe_op op_add pe_int (pe_callC c_take hr pass0 (pa_cons (pv 0) (pa_cons pe_int pa_nil)))))
  (pss_one (ps_if (PW.pt (pw_and (pt_cmpR op_ne (pe_op op_mod (pe_callTy call_int1 (by rfl) T.z_int (by decide +kernel) (pa_cons (pv 6) pa_nil)) (pe_ix (ix_tupK (K := K)) (pv 3) (pv 5) (fun _ _ => rfl))) pe_int (nomark _)) (pw_and1 (pt_val (pe_callC c_tell hr pass0 (pa_cons (pv 1) (pa_cons (pv 2) (pa_cons (pe_op (op_catU (K := K)) (pe_op (op_catU (K := K)) (pe_slice (sl_cutS (K := K)) (pv 3) po_none (po_some (pv 5))) (pe_tup (pa_cons (pv 6) pa_nil))) (pe_slice (sl_cutS (K := K)) (pv 3) (po_some (pe_op op_add (pv 5) pe_int)) po_none)) (pa_cons (pv 4) pa_nil)))))))))
  (pss_one (ps_ret pe_bl))
  pss_nil))))) (pss_cons (ps_mid (ps_set (i := 7) sc_lleast.nd rfl (by first | exact Or.inl rfl | exact Or.inr rfl) (pe_callTy (call_tupleK (K := K)) (by rfl) T.z_tuple (by decide +kernel) (pa_cons (pe_lc (own := [("rest", 8)]) (by rfl) sc_lleast.nd (pi_tup (pv 4)) (blkOk_by (own := [("rest", 8)]) (N := ["box", "tables", "first", "rounds", "rests", "kind", "turn", "more", "rest"]) (sc := defScope s_law_least_right) (by decide +kernel)) (fun _ _ _ _ _ => (pg_name (i := 8) sc_lleast.nd rfl (by first | exact Or.inl rfl | exact Or.inr rfl))) (fun _ _ _ _ _ => pts_nil) (fun _ _ _ _ _ => (pe_op op_add (pv 8) (pe_callC c_take hr pass0 (pa_cons (pv 0) (pa_cons pe_int pa_nil)))))) pa_nil)))) (pss_one (ps_ret (pe_callC c_tell hr pass0 (pa_cons (pv 1) (pa_cons (pv 2) (pa_cons (pe_callTy (call_tupleK (K := K)) (by rfl) T.z_tuple (by decide +kernel) (pa_cons (pe_lc (own := [("turn", 6)]) (by rfl) sc_lleast.nd (pi_tup (pv 3)) (blkOk_by (own := [("turn", 6)]) (N := ["box", "tables", "first", "rounds", "rests", "kind", "turn", "more", "rest"]) (sc := defScope s_law_least_right) (by decide +kernel)) (fun _ _ _ _ _ => (pg_name (i := 6) sc_lleast.nd rfl (by first | exact Or.inl rfl | exact Or.inr rfl))) (fun _ _ _ _ _ => pts_nil) (fun _ _ _ _ _ => (pe_op op_mul (pv 6) (pe_callC c_pick hr pass0 (pa_cons (pv 0) (pa_cons (pe_lst (pa_cons pe_int (pa_cons pe_int (pa_cons pe_int pa_nil)))) pa_nil)))))) pa_nil)) (pa_cons (pv 7) pa_nil))))))))))), ?_⟩
    refine ⟨fun σ' H' => σ' = [some (.ref b), some (.ref tt), some (.int s0), some (.ref r), some (.ref e), none, none, none, none] ∧ Mv b H H', ?_, ?_⟩
    · refine ⟨_, rfl, _, rfl, _, rfl, _, rfl, ⟨tt, r, e, ps, n, ⟨ts, rs, es, s0⟩⟩, rfl, giv m0 hR hE told.fit, fun bb H1 e1 iff => ?_⟩
      rw [iff.mpr (told.yes P C told.fit (fun _ _ => Nat.dvd_refl _) fun _ _ => Nat.le_refl _)]
      exact ⟨true, rfl, iteF ⟨rfl, m0.same e1⟩⟩
    rintro σ' H1 ⟨rfl, m1⟩
    refine ⟨fun σ' H' => ∃ x5 x6 : Option V, σ' = [some (.ref b), some (.ref tt), some (.int s0), some (.ref r), some (.ref e), x5, x6, none, none] ∧ Mv b H H', ?_, ?_⟩
    · refine ⟨_, rfl, tt, ps, rfl, .inl (m1.sqL tb htt), ?_⟩
      refine ⟨ps.length, rfl, by omega, by omega, for_range (lo := 0) (n := ps.length) (fun d σ' H' => ∃ x5 x6 : Option V, σ' = [some (.ref b), some (.ref tt), some (.int s0), some (.ref r), some (.ref e), x5, x6, none, none] ∧ Mv b H H') ⟨_, _, rfl, m1⟩ ?_ ?_⟩
      · rintro d σ' H2 hd ⟨x5, x6, rfl, m2⟩
        rw [show (0 : Int) + (d : Int) = (d : Int) from Int.zero_add _]
        rw [lps] at hd
        have hR2 := m2.sqT hb hR
        have hE2 := m2.sqT hb hE
        have atR := nat_at (ns := rs) (d := d) (by omega)
        have atE := nat_at (ns := es) (d := d) (by omega)
        have rr1 := (told.rr d hd).1.r1
        have rr8 := (told.rr d hd).2.1
        have er8 := (told.rr d hd).2.2
        have n8 := P.ok.n8
        have l15 : len8 n ≤ 15 := by unfold len8; split <;> (try split) <;> omega
        refine ⟨fun σ' H' => σ' = [some (.ref b), some (.ref tt), some (.int s0), some (.ref r), some (.ref e), some (.int (d : Nat)), x6, none, none] ∧ Mv b H H', ?_, ?_⟩
        · refine ⟨_, rfl, _, rfl, e, _, _, _, rfl, rfl, hE2, atE, ?_⟩
          refine ⟨_, _, rfl, rfl, _, rfl, ite2 (fun h => ?_) (fun h => ?_)⟩
          · have e0 : 0 < es.getD d 0 := by
              have : (0 : Int) < ((es.getD d 0 : Nat) : Int) := by simpa using h
              omega
            refine ⟨_, rfl, _, rfl, _, rfl, ?_⟩
            refine ⟨_, rfl, _, rfl, _, rfl, e, _, rfl, hE2, fun u1 H1 e1 w1 => ?_⟩
            refine ⟨_, rfl, _, rfl, e, _, _, _, rfl, rfl, sqT_same e1 hE2, atE, _, _, rfl, rfl, (by show 1 ≤ sizeLine; decide), fun u2 hu2 => ?_⟩
            have e2 := same_new (o := HO.tup [.int (((es.getD d 0 : Nat) : Int) - 1)]) hu2
            have w2 : SqT K (upd H1 u2 (HO.tup [.int (((es.getD d 0 : Nat) : Int) - 1)])) u2 [.int (es.getD d 0 - 1 : Nat)] := by
              rw [show (((es.getD d 0 - 1 : Nat) : Nat) : Int) = ((es.getD d 0 : Nat) : Int) - 1 by omega]
              exact SqT.of upd_same
            generalize upd H1 u2 (HO.tup [.int (((es.getD d 0 : Nat) : Int) - 1)]) = H2 at e2 w2 ⊢
            refine ⟨u1, u2, _, _, rfl, rfl, sqT_same e2 w1, w2, ?_, fun u3 H3 e3 w3 => ?_⟩
            · have := cutV_length (natV es) none (some (d : Int))
              rw [List.length_singleton, sizeLine_eq]
              omega
            have e13 := e1.trans (e2.trans e3)
            refine ⟨_, rfl, _, rfl, _, _, rfl, rfl, _, rfl, e, _, rfl, sqT_same e13 hE2, fun u5 H5 e5 w5 => ?_⟩
            refine ⟨u3, u5, _, _, rfl, rfl, sqT_same e5 w3, w5, ?_, fun u6 H6 e6 w6 => ?_⟩
            · have a1 := cutV_length (natV es) none (some (d : Int))
              have a2 := cutV_length (natV es) (some ((d : Int) + 1)) none
              rw [List.length_append, List.length_singleton, sizeLine_eq]
              omega
            rw [cut_put (by rw [lve]; omega), ← natV_map] at w6
            have e16 := e13.trans (e5.trans e6)
            refine ⟨⟨tt, r, u6, ps, n, ⟨ts, rs, es.set d (es.getD d 0 - 1), s0⟩⟩, rfl, giv (m2.same e16) (sqT_same e16 hR2) w6 (told.fit_e (by omega)), fun bb H7 e7 iff => ?_⟩
            have no : bb = false := by
              cases bb with
              | false => rfl
              | true => exact absurd (iff.mp rfl) (told.rest P hd e0)
            subst no
            exact ⟨_, rfl, iteF ⟨rfl, (m2.same e16).same e7⟩⟩
          · exact ⟨rfl, m2⟩
        rintro σ' H3 ⟨rfl, m3⟩
        have hR3 := m3.sqT hb hR
        refine ⟨_, rfl, _, rfl, r, _, _, _, rfl, rfl, hR3, atR, ?_⟩
        refine ⟨1, ((rs.getD d 0 : Nat) : Int), rfl, ⟨by omega, by omega, by omega, by omega⟩, ?_⟩
        rw [show (((rs.getD d 0 : Nat) : Int) - 1).toNat = rs.getD d 0 - 1 by omega]
        refine for_range (lo := 1) (n := rs.getD d 0 - 1) (fun i σ' H' => ∃ x6 : Option V, σ' = [some (.ref b), some (.ref tt), some (.int s0), some (.ref r), some (.ref e), some (.int (d : Nat)), x6, none, none] ∧ Mv b H H') ⟨x6, rfl, m3⟩ ?_ ?_
        · rintro i σ' H4 hi ⟨x6, rfl, m4⟩
          have hR4 := m4.sqT hb hR
          have hE4 := m4.sqT hb hE
          have ev : (1 : Int) + (i : Int) = ((i + 1 : Nat) : Int) := by omega
          rw [ev]
          refine ⟨_, rfl, _, rfl, r, _, _, _, rfl, rfl, hR4, atR, .inl ⟨_, rfl, _, rfl, _, _, rfl, rfl, (by show (0 : Int) < ((i + 1 : Nat) : Int); omega), ?_⟩⟩
          refine ⟨rfl, _, rfl, ite2 (fun h => ?_) (fun h => ?_)⟩
          · refine ⟨_, rfl, _, rfl, ?_⟩
            refine ⟨_, rfl, _, rfl, _, rfl, r, _, rfl, hR4, fun u1 H1 e1 w1 => ?_⟩
            refine ⟨_, rfl, (by show 1 ≤ sizeLine; decide), fun u2 hu2 => ?_⟩
            have e2 := same_new (o := HO.tup [.int ((i + 1 : Nat) : Int)]) hu2
            have w2 : SqT K (upd H1 u2 (HO.tup [.int ((i + 1 : Nat) : Int)])) u2 [.int (i + 1 : Nat)] := by
              skip
              exact SqT.of upd_same
            generalize upd H1 u2 (HO.tup [.int ((i + 1 : Nat) : Int)]) = H2 at e2 w2 ⊢
            refine ⟨u1, u2, _, _, rfl, rfl, sqT_same e2 w1, w2, ?_, fun u3 H3 e3 w3 => ?_⟩
            · have := cutV_length (natV rs) none (some (d : Int))
              rw [List.length_singleton, sizeLine_eq]
              omega
            have e13 := e1.trans (e2.trans e3)
            refine ⟨_, rfl, _, rfl, _, _, rfl, rfl, _, rfl, r, _, rfl, sqT_same e13 hR4, fun u5 H5 e5 w5 => ?_⟩
            refine ⟨u3, u5, _, _, rfl, rfl, sqT_same e5 w3, w5, ?_, fun u6 H6 e6 w6 => ?_⟩
            · have a1 := cutV_length (natV rs) none (some (d : Int))
              have a2 := cutV_length (natV rs) (some ((d : Int) + 1)) none
              rw [List.length_append, List.length_singleton, sizeLine_eq]
              omega
            rw [cut_put (by rw [lvr]; omega), ← natV_map] at w6
            have e16 := e13.trans (e5.trans e6)
            refine ⟨_, rfl, ?_⟩
            refine ⟨⟨tt, u6, e, ps, n, ⟨ts, rs.set d (i + 1), es, s0⟩⟩, rfl, giv (m4.same e16) w6 (sqT_same e16 hE4) (told.fit_r (by omega) (.inr (by omega))), fun bb H7 e7 iff => ?_⟩
            have no : bb = false := by
              cases bb with
              | false => rfl
              | true => exact absurd (iff.mp rfl) (told.round P hd (by omega) (.inr (by omega)) fun dv => by have := Nat.le_of_dvd (by omega) dv; omega)
            subst no
            exact ⟨_, rfl, iteF ⟨_, rfl, (m4.same e16).same e7⟩⟩
          · exact ⟨_, rfl, m4⟩
        · rintro σ' H4 ⟨x6, rfl, m4⟩
          exact ⟨_, _, rfl, m4⟩
      · rintro σ' H2 ⟨x5, x6, rfl, m2⟩
        exact ⟨x5, x6, rfl, m2⟩
    rintro σ' H2 ⟨x5, x6, rfl, m2⟩
    refine ⟨fun σ' H' => ∃ x5 x6 : Option V, σ' = [some (.ref b), some (.ref tt), some (.int s0), some (.ref r), some (.ref e), x5, x6, none, none] ∧ Mv b H H', ?_, ?_⟩
    · refine ⟨_, rfl, tt, ps, rfl, .inl (m2.sqL tb htt), ?_⟩
      refine ⟨ps.length, rfl, by omega, by omega, for_range (lo := 0) (n := ps.length) (fun d σ' H' => ∃ x5 x6 : Option V, σ' = [some (.ref b), some (.ref tt), some (.int s0), some (.ref r), some (.ref e), x5, x6, none, none] ∧ Mv b H H') ⟨_, _, rfl, m2⟩ ?_ ?_⟩
      · rintro d σ' H3 hd ⟨x5, x6, rfl, m3⟩
        rw [show (0 : Int) + (d : Int) = (d : Int) from Int.zero_add _]
        rw [lps] at hd
        obtain ⟨t3, hb3⟩ := m3.2
        refine ⟨_, rfl, b, t3, 12, rfl, hb3, by decide, by decide, fun x H4 x0 x1 m34 => ?_⟩
        obtain ⟨i, rfl⟩ : ∃ i : Nat, x = (i : Int) := ⟨x.toNat, by omega⟩
        have m4 := m3.trans m34
        have hR4 := m4.sqT hb hR
        have hE4 := m4.sqT hb hE
        have atR := nat_at (ns := rs) (d := d) (by omega)
        have rr1 := (told.rr d hd).1.r1
        refine ⟨_, _, rfl, rfl, ?_⟩
        refine ⟨_, rfl, .inl ⟨_, rfl, _, rfl, _, rfl, r, _, _, _, rfl, rfl, hR4, atR, _, _, rfl, rfl, (by show (0 : Int) < ((rs.getD d 0 : Nat) : Int); omega), ?_⟩⟩
        refine ⟨rfl, _, rfl, ite2 (fun h => ?_) (fun h => ?_)⟩
        · have nd : ¬ rs.getD d 0 ∣ i + 1 := fun dv => by
            have h : ((1 : Int) + (i : Int)) % ((rs.getD d 0 : Nat) : Int) ≠ 0 := by simpa using h
            refine h ?_
            rw [show (1 : Int) + (i : Int) = ((i + 1 : Nat) : Int) by omega, ← Int.natCast_emod, Nat.mod_eq_zero_of_dvd dv]
            rfl
          refine ⟨_, rfl, _, rfl, ?_⟩
          refine ⟨_, rfl, _, rfl, _, rfl, r, _, rfl, hR4, fun u1 H1 e1 w1 => ?_⟩
          refine ⟨_, rfl, (by show 1 ≤ sizeLine; decide), fun u2 hu2 => ?_⟩
          have e2 := same_new (o := HO.tup [.int ((1 : Int) + (i : Int))]) hu2
          have w2 : SqT K (upd H1 u2 (HO.tup [.int ((1 : Int) + (i : Int))])) u2 [.int (i + 1 : Nat)] := by
            rw [show ((i + 1 : Nat) : Int) = (1 : Int) + (i : Int) by omega]
            exact SqT.of upd_same
          generalize upd H1 u2 (HO.tup [.int ((1 : Int) + (i : Int))]) = H2 at e2 w2 ⊢
          refine ⟨u1, u2, _, _, rfl, rfl, sqT_same e2 w1, w2, ?_, fun u3 H3 e3 w3 => ?_⟩
          · have := cutV_length (natV rs) none (some (d : Int))
            rw [List.length_singleton, sizeLine_eq]
            omega
          have e13 := e1.trans (e2.trans e3)
          refine ⟨_, rfl, _, rfl, _, _, rfl, rfl, _, rfl, r, _, rfl, sqT_same e13 hR4, fun u5 H5 e5 w5 => ?_⟩
          refine ⟨u3, u5, _, _, rfl, rfl, sqT_same e5 w3, w5, ?_, fun u6 H6 e6 w6 => ?_⟩
          · have a1 := cutV_length (natV rs) none (some (d : Int))
            have a2 := cutV_length (natV rs) (some ((d : Int) + 1)) none
            rw [List.length_append, List.length_singleton, sizeLine_eq]
            omega
          rw [cut_put (by rw [lvr]; omega), ← natV_map] at w6
          have e16 := e13.trans (e5.trans e6)
          refine ⟨_, rfl, ?_⟩
          refine ⟨⟨tt, u6, e, ps, n, ⟨ts, rs.set d (i + 1), es, s0⟩⟩, rfl, giv (m4.same e16) w6 (sqT_same e16 hE4) (told.fit_r (by omega) (.inl (by omega))), fun bb H7 e7 iff => ?_⟩
          have no : bb = false := by
            cases bb with
            | false => rfl
            | true => exact absurd (iff.mp rfl) (told.round P hd (by omega) (.inl (by omega)) nd)
          subst no
          exact ⟨_, rfl, iteF ⟨_, _, rfl, (m4.same e16).same e7⟩⟩
        · exact ⟨_, _, rfl, m4⟩
      · rintro σ' H3 ⟨x5, x6, rfl, m3⟩
        exact ⟨x5, x6, rfl, m3⟩
    rintro σ' H3 ⟨x5, x6, rfl, m3⟩
    refine ⟨fun σ' H' => ∃ (mo : Addr) (ys : List Nat), σ' = [some (.ref b), some (.ref tt), some (.int s0), some (.ref r), some (.ref e), x5, x6, some (.ref mo), none] ∧ Mv b H H' ∧ SqT K H' mo (natV ys) ∧ ys.length = es.length ∧ ∀ d, d < es.length → es.getD d 0 ≤ ys.getD d 0 ∧ ys.getD d 0 ≤ es.getD d 0 + 1, ?_, ?_⟩
    · have hE3 := m3.sqT hb hE
      refine ⟨_, rfl, e, rfl, ⟨_, hE3⟩, fun D0 hD => ?_⟩
      obtain ⟨t3, hb3⟩ := m3.2
      have Db : D0 ≠ b := fun z => by rw [z, hb3] at hD; cases hD
      refine lc_tup (xs := natV es) (fun i H' => Mv b H3 H' ∧ ∃ ys : List Nat, H' D0 = some (.lst (natV ys)) ∧ ys.length = i ∧ ∀ d, d < i → es.getD d 0 ≤ ys.getD d 0 ∧ ys.getD d 0 ≤ es.getD d 0 + 1) ⟨(Mv.refl hb3).put hD Db, [], upd_same, rfl, fun d h => absurd h (Nat.not_lt_zero d)⟩ (fun i H' _ z => z.1.sqT hb3 hE3) ?_ ?_
      · rintro i v H4 hv ⟨m4, ys, h4, ly, bd⟩
        rw [List.getElem?_map] at hv
        obtain ⟨c, hc, rfl⟩ := Option.map_eq_some_iff.mp hv
        have li := (List.getElem?_eq_some_iff.mp hc).1
        have gc : es.getD i 0 = c := by rw [List.getD_eq_getElem?_getD, hc]; rfl
        obtain ⟨t4, hb4⟩ := m4.2
        refine ⟨rfl, yes ((if_pos rfl).mpr ?_)⟩
        refine ⟨_, rfl, _, rfl, b, t4, 2, rfl, hb4, by decide, by decide, fun x H5 x0 x1 m45 => ?_⟩
        obtain ⟨j, rfl⟩ : ∃ i : Nat, x = (i : Int) := ⟨x.toNat, by omega⟩
        refine ⟨_, _, rfl, rfl, ?_⟩
        have e : ((c : Nat) : Int) + ((j : Nat) : Int) = ((c + j : Nat) : Int) := by omega
        refine ⟨_, m45.1 _ _ Db h4, by rw [List.length_map, ly, sizeLine_eq]; omega, (m4.trans m45).put hD Db, ys ++ [c + j], ?_, by rw [List.length_append, ly]; rfl, fun d hd => ?_⟩
        · rw [upd_same]
          unfold natV
          rw [List.map_append]
          show some (HO.lst (_ ++ [V.int (((c : Nat) : Int) + ((j : Nat) : Int))])) = some (HO.lst (_ ++ [V.int ((c + j : Nat) : Int)]))
          rw [e]
        · by_cases dl : d < i
          · rw [show (ys ++ [c + j]).getD d 0 = ys.getD d 0 by rw [List.getD_eq_getElem?_getD, List.getElem?_append_left (by omega), List.getD_eq_getElem?_getD]]
            exact bd d dl
          · have : d = i := by omega
            subst this
            rw [show (ys ++ [c + j]).getD d 0 = c + j by rw [List.getD_eq_getElem?_getD, List.getElem?_append_right (by omega), ly, Nat.sub_self]; rfl, gc]
            omega
      · rintro H4 ⟨m4, ys, h4, ly, bd⟩
        rw [lve] at ly bd
        refine ⟨D0, _, rfl, .inl ⟨SqL.of h4, fun q hq => ?_⟩⟩
        exact ⟨q, ys, rfl, (m3.trans m4).same (same_new hq), SqT.of upd_same, ly, bd⟩
    rintro σ' H4 ⟨mo, ys, rfl, m4, hmo, ly, bd⟩
    have hR4 := m4.sqT hb hR
    refine ⟨_, rfl, _, rfl, _, rfl, r, rfl, ⟨_, hR4⟩, fun D0 hD => ?_⟩
    obtain ⟨t4, hb4⟩ := m4.2
    have Db : D0 ≠ b := fun z => by rw [z, hb4] at hD; cases hD
    refine lc_tup (xs := natV rs) (fun i H' => Mv b H4 H' ∧ H4 D0 = none ∧ ∃ zs : List Nat, H' D0 = some (.lst (natV zs)) ∧ zs.length = i ∧ ∀ d, d < i → 1 ≤ zs.getD d 0 ∧ rs.getD d 0 ∣ zs.getD d 0 ∧ zs.getD d 0 ≤ 2 * rs.getD d 0) ⟨(Mv.refl hb4).put hD Db, hD, [], upd_same, rfl, fun d h => absurd h (Nat.not_lt_zero d)⟩ (fun i H' _ z => z.1.sqT hb4 hR4) ?_ ?_
    · rintro i v H5 hv ⟨m5, _, zs, h5, lz, bz⟩
      rw [List.getElem?_map] at hv
      obtain ⟨c, hc, rfl⟩ := Option.map_eq_some_iff.mp hv
      have li := (List.getElem?_eq_some_iff.mp hc).1
      have gc : rs.getD i 0 = c := by rw [List.getD_eq_getElem?_getD, hc]; rfl
      have c1 := told.r1 c (List.mem_of_getElem? hc)
      have c8 := told.r8 c (List.mem_of_getElem? hc)
      have l15 : len8 n ≤ 15 := by have := P.ok.n8; unfold len8; split <;> (try split) <;> omega
      obtain ⟨t5, hb5⟩ := m5.2
      refine ⟨rfl, yes ((if_pos rfl).mpr ?_)⟩
      refine ⟨_, rfl, _, rfl, (by show 3 ≤ sizeLine; decide), fun l hl => ?_⟩
      have fl := m5.free hl
      have e3 := same_new (o := HO.lst [V.int 1, .int 1, .int 2]) hl
      have u3 : SqL K (upd H5 l (HO.lst [V.int 1, .int 1, .int 2])) l [V.int 1, .int 1, .int 2] := SqL.of upd_same
      generalize upd H5 l (HO.lst [V.int 1, .int 1, .int 2]) = H6 at e3 u3 ⊢
      refine ⟨b, l, t5, _, rfl, e3 _ _ hb5, fl.2, u3, by simp, by simp, fun v H7 hv m7 => ?_⟩
      obtain ⟨j, rfl, j1, j2⟩ : ∃ j : Nat, v = .int (j : Nat) ∧ 1 ≤ j ∧ j ≤ 2 := by
        simp only [List.mem_cons, List.not_mem_nil, or_false] at hv
        rcases hv with rfl | rfl | rfl
        · exact ⟨1, rfl, by decide, by decide⟩
        · exact ⟨1, rfl, by decide, by decide⟩
        · exact ⟨2, rfl, by decide, by decide⟩
      refine ⟨_, _, rfl, rfl, .inr ⟨by omega, by omega⟩, ?_⟩
      have e : ((c : Nat) : Int) * ((j : Nat) : Int) = ((c * j : Nat) : Int) := by rw [Int.natCast_mul]
      refine ⟨_, m7.1 _ _ Db (e3 _ _ h5), by rw [List.length_map, lz, sizeLine_eq]; omega, ((m5.same e3).trans m7).put hD Db, hD, zs ++ [c * j], ?_, by rw [List.length_append, lz]; rfl, fun d hd => ?_⟩
      · rw [upd_same]
        unfold natV
        rw [List.map_append]
        show some (HO.lst (_ ++ [V.int (((c : Nat) : Int) * ((j : Nat) : Int))])) = some (HO.lst (_ ++ [V.int ((c * j : Nat) : Int)]))
        rw [e]
      · by_cases dl : d < i
        · rw [show (zs ++ [c * j]).getD d 0 = zs.getD d 0 by rw [List.getD_eq_getElem?_getD, List.getElem?_append_left (by omega), List.getD_eq_getElem?_getD]]
          exact bz d dl
        · have : d = i := by omega
          subst this
          rw [show (zs ++ [c * j]).getD d 0 = c * j by rw [List.getD_eq_getElem?_getD, List.getElem?_append_right (by omega), lz, Nat.sub_self]; rfl, gc]
          refine ⟨Nat.mul_pos c1 j1, Nat.dvd_mul_right _ _, ?_⟩
          rw [Nat.mul_comm]
          exact Nat.mul_le_mul_right _ j2
    · rintro H5 ⟨m5, _, zs, h5, lz, bz⟩
      rw [lvr] at lz bz
      refine ⟨D0, _, rfl, .inl ⟨SqL.of h5, fun q hq => ?_⟩⟩
      have e6 := same_new (o := HO.tup (natV zs)) hq
      have u6 : SqT K (upd H5 q (HO.tup (natV zs))) q (natV zs) := SqT.of upd_same
      generalize upd H5 q (HO.tup (natV zs)) = H6 at e6 u6 ⊢
      have m46 := m5.same e6
      have ft : Fit n ts zs ys := by
        refine ⟨by omega, by omega, all_getD lz fun d hd => (bz d hd).1, all_getD lz fun d hd => ?_, all_getD ly fun d hd => ?_⟩
        · have := (bz d hd).2.2
          have := (told.rr d (by omega)).2.1
          exact .inr (by omega)
        · have := (bd d hd).2
          have := (told.rr d (by omega)).2.2
          omega
      refine ⟨_, rfl, ⟨tt, q, mo, ps, n, ⟨ts, zs, ys, s0⟩⟩, rfl, giv (m4.trans m46) u6 (m46.sqT hb4 hmo) ft, fun bb H7 e7 iff => ?_⟩
      rw [iff.mpr (told.yes P C ft (fun d hd => (bz d (by omega)).2.1) fun d hd => (bd d (by omega)).1)]
      exact k _ ((m4.trans m46).same e7)
end
end KJ
/-! sep.join(reversed(a list)); what is never run. -/
namespace Kx
open PySem PySem.Spec PyProof.Rows L2 RT MpR
section
variable {prog : Program} {w : World} {A : Around} {E : Value → Shared → Prop} {s : Shared}
theorem join_rev {x : Str} {t : Tok} {it l : Addr} {items : Array Value} {ys : List Str} {Q : Value → Shared → Prop} (hh : A.handled = none) (hit : s.heap.IsRevIter it l ((items.size : Int) - 1)) (hl : s.heap.IsList l items) (hne : l ≠ it) (hn : items.size ≤ sizeLine)
    (hP : ∀ acc : Array Value, ItemsOf (fun i v => items[items.size - 1 - i]? = some v) acc items.size → StrsAre acc.toList ys) (hok : (ys.map (·.length)).sum + ys.length * x.length ≤ 16777216)
    (hq : ∀ h' t' k, (∀ b o, b ≠ it → s.heap.get? b = some o → h'.get? b = some o) → Q (.str (Txt.join x ys) t') { s with heap := h', toks := k }) : wpAny (model prog w) A (call (.builtin "str.join") [.str x t, .ref it]) Q E s := by
  have hh1 : A.in1.handled = none := hh
  refine wpAny_call (codeAny_call_builtin F.slot_str_join.plain F.entry_str_join (F.slot_str_join.check _ _ _ _ _ _ _ _ (typeIs_str _ _ _) (F.args_str_join_2 _ _) ?_))
  rw [join_tree_other]
  refine wpAny_bind (wpAny_typeOf hit.typeIs ?_)
  show wpAny _ A.in1 ((pyIter (.ref it)).tryCatch _ >>= fun it => collect it >>= fun items => joinTail x items) _ _ s
  refine wpAny_bind (wpAny_tryCatch (wpAny_pyIter_revIter hit ?_))
  refine wpAny_bind (collect_rev hh1 hit hl hne hn fun h' tk acc hk hacc => ?_)
  obtain ⟨l2, hl2, ht⟩ := strsAre_values (hP acc hacc)
  subst ht
  rw [hl2]
  have hok' := joinOk_of hok
  unfold JoinOk at hok'
  rw [Bool.not_eq_true'] at hok'
  have g : Gives (joinTail x (strValues l2)) (joinMade x l2) := by
    have g0 := gives_joinTail x l2 hok'
    cases l2 with
    | nil => exact g0
    | cons p r => cases r with
      | nil => exact g0
      | cons q r' => exact g0
  exact g prog w A (wants Q E) _ (post_join l2 ⟨joinFit_length hok', fun t' k => hq h' t' k hk⟩)
end
theorem strs_of : ∀ {ys : List Str} {vs : List Value}, Vals (ys.map V.str) vs → StrsAre vs ys
  | [], [], _ => .nil
  | y :: ys, v :: vs, .cons r rs => by
    obtain ⟨t, rfl⟩ := r
    exact .cons y t (strs_of rs)
section
variable {X : Cx} {o e : Expr} {to te : TE} {apos pos p pos2 : Pos}
/-- sep.join(reversed(xs)), xs a list: sep first -/
def tJoinRev (K : PySem.W.Frag) (to te : TE) : TE := fun σ H Q => to σ H fun x H1 => (∃ a, x = .str a) ∧ te σ H1 fun v H2 => ∃ (a : Str) (q : Addr) (ys : List Str),
  x = .str a ∧ v = .ref q ∧ SqL K H2 q (ys.map V.str) ∧ (ys.reverse.map (·.length)).sum + ys.reverse.length * a.length ≤ 16777216 ∧ Q (.str (Txt.join a ys.reverse)) H2
theorem pe_joinRev (hc : X.calm = true) (ho : PE X o to) (hg : Gl X "reversed") (hm : X.mg "reversed" = none) (he : PE X e te)
    (hs1 : starEach [.Call (.Name "reversed" p) [e] [] pos2] X.env = [(false, eval (.Call (.Name "reversed" p) [e] [] pos2) X.env)] := by rfl)
    (hs : starEach [e] X.env = (false, eval e X.env) :: starEach [] X.env := by rfl)
    (hbase : attributeBase o "join" X.env (eval o X.env) = eval o X.env := by rfl) (hline : (apos.endLine == pos.line) = true := by rfl) :
    PE X (.Call (.Attribute o "join" apos) [.Call (.Name "reversed" p) [e] [] pos2] [] pos) (tJoinRev X.K to te) := by
  refine ⟨fun pins s σ H Q I h => ?_⟩
  refine PySem.Call_method1 hbase hs1 hline (thn (ho.run pins s σ H _ I h) fun v s1 ⟨x, H1, I1, r1, q1⟩ => ?_)
  obtain ⟨⟨a, rfl⟩, q1⟩ := q1
  obtain ⟨t, rfl⟩ := _root_.id r1
  refine ⟨"str", _, F.plainAttrs_str, F.slot_str_join, F.type_str_join, typeIs_str _ _ _, (fun _ e => nomatch e), Calls.callWith_builtin rfl (Calls.evalArgs_plain (Calls.spliced_cons ?_))⟩
  refine Call_ (ld_blt I1 hg hm PyProof.Rows.boot_reversed (PyProof.Rows.callWith_type1 (args_cons (thn (he.run pins s1 σ H1 _ I1 q1) fun u s2 ⟨y, H2, I2, r2, q2⟩ => args_nil ?_) hs) hs rfl))
  obtain ⟨a', q, ys, ea, rfl, hq, hz, q3⟩ := q2
  cases ea
  obtain rfl : u = Value.ref q := r2
  obtain ⟨its, rv, p', hsz⟩ := I2.list hq
  have hl := p'.isList
  obtain ⟨ol, hol, _⟩ := id hl
  have hn : its.toArray.size ≤ sizeLine := by rw [List.size_toArray, ← rv.length]; exact hsz
  have hne : q ≠ s2.heap.objs.size := Nat.ne_of_lt (Heap.lt_size hol)
  refine call_reversed_list hl (Calls.spliced_nil ?_)
  have k0 : ∀ b o, s2.heap.get? b = some o → (s2.heap.push (revObj q ((its.toArray.size : Int) - 1))).get? b = some o := fun b o e => Heap.get?_push_of_some _ e
  have I3 : Inv X pins σ H2 { s2 with heap := s2.heap.push (revObj q ((its.toArray.size : Int) - 1)) } := I2.kept (t' := s2.toks) k0
  obtain ⟨f0, f1, f2, f3, f4, f5⟩ := I2.fpOk (H' := H2) (b := s2.heap.objs.size) (Nat.le_refl _) (I2.hok.fresh (Nat.le_refl _))
  refine join_rev (s := { s2 with heap := s2.heap.push (revObj q ((its.toArray.size : Int) - 1)) }) (ys := ys.reverse) (I2.ok.hd hc) ⟨_, Heap.get?_push_size _ rfl, rfl, rfl⟩ (hl.push _) hne hn (fun acc hacc => strs_of ?_) hz fun h' t' k hk => ?_
  · rw [List.map_reverse]
    exact vals_rev rv hacc
  · exact ⟨.str _, H2, I3.turned (t' := k) (fun b o hb e => hk b o hb e) f0 f1 f3 f4 f5, ⟨t', rfl⟩, q3⟩
end
/-- what is never run -/
theorem ps_dead {X : Cx} {st : Stmt} : PS X st (fun _ _ _ => False) := ⟨fun _ _ _ _ _ _ h => h.elim⟩
theorem pe_dead {X : Cx} {e : Expr} : PE X e (fun _ _ _ => False) := ⟨fun _ _ _ _ _ _ h => h.elim⟩
end Kx
/-! what is heard of a call -/
namespace KJ
open L2 PySem PySem.Spec PyProof.Rows Kx RZ TL
theorem takes_len {X : Cx} {W : WX} (t : Takes X W) : Takes X fun c d σ H => σ.length = X.N.length → W c d σ H := fun u s ⟨x, B, o, pins, σ, H, cls, d, e, I, r1, r2, r3, r4, r5, r6, q⟩ => t u s ⟨x, B, o, pins, σ, H, cls, d, e, I, r1, r2, r3, r4, r5, r6, q I.len⟩
/-- v shows as the text of dt -/
structure ShowD (K : PySem.W.Frag) (H : Hp) (v : V) (dt : PyData) : Prop where
  dp : Dp K H v dt
  sh : dt.showable = true
  nd : dt.hasDict = false
  deep : dt.depth ≤ 60
  fit : dt.shown.length ≤ sizeLine
theorem od60 {m L : Nat} {d : PyData} (h : OkD m L d) (hm : m ≤ 60 := by decide) : d.depth ≤ 60 := Nat.le_trans h.deep hm
theorem odLine {m L : Nat} {d : PyData} (h : OkD m L d) (hL : L ≤ sizeLine := by decide) : d.shown.length ≤ sizeLine := Nat.le_trans h.fit hL
theorem bt_KeyError : bootBuiltins "KeyError" = some (.type "KeyError") := by decide +kernel
/-- what is heard of an error: no state, forgotten -/
def Out (K : PySem.W.Frag) (a : Ad) (cls : Value) (d : Option Addr) (H : Hp) (Q : VK) : Prop := ∃ dd, d = some dd ∧
  ((cls = .ref a.cF ∧ ∃ v dt, H dd = some (.xd [("at", v)]) ∧ ShowD K H v dt ∧ ∀ p H2, Same H H2 → H2 p = some (.lst [.str "refused", .str dt.shown, .bl true]) → Q (.ref p) H2) ∨
  (cls = .ref a.cN ∧ ∃ v dt, H dd = some (.xd [("state", v)]) ∧ ShowD K H v dt ∧ ∀ p H2, Same H H2 → H2 p = some (.lst [.str "state", .str dt.shown, .bl true]) → Q (.ref p) H2) ∨
  (cls = .ref a.cG ∧ ∃ v dt, H dd = some (.xd [("most", v)]) ∧ ShowD K H v dt ∧ ∀ p H2, Same H H2 → H2 p = some (.lst [.str "great", .str dt.shown, .bl true]) → Q (.ref p) H2))
/-- what is heard of a call tl -/
def TTh (K : PySem.W.Frag) (a : Ad) : (XK → Hp → VK → Prop) → Hp → VK → Prop := fun tl H Q => tl (fun cls d H' => Out K a cls d H' Q) H (fun _ H' => 3 ≤ sizeLine ∧ ∀ p, H' p = none → Q (.ref p) (upd H' p (.lst [.str "none", .str "", .bl false])))
/-- the errors as they are caught and asked -/
structure Hd (K : PySem.W.Frag) (mg : Str → Option Value) (a : Ad) (cW : Addr) : Prop where
  g_W : mg "WitnessError" = some (.ref cW)
  g_F : mg "Refused" = some (.ref a.cF)
  g_G : mg "TooGreat" = some (.ref a.cG)
  g_N : mg "NoState" = some (.ref a.cN)
  x_F : XfC K a.cF
  n_F : PySem.W.findIn K (.ref a.cF) "at" = some none
  e_F : ExcC K a.cF
  k_F : PySem.W.kitOne K (.ref a.cF) (.ref cW) = some true
  m_FF : PySem.W.exmOne K (.ref a.cF) (.ref a.cF) = some true
  x_G : XfC K a.cG
  n_G : PySem.W.findIn K (.ref a.cG) "most" = some none
  e_G : ExcC K a.cG
  k_G : PySem.W.kitOne K (.ref a.cG) (.ref cW) = some true
  m_GF : PySem.W.exmOne K (.ref a.cG) (.ref a.cF) = some false
  m_GG : PySem.W.exmOne K (.ref a.cG) (.ref a.cG) = some true
  x_N : XfC K a.cN
  n_N : PySem.W.findIn K (.ref a.cN) "state" = some none
  e_N : ExcC K a.cN
  k_N : PySem.W.kitOne K (.ref a.cN) (.type "KeyError") = some true
  m_NF : PySem.W.exmOne K (.ref a.cN) (.ref a.cF) = some false
  m_NG : PySem.W.exmOne K (.ref a.cN) (.ref a.cG) = some false
  m_NN : PySem.W.exmOne K (.ref a.cN) (.ref a.cN) = some true
/-- isinstance(e, c), whatever the error's class is said to be -/
theorem call_isEw {X : Cx} {x D : Addr} {oe : Obj} {cls : Value} {d : Option Addr} {pn : List (Addr × Obj)} (C : ExcC X.K D) (hz : Zc cls d oe) (hf : ∃ vs, oe.data = .fields vs) :
    CallR (X.suite x ((x, oe) :: pn)) (.builtin "isinstance") (fun xs H Q => cls = .ref D ∧ (∃ dd, d = some dd ∧ ∃ fs, H dd = some (.xd fs)) ∧ rIsE X.K D x xs H Q) := by
  rintro pins s σ H xs us Q I r h
  obtain ⟨rfl, ⟨dd, rfl, fs, h1⟩, h2⟩ := h
  exact call_isEd C hz hf pins s σ H xs us Q I r ⟨⟨fs, h1⟩, h2⟩
section
variable {P : Program} {w : World} {K : PySem.W.Frag} {mg : Str → Option Value} {base : Heap} {f : Addr} {fd : FuncData} {a : Ad} {CM cW : Addr}
theorem sc_law_fault : FnScope ["call", "fault"] ["call"] (defScope s_law_fault) := ⟨rfl, rfl, rfl, by decide +kernel, rfl, by decide +kernel, by decide +kernel⟩
theorem heard_gives {X : Cx} {g : Addr} {cdg : Value} {k : Nat} {q : Str} (T : Mg X.mg) (D : Hd X.K X.mg a cW) (lone : Lone X.A) (hr : Room (k + 2) X.A) :
    LamX.GivesTo X ["call", "fault"] "_law_fault" (defScope s_law_fault) g cdg (defBody s_law_fault) "call" q (TTh X.K a) := by
  intro fl c' s H Q tl act hc h
  have hr1 : Room (k + 1) (X.A.deeper (envOfC "_law_fault" (defScope s_law_fault) s.heap.objs.size g cdg)) := hr.deeper _
  have un := hr1.un
  have cs : ∀ (x : Addr) (ob : Obj) (pn : List (Addr × Obj)), CallR ((cxOf C8.CX0 X.prog X.w X.K X.mg X.base ["call", "fault"] "_law_fault" (defScope s_law_fault) g cdg X.A X.stack s H C8.E0).nox.suite x ((x, ob) :: pn)) (.builtin "repr") (rShow X.K) :=
    fun x ob pn => call_show lone (by show (X.A.deeper (envOfC "_law_fault" (defScope s_law_fault) s.heap.objs.size g cdg)).units + 64 < _; omega)
  refine ⟨_, pss_cons (ps_tries (W := fun _ _ _ _ => False)
      (tb := fun U E σ H => ∃ Ech : XK, (∀ cls d σ' H', Ech cls d H' → σ'.length = 2 → U cls d σ' H') ∧ σ[0]? = some (some (.ref fl)) ∧ H c' = some (LamX.CodeO c' q) ∧ tl Ech H (fun _ H' => E.nx σ H'))
      rfl rfl LamX.takes0 (fun U pn xe tk own => ?_)
      (Clauses.cons (i := 1) sc_law_fault.nd rfl rfl ⟨rfl, by decide, .inl D.g_F⟩
        (fun x ob cls d pn hz hf => pss_one (ps_ret (pe_lst (pa_cons pe_str (pa_cons (pe_callB (cs x ob pn) (by rfl) T.z_repr (by decide +kernel) (pa_cons (pe_xf D.x_F D.n_F hz hf (pv 1)) pa_nil)) (pa_cons (pe_callB (call_isEw D.e_F hz hf) (by rfl) T.z_isinstance (by decide +kernel) (pa_cons (pv 1) (pa_cons (pe_glob (v := V.ref cW) rfl D.g_W rfl) pa_nil))) pa_nil))))))
      (Clauses.cons (i := 1) sc_law_fault.nd rfl rfl ⟨rfl, by decide, .inl D.g_G⟩
        (fun x ob cls d pn hz hf => pss_one (ps_ret (pe_lst (pa_cons pe_str (pa_cons (pe_callB (cs x ob pn) (by rfl) T.z_repr (by decide +kernel) (pa_cons (pe_xf D.x_G D.n_G hz hf (pv 1)) pa_nil)) (pa_cons (pe_callB (call_isEw D.e_G hz hf) (by rfl) T.z_isinstance (by decide +kernel) (pa_cons (pv 1) (pa_cons (pe_glob (v := V.ref cW) rfl D.g_W rfl) pa_nil))) pa_nil))))))
      (Clauses.cons (i := 1) sc_law_fault.nd rfl rfl ⟨rfl, by decide, .inl D.g_N⟩
        (fun x ob cls d pn hz hf => pss_one (ps_ret (pe_lst (pa_cons pe_str (pa_cons (pe_callB (cs x ob pn) (by rfl) T.z_repr (by decide +kernel) (pa_cons (pe_xf D.x_N D.n_N hz hf (pv 1)) pa_nil)) (pa_cons (pe_callB (call_isEw D.e_N hz hf) (by rfl) T.z_isinstance (by decide +kernel) (pa_cons (pv 1) (pa_cons (pe_bltn (v := V.ty "KeyError") (by rfl) T.z_KeyError bt_KeyError rfl) pa_nil))) pa_nil))))))
      Clauses.nil))))
    (pss_one (ps_ret (pe_lst (pa_cons pe_str (pa_cons pe_str (pa_cons pe_bl pa_nil)))))), ?_⟩
  · refine ⟨fun pins s' σ H' E I h' => ?_⟩
    rcases h' with ⟨Ech, hW, h1, h2, h3⟩
    have hp := fun p1 p2 => act (fun c d σ H => σ.length = _ → U c d σ H) pn xe Ech p1 p2 (takes_len tk) (fun cls d σ' H' he hlen => hW cls d σ' H' he hlen)
    exact (pss_one (ps_expr (hp _ _))).run pins s' σ H' E I ⟨h1, h2, h3⟩
  · refine ⟨fun cls d H' => Out X.K a cls d H' Q, ?_, rfl, hc, h⟩
    rintro cls d σ' H' ⟨dd, rfl, o⟩ hlen
    obtain ⟨v0, v1, rfl⟩ : ∃ v0 v1, σ' = [v0, v1] := by
      match σ', hlen with
      | [v0, v1], _ => exact ⟨v0, v1, rfl⟩
    have no : ∀ {P : Prop}, true = false → P := fun z => nomatch z
    have no' : ∀ {P : Prop}, false = true → P := fun z => nomatch z
    rcases o with ⟨rfl, v, dt, hd, sd, k⟩ | ⟨rfl, v, dt, hd, sd, k⟩ | ⟨rfl, v, dt, hd, sd, k⟩
    · refine ⟨true, D.m_FF, fun _ x hx => ?_, no⟩
      refine ⟨_, rfl, rfl, rfl, dd, _, _, rfl, hd, rfl, _, dt, rfl, sd.dp, sd.sh, sd.nd, sd.deep, sd.fit, _, rfl, rfl, ⟨dd, rfl, _, hd⟩, _, _, true, rfl, fun u r => r, D.k_F, (by show 3 ≤ sizeLine; decide), fun p hp => k p _ (same_new hp) upd_same⟩
    · refine ⟨false, D.m_NF, no', fun _ => ⟨false, D.m_NG, no', fun _ => ⟨true, D.m_NN, fun _ x hx => ?_, no⟩⟩⟩
      refine ⟨_, rfl, rfl, rfl, dd, _, _, rfl, hd, rfl, _, dt, rfl, sd.dp, sd.sh, sd.nd, sd.deep, sd.fit, _, rfl, rfl, ⟨dd, rfl, _, hd⟩, _, (.type "KeyError"), true, rfl, fun u r => r, D.k_N, (by show 3 ≤ sizeLine; decide), fun p hp => k p _ (same_new hp) upd_same⟩
    · refine ⟨false, D.m_GF, no', fun _ => ⟨true, D.m_GG, fun _ x hx => ?_, no⟩⟩
      refine ⟨_, rfl, rfl, rfl, dd, _, _, rfl, hd, rfl, _, dt, rfl, sd.dp, sd.sh, sd.nd, sd.deep, sd.fit, _, rfl, rfl, ⟨dd, rfl, _, hd⟩, _, _, true, rfl, fun u r => r, D.k_G, (by show 3 ≤ sizeLine; decide), fun p hp => k p _ (same_new hp) upd_same⟩
/-- what a def that hears lambdas must know: c, Pt its code object and table -/
structure HF (X : Cx) (a : Ad) (cW : Addr) (Ts : List (Addr × Str)) (g : Addr) (fdg : FuncData) (c Pt : Addr) (st : Stmt) : Prop where
  FH : FnP X.K "_law_fault" s_law_fault g fdg
  gH : X.mg "_law_fault" = some (.ref g)
  bH : Binds X.K fdg ["call"] []
  T : Mg X.mg
  D : Hd X.K X.mg a cW
  lone : Lone X.A
  TB : LamX.TabB X.base X.mg c Pt
  code : X.env.code = .ref c
  sc : X.env.scope = defScope st
  mem : (Pt, X.env.qual ++ "<lambda>") ∈ Ts
  only : ∀ p ∈ Ts, p.1 = Pt → p.2 = X.env.qual ++ "<lambda>"
theorem pe_heard {X : Cx} {a : Ad} {cW : Addr} {Ts : List (Addr × Str)} {g : Addr} {fdg : FuncData} {c Pt : Addr} {st : Stmt} {k : Nat} {params : Arguments} {body : Expr} {scope : Scope} {t : XK → TE} {p lpos pos : Pos} (h : HF X a cW Ts g fdg c Pt st) (hr : Room (k + 2) X.A)
    (hbody : ∀ (A : Around) (outer : List Env) (s : Shared) (H : Hp) (E : XK) (f c' : Addr), Room k (A.deeper (LamX.lamEnv X scope s.heap.objs.size f c')) → PE (LamX.lamCx X A outer s H E scope f c') body (t E))
    (hg : Gl X "_law_fault" := by rfl) (hL : LamX.lamSB (defScope st) scope = true := by decide +kernel) (hdef : defaultsOf params X.env = ([], []) := by rfl)
    (hbind : ∀ (q : Str) (cl : List (Str × Addr)) (pm cv ctv : Value), bindArgs (PySem.W.kla_fn "<lambda>" q params body scope cl pm cv ctv) ⟨[], []⟩ = pure [] := by intros; rfl) :
    PE X (.Call (.Name "_law_fault" p) [.Lambda params body scope lpos] [] pos) (LamX.tLam Ts (TTh X.K a) t) := by
  obtain ⟨oc, od, dV, kV, doc, pm, an, cdv, ct, osl, rfl, lk, hcd, -, -⟩ := h.FH.ex
  exact LamX.pe_lamcall (k := k) hg h.gH h.FH.kp lk hcd h.bH sc_law_fault rfl (.inl rfl) (heard_gives h.T h.D h.lone hr) h.TB h.code h.mem h.only hr (by rw [h.sc]; exact LamX.lamS_by hL) hdef hbind hbody
/-- what leaves a def, its context none, leaves it -/
theorem cx_of {P : Program} {w : World} {outer : List Env} {H : Hp} {s : Shared} {E : XK} {u : Value} {s' : Shared} (h : L2N.CX P w outer H s E u s') : L2.CX P w outer H s E u s' := by
  obtain ⟨a, B, H', cls, d, e, fl, r⟩ := h
  obtain ⟨oe, vs, T, oT, ts, he, hz, r2⟩ := fl.2.2.2
  exact ⟨a, B, H', cls, d, e, ⟨fl.1, fl.2.1, fl.2.2.1, oe, vs, T, oT, ts, he, hz.zc, r2⟩, r⟩
/-- an error that is raised is heard -/
theorem passL {X : Cx} {A : Around} {outer : List Env} {s : Shared} {H : Hp} {E : XK} {scope : Scope} {f c' : Addr} : Passes (L2N.CX (LamX.lamCx X A outer s H E scope f c').prog (LamX.lamCx X A outer s H E scope f c').w) (LamX.lamCx X A outer s H E scope f c') E :=
  fun pins σ H1 s1 e s' I c => passes_call (X := LamX.lamCx X A outer s H E scope f c') (takes_of (E := E) rfl rfl rfl rfl) (fun _ _ _ _ z => z) pins σ H1 s1 e s' I (cx_of c)
end

end KJ
/-! _law_apart_right -/
namespace KJ
open L2 PySem PySem.Spec PyProof.Rows Kx RZ TL
section
variable {K : PySem.W.Frag} {a : Ad} {CM m : Addr} {n : Nat} {ts : List (List Int)} {s : Int} {v : V} {H : Hp} {Q : VK} {E : XK} {sp : Sp}
theorem bel_no (h : isBel n v = false) (e : v = .int s) (z0 : 0 ≤ s) (z1 : s < (n : Int)) : False := by
  subst e
  rw [isBel_iff.mpr ⟨z0, z1⟩] at h
  cases h
theorem LeastAt.told {u : Addr} {rs es : List Nat} (l : LeastAt K H u n ts s rs es) : Told n ts s rs es := ⟨l.lr, l.le, l.rr⟩
theorem LeastAt.same {H' : Hp} {u : Addr} {rs es : List Nat} (l : LeastAt K H u n ts s rs es) (e : Same H H') : LeastAt K H' u n ts s rs es := ⟨l.at_.elim fun p h => h.elim fun q z => ⟨p, q, sqT_same e z.1, sqT_same e z.2.1, sqT_same e z.2.2⟩, l.lr, l.le, l.rr⟩
theorem least_told (hs : spLeastA K a CM = sp) (hm : McAt K CM H m n ts) (s0 : 0 ≤ s) (s1 : s < (n : Int)) (C : Cm (Rch ts s) ts) (k : ∀ (u : Addr) (rs es : List Nat) H', Same H H' → LeastAt K H' u n ts s rs es → Q (.ref u) H') : sp [.ref m, .int s] H Q E := by
  subst hs
  exact ⟨m, n, ts, .int s, rfl, hm, .int _, fun z => (bel_no z rfl s0 s1).elim, fun _ => ⟨s, rfl, fun no => absurd C no, fun _ => k⟩⟩
theorem least_none (hs : spLeastA K a CM = sp) (hm : McAt K CM H m n ts) (s0 : 0 ≤ s) (s1 : s < (n : Int)) (C : ¬ Cm (Rch ts s) ts) (k : ∀ H', Same H H' → Q .non H') : sp [.ref m, .int s] H Q E := by
  subst hs
  exact ⟨m, n, ts, .int s, rfl, hm, .int _, fun z => (bel_no z rfl s0 s1).elim, fun _ => ⟨s, rfl, fun _ => k, fun y => absurd y C⟩⟩
theorem least_bad (hs : spLeastA K a CM = sp) (hm : McAt K CM H m n ts) (hv : Kn K H v) (nb : isBel n v = false) (th : Thrown E H a.cN "state" v) : sp [.ref m, v] H Q E := by
  subst hs
  exact ⟨m, n, ts, v, rfl, hm, hv, fun _ => th, fun z => by rw [nb] at z; cases z⟩
end
abbrev dTwo (rs es : List Nat) : PyData := dRows [intO rs, intO es]
theorem LeastAt.dp {K : PySem.W.Frag} {H : Hp} {u : Addr} {n : Nat} {ts : List (List Int)} {s : Int} {rs es : List Nat} (l : LeastAt K H u n ts s rs es) : Dp K H (.ref u) (dTwo rs es) := by
  obtain ⟨p, q, h1, h2, h3⟩ := l.at_
  exact dp_rows h1 ⟨⟨p, rfl, by rw [← natV_int]; exact h2⟩, ⟨q, rfl, by rw [← natV_int]; exact h3⟩, trivial⟩
theorem eqv_two (rs es : List Nat) : PyData.eqv (dTwo rs es) (dTwo rs es) = true := by simp only [PyData.eqv, eqv_rows, decide_true]
theorem okD_two {rs es : List Nat} (h1 : ∀ r ∈ rs, r ≤ 100) (l1 : rs.length ≤ 8) (h2 : ∀ e ∈ es, e ≤ 100) (l2 : es.length ≤ 8) : OkD 2 100000 (dTwo rs es) := by
  have b : ∀ {xs : List Nat}, (∀ x ∈ xs, x ≤ 100) → ∀ z ∈ intO xs, -1000000 ≤ z ∧ z ≤ 1000000 := fun {xs} h z hz => by
    obtain ⟨x, hx, rfl⟩ := List.mem_map.mp hz
    have := h x hx
    omega
  exact (okD_tuple (okA_cons (okD_nums (b h1) (by rw [intO_len]; exact l1)) (okA_cons (okD_nums (b h2) (by rw [intO_len]; exact l2)) okA_nil))).mono (by decide) (by decide)
/-- the machine apart -/
def apT : List (List Int) := [[1, 0, 3, 4, 2], [0, 1, 3, 4, 2]]
theorem mok_ap : Mok 5 apT := ⟨by decide, by decide, by decide, by decide, by decide, by decide⟩
theorem rch_ap {S : List Int} {s x : Int} (hs : s ∈ S) (c : ∀ x ∈ S, ∀ d, d < 2 → nx apT d x ∈ S) (h : Rch apT s x) : x ∈ S := by
  obtain ⟨row, ok, rfl⟩ := h
  exact closed_all c hs ok
theorem two_of {d : Nat} (h : d < 2) : d = 0 ∨ d = 1 := by omega
theorem cl0 : ∀ x ∈ ([0, 1] : List Int), ∀ d, d < 2 → nx apT d x ∈ ([0, 1] : List Int) := fun x hx d hd => by
  simp only [List.mem_cons, List.not_mem_nil, or_false] at hx
  rcases hx with rfl | rfl <;> rcases two_of hd with rfl | rfl <;> decide
theorem cl2 : ∀ x ∈ ([2, 3, 4] : List Int), ∀ d, d < 2 → nx apT d x ∈ ([2, 3, 4] : List Int) := fun x hx d hd => by
  simp only [List.mem_cons, List.not_mem_nil, or_false] at hx
  rcases hx with rfl | rfl | rfl <;> rcases two_of hd with rfl | rfl <;> decide
theorem cm_ap {S : List Int} {s : Int} (hs : s ∈ S) (c : ∀ x ∈ S, ∀ d, d < 2 → nx apT d x ∈ S) (e : ∀ x ∈ S, tx [1, 0, 3, 4, 2] (tx [0, 1, 3, 4, 2] x) = tx [0, 1, 3, 4, 2] (tx [1, 0, 3, 4, 2] x)) : Cm (Rch apT s) apT := by
  refine ⟨fun t ht x hx => ?_, fun t ht u hu x hx => ?_⟩
  · obtain ⟨d, hd, rfl⟩ := at_ts ht
    exact hx.step hd
  · have xS := rch_ap hs c hx
    have h := e x xS
    have at2 : ∀ {t : List Int}, t ∈ apT → t = [1, 0, 3, 4, 2] ∨ t = [0, 1, 3, 4, 2] := fun ht => by
      rcases List.mem_cons.mp ht with h | ht
      · exact .inl h
      · exact .inr (List.mem_singleton.mp ht)
    rcases at2 ht with rfl | rfl <;> rcases at2 hu with rfl | rfl
    · rfl
    · exact h
    · exact h.symm
    · rfl
theorem rr_of {S : List Int} {t : List Int} {L : Int → Prop} {r : Nat} {x : Int} (sub : ∀ y, L y → y ∈ S) (per : ∀ y ∈ S, it t r y = y) (hx : L x) (g : Tc t x 0 r) : RR L t r 0 := by
  refine ⟨g.c1, fun y hy => ?_, fun m hm => g.dvd (Nat.le_refl _) (hm x hx), fun z => absurd z (Nat.lt_irrefl 0)⟩
  rw [Nat.zero_add]
  exact per y (sub y hy)
theorem told_ap0 : Told 5 apT 0 [2, 1] [0, 0] := by
  have sub : ∀ y, Rch apT 0 y → y ∈ ([0, 1] : List Int) := fun y h => rch_ap (by decide) cl0 h
  refine ⟨rfl, rfl, fun d hd => ?_⟩
  rcases two_of hd with rfl | rfl
  · refine ⟨rr_of sub (by decide) .refl ⟨by decide, by decide, fun i j h1 h2 => ?_⟩, by decide, by decide⟩
    have h2 : j < 0 + 2 := h2
    obtain ⟨rfl, rfl⟩ : i = 0 ∧ j = 1 := by omega
    decide
  · refine ⟨rr_of sub (by decide) .refl ⟨by decide, by decide, fun i j h1 h2 => by
      have h2 : j < 0 + 1 := h2
      omega⟩, by decide, by decide⟩
theorem told_ap2 : Told 5 apT 2 [3, 3] [0, 0] := by
  have sub : ∀ y, Rch apT 2 y → y ∈ ([2, 3, 4] : List Int) := fun y h => rch_ap (by decide) cl2 h
  refine ⟨rfl, rfl, fun d hd => ?_⟩
  have three : ∀ {i j : Nat}, i < j → j < 0 + 3 → (i = 0 ∧ j = 1) ∨ (i = 0 ∧ j = 2) ∨ (i = 1 ∧ j = 2) := by omega
  rcases two_of hd with rfl | rfl
  · refine ⟨rr_of sub (by decide) .refl ⟨by decide, by decide, fun i j h1 h2 => ?_⟩, by decide, by decide⟩
    rcases three h1 h2 with ⟨rfl, rfl⟩ | ⟨rfl, rfl⟩ | ⟨rfl, rfl⟩ <;> decide
  · refine ⟨rr_of sub (by decide) .refl ⟨by decide, by decide, fun i j h1 h2 => ?_⟩, by decide, by decide⟩
    rcases three h1 h2 with ⟨rfl, rfl⟩ | ⟨rfl, rfl⟩ | ⟨rfl, rfl⟩ <;> decide
theorem cm_ap0 : Cm (Rch apT 0) apT := cm_ap (S := [0, 1]) (by decide) cl0 (by decide)
theorem cm_ap2 : Cm (Rch apT 2) apT := cm_ap (S := [2, 3, 4]) (by decide) cl2 (by decide)
def rsO (x : Int) : List Nat := if x = 0 then [2, 1] else [3, 3]
def spLApart : Sp := fun vs H Q _ => vs = [] ∧ ∀ H', Same H H' → Q (.bl true) H'
section
variable {P : Program} {w : World} {K : PySem.W.Frag} {mg : Str → Option Value} {base : Heap} {f : Addr} {fd : FuncData} {a : Ad} {CM : Addr}
theorem sc_lapart : FnScope ["apart", "first"] [] (defScope s_law_apart_right) := ⟨rfl, rfl, rfl, by decide +kernel, rfl, by decide +kernel, by decide +kernel⟩
theorem ok_lapart (F : FnP K "_law_apart_right" s_law_apart_right f fd) (T : Mg mg) (TM : ClsM K mg CM) (M : Mks P w K mg base a CM) (F3 : Cal P w K mg base (L2N.CX P w) 8 "least_alone" ["machine", "first"] (spLeastA K a CM)) : FnOk P w K mg base CX0 9 f fd [] spLApart := by
  refine F.ok sc_lapart (fun vs H Q E h => ?_) (fun cdv A outer s H vs Q E hr h => ?_)
  · obtain ⟨rfl, _⟩ := h
    rfl
  · obtain ⟨rfl, k⟩ := h
    refine ⟨_, PSs.nox (pss_cons (ps_mid (ps_set (i := 0) sc_lapart.nd rfl (by first | exact Or.inl rfl | exact Or.inr rfl) (pe_mac (K := K) M TM hr pzN (pa_cons (pe_lst (pa_cons (pe_tup (pa_cons pe_int (pa_cons pe_int (pa_cons pe_int (pa_cons pe_int (pa_cons pe_int pa_nil)))))) (pa_cons (pe_tup (pa_cons pe_int (pa_cons pe_int (pa_cons pe_int (pa_cons pe_int (pa_cons pe_int pa_nil)))))) pa_nil))) pa_nil)))) (pss_one (ps_ret (pe_cmpR (op_eqDK (K := K) (r64 hr)) (pe_lc (own := [("first", 1)]) (by rfl) sc_lapart.nd (pi_tup (pe_tup (pa_cons pe_int (pa_cons pe_int (pa_cons pe_int pa_nil))))) (blkOk_by (own := [("first", 1)]) (N := ["apart", "first"]) (sc := defScope s_law_apart_right) (by decide +kernel)) (fun _ _ _ _ _ => (pg_name (i := 1) sc_lapart.nd rfl (by first | exact Or.inl rfl | exact Or.inr rfl))) (fun _ _ _ _ _ => pts_nil) (fun _ _ _ _ _ => (pe_callC F3 hr pzN (pa_cons (pv 0) (pa_cons (pv 1) pa_nil))))) (pe_lst (pa_cons (pe_tup (pa_cons (pe_tup (pa_cons pe_int (pa_cons pe_int pa_nil))) (pa_cons (pe_tup (pa_cons pe_int (pa_cons pe_int pa_nil))) pa_nil))) (pa_cons (pe_tup (pa_cons (pe_tup (pa_cons pe_int (pa_cons pe_int pa_nil))) (pa_cons (pe_tup (pa_cons pe_int (pa_cons pe_int pa_nil))) pa_nil))) (pa_cons (pe_tup (pa_cons (pe_tup (pa_cons pe_int (pa_cons pe_int pa_nil))) (pa_cons (pe_tup (pa_cons pe_int (pa_cons pe_int pa_nil))) pa_nil))) pa_nil)))) (nomark _))))), ?_⟩
    refine ⟨fun σ' H' => ∃ m : Addr, σ' = [some (.ref m), none] ∧ Same H H' ∧ McAt K CM H' m 5 apT, ?_, ?_⟩
    · refine ⟨(by show 5 ≤ sizeLine; decide), fun p0 hp0 => ?_⟩
      have e0 := same_new (o := HO.tup [V.int 1, .int 0, .int 3, .int 4, .int 2]) hp0
      have u0 : SqT K (upd H p0 (HO.tup [V.int 1, .int 0, .int 3, .int 4, .int 2])) p0 (([1, 0, 3, 4, 2] : List Int).map V.int) := SqT.of upd_same
      generalize upd H p0 (HO.tup [V.int 1, .int 0, .int 3, .int 4, .int 2]) = A0 at e0 u0 ⊢
      refine ⟨(by show 5 ≤ sizeLine; decide), fun p1 hp1 => ?_⟩
      have e1 := same_new (o := HO.tup [V.int 0, .int 1, .int 3, .int 4, .int 2]) hp1
      have u1 : SqT K (upd A0 p1 (HO.tup [V.int 0, .int 1, .int 3, .int 4, .int 2])) p1 (([0, 1, 3, 4, 2] : List Int).map V.int) := SqT.of upd_same
      generalize upd A0 p1 (HO.tup [V.int 0, .int 1, .int 3, .int 4, .int 2]) = A1 at e1 u1 ⊢
      refine ⟨(by show 2 ≤ sizeLine; decide), fun l hl => ?_⟩
      have e4 := same_new (o := HO.lst [V.ref p0, .ref p1]) hl
      have u4 : upd A1 l (HO.lst [V.ref p0, .ref p1]) l = some (.lst [V.ref p0, .ref p1]) := upd_same
      generalize upd A1 l (HO.lst [V.ref p0, .ref p1]) = H4 at e4 u4 ⊢
      have rows4 : RowsBy (SqT K H4) [V.ref p0, .ref p1] apT := ⟨⟨p0, rfl, sqT_same (e1.trans e4) u0⟩, ⟨p1, rfl, sqT_same e4 u1⟩, trivial⟩
      refine fun x dy hx hdy ne => mc_make mok_ap (.inl (SqL.of u4)) (rows4.imp fun _ _ z => .inr z) hx hdy ne fun H5 e5 mcA => ?_
      exact ⟨x, rfl, e0.trans (e1.trans (e4.trans e5)), mcA⟩
    rintro σ' H1 ⟨m, rfl, e01, hm⟩
    generalize hsp : spLeastA K a CM = sp0
    refine ⟨(by show 3 ≤ sizeLine; decide), fun u hu => ?_⟩
    have eu := same_new (o := HO.tup [V.int 0, .int 2, .int 0]) hu
    have wu : SqT K (upd H1 u (HO.tup [V.int 0, .int 2, .int 0])) u (([0, 2, 0] : List Int).map V.int) := SqT.of upd_same
    generalize upd H1 u (HO.tup [V.int 0, .int 2, .int 0]) = Hu at eu wu ⊢
    refine ⟨u, rfl, ⟨_, wu⟩, fun D0 hD => ?_⟩
    have one : ∀ (x : Int) (rs' es' : List Nat), x ∈ ([0, 2, 0] : List Int) → Told 5 apT x rs' es' → rs' = rsO x ∧ es' = [0, 0] := fun x rs' es' hx t => by
      simp only [List.mem_cons, List.not_mem_nil, or_false] at hx
      rcases hx with rfl | rfl | rfl
      · exact t.one told_ap0
      · exact t.one told_ap2
      · exact t.one told_ap0
    have cmx : ∀ x : Int, x ∈ ([0, 2, 0] : List Int) → Cm (Rch apT x) apT ∧ 0 ≤ x ∧ x < ((5 : Nat) : Int) := fun x hx => by
      simp only [List.mem_cons, List.not_mem_nil, or_false] at hx
      rcases hx with rfl | rfl | rfl
      · exact ⟨cm_ap0, by decide, by decide⟩
      · exact ⟨cm_ap2, by decide, by decide⟩
      · exact ⟨cm_ap0, by decide, by decide⟩
    refine lc_tup (xs := ([0, 2, 0] : List Int).map V.int) (fun i H' => Same Hu H' ∧ ∃ us : List Addr, H' D0 = some (.lst (us.map V.ref)) ∧ us.length = i ∧ ∀ (j : Nat) (x : Int) (u : Addr), us[j]? = some u → ([0, 2, 0] : List Int)[j]? = some x → LeastAt K H' u 5 apT x (rsO x) [0, 0]) ⟨same_new hD, [], upd_same, rfl, fun _ _ _ h => nomatch h⟩ (fun i H' _ z => sqT_same z.1 wu) ?_ ?_
    · rintro i v H2 hv ⟨e2, us, h2, lu, al⟩
      rw [List.getElem?_map] at hv
      obtain ⟨x, hx, rfl⟩ := Option.map_eq_some_iff.mp hv
      have xm := List.mem_of_getElem? hx
      obtain ⟨cm, x0, x1⟩ := cmx x xm
      have il : i < 3 := (List.getElem?_eq_some_iff.mp hx).1
      refine ⟨rfl, yes ((if_pos rfl).mpr ?_)⟩
      refine ⟨_, rfl, _, rfl, ?_⟩
      refine least_told hsp ((hm.same eu).same e2) x0 x1 cm fun u rs es H3 e3 la => ?_
      obtain ⟨rfl, rfl⟩ := one x rs es xm la.told
      have ke : Same H3 (upd H3 D0 (.lst (us.map V.ref ++ [.ref u]))) ∨ True := .inr trivial
      have kp : ∀ {w : Addr} {z : Int}, LeastAt K H3 w 5 apT z (rsO z) [0, 0] → LeastAt K (upd H3 D0 (.lst (us.map V.ref ++ [.ref u]))) w 5 apT z (rsO z) [0, 0] := fun l => ⟨l.at_.elim fun p h => h.elim fun q z => ⟨p, q, sqT_lst (e3 _ _ h2) z.1, sqT_lst (e3 _ _ h2) z.2.1, sqT_lst (e3 _ _ h2) z.2.2⟩, l.lr, l.le, l.rr⟩
      refine ⟨_, e3 _ _ h2, by rw [List.length_map, sizeLine_eq]; omega, same_put (e2.trans e3) hD, us ++ [u], by rw [upd_same, List.map_append]; rfl, by rw [List.length_append, lu]; rfl, fun j y w hw hy => ?_⟩
      by_cases ji : j < i
      · rw [List.getElem?_append_left (by omega)] at hw
        exact kp ((al j y w hw hy).same e3)
      · have : j = i := by
          have := (List.getElem?_eq_some_iff.mp hw).1
          rw [List.length_append, List.length_singleton] at this
          omega
        subst this
        rw [List.getElem?_append_right (by omega), lu, Nat.sub_self] at hw
        cases hw
        rw [hx] at hy
        cases hy
        exact kp la
    · rintro G0 ⟨e2, us, h2, lu, al⟩
      obtain ⟨a0, a1, a2, rfl⟩ : ∃ a0 a1 a2, us = [a0, a1, a2] := by
        match us, lu with
        | [a0, a1, a2], _ => exact ⟨a0, a1, a2, rfl⟩
      have l0 := al 0 0 a0 rfl rfl
      have l1 := al 1 2 a1 rfl rfl
      have l2 := al 2 0 a2 rfl rfl
      refine ⟨(by show 2 ≤ sizeLine; decide), fun c0a hc0a => ?_⟩
      have ea0 := same_new (o := HO.tup [V.int 2, .int 1]) hc0a
      have ua0 : SqT K (upd G0 c0a (HO.tup [V.int 2, .int 1])) c0a (natV [2, 1]) := SqT.of upd_same
      generalize upd G0 c0a (HO.tup [V.int 2, .int 1]) = Ga0 at ea0 ua0 ⊢
      refine ⟨(by show 2 ≤ sizeLine; decide), fun c0b hc0b => ?_⟩
      have eb0 := same_new (o := HO.tup [V.int 0, .int 0]) hc0b
      have ub0 : SqT K (upd Ga0 c0b (HO.tup [V.int 0, .int 0])) c0b (natV [0, 0]) := SqT.of upd_same
      generalize upd Ga0 c0b (HO.tup [V.int 0, .int 0]) = Gb0 at eb0 ub0 ⊢
      refine ⟨(by show 2 ≤ sizeLine; decide), fun c0 hc0 => ?_⟩
      have ec0 := same_new (o := HO.tup [V.ref c0a, .ref c0b]) hc0
      have uc0 : SqT K (upd Gb0 c0 (HO.tup [V.ref c0a, .ref c0b])) c0 [.ref c0a, .ref c0b] := SqT.of upd_same
      generalize upd Gb0 c0 (HO.tup [V.ref c0a, .ref c0b]) = G1 at ec0 uc0 ⊢
      have k0 : ∀ G', Same G1 G' → Dp K G' (.ref c0) (dTwo [2, 1] [0, 0]) := fun G' e => dp_rows (sqT_same e uc0) ⟨⟨c0a, rfl, sqT_same ((eb0.trans ec0).trans e) ua0⟩, ⟨c0b, rfl, sqT_same (ec0.trans e) ub0⟩, trivial⟩
      have ee0 : Same G0 G1 := ea0.trans (eb0.trans ec0)
      refine ⟨(by show 2 ≤ sizeLine; decide), fun c1a hc1a => ?_⟩
      have ea1 := same_new (o := HO.tup [V.int 3, .int 3]) hc1a
      have ua1 : SqT K (upd G1 c1a (HO.tup [V.int 3, .int 3])) c1a (natV [3, 3]) := SqT.of upd_same
      generalize upd G1 c1a (HO.tup [V.int 3, .int 3]) = Ga1 at ea1 ua1 ⊢
      refine ⟨(by show 2 ≤ sizeLine; decide), fun c1b hc1b => ?_⟩
      have eb1 := same_new (o := HO.tup [V.int 0, .int 0]) hc1b
      have ub1 : SqT K (upd Ga1 c1b (HO.tup [V.int 0, .int 0])) c1b (natV [0, 0]) := SqT.of upd_same
      generalize upd Ga1 c1b (HO.tup [V.int 0, .int 0]) = Gb1 at eb1 ub1 ⊢
      refine ⟨(by show 2 ≤ sizeLine; decide), fun c1 hc1 => ?_⟩
      have ec1 := same_new (o := HO.tup [V.ref c1a, .ref c1b]) hc1
      have uc1 : SqT K (upd Gb1 c1 (HO.tup [V.ref c1a, .ref c1b])) c1 [.ref c1a, .ref c1b] := SqT.of upd_same
      generalize upd Gb1 c1 (HO.tup [V.ref c1a, .ref c1b]) = G2 at ec1 uc1 ⊢
      have k1 : ∀ G', Same G2 G' → Dp K G' (.ref c1) (dTwo [3, 3] [0, 0]) := fun G' e => dp_rows (sqT_same e uc1) ⟨⟨c1a, rfl, sqT_same ((eb1.trans ec1).trans e) ua1⟩, ⟨c1b, rfl, sqT_same (ec1.trans e) ub1⟩, trivial⟩
      have ee1 : Same G1 G2 := ea1.trans (eb1.trans ec1)
      refine ⟨(by show 2 ≤ sizeLine; decide), fun c2a hc2a => ?_⟩
      have ea2 := same_new (o := HO.tup [V.int 2, .int 1]) hc2a
      have ua2 : SqT K (upd G2 c2a (HO.tup [V.int 2, .int 1])) c2a (natV [2, 1]) := SqT.of upd_same
      generalize upd G2 c2a (HO.tup [V.int 2, .int 1]) = Ga2 at ea2 ua2 ⊢
      refine ⟨(by show 2 ≤ sizeLine; decide), fun c2b hc2b => ?_⟩
      have eb2 := same_new (o := HO.tup [V.int 0, .int 0]) hc2b
      have ub2 : SqT K (upd Ga2 c2b (HO.tup [V.int 0, .int 0])) c2b (natV [0, 0]) := SqT.of upd_same
      generalize upd Ga2 c2b (HO.tup [V.int 0, .int 0]) = Gb2 at eb2 ub2 ⊢
      refine ⟨(by show 2 ≤ sizeLine; decide), fun c2 hc2 => ?_⟩
      have ec2 := same_new (o := HO.tup [V.ref c2a, .ref c2b]) hc2
      have uc2 : SqT K (upd Gb2 c2 (HO.tup [V.ref c2a, .ref c2b])) c2 [.ref c2a, .ref c2b] := SqT.of upd_same
      generalize upd Gb2 c2 (HO.tup [V.ref c2a, .ref c2b]) = G3 at ec2 uc2 ⊢
      have k2 : ∀ G', Same G3 G' → Dp K G' (.ref c2) (dTwo [2, 1] [0, 0]) := fun G' e => dp_rows (sqT_same e uc2) ⟨⟨c2a, rfl, sqT_same ((eb2.trans ec2).trans e) ua2⟩, ⟨c2b, rfl, sqT_same (ec2.trans e) ub2⟩, trivial⟩
      have ee2 : Same G2 G3 := ea2.trans (eb2.trans ec2)
      refine ⟨(by show 3 ≤ sizeLine; decide), fun R hR => ?_⟩
      have eR := same_new (o := HO.lst [V.ref c0, .ref c1, .ref c2]) hR
      have uR : upd G3 R (HO.lst [V.ref c0, .ref c1, .ref c2]) R = some (.lst [V.ref c0, .ref c1, .ref c2]) := upd_same
      generalize upd G3 R (HO.lst [V.ref c0, .ref c1, .ref c2]) = G4 at eR uR ⊢
      have e04 := ee0.trans (ee1.trans (ee2.trans eR))
      have dl : Dp K G4 (.ref D0) (.list [dTwo [2, 1] [0, 0], dTwo [3, 3] [0, 0], dTwo [2, 1] [0, 0]]) := .lst (SqL.of (e04 _ _ h2)) (.cons (l0.same e04).dp (.cons (l1.same e04).dp (.cons (l2.same e04).dp .nil)))
      have dr : Dp K G4 (.ref R) (.list [dTwo [2, 1] [0, 0], dTwo [3, 3] [0, 0], dTwo [2, 1] [0, 0]]) := .lst (SqL.of uR) (.cons (k0 _ (ee1.trans (ee2.trans eR))) (.cons (k1 _ (ee2.trans eR)) (.cons (k2 _ eR) .nil)))
      refine ⟨_, _, dl, dr, by decide +kernel, by decide +kernel, ?_⟩
      rw [show PyData.eqv (.list [dTwo [2, 1] [0, 0], dTwo [3, 3] [0, 0], dTwo [2, 1] [0, 0]]) (.list [dTwo [2, 1] [0, 0], dTwo [3, 3] [0, 0], dTwo [2, 1] [0, 0]]) = true by decide +kernel]
      exact k _ (e01.trans (eu.trans (e2.trans e04)))
end
end KJ
/-! min(a tuple of whole numbers): one of them -/
namespace Kx
open L2 PySem PySem.Spec PyProof.Rows
theorem vals_int_at : ∀ {ns : List Int} {its : List Value} {i : Nat} {v : Value}, Vals (ns.map V.int) its → its[i]? = some v → ∃ k t, k ∈ ns ∧ v = .int k t
  | [], _, i, v, h, e => by
    cases h
    simp at e
  | n :: ns, _, 0, v, h, e => by
    cases h with
    | cons r t =>
      obtain ⟨tk, rfl⟩ := r
      cases Option.some.inj e
      exact ⟨n, tk, List.mem_cons_self, rfl⟩
  | n :: ns, _, i + 1, v, h, e => by
    cases h with
    | cons r t =>
      obtain ⟨k, tk, m, ev⟩ := vals_int_at t e
      exact ⟨k, tk, List.mem_cons_of_mem _ m, ev⟩
def rMinT (K : PySem.W.Frag) : List V → Hp → VK → Prop := fun vs H Q => ∃ (a : Addr) (ns : List Int), vs = [V.ref a] ∧ SqT K H a (ns.map V.int) ∧ 0 < ns.length ∧ ∀ m ∈ ns, Q (.int m) H
theorem cr_minT {X : Cx} (hc : X.calm = true) (hu : X.A.units + 64 < cLine) : CallR X (.builtin "min") (rMinT X.K) := by
  intro pins s σ H vs us Q I r h
  obtain ⟨a, ns, rfl, hq, hne, q⟩ := h
  obtain ⟨its, rv, it, hz⟩ := I.tuple hq
  rw [Vals.ref1 r]
  cases ns with
  | nil => cases hne
  | cons n ns =>
    obtain ⟨as, ra⟩ := Dp.readsAll I _ _ _ (dpAll_nums (n :: ns)) rv
    refine PySem.W.min_tuple_data (x := .int n) (xs := ns.map PyData.int) (I.ok.hd hc) it (by simpa using ra) ⟨fun x hx y hy => ?_, fun x hx => ?_⟩ ?_ fun i v h' tk bs hv _ keep => ?_
    · obtain ⟨j, rfl⟩ : ∃ j, x = .int j := by
        rcases List.mem_cons.mp hx with rfl | hx
        · exact ⟨_, rfl⟩
        · obtain ⟨j, _, rfl⟩ := List.mem_map.mp hx
          exact ⟨j, rfl⟩
      obtain ⟨k, rfl⟩ : ∃ j, y = .int j := by
        rcases List.mem_cons.mp hy with rfl | hy
        · exact ⟨_, rfl⟩
        · obtain ⟨j, _, rfl⟩ := List.mem_map.mp hy
          exact ⟨j, rfl⟩
      rfl
    · rcases List.mem_cons.mp hx with rfl | hx
      · exact fun z => nomatch z
      · obtain ⟨j, _, rfl⟩ := List.mem_map.mp hx
        exact fun z => nomatch z
    · have := deep_nums (n :: ns)
      have e : PyData.depthAll (.int n :: ns.map PyData.int) = 0 := this
      rw [e]
      omega
    · obtain ⟨k, t, mk, rfl⟩ := vals_int_at rv (by simpa using hv)
      exact ⟨.int k, H, I.kept (t' := tk) keep, ⟨t, rfl⟩, q k mk⟩
end Kx
/-! the law -/
namespace KJ
open L2 PySem PySem.Spec PyProof.Rows Kx RZ TL
section
variable {K : PySem.W.Frag} {Ts : List (Addr × Str)} {b a : Addr} {H H' H2 : Hp} {t : Int × Int} {xs : List V} {C c : Addr} {n : Nat} {ts : List (List Int)}
theorem tabs_mv (m : Mv b H H') (hb : H b = some (bx t)) (h : LamX.Tabs Ts H) : LamX.Tabs Ts H' := fun p hp => by
  obtain ⟨ps, h1, h2, h3⟩ := h p hp
  refine ⟨ps, m.1 _ _ (ne_of h1 hb (fun z => nomatch z)) h1, h2, fun pos cv hcv => ?_⟩
  obtain ⟨c, e1, e2⟩ := h3 pos cv hcv
  refine ⟨c, e1, m.1 _ _ (ne_of e2 hb (fun z => ?_)) e2⟩
  unfold LamX.CodeO bx at z
  cases z
theorem ext_mc (e : LamX.ExtN H H') (h : McAt K C H c n ts) : McAt K C H' c n ts := by
  obtain ⟨ok, dx, p, ps, h1, h2, h3⟩ := h
  exact ⟨ok, dx, p, ps, e _ _ h1 (fun _ z => nomatch z), ext_sqT e h2, h3.imp fun _ _ q => ext_sqT e q⟩
theorem ext_lst {us : List V} (e : LamX.ExtN H H') (h : H a = some (.lst us)) : H' a = some (.lst us) := e _ _ h fun _ z => nomatch z
theorem tabs_put {us vs : List V} (ha : H a = some (.lst us)) (h : LamX.Tabs Ts H) : LamX.Tabs Ts (upd H a (.lst vs)) := fun p hp => by
  obtain ⟨ps, h1, h2, h3⟩ := h p hp
  refine ⟨ps, by rw [upd_ne (ne_of h1 ha fun z => nomatch z)]; exact h1, h2, fun pos cv hcv => ?_⟩
  obtain ⟨c, e1, e2⟩ := h3 pos cv hcv
  refine ⟨c, e1, ?_⟩
  rw [upd_ne (ne_of e2 ha fun z => ?_)]
  · exact e2
  · unfold LamX.CodeO at z
    cases z
end
theorem rows_set {R : Addr → List V → Prop} {q : Addr} {t : List Int} (hq : R q (t.map V.int)) : ∀ {vs : List V} {ts : List (List Int)} {k : Nat}, RowsBy R vs ts → RowsBy R (vs.set k (.ref q)) (ts.set k t)
  | [], [], _, _ => trivial
  | _ :: _, _ :: _, 0, ⟨_, h⟩ => ⟨⟨q, rfl, hq⟩, h⟩
  | _ :: _, _ :: _, k + 1, ⟨h0, h⟩ => ⟨h0, rows_set hq (k := k) h⟩
  | [], _ :: _, _, h => h.elim
  | _ :: _, [], _, h => h.elim
/-- machines of the law -/
structure PrmT (n : Nat) (ts : List (List Int)) : Prop where
  ok : Mok n ts
  few : (n ≤ 6 ∧ ts.length ≤ 3) ∨ ts.length ≤ 2
/-- what is told: none, or rounds and rests -/
def ToldAt (K : PySem.W.Frag) (H : Hp) (n : Nat) (ts : List (List Int)) (s : Int) (v : V) : Prop := (¬ Cm (Rch ts s) ts ∧ v = .non) ∨ (Cm (Rch ts s) ts ∧ ∃ (u : Addr) (rs es : List Nat), v = .ref u ∧ LeastAt K H u n ts s rs es)
theorem ToldAt.imp {K : PySem.W.Frag} {H H' : Hp} {n : Nat} {ts : List (List Int)} {s : Int} {v : V} (h : ToldAt K H n ts s v) (e : ∀ p xs, SqT K H p xs → SqT K H' p xs) : ToldAt K H' n ts s v := by
  rcases h with h | ⟨c, u, rs, es, ev, l⟩
  · exact .inl h
  · exact .inr ⟨c, u, rs, es, ev, l.at_.elim fun p h => h.elim fun q z => ⟨p, q, e _ _ z.1, e _ _ z.2.1, e _ _ z.2.2⟩, l.lr, l.le, l.rr⟩
abbrev oddJ (n : Nat) : List V := [.non, .int (-1), .bl true, .str "0", .int (n : Nat)]
theorem sclaw : FnScope ["script", "k", "box", "tables", "at", "bent", "state", "there", "machine", "first", "told", "odd", "row", "number"] ["script"] (defScope s_law) := ⟨rfl, rfl, rfl, by decide +kernel, rfl, by decide +kernel, by decide +kernel⟩
abbrev XL (P : Program) (w : World) (K : PySem.W.Frag) (mg : Str → Option Value) (base : Heap) (f cc : Addr) (A : Around) (outer : List Env) (st : Shared) (H : Hp) (E : XK) : Cx := (cxOf CX0 P w K mg base ["script", "k", "box", "tables", "at", "bent", "state", "there", "machine", "first", "told", "odd", "row", "number"] "law" (defScope s_law) f (.ref cc) A outer st H E).nox
abbrev lawS : List Stmt := inS (nthS (defBody s_law) 0)
def kw2 : List V → List V → List V := fun _ zs => [zs.getD 1 .non, zs.getD 0 .non]
structure FnL (P : Program) (w : World) (K : PySem.W.Frag) (mg : Str → Option Value) (base : Heap) : Prop where
  box : Cal P w K mg base CX0 1 "_law_box" ["script", "k"] (spBox K)
  take : Cal P w K mg base CX0 1 "_law_take" ["box", "many"] spTake
  pick : Cal P w K mg base CX0 2 "_law_pick" ["box", "some"] (spPick K)
  tables : Cal P w K mg base CX0 3 "_law_tables" ["box", "most"] (spLTables K)
  commute : Cal P w K mg base CX0 2 "_law_commute" ["tables", "first"] (spLCommute K)
  least : Cal P w K mg base CX0 4 "_law_least_right" ["box", "tables", "first", "rounds", "rests"] (spLLeast K)
  apart : Cal P w K mg base CX0 9 "_law_apart_right" [] spLApart
structure Lz (P : Program) (w : World) (K : PySem.W.Frag) (mg : Str → Option Value) (base : Heap) (f cc : Addr) (A : Around) (outer : List Env) (st : Shared) (H0 : Hp) (E : XK) (a : Ad) (CM cW : Addr) (Ts : List (Addr × Str)) (scn : List Int) (gH : Addr) (fdH : FuncData) (Pt : Addr) : Prop where
  T : Mg mg
  TM : ClsM K mg CM
  M : Mks P w K mg base a CM
  F3 : Cal P w K mg base (L2N.CX P w) 8 "least_alone" ["machine", "first"] (spLeastA K a CM)
  KF : CalN P w K mg base (L2N.CX P w) 8 0 "least_alone" ["machine", "first"] ["first", "machine"] kw2 (spLeastA K a CM)
  O : FnL P w K mg base
  lone : Lone (A.deeper (envOfC "law" (defScope s_law) st.heap.objs.size f (.ref cc)))
  hr : Room 11 (A.deeper (envOfC "law" (defScope s_law) st.heap.objs.size f (.ref cc)))
  hl : scn.length ≤ 63
  hf : HF (XL P w K mg base f cc A outer st H0 E) a cW Ts gH fdH cc Pt s_law
structure Gl where
  b : Addr
  ta : Addr
  ps : List V
  n : Nat
  ts : List (List Int)
  m : Addr
  s : Int
  v : V
  d : V
theorem hs_mv {K : PySem.W.Frag} {sc b : Addr} {H H' : Hp} {xs : List V} (m : Mv b H H') (h : SqL K H sc xs) (sb : sc = b → ∀ H' : Hp, SqL K H' sc xs) : SqL K H' sc xs := by
  by_cases e : sc = b
  · exact sb e _
  · exact m.sqL e h
theorem sc_not {K : PySem.W.Frag} {sc b : Addr} {H : Hp} {xs : List V} (h : SqL K H sc xs) (nb : H b = none) : sc = b → ∀ H' : Hp, SqL K H' sc xs := fun z => by
  subst z
  rcases h with (h | ⟨z, h⟩) | h
  · rw [nb] at h
    cases h
  · rw [nb] at h
    cases h
  · exact fun H' => .inr h
structure E0 (K : PySem.W.Frag) (CM : Addr) (Ts : List (Addr × Str)) (sc : Addr) (scn : List Int) (H : Hp) : Prop where
  tabs : LamX.Tabs Ts H
  hs : SqL K H sc (scn.map V.int)
theorem E0.same {K : PySem.W.Frag} {CM : Addr} {Ts : List (Addr × Str)} {sc : Addr} {scn : List Int} {H H' : Hp} (h : E0 K CM Ts sc scn H) (e : Same H H') : E0 K CM Ts sc scn H' where
  tabs := h.tabs.ext e
  hs := sqL_same e h.hs
structure E1 (K : PySem.W.Frag) (CM : Addr) (Ts : List (Addr × Str)) (sc : Addr) (scn : List Int) (g : Gl) (H : Hp) : Prop where
  tabs : LamX.Tabs Ts H
  hs : SqL K H sc (scn.map V.int)
  box : ∃ t, H g.b = some (bx t)
  sb : sc = g.b → ∀ H' : Hp, SqL K H' sc (scn.map V.int)
theorem E1.same {K : PySem.W.Frag} {CM : Addr} {Ts : List (Addr × Str)} {sc : Addr} {scn : List Int} {H H' : Hp} {g : Gl} (h : E1 K CM Ts sc scn g H) (e : Same H H') : E1 K CM Ts sc scn g H' where
  tabs := h.tabs.ext e
  hs := sqL_same e h.hs
  box := h.box.elim fun t q => ⟨t, e _ _ q⟩
  sb := h.sb
theorem E1.mv {K : PySem.W.Frag} {CM : Addr} {Ts : List (Addr × Str)} {sc : Addr} {scn : List Int} {H H' : Hp} {g : Gl} (h : E1 K CM Ts sc scn g H) (m : Mv g.b H H') : E1 K CM Ts sc scn g H' := by
  obtain ⟨t, hb⟩ := h.box
  exact {
    tabs := tabs_mv m hb h.tabs,
    hs := hs_mv m h.hs h.sb,
    box := m.2,
    sb := h.sb }
structure E2 (K : PySem.W.Frag) (CM : Addr) (Ts : List (Addr × Str)) (sc : Addr) (scn : List Int) (g : Gl) (H : Hp) : Prop where
  tabs : LamX.Tabs Ts H
  hs : SqL K H sc (scn.map V.int)
  box : ∃ t, H g.b = some (bx t)
  sb : sc = g.b → ∀ H' : Hp, SqL K H' sc (scn.map V.int)
  tb : g.ta ≠ g.b
  ta : H g.ta = some (.lst g.ps)
  rows : RowsBy (SqT K H) g.ps g.ts
  pm : PrmT g.n g.ts
  stt : sc = g.ta → ∀ H' : Hp, SqL K H' sc (scn.map V.int)
theorem E2.same {K : PySem.W.Frag} {CM : Addr} {Ts : List (Addr × Str)} {sc : Addr} {scn : List Int} {H H' : Hp} {g : Gl} (h : E2 K CM Ts sc scn g H) (e : Same H H') : E2 K CM Ts sc scn g H' where
  tabs := h.tabs.ext e
  hs := sqL_same e h.hs
  box := h.box.elim fun t q => ⟨t, e _ _ q⟩
  sb := h.sb
  tb := h.tb
  ta := e _ _ h.ta
  rows := h.rows.imp fun _ _ z => sqT_same e z
  pm := h.pm
  stt := h.stt
theorem E2.mv {K : PySem.W.Frag} {CM : Addr} {Ts : List (Addr × Str)} {sc : Addr} {scn : List Int} {H H' : Hp} {g : Gl} (h : E2 K CM Ts sc scn g H) (m : Mv g.b H H') : E2 K CM Ts sc scn g H' := by
  obtain ⟨t, hb⟩ := h.box
  exact {
    tabs := tabs_mv m hb h.tabs,
    hs := hs_mv m h.hs h.sb,
    box := m.2,
    sb := h.sb,
    tb := h.tb,
    ta := m.1 _ _ h.tb h.ta,
    rows := h.rows.imp fun _ _ z => m.sqT hb z,
    pm := h.pm,
    stt := h.stt }
structure E3 (K : PySem.W.Frag) (CM : Addr) (Ts : List (Addr × Str)) (sc : Addr) (scn : List Int) (g : Gl) (H : Hp) : Prop where
  tabs : LamX.Tabs Ts H
  hs : SqL K H sc (scn.map V.int)
  box : ∃ t, H g.b = some (bx t)
  sb : sc = g.b → ∀ H' : Hp, SqL K H' sc (scn.map V.int)
  tb : g.ta ≠ g.b
  ta : H g.ta = some (.lst g.ps)
  rows : RowsBy (SqT K H) g.ps g.ts
  pm : PrmT g.n g.ts
  stt : sc = g.ta → ∀ H' : Hp, SqL K H' sc (scn.map V.int)
  mac : McAt K CM H g.m g.n g.ts
  s0 : 0 ≤ g.s
  s1 : g.s < (g.n : Int)
theorem E3.same {K : PySem.W.Frag} {CM : Addr} {Ts : List (Addr × Str)} {sc : Addr} {scn : List Int} {H H' : Hp} {g : Gl} (h : E3 K CM Ts sc scn g H) (e : Same H H') : E3 K CM Ts sc scn g H' where
  tabs := h.tabs.ext e
  hs := sqL_same e h.hs
  box := h.box.elim fun t q => ⟨t, e _ _ q⟩
  sb := h.sb
  tb := h.tb
  ta := e _ _ h.ta
  rows := h.rows.imp fun _ _ z => sqT_same e z
  pm := h.pm
  stt := h.stt
  mac := h.mac.same e
  s0 := h.s0
  s1 := h.s1
theorem E3.mv {K : PySem.W.Frag} {CM : Addr} {Ts : List (Addr × Str)} {sc : Addr} {scn : List Int} {H H' : Hp} {g : Gl} (h : E3 K CM Ts sc scn g H) (m : Mv g.b H H') : E3 K CM Ts sc scn g H' := by
  obtain ⟨t, hb⟩ := h.box
  exact {
    tabs := tabs_mv m hb h.tabs,
    hs := hs_mv m h.hs h.sb,
    box := m.2,
    sb := h.sb,
    tb := h.tb,
    ta := m.1 _ _ h.tb h.ta,
    rows := h.rows.imp fun _ _ z => m.sqT hb z,
    pm := h.pm,
    stt := h.stt,
    mac := m.mc hb h.mac,
    s0 := h.s0,
    s1 := h.s1 }
structure E4 (K : PySem.W.Frag) (CM : Addr) (Ts : List (Addr × Str)) (sc : Addr) (scn : List Int) (g : Gl) (H : Hp) : Prop where
  tabs : LamX.Tabs Ts H
  hs : SqL K H sc (scn.map V.int)
  box : ∃ t, H g.b = some (bx t)
  sb : sc = g.b → ∀ H' : Hp, SqL K H' sc (scn.map V.int)
  tb : g.ta ≠ g.b
  ta : H g.ta = some (.lst g.ps)
  rows : RowsBy (SqT K H) g.ps g.ts
  pm : PrmT g.n g.ts
  stt : sc = g.ta → ∀ H' : Hp, SqL K H' sc (scn.map V.int)
  mac : McAt K CM H g.m g.n g.ts
  s0 : 0 ≤ g.s
  s1 : g.s < (g.n : Int)
  td : ToldAt K H g.n g.ts g.s g.v
theorem E4.same {K : PySem.W.Frag} {CM : Addr} {Ts : List (Addr × Str)} {sc : Addr} {scn : List Int} {H H' : Hp} {g : Gl} (h : E4 K CM Ts sc scn g H) (e : Same H H') : E4 K CM Ts sc scn g H' where
  tabs := h.tabs.ext e
  hs := sqL_same e h.hs
  box := h.box.elim fun t q => ⟨t, e _ _ q⟩
  sb := h.sb
  tb := h.tb
  ta := e _ _ h.ta
  rows := h.rows.imp fun _ _ z => sqT_same e z
  pm := h.pm
  stt := h.stt
  mac := h.mac.same e
  s0 := h.s0
  s1 := h.s1
  td := h.td.imp fun _ _ z => sqT_same e z
theorem E4.mv {K : PySem.W.Frag} {CM : Addr} {Ts : List (Addr × Str)} {sc : Addr} {scn : List Int} {H H' : Hp} {g : Gl} (h : E4 K CM Ts sc scn g H) (m : Mv g.b H H') : E4 K CM Ts sc scn g H' := by
  obtain ⟨t, hb⟩ := h.box
  exact {
    tabs := tabs_mv m hb h.tabs,
    hs := hs_mv m h.hs h.sb,
    box := m.2,
    sb := h.sb,
    tb := h.tb,
    ta := m.1 _ _ h.tb h.ta,
    rows := h.rows.imp fun _ _ z => m.sqT hb z,
    pm := h.pm,
    stt := h.stt,
    mac := m.mc hb h.mac,
    s0 := h.s0,
    s1 := h.s1,
    td := h.td.imp fun _ _ z => m.sqT hb z }
structure E5 (K : PySem.W.Frag) (CM : Addr) (Ts : List (Addr × Str)) (sc : Addr) (scn : List Int) (g : Gl) (H : Hp) : Prop where
  tabs : LamX.Tabs Ts H
  hs : SqL K H sc (scn.map V.int)
  box : ∃ t, H g.b = some (bx t)
  sb : sc = g.b → ∀ H' : Hp, SqL K H' sc (scn.map V.int)
  tb : g.ta ≠ g.b
  ta : H g.ta = some (.lst g.ps)
  rows : RowsBy (SqT K H) g.ps g.ts
  pm : PrmT g.n g.ts
  stt : sc = g.ta → ∀ H' : Hp, SqL K H' sc (scn.map V.int)
  mac : McAt K CM H g.m g.n g.ts
  s0 : 0 ≤ g.s
  s1 : g.s < (g.n : Int)
  td : ToldAt K H g.n g.ts g.s g.v
  od : g.d ∈ oddJ g.n
theorem E5.same {K : PySem.W.Frag} {CM : Addr} {Ts : List (Addr × Str)} {sc : Addr} {scn : List Int} {H H' : Hp} {g : Gl} (h : E5 K CM Ts sc scn g H) (e : Same H H') : E5 K CM Ts sc scn g H' where
  tabs := h.tabs.ext e
  hs := sqL_same e h.hs
  box := h.box.elim fun t q => ⟨t, e _ _ q⟩
  sb := h.sb
  tb := h.tb
  ta := e _ _ h.ta
  rows := h.rows.imp fun _ _ z => sqT_same e z
  pm := h.pm
  stt := h.stt
  mac := h.mac.same e
  s0 := h.s0
  s1 := h.s1
  td := h.td.imp fun _ _ z => sqT_same e z
  od := h.od
theorem E5.mv {K : PySem.W.Frag} {CM : Addr} {Ts : List (Addr × Str)} {sc : Addr} {scn : List Int} {H H' : Hp} {g : Gl} (h : E5 K CM Ts sc scn g H) (m : Mv g.b H H') : E5 K CM Ts sc scn g H' := by
  obtain ⟨t, hb⟩ := h.box
  exact {
    tabs := tabs_mv m hb h.tabs,
    hs := hs_mv m h.hs h.sb,
    box := m.2,
    sb := h.sb,
    tb := h.tb,
    ta := m.1 _ _ h.tb h.ta,
    rows := h.rows.imp fun _ _ z => m.sqT hb z,
    pm := h.pm,
    stt := h.stt,
    mac := m.mc hb h.mac,
    s0 := h.s0,
    s1 := h.s1,
    td := h.td.imp fun _ _ z => m.sqT hb z,
    od := h.od }
theorem E5.ext {K : PySem.W.Frag} {CM : Addr} {Ts : List (Addr × Str)} {sc : Addr} {scn : List Int} {H H' : Hp} {g : Gl} (h : E5 K CM Ts sc scn g H) (e : LamX.ExtN H H') (tb : LamX.Tabs Ts H') : E5 K CM Ts sc scn g H' where
  tabs := tb
  hs := ext_sqL e h.hs
  box := h.box.elim fun t q => ⟨t, ext_lst e q⟩
  sb := h.sb
  tb := h.tb
  ta := ext_lst e h.ta
  rows := h.rows.imp fun _ _ z => ext_sqT e z
  pm := h.pm
  stt := h.stt
  mac := ext_mc e h.mac
  s0 := h.s0
  s1 := h.s1
  td := h.td.imp fun _ _ z => ext_sqT e z
  od := h.od
section
variable {P : Program} {w : World} {K : PySem.W.Frag} {mg : Str → Option Value} {base : Heap} {f cc : Addr} {A : Around} {outer : List Env} {st : Shared} {H0 : Hp} {E : XK} {a : Ad} {CM cW : Addr} {Ts : List (Addr × Str)} {sc : Addr} {scn : List Int} {gH : Addr} {fdH : FuncData} {Pt : Addr}
theorem E3.prm {g : Gl} {H : Hp} (h : E3 K CM Ts sc scn g H) : Prm g.n g.ts g.s := ⟨h.pm.ok, h.s0, h.s1, h.pm.few⟩
theorem E4.e3 {g : Gl} {H : Hp} (j : E4 K CM Ts sc scn g H) : E3 K CM Ts sc scn g H := { tabs := j.tabs, hs := j.hs, box := j.box, sb := j.sb, tb := j.tb, ta := j.ta, rows := j.rows, pm := j.pm, stt := j.stt, mac := j.mac, s0 := j.s0, s1 := j.s1 }
theorem E5.e3 {g : Gl} {H : Hp} (j : E5 K CM Ts sc scn g H) : E3 K CM Ts sc scn g H := { tabs := j.tabs, hs := j.hs, box := j.box, sb := j.sb, tb := j.tb, ta := j.ta, rows := j.rows, pm := j.pm, stt := j.stt, mac := j.mac, s0 := j.s0, s1 := j.s1 }
/-- one table is put anew -/
theorem E2.put {g : Gl} {H : Hp} (h : E2 K CM Ts sc scn g H) {q : Addr} {t : List Int} {k : Nat} (hk : k < g.ts.length) (hq : SqT K H q (t.map V.int)) (l : t.length = g.n) (e : ∀ x ∈ t, 0 ≤ x ∧ x < (g.n : Int)) :
    E2 K CM Ts sc scn { g with ps := g.ps.set k (.ref q), ts := g.ts.set k t } (upd H g.ta (.lst (g.ps.set k (.ref q)))) := by
  have mem : ∀ {u : List Int}, u ∈ g.ts.set k t → u = t ∨ u ∈ g.ts := fun hu => by
    rcases List.mem_or_eq_of_mem_set hu with h | h
    · exact .inr h
    · exact .inl h
  obtain ⟨t0, hb⟩ := h.box
  refine ⟨tabs_put h.ta h.tabs, ?_, ⟨t0, by rw [upd_ne (Ne.symm h.tb)]; exact hb⟩, h.sb, h.tb, upd_same, ?_, ⟨⟨by rw [List.length_set]; exact h.pm.ok.l1, by rw [List.length_set]; exact h.pm.ok.l4, h.pm.ok.n1, h.pm.ok.n8, fun u hu => ?_, fun u hu => ?_⟩, by rw [List.length_set]; exact h.pm.few⟩, h.stt⟩
  · by_cases z : sc = g.ta
    · exact h.stt z _
    · rcases h.hs with (h1 | ⟨y, h1⟩) | h1
      · exact .inl (.inl (by rw [upd_ne z]; exact h1))
      · exact .inl (.inr ⟨y, by rw [upd_ne z]; exact h1⟩)
      · exact .inr h1
  · exact rows_set (sqT_lst h.ta hq) (h.rows.imp fun _ _ z => sqT_lst h.ta z)
  · rcases mem hu with rfl | hu
    · exact l
    · exact h.pm.ok.len u hu
  · rcases mem hu with rfl | hu
    · exact e
    · exact h.pm.ok.ent u hu
/-- a list of one's own is put anew -/
theorem E2.own {g : Gl} {H : Hp} (h : E2 K CM Ts sc scn g H) {A : Addr} {us vs : List V} (hA : H A = some (.lst us)) (Ab : A ≠ g.b) (At : A ≠ g.ta) (sA : sc = A → ∀ H' : Hp, SqL K H' sc (scn.map V.int)) : E2 K CM Ts sc scn g (upd H A (.lst vs)) := by
  obtain ⟨t0, hb⟩ := h.box
  refine ⟨tabs_put hA h.tabs, ?_, ⟨t0, by rw [upd_ne (Ne.symm Ab)]; exact hb⟩, h.sb, h.tb, by rw [upd_ne (Ne.symm At)]; exact h.ta, h.rows.imp fun _ _ z => sqT_lst hA z, h.pm, h.stt⟩
  by_cases z : sc = A
  · exact sA z _
  · rcases h.hs with (h1 | ⟨y, h1⟩) | h1
    · exact .inl (.inl (by rw [upd_ne z]; exact h1))
    · exact .inl (.inr ⟨y, by rw [upd_ne z]; exact h1⟩)
    · exact .inr h1
variable (Z : Lz P w K mg base f cc A outer st H0 E a CM cW Ts scn gH fdH Pt)
include Z
theorem q0 : HT (ι := Nat) (XL P w K mg base f cc A outer st H0 E) (nthS lawS 0) (fun k σ H => ∃ (x2 x3 x4 x5 x6 x7 x8 x9 x10 x11 : Option V), σ = [some (.ref sc), some (.int (k : Nat)), x2, x3, x4, x5, x6, x7, x8, x9, x10, x11, none, none] ∧ E0 K CM Ts sc scn H) (fun k σ H => ∃ (g : Gl) (x3 x4 x5 x6 x7 x8 x9 x10 x11 : Option V), σ = [some (.ref sc), some (.int (k : Nat)), some (.ref g.b), x3, x4, x5, x6, x7, x8, x9, x10, x11, none, none] ∧ E1 K CM Ts sc scn g H) := by
  obtain ⟨T, TM, M, F3, KF, O, lone, hr, hl, hf⟩ := Z
  refine ⟨_, (ps_set (i := 2) sclaw.nd rfl (by first | exact Or.inl rfl | exact Or.inr rfl) (pe_callC O.box hr pass0 (pa_cons (pv 0) (pa_cons (pv 1) pa_nil)))), ?_⟩
  rintro k D σ H ⟨x2, x3, x4, x5, x6, x7, x8, x9, x10, x11, rfl, j⟩ kk
  refine ⟨_, rfl, _, rfl, sc, scn, k, rfl, j.hs, hl, fun H1 b t e1 nb hb => ?_⟩
  have j1 := j.same e1
  exact kk _ _ ⟨⟨b, b, [], 0, [], b, 0, .non, .non⟩, _, _, _, _, _, _, _, _, _, rfl, { tabs := j1.tabs, hs := j1.hs, box := ⟨t, hb⟩, sb := sc_not j.hs nb }⟩
theorem q1 : HT (ι := Nat) (XL P w K mg base f cc A outer st H0 E) (nthS lawS 1) (fun k σ H => ∃ (g : Gl) (x3 x4 x5 x6 x7 x8 x9 x10 x11 : Option V), σ = [some (.ref sc), some (.int (k : Nat)), some (.ref g.b), x3, x4, x5, x6, x7, x8, x9, x10, x11, none, none] ∧ E1 K CM Ts sc scn g H) (fun k σ H => ∃ (g : Gl) (x4 x5 x6 x7 x8 x9 x10 x11 : Option V), σ = [some (.ref sc), some (.int (k : Nat)), some (.ref g.b), some (.ref g.ta), x4, x5, x6, x7, x8, x9, x10, x11, none, none] ∧ E2 K CM Ts sc scn g H) := by
  obtain ⟨T, TM, M, F3, KF, O, lone, hr, hl, hf⟩ := Z
  refine ⟨_, (ps_set (i := 3) sclaw.nd rfl (by first | exact Or.inl rfl | exact Or.inr rfl) (pe_callC O.tables hr pass0 (pa_cons (pv 2) (pa_cons pe_int pa_nil)))), ?_⟩
  rintro k D σ H ⟨g, x3, x4, x5, x6, x7, x8, x9, x10, x11, rfl, j⟩ kk
  obtain ⟨t, hb⟩ := j.box
  refine ⟨_, rfl, g.b, t, 5, rfl, hb, by decide, by decide, fun F us n ts H1 tbs ok l3 n6 => ?_⟩
  have j1 := j.mv tbs.mv
  exact kk _ _ ⟨{ g with ta := F, ps := us, n := n, ts := ts }, _, _, _, _, _, _, _, _, rfl, { tabs := j1.tabs, hs := j1.hs, box := j1.box, sb := j1.sb, tb := tbs.Fb, ta := tbs.hF, rows := tbs.rows, pm := ⟨ok, .inl ⟨n6, l3⟩⟩, stt := sc_not j.hs tbs.nF }⟩
theorem q2 : HT (ι := Nat) (XL P w K mg base f cc A outer st H0 E) (nthS lawS 2) (fun k σ H => ∃ (g : Gl) (x4 x5 x6 x7 x8 x9 x10 x11 : Option V), σ = [some (.ref sc), some (.int (k : Nat)), some (.ref g.b), some (.ref g.ta), x4, x5, x6, x7, x8, x9, x10, x11, none, none] ∧ E2 K CM Ts sc scn g H) (fun k σ H => ∃ (g : Gl) (x4 x5 x6 x7 x8 x9 x10 x11 : Option V), σ = [some (.ref sc), some (.int (k : Nat)), some (.ref g.b), some (.ref g.ta), x4, x5, x6, x7, x8, x9, x10, x11, none, none] ∧ E2 K CM Ts sc scn g H) := by
  obtain ⟨T, TM, M, F3, KF, O, lone, hr, hl, hf⟩ := Z
  refine ⟨_, (ps_if (PW.pt (pw_and (pt_cmpR op_gt (pe_callB call_len_seq (by rfl) T.z_len PySem.boot_len (pa_cons (pv 3) pa_nil)) pe_int (nomark _)) (pw_and1 (pt_cmpR op_eq (pe_callC O.take hr pass0 (pa_cons (pv 2) (pa_cons pe_int pa_nil))) pe_int (nomark _)))))
  (pss_cons (ps_set (i := 4) sclaw.nd rfl (by first | exact Or.inl rfl | exact Or.inr rfl) (pe_callC O.take hr pass0 (pa_cons (pv 2) (pa_cons (pe_callB call_len_seq (by rfl) T.z_len PySem.boot_len (pa_cons (pv 3) pa_nil)) pa_nil))))
  (pss_one (ps_asg (pe_tupRg rfl (by rfl) T.z_tuple (prg_1 (by rfl) T.z_range (pe_callB call_len_seq (by rfl) T.z_len PySem.boot_len (pa_cons (pe_ix ix_list (pv 3) pe_int (fun _ _ => rfl)) pa_nil)))) (pg_sub (pv 3) (pv 4) set_list))))
  pss_nil), ?_⟩
  rintro k D σ H ⟨g, x4, x5, x6, x7, x8, x9, x10, x11, rfl, j⟩ kk
  have l1 := j.pm.ok.l1
  have l4 := j.pm.ok.l4
  have n1 := j.pm.ok.n1
  have n8 := j.pm.ok.n8
  have lps := j.rows.length
  obtain ⟨t, hb⟩ := j.box
  refine ⟨_, rfl, g.ta, g.ps, rfl, .inl (SqL.of j.ta), _, _, rfl, rfl, _, rfl, ite2 (fun _ => ?_) (fun _ => kk _ _ ⟨g, _, _, _, _, _, _, _, _, rfl, j⟩)⟩
  refine ⟨_, rfl, g.b, t, 2, rfl, hb, by decide, by decide, fun x H1 x0 x1 m1 => ?_⟩
  have j1 := j.mv m1
  refine ⟨rfl, _, rfl, ite2 (fun _ => ?_) (fun _ => kk _ _ ⟨g, _, _, _, _, _, _, _, _, rfl, j1⟩)⟩
  obtain ⟨t1, hb1⟩ := j1.box
  refine ⟨_, rfl, _, rfl, g.ta, g.ps, rfl, .inl (SqL.of j1.ta), ?_⟩
  refine ⟨g.b, t1, _, rfl, hb1, by omega, by omega, fun y H2 y0 y1 m2 => ?_⟩
  have j2 := j1.mv m2
  obtain ⟨i, rfl⟩ : ∃ i : Nat, y = (i : Int) := ⟨y.toNat, by omega⟩
  obtain ⟨q0, p0, hq0⟩ := j2.rows.at_ (i := 0) (t := g.ts[0]) (List.getElem?_eq_getElem (by omega))
  have tl0 : g.ts[0].length = g.n := j.pm.ok.len _ (List.getElem_mem _)
  generalize g.ts[0] = tz at hq0 tl0
  refine ⟨_, rfl, g.ta, g.ps, _, _, rfl, rfl, SqL.of j2.ta, (show atI g.ps 0 = some (.ref q0) from atI_nat (j := 0) p0), q0, _, rfl, .inr hq0, ?_⟩
  rw [List.length_map, tl0]
  refine ⟨_, rfl, .of_le (by omega) (by omega) (by omega) (by omega), fun q hq => ?_⟩
  rw [rgV_rng]
  have e3 := same_new (o := HO.tup ((rng g.n).map V.int)) hq
  have u3 : SqT K (upd H2 q (HO.tup ((rng g.n).map V.int))) q ((rng g.n).map V.int) := SqT.of upd_same
  generalize upd H2 q (HO.tup ((rng g.n).map V.int)) = H3 at e3 u3 ⊢
  have j3 := j2.same e3
  refine ⟨_, rfl, _, rfl, g.ta, _, _, i, rfl, rfl, j3.ta, ixN_at (by omega), ?_⟩
  exact kk _ _ ⟨{ g with ps := g.ps.set i (.ref q), ts := g.ts.set i (rng g.n) }, _, _, _, _, _, _, _, _, rfl, j3.put (by omega) u3 rng_len fun x hx => mem_rng.mp hx⟩
theorem q3 : HT (ι := Nat) (XL P w K mg base f cc A outer st H0 E) (nthS lawS 3) (fun k σ H => ∃ (g : Gl) (x4 x5 x6 x7 x8 x9 x10 x11 : Option V), σ = [some (.ref sc), some (.int (k : Nat)), some (.ref g.b), some (.ref g.ta), x4, x5, x6, x7, x8, x9, x10, x11, none, none] ∧ E2 K CM Ts sc scn g H) (fun k σ H => ∃ (g : Gl) (x4 x5 x6 x7 x8 x9 x10 x11 : Option V), σ = [some (.ref sc), some (.int (k : Nat)), some (.ref g.b), some (.ref g.ta), x4, x5, x6, x7, x8, x9, x10, x11, none, none] ∧ E2 K CM Ts sc scn g H) := by
  obtain ⟨T, TM, M, F3, KF, O, lone, hr, hl, hf⟩ := Z
  refine ⟨_, (ps_if (pt_cmpR op_eq (pe_callC O.take hr pass0 (pa_cons (pv 2) (pa_cons pe_int pa_nil))) pe_int (nomark _))
  (pss_cons (ps_set (i := 4) sclaw.nd rfl (by first | exact Or.inl rfl | exact Or.inr rfl) (pe_callC O.take hr pass0 (pa_cons (pv 2) (pa_cons (pe_callB call_len_seq (by rfl) T.z_len PySem.boot_len (pa_cons (pv 3) pa_nil)) pa_nil))))
  (pss_cons (ps_set (i := 5) sclaw.nd rfl (by first | exact Or.inl rfl | exact Or.inr rfl) (pe_callTy call_list_of (by rfl) T.z_list (by decide +kernel) (pa_cons (pe_ix ix_list (pv 3) (pv 4) (fun _ _ => rfl)) pa_nil)))
  (pss_cons (ps_par (i := 6) (j := 7) (by rfl) sclaw.nd rfl rfl (by decide) rfl rfl (pa_cons (pe_callC O.take hr pass0 (pa_cons (pv 2) (pa_cons (pe_callB call_len_seq (by rfl) T.z_len PySem.boot_len (pa_cons (pv 5) pa_nil)) pa_nil))) (pa_cons (pe_callC O.take hr pass0 (pa_cons (pv 2) (pa_cons (pe_callB call_len_seq (by rfl) T.z_len PySem.boot_len (pa_cons (pv 5) pa_nil)) pa_nil))) pa_nil)) (by rfl))
  (pss_cons (ps_asg (pv 7) (pg_sub (pv 5) (pv 6) set_list))
  (pss_one (ps_asg (pe_callTy (call_tupleK (K := K)) (by rfl) T.z_tuple (by decide +kernel) (pa_cons (pv 5) pa_nil)) (pg_sub (pv 3) (pv 4) set_list)))))))
  pss_nil), ?_⟩
  rintro k D σ H ⟨g, x4, x5, x6, x7, x8, x9, x10, x11, rfl, j⟩ kk
  have l1 := j.pm.ok.l1
  have l4 := j.pm.ok.l4
  have n1 := j.pm.ok.n1
  have n8 := j.pm.ok.n8
  have lps := j.rows.length
  obtain ⟨t, hb⟩ := j.box
  refine ⟨_, rfl, g.b, t, 4, rfl, hb, by decide, by decide, fun x H1 x0 x1 m1 => ?_⟩
  have j1 := j.mv m1
  refine ⟨rfl, _, rfl, ite2 (fun _ => ?_) (fun _ => kk _ _ ⟨g, _, _, _, _, _, _, _, _, rfl, j1⟩)⟩
  obtain ⟨t1, hb1⟩ := j1.box
  refine ⟨_, rfl, _, rfl, g.ta, g.ps, rfl, .inl (SqL.of j1.ta), ?_⟩
  refine ⟨g.b, t1, _, rfl, hb1, by omega, by omega, fun y H2 y0 y1 m2 => ?_⟩
  have j2 := j1.mv m2
  obtain ⟨i, rfl⟩ : ∃ i : Nat, y = (i : Int) := ⟨y.toNat, by omega⟩
  have hi : i < g.ts.length := by omega
  obtain ⟨qi, gi, hqi⟩ := j2.rows.at_ (i := i) (t := g.ts[i]) (List.getElem?_eq_getElem hi)
  have tl := j.pm.ok.len _ (List.getElem_mem hi)
  have te := j.pm.ok.ent _ (List.getElem_mem hi)
  generalize g.ts[i] = tI at hqi tl te
  refine ⟨_, rfl, _, rfl, g.ta, g.ps, _, _, rfl, rfl, SqL.of j2.ta, atI_nat gi, ?_⟩
  refine ⟨qi, _, rfl, .inr hqi, fun A hA => ?_⟩
  have e3 := same_new (o := HO.lst (tI.map V.int)) hA
  have u3 : upd H2 A (HO.lst (tI.map V.int)) A = some (.lst (tI.map V.int)) := upd_same
  generalize upd H2 A (HO.lst (tI.map V.int)) = H3 at e3 u3 ⊢
  have j3 := j2.same e3
  obtain ⟨t3, hb3⟩ := j3.box
  have Ab : A ≠ g.b := fun z => by rw [z, m2.2.choose_spec] at hA; cases hA
  have At : A ≠ g.ta := fun z => by rw [z, j2.ta] at hA; cases hA
  refine ⟨_, rfl, _, rfl, A, _, rfl, .inl (SqL.of u3), ?_⟩
  rw [List.length_map, tl]
  refine ⟨g.b, t3, _, rfl, hb3, by omega, by omega, fun z H4 z0 z1 m4 => ?_⟩
  have j4 := j3.mv m4
  have u4 := m4.1 _ _ Ab u3
  obtain ⟨t4, hb4⟩ := j4.box
  refine ⟨_, rfl, _, rfl, A, _, rfl, .inl (SqL.of u4), ?_⟩
  rw [List.length_map, tl]
  refine ⟨g.b, t4, _, rfl, hb4, by omega, by omega, fun w H5 w0 w1 m5 => ?_⟩
  have j5 := j4.mv m5
  have u5 := m5.1 _ _ Ab u4
  obtain ⟨u, rfl⟩ : ∃ i : Nat, z = (i : Int) := ⟨z.toNat, by omega⟩
  refine ⟨_, _, rfl, ?_⟩
  refine ⟨_, rfl, _, rfl, _, rfl, A, _, _, u, rfl, rfl, u5, ixN_at (by rw [List.length_map]; omega), ?_⟩
  have e6 : (tI.map V.int).set u (V.int w) = (tI.set u w).map V.int := by rw [List.map_set]
  rw [e6]
  have j6 := j5.own (A := A) (vs := (tI.set u w).map V.int) u5 Ab At (sc_not j2.hs hA)
  have u6 : upd H5 A (HO.lst ((tI.set u w).map V.int)) A = some (.lst ((tI.set u w).map V.int)) := upd_same
  generalize upd H5 A (HO.lst ((tI.set u w).map V.int)) = H6 at j6 u6 ⊢
  refine ⟨_, rfl, A, _, rfl, .inl ⟨SqL.of u6, fun q hq => ?_⟩⟩
  have e7 := same_new (o := HO.tup ((tI.set u w).map V.int)) hq
  have u7 : SqT K (upd H6 q (HO.tup ((tI.set u w).map V.int))) q ((tI.set u w).map V.int) := SqT.of upd_same
  generalize upd H6 q (HO.tup ((tI.set u w).map V.int)) = H7 at e7 u7 ⊢
  have j7 := j6.same e7
  refine ⟨_, rfl, _, rfl, g.ta, _, _, i, rfl, rfl, j7.ta, ixN_at (by omega), ?_⟩
  have en : ∀ x ∈ tI.set u w, 0 ≤ x ∧ x < (g.n : Int) := fun x hx => by
    rcases List.mem_or_eq_of_mem_set hx with hx | rfl
    · exact te x hx
    · exact ⟨w0, w1⟩
  exact kk _ _ ⟨{ g with ps := g.ps.set i (.ref q), ts := g.ts.set i (tI.set u w) }, _, _, _, _, _, _, _, _, rfl, j7.put hi u7 (by rw [List.length_set]; exact tl) en⟩
theorem q4 : HT (ι := Nat) (XL P w K mg base f cc A outer st H0 E) (nthS lawS 4) (fun k σ H => ∃ (g : Gl) (x4 x5 x6 x7 x8 x9 x10 x11 : Option V), σ = [some (.ref sc), some (.int (k : Nat)), some (.ref g.b), some (.ref g.ta), x4, x5, x6, x7, x8, x9, x10, x11, none, none] ∧ E2 K CM Ts sc scn g H) (fun k σ H => ∃ (g : Gl) (x4 x5 x6 x7 x8 x9 x10 x11 : Option V), σ = [some (.ref sc), some (.int (k : Nat)), some (.ref g.b), some (.ref g.ta), x4, x5, x6, x7, x8, x9, x10, x11, none, none] ∧ E2 K CM Ts sc scn g H) := by
  obtain ⟨T, TM, M, F3, KF, O, lone, hr, hl, hf⟩ := Z
  refine ⟨_, (ps_if (pt_cmpR op_eq (pe_callC O.take hr pass0 (pa_cons (pv 2) (pa_cons pe_int pa_nil))) pe_int (nomark _))
  (pss_one (ps_set (i := 3) sclaw.nd rfl (by first | exact Or.inl rfl | exact Or.inr rfl) (pe_slice sl_list (pe_lst (pa_cons (pe_tup (pa_cons pe_int (pa_cons pe_int (pa_cons pe_int (pa_cons pe_int (pa_cons pe_int (pa_cons pe_int (pa_cons pe_int (pa_cons pe_int pa_nil))))))))) (pa_cons (pe_tupRg rfl (by rfl) T.z_tuple (prg_1 (by rfl) T.z_range pe_int)) pa_nil))) po_none (po_some (pe_op op_add pe_int (pe_callC O.take hr pass0 (pa_cons (pv 2) (pa_cons pe_int pa_nil))))))))
  pss_nil), ?_⟩
  rintro k D σ H ⟨g, x4, x5, x6, x7, x8, x9, x10, x11, rfl, j⟩ kk
  obtain ⟨t, hb⟩ := j.box
  refine ⟨_, rfl, g.b, t, 6, rfl, hb, by decide, by decide, fun x H1 x0 x1 m1 => ?_⟩
  have j1 := j.mv m1
  refine ⟨rfl, _, rfl, ite2 (fun _ => ?_) (fun _ => kk _ _ ⟨g, _, _, _, _, _, _, _, _, rfl, j1⟩)⟩
  obtain ⟨t1, hb1⟩ := j1.box
  refine ⟨(by show 8 ≤ sizeLine; decide), fun p0 hp0 => ?_⟩
  have e2 := same_new (o := HO.tup [V.int 1, .int 2, .int 3, .int 4, .int 5, .int 6, .int 7, .int 7]) hp0
  have u2 : SqT K (upd H1 p0 (HO.tup [V.int 1, .int 2, .int 3, .int 4, .int 5, .int 6, .int 7, .int 7])) p0 (([1, 2, 3, 4, 5, 6, 7, 7] : List Int).map V.int) := SqT.of upd_same
  generalize upd H1 p0 (HO.tup [V.int 1, .int 2, .int 3, .int 4, .int 5, .int 6, .int 7, .int 7]) = H2 at e2 u2 ⊢
  refine ⟨_, rfl, .of_le (by decide) (by decide) (by decide) (by decide), fun p1 hp1 => ?_⟩
  have e3 := same_new (o := HO.tup (rgV 0 8)) hp1
  have u3 : SqT K (upd H2 p1 (HO.tup (rgV 0 8))) p1 ((rng 8).map V.int) := by rw [← rgV_rng]; exact SqT.of upd_same
  generalize upd H2 p1 (HO.tup (rgV 0 8)) = H3 at e3 u3 ⊢
  refine ⟨(by show 2 ≤ sizeLine; decide), fun l hl => ?_⟩
  have e4 := same_new (o := HO.lst [V.ref p0, .ref p1]) hl
  have u4 : SqL K (upd H3 l (HO.lst [V.ref p0, .ref p1])) l [V.ref p0, .ref p1] := SqL.of upd_same
  generalize upd H3 l (HO.lst [V.ref p0, .ref p1]) = H4 at e4 u4 ⊢
  have j4 := ((j1.same e2).same e3).same e4
  obtain ⟨t4, hb4⟩ := j4.box
  have lb : l ≠ g.b := fun z => by
    have := e3 _ _ (e2 _ _ hb1)
    rw [← z, show H3 l = none from hl] at this
    cases this
  refine ⟨_, rfl, g.b, t4, 2, rfl, hb4, by decide, by decide, fun y H5 y0 y1 m5 => ?_⟩
  refine ⟨_, _, rfl, rfl, ?_⟩
  have j5 := j4.mv m5
  have u5 := m5.sqL lb u4
  have w0 := m5.sqT hb4 (sqT_same (e3.trans e4) u2)
  have w1 := m5.sqT hb4 (sqT_same e4 u3)
  have lnn : ∀ {r : Addr} {vs : List V} {ts : List (List Int)}, H5 r = none → vs.length ≤ 2 → RowsBy (SqT K H5) vs ts → PrmT 8 ts → D.nx ([some (.ref sc), some (.int (k : Nat)), some (.ref g.b), some (.ref g.ta), x4, x5, x6, x7, x8, x9, x10, x11, none, none].set 3 (some (.ref r))) (upd H5 r (.lst vs)) := fun {r vs ts} hr lv rw pm => by
    have e6 := same_new (o := HO.lst vs) hr
    have j6 := j5.same e6
    obtain ⟨t5, hb5⟩ := j5.box
    have rb : r ≠ g.b := fun z => by rw [z, hb5] at hr; cases hr
    exact kk _ _ ⟨{ g with ta := r, ps := vs, n := 8, ts := ts }, _, _, _, _, _, _, _, _, rfl, { tabs := j6.tabs, hs := j6.hs, box := j6.box, sb := j6.sb, tb := rb, ta := upd_same, rows := rw.imp fun _ _ z => sqT_same e6 z, pm := pm, stt := sc_not j5.hs hr }⟩
  refine ⟨_, rfl, l, _, rfl, u5, fun r hr => ?_⟩
  have yy : y = 0 ∨ y = 1 := by omega
  rcases yy with rfl | rfl
  · exact lnn (vs := [V.ref p0]) (ts := [[1, 2, 3, 4, 5, 6, 7, 7]]) hr (by simp) ⟨⟨p0, rfl, w0⟩, trivial⟩ ⟨⟨by decide, by decide, by decide, by decide, by decide, by decide⟩, .inr (by decide)⟩
  · exact lnn (vs := [V.ref p0, .ref p1]) (ts := [[1, 2, 3, 4, 5, 6, 7, 7], rng 8]) hr (by simp) ⟨⟨p0, rfl, w0⟩, ⟨p1, rfl, w1⟩, trivial⟩ ⟨⟨by decide, by decide, by decide, by decide, by decide, by decide⟩, .inr (by decide)⟩
end
end KJ
/-! the law: what is told -/
namespace KJ
open L2 PySem PySem.Spec PyProof.Rows Kx RZ TL
section
variable {P : Program} {w : World} {K : PySem.W.Frag} {mg : Str → Option Value} {base : Heap} {f cc : Addr} {A : Around} {outer : List Env} {st : Shared} {H0 : Hp} {E : XK} {a : Ad} {CM cW : Addr} {Ts : List (Addr × Str)} {sc : Addr} {scn : List Int} {gH : Addr} {fdH : FuncData} {Pt : Addr}
variable (Z : Lz P w K mg base f cc A outer st H0 E a CM cW Ts scn gH fdH Pt)
include Z
theorem q5 : HT (ι := Nat) (XL P w K mg base f cc A outer st H0 E) (nthS lawS 5) (fun k σ H => ∃ (g : Gl) (x4 x5 x6 x7 x8 x9 x10 x11 : Option V), σ = [some (.ref sc), some (.int (k : Nat)), some (.ref g.b), some (.ref g.ta), x4, x5, x6, x7, x8, x9, x10, x11, none, none] ∧ E2 K CM Ts sc scn g H) (fun k σ H => ∃ (g : Gl) (x4 x5 x6 x7 x10 x11 : Option V), σ = [some (.ref sc), some (.int (k : Nat)), some (.ref g.b), some (.ref g.ta), x4, x5, x6, x7, some (.ref g.m), some (.int g.s), x10, x11, none, none] ∧ E3 K CM Ts sc scn g H) := by
  obtain ⟨T, TM, M, F3, KF, O, lone, hr, hl, hf⟩ := Z
  refine ⟨_, (ps_asg (pe_tup (pa_cons (pe_mac (K := K) M TM hr pzN (pa_cons (pv 3) pa_nil)) (pa_cons (pe_callC O.take hr pass0 (pa_cons (pv 2) (pa_cons (pe_callB call_len_seq (by rfl) T.z_len PySem.boot_len (pa_cons (pe_ix ix_list (pv 3) pe_int (fun _ _ => rfl)) pa_nil)) pa_nil))) pa_nil))) (pg_tup rfl (pgs_cons (pg_name (i := 8) sclaw.nd rfl (by first | exact Or.inl rfl | exact Or.inr rfl)) (pgs_cons (pg_name (i := 9) sclaw.nd rfl (by first | exact Or.inl rfl | exact Or.inr rfl)) pgs_nil)))), ?_⟩
  rintro k D σ H ⟨g, x4, x5, x6, x7, x8, x9, x10, x11, rfl, j⟩ kk
  have l1 := j.pm.ok.l1
  have n1 := j.pm.ok.n1
  have n8 := j.pm.ok.n8
  obtain ⟨q0, p0, hq0⟩ := j.rows.at_ (i := 0) (t := g.ts[0]) (List.getElem?_eq_getElem (by omega))
  have tl0 : g.ts[0].length = g.n := j.pm.ok.len _ (List.getElem_mem _)
  generalize g.ts[0] = tz at hq0 tl0
  refine ⟨_, rfl, ?_⟩
  refine fun x dy hx hdy ne => mc_make j.pm.ok (.inl (SqL.of j.ta)) (j.rows.imp fun _ _ z => .inr z) hx hdy ne fun H1 e1 mcA => ?_
  have j1 := j.same e1
  obtain ⟨t, hb⟩ := j1.box
  refine ⟨_, rfl, _, rfl, g.ta, g.ps, _, _, rfl, rfl, SqL.of j1.ta, (show atI g.ps 0 = some (.ref q0) from atI_nat (j := 0) p0), q0, _, rfl, .inr (sqT_same e1 hq0), ?_⟩
  rw [List.length_map, tl0]
  refine ⟨g.b, t, g.n, rfl, hb, by omega, by omega, fun s H2 s0 s1 m2 => ?_⟩
  have j2 := j1.mv m2
  refine ⟨(by show 2 ≤ sizeLine; decide), fun p hp => ?_⟩
  have e3 := same_new (o := HO.tup [V.ref x, V.int s]) hp
  refine ⟨p, _, rfl, SqT.of upd_same, rfl, _, _, rfl, _, _, rfl, rfl, ?_⟩
  exact kk _ _ ⟨{ g with m := x, s := s }, _, _, _, _, _, _, rfl, { tabs := (j2.same e3).tabs, hs := (j2.same e3).hs, box := (j2.same e3).box, sb := (j2.same e3).sb, tb := (j2.same e3).tb, ta := (j2.same e3).ta, rows := (j2.same e3).rows, pm := (j2.same e3).pm, stt := (j2.same e3).stt, mac := (m2.mc hb mcA).same e3, s0 := s0, s1 := s1 }⟩
theorem q6 : HT (ι := Nat) (XL P w K mg base f cc A outer st H0 E) (nthS lawS 6) (fun k σ H => ∃ (g : Gl) (x4 x5 x6 x7 x10 x11 : Option V), σ = [some (.ref sc), some (.int (k : Nat)), some (.ref g.b), some (.ref g.ta), x4, x5, x6, x7, some (.ref g.m), some (.int g.s), x10, x11, none, none] ∧ E3 K CM Ts sc scn g H) (fun k σ H => ∃ (g : Gl) (x4 x5 x6 x7 x11 : Option V), σ = [some (.ref sc), some (.int (k : Nat)), some (.ref g.b), some (.ref g.ta), x4, x5, x6, x7, some (.ref g.m), some (.int g.s), some g.v, x11, none, none] ∧ E4 K CM Ts sc scn g H) := by
  obtain ⟨T, TM, M, F3, KF, O, lone, hr, hl, hf⟩ := Z
  refine ⟨_, (ps_set (i := 10) sclaw.nd rfl (by first | exact Or.inl rfl | exact Or.inr rfl) (pe_callC F3 hr pzN (pa_cons (pv 8) (pa_cons (pv 9) pa_nil)))), ?_⟩
  rintro k D σ H ⟨g, x4, x5, x6, x7, x10, x11, rfl, j⟩ kk
  generalize hsp : spLeastA K a CM = sp0
  refine ⟨_, rfl, _, rfl, ?_⟩
  by_cases C : Cm (Rch g.ts g.s) g.ts
  · refine least_told hsp j.mac j.s0 j.s1 C fun u rs es H1 e1 la => ?_
    have j1 := j.same e1
    exact kk _ _ ⟨{ g with v := .ref u }, _, _, _, _, _, rfl, { tabs := j1.tabs, hs := j1.hs, box := j1.box, sb := j1.sb, tb := j1.tb, ta := j1.ta, rows := j1.rows, pm := j1.pm, stt := j1.stt, mac := j1.mac, s0 := j1.s0, s1 := j1.s1, td := .inr ⟨C, u, rs, es, rfl, la⟩ }⟩
  · refine least_none hsp j.mac j.s0 j.s1 C fun H1 e1 => ?_
    have j1 := j.same e1
    exact kk _ _ ⟨{ g with v := .non }, _, _, _, _, _, rfl, { tabs := j1.tabs, hs := j1.hs, box := j1.box, sb := j1.sb, tb := j1.tb, ta := j1.ta, rows := j1.rows, pm := j1.pm, stt := j1.stt, mac := j1.mac, s0 := j1.s0, s1 := j1.s1, td := .inl ⟨C, rfl⟩ }⟩
theorem q7 : HT (ι := Nat) (XL P w K mg base f cc A outer st H0 E) (nthS lawS 7) (fun k σ H => ∃ (g : Gl) (x4 x5 x6 x7 x11 : Option V), σ = [some (.ref sc), some (.int (k : Nat)), some (.ref g.b), some (.ref g.ta), x4, x5, x6, x7, some (.ref g.m), some (.int g.s), some g.v, x11, none, none] ∧ E4 K CM Ts sc scn g H) (fun k σ H => ∃ (g : Gl) (x4 x5 x6 x7 x11 : Option V), σ = [some (.ref sc), some (.int (k : Nat)), some (.ref g.b), some (.ref g.ta), x4, x5, x6, x7, some (.ref g.m), some (.int g.s), some g.v, x11, none, none] ∧ E4 K CM Ts sc scn g H) := by
  obtain ⟨T, TM, M, F3, KF, O, lone, hr, hl, hf⟩ := Z
  have cs : CallR (XL P w K mg base f cc A outer st H0 E) (.builtin "repr") (rShow K) := call_show lone (r64 hr)
  refine ⟨_, (ps_if (PW.pt (pw_or (pt_cmpR op_ne (pe_cmpR op_notN (pv 10) pe_non (nomark _)) (pe_callC O.commute hr pass0 (pa_cons (pv 3) (pa_cons (pv 9) pa_nil))) (nomark _)) (pw_or1 (pt_cmpR op_ne (pe_callB cs (by rfl) T.z_repr (by decide +kernel) (pa_cons (pe_callN0 KF hr pzN (pk_cons (pv 9) (pk_cons (pv 8) pk_nil))) pa_nil)) (pe_callB cs (by rfl) T.z_repr (by decide +kernel) (pa_cons (pv 10) pa_nil)) (nomark _)))))
  (pss_one (ps_ret pe_bl))
  pss_nil), ?_⟩
  rintro k D σ H ⟨g, x4, x5, x6, x7, x11, rfl, j⟩ kk
  have P := j.e3.prm
  have n8 := j.pm.ok.n8
  have l4 := j.pm.ok.l4
  have l15 : len8 g.n ≤ 15 := by unfold len8; split <;> (try split) <;> omega
  generalize hsp : spLeastA K a CM = sp0
  rcases j.td with ⟨C, ev⟩ | ⟨C, u, rs, es, ev, la⟩
  · rw [ev]
    refine ⟨_, rfl, rfl, ?_⟩
    refine ⟨_, rfl, _, rfl, g.ta, g.ps, g.n, g.ts, g.s, rfl, ⟨SqL.of j.ta, j.rows, j.pm.ok, j.s0, j.s1⟩, fun b H1 e1 iff => ?_⟩
    have hb0 : b = false := by
      cases b with
      | false => rfl
      | true => exact absurd (iff.mp rfl) C
    subst hb0
    have j1 := j.same e1
    refine ⟨rfl, _, rfl, iteF ?_⟩
    refine ⟨_, rfl, _, rfl, rfl, rfl, ?_⟩
    refine least_none hsp j1.mac j.s0 j.s1 C fun H2 e2 => ?_
    have j2 := j1.same e2
    have od := okD_non
    refine ⟨_, _, rfl, .non, od.sh, od.nd, od60 od, odLine od, ?_⟩
    refine ⟨_, rfl, _, _, rfl, .non, od.sh, od.nd, od60 od, odLine od, ?_⟩
    exact ⟨rfl, _, rfl, ite2 (fun h => absurd h (by simp)) (fun _ => kk _ _ ⟨g, _, _, _, _, _, (by rw [ev]), j2⟩)⟩
  · rw [ev]
    have td := la.told
    have od : OkD 2 100000 (dTwo rs es) := okD_two (fun r hr => by have := td.r8 r hr; omega) (by rw [td.lr]; omega) (fun e he => by have := td.e8 e he; omega) (by rw [td.le]; omega)
    refine ⟨_, rfl, rfl, ?_⟩
    refine ⟨_, rfl, _, rfl, g.ta, g.ps, g.n, g.ts, g.s, rfl, ⟨SqL.of j.ta, j.rows, j.pm.ok, j.s0, j.s1⟩, fun b H1 e1 iff => ?_⟩
    have hb0 : b = true := iff.mpr C
    subst hb0
    have j1 := j.same e1
    refine ⟨rfl, _, rfl, iteF ?_⟩
    refine ⟨_, rfl, _, rfl, rfl, rfl, ?_⟩
    refine least_told hsp j1.mac j.s0 j.s1 C fun u2 rs2 es2 H2 e2 la2 => ?_
    have j2 := j1.same e2
    obtain ⟨h1, h2⟩ := td.one la2.told
    subst h1 h2
    have lb := (la.same e1).same e2
    refine ⟨_, _, rfl, la2.dp, od.sh, od.nd, od60 od, odLine od, ?_⟩
    refine ⟨_, rfl, _, _, rfl, lb.dp, od.sh, od.nd, od60 od, odLine od, ?_⟩
    exact ⟨rfl, _, rfl, ite2 (fun h => absurd h (by simp)) (fun _ => kk _ _ ⟨g, _, _, _, _, _, (by rw [ev]), j2⟩)⟩
theorem q8 : HT (ι := Nat) (XL P w K mg base f cc A outer st H0 E) (nthS lawS 8) (fun k σ H => ∃ (g : Gl) (x4 x5 x6 x7 x11 : Option V), σ = [some (.ref sc), some (.int (k : Nat)), some (.ref g.b), some (.ref g.ta), x4, x5, x6, x7, some (.ref g.m), some (.int g.s), some g.v, x11, none, none] ∧ E4 K CM Ts sc scn g H) (fun k σ H => ∃ (g : Gl) (x4 x5 x6 x7 x11 : Option V), σ = [some (.ref sc), some (.int (k : Nat)), some (.ref g.b), some (.ref g.ta), x4, x5, x6, x7, some (.ref g.m), some (.int g.s), some g.v, x11, none, none] ∧ E4 K CM Ts sc scn g H) := by
  obtain ⟨T, TM, M, F3, KF, O, lone, hr, hl, hf⟩ := Z
  refine ⟨_, (ps_if (pt_cmpR op_notN (pv 10) pe_non (nomark _)) (pss_cons (ps_mid (ps_if (PW.pt (pw_or (pt_not (pt_val (pe_callB (call_isiK (K := K)) (by rfl) T.z_isinstance (by decide +kernel) (pa_cons (pv 10) (pa_cons (pe_ty T.z_tuple bt_tuple) pa_nil))))) (pw_or (pt_cmpR op_ne (pe_callB call_len_seq (by rfl) T.z_len PySem.boot_len (pa_cons (pv 10) pa_nil)) pe_int (nomark _)) (pw_or1 (pt_not (pt_val (pe_callB (call_allL (by rfl)) (by rfl) T.z_all (by decide +kernel) (pa_cons (pe_lc (own := [("row", 12)]) (by rfl) sclaw.nd (pi_tup (pv 10)) (blkOk_by (own := [("row", 12)]) (N := ["script", "k", "box", "tables", "at", "bent", "state", "there", "machine", "first", "told", "odd", "row", "number"]) (sc := defScope s_law) (by decide +kernel)) (fun _ _ _ _ _ => (pg_name (i := 12) sclaw.nd rfl (by first | exact Or.inl rfl | exact Or.inr rfl))) (fun _ _ _ _ _ => pts_nil) (fun _ _ _ _ _ => (pe_and (pe_callB (call_isiK (K := K)) (by rfl) T.z_isinstance (by decide +kernel) (pa_cons (pv 12) (pa_cons (pe_ty T.z_tuple bt_tuple) pa_nil))) (pe_one (pe_cmpR op_eq (pe_callB (call_lenK (K := K)) (by rfl) T.z_len PySem.boot_len (pa_cons (pv 12) pa_nil)) (pe_callB (call_lenK (K := K)) (by rfl) T.z_len PySem.boot_len (pa_cons (pv 3) pa_nil)) (nomark _)))))) pa_nil))))))))
  (pss_one (ps_ret pe_bl))
  pss_nil)) (pss_cons (ps_mid (ps_if (pt_not (pt_val (pe_callB (call_allL (by rfl)) (by rfl) T.z_all (by decide +kernel) (pa_cons (pe_lc (own := [("number", 13)]) (by rfl) sclaw.nd (pi_tup (pe_op (op_catU (K := K)) (pe_ix (ix_tupK (K := K)) (pv 10) pe_int (fun _ _ => rfl)) (pe_ix (ix_tupK (K := K)) (pv 10) pe_int (fun _ _ => rfl)))) (blkOk_by (own := [("number", 13)]) (N := ["script", "k", "box", "tables", "at", "bent", "state", "there", "machine", "first", "told", "odd", "row", "number"]) (sc := defScope s_law) (by decide +kernel)) (fun _ _ _ _ _ => (pg_name (i := 13) sclaw.nd rfl (by first | exact Or.inl rfl | exact Or.inr rfl))) (fun _ _ _ _ _ => pts_nil) (fun _ _ _ _ _ => (pe_and (pe_callB (call_isiK (K := K)) (by rfl) T.z_isinstance (by decide +kernel) (pa_cons (pv 13) (pa_cons (pe_ty T.z_int bt_int) pa_nil))) (pe_and (pe_not (pe_callB (call_isiK (K := K)) (by rfl) T.z_isinstance (by decide +kernel) (pa_cons (pv 13) (pa_cons (pe_ty T.z_bool bt_bool) pa_nil)))) (pe_one (pe_cmpR op_ge (pv 13) pe_int (nomark _))))))) pa_nil))))
  (pss_one (ps_ret pe_bl))
  pss_nil)) (pss_one (ps_if (PW.pt (pw_or (pt_cmpR op_lt (pe_callB (cr_minT (by rfl) (r64 hr)) (by rfl) T.z_min (by decide +kernel) (pa_cons (pe_ix (ix_tupK (K := K)) (pv 10) pe_int (fun _ _ => rfl)) pa_nil)) pe_int (nomark _)) (pw_or1 (pt_not (pt_val (pe_callC O.least hr pass0 (pa_cons (pv 2) (pa_cons (pv 3) (pa_cons (pv 9) (pa_cons (pe_ix (ix_tupK (K := K)) (pv 10) pe_int (fun _ _ => rfl)) (pa_cons (pe_ix (ix_tupK (K := K)) (pv 10) pe_int (fun _ _ => rfl)) pa_nil)))))))))))
  (pss_one (ps_ret pe_bl))
  pss_nil)))) pss_nil), ?_⟩
  rintro k D σ H ⟨g, x4, x5, x6, x7, x11, rfl, j⟩ kk
  have P := j.e3.prm
  have n8 := j.pm.ok.n8
  have l1 := j.pm.ok.l1
  have l4 := j.pm.ok.l4
  rcases j.td with ⟨C, ev⟩ | ⟨C, u, rs, es, ev, la⟩
  · rw [ev]
    exact ⟨_, rfl, rfl, _, rfl, iteF (kk _ _ ⟨g, _, _, _, _, _, (by rw [ev]), j⟩)⟩
  · rw [ev]
    have td := la.told
    have lps := j.rows.length
    obtain ⟨p, q, hu, hp, hq⟩ := la.at_
    refine ⟨_, rfl, rfl, _, rfl, iteT ?_⟩
    refine ⟨fun σ' H' => σ' = [some (.ref sc), some (.int (k : Nat)), some (.ref g.b), some (.ref g.ta), x4, x5, x6, x7, some (.ref g.m), some (.int g.s), some (.ref u), x11, none, none] ∧ Same H H', ?_, ?_⟩
    · refine ⟨_, rfl, _, .ty "tuple", _, _, true, rfl, .ty _, tyx_tuple hu, kit_ty (by decide +kernel), true, rfl, iteF ?_⟩
      refine ⟨_, rfl, u, _, rfl, .inr hu, rfl, _, rfl, ite2 (fun h => absurd h (by simp)) (fun _ => ?_)⟩
      refine ⟨_, rfl, u, rfl, ⟨_, hu⟩, fun D0 hD => ?_⟩
      refine lc_tup (xs := [V.ref p, .ref q]) (fun i H' => Same H H' ∧ ∃ bs : List Bool, H' D0 = some (.lst (bs.map V.bl)) ∧ bs.length = i ∧ bs.all id = true) ⟨same_new hD, [], upd_same, rfl, rfl⟩ (fun i H' _ z => sqT_same z.1 hu) ?_ ?_
      · rintro i v H2 hv ⟨e2, bs, h2, lb, ab⟩
        have two : ∃ (r : Addr) (zs : List V), v = .ref r ∧ SqT K H2 r zs ∧ zs.length = g.ts.length := by
          match i, hv with
          | 0, hv =>
            cases Option.some.inj hv
            exact ⟨p, _, rfl, sqT_same e2 hp, by rw [List.length_map]; exact td.lr⟩
          | 1, hv =>
            cases Option.some.inj hv
            exact ⟨q, _, rfl, sqT_same e2 hq, by rw [List.length_map]; exact td.le⟩
          | i + 2, hv => cases hv
        have il : i < 2 := (List.getElem?_eq_some_iff.mp hv).1
        obtain ⟨r, zs, rfl, hr2, lz⟩ := two
        refine ⟨rfl, yes ((if_pos rfl).mpr ?_)⟩
        refine ⟨_, rfl, _, .ty "tuple", _, _, true, rfl, .ty _, tyx_tuple hr2, kit_ty (by decide +kernel), true, rfl, iteT ?_⟩
        refine ⟨_, rfl, r, _, rfl, .inr hr2, _, rfl, g.ta, g.ps, rfl, .inl (sqL_same e2 (SqL.of j.ta)), rfl, ?_⟩
        rw [lz, lps]
        refine ⟨_, h2, by rw [List.length_map, sizeLine_eq]; omega, same_put e2 hD, bs ++ [true], by rw [upd_same, List.map_append]; simp, by rw [List.length_append, lb]; rfl, by rw [List.all_append, ab]; rfl⟩
      · rintro H2 ⟨e2, bs, h2, lb, ab⟩
        refine ⟨D0, bs, rfl, SqL.of h2, ?_⟩
        rw [ab]
        exact ⟨_, rfl, iteF ⟨rfl, e2⟩⟩
    rintro σ' H1 ⟨rfl, e1⟩
    refine ⟨fun σ' H' => σ' = [some (.ref sc), some (.int (k : Nat)), some (.ref g.b), some (.ref g.ta), x4, x5, x6, x7, some (.ref g.m), some (.int g.s), some (.ref u), x11, none, none] ∧ Same H H', ?_, ?_⟩
    · have hu1 := sqT_same e1 hu
      refine ⟨_, rfl, u, _, _, _, rfl, rfl, hu1, (show atI [V.ref p, .ref q] 0 = some (.ref p) from rfl), ?_⟩
      refine ⟨_, rfl, u, _, _, _, rfl, rfl, hu1, (show atI [V.ref p, .ref q] 1 = some (.ref q) from rfl), ?_⟩
      refine ⟨p, q, _, _, rfl, rfl, sqT_same e1 hp, sqT_same e1 hq, ?_, fun r H2 e2 hr2 => ?_⟩
      · rw [List.length_map, List.length_map, td.lr, td.le, sizeLine_eq]
        omega
      refine ⟨r, rfl, ⟨_, hr2⟩, fun D0 hD => ?_⟩
      refine lc_tup (xs := natV rs ++ natV es) (fun i H' => Same H2 H' ∧ ∃ bs : List Bool, H' D0 = some (.lst (bs.map V.bl)) ∧ bs.length = i ∧ bs.all id = true) ⟨same_new hD, [], upd_same, rfl, rfl⟩ (fun i H' _ z => sqT_same z.1 hr2) ?_ ?_
      · rintro i v H3 hv ⟨e3, bs, h3, lb, ab⟩
        obtain ⟨c, rfl⟩ : ∃ c : Nat, v = .int (c : Nat) := by
          have := List.mem_of_getElem? hv
          rcases List.mem_append.mp this with h | h
          · obtain ⟨c, _, rfl⟩ := List.mem_map.mp h
            exact ⟨c, rfl⟩
          · obtain ⟨c, _, rfl⟩ := List.mem_map.mp h
            exact ⟨c, rfl⟩
        have il := (List.getElem?_eq_some_iff.mp hv).1
        rw [List.length_append, List.length_map, List.length_map, td.lr, td.le] at il
        refine ⟨rfl, yes ((if_pos rfl).mpr ?_)⟩
        refine ⟨_, rfl, _, .ty "int", _, _, true, rfl, .ty _, .base (.int _), kit_ty (by decide +kernel), true, rfl, iteT ?_⟩
        refine ⟨_, rfl, _, .ty "bool", _, _, false, rfl, .ty _, .base (.int _), kit_ty (by decide +kernel), false, rfl, true, rfl, iteT ?_⟩
        refine ⟨_, rfl, _, _, rfl, rfl, ?_⟩
        refine ⟨_, h3, by rw [List.length_map, sizeLine_eq]; omega, same_put e3 hD, bs ++ [true], ?_, by rw [List.length_append, lb]; rfl, by rw [List.all_append, ab]; rfl⟩
        rw [upd_same, List.map_append]
        have : ((c : Nat) : Int) ≥ 0 := by omega
        simp [this]
      · rintro H3 ⟨e3, bs, h3, lb, ab⟩
        refine ⟨D0, bs, rfl, SqL.of h3, ?_⟩
        rw [ab]
        exact ⟨_, rfl, iteF ⟨rfl, e1.trans (e2.trans e3)⟩⟩
    rintro σ' H2 ⟨rfl, e2⟩
    have hu2 := sqT_same e2 hu
    have hp2 := sqT_same e2 hp
    have hq2 := sqT_same e2 hq
    have j2 := j.same e2
    refine ⟨_, rfl, u, _, _, _, rfl, rfl, hu2, (show atI [V.ref p, .ref q] 0 = some (.ref p) from rfl), ?_⟩
    refine ⟨p, intO rs, rfl, (by rw [← natV_int]; exact hp2), (by rw [intO_len, td.lr]; exact l1), fun mn hmn => ?_⟩
    obtain ⟨c, hc, rfl⟩ := List.mem_map.mp hmn
    have c1 := td.r1 c hc
    refine ⟨_, _, rfl, rfl, _, rfl, ite2 (fun h => ?_) (fun _ => ?_)⟩
    · have : ((c : Nat) : Int) < 1 := by simpa using h
      omega
    obtain ⟨t, hb⟩ := j2.box
    refine ⟨_, rfl, _, rfl, _, rfl, _, rfl, u, _, _, _, rfl, rfl, hu2, (show atI [V.ref p, .ref q] 0 = some (.ref p) from rfl), ?_⟩
    refine ⟨_, rfl, u, _, _, _, rfl, rfl, hu2, (show atI [V.ref p, .ref q] 1 = some (.ref q) from rfl), ?_⟩
    refine ⟨g.b, g.ta, p, q, t, g.ps, g.n, g.ts, g.s, rs, es, rfl, hb, SqL.of j2.ta, j2.tb, j2.rows, P, C, hp2, hq2, td, fun H3 m3 => ?_⟩
    have j3 := j2.mv m3
    exact ⟨true, rfl, iteF (kk _ _ ⟨g, _, _, _, _, _, (by rw [ev]), j3⟩)⟩
end
end KJ
/-! the law: what is none -/
namespace KJ
open L2 PySem PySem.Spec PyProof.Rows Kx RZ TL
/-- what is none, as such: it stands by itself -/
def datV : V → PyData
  | .int i => .int i
  | .bl b => .bool b
  | .str s => .str s
  | _ => .none
abbrev odds : List V := [.non, .int (-1), .bl true, .str "0", .int 1, .int 2, .int 3, .int 4, .int 5, .int 6, .int 7, .int 8]
section
variable {K : PySem.W.Frag} {H H' : Hp} {v : V}
theorem odd_kn (h : v ∈ odds) : Kn K H v := by
  simp only [odds, List.mem_cons, List.not_mem_nil, or_false] at h
  rcases h with rfl | rfl | rfl | rfl | rfl | rfl | rfl | rfl | rfl | rfl | rfl | rfl
  · exact .non
  · exact .int _
  · exact .bl _
  · exact .str _
  all_goals exact .int _
theorem odd_od (h : v ∈ odds) : OkD 1 20000 (datV v) := by
  simp only [odds, List.mem_cons, List.not_mem_nil, or_false] at h
  rcases h with rfl | rfl | rfl | rfl | rfl | rfl | rfl | rfl | rfl | rfl | rfl | rfl
  · exact okD_non.mono (by decide) (by decide)
  · exact (okD_small (by decide)).mono (by decide) (by decide)
  · exact (okD_bl true).mono (by decide) (by decide)
  · exact okD_str (L := 20000) (by decide +kernel) |>.mono (by decide) (by decide)
  all_goals exact (okD_small (by decide)).mono (by decide) (by decide)
theorem odd_dp (h : v ∈ odds) : Dp K H v (datV v) := by
  simp only [odds, List.mem_cons, List.not_mem_nil, or_false] at h
  rcases h with rfl | rfl | rfl | rfl | rfl | rfl | rfl | rfl | rfl | rfl | rfl | rfl
  · exact .non
  · exact .int _
  · exact .bl _
  · exact .str _
  all_goals exact .int _
theorem odd_show (h : v ∈ odds) : ShowD K H v (datV v) := ⟨odd_dp h, (odd_od h).sh, (odd_od h).nd, od60 (odd_od h), odLine (odd_od h)⟩
theorem odd_str (h : v ∈ odds) : PyData.strOk (datV v).shown = true := by
  simp only [odds, List.mem_cons, List.not_mem_nil, or_false] at h
  rcases h with rfl | rfl | rfl | rfl | rfl | rfl | rfl | rfl | rfl | rfl | rfl | rfl <;> decide +kernel
/-- what is heard, as data -/
abbrev hearD (x y : Str) : PyData := .list [.str x, .str y, .bool true]
theorem dp_hear {p : Addr} {x y : Str} (h : SqL K H p [.str x, .str y, .bl true]) : Dp K H (.ref p) (hearD x y) := .lst h (.cons (.str _) (.cons (.str _) (.cons (.bl _) .nil)))
theorem shaped_hear {x y : Str} (hx : PyData.strOk x = true) (hy : PyData.strOk y = true) : SeqAt.shaped (hearD x y) = true := by
  unfold SeqAt.shaped
  simp only [PyData.canLay0, PyData.canLayAll0, PyData.depth, PyData.depthAll]
  rw [hx, hy]
  rfl
theorem eqv_hear {x y : Str} : PyData.eqv (hearD x y) (hearD x y) = true := by
  simp [PyData.eqv, PyData.eqvAll]
end
theorem odd_in {n : Nat} {v : V} (n1 : 1 ≤ n) (n8 : n ≤ 8) (h : v ∈ oddJ n) : v ∈ odds := by
  simp only [List.mem_cons, List.not_mem_nil, or_false] at h
  rcases h with rfl | rfl | rfl | rfl | rfl
  · simp [odds]
  · simp [odds]
  · simp [odds]
  · simp [odds]
  · have : n = 1 ∨ n = 2 ∨ n = 3 ∨ n = 4 ∨ n = 5 ∨ n = 6 ∨ n = 7 ∨ n = 8 := by omega
    rcases this with rfl | rfl | rfl | rfl | rfl | rfl | rfl | rfl <;> simp [odds]
theorem bel_odd {n : Nat} {v : V} (h : v ∈ oddJ n) : isBel n v = false := by
  have no : ∀ i : Int, ¬ (0 ≤ i ∧ i < (n : Int)) → isBel n (.int i) = false := fun i hi => by
    cases e : isBel n (.int i) with
    | false => rfl
    | true => exact absurd (isBel_iff.mp e) hi
  simp only [List.mem_cons, List.not_mem_nil, or_false] at h
  rcases h with rfl | rfl | rfl | rfl | rfl
  · rfl
  · exact no _ (by omega)
  · rfl
  · rfl
  · exact no _ (by omega)
section
variable {P : Program} {w : World} {K : PySem.W.Frag} {mg : Str → Option Value} {base : Heap} {f cc : Addr} {A : Around} {outer : List Env} {st : Shared} {H0 : Hp} {E : XK} {a : Ad} {CM cW : Addr} {Ts : List (Addr × Str)} {sc : Addr} {scn : List Int} {gH : Addr} {fdH : FuncData} {Pt : Addr}
variable (Z : Lz P w K mg base f cc A outer st H0 E a CM cW Ts scn gH fdH Pt)
include Z
theorem q9 : HT (ι := Nat) (XL P w K mg base f cc A outer st H0 E) (nthS lawS 9) (fun k σ H => ∃ (g : Gl) (x4 x5 x6 x7 x11 : Option V), σ = [some (.ref sc), some (.int (k : Nat)), some (.ref g.b), some (.ref g.ta), x4, x5, x6, x7, some (.ref g.m), some (.int g.s), some g.v, x11, none, none] ∧ E4 K CM Ts sc scn g H) (fun k σ H => ∃ (g : Gl) (x4 x5 x6 x7 : Option V), σ = [some (.ref sc), some (.int (k : Nat)), some (.ref g.b), some (.ref g.ta), x4, x5, x6, x7, some (.ref g.m), some (.int g.s), some g.v, some g.d, none, none] ∧ E5 K CM Ts sc scn g H) := by
  obtain ⟨T, TM, M, F3, KF, O, lone, hr, hl, hf⟩ := Z
  refine ⟨_, (ps_set (i := 11) sclaw.nd rfl (by first | exact Or.inl rfl | exact Or.inr rfl) (pe_callC O.pick hr pass0 (pa_cons (pv 2) (pa_cons (pe_lst (pa_cons pe_non (pa_cons (pe_un un_neg pe_int) (pa_cons pe_bl (pa_cons pe_str (pa_cons (pe_fld (pv 8) rfl) pa_nil)))))) pa_nil)))), ?_⟩
  rintro k D σ H ⟨g, x4, x5, x6, x7, x11, rfl, j⟩ kk
  obtain ⟨t, hb⟩ := j.box
  obtain ⟨ok, dx, tt, ps', h1, h2, h3⟩ := id j.mac
  refine ⟨_, rfl, _, rfl, _, rfl, g.m, CM, dx, _, _, rfl, h1, TM.cl, TM.n2, rfl, (by show 5 ≤ sizeLine; decide), fun l hl => ?_⟩
  have lb : l ≠ g.b := fun z => by rw [z, hb] at hl; cases hl
  have e1 := same_new (o := HO.lst [V.non, .int (-1), .bl true, .str "0", .int (g.n : Nat)]) hl
  have u1 : SqL K (upd H l (HO.lst [V.non, .int (-1), .bl true, .str "0", .int (g.n : Nat)])) l [V.non, .int (-1), .bl true, .str "0", .int (g.n : Nat)] := SqL.of upd_same
  generalize upd H l (HO.lst [V.non, .int (-1), .bl true, .str "0", .int (g.n : Nat)]) = H1 at e1 u1 ⊢
  refine ⟨g.b, l, t, _, rfl, e1 _ _ hb, lb, u1, by simp, by simp, fun v H2 hv m2 => ?_⟩
  have j2 := (j.same e1).mv m2
  exact kk _ _ ⟨{ g with d := v }, _, _, _, _, rfl, { tabs := j2.tabs, hs := j2.hs, box := j2.box, sb := j2.sb, tb := j2.tb, ta := j2.ta, rows := j2.rows, pm := j2.pm, stt := j2.stt, mac := j2.mac, s0 := j2.s0, s1 := j2.s1, td := j2.td, od := hv }⟩
theorem q10 : HT (ι := Nat) (XL P w K mg base f cc A outer st H0 E) (nthS lawS 10) (fun k σ H => ∃ (g : Gl) (x4 x5 x6 x7 : Option V), σ = [some (.ref sc), some (.int (k : Nat)), some (.ref g.b), some (.ref g.ta), x4, x5, x6, x7, some (.ref g.m), some (.int g.s), some g.v, some g.d, none, none] ∧ E5 K CM Ts sc scn g H) (fun k σ H => ∃ (x2 x3 x4 x5 x6 x7 x8 x9 x10 x11 : Option V), σ = [some (.ref sc), some (.int (k : Nat)), x2, x3, x4, x5, x6, x7, x8, x9, x10, x11, none, none] ∧ E0 K CM Ts sc scn H) := by
  obtain ⟨T, TM, M, F3, KF, O, lone, hr, hl, hf⟩ := Z
  have cs : CallR (XL P w K mg base f cc A outer st H0 E) (.builtin "repr") (rShow K) := call_show lone (r64 hr)
  refine ⟨_, (ps_if (pt_cmpR (op_neDK (K := K) (r64 hr)) (pe_heard (k := 9) hf hr (fun A2 o2 s2 H2 E2 f2 c2 hr' => (pe_callC F3 hr' passL (pa_cons (pv 8) (pa_cons (pv 11) pa_nil))))) (pe_lst (pa_cons pe_str (pa_cons (pe_callB cs (by rfl) T.z_repr (by decide +kernel) (pa_cons (pv 11) pa_nil)) (pa_cons pe_bl pa_nil)))) (nomark _))
  (pss_one (ps_ret pe_bl))
  pss_nil), ?_⟩
  rintro k D σ H ⟨g, x4, x5, x6, x7, rfl, j⟩ kk
  have n1 := j.pm.ok.n1
  have n8 := j.pm.ok.n8
  have oin := odd_in n1 n8 j.od
  have od := odd_od oin
  generalize hsp : spLeastA K a CM = sp0
  refine ⟨j.tabs, fun H1 x1 tb1 => ?_⟩
  have j1 := j.ext x1 tb1
  refine ⟨_, rfl, _, rfl, ?_⟩
  refine least_bad hsp j1.mac (odd_kn oin) (bel_odd j.od) fun d H2 e2 hd => ?_
  have j2 := j1.same e2
  refine ⟨d, rfl, .inr (.inl ⟨rfl, g.d, datV g.d, hd, odd_show oin, fun p H3 e3 hp => ?_⟩)⟩
  have j3 := j2.same e3
  refine ⟨_, rfl, g.d, datV g.d, rfl, odd_dp oin, od.sh, od.nd, od60 od, odLine od, ?_⟩
  refine ⟨(by show 3 ≤ sizeLine; decide), fun l hl => ?_⟩
  have e4 := same_new (o := HO.lst [V.str "state", .str (datV g.d).shown, .bl true]) hl
  have u4 : upd H3 l (HO.lst [V.str "state", .str (datV g.d).shown, .bl true]) l = some (.lst [V.str "state", .str (datV g.d).shown, .bl true]) := upd_same
  generalize upd H3 l (HO.lst [V.str "state", .str (datV g.d).shown, .bl true]) = H4 at e4 u4 ⊢
  have sh := shaped_hear (x := "state") (y := (datV g.d).shown) (by decide +kernel) (odd_str oin)
  refine ⟨hearD "state" (datV g.d).shown, hearD "state" (datV g.d).shown, dp_hear (SqL.of (e4 _ _ hp)), dp_hear (SqL.of u4), sh, sh, ?_⟩
  rw [eqv_hear]
  have j4 := j3.same e4
  exact ⟨_, rfl, iteF (kk _ _ ⟨_, _, _, _, _, _, _, _, _, _, rfl, ⟨j4.tabs, j4.hs⟩⟩)⟩
end
def spLaw (K : PySem.W.Frag) (Ts : List (Addr × Str)) : Sp := fun vs H Q _ => ∃ (a : Addr) (ns : List Int), vs = [.ref a] ∧ SqL K H a (ns.map V.int) ∧ ns.length ≤ 63 ∧ LamX.Tabs Ts H ∧ ∀ H', Q (.bl true) H'
section
variable {P : Program} {w : World} {K : PySem.W.Frag} {mg : Str → Option Value} {base : Heap} {f cc : Addr} {fd : FuncData} {a : Ad} {CM cW : Addr} {Ts : List (Addr × Str)} {gH : Addr} {fdH : FuncData} {Pt : Addr}
theorem ok_law (F : FnP K "law" s_law f fd) (hcode : fd.code = .ref cc) (FH : FnP K "_law_fault" s_law_fault gH fdH) (gHe : mg "_law_fault" = some (.ref gH)) (bH : Binds K fdH ["call"] []) (T : Mg mg) (TM : ClsM K mg CM) (M : Mks P w K mg base a CM) (D : Hd K mg a cW) (TB : LamX.TabB base mg cc Pt)
    (mem : (Pt, (Str.ofString "law" ++ ".<locals>.") ++ "<lambda>") ∈ Ts) (only : ∀ p ∈ Ts, p.1 = Pt → p.2 = (Str.ofString "law" ++ ".<locals>.") ++ "<lambda>") (F3 : Cal P w K mg base (L2N.CX P w) 8 "least_alone" ["machine", "first"] (spLeastA K a CM)) (KF : CalN P w K mg base (L2N.CX P w) 8 0 "least_alone" ["machine", "first"] ["first", "machine"] kw2 (spLeastA K a CM)) (O : FnL P w K mg base) :
    FnG P w K mg base CX0 12 f fd ["script"] (spLaw K Ts) := by
  refine okGc F hcode sclaw (fun vs H Q E h => ?_) (fun Ar o0 st H vs Q E lone hr h => ?_)
  · obtain ⟨a, ns, rfl, _⟩ := h
    rfl
  · obtain ⟨sc, scn, rfl, hs, hl, tb, k⟩ := h
    have hf : HF (XL P w K mg base f cc Ar o0 st H E) a cW Ts gH fdH cc Pt s_law := ⟨FH, gHe, bH, T, D, lone, TB, rfl, rfl, mem, only⟩
    have Z : Lz P w K mg base f cc Ar o0 st H E a CM cW Ts scn gH fdH Pt := ⟨T, TM, M, F3, KF, O, lone, hr, hl, hf⟩
    obtain ⟨tb2, ab, cb⟩ := HTs.cons (q0 (sc := sc) (H0 := H) (E := E) Z) (.cons (q1 Z) (.cons (q2 Z) (.cons (q3 Z) (.cons (q4 Z) (.cons (q5 Z) (.cons (q6 Z) (.cons (q7 Z) (.cons (q8 Z) (.cons (q9 Z) (.one (q10 Z)))))))))))
    refine ⟨_, PSs.nox (pss_cons (ps_for PassesOwn.never rfl (pi_range1 (by rfl) T.z_range (pa_cons pe_int pa_nil)) (pg_name (i := 1) sclaw.nd rfl (by first | exact Or.inl rfl | exact Or.inr rfl)) ab) (pss_one (ps_ret (pe_callC0 O.apart hr pass0)))), ?_⟩
    refine ⟨4, rfl, by decide, by decide, for_range (lo := 0) (n := 4) (fun i σ' H' => ∃ x1 x2 x3 x4 x5 x6 x7 x8 x9 x10 x11, σ' = [some (.ref sc), x1, x2, x3, x4, x5, x6, x7, x8, x9, x10, x11, none, none] ∧ E0 K CM Ts sc scn H') ⟨_, _, _, _, _, _, _, _, _, _, _, rfl, ⟨tb, hs⟩⟩ ?_ ?_⟩
    · rintro i σ' H2 hi ⟨x1, x2, x3, x4, x5, x6, x7, x8, x9, x10, x11, rfl, e⟩
      rw [show (0 : Int) + (i : Int) = (i : Int) from Int.zero_add _]
      refine cb i _ _ _ ⟨x2, x3, x4, x5, x6, x7, x8, x9, x10, x11, rfl, e⟩ ?_
      rintro σ2 H3 ⟨x2, x3, x4, x5, x6, x7, x8, x9, x10, x11, rfl, e3⟩
      exact ⟨_, _, _, _, _, _, _, _, _, _, _, rfl, e3⟩
    · rintro σ' H2 ⟨x1, x2, x3, x4, x5, x6, x7, x8, x9, x10, x11, rfl, e⟩
      exact ⟨rfl, fun H' _ => k H'⟩
end
end KJ
/-! the bundles, by what the head tells -/
namespace KJ
open PySem PySem.Spec PyProof.Rows L2 Kx RZ
abbrev Says (w : World) (h : Heap) (K : PySem.W.Frag) : Prop := He.SaysX fa fn [] tf ex w h K
section
variable {P : Program} {w : World} {K : PySem.W.Frag} {h : Heap} {mg : Str → Option Value}
theorem mg_of (X : K.In h) (G : h.Ns mainGlobals mg) (c : Says w h K) : Mg mg where
  z_KeyError := He.free_ok X G (c.t.d.fact 31 (f := .free "KeyError") rfl)
  z_ValueError := He.free_ok X G (c.t.d.fact 32 (f := .free "ValueError") rfl)
  z_abs := He.free_ok X G (c.t.d.fact 33 (f := .free "abs") rfl)
  z_all := He.free_ok X G (c.t.d.fact 34 (f := .free "all") rfl)
  z_bool := He.free_ok X G (c.t.d.fact 35 (f := .free "bool") rfl)
  z_enumerate := He.free_ok X G (c.t.d.fact 36 (f := .free "enumerate") rfl)
  z_int := He.free_ok X G (c.t.d.fact 37 (f := .free "int") rfl)
  z_isinstance := He.free_ok X G (c.t.d.fact 38 (f := .free "isinstance") rfl)
  z_len := He.free_ok X G (c.t.d.fact 39 (f := .free "len") rfl)
  z_list := He.free_ok X G (c.t.d.fact 40 (f := .free "list") rfl)
  z_max := He.free_ok X G (c.t.d.fact 41 (f := .free "max") rfl)
  z_min := He.free_ok X G (c.t.d.fact 42 (f := .free "min") rfl)
  z_range := He.free_ok X G (c.t.d.fact 43 (f := .free "range") rfl)
  z_repr := He.free_ok X G (c.t.d.fact 44 (f := .free "repr") rfl)
  z_set := He.free_ok X G (c.t.d.fact 45 (f := .free "set") rfl)
  z_sorted := He.free_ok X G (c.t.d.fact 46 (f := .free "sorted") rfl)
  z_tuple := He.free_ok X G (c.t.d.fact 47 (f := .free "tuple") rfl)
  g_DEEDS_MOST := He.int_ok X G (c.t.d.fact 48 (f := .int "DEEDS_MOST" 4) rfl)
  g_STATES_MOST := He.int_ok X G (c.t.d.fact 49 (f := .int "STATES_MOST" 8) rfl)
theorem clsM_of (X : K.In h) (G : h.Ns mainGlobals mg) (c : Says w h K) : ClsM K mg (He.ga K "Machine") where
  at_ := (He.glo_ok X G (c.t.d.fact 30 (f := .glo "Machine") rfl))
  cl := He.cls_ok (c.t.d.fact 50 (f := .cls "Machine") rfl)
  n1 := (He.noat_ok (c.t.d.fact 52 (f := .noat "Machine" "deeds") rfl))
  n2 := (He.noat_ok (c.t.d.fact 53 (f := .noat "Machine" "states") rfl))
  n3 := (He.noat_ok (c.t.d.fact 54 (f := .noat "Machine" "tables") rfl))
  isi := isiB_ok (ex_at c.more 8 rfl)
  yes := kitB_ok (ex_at c.more 9 rfl)
  notT := kitB_ok (ex_at c.more 10 rfl)
  first := (ex_at c.more 11 rfl)
end
section
variable {P : Program} {w : World} {K : PySem.W.Frag} {mg : Str → Option Value} {base : Heap} {x f qual : Str} {C : Addr} {fd : FuncData}
theorem errN_of (at_ : mg x = some (.ref C)) (cls : EvC K C) (ini : iniB K C = true) (ok : FnOk P w K mg base CX0 1 (He.ma K C "__init__") fd ["self", f] (spKeep K C f)) (b : Binds K fd ["self", f] [])
    (kb : KBn K fd ["self", f] 1 [f] (fun us ws => us ++ ws) (fun vs zs => vs ++ zs)) : ErrN P w K mg base 1 x f C :=
  ⟨at_, cls, _, fd, (iniB_ok ini).1, (iniB_ok ini).2, b, ok, fun s' a ws X l => kb.to s' [.ref a] ws X rfl l⟩
theorem errF_of {g h : Str} (at_ : mg x = some (.ref C)) (cls : OexC K C) (ini : iniB K C = true) (ok : FnOk P w K mg base CX0 1 (He.ma K C "__init__") fd ["self", f, g, h] (spKeep3 K C f g h)) (b : Binds K fd ["self", f, g, h] [])
    (kb : KBn K fd ["self", f, g, h] 1 [h, f, g] (fun us ws => us ++ [ws.getD 1 .none, ws.getD 2 .none, ws.getD 0 .none]) (fun vs zs => vs ++ [zs.getD 1 .non, zs.getD 2 .non, zs.getD 0 .non])) : ErrF P w K mg base 1 x f g h C :=
  ⟨at_, cls, _, fd, (iniB_ok ini).1, (iniB_ok ini).2, b, ok, fun s' a ws X l => kb.to s' [.ref a] ws X rfl l⟩
end
theorem sc_BadMachine : FnScope ["self", "at"] ["self", "at"] (defScope s_BadMachine_init) := ⟨rfl, rfl, rfl, by decide +kernel, rfl, by decide +kernel, by decide +kernel⟩
theorem err_BadMachine {P : Program} {w w' : World} {K : PySem.W.Frag} {h base : Heap} {mg : Str → Option Value} (X : K.In h) (G : h.Ns mainGlobals mg) (c : Says w' h K) : ErrN P w K mg base 1 "BadMachine" "at" (He.ga K "BadMachine") := by
  obtain ⟨fd, F⟩ := c.t.d.def_ 25 rfl
  exact errN_of (He.glo_ok X G (c.t.d.fact 26 (f := .glo "BadMachine") rfl)) (EvC.of (oexB_ok (ex_at c.more 0 rfl))) (ex_at c.more 4 rfl) (ok_keep F (oexB_ok (ex_at c.more 0 rfl)) (He.noat_ok (c.t.d.fact 55 (f := .noat "BadMachine" "at") rfl)) sc_BadMachine (by decide) (by decide) (by decide +kernel) (by decide +kernel)) (F.bindsN fun _ _ _ _ _ _ us hl => match us, hl with | [_, _], _ => rfl)
    (kbn_of F (fun r1 r2 => r1.append r2) fun _ _ _ _ _ _ us ws hl hm => match us, ws, hl, hm with | [_], [_], _, _ => rfl)
theorem sc_Refused : FnScope ["self", "at"] ["self", "at"] (defScope s_Refused_init) := ⟨rfl, rfl, rfl, by decide +kernel, rfl, by decide +kernel, by decide +kernel⟩
theorem err_Refused {P : Program} {w w' : World} {K : PySem.W.Frag} {h base : Heap} {mg : Str → Option Value} (X : K.In h) (G : h.Ns mainGlobals mg) (c : Says w' h K) : ErrN P w K mg base 1 "Refused" "at" (He.ga K "Refused") := by
  obtain ⟨fd, F⟩ := c.t.d.def_ 26 rfl
  exact errN_of (He.glo_ok X G (c.t.d.fact 27 (f := .glo "Refused") rfl)) (EvC.of (oexB_ok (ex_at c.more 1 rfl))) (ex_at c.more 5 rfl) (ok_keep F (oexB_ok (ex_at c.more 1 rfl)) (He.noat_ok (c.t.d.fact 56 (f := .noat "Refused" "at") rfl)) sc_Refused (by decide) (by decide) (by decide +kernel) (by decide +kernel)) (F.bindsN fun _ _ _ _ _ _ us hl => match us, hl with | [_, _], _ => rfl)
    (kbn_of F (fun r1 r2 => r1.append r2) fun _ _ _ _ _ _ us ws hl hm => match us, ws, hl, hm with | [_], [_], _, _ => rfl)
theorem sc_TooGreat : FnScope ["self", "most"] ["self", "most"] (defScope s_TooGreat_init) := ⟨rfl, rfl, rfl, by decide +kernel, rfl, by decide +kernel, by decide +kernel⟩
theorem err_TooGreat {P : Program} {w w' : World} {K : PySem.W.Frag} {h base : Heap} {mg : Str → Option Value} (X : K.In h) (G : h.Ns mainGlobals mg) (c : Says w' h K) : ErrN P w K mg base 1 "TooGreat" "most" (He.ga K "TooGreat") := by
  obtain ⟨fd, F⟩ := c.t.d.def_ 27 rfl
  exact errN_of (He.glo_ok X G (c.t.d.fact 28 (f := .glo "TooGreat") rfl)) (EvC.of (oexB_ok (ex_at c.more 2 rfl))) (ex_at c.more 6 rfl) (ok_keep F (oexB_ok (ex_at c.more 2 rfl)) (He.noat_ok (c.t.d.fact 57 (f := .noat "TooGreat" "most") rfl)) sc_TooGreat (by decide) (by decide) (by decide +kernel) (by decide +kernel)) (F.bindsN fun _ _ _ _ _ _ us hl => match us, hl with | [_, _], _ => rfl)
    (kbn_of F (fun r1 r2 => r1.append r2) fun _ _ _ _ _ _ us ws hl hm => match us, ws, hl, hm with | [_], [_], _, _ => rfl)
theorem sc_NoState : FnScope ["self", "state"] ["self", "state"] (defScope s_NoState_init) := ⟨rfl, rfl, rfl, by decide +kernel, rfl, by decide +kernel, by decide +kernel⟩
theorem err_NoState {P : Program} {w w' : World} {K : PySem.W.Frag} {h base : Heap} {mg : Str → Option Value} (X : K.In h) (G : h.Ns mainGlobals mg) (c : Says w' h K) : ErrN P w K mg base 1 "NoState" "state" (He.ga K "NoState") := by
  obtain ⟨fd, F⟩ := c.t.d.def_ 28 rfl
  exact errN_of (He.glo_ok X G (c.t.d.fact 29 (f := .glo "NoState") rfl)) (EvC.ofKey (keyB_ok (ex_at c.more 3 rfl))) (ex_at c.more 7 rfl) (ok_keepK F (keyB_ok (ex_at c.more 3 rfl)) (He.noat_ok (c.t.d.fact 58 (f := .noat "NoState" "state") rfl)) sc_NoState (by decide) (by decide) (by decide +kernel) (by decide +kernel)) (F.bindsN fun _ _ _ _ _ _ us hl => match us, hl with | [_, _], _ => rfl)
    (kbn_of F (fun r1 r2 => r1.append r2) fun _ _ _ _ _ _ us ws hl hm => match us, ws, hl, hm with | [_], [_], _, _ => rfl)
theorem er_of {P : Program} {w w' : World} {K : PySem.W.Frag} {h base : Heap} {mg : Str → Option Value} (X : K.In h) (G : h.Ns mainGlobals mg) (c : Says w' h K) : Er P w K mg base (adOf K) where
  BadMachine := err_BadMachine X G c
  Refused := err_Refused X G c
  TooGreat := err_TooGreat X G c
  NoState := err_NoState X G c
section
variable {P : Program} {w : World} {K : PySem.W.Frag} {mg : Str → Option Value} {base : Heap} {x qual : Str} {params : Arguments} {body : List Stmt} {scope : Scope} {f : Addr} {fd : FuncData} {ps ks : List Str} {k n : Nat} {CX : CXT} {sp : Sp}
/-- a def by its name -/
theorem cal_of (at_ : mg x = some (.ref f)) (F : FunD K x qual params body scope [] [] f fd) (ok : FnOk P w K mg base CX k f fd ps sp) (h : ∀ (kV doc pm : Value) (an : Option Addr) (cdv ct : Value) (us : List Value), us.length = ps.length → bindArgs (PySem.W.fnOf x qual params body scope .none kV doc pm an cdv ct) ⟨us, []⟩ = pure (ps.zip us)) :
    Cal P w K mg base CX k x ps sp := ⟨_, _, at_, F.kp, F.bindsN h, ok⟩
theorem calN_of {g : List Value → List Value → List Value} {gV : List V → List V → List V} (at_ : mg x = some (.ref f)) (F : FunD K x qual params body scope [] [] f fd) (ok : FnOk P w K mg base CX k f fd ps sp) (rel : ∀ {vs us zs ws}, Vals vs us → Vals zs ws → Vals (gV vs zs) (g us ws))
    (h : ∀ (kV doc pm : Value) (an : Option Addr) (cdv ct : Value) (us ws : List Value), us.length = n → ws.length = ks.length → bindArgs (PySem.W.fnOf x qual params body scope .none kV doc pm an cdv ct) ⟨us, ks.zip ws⟩ = pure (ps.zip (g us ws))) : CalN P w K mg base CX k n x ps ks gV sp :=
  ⟨_, _, g, at_, F.kp, kbn_of F rel h, ok⟩
end
section
variable {P : Program} {w w' : World} {K : PySem.W.Frag} {h base : Heap} {mg : Str → Option Value}
theorem mks_of (X : K.In h) (G : h.Ns mainGlobals mg) (c : Says w' h K) : Mks P w K mg base (adOf K) (He.ga K "Machine") := by
  have T := mg_of X G c
  have TM := clsM_of X G c
  have R : Er P w K mg base (adOf K) := er_of X G c
  obtain ⟨fdn, Fn⟩ := c.t.d.def_ 0 (d := dF "is_number" s_is_number) rfl
  have fn : FnOk P w K mg base CX0 1 (He.ga K "is_number") fdn ["value"] (spNumber K) := ok_is_number Fn T
  have cn : Cal P w K mg base CX0 1 "is_number" ["value"] (spNumber K) := cal_of (He.glo_ok X G (c.t.d.fact 0 (f := .glo "is_number") rfl)) Fn fn fun _ _ _ _ _ _ us hl => match us, hl with | [_], _ => rfl
  obtain ⟨fdb, Fb⟩ := c.t.d.def_ 1 (d := dF "is_below" s_is_below) rfl
  have fb : FnOk P w K mg base CX0 2 (He.ga K "is_below") fdb ["value", "limit"] (spBelow K) := ok_is_below Fb T cn
  have cb : Cal P w K mg base CX0 2 "is_below" ["value", "limit"] (spBelow K) := cal_of (He.glo_ok X G (c.t.d.fact 1 (f := .glo "is_below") rfl)) Fb fb fun _ _ _ _ _ _ us hl => match us, hl with | [_, _], _ => rfl
  obtain ⟨fds, Fs⟩ := c.t.d.def_ 2 (d := dF "is_sequence" s_is_sequence) rfl
  have fs : FnOk P w K mg base CX0 1 (He.ga K "is_sequence") fds ["value", "least", "most"] (spSeq K) := ok_is_sequence Fs T
  have cs : Cal P w K mg base CX0 1 "is_sequence" ["value", "least", "most"] (spSeq K) := cal_of (He.glo_ok X G (c.t.d.fact 2 (f := .glo "is_sequence") rfl)) Fs fs fun _ _ _ _ _ _ us hl => match us, hl with | [_, _, _], _ => rfl
  obtain ⟨fdl, Fl⟩ := c.t.d.def_ 3 (d := dF "first_not_below" s_first_not_below) rfl
  have fl : FnOk P w K mg base CX0 3 (He.ga K "first_not_below") fdl ["values", "limit"] (spFnb K) := ok_first_not_below Fl T cb
  have cl : Cal P w K mg base CX0 3 "first_not_below" ["values", "limit"] (spFnb K) := cal_of (He.glo_ok X G (c.t.d.fact 3 (f := .glo "first_not_below") rfl)) Fl fl fun _ _ _ _ _ _ us hl => match us, hl with | [_, _], _ => rfl
  obtain ⟨fdt, Ft⟩ := c.t.d.def_ 4 (d := dF "_is_table" s_is_table) rfl
  have ft : FnOk P w K mg base CX0 4 (He.ga K "_is_table") fdt ["value", "like"] (spTable K) := ok_is_table Ft T cs cl
  have ct : Cal P w K mg base CX0 4 "_is_table" ["value", "like"] (spTable K) := cal_of (He.glo_ok X G (c.t.d.fact 4 (f := .glo "_is_table") rfl)) Ft ft fun _ _ _ _ _ _ us hl => match us, hl with | [_, _], _ => rfl
  obtain ⟨fdM, FM⟩ := c.t.d.def_ 29 (d := dM "Machine" "__init__" "Machine.__init__" s_Machine_init []) rfl
  have okM : FnOk P w K mg base (L2N.CX P w) 5 (He.ma K (He.ga K "Machine") "__init__") fdM ["self", "tables"] (spMachine K (adOf K) (He.ga K "Machine")) := ok_machine FM T R TM cs ct
  exact { mac := ⟨_, fdM, He.mkr_ok (c.t.d.fact 51 (f := .mkr "Machine") rfl), okM, FM.bindsN fun _ _ _ _ _ _ us hl => match us, hl with | [_, _], _ => rfl⟩ }
theorem hd_of (X : K.In h) (G : h.Ns mainGlobals mg) (c : Says w h K) : Hd K mg (adOf K) (He.ga K "WitnessError") where
  g_W := (He.glo_ok X G (c.t.d.fact 25 (f := .glo "WitnessError") rfl))
  g_F := (He.glo_ok X G (c.t.d.fact 27 (f := .glo "Refused") rfl))
  g_G := (He.glo_ok X G (c.t.d.fact 28 (f := .glo "TooGreat") rfl))
  g_N := (He.glo_ok X G (c.t.d.fact 29 (f := .glo "NoState") rfl))
  x_F := excB_xf (ex_at c.more 12 rfl)
  n_F := (He.noat_ok (c.t.d.fact 56 (f := .noat "Refused" "at") rfl))
  e_F := excB_ok (ex_at c.more 12 rfl)
  k_F := kitB_ok (ex_at c.more 15 rfl)
  m_FF := (He.exm_ok (c.t.d.fact 59 (f := .exm "Refused" "Refused" true) rfl))
  x_G := excB_xf (ex_at c.more 13 rfl)
  n_G := (He.noat_ok (c.t.d.fact 57 (f := .noat "TooGreat" "most") rfl))
  e_G := excB_ok (ex_at c.more 13 rfl)
  k_G := kitB_ok (ex_at c.more 16 rfl)
  m_GF := (He.exm_ok (c.t.d.fact 60 (f := .exm "TooGreat" "Refused" false) rfl))
  m_GG := (He.exm_ok (c.t.d.fact 61 (f := .exm "TooGreat" "TooGreat" true) rfl))
  x_N := excB_xf (ex_at c.more 14 rfl)
  n_N := (He.noat_ok (c.t.d.fact 58 (f := .noat "NoState" "state") rfl))
  e_N := excB_ok (ex_at c.more 14 rfl)
  k_N := kitB_ok (ex_at c.more 18 rfl)
  m_NF := (He.exm_ok (c.t.d.fact 62 (f := .exm "NoState" "Refused" false) rfl))
  m_NG := (He.exm_ok (c.t.d.fact 63 (f := .exm "NoState" "TooGreat" false) rfl))
  m_NN := (He.exm_ok (c.t.d.fact 64 (f := .exm "NoState" "NoState" true) rfl))
theorem prg_of (X : K.In h) (G : h.Ns mainGlobals mg) (c : Says w' h K) : Cal P w K mg base (L2N.CX P w) 8 "least_alone" ["machine", "first"] (spLeastA K (adOf K) (He.ga K "Machine")) ∧ CalN P w K mg base (L2N.CX P w) 8 0 "least_alone" ["machine", "first"] ["first", "machine"] kw2 (spLeastA K (adOf K) (He.ga K "Machine")) := by
  have T := mg_of X G c
  have TM := clsM_of X G c
  have R : Er P w K mg base (adOf K) := er_of X G c
  have LCM : mg "lcm" = some (.builtin "math.lcm") := PySem.W.mg_of X G (He.eqO_ok (ex_at c.more 17 rfl))
  obtain ⟨fdn, Fn⟩ := c.t.d.def_ 0 (d := dF "is_number" s_is_number) rfl
  have fn : FnOk P w K mg base CX0 1 (He.ga K "is_number") fdn ["value"] (spNumber K) := ok_is_number Fn T
  have cn : Cal P w K mg base CX0 1 "is_number" ["value"] (spNumber K) := cal_of (He.glo_ok X G (c.t.d.fact 0 (f := .glo "is_number") rfl)) Fn fn fun _ _ _ _ _ _ us hl => match us, hl with | [_], _ => rfl
  obtain ⟨fdb, Fb⟩ := c.t.d.def_ 1 (d := dF "is_below" s_is_below) rfl
  have fb : FnOk P w K mg base CX0 2 (He.ga K "is_below") fdb ["value", "limit"] (spBelow K) := ok_is_below Fb T cn
  have cb : Cal P w K mg base CX0 2 "is_below" ["value", "limit"] (spBelow K) := cal_of (He.glo_ok X G (c.t.d.fact 1 (f := .glo "is_below") rfl)) Fb fb fun _ _ _ _ _ _ us hl => match us, hl with | [_, _], _ => rfl
  obtain ⟨fdns, Fns⟩ := c.t.d.def_ 5 (d := dF "need_state" s_need_state) rfl
  have fns : FnOk P w K mg base (L2N.CX P w) 3 (He.ga K "need_state") fdns ["machine", "state"] (spState K (adOf K) (He.ga K "Machine")) := ok_need_state Fns T R TM cb
  have cns : Cal P w K mg base (L2N.CX P w) 3 "need_state" ["machine", "state"] (spState K (adOf K) (He.ga K "Machine")) := cal_of (He.glo_ok X G (c.t.d.fact 5 (f := .glo "need_state") rfl)) Fns fns fun _ _ _ _ _ _ us hl => match us, hl with | [_, _], _ => rfl
  obtain ⟨fdco, Fco⟩ := c.t.d.def_ 6 (d := dF "in_coming_order" s_in_coming_order) rfl
  have fco : FnOk P w K mg base (L2N.CX P w) 5 (He.ga K "in_coming_order") fdco ["machine", "first"] (spComing K (adOf K) (He.ga K "Machine")) := ok_coming Fco T TM cns
  have cco : Cal P w K mg base (L2N.CX P w) 5 "in_coming_order" ["machine", "first"] (spComing K (adOf K) (He.ga K "Machine")) := cal_of (He.glo_ok X G (c.t.d.fact 6 (f := .glo "in_coming_order") rfl)) Fco fco fun _ _ _ _ _ _ us hl => match us, hl with | [_, _], _ => rfl
  obtain ⟨fdrc, Frc⟩ := c.t.d.def_ 7 (d := dF "reached" s_reached) rfl
  have frc : FnOk P w K mg base (L2N.CX P w) 6 (He.ga K "reached") fdrc ["machine", "first"] (spReached K (adOf K) (He.ga K "Machine")) := ok_reached Frc T cco
  have crc : Cal P w K mg base (L2N.CX P w) 6 "reached" ["machine", "first"] (spReached K (adOf K) (He.ga K "Machine")) := cal_of (He.glo_ok X G (c.t.d.fact 7 (f := .glo "reached") rfl)) Frc frc fun _ _ _ _ _ _ us hl => match us, hl with | [_, _], _ => rfl
  obtain ⟨fddp, Fdp⟩ := c.t.d.def_ 8 (d := dF "deed_pairs" s_deed_pairs) rfl
  have fdp : FnOk P w K mg base CX0 1 (He.ga K "deed_pairs") fddp ["deeds"] (spPairs K) := ok_pairs Fdp T
  have cdp : Cal P w K mg base CX0 1 "deed_pairs" ["deeds"] (spPairs K) := cal_of (He.glo_ok X G (c.t.d.fact 8 (f := .glo "deed_pairs") rfl)) Fdp fdp fun _ _ _ _ _ _ us hl => match us, hl with | [_], _ => rfl
  obtain ⟨fdap, Fap⟩ := c.t.d.def_ 9 (d := dF "apart_pairs" s_apart_pairs) rfl
  have fap : FnOk P w K mg base (L2N.CX P w) 7 (He.ga K "apart_pairs") fdap ["machine", "first"] (spApart K (adOf K) (He.ga K "Machine")) := ok_apart Fap T TM crc cdp
  have cap : Cal P w K mg base (L2N.CX P w) 7 "apart_pairs" ["machine", "first"] (spApart K (adOf K) (He.ga K "Machine")) := cal_of (He.glo_ok X G (c.t.d.fact 9 (f := .glo "apart_pairs") rfl)) Fap fap fun _ _ _ _ _ _ us hl => match us, hl with | [_, _], _ => rfl
  obtain ⟨fdrr, Frr⟩ := c.t.d.def_ 11 (d := dF "_round_and_rest" s_round_and_rest) rfl
  have frr : FnOk P w K mg base CX0 1 (He.ga K "_round_and_rest") fdrr ["table", "states"] (spRR K) := ok_rr Frr T LCM
  have crr : Cal P w K mg base CX0 1 "_round_and_rest" ["table", "states"] (spRR K) := cal_of (He.glo_ok X G (c.t.d.fact 11 (f := .glo "_round_and_rest") rfl)) Frr frr fun _ _ _ _ _ _ us hl => match us, hl with | [_, _], _ => rfl
  obtain ⟨fdla, Fla⟩ := c.t.d.def_ 10 (d := dF "least_alone" s_least_alone) rfl
  have fla : FnOk P w K mg base (L2N.CX P w) 8 (He.ga K "least_alone") fdla ["machine", "first"] (spLeastA K (adOf K) (He.ga K "Machine")) := ok_least Fla T TM crc cap crr
  have claK : CalN P w K mg base (L2N.CX P w) 8 0 "least_alone" ["machine", "first"] ["first", "machine"] kw2 (spLeastA K (adOf K) (He.ga K "Machine")) := calN_of (g := fun us ws => [ws.getD 1 .none, ws.getD 0 .none]) (He.glo_ok X G (c.t.d.fact 10 (f := .glo "least_alone") rfl)) Fla fla (fun r1 r2 => (.cons (vals_getD 1 r2) (.cons (vals_getD 0 r2) .nil))) fun _ _ _ _ _ _ us ws hl hm => match us, ws, hl, hm with | [], [_, _], _, _ => rfl
  have cla : Cal P w K mg base (L2N.CX P w) 8 "least_alone" ["machine", "first"] (spLeastA K (adOf K) (He.ga K "Machine")) := cal_of (He.glo_ok X G (c.t.d.fact 10 (f := .glo "least_alone") rfl)) Fla fla fun _ _ _ _ _ _ us hl => match us, hl with | [_, _], _ => rfl
  exact ⟨cla, claK⟩
end
end KJ
/-! the end -/
namespace KJ
open PySem PySem.Spec PyProof.Rows L2 Kx RZ
/-- the lambdas' tables and their names -/
def tabsOf (K : PySem.W.Frag) : List (Addr × Str) := [((He.cT K dN0).2, (Str.ofString "law" ++ ".<locals>.") ++ "<lambda>")]
theorem ref_same {m : Option Value} {a b : Addr} (h : m = some (.ref a)) (h' : m = some (.ref b)) : a = b := by
  rw [h] at h'
  injection h' with h'
  injection h'
theorem law_told {P : Program} {w : World} {K : PySem.W.Frag} {h : Heap} {mg : Str → Option Value} (X : K.In h) (G : h.Ns mainGlobals mg) (c : Says w h K) :
    ∃ fd : FuncData, (∀ (s : Shared) (u : Value), BindsTo s fd ⟨[u], []⟩ [("script", u)]) ∧ ∀ base : Heap, K.In base → base.Ns mainGlobals mg → (∀ p ∈ tf.map (He.cT K), LamX.TabB base mg p.1 p.2) → FnG P w K mg base CX0 12 (He.ga K "law") fd ["script"] (spLaw K (tabsOf K)) := by
  obtain ⟨fdlb, Flb⟩ := c.t.d.def_ 12 (d := dF "_law_box" s_law_box) rfl
  obtain ⟨fdlt, Flt⟩ := c.t.d.def_ 13 (d := dF "_law_take" s_law_take) rfl
  obtain ⟨fdlp, Flp⟩ := c.t.d.def_ 14 (d := dF "_law_pick" s_law_pick) rfl
  obtain ⟨fdlu, Flu⟩ := c.t.d.def_ 15 (d := dF "_law_tables" s_law_tables) rfl
  obtain ⟨fdln, Fln⟩ := c.t.d.def_ 16 (d := dF "_law_next" s_law_next) rfl
  obtain ⟨fdll, Fll⟩ := c.t.d.def_ 17 (d := dF "_law_lots" s_law_lots) rfl
  obtain ⟨fdlr, Flr⟩ := c.t.d.def_ 18 (d := dF "_law_reached" s_law_reached) rfl
  obtain ⟨fdlc, Flc⟩ := c.t.d.def_ 19 (d := dF "_law_commute" s_law_commute) rfl
  obtain ⟨fdle, Fle⟩ := c.t.d.def_ 21 (d := dF "_law_tell" s_law_tell) rfl
  obtain ⟨fdlw, Flw⟩ := c.t.d.def_ 22 (d := dF "_law_least_right" s_law_least_right) rfl
  obtain ⟨fdlf, Flf⟩ := c.t.d.def_ 23 (d := dF "_law_apart_right" s_law_apart_right) rfl
  obtain ⟨fdH, FH⟩ := c.t.d.def_ 20 (d := dF "_law_fault" s_law_fault) rfl
  obtain ⟨fdL, FL⟩ := c.t.d.def_ 24 (d := dF "law" s_law) rfl
  have bL := FunD.bindsA (ps := ["script"]) FL fun _ _ _ _ _ _ us hl => match us, hl with | [_], _ => rfl
  refine ⟨fdL, fun s u => bL s [u] rfl, fun base _ _ TB => ?_⟩
  have T := mg_of X G c
  have TM := clsM_of X G c
  have M : Mks P w K mg base (adOf K) (He.ga K "Machine") := mks_of X G c
  have t_dN0 : LamX.TabB base mg (He.cT K dN0).1 (He.cT K dN0).2 := TB _ (List.mem_cons_self ..)
  have m_dN0 : ((He.cT K dN0).2, (Str.ofString "law" ++ ".<locals>.") ++ "<lambda>") ∈ tabsOf K := List.mem_cons_self ..
  have o_dN0 : ∀ p ∈ tabsOf K, p.1 = (He.cT K dN0).2 → p.2 = (Str.ofString "law" ++ ".<locals>.") ++ "<lambda>" := fun p hp e => by
    rcases List.mem_singleton.mp hp with rfl
    rfl
  obtain ⟨F3, KF⟩ : Cal P w K mg base (L2N.CX P w) 8 "least_alone" ["machine", "first"] (spLeastA K (adOf K) (He.ga K "Machine")) ∧ CalN P w K mg base (L2N.CX P w) 8 0 "least_alone" ["machine", "first"] ["first", "machine"] kw2 (spLeastA K (adOf K) (He.ga K "Machine")) := prg_of X G c
  have D := hd_of X G c
  have gH := (He.glo_ok X G (c.t.d.fact 20 (f := .glo "_law_fault") rfl))
  have bH : Binds K fdH ["call"] [] := FH.bindsN fun _ _ _ _ _ _ us hl => match us, hl with | [_], _ => rfl
  have clb : Cal P w K mg base CX0 1 "_law_box" ["script", "k"] (spBox K) := cal_of (He.glo_ok X G (c.t.d.fact 12 (f := .glo "_law_box") rfl)) Flb (ok_box Flb T) fun _ _ _ _ _ _ us hl => match us, hl with | [_, _], _ => rfl
  have clt : Cal P w K mg base CX0 1 "_law_take" ["box", "many"] spTake := cal_of (He.glo_ok X G (c.t.d.fact 13 (f := .glo "_law_take") rfl)) Flt (ok_take Flt T) fun _ _ _ _ _ _ us hl => match us, hl with | [_, _], _ => rfl
  have clp : Cal P w K mg base CX0 2 "_law_pick" ["box", "some"] (spPick K) := cal_of (He.glo_ok X G (c.t.d.fact 14 (f := .glo "_law_pick") rfl)) Flp (ok_pick Flp T clt) fun _ _ _ _ _ _ us hl => match us, hl with | [_, _], _ => rfl
  have clu : Cal P w K mg base CX0 3 "_law_tables" ["box", "most"] (spLTables K) := cal_of (He.glo_ok X G (c.t.d.fact 15 (f := .glo "_law_tables") rfl)) Flu (ok_ltables Flu T clt clp) fun _ _ _ _ _ _ us hl => match us, hl with | [_, _], _ => rfl
  have cln : Cal P w K mg base CX0 1 "_law_next" ["number", "turn", "rest"] spLNext := cal_of (He.glo_ok X G (c.t.d.fact 16 (f := .glo "_law_next") rfl)) Fln (ok_next Fln T) fun _ _ _ _ _ _ us hl => match us, hl with | [_, _, _], _ => rfl
  have cll : Cal P w K mg base CX0 2 "_law_lots" ["tables", "first", "rounds", "rests"] (spLotsL K) := cal_of (He.glo_ok X G (c.t.d.fact 17 (f := .glo "_law_lots") rfl)) Fll (ok_llots Fll T cln) fun _ _ _ _ _ _ us hl => match us, hl with | [_, _, _, _], _ => rfl
  have clr : Cal P w K mg base CX0 1 "_law_reached" ["tables", "first"] (spLReached K) := cal_of (He.glo_ok X G (c.t.d.fact 18 (f := .glo "_law_reached") rfl)) Flr (ok_lreached Flr T) fun _ _ _ _ _ _ us hl => match us, hl with | [_, _], _ => rfl
  have clc : Cal P w K mg base CX0 2 "_law_commute" ["tables", "first"] (spLCommute K) := cal_of (He.glo_ok X G (c.t.d.fact 19 (f := .glo "_law_commute") rfl)) Flc (ok_lcommute Flc T clr) fun _ _ _ _ _ _ us hl => match us, hl with | [_, _], _ => rfl
  have cle : Cal P w K mg base CX0 3 "_law_tell" ["tables", "first", "rounds", "rests"] (spLTell K) := cal_of (He.glo_ok X G (c.t.d.fact 21 (f := .glo "_law_tell") rfl)) Fle (ok_ltell Fle T cll) fun _ _ _ _ _ _ us hl => match us, hl with | [_, _, _, _], _ => rfl
  have clw : Cal P w K mg base CX0 4 "_law_least_right" ["box", "tables", "first", "rounds", "rests"] (spLLeast K) := cal_of (He.glo_ok X G (c.t.d.fact 22 (f := .glo "_law_least_right") rfl)) Flw (ok_lleast Flw T clt clp cle) fun _ _ _ _ _ _ us hl => match us, hl with | [_, _, _, _, _], _ => rfl
  have clf : Cal P w K mg base CX0 9 "_law_apart_right" [] spLApart := cal_of (He.glo_ok X G (c.t.d.fact 23 (f := .glo "_law_apart_right") rfl)) Flf (ok_lapart Flf T TM M F3) fun _ _ _ _ _ _ us hl => match us, hl with | [], _ => rfl
  exact ok_law FL (code_of (p := dN0) (z := "law") (st := s_law) FL) FH gH bH T TM M D t_dN0 m_dN0 o_dN0 F3 KF ⟨clb, clt, clp, clu, clc, clw, clf⟩
end KJ
open PyProof.Rows PySem PySem.W PySem.Calls
theorem PySem.Challenge.cw_onewitness_k36_whole_least_counters_that_holds : PySem.Challenge.rw_onewitness_k36_whole_least_counters_that.Holds := by
  w_on; o_law
  refine HandSHeadRun.head_imp (r := KJ.Rw) (q := view KJ.Rw.prog [0, 40]) (H := KJ.hk) (ob := KJ.ob) (M := 8000) (loose := KJ.others) (d := HandSHeadRun.topDef KJ.Rw.prog 40) (kwd := []) KJ.ob_eq
    KJ.top_runs (by kernel_rfl) (by kernel_rfl) (by kernel_rfl) (by rfl) (by first | assumption | decide +kernel) (by decide +kernel) ⟨rfl, rfl, rfl, rfl, rfl, by decide +kernel⟩ ?hw ?hc
  case hw => w_witness2
  case hc =>
    refine Kx.lone_walk (l := PySem.Challenge.rw_onewitness_k36_whole_least_counters_that) (n := 63) (k := 12) (x := "script") rfl (by decide) (by kernel_rfl) ⟨rfl, by decide, by decide⟩ ?F
    intro w mg fa h Y G hmg
    obtain ⟨K, X, c⟩ := Y
    have en : (HandSHeadRun.topDef KJ.Rw.prog 40).name = ("law" : PySem.Str) := by kernel_rfl
    rw [en] at hmg
    have at_ := He.glo_ok X G (c.t.d.fact 24 (f := .glo "law") rfl)
    have ea := KJ.ref_same hmg at_
    subst ea
    obtain ⟨fd, b, F⟩ := KJ.law_told (P := (PySem.Challenge.rw_onewitness_k36_whole_least_counters_that).prog) X G c
    refine ⟨K, fd, KJ.tf.map (He.cT K), KJ.spLaw K (KJ.tabsOf K), X, fun p hp => ?_, fun p hp => ?_, fun p hp => ?_, b, fun H a ns l hT hS => ⟨a, ns, rfl, hS, l, fun p hp => ?_, fun _ => rfl⟩, F⟩
    · obtain ⟨q, hq, rfl⟩ := List.mem_map.mp hp
      exact c.empty q hq
    · obtain ⟨q, hq, rfl⟩ := List.mem_map.mp hp
      exact c.out q hq
    · obtain ⟨q, hq, rfl⟩ := List.mem_map.mp hp
      exact PySem.W.codeHd_of_K X (c.hd q hq)
    · rewrite [List.mem_singleton.mp hp]
      exact LamX.TabS.nil (hT _ (List.mem_cons_self ..))
