import PyProof.Rows.All
import Wide.All
import OpenK.AllK
import Wide.FinOn
import HandS.ForMost
import KE.GoesMore
import PyProof.EnumMake
import HandS.ForExc
import HandS.More
import HandS.Defaults
import HandS.IsInst
import HandS.TupAny
import HandS.TupMul
import HandS.Lambda
import HandS.ExcInit
import HandS.ExcField
import PyProof.ExcAttrAll.LookupError
import HandS.MakeKwOnly
import HandS.OwnEq
import HandS.ExcIs
import KE.KExcIs
import PyProof.NeKinds
import PyProof.EqKinds
import PyProof.StrOps2
import HandS.ExcCtx
import HandS.ExcInitHot
import HandS.HotCalls
import KE.KTryMore
import HandS.HeadHook4
import HandS.Flow
import HandS.MakeKw
import HandS.Zip
import HandS.SetFor
import PyProof.InstNe
import HandS.List
import HandS.SlotsOwn
import PyProof.Rows.RegStrFacts
import HandS.Rev
import HandS.MapJoin
import PyProof.JoinWalk
import HandS.Text
import HandS.StrMore
import KE.IntTextLaws
import HandS.Iter
import HandS.SuiteRaise
import HandS.RaiseFrom
import HandS.Conv
import HandS.ReplaceLit
import HandS.ReplaceList
import HandS.Nested
import HandS.Style
import HandS.CallSlots
import HandS.Head0
import HandS.Head1
import HandS.Head2
import HandS.HeadEnd
import HandS.HeadHook1
import HandS.HeadHook2
import HandS.HeadHook3
import HandS.EndTab
import HandS.HeadWalk
import KE.KStateDown
import PySem.Challenge.RW_onewitness_k04_texts_of_machines_counter
set_option Elab.async false
set_option linter.all false
set_option maxRecDepth 100000
set_option maxHeartbeats 0
/-! enumerate(t), t a tuple; for i, x in enumerate(xs), xs a list or a tuple. -/
namespace Kx
open PySem PySem.AutoSeq1
/-- the record of a new enumerate over the iterator at j -/
abbrev enumRec (j : Addr) : Obj := { cls := .type "enumerate", data := .fields #[.none, .bool false, .ref j, rawInt 0, .none, .none] }
abbrev tupIter (t : Addr) : Obj := { cls := .type "tuple_iterator", data := .fields #[.ref t, .int 0 0] }
theorem makes_enum (t : Addr) (o : Obj) (items : Array Value) (n : Nat) (hc : o.cls = .type "tuple") (hd : o.data = .seq items n) :
    Meets (Builtin.«enumerate.__new__» ⟨[.type "enumerate", .ref t], []⟩) (fun _ R s => s.heap.get? t = some o ∧
      R (.ok (.ret (.ref (s.heap.push (tupIter t)).objs.size))) { s with heap := (s.heap.push (tupIter t)).push (enumRec s.heap.objs.size) }) := by
  refine .of_wp fun prog w A R s hs => ?_
  obtain ⟨oc, od, odt, os⟩ := o
  have hc' : oc = .type "tuple" := hc
  have hd' : odt = .seq items n := hd
  subst hc' hd'
  obtain ⟨hp, gs, dr, tk, sy⟩ := s
  obtain ⟨ht, hR⟩ := hs
  have subE := sub_enumerate
  have isT : (Shared.heap ⟨hp, gs, dr, tk, sy⟩).IsTuple t items := ⟨_, ht, rfl, n, rfl⟩
  wp_walk using wpAny_loadPart' ht
  refine wpAny_stack_any fun _ => wpAny_pure ?_
  split
  case h_1 c _ _ _ _ _ =>
    cases hq : (c == Value.type "enumerate") <;> (wp_walk using wpAny_loadPart' ht, wpAny_pyIter_tuple isT; exact ⟨_, rfl, hR⟩)
  case h_2 => wp_walk using wpAny_loadPart' ht, wpAny_pyIter_tuple isT; exact ⟨_, rfl, hR⟩
theorem call_enum {prog : Program} {w : World} {A : Around} {E : Value → Shared → Prop} {s : Shared} {t : Addr} {items : Array Value} {Q : Value → Shared → Prop} (hT : s.heap.IsTuple t items)
    (hQ : ∀ g : Heap, IsEnum g (s.heap.objs.size + 1) s.heap.objs.size 0 .none → g.IsTupleIter s.heap.objs.size t 0 → (∀ b o, s.heap.get? b = some o → g.get? b = some o) → Q (.ref (s.heap.objs.size + 1)) { s with heap := g }) :
    wpAny (model prog w) A (call (.type "enumerate") [.ref t]) Q E s := by
  obtain ⟨o, ho, hc, len, hd⟩ := hT
  have two : (s.heap.push (tupIter t)).objs.size = s.heap.objs.size + 1 := Heap.size_push ..
  have atE : ((s.heap.push (tupIter t)).push (enumRec s.heap.objs.size)).get? (s.heap.objs.size + 1) = some (enumRec s.heap.objs.size) := by
    rw [← two]; exact Heap.get?_push_size _ rfl
  have old : ∀ b u, s.heap.get? b = some u → ((s.heap.push (tupIter t)).push (enumRec s.heap.objs.size)).get? b = some u := fun b u z => Heap.get?_push_of_some _ (Heap.get?_push_of_some _ z)
  have it : ((s.heap.push (tupIter t)).push (enumRec s.heap.objs.size)).IsTupleIter s.heap.objs.size t 0 := ⟨_, Heap.get?_push_of_some _ (Heap.get?_push_size _ rfl), rfl, rfl⟩
  refine callType_new F.called_enumerate (by decide) (F.typeCall_enumerate_1 _) (F.newCall_enumerate_1 _) (fun q => F.args_object_init_2 q _) F.entry_enumerate_new (makes_enum t o items len hc hd) ⟨ho, ?_⟩
  show _ ∧ _
  rw [two]
  exact ⟨⟨_, atE, rfl⟩, hQ _ atE it old⟩
end Kx
namespace Kx
open L2 PySem PySem.Spec PyProof.Rows
/-- item i of the tuple at a, with its number, in a new pair -/
def ItPair (K : PySem.W.Frag) (a : Addr) : It where
  go := fun i H => ∃ (xs : List V) (x : V), SqT K H a xs ∧ xs[i]? = some x
  yld := fun i H v H' => ∃ (p : Addr) (x : V), v = .ref p ∧ H p = none ∧ H' = upd H p (.tup [.int (i : Nat), x]) ∧ ∀ xs, SqT K H a xs → xs[i]? = some x
  stop := fun i H => ∃ xs : List V, SqT K H a xs ∧ xs.length ≤ i
theorem one_of {b e j : Addr} (h : b ∈ [e, j]) : b = e ∨ b = j := by simpa using h
theorem turn_pair {P : Program} {w : World} {K : PySem.W.Frag} {es : List Expr} {k0 : Nat} {tp : Pos} (a e j : Addr) (aj : a ≠ j) (ae : a ≠ e) :
    Turn P w K (.Tuple es k0 tp) (ItPair K a) [e, j] e (fun i h => (∃ z, IsEnum h e j ((i : Nat) : Int) z) ∧ h.IsTupleIter j a i ∧ e ≠ j) where
  mem := List.mem_cons_self
  obj := by
    rintro i h ⟨⟨z, hz⟩, ⟨o, ho, _, hd⟩, _⟩ b hb
    rcases one_of hb with q | q <;> rw [q]
    · exact ⟨_, hz, fun _ y => nomatch y⟩
    · exact ⟨o, ho, fun _ y => by rw [hd] at y; cases y⟩
  keep := by
    rintro i h h' ⟨⟨z, hz⟩, hj, ne⟩ k
    exact ⟨⟨z, k e List.mem_cons_self _ hz⟩, hj.at fun o y => k j (by simp) o y, ne⟩
  item := by
    rintro X rfl rfl rfl calm i pins s σ H E I far ⟨⟨z, hz⟩, hj, ne⟩ ⟨xs, x, hx, hi⟩
    obtain ⟨vs, rel, isT, _⟩ := I.tuple hx
    obtain ⟨v, hv, rv⟩ := rel.get hi
    have lt : i < vs.toArray.size := by simpa using (List.getElem?_eq_some_iff.mp hv).1
    have D := Draws.tuple (prog := X.prog) (w := X.w) (A := X.A.in1) (I.ok.hd calm) j a aj vs.toArray
    have e_out : e ∉ [j, a] := by
      simp only [List.mem_cons, List.not_mem_nil, or_false, not_or]
      exact ⟨ne, fun y => ae y.symm⟩
    refine wpAny_pyNext_enum_itemD D hz ⟨hj, isT⟩ lt ne e_out fun y g tk hy out hj' pair _ rest => ?_
    obtain rfl : y = v := by
      have : vs.toArray[i]? = some v := by simpa using hv
      exact Option.some.inj (hy.symm.trans this)
    refine ⟨_, rfl, wpAny_letOwnedTupleGo_enum (s := { s with heap := g, toks := tk + 1 }) out fun g' back but => ?_⟩
    have sz : e < s.heap.objs.size := Heap.lt_size hz
    have szj : j < s.heap.objs.size := let ⟨_, y, _⟩ := hj; Heap.lt_size y
    have pair' : g'.get? s.heap.objs.size = some { cls := .type "tuple", data := .seq #[.int i tk, y] } := (but.2 _ (Nat.ne_of_gt sz)).trans pair
    have laid : ObjOk X.prog X.w (upd H s.heap.objs.size (.tup [.int (i : Nat), x])) g' s.heap.objs.size (.tup [.int (i : Nat), x]) := ⟨(by decide : 2 ≤ sizeLine), [.int i tk, y], .cons ⟨tk, rfl⟩ (.cons rv .nil), _, pair', rfl, _, rfl⟩
    have kept : ∀ b o, b ∉ [e, j] → s.heap.get? b = some o → g'.get? b = some o := fun b o out y => by
      have n1 : b ≠ e := fun q => out (by rw [q]; exact List.mem_cons_self)
      have n2 : b ≠ j := fun q => out (by rw [q]; simp)
      exact (but.2 b n1).trans (rest b o n1 n2 y)
    have J := I.turnedNew (ch := [e, j]) kept far (Nat.le_refl _) laid (t' := tk + 1)
    have num : ((i + 1 : Nat) : Int) = (i : Int) + 1 := by omega
    refine ⟨.ref s.heap.objs.size, _, J, rfl, ⟨_, x, rfl, I.hok.fresh (Nat.le_refl _), rfl, fun ys hys => by rw [I.tuple_inj hys hx]; exact hi⟩, ⟨⟨y, by rw [num]; exact back⟩, hj'.1.at fun o q => (but.2 j ne.symm).trans q, ne⟩, fun b hb => ?_⟩
    have small : b < s.heap.objs.size := by
      rcases one_of hb with q | q <;> rw [q]
      · exact sz
      · exact szj
    rw [upd_ne (Nat.ne_of_lt small)]
    exact (far b hb).1
  done := by
    rintro X rfl rfl rfl calm i pins s σ H E I far ⟨⟨z, hz⟩, hj, ne⟩ ⟨xs, hx, hi⟩
    obtain ⟨vs, rel, isT, _⟩ := I.tuple hx
    obtain ⟨g0, g1, _, g3, g4, g5⟩ := far j (by simp)
    have none_ : vs.toArray[i]? = none := by
      have := rel.length
      simp
      omega
    unfold pyNext
    refine wpAny_bind (wpAny_attempt (wpAny_callSpecial?_slot (s := s) (name := Str.ofString "__next__") ⟨_, hz, rfl⟩ F.slot_enumerate_next (wpAny_call_entry F.slot_enumerate_next ⟨_, hz, rfl⟩ F.entry_enumerate_next ?_ (F.args_enumerate_next_1 _))))
    show wpAny _ _ (field (.ref e) 2 >>= _) _ _ s
    refine wpAny_bind (wpAny_field hz rfl (x := .ref j) rfl (wpAny_bind (wpAny_nextOf_tuple_end (I.ok.hd calm) hj isT none_ fun g x kept stop => ?_)))
    obtain ⟨o, ho, hc⟩ := stop
    exact wpAny_bind (wpAny_isInstance (T := "StopIteration") (b := true) ⟨o, ho, hc⟩ isSubtype_stop (wpAny_pure ⟨rfl, I.turned (t' := s.toks) (fun b o hb y => kept b o hb y) g0 g1 g3 g4 g5⟩))
  self := by
    rintro A i s Q E ⟨⟨z, hz⟩, _⟩ h
    exact wpAny_pyIter_enum hz h
/-- a list or a tuple -/
def Sq (K : PySem.W.Frag) (H : Hp) (a : Addr) (xs : List V) : Prop := SqL K H a xs ∨ SqT K H a xs
def iPairs (K : PySem.W.Frag) (ta : TA) : TI := fun σ H R => ta σ H fun vs H1 => ∃ (a : Addr) (xs : List V), vs = [.ref a] ∧ ((SqL K H1 a xs ∧ R (Ite K a) H1) ∨ (SqT K H1 a xs ∧ R (ItPair K a) H1))
theorem pi_pairs {X : Cx} {e : Expr} {ta : TA} {p pos tp : Pos} {es : List Expr} {k0 : Nat} (hg : Gl X "enumerate") (hm : X.mg "enumerate" = none) (ha : PA X [e] ta) (hs : starEach [e] X.env = [(false, eval e X.env)] := by rfl) :
    PI X (.Tuple es k0 tp) (.Call (.Name "enumerate" p) [e] [] pos) (iPairs X.K ta) := by
  refine ⟨fun pins s σ H R I h => Call_ (ld_blt I hg hm boot_enumerate (PyProof.Rows.callWith_type1 (thn (ha.run pos pins s σ H _ I h) fun us t ⟨vs, H1, J, rel, a, xs, ev, how⟩ => ?_) hs rfl))⟩
  subst ev
  obtain ⟨u, rfl, ru⟩ := vals1 rel
  obtain rfl := (show u = Value.ref a from ru)
  have far : ∀ b ∈ [t.heap.objs.size + 1, t.heap.objs.size], FpOk X pins H1 b := fun b hb => by
    have ge : t.heap.objs.size ≤ b := by
      rcases one_of hb with q | q <;> rw [q]
      · exact Nat.le_succ _
      · exact Nat.le_refl _
    exact J.fpOk ge (J.hok.fresh ge)
  rcases how with ⟨hx, q⟩ | ⟨hx, q⟩
  · obtain ⟨_, _, isL, _⟩ := J.list hx
    refine call_enumerate_list isL.isList fun g hz hj _ k => wpAny_pyIter_enum hz ?_
    exact ⟨_, _, _, _, H1, rfl, J.kept (t' := t.toks) k, turn_enum a _ _, ⟨⟨.none, hz⟩, hj, Nat.succ_ne_self _⟩, far, q⟩
  · obtain ⟨_, _, isT, _⟩ := J.tuple hx
    have lt := isT.lt
    refine call_enum isT fun g hz hj k => wpAny_pyIter_enum hz ?_
    exact ⟨_, _, _, _, H1, rfl, J.kept (t' := t.toks) k, turn_pair a _ _ (Nat.ne_of_lt lt) (Nat.ne_of_lt (Nat.lt_succ_of_lt lt)), ⟨⟨.none, hz⟩, hj, Nat.succ_ne_self _⟩, far, q⟩
end Kx
/-! A try with several clauses «except C as n»: each clause stores what was caught at its own place. -/
namespace Kx
open PySem PyProof.Rows L2 PySem.Spec

/-- an error that came down to this frame and whose flight is over; `old` is the state without it -/
structure Down (X : Cx) (pins : List (Addr × Obj)) (σ : L2.St) (H : Hp) (x : Addr) (cls : Value) (d : Option Addr) (G : Heap) (old now : Shared) : Prop where
  was : Inv X pins σ H old
  low : ∀ b o, old.heap.get? b = some o → b ∉ frs X.stack → G.get? b = some o
  up : old.heap.UpToSlots now.heap
  fly : HandSPX.FlyingZ G (X.env :: X.outer) x (Zc cls d) now.heap
  fresh : H x = none
  sys : now.os = old.os
  bare : AllBare now.gens
section
variable {X : Cx} {pins : List (Addr × Obj)} {σ : L2.St} {H : Hp} {x : Addr} {cls : Value} {d : Option Addr} {G : Heap} {old now : Shared}
theorem Down.inv (D : Down X pins σ H x cls d G old now) : Inv X pins σ H now := D.was.landed D.low D.fly.1 D.up D.sys D.bare
/-- the record, and that it is no frame -/
theorem Down.rec_ (D : Down X pins σ H x cls d G old now) (hf : X.env.frame = some X.env.locals) :
    ∃ (ob : Obj) (vs : Array Value), now.heap.get? x = some ob ∧ Zc cls d ob ∧ ob.data = .fields vs ∧ x ≠ X.env.locals ∧ x ∉ X.fs := by
  obtain ⟨ob, vs, h1, h2, h3⟩ := D.fly.there
  have out : x ∉ frs (X.env :: X.outer) := by
    intro hm
    obtain ⟨_, ob2, h4, h5⟩ := D.fly.2.2.1.mem hm
    rw [h1] at h4
    cases h4
    exact h5 _ h3
  refine ⟨ob, vs, h1, h2, h3, fun z => out ?_, fun hm => out ?_⟩
  · exact List.mem_filterMap.mpr ⟨_, List.mem_cons_self, by rw [hf, z]⟩
  · obtain ⟨e1, h6, h7⟩ := List.mem_filterMap.mp hm
    exact List.mem_filterMap.mpr ⟨e1, List.mem_cons_of_mem _ h6, h7⟩
/-- within a suite -/
theorem Down.held (D : Down X pins σ H x cls d G old now) (hf : X.env.frame = some X.env.locals) :
    ∃ ob : Obj, now.heap.get? x = some ob ∧ Zc cls d ob ∧ (∃ vs, ob.data = .fields vs) ∧ Inv (X.suite x ((x, ob) :: (X.pn ++ pins))) [] σ H now := by
  obtain ⟨ob, vs, h1, h2, h3, h4, h5⟩ := D.rec_ hf
  exact ⟨ob, h1, h2, ⟨vs, h3⟩, D.inv.suite h1 h3 D.fresh h4 h5⟩
/-- no clause takes it: it goes on -/
theorem Down.goes {pos : Pos} {E : Ends} {W : WX} (D : Down X pins σ H x cls d G old now) (hs : X.stack = X.env :: X.outer) (hf : X.env.frame = some X.env.locals) (tk : Takes X W) (hw : W cls d σ H) :
    wpAny (model X.prog X.w) X.A (handleBy (.ref x) X.env []) (SP X pins E) X.xe now := by
  obtain ⟨_, _, _, ob, vs, T, _, _, h1, _, h3, h4, _⟩ := D.fly
  have away : wpAny (model X.prog X.w) X.A (setFlight (.ref x) X.env.frame) (fun _ s => wpAny (model X.prog X.w) X.A (throw (.ref x) : Sem Flow) (SP X pins E) X.xe s) X.xe now := by
    rw [hf]
    refine HandSPX.setFlight_upZ D.fly fun h' held up' => wpAny_throw (tk _ _ ⟨x, G, old, pins, σ, H, cls, d, rfl, D.was, D.low, D.up.trans up', ?_, D.fresh, D.sys, D.bare, hw⟩)
    rw [hs]
    exact .inr (.inr held)
  refine wpAny_handleBy_nil (wpAny_bind (wpAny_field h1 h3 h4 ?_))
  have some_ : ¬ ((Value.ref T == Value.none) = true) := by simp
  rw [if_neg some_]
  first
    | exact wpAny_bind away
    | exact wpAny_bind (wpAny_pure (wpAny_bind away))
end
/-- one clause: the class it names, the place of its name, its suite's reading -/
abbrev Clause : Type := Value × Nat × (Addr → Value → Option Addr → TS)
/-- behind a suite the name at i is gone -/
def bare (E : Ends) (i : Nat) : Ends where
  nx := fun σ H => E.nx (σ.set i none) H
  rt := E.rt
  bk := fun σ H => E.bk (σ.set i none) H
  ct := fun σ H => E.ct (σ.set i none) H
/-- what is asked of an error that the body lets out -/
def asks (K : PySem.W.Frag) (W : WX) (E : Ends) : List Clause → WX
  | [] => W
  | k :: r => fun cls d σ H => ∃ y, PySem.W.exmOne K cls k.1 = some y ∧ (y = true → ∀ x, H x = none → k.2.2 x cls d (bare E k.2.1) (σ.set k.2.1 (some (.ref x))) H) ∧ (y = false → asks K W E r cls d σ H)
inductive Clauses (X : Cx) : List ExceptHandler → List Clause → Prop
  | nil : Clauses X [] []
  | cons {nm n : Str} {i : Nat} {c : Value} {t : Addr → Value → Option Addr → TS} {st : Stmt} {more : List Stmt} {p1 p2 : Pos} {hs : List ExceptHandler} {ks : List Clause} (nd : X.N.Nodup) (at_ : X.N[i]? = some n) (loc : X.env.kindOf n = some .local) (cl : Names X nm c)
      (su : ∀ (x : Addr) (ob : Obj) (cls : Value) (d : Option Addr) (pn : List (Addr × Obj)), Zc cls d ob → (∃ vs, ob.data = .fields vs) → PSs (X.suite x ((x, ob) :: pn)) (st :: more) (t x cls d)) (rest : Clauses X hs ks) :
      Clauses X (.ExceptHandler (some (.Name nm p1)) (some n) (st :: more) p2 :: hs) ((c, i, t) :: ks)
section
variable {X : Cx} {pins : List (Addr × Obj)} {σ : L2.St} {H : Hp} {x : Addr} {cls : Value} {d : Option Addr} {G : Heap} {old now : Shared} {E : Ends} {W : WX}
theorem name_there {nm : Str} {c : Value} {p1 : Pos} {ob : Obj} {Q E' : Value → Shared → Prop} (cl : Names X nm c) (J : Inv (X.suite x ((x, ob) :: (X.pn ++ pins))) [] σ H now) (q : Q c now) :
    wpAny (model X.prog X.w) (X.A.mark (some (.ref x))) (eval (.Name nm p1) X.env) Q E' now := by
  obtain ⟨g, db, m | ⟨m, b, nn⟩⟩ := cl
  · exact ld_glob J g m q db
  · exact ld_blt J g m b q nn db
theorem Down.clauses (D : Down X pins σ H x cls d G old now) (hs : X.stack = X.env :: X.outer) (hf : X.env.frame = some X.env.locals) (tk : Takes X W) {hds : List ExceptHandler} {ks : List Clause} (C : Clauses X hds ks) (w : asks X.K W E ks cls d σ H) :
    wpAny (model X.prog X.w) X.A (handleBy (.ref x) X.env hds) (SP X pins E) X.xe now := by
  induction C with
  | nil => exact D.goes (pos := ⟨0, 0, 0, 0⟩) hs hf tk w
  | @cons nm n i c t st more p1 p2 hs' ks' nd at_ loc cl su rest ih =>
    obtain ⟨y, hy, yes, no⟩ := w
    obtain ⟨ob, h1, h2, h3, J⟩ := D.held hf
    refine wpAny_handleBy_cons (codeAny_handlers_test (name_there cl J ?_)) (fun z => nomatch z)
    have ty : PySem.W.Looks (model X.prog X.w) now.heap (typeOf (.ref x)) cls := fun _ _ _ _ k q => wpAny_typeOf_ref (k _ _ h1) (by rw [h2.1]; exact q)
    refine (PySem.W.exm_one D.inv.kIn ty hy).here ?_
    cases y with
    | false => exact ih (no rfl)
    | true =>
      refine codeAny_handlers_suite_as (HandSPX.lands_againZ D.fly fun h' fl up' => ?_)
      have D' : Down X pins σ H x cls d G old { now with heap := h' } := ⟨D.was, D.low, D.up.trans up', fl, D.fresh, D.sys, D.bare⟩
      obtain ⟨ob', _, g2, g3, J'⟩ := D'.held hf
      refine store_ok (X := X.suite x ((x, ob') :: (X.pn ++ pins))) (v := .ref x) J' nd at_ (.inl loc) rfl (fun s2 J2 => ?_) (.inr loc)
      refine wpAny_mono ((su x ob' cls d (X.pn ++ pins) g2 g3).run [] s2 _ H _ J2 (yes rfl x D.fresh)) (fun f s3 hf3 => ?_) (fun _ _ z => z.elim)
      have gone : ∀ {σ3 : L2.St} {H3 : Hp} {R : Shared → Prop}, Inv (X.suite x ((x, ob') :: (X.pn ++ pins))) [] σ3 H3 s3 → (∀ s4, Inv X pins (σ3.set i none) H3 s4 → R s4) →
          wpAny (model X.prog X.w) X.A (do bindName X.env n .none; unbindBehindTheSuite X.env n p2) (fun _ s4 => R s4) X.xe s3 := fun J3 q => gone_ok (J3.unsuite D.was.ok) nd at_ loc q
      match f, hf3 with
      | .next, ⟨_, _, J3, q⟩ => exact gone J3 fun _ J4 => ⟨_, _, J4, q⟩
      | .brk, ⟨_, _, J3, q⟩ => exact gone J3 fun _ J4 => ⟨_, _, J4, q⟩
      | .cont, ⟨_, _, J3, q⟩ => exact gone J3 fun _ J4 => ⟨_, _, J4, q⟩
      | .ret _, ⟨_, _, _, J3, r, q⟩ => exact gone J3 fun _ J4 => ⟨_, _, _, J4, r, q⟩
end
/-- try: body / except C as n: .. / except D as m: .. -/
theorem ps_tries {X : Cx} {body : List Stmt} {hd : ExceptHandler} {hds : List ExceptHandler} {ks : List Clause} {pos : Pos} {tb : WX → TS} {W : WX} (hs : X.stack = X.env :: X.outer) (hf : X.env.frame = some X.env.locals) (tk : Takes X W)
    (hb : ∀ (U : WX) (pn : List (Addr × Obj)) (xe : Value → Shared → Prop), Takes (X.tr pn xe) U → PassesOwn (model X.prog X.w) X.A X.env xe → PSs (X.tr pn xe) body (tb U)) (C : Clauses X (hd :: hds) ks) :
    PS X (.Try body (hd :: hds) [] [] pos) (fun E σ H => tb (asks X.K W E ks) E σ H) := by
  refine ⟨fun pins s σ H E I h => wpAny_Try_except ?_⟩
  have top : X.A.frames = some (X.env :: X.outer) := by rw [I.ok.frames, hs]
  have inner := hb (asks X.K W E ks) (X.pn ++ pins) (fun e s1 => wpAny (model X.prog X.w) X.A (noteFrame e X.env) (fun _ s2 => wpAny (model X.prog X.w) X.A (setFlight e none)
    (fun _ s3 => wpAny (model X.prog X.w) X.A (handleBy e X.env (hd :: hds)) (SP X pins E) X.xe s3) X.xe s2) X.xe s1) ?_ PassesOwn.looking
  · refine wpAny_mono (inner.run [] s σ H E (I.toTry _) h) (fun f s1 q => ?_) (fun _ _ z => z)
    match f, q with
    | .next, ⟨_, _, J, q⟩ => exact wpAny_execs_nil ⟨_, _, J.ofTry I.ok, q⟩
    | .brk, ⟨_, _, J, q⟩ => exact ⟨_, _, J.ofTry I.ok, q⟩
    | .cont, ⟨_, _, J, q⟩ => exact ⟨_, _, J.ofTry I.ok, q⟩
    | .ret _, ⟨_, _, _, J, r, q⟩ => exact ⟨_, _, _, J.ofTry I.ok, r, q⟩
  · rintro u s1 ⟨x, G, old, _, σ1, H1, cls, d, rfl, J, low, up, sky, fr, sys, bare, w⟩
    rw [show (X.tr (X.pn ++ pins) _).stack = X.env :: X.outer from hs] at sky
    refine Sky.land Zc.steady top hf sky fun h' fl up' => ?_
    exact Down.clauses (now := { s1 with heap := h' }) ⟨J.ofTry I.ok, low, up.trans up', fl, fr, sys, bare⟩ hs hf tk C w
end Kx
/-! Sequences, values of any known kind, calls by a bundle of facts. -/
namespace Kx
open L2 PySem PySem.Spec PyProof.Rows
section
variable {K : PySem.W.Frag} {H H' : Hp} {a b : Addr} {xs ys : List V} {o : HO}
theorem rd_same (e : Same H H') {u : HO} (h : Rd H a u) : Rd H' a u := h.elim (fun q => .inl (e _ _ q)) fun ⟨z, q⟩ => .inr ⟨z, e _ _ q⟩
theorem sqL_same (e : Same H H') (h : SqL K H a xs) : SqL K H' a xs := h.elim (fun q => .inl (rd_same e q)) .inr
theorem sqT_same (e : Same H H') (h : SqT K H a xs) : SqT K H' a xs := h.elim (fun q => .inl (rd_same e q)) .inr
theorem Sq.same (e : Same H H') (h : Sq K H a xs) : Sq K H' a xs := h.elim (fun q => .inl (sqL_same e q)) fun q => .inr (sqT_same e q)
theorem rd_upd (ne : a ≠ b) {u : HO} (h : Rd H a u) : Rd (upd H b o) a u := h.elim (fun q => .inl (by rw [upd_ne ne]; exact q)) fun ⟨z, q⟩ => .inr ⟨z, by rw [upd_ne ne]; exact q⟩
theorem sqL_upd (ne : a ≠ b) (h : SqL K H a xs) : SqL K (upd H b o) a xs := h.elim (fun q => .inl (rd_upd ne q)) .inr
theorem sqT_upd (ne : a ≠ b) (h : SqT K H a xs) : SqT K (upd H b o) a xs := h.elim (fun q => .inl (rd_upd ne q)) .inr
theorem Sq.upd (ne : a ≠ b) (h : Sq K H a xs) : Sq K (L2.upd H b o) a xs := h.elim (fun q => .inl (sqL_upd ne q)) fun q => .inr (sqT_upd ne q)
theorem same_new (h : H b = none) : Same H (upd H b o) := fun c u q => by
  rw [upd_ne (ne_of_none q h)]
  exact q
end
/-! ### loops over a list or a tuple -/
/-- the end of a loop's word: W by a word of the turn -/
theorem for_by {J : It} {n : Nat} {g : TG} {tb : TS} {D : Ends} {σ : L2.St} {H : Hp} (Pv : Nat → L2.St → Hp → Prop) (h0 : Pv 0 σ H)
    (go : ∀ i σ H, i < n → Pv i σ H → J.go i H ∧ ∀ x H', J.yld i H x H' → g x σ H' fun σ2 H2 => tb { D with nx := Pv (i + 1), ct := Pv (i + 1), bk := D.nx } σ2 H2)
    (stop : ∀ σ H, Pv n σ H → J.stop n H ∧ D.nx σ H) :
    ∃ W : Nat → Nat → L2.St → Hp → Prop, (∃ m, W 0 m σ H) ∧ ∀ i m σ H, W i m σ H → (J.stop i H ∧ D.nx σ H) ∨ (J.go i H ∧ ∃ N : L2.St → Hp → Prop, (∀ σ' H', N σ' H' → ∃ m', m' < m ∧ W (i + 1) m' σ' H') ∧ ∀ x H', J.yld i H x H' → g x σ H' fun σ2 H2 => tb { D with nx := N, ct := N, bk := D.nx } σ2 H2) := by
  refine ⟨fun i m σ H => m = n - i ∧ i ≤ n ∧ Pv i σ H, ⟨n, rfl, Nat.zero_le n, h0⟩, ?_⟩
  rintro i m σ H ⟨rfl, le, p⟩
  rcases Nat.lt_or_eq_of_le le with lt | rfl
  · obtain ⟨g1, g2⟩ := go i σ H lt p
    exact .inr ⟨g1, Pv (i + 1), fun σ' H' p' => ⟨n - (i + 1), by omega, rfl, lt, p'⟩, g2⟩
  · exact .inl (stop σ H p)
abbrev forR (g : TG) (tb : TS) (D : Ends) (σ : L2.St) : It → Hp → Prop := fun J H => ∃ W : Nat → Nat → L2.St → Hp → Prop, (∃ m, W 0 m σ H) ∧ ∀ i m σ H, W i m σ H →
  (J.stop i H ∧ D.nx σ H) ∨ (J.go i H ∧ ∃ N : L2.St → Hp → Prop, (∀ σ' H', N σ' H' → ∃ m', m' < m ∧ W (i + 1) m' σ' H') ∧ ∀ x H', J.yld i H x H' → g x σ H' fun σ2 H2 => tb { D with nx := N, ct := N, bk := D.nx } σ2 H2)
/-- for i, x in enumerate(xs) -/
theorem for_pairs {K : PySem.W.Frag} {a : Addr} {xs : List V} {g : TG} {tb : TS} {D : Ends} {σ : L2.St} {H : Hp} (hx : Sq K H a xs) (Pv : Nat → L2.St → Hp → Prop) (h0 : Pv 0 σ H) (hs : ∀ i σ' H', Pv i σ' H' → Same H H')
    (turn : ∀ (i : Nat) (x : V) (p : Addr) σ' H', xs[i]? = some x → Pv i σ' H' → H' p = none → g (.ref p) σ' (upd H' p (.tup [.int (i : Int), x])) fun σ2 H2 => tb { D with nx := Pv (i + 1), ct := Pv (i + 1), bk := D.nx } σ2 H2)
    (hd : ∀ σ' H', Pv xs.length σ' H' → D.nx σ' H') : (SqL K H a xs ∧ forR g tb D σ (Ite K a) H) ∨ (SqT K H a xs ∧ forR g tb D σ (ItPair K a) H) := by
  refine hx.imp (fun q => ⟨q, for_by (n := xs.length) Pv h0 ?_ ?_⟩) fun q => ⟨q, for_by (n := xs.length) Pv h0 ?_ ?_⟩
  · intro i σ' H' lt p
    have q' := sqL_same (hs i σ' H' p) q
    refine ⟨⟨xs, xs[i], q', List.getElem?_eq_getElem lt⟩, ?_⟩
    rintro v H2 ⟨pr, x, rfl, hn, rfl, hx⟩
    exact turn i x pr σ' H' (hx xs q') p hn
  · exact fun σ' H' p => ⟨⟨xs, sqL_same (hs _ σ' H' p) q, Nat.le_refl _⟩, hd σ' H' p⟩
  · intro i σ' H' lt p
    have q' := sqT_same (hs i σ' H' p) q
    refine ⟨⟨xs, xs[i], q', List.getElem?_eq_getElem lt⟩, ?_⟩
    rintro v H2 ⟨pr, x, rfl, hn, rfl, hx⟩
    exact turn i x pr σ' H' (hx xs q') p hn
  · exact fun σ' H' p => ⟨⟨xs, sqT_same (hs _ σ' H' p) q, Nat.le_refl _⟩, hd σ' H' p⟩
/-- for x in xs, xs a list or a tuple -/
def iAny (K : PySem.W.Frag) (tl : TE) : TI := fun σ H R => tl σ H fun x H1 => ∃ (a : Addr) (xs : List V), x = .ref a ∧ ((SqL K H1 a xs ∧ R (Itl K a) H1) ∨ (SqT K H1 a xs ∧ R (Itt K a) H1))
theorem pi_any {X : Cx} {tg e : Expr} {te : TE} (he : PE X e te) : PI X tg e (iAny X.K te) := by
  refine ⟨fun pins s σ H R I h => thn (he.run pins s σ H _ I h) fun u t ⟨x, H1, J, rx, a, xs, ex, how⟩ => ?_⟩
  subst ex
  obtain rfl := (show u = Value.ref a from rx)
  have far : ∀ b ∈ [t.heap.objs.size], FpOk X pins H1 b := fun b hb => by
    obtain rfl := (show b = t.heap.objs.size by simpa using hb)
    exact J.fpOk (Nat.le_refl _) (J.hok.fresh (Nat.le_refl _))
  have kept : ∀ (o : Obj) (b : Addr) (v : Obj), t.heap.get? b = some v → (t.heap.push o).get? b = some v := fun o b v z => Heap.get?_push_of_some _ z
  have new : ∀ (o : Obj), o.isFreed = false → (t.heap.push o).get? t.heap.objs.size = some o := fun o z => Heap.get?_push_size _ z
  rcases how with ⟨hx, q⟩ | ⟨hx, q⟩
  · obtain ⟨_, _, isL, _⟩ := J.list hx
    exact wpAny_pyIter_list isL.isList ⟨_, _, _, _, H1, rfl, J.kept (t' := t.toks) (kept _), turn_list a _, ⟨_, new _ rfl, rfl, rfl⟩, far, q⟩
  · obtain ⟨_, vs, isT, _⟩ := J.tuple hx
    exact wpAny_pyIter_tuple isT ⟨_, _, _, _, H1, rfl, J.kept (t' := t.toks) (kept _), turn_tuple a _, ⟨_, new _ rfl, rfl, rfl⟩, far, q⟩
theorem for_any {K : PySem.W.Frag} {a : Addr} {xs : List V} {g : TG} {tb : TS} {D : Ends} {σ : L2.St} {H : Hp} (hx : Sq K H a xs) (Pv : Nat → L2.St → Hp → Prop) (h0 : Pv 0 σ H)
    (hl : ∀ i σ' H', Pv i σ' H' → SqL K H a xs → SqL K H' a xs) (ht : ∀ i σ' H', Pv i σ' H' → SqT K H a xs → SqT K H' a xs)
    (turn : ∀ (i : Nat) (x : V) σ' H', xs[i]? = some x → Pv i σ' H' → g x σ' H' fun σ2 H2 => tb { D with nx := Pv (i + 1), ct := Pv (i + 1), bk := D.nx } σ2 H2)
    (hd : ∀ σ' H', Pv xs.length σ' H' → D.nx σ' H') : (SqL K H a xs ∧ forR g tb D σ (Itl K a) H) ∨ (SqT K H a xs ∧ forR g tb D σ (Itt K a) H) := by
  refine hx.imp (fun q => ⟨q, for_by (n := xs.length) Pv h0 ?_ ?_⟩) fun q => ⟨q, for_by (n := xs.length) Pv h0 ?_ ?_⟩
  · intro i σ' H' lt p
    have q' := hl i σ' H' p q
    refine ⟨⟨xs, xs[i], q', List.getElem?_eq_getElem lt⟩, ?_⟩
    rintro v H2 ⟨rfl, hv⟩
    exact turn i v σ' _ (hv xs q') p
  · exact fun σ' H' p => ⟨⟨xs, hl _ σ' H' p q, Nat.le_refl _⟩, hd σ' H' p⟩
  · intro i σ' H' lt p
    have q' := ht i σ' H' p q
    refine ⟨⟨xs, xs[i], q', List.getElem?_eq_getElem lt⟩, ?_⟩
    rintro v H2 ⟨rfl, hv⟩
    exact turn i v σ' _ (hv xs q') p
  · exact fun σ' H' p => ⟨⟨xs, ht _ σ' H' p q, Nat.le_refl _⟩, hd σ' H' p⟩
/-! ### values of a known kind -/
/-- v is no object, or a list, or a tuple -/
inductive Kn (K : PySem.W.Frag) (H : Hp) : V → Prop
  | non : Kn K H .non
  | bl (b : Bool) : Kn K H (.bl b)
  | int (i : Int) : Kn K H (.int i)
  | str (x : Str) : Kn K H (.str x)
  | seq {a : Addr} {xs : List V} (h : Sq K H a xs) : Kn K H (.ref a)
theorem Kn.same {K : PySem.W.Frag} {H H' : Hp} {v : V} (e : Same H H') (h : Kn K H v) : Kn K H' v := by
  cases h with
  | non => exact .non
  | bl b => exact .bl b
  | int i => exact .int i
  | str x => exact .str x
  | seq q => exact .seq (q.same e)
theorem tyx_list {K : PySem.W.Frag} {H : Hp} {a : Addr} {xs : List V} (h : SqL K H a xs) : TyX K H (.ref a) (.type "list") := by
  rcases h with (q | ⟨o, q⟩) | q
  · exact .base (.lst q)
  · exact .base (.frz q)
  · obtain ⟨_, _, _, q, r, _⟩ := q
    exact .kList q r
theorem tyx_tuple {K : PySem.W.Frag} {H : Hp} {a : Addr} {xs : List V} (h : SqT K H a xs) : TyX K H (.ref a) (.type "tuple") := by
  rcases h with (q | ⟨o, q⟩) | q
  · exact .base (.tup q)
  · exact .fTuple q
  · obtain ⟨_, _, _, q, r, _⟩ := q
    exact .kTuple q r
/-! ### a def that is known: its name, where it stands, what it takes, what it promises -/
structure Cal (P : Program) (w : World) (K : PySem.W.Frag) (mg : Str → Option Value) (base : Heap) (CX : CXT) (k : Nat) (x : Str) (ps : List Str) (sp : Sp) : Prop where
  ex : ∃ (f : Addr) (fd : FuncData), mg x = some (.ref f) ∧ PySem.W.keepIn K (.ref f) = true ∧ Binds K fd ps [] ∧ FnOk P w K mg base CX k f fd ps sp
section
variable {X : Cx} {CX : CXT} {k j : Nat} {x : Str} {ps : List Str} {sp : Sp} {e : Expr} {es : List Expr} {t : TA} {E : XK} {p pos : Pos}
theorem pe_callC (c : Cal X.prog X.w X.K X.mg X.base CX k x ps sp) (hr : Room j X.A) (hx : Passes CX X E) (ha : PA X (e :: es) t) (hk : k ≤ j := by decide) (hg : Gl X x := by rfl) (hdb : (x == ("__debug__" : Str)) = false := by decide)
    (he : starEach (e :: es) X.env = (false, eval e X.env) :: starEach es X.env := by rfl) (hpl : (backTo pos (starEach es X.env)).any (·.1) = false := by rfl) : PE X (.Call (.Name x p) (e :: es) [] pos) (tCall sp [] E t) := by
  obtain ⟨f, fd, h1, h2, h3, h4⟩ := c.ex
  exact pe_call h4 (hr.mono hk) hg h1 h2 h3 .nil hx ha hdb he hpl
end
end Kx
/-! defs that show a container as a text: their promise holds where no built-in that guards itself runs around. repr of data. -/
namespace Kx
open L2 PySem PySem.Spec PyProof.Rows
/-- nothing that guards itself runs around -/
abbrev Lone (A : Around) : Prop := A.guards = some []
structure FnG (P : Program) (w : World) (K : PySem.W.Frag) (mg : Str → Option Value) (base : Heap) (CX : CXT) (k : Nat) (f : Addr) (fd : FuncData) (ps : List Str) (sp : Sp) : Prop where
  len : ∀ vs H Q E, sp vs H Q E → List.length vs = ps.length
  run : ∀ (A : Around) (outer : List Env) (s : Shared) (H : Hp) (args : Args) (us : List Value) (vs : List V) (Q : VK) (E : XK), Room k A → Lone A → Env0 P w K mg base A outer s H → BindsTo s fd args (ps.zip us) → Vals vs us → sp vs H Q E → codeAny (model P w) A (.call (.ref f) args) (CR CX outer P w H s Q E) s
theorem FnG.of {P : Program} {w : World} {K : PySem.W.Frag} {mg : Str → Option Value} {base : Heap} {CX : CXT} {k : Nat} {f : Addr} {fd : FuncData} {ps : List Str} {sp : Sp} (F : FnOk P w K mg base CX k f fd ps sp) : FnG P w K mg base CX k f fd ps sp :=
  ⟨F.len, fun A outer s H args us vs Q E hr _ he hb hv hs => F.run A outer s H args us vs Q E hr he hb hv hs⟩
section
variable {P : Program} {w : World} {K : PySem.W.Frag} {mg : Str → Option Value} {base : Heap} {f : Addr} {fd : FuncData} {x qual : Str} {params : Arguments} {body : List Stmt} {scope : Scope} {dvs : List V} {kws : List (Str × V)}
/-- a def's body: what stands around is alone -/
theorem okG {CX : CXT} {N ps : List Str} {k : Nat} {sp : Sp} (F : FunD K x qual params body scope dvs kws f fd) (S : FnScope N ps scope) (len : ∀ vs H Q E, sp vs H Q E → vs.length = ps.length)
    (hbody : ∀ (cdv : Value) (A : Around) (outer : List Env) (s : Shared) (H : Hp) (vs : List V) (Q : VK) (E : XK), Lone A → PySem.W.codeIn K cdv qual = true → Room k (A.deeper (envOfC qual scope s.heap.objs.size f cdv)) → sp vs H Q E →
      ∃ t, PSs (cxOf CX P w K mg base N qual scope f cdv A outer s H E) body t ∧ t { nx := fun _ H' => Q .non H', rt := Q } (start N vs) H) : FnG P w K mg base CX (k + 1) f fd ps sp := by
  obtain ⟨oc, od, dV, kV, doc, pm, an, cdv, ct, osl, rfl, lk, hcd, -, -⟩ := F.ex
  exact ⟨len, fun A outer s H args us vs Q E hr lone e0 hb hv hs => LamX.run_ofS lk hcd S hr e0 hb hv (len _ _ _ _ hs) fun hr' => hbody cdv A outer s H vs Q E lone hcd hr' hs⟩
end
structure CalG (P : Program) (w : World) (K : PySem.W.Frag) (mg : Str → Option Value) (base : Heap) (CX : CXT) (k : Nat) (x : Str) (ps : List Str) (sp : Sp) : Prop where
  ex : ∃ (f : Addr) (fd : FuncData), mg x = some (.ref f) ∧ PySem.W.keepIn K (.ref f) = true ∧ Binds K fd ps [] ∧ FnG P w K mg base CX k f fd ps sp
section
variable {X : Cx} {CX : CXT} {k j : Nat} {x : Str} {ps : List Str} {sp : Sp} {e : Expr} {es : List Expr} {t : TA} {E : XK} {p pos : Pos}
theorem pe_callG (c : CalG X.prog X.w X.K X.mg X.base CX k x ps sp) (hr : Room j X.A) (lone : Lone X.A) (hx : Passes CX X E) (ha : PA X (e :: es) t) (hk : k ≤ j := by decide) (hg : Gl X x := by rfl) (hdb : (x == ("__debug__" : Str)) = false := by decide)
    (he : starEach (e :: es) X.env = (false, eval e X.env) :: starEach es X.env := by rfl) (hnp : (backTo pos (starEach es X.env)).any (·.1) = false := by rfl) :
    PE X (.Call (.Name x p) (e :: es) [] pos) (tCall sp [] E t) := by
  obtain ⟨f, fd, at_, keep, binds, F⟩ := c.ex
  refine ⟨fun pins s σ H Q I h => wpAny_Call_Name_kw (ld_glob I hg at_ ?_ hdb)⟩
  refine PySem.W.callWith_K (h₀ := X.base) I.ok.mod.kin keep (thn (ha.run pos pins s σ H _ I h) fun us s1 ⟨vs, H1, J, rel, q⟩ => ⟨J.kIn, ?_⟩) he hnp
  have q : sp (vs ++ []) H1 Q E := q
  rw [List.append_nil] at q
  have n : (us ++ []).length = ps.length := by
    rw [List.append_nil, ← rel.length]
    exact F.len _ _ _ _ q
  have b := binds s1 us J.kIn n
  rw [List.append_nil] at b
  refine wpAny_call (codeAny_mono (F.run X.A X.stack s1 H1 ⟨us, []⟩ us vs Q E (hr.mono hk) lone J.env0 b rel q) fun r s2 z => ?_)
  match r, z with
  | .error _, z => exact hx pins σ H1 s1 _ s2 J z
  | .ok (.ret _), z => exact J.after z
  | .ok .next, z => exact z.elim
  | .ok .brk, z => exact z.elim
  | .ok .cont, z => exact z.elim
end
/-! ### repr of data -/
/-- the text that shows v -/
def rShow (K : PySem.W.Frag) : List V → Hp → VK → Prop := fun vs H Q => ∃ (v : V) (d : PyData), vs = [v] ∧ Dp K H v d ∧ d.showable = true ∧ d.hasDict = false ∧ d.depth ≤ 60 ∧ d.shown.length ≤ sizeLine ∧ Q (.str d.shown) H
theorem call_show {X : Cx} (lone : Lone X.A) (hu : X.A.units + 64 < cLine) : CallR X (.builtin "repr") (rShow X.K) := by
  intro pins s σ H vs us Q I rel h
  obtain ⟨v, d, rfl, data, sh, nd, dep, fit, q⟩ := h
  obtain ⟨u, rfl, ru⟩ := vals1 rel
  obtain ⟨as, reads⟩ := Dp.reads I d v u data ru
  have fin : ∀ (h' : Heap) (z : Tok) (tk : Nat), (∀ b o, s.heap.get? b = some o → h'.get? b = some o) → EP X pins σ Q (.str d.shown z) { s with heap := h', toks := tk } := fun h' z tk keep => ⟨.str d.shown, H, I.kept keep, ⟨z, rfl⟩, q⟩
  cases data with
  | lst hs ha =>
    cases (show u = Value.ref _ from ru)
    exact repr_of_reads' reads sh (PyData.noDict_hsm nd) lone (by omega) (fun _ _ z => z) fin fit
  | tup hs ha =>
    cases (show u = Value.ref _ from ru)
    exact repr_of_reads' reads sh (PyData.noDict_hsm nd) lone (by omega) (fun _ _ z => z) fin fit
  | non =>
    cases (show u = Value.none from ru)
    exact PySem.P.repr_of_none (fin s.heap _ _ fun _ _ z => z)
  | bl b =>
    cases (show u = Value.bool b from ru)
    exact PySem.P.repr_of_bool (fin s.heap _ _ fun _ _ z => z)
  | int i =>
    obtain ⟨z, rfl⟩ := (show ∃ z, u = Value.int i z from ru)
    exact PySem.P.repr_of_int (of_decide_eq_true sh) (fin s.heap _ _ fun _ _ z => z)
  | str y =>
    obtain ⟨z, rfl⟩ := (show ∃ z, u = Value.str y z from ru)
    exact PySem.P.repr_of_str (fin s.heap _ _ fun _ _ z => z) fit
end Kx
/-! own errors of one field, over an own base over ValueError: «self.f = f» alone. -/
namespace Kx
open L2 PySem PySem.Spec PyProof.Rows
/-- __init__ keeps the one thing in f -/
def spKeep (K : PySem.W.Frag) (C : Addr) (f : Str) : Sp := fun vs H Q _ => ∃ (a : Addr) (v : V), vs = [.ref a, v] ∧ H a = some (exo a C none) ∧
  ∀ dx, H dx = none → dx ≠ a → Q .non (upd (upd H dx (exd dx [(f, v)])) a (exo a C (some dx)))
/-- what the module holds of such a class: at C, its __init__ at fI -/
structure ErrC (P : Program) (w : World) (K : PySem.W.Frag) (mg : Str → Option Value) (base : Heap) (k : Nat) (x f : Str) (C : Addr) : Prop where
  at_ : mg x = some (.ref C)
  cls : OexC K C
  no : PySem.W.findIn K (.ref C) f = some none
  ini : ∃ (fI : Addr) (fd : FuncData), PySem.W.findIn K (.ref C) "__init__" = some (some (.ref fI)) ∧ PySem.W.typeIn K (.ref fI) = some (.type "function") ∧ Binds K fd ["self", f] [] ∧ FnOk P w K mg base CX0 k fI fd ["self", f] (spKeep K C f)
theorem heap_made {fs : List (Str × V)} {H : Hp} {a d : Addr} {u v z : HO} (ha : H a = none) (hne : d ≠ a) : upd (del (upd (upd (upd H a u) d v) a z) a) d (.xd fs) = upd H d (.xd fs) := by
  funext b
  by_cases e1 : b = d
  · rw [e1, upd_same, upd_same]
  · rw [upd_ne e1, upd_ne e1]
    by_cases e2 : b = a
    · rw [e2, del_same, ha]
    · rw [del_ne e2, upd_ne e2, upd_ne e1, upd_ne e2]
/-- raise C(e): what is asked behind e -/
theorem thrown {K : PySem.W.Frag} {C : Addr} {f : Str} {v : V} {H : Hp} {R : XK} (h : ∀ d, H d = none → R (.ref C) (some d) (upd H d (.xd [(f, v)]))) :
    [v].length ≤ 1000 ∧ ∀ a, H a = none → spKeep K C f (.ref a :: ([v] ++ [])) (upd H a (exo a C none))
      (fun y H2 => y = .non ∧ ∃ (d : Addr) (fs : List (Str × V)), H2 a = some (exo a C (some d)) ∧ H2 d = some (exd d fs) ∧ H d = none ∧ R (.ref C) (some d) (upd (del H2 a) d (.xd fs))) (fun _ _ _ => False) := by
  refine ⟨Nat.succ_le_of_lt (by simp), fun a ha => ⟨a, v, rfl, upd_same, fun d hd ne => ⟨rfl, d, [(f, v)], upd_same, ?_, ?_, ?_⟩⟩⟩
  · rw [upd_ne ne, upd_same]
  · rwa [upd_ne ne] at hd
  · rw [heap_made ha ne]
    rw [upd_ne ne] at hd
    exact h d hd
section
variable {X : Cx} {k j : Nat} {x f : Str} {C : Addr} {e : Expr} {ta : TA} {W : WX} {p pos p2 : Pos}
theorem ps_throw (T : ErrC X.prog X.w X.K X.mg X.base k x f C) (hc : X.calm = true) (hr : Room j X.A) (tk : Takes X W) (ha : PA X [e] ta) (hk : k + 1 ≤ j := by decide) (hg : Gl X x := by rfl) (hdb : (x == ("__debug__" : Str)) = false := by decide)
    (he : starEach (e :: []) X.env = (false, eval e X.env) :: starEach [] X.env := by rfl) (hpl : (backTo pos (starEach [] X.env)).any (·.1) = false := by rfl) :
    PS X (.Raise (some (.Call (.Name x p) [e] [] pos)) none p2) (fun _ σ H => tMkO C (spKeep X.K C f) [] ta σ H fun cls d H' => W cls d σ H') := by
  obtain ⟨fI, fd, h1, h2, h3, h4⟩ := T.ini
  exact ps_raise (pos := p2) hc tk (pmk_oex (p := p) (pos := pos) (es := []) T.cls h1 h2 h4 (hr.mono hk) h3 .nil pass0 hg T.at_ ha hdb he hpl)
end
/-! ### the init itself -/
theorem ok_keep {P : Program} {w : World} {K : PySem.W.Frag} {mg : Str → Option Value} {base : Heap} {C fI : Addr} {fd : FuncData} {f qual : Str} {params : Arguments} {scope : Scope} {p1 p2 p3 p4 : Pos}
    (F : FunD K "__init__" qual params [.Assign [.Attribute (.Name "self" p1) f p2] (.Name f p3) p4] scope [] [] fI fd) (T : OexC K C) (no : PySem.W.findIn K (.ref C) f = some none)
    (sc : FnScope ["self", f] ["self", f] scope) (hd : (f == ("__debug__" : Str)) = false) (hcd : (f == ("__classdict__" : Str)) = false) (l0 : scope.names.lookup ("self" : Str) = some .local) (l1 : scope.names.lookup f = some .local) :
    FnOk P w K mg base CX0 1 fI fd ["self", f] (spKeep K C f) := by
  refine F.ok sc (fun vs H Q E h => ?_) (fun cdv A outer s H vs Q E hr h => ?_)
  · obtain ⟨a, v, rfl, _⟩ := h
    rfl
  · obtain ⟨a, v, rfl, ha, k⟩ := h
    refine ⟨_, pss_one (ps_ost (pe_var (i := 0) rfl (.inl l0)) (pe_var (i := 1) rfl (.inl l1) hd hcd)), ?_⟩
    exact ⟨_, rfl, _, rfl, a, C, rfl, T, no, .inl ⟨ha, fun dx n1 n2 => k dx n1 n2⟩⟩
end Kx
/-! own errors right over KeyError (made by LookupError's maker), with an own __init__. -/
namespace Kx
open PySem PySem.W PySem.Calls PyProof.Rows PySem.HandSPX
abbrev keyTail : List Value := [.type "KeyError", .type "LookupError", .type "Exception", .type "BaseException", .type "object"]
abbrev keyObj (nm q : Str) (C N : Addr) (bs : List Value) (sn : List Str) (sub : List Value) (ab : Bool) (col : Option Bool) (dd : Option Addr) (k0 k1 k2 k3 k5 : Option Value) : Obj :=
  excClassObj nm q C N bs keyTail true sn sub ab col dd k0 k1 k2 k3 k5 "LookupError.__new__"
theorem in_tail {C : Addr} {n : String} {b : Bool} (h : keyTail.contains (.type n) = b) : (Value.ref C :: keyTail).contains (.type n) = b := by
  rw [List.contains_cons, h]
  rfl
section
variable {h : Heap} {g : Array GenState} {d : Drawn} {t : Nat} {os : OsState} {prog : Program} {w : World} {A : Around} {R : Result → Shared → Prop} {E : Value → Shared → Prop}
variable {nm q : Str} {C N : Addr} {bs : List Value} {sn : List Str} {sub : List Value} {ab : Bool} {col : Option Bool} {dd : Option Addr} {k0 k1 k2 k3 k5 : Option Value} {more : List Value}
theorem key_check {M : Model} {Q : Unit → Shared → Prop} (stands : h.get? C = some (keyObj nm q C N bs sn sub ab col dd k0 k1 k2 k3 k5)) (done : Q () ⟨h, g, d, t, os⟩) :
    wpAny M A (checkBuiltinCall "LookupError.__new__" ⟨.ref C :: more, []⟩) Q E ⟨h, g, d, t, os⟩ := by
  have isB : (Value.ref C :: keyTail).contains (.type "LookupError") = true := in_tail (by decide +kernel)
  have short := PySem.F.excBase_LookupError.noStar
  simp only [checkBuiltinCall, PySem.F.excBase_LookupError.newKind, PySem.F.excBase_LookupError.newSplit, PySem.F.excBase_LookupError.newRow]
  repeat (first
    | refine wpAny_loadPart_at stands ?_
    | (refine wpAny_isSubtype_exc stands ?_; rw [isB])
    | refine wpAny_staticBase_exc stands ?_
    | refine wpAny_madeBy_exc stands ?_
    | simp only [bne_self_eq_false, Bool.false_eq_true, if_false]
    | wp_step)
  exact done
theorem key_new (stands : h.get? C = some (keyObj nm q C N bs sn sub ab col dd k0 k1 k2 k3 k5)) (fits : more.length ≤ sizeLine)
    (done : R (.ok (.ret (.ref (h.objs.size + 1)))) ⟨(h.push (kdv_tup more)).push (excO C h.objs.size), g, d, t, os⟩) : codeAny (model prog w) A (.builtin "LookupError.__new__" ⟨.ref C :: more, []⟩) R ⟨h, g, d, t, os⟩ := by
  have ends := PySem.F.excBase_LookupError.ends
  have isB : (Value.ref C :: keyTail).contains (.type "LookupError") = true := in_tail (by decide +kernel)
  have noA : (Value.ref C :: keyTail).contains (.type "AttributeError") = false := in_tail (by decide +kernel)
  have noN : (Value.ref C :: keyTail).contains (.type "NameError") = false := in_tail (by decide +kernel)
  refine codeAny_builtinAt PySem.F.excBase_LookupError.entry ?_
  unfold Builtin.«BaseException.__new__»; refine PySem.wpAt_bind ?_
  show PySem.wpAt _ _ _ (stack >>= _) _ _ _
  refine PySem.wpAt_bind (PySem.wpAt_stack fun _ _ => PySem.wpAt_of_wpAny ?_)
  wp_walk
  refine PySem.wpAt_of_wpAny ?_
  rw [PySem.F.excBase_LookupError.owner]
  repeat (first
    | with_reducible refine wpAny_madeHere_exc PySem.F.excBase_LookupError.canon stands ?_
    | with_reducible refine wpAny_loadPart_at stands ?_
    | (with_reducible refine wpAny_isSubtype_exc stands ?_; first | rw [isB] | rw [noA] | rw [noN])
    | wp_step)
  show R _ _
  rw [Heap.size_push]
  exact done
theorem key_call {fI : Addr} (stands : h.get? C = some (keyObj nm q C N bs sn sub ab col dd k0 k1 k2 k3 k5)) (hi : Looks (model prog w) h (typeLookup (.ref C) "__init__") (some (.ref fI)))
    (hb : ∀ self, Looks (model prog w) h (bindSpecial (.ref fI) self) (.ref fI, [self])) (fits : more.length ≤ sizeLine)
    (done : codeAny (model prog w) (A.under (.builtin "type.__call__" ⟨.ref C :: more, []⟩)) (.call (.ref fI) ⟨.ref (h.objs.size + 1) :: more, []⟩) (InitBack (h.objs.size + 1) R) ⟨(h.push (kdv_tup more)).push (excO C h.objs.size), g, d, t, os⟩) :
    codeAny (model prog w) A (.call (.ref C) ⟨more, []⟩) R ⟨h, g, d, t, os⟩ := by
  have l1 := tc_lookup
  have l2 := tc_bind (.ref C)
  have isTy : (⟨h, g, d, t, os⟩ : Shared).TypeIs (.ref C) "type" := ⟨_, stands, rfl⟩
  have all : ∀ b o, h.get? b = some o → ((h.push (kdv_tup more)).push (excO C h.objs.size)).get? b = some o := fun b o z => Heap.get?_push_of_some _ (Heap.get?_push_of_some _ z)
  refine codeAny_of_tree ?_
  show wpAny _ _ (callAny (.ref C) _) _ _ _; repeat (any_goals (first | assumption | with_reducible refine wpAny_loadPart_at stands ?_ | wp_step))
  refine ⟨rfl, ?_⟩
  refine codeAny_call_builtin_at (Code.quiet_builtin _ (by decide +kernel)) entry_typeCall (wpAny_check_type_call_sub stands ?_)
  repeat (first | with_reducible refine wpAny_loadPart_at stands ?_ | with_reducible refine wpAny_madeBy_exc stands ?_ | wp_step)
  refine codeAny_call_builtin_code (Code.quiet_builtin _ PySem.F.excBase_LookupError.quiet) (key_check stands (key_new stands fits ?_))
  show wpAny _ _ _ _ _ _
  have hC1 := all _ _ stands
  have made : ((h.push (kdv_tup more)).push (excO C h.objs.size)).get? (h.objs.size + 1) = some (excO C h.objs.size) := by heap_get
  have own : (Value.ref C :: keyTail).contains (.ref C) = true := by simp
  have i1 := hi.keeps all
  have b1 := (hb (.ref (h.objs.size + 1))).keeps all
  unfold isInstance
  repeat (first | with_reducible refine wpAny_loadPart_at made ?_ | wp_step)
  show wpAny _ _ (isSubtype (.ref C) (.ref C)) _ _ ⟨(h.push (kdv_tup more)).push (excO C h.objs.size), g, d, t, os⟩
  refine wpAny_isSubtype_exc hC1 ?_
  rw [own]
  repeat wp_step
  show wpAny _ _ (typeLookup (.ref C) _) _ _ _; refine i1.at (wpAny_holding (wpAny_bind (b1.at (wpAny_bind (wpAny_call (codeAny_mono done fun r s' z => ?_))))))
  match r, z with
  | .error _, z => exact z
  | .ok .next, z => exact z.elim
  | .ok .brk, z => exact z.elim
  | .ok .cont, z => exact z.elim
  | .ok (.ret _), ⟨e1, z⟩ =>
    subst e1
    first | (wp_walk; exact z) | exact wpAny_pure (wpAny_pure z)
end
/-! ### x.name = v on such an error that has no dict yet -/
theorem key_passes (self : Value) : refuseLoop self "__setattr__" keyTail = pure () := by kernel_rfl
/-- what the written part holds of such a class -/
structure KeyC (K : Frag) (C : Addr) : Prop where
  cls : ∃ nm q N bs sn sub ab col dd k0 k1 k2 k3 k5, K.lookup C = some (keyObj nm q C N bs sn sub ab col dd k0 k1 k2 k3 k5)
  sa : findIn K (.ref C) "__setattr__" = some (some (.builtin "object.__setattr__"))
  exC : subIn K (.ref C) (.type "BaseException") = some true
  tyC : typeIn K (.ref C) = some (.type "type")
  kC : keepIn K (.ref C) = true
section
open Builtin.ObjectAttr Builtin
variable {mem : Heap} {g : Array GenState} {d : Drawn} {t : Nat} {os : OsState} {prog : Program} {w : World} {A : Around} {R : Result → Shared → Prop} {E : Value → Shared → Prop}
theorem key_osa {K : Frag} {name : Str} {tk : Tok} {v : Value} {x C : Addr} {fv : Array Value} (T : KeyC K C) (X : K.In mem) (hx : mem.get? x = some { cls := .ref C, data := .fields fv }) (no : findIn K (.ref C) name = some none)
    (done : ∀ (h' : Heap) (tk' : Nat) (dx : Addr), (∀ b o, b ≠ x → mem.get? b = some o → h'.get? b = some o) → mem.objs.size ≤ dx → dx ≠ x → h'.get? x = some { cls := .ref C, dict := some dx, data := .fields fv } → h'.Ns1 dx (fun y => if y = name then some v else none) → R (.ok (.ret .none)) ⟨h', g, d, tk', os⟩) : codeAny (model prog w) A (.call (.builtin "object.__setattr__") ⟨[.ref x, .str name tk, v], []⟩) R ⟨mem, g, d, t, os⟩ := by
  obtain ⟨nm, q, N, bs, sn, sub, ab, col, dd, k0, k1, k2, k3, k5, stands⟩ := T.cls
  have cd : clsIn K C = some { name := nm, bases := bs, mro := .ref C :: keyTail, ns := N, qualname := q, hasDict := true, slotNames := sn, subclasses := sub, abstract := ab, collection := col, hasDel := false } := by
    unfold clsIn
    rw [stands]
  have I : InstAt mem x { cls := .ref C, data := .fields fv } C none := ⟨hx, rfl, rfl, trivial⟩
  have SF := PySem.F.store_object -- the store
  have obj : (Value.ref C :: keyTail).contains (.type "object") = true := in_tail (by decide +kernel)
  have apart : x ≠ mem.objs.size := Nat.ne_of_lt (Heap.lt_size hx)
  have sub' : Looks (model prog w) mem (isInstance (.ref x) (.type "object")) true := I.type.andThen (looks_mroIn X (by
    unfold mroIn
    rw [cd, Option.bind_some]
    show (if (Value.ref C :: keyTail).isEmpty = true then none else some ((Value.ref C :: keyTail).contains (.type "object"))) = some true
    rw [obj]
    rfl))
  refine codeAny_call_builtin SF.slot.plain SF.entry (@check_slot (model prog w) _ _ ⟨mem, g, d, t, os⟩ "object.__setattr__" "object" "__setattr__" (.ref x) [.str name tk, v] [] _ SF.kind SF.split sub' (SF.args (.ref x) (.str name tk) v) ?_)
  have mro : Looks (model prog w) mem (mroOf (.ref C)) (.ref C :: keyTail) := (looks_clsIn X cd).andThen .now
  have taker : Looks (model prog w) mem (storeTaker? none) none := .now
  have data : Looks (model prog w) mem (classData C) _ := looks_clsIn X cd
  rw [osa_eq, refuse_eq]
  refine wpAny_bind (wpAny_bind (I.type.at (wpAny_bind (mro.at ?_))))
  rw [refuseLoop_ref, key_passes]
  refine wpAny_pure (wpAny_bind (I.type.at (wpAny_bind ((looks_findIn X no).at (wpAny_bind (taker.at ?_))))))
  show wpAny _ _ (storeInOwnDict (.ref x) (.ref C) (.str name tk) name v false) _ _ _; unfold storeInOwnDict ownDictForStores
  repeat (first
    | with_reducible refine store_in_new ?_ ?_
    | with_reducible refine wpAny_loadPart_at hx ?_
    | with_reducible refine data.at ?_
    | wp_step)
  · exact ⟨_, #[], _, (Heap.get?_update_ne _ _ _ _ apart.symm).trans (Heap.get?_push_at rfl rfl), rfl, fun e he => absurd he (by simp), fun _ => rfl⟩
  · intro h' tk' ns but
    have here := Heap.get?_push_of_some { cls := .type "dict", data := .dict #[] } hx
    refine done h' tk' mem.objs.size (fun b o ne ho => ?_) (Nat.le_refl _) apart.symm ((but.2 x apart).trans (Heap.get?_update_self _ here rfl)) ns
    exact (but.2 b (Nat.ne_of_lt (Heap.lt_size ho))).trans ((Heap.get?_update_ne _ _ _ _ ne).trans (Heap.get?_push_of_some _ ho))
end
end Kx
/-! NoState and NoDeed: raised with their one thing. -/
namespace PySem
namespace LowZ
open PySem.HandSPX PySem.W PySem.Calls PyProof.Rows
theorem one_fits (v : Value) : [v].length ≤ sizeLine := by
  rw [sizeLine_eq]
  exact (by decide : 1 ≤ 16777216)
theorem ld_here {M : Model} {s : Shared} {name : Str} {scope : Scope} {L a : Addr} {cd : Value} {m : Str → Option Value} {x : Str} {pos : Pos} {v : Value} {Q : Value → Shared → Prop} {A : Around} {E : Value → Shared → Prop} (hn : s.heap.Ns L m) (hv : m x = some v) (h : Q v s)
    (hk : scope.kind = .function := by rfl) (hl : (envOfC name scope L a cd).kindOf x = some .local := by rfl) (hd : (x == ("__debug__" : Str)) = false := by decide) : wpAny M A (eval (.Name x pos) (envOfC name scope L a cd)) Q E s := wpAny_Name (wpAny_loadName_local hk hl hn hv h) hd
end LowZ
end PySem

namespace Kx
namespace KS
open PySem PySem.W PySem.Calls PyProof.Rows PySem.HandSPX PySem.LowZ
/-! __init__(self, state): self.state = state -/
def tArgs (p1 p2 : Pos) : Arguments := { posonlyargs := [], args := [{ arg := "self", annotation := none, pos := p1 }, { arg := "state", annotation := none, pos := p2 }], vararg := none, kwonlyargs := [], kw_defaults := [], kwarg := none, defaults := [] }
def tBody (q1 q2 q3 q4 : Pos) : List Stmt := [.Assign [.Attribute (.Name "self" q1) "state" q2] (.Name "state" q3) q4]
def tScope : Scope := { kind := .function, names := [(Str.ofString "self", .local), (Str.ofString "state", .local)], isGenerator := false, isCoroutine := false, more := [] }
structure Txt (K : Frag) (C fI : Addr) (qual : Str) : Prop where
  key : KeyC K C
  no : findIn K (.ref C) "state" = some none
  ini : findIn K (.ref C) "__init__" = some (some (.ref fI))
  tyI : typeIn K (.ref fI) = some (.type "function")
  fn : ∃ (oc : Value) (od : Option Addr) (dV kV doc pm : Value) (an : Option Addr) (cdv ct : Value) (osl : Array (Option Value)) (p1 p2 q1 q2 q3 q4 : Pos),
    K.lookup fI = some ⟨oc, od, .func (fnOf "__init__" qual (tArgs p1 p2) (tBody q1 q2 q3 q4) tScope dV kV doc pm an cdv ct), osl⟩ ∧ codeIn K cdv qual = true ∧ dV = .none
/-- what a made one is -/
structure Made (h h' : Heap) (e C d : Addr) (v : Value) : Prop where
  keep : ∀ b o, h.get? b = some o → h'.get? b = some o
  new : h.objs.size ≤ e
  obj : ∃ oe vs, h'.get? e = some oe ∧ oe.cls = .ref C ∧ oe.dict = some d ∧ oe.data = .fields vs ∧ vs[1]? = some .none
  dbig : h.objs.size ≤ d
  dne : d ≠ e
  ns : h'.Ns1 d (fun y => if y = "state" then some v else none)
section
variable {prog : Program} {w : World} {A : Around} {R : Result → Shared → Prop} {s : Shared} {K : Frag} {C fI : Addr} {qual : Str}
theorem inits (T : Txt K C fI qual) {x t0 : Addr} {v : Value} (X : K.In s.heap) (lim : s.heap.NoLimit) (hx : s.heap.get? x = some (excO C t0)) (room : A.depth < recursionLimit)
    (done : ∀ (h' : Heap) (tk : Nat) (dx : Addr), (∀ b o, b ≠ x → s.heap.get? b = some o → h'.get? b = some o) → h'.get? x = some { cls := .ref C, dict := some dx, data := .fields #[.ref t0, .none, .none, .none, .bool false, .none] } → s.heap.objs.size ≤ dx → dx ≠ x →
      h'.Ns1 dx (fun y => if y = "state" then some v else none) → R (.ok (.ret .none)) { s with heap := h', toks := tk }) :
    codeAny (model prog w) A (.call (.ref fI) ⟨[.ref x, v], []⟩) R s := by
  obtain ⟨oc, od, dV, kV, doc, pm, an, cdv, ct, osl, p1, p2, q1, q2, q3, q4, lk, hcd, rfl⟩ := T.fn
  refine Att.call_fn (binds := [("self", .ref x), ("state", v)]) X lim lk hcd room (BindsTo.of_eq (by first | rfl | with_unfolding_all rfl)) (by first | rfl | decide | with_unfolding_all rfl) (fun s1 IC => ?_) rfl rfl rfl
  obtain ⟨h1, tk1, rfl⟩ := IC.toInCall.same
  have keep : ∀ b o, s.heap.get? b = some o → h1.get? b = some o := IC.toInCall.keep
  have ns := IC.toInCall.ns
  show wpAny _ _ (execs _ _) _ _ _
  refine wpAny_execs_cons (plainObj_wpAny_Assign_Attribute ?_)
  refine ld_here (v := v) ns (by first | rfl | with_unfolding_all rfl | kernel_rfl) (ld_here (v := .ref x) ns (by first | rfl | with_unfolding_all rfl | kernel_rfl) ?_)
  refine set_plain (X.keeps keep) (ox := excO C t0) (od := none) ⟨keep _ _ hx, rfl, rfl, trivial⟩ T.key.sa ?_
  refine key_osa T.key (X.keeps keep) (keep _ _ hx) T.no (fun h3 tk3 dx k3 dn dne hx3 hn3 => ?_)
  show wpAny _ _ (execs _ _) _ _ _
  have z : s.heap.objs.size < h1.objs.size := ns.lt
  exact wpAny_execs_nil (done h3 tk3 dx (fun b o hb e => k3 b o hb (keep b o e)) hx3 (Nat.le_of_lt (Nat.lt_of_lt_of_le z dn)) dne hn3)
theorem makes (T : Txt K C fI qual) {v : Value} (X : K.In s.heap) (lim : s.heap.NoLimit) (room : A.depth + 1 < recursionLimit)
    (done : ∀ h' tk e d, Made s.heap h' e C d v → R (.ok (.ret (.ref e))) { s with heap := h', toks := tk }) : codeAny (model prog w) A (.call (.ref C) ⟨[v], []⟩) R s := by
  obtain ⟨nm, q, N, bs, sn, sub, ab, col, dd, k0, k1, k2, k3, k5, hC⟩ := T.key.cls
  obtain ⟨hp, gs, dr, tk, os⟩ := s
  have keep : ∀ b o, hp.get? b = some o → ((hp.push (kdv_tup [v])).push (excO C hp.objs.size)).get? b = some o := fun b o e => Heap.get?_push_of_some _ (Heap.get?_push_of_some _ e)
  have here : ((hp.push (kdv_tup [v])).push (excO C hp.objs.size)).get? (hp.objs.size + 1) = some (excO C hp.objs.size) := by heap_get
  refine key_call (X _ _ hC) (looks_findIn X T.ini) (fun self => bind_fn X self T.tyI) (one_fits v) ?_
  refine inits (s := ⟨(hp.push (kdv_tup [v])).push (excO C hp.objs.size), gs, dr, tk, os⟩) T (X.keeps keep) (lim.keeps keep) here ?_ fun h' tk' dx k' hx dn dne hns => ?_
  · show A.depth + 1 < recursionLimit
    exact room
  · have old : ∀ b o, hp.get? b = some o → h'.get? b = some o := fun b o e => k' b o (Nat.ne_of_lt (Nat.lt_succ_of_lt (Heap.lt_size e))) (keep b o e)
    have z : hp.objs.size + 1 + 1 ≤ dx := by
      have q := dn
      simp only [Heap.size_push] at q
      exact q
    exact ⟨rfl, done h' tk' (hp.objs.size + 1) dx ⟨old, Nat.le_succ _, ⟨_, _, hx, rfl, rfl, rfl, rfl⟩, Nat.le_trans (Nat.le_trans (Nat.le_succ _) (Nat.le_succ _)) z, dne, hns⟩⟩
end
end KS
end Kx
namespace Kx
namespace KS
open L2 PySem PySem.Spec PyProof.Rows
theorem rel_one {v : V} {v' : Value} (r : RelV v v') (y : Str) : RelO (List.lookup y [(("state" : Str), v)]) (if y = "state" then some v' else none) := by
  rw [lookup_put]
  by_cases h : y = "state"
  · rw [if_pos h, if_pos h]
    exact r
  · rw [if_neg h, if_neg h]
    trivial
section
variable {X : Cx} {C fI : Addr} {qual x : Str}
/-- C(e) -/
def tMk (C : Addr) (ta : TA) : L2.St → Hp → XK → Prop := fun σ H Q => ta σ H fun vs H1 => ∃ v, vs = [v] ∧ ∀ d, H1 d = none → Q (.ref C) (some d) (upd H1 d (.xd [(("state" : Str), v)]))
theorem pmk {a : Expr} {ta : TA} {p pos : Pos} {k : Nat} (T : Txt X.K C fI qual) (at_ : X.mg x = some (.ref C)) (hr : Room k X.A) (ha : PA X [a] ta) (hg : Gl X x) (hdb : (x == ("__debug__" : Str)) = false)
    (he : starEach (a :: []) X.env = (false, eval a X.env) :: starEach [] X.env) (hpl : (backTo pos (starEach [] X.env)).any (·.1) = false) : PMk X (.Call (.Name x p) [a] [] pos) (tMk C ta) := by
  intro pins s σ H Q I h
  refine wpAny_Call_Name_kw (ld_glob I hg at_ ?_ hdb)
  refine PySem.W.callWith_K (h₀ := X.base) I.ok.mod.kin T.key.kC (thn (ha.run pos pins s σ H _ I h) fun us s1 hh => ?_) he hpl
  obtain ⟨vs, H1, I1, r1, v, ev, q1⟩ := hh
  subst ev
  refine ⟨I1.kIn, ?_⟩
  obtain ⟨v', rfl, rv⟩ := vals1 r1
  show wpAny _ _ (call (.ref C) [v']) _ _ _
  have lim := I1.nolimit
  obtain ⟨hp, gs, dr, tk, os⟩ := s1
  refine wpAny_call (makes T I1.kIn lim (by have := hr.dp; omega) fun h' tk' e d M => ?_)
  show MkP X pins σ Q (.ref e) ⟨h', gs, dr, tk', os⟩
  obtain ⟨oe, fv, hoe, hc, hd, hdat, h1⟩ := M.obj
  have hns := M.ns
  obtain ⟨G, g1, g2⟩ := restrict h' fun b => decide (b ≠ e)
  have gk : ∀ b, b ≠ e → G.get? b = h'.get? b := fun b hb => g1 b (decide_eq_true hb)
  have ge : G.get? e = none := g2 e (by simp)
  have old : ∀ b o, hp.get? b = some o → G.get? b = some o := fun b o q => (gk b (Nat.ne_of_lt (Nat.lt_of_lt_of_le (Heap.lt_size q) M.new))).trans (M.keep b o q)
  have ob : ObjOk X.prog X.w (upd H1 d (.xd [(("state" : Str), v)])) G d (.xd [(("state" : Str), v)]) := ⟨_, hns.at (fun o q => (gk d M.dne).trans q), fun y => rel_one rv y⟩
  have J : Inv X pins σ (upd H1 d (.xd [(("state" : Str), v)])) ⟨G, gs, dr, tk', os⟩ := I1.laid (t' := tk') old M.dbig ob
  refine ⟨e, oe, fv, ⟨G, gs, dr, tk', os⟩, _, .ref C, some d, rfl, J, fun b o q => ?_, ge, hoe, ⟨hc, hd⟩, hdat, h1, ?_, rfl, I1.bare, raises_own T.key.exC T.key.tyC, q1 d (I1.hok.fresh M.dbig)⟩
  · by_cases hb : b = e
    · have q' : G.get? b = some o := q
      rw [hb, ge] at q'
      cases q'
    · exact (gk b hb).symm.trans q
  · rw [upd_ne (Ne.symm M.dne)]
    exact I1.hok.fresh M.new
/-- raise C(e) -/
theorem ps_throw {a : Expr} {ta : TA} {W : WX} {p pos p2 : Pos} {k : Nat} (T : Txt X.K C fI qual) (at_ : X.mg x = some (.ref C)) (hc : X.calm = true) (hr : Room k X.A) (tk : Takes X W) (ha : PA X [a] ta) (hg : Gl X x := by rfl) (hdb : (x == ("__debug__" : Str)) = false := by decide)
    (he : starEach (a :: []) X.env = (false, eval a X.env) :: starEach [] X.env := by rfl) (hpl : (backTo pos (starEach [] X.env)).any (·.1) = false := by rfl) :
    PS X (.Raise (some (.Call (.Name x p) [a] [] pos)) none p2) (fun _ σ H => tMk C ta σ H fun cls d H' => W cls d σ H') := ps_raise hc tk (pmk T at_ hr ha hg hdb he hpl)
end
end KS
end Kx

namespace Kx
namespace KD
open PySem PySem.W PySem.Calls PyProof.Rows PySem.HandSPX PySem.LowZ
/-! __init__(self, deed): self.deed = deed -/
def tArgs (p1 p2 : Pos) : Arguments := { posonlyargs := [], args := [{ arg := "self", annotation := none, pos := p1 }, { arg := "deed", annotation := none, pos := p2 }], vararg := none, kwonlyargs := [], kw_defaults := [], kwarg := none, defaults := [] }
def tBody (q1 q2 q3 q4 : Pos) : List Stmt := [.Assign [.Attribute (.Name "self" q1) "deed" q2] (.Name "deed" q3) q4]
def tScope : Scope := { kind := .function, names := [(Str.ofString "self", .local), (Str.ofString "deed", .local)], isGenerator := false, isCoroutine := false, more := [] }
structure Txt (K : Frag) (C fI : Addr) (qual : Str) : Prop where
  key : KeyC K C
  no : findIn K (.ref C) "deed" = some none
  ini : findIn K (.ref C) "__init__" = some (some (.ref fI))
  tyI : typeIn K (.ref fI) = some (.type "function")
  fn : ∃ (oc : Value) (od : Option Addr) (dV kV doc pm : Value) (an : Option Addr) (cdv ct : Value) (osl : Array (Option Value)) (p1 p2 q1 q2 q3 q4 : Pos),
    K.lookup fI = some ⟨oc, od, .func (fnOf "__init__" qual (tArgs p1 p2) (tBody q1 q2 q3 q4) tScope dV kV doc pm an cdv ct), osl⟩ ∧ codeIn K cdv qual = true ∧ dV = .none
/-- what a made one is -/
structure Made (h h' : Heap) (e C d : Addr) (v : Value) : Prop where
  keep : ∀ b o, h.get? b = some o → h'.get? b = some o
  new : h.objs.size ≤ e
  obj : ∃ oe vs, h'.get? e = some oe ∧ oe.cls = .ref C ∧ oe.dict = some d ∧ oe.data = .fields vs ∧ vs[1]? = some .none
  dbig : h.objs.size ≤ d
  dne : d ≠ e
  ns : h'.Ns1 d (fun y => if y = "deed" then some v else none)
section
variable {prog : Program} {w : World} {A : Around} {R : Result → Shared → Prop} {s : Shared} {K : Frag} {C fI : Addr} {qual : Str}
theorem inits (T : Txt K C fI qual) {x t0 : Addr} {v : Value} (X : K.In s.heap) (lim : s.heap.NoLimit) (hx : s.heap.get? x = some (excO C t0)) (room : A.depth < recursionLimit)
    (done : ∀ (h' : Heap) (tk : Nat) (dx : Addr), (∀ b o, b ≠ x → s.heap.get? b = some o → h'.get? b = some o) → h'.get? x = some { cls := .ref C, dict := some dx, data := .fields #[.ref t0, .none, .none, .none, .bool false, .none] } → s.heap.objs.size ≤ dx → dx ≠ x →
      h'.Ns1 dx (fun y => if y = "deed" then some v else none) → R (.ok (.ret .none)) { s with heap := h', toks := tk }) :
    codeAny (model prog w) A (.call (.ref fI) ⟨[.ref x, v], []⟩) R s := by
  obtain ⟨oc, od, dV, kV, doc, pm, an, cdv, ct, osl, p1, p2, q1, q2, q3, q4, lk, hcd, rfl⟩ := T.fn
  refine Att.call_fn (binds := [("self", .ref x), ("deed", v)]) X lim lk hcd room (BindsTo.of_eq (by first | rfl | with_unfolding_all rfl)) (by first | rfl | decide | with_unfolding_all rfl) (fun s1 IC => ?_) rfl rfl rfl
  obtain ⟨h1, tk1, rfl⟩ := IC.toInCall.same
  have keep : ∀ b o, s.heap.get? b = some o → h1.get? b = some o := IC.toInCall.keep
  have ns := IC.toInCall.ns
  show wpAny _ _ (execs _ _) _ _ _
  refine wpAny_execs_cons (plainObj_wpAny_Assign_Attribute ?_)
  refine ld_here (v := v) ns (by first | rfl | with_unfolding_all rfl | kernel_rfl) (ld_here (v := .ref x) ns (by first | rfl | with_unfolding_all rfl | kernel_rfl) ?_)
  refine set_plain (X.keeps keep) (ox := excO C t0) (od := none) ⟨keep _ _ hx, rfl, rfl, trivial⟩ T.key.sa ?_
  refine key_osa T.key (X.keeps keep) (keep _ _ hx) T.no (fun h3 tk3 dx k3 dn dne hx3 hn3 => ?_)
  show wpAny _ _ (execs _ _) _ _ _
  have z : s.heap.objs.size < h1.objs.size := ns.lt
  exact wpAny_execs_nil (done h3 tk3 dx (fun b o hb e => k3 b o hb (keep b o e)) hx3 (Nat.le_of_lt (Nat.lt_of_lt_of_le z dn)) dne hn3)
theorem makes (T : Txt K C fI qual) {v : Value} (X : K.In s.heap) (lim : s.heap.NoLimit) (room : A.depth + 1 < recursionLimit)
    (done : ∀ h' tk e d, Made s.heap h' e C d v → R (.ok (.ret (.ref e))) { s with heap := h', toks := tk }) : codeAny (model prog w) A (.call (.ref C) ⟨[v], []⟩) R s := by
  obtain ⟨nm, q, N, bs, sn, sub, ab, col, dd, k0, k1, k2, k3, k5, hC⟩ := T.key.cls
  obtain ⟨hp, gs, dr, tk, os⟩ := s
  have keep : ∀ b o, hp.get? b = some o → ((hp.push (kdv_tup [v])).push (excO C hp.objs.size)).get? b = some o := fun b o e => Heap.get?_push_of_some _ (Heap.get?_push_of_some _ e)
  have here : ((hp.push (kdv_tup [v])).push (excO C hp.objs.size)).get? (hp.objs.size + 1) = some (excO C hp.objs.size) := by heap_get
  refine key_call (X _ _ hC) (looks_findIn X T.ini) (fun self => bind_fn X self T.tyI) (one_fits v) ?_
  refine inits (s := ⟨(hp.push (kdv_tup [v])).push (excO C hp.objs.size), gs, dr, tk, os⟩) T (X.keeps keep) (lim.keeps keep) here ?_ fun h' tk' dx k' hx dn dne hns => ?_
  · show A.depth + 1 < recursionLimit
    exact room
  · have old : ∀ b o, hp.get? b = some o → h'.get? b = some o := fun b o e => k' b o (Nat.ne_of_lt (Nat.lt_succ_of_lt (Heap.lt_size e))) (keep b o e)
    have z : hp.objs.size + 1 + 1 ≤ dx := by
      have q := dn
      simp only [Heap.size_push] at q
      exact q
    exact ⟨rfl, done h' tk' (hp.objs.size + 1) dx ⟨old, Nat.le_succ _, ⟨_, _, hx, rfl, rfl, rfl, rfl⟩, Nat.le_trans (Nat.le_trans (Nat.le_succ _) (Nat.le_succ _)) z, dne, hns⟩⟩
end
end KD
end Kx
namespace Kx
namespace KD
open L2 PySem PySem.Spec PyProof.Rows
theorem rel_one {v : V} {v' : Value} (r : RelV v v') (y : Str) : RelO (List.lookup y [(("deed" : Str), v)]) (if y = "deed" then some v' else none) := by
  rw [lookup_put]
  by_cases h : y = "deed"
  · rw [if_pos h, if_pos h]
    exact r
  · rw [if_neg h, if_neg h]
    trivial
section
variable {X : Cx} {C fI : Addr} {qual x : Str}
/-- C(e) -/
def tMk (C : Addr) (ta : TA) : L2.St → Hp → XK → Prop := fun σ H Q => ta σ H fun vs H1 => ∃ v, vs = [v] ∧ ∀ d, H1 d = none → Q (.ref C) (some d) (upd H1 d (.xd [(("deed" : Str), v)]))
theorem pmk {a : Expr} {ta : TA} {p pos : Pos} {k : Nat} (T : Txt X.K C fI qual) (at_ : X.mg x = some (.ref C)) (hr : Room k X.A) (ha : PA X [a] ta) (hg : Gl X x) (hdb : (x == ("__debug__" : Str)) = false)
    (he : starEach (a :: []) X.env = (false, eval a X.env) :: starEach [] X.env) (hpl : (backTo pos (starEach [] X.env)).any (·.1) = false) : PMk X (.Call (.Name x p) [a] [] pos) (tMk C ta) := by
  intro pins s σ H Q I h
  refine wpAny_Call_Name_kw (ld_glob I hg at_ ?_ hdb)
  refine PySem.W.callWith_K (h₀ := X.base) I.ok.mod.kin T.key.kC (thn (ha.run pos pins s σ H _ I h) fun us s1 hh => ?_) he hpl
  obtain ⟨vs, H1, I1, r1, v, ev, q1⟩ := hh
  subst ev
  refine ⟨I1.kIn, ?_⟩
  obtain ⟨v', rfl, rv⟩ := vals1 r1
  show wpAny _ _ (call (.ref C) [v']) _ _ _
  have lim := I1.nolimit
  obtain ⟨hp, gs, dr, tk, os⟩ := s1
  refine wpAny_call (makes T I1.kIn lim (by have := hr.dp; omega) fun h' tk' e d M => ?_)
  show MkP X pins σ Q (.ref e) ⟨h', gs, dr, tk', os⟩
  obtain ⟨oe, fv, hoe, hc, hd, hdat, h1⟩ := M.obj
  have hns := M.ns
  obtain ⟨G, g1, g2⟩ := restrict h' fun b => decide (b ≠ e)
  have gk : ∀ b, b ≠ e → G.get? b = h'.get? b := fun b hb => g1 b (decide_eq_true hb)
  have ge : G.get? e = none := g2 e (by simp)
  have old : ∀ b o, hp.get? b = some o → G.get? b = some o := fun b o q => (gk b (Nat.ne_of_lt (Nat.lt_of_lt_of_le (Heap.lt_size q) M.new))).trans (M.keep b o q)
  have ob : ObjOk X.prog X.w (upd H1 d (.xd [(("deed" : Str), v)])) G d (.xd [(("deed" : Str), v)]) := ⟨_, hns.at (fun o q => (gk d M.dne).trans q), fun y => rel_one rv y⟩
  have J : Inv X pins σ (upd H1 d (.xd [(("deed" : Str), v)])) ⟨G, gs, dr, tk', os⟩ := I1.laid (t' := tk') old M.dbig ob
  refine ⟨e, oe, fv, ⟨G, gs, dr, tk', os⟩, _, .ref C, some d, rfl, J, fun b o q => ?_, ge, hoe, ⟨hc, hd⟩, hdat, h1, ?_, rfl, I1.bare, raises_own T.key.exC T.key.tyC, q1 d (I1.hok.fresh M.dbig)⟩
  · by_cases hb : b = e
    · have q' : G.get? b = some o := q
      rw [hb, ge] at q'
      cases q'
    · exact (gk b hb).symm.trans q
  · rw [upd_ne (Ne.symm M.dne)]
    exact I1.hok.fresh M.new
/-- raise C(e) -/
theorem ps_throw {a : Expr} {ta : TA} {W : WX} {p pos p2 : Pos} {k : Nat} (T : Txt X.K C fI qual) (at_ : X.mg x = some (.ref C)) (hc : X.calm = true) (hr : Room k X.A) (tk : Takes X W) (ha : PA X [a] ta) (hg : Gl X x := by rfl) (hdb : (x == ("__debug__" : Str)) = false := by decide)
    (he : starEach (a :: []) X.env = (false, eval a X.env) :: starEach [] X.env := by rfl) (hpl : (backTo pos (starEach [] X.env)).any (·.1) = false := by rfl) :
    PS X (.Raise (some (.Call (.Name x p) [a] [] pos)) none p2) (fun _ σ H => tMk C ta σ H fun cls d H' => W cls d σ H') := ps_raise hc tk (pmk T at_ hr ha hg hdb he hpl)
end
end KD
end Kx
/-! tuples of the same things compared; isinstance of a caught error that has a field; "0" times a number; calls with keywords alone. -/
namespace Kx
open L2 PySem PySem.Spec PyProof.Rows
/-- two tuples that hold, place by place, the same flat thing or the same object -/
def rSame (K : PySem.W.Frag) (b : Bool) : R2 := fun x y H Q => ∃ (p q : Addr) (xs : List V), x = .ref p ∧ y = .ref q ∧ SqT K H p xs ∧ SqT K H q xs ∧ (∀ v ∈ xs, flatB v = true ∨ ∃ c, v = .ref c) ∧ Q (.bl b) H
theorem same_at {A : Around} {s : Shared} : ∀ {xs : List V} {us ws : List Value}, (∀ v ∈ xs, flatB v = true ∨ ∃ c, v = .ref c) → Vals xs us → Vals xs ws → ∀ j (h1 : j < us.length) (h2 : j < ws.length), SeqAt.EqAt A s us[j] ws[j] true
  | [], _, _, _, .nil, .nil, _, h1, _ => absurd h1 (Nat.not_lt_zero _)
  | x :: xs, _, _, f, .cons r1 k1, .cons r2 k2, 0, _, _ => by
    rcases f x List.mem_cons_self with h | ⟨c, rfl⟩
    · exact eqAt_same r1 r2 h
    · cases r1
      cases r2
      exact SeqAt.EqAt.same _
  | x :: xs, _, _, f, .cons r1 k1, .cons r2 k2, j + 1, h1, h2 => same_at (fun v hv => f v (List.mem_cons_of_mem _ hv)) k1 k2 j (Nat.lt_of_succ_lt_succ h1) (Nat.lt_of_succ_lt_succ h2)
theorem all_range (n : Nat) : ((List.range n).all fun _ => true) = true := List.all_eq_true.mpr fun _ _ => rfl
section
variable {X : Cx}
theorem op_eqSame (hu : X.A.units + 64 < cLine) : OpR X (compareOp .Eq) (rSame X.K true) := by
  intro pins st σ H x y v u Q I rx ry h
  obtain ⟨p, q, xs, rfl, rfl, h1, h2, f, k⟩ := h
  cases rx
  cases ry
  obtain ⟨us, r1, t1, _⟩ := I.tuple h1
  obtain ⟨ws, r2, t2, _⟩ := I.tuple h2
  have e : us.toArray.size = ws.toArray.size := by simp only [List.size_toArray]; rw [← r1.length, ← r2.length]
  refine SeqAt.RcAt.tuples (e := fun _ => true) t1 t2 (by omega) (fun j a1 a2 => ?_) _ _ _ _ ?_
  · simpa using same_at f r1 r2 j (by simpa using a1) (by simpa using a2)
  · rw [all_range, e, beq_self_eq_true]
    exact ⟨.bl true, H, I, rfl, k⟩
theorem op_neSame (hu : X.A.units + 64 < cLine) : OpR X (compareOp .NotEq) (rSame X.K false) := by
  intro pins st σ H x y v u Q I rx ry h
  obtain ⟨p, q, xs, rfl, rfl, h1, h2, f, k⟩ := h
  cases rx
  cases ry
  obtain ⟨us, r1, t1, _⟩ := I.tuple h1
  obtain ⟨ws, r2, t2, _⟩ := I.tuple h2
  have e : us.toArray.size = ws.toArray.size := by simp only [List.size_toArray]; rw [← r1.length, ← r2.length]
  refine SeqAt.RcNeAt.tuples (e := fun _ => true) t1 t2 (by omega) (fun j a1 a2 => ?_) _ _ _ _ ?_
  · simpa using same_at f r1 r2 j (by simpa using a1) (by simpa using a2)
  · rw [all_range, e, beq_self_eq_true]
    exact ⟨.bl false, H, I, rfl, k⟩
/-- isinstance(e, c), e the error that the suite holds, its own dict at d -/
theorem call_isEd {a D d : Addr} {oe : Obj} {pn : List (Addr × Obj)} (C : ExcC X.K D) (hz : Zc (.ref D) (some d) oe) (hf : ∃ vs, oe.data = .fields vs) :
    CallR (X.suite a ((a, oe) :: pn)) (.builtin "isinstance") (fun xs H Q => (∃ fs, H d = some (.xd fs)) ∧ rIsE X.K D a xs H Q) := by
  rintro pins s σ H xs us Q I r h
  obtain ⟨⟨fs, hd⟩, c, cv, b, rfl, hcv, e, q⟩ := h
  cases r with
  | cons rx rr =>
    cases rr with
    | cons rt rr =>
      cases rr
      cases rx
      have ec := hcv _ rt
      subst ec
      obtain ⟨hget, -⟩ := I.pin (a, oe) (List.mem_append.mpr (.inl List.mem_cons_self))
      obtain ⟨vs, hv⟩ := hf
      obtain ⟨mA, hns, _⟩ := (show ObjOk X.prog X.w H s.heap d (.xd fs) from I.hok d _ hd)
      obtain ⟨od, ho, _⟩ := lookIn_ns hns
      have J : PySem.W.InstAt s.heap a oe D (some od) := by
        obtain ⟨oc, od', oda, osl⟩ := oe
        obtain ⟨h1, h2⟩ := hz
        dsimp only at h1 h2 hv
        subst h1 h2 hv
        exact ⟨hget, rfl, rfl, ho⟩
      have cl : (PySem.W.clsIn X.K D).isSome = true := by
        obtain ⟨cd, hc, _⟩ := PySem.W.any_some C.hd
        rw [hc]
        rfl
      exact PySem.W.kia_one (PySem.W.kitx_exc cl C.hg C.hk C.hs C.ha C.hn C.ht C.hm) I.kIn J e (fun z => nomatch z) fun tk => ⟨.bl b, H, I.kept (t' := tk) fun _ _ z => z, rfl, q⟩
/-! ### "0" * k -/
def noughts : Nat → Str
  | 1 => "0"
  | 2 => "00"
  | 3 => "000"
  | _ => "0000"
theorem op_noughts : OpR X (binaryOp .Mult) (fun x y H Q => ∃ k : Nat, x = .str "0" ∧ y = .int (k : Int) ∧ 1 ≤ k ∧ k ≤ 4 ∧ Q (.str (noughts k)) H) := by
  intro pins st σ H x y v u Q I rx ry h
  obtain ⟨k, rfl, rfl, k1, k4, q⟩ := h
  obtain ⟨t, rfl⟩ := (show ∃ t, v = Value.str "0" t from rx)
  obtain ⟨t2, rfl⟩ := (show ∃ t, u = Value.int (k : Int) t from ry)
  have cases_ : k = 1 ∨ k = 2 ∨ k = 3 ∨ k = 4 := by omega
  have fin : ∀ (z : Str) (tk tk2 : Nat), z = noughts k → EP X pins σ Q (.str z tk) { st with toks := tk2 } := fun z tk tk2 e => by
    subst e
    exact ⟨.str (noughts k), H, I.kept (t' := tk2) fun _ _ z => z, ⟨tk, rfl⟩, q⟩
  refine P.mul_str ?_ ?_ ?_ ?_
  · rcases cases_ with rfl | rfl | rfl | rfl <;> decide +kernel
  · rcases cases_ with rfl | rfl | rfl | rfl <;> decide +kernel
  · rcases cases_ with rfl | rfl | rfl | rfl <;> decide +kernel
  · rcases cases_ with rfl | rfl | rfl | rfl
    · rw [if_neg (by decide), if_pos (by decide +kernel)]
      exact ⟨.str (noughts 1), H, I, ⟨t, rfl⟩, q⟩
    · rw [if_neg (by decide), if_neg (by decide +kernel)]
      exact ⟨by decide +kernel, fin _ _ _ (by decide +kernel)⟩
    · rw [if_neg (by decide), if_neg (by decide +kernel)]
      exact ⟨by decide +kernel, fin _ _ _ (by decide +kernel)⟩
    · rw [if_neg (by decide), if_neg (by decide +kernel)]
      exact ⟨by decide +kernel, fin _ _ _ (by decide +kernel)⟩
end
/-! ### calls with keywords -/
structure CalN (P : Program) (w : World) (K : PySem.W.Frag) (mg : Str → Option Value) (base : Heap) (CX : CXT) (k n : Nat) (x : Str) (ps ks : List Str) (gV : List V → List V → List V) (sp : Sp) : Prop where
  ex : ∃ (f : Addr) (fd : FuncData) (g : List Value → List Value → List Value), mg x = some (.ref f) ∧ PySem.W.keepIn K (.ref f) = true ∧ KBn K fd ps n ks g gV ∧ FnOk P w K mg base CX k f fd ps sp
section
variable {X : Cx} {CX : CXT} {k j n : Nat} {x : Str} {ps ks : List Str} {gV : List V → List V → List V} {sp : Sp} {e : Expr} {es : List Expr} {kws : List Keyword} {t tk : TA} {E : XK} {p pos : Pos}
theorem pe_callN0 (c : CalN X.prog X.w X.K X.mg X.base CX k 0 x ps ks gV sp) (hr : Room j X.A) (hx : Passes CX X E) (hkw : PK X kws tk) (hk : k ≤ j := by decide) (hg : Gl X x := by rfl)
    (hal : (backToKw pos (keywordEach kws X.env)).all (·.1.isSome) = true := by rfl) (hky : (backToKw pos (keywordEach kws X.env)).filterMap (·.1) = ks := by rfl) (hdb : (x == ("__debug__" : Str)) = false := by decide)
    (hnp : ((backTo pos (starEach [] X.env)).any (·.1) || (backToKw pos (keywordEach kws X.env)).any (·.1.isNone)) = false := by rfl) :
    PE X (.Call (.Name x p) [] kws pos) (tCallN 0 ks.length sp gV E tNil tk) := by
  obtain ⟨f, fd, g, h1, h2, h3, h4⟩ := c.ex
  refine ⟨fun pins s σ H Q I h => wpAny_Call_Name_kw (ld_glob I hg h1 ?_ hdb)⟩
  refine PySem.W.callWith_KW0 (h₀ := X.base) I.ok.mod.kin h2 hal ?_ hnp
  refine thn (hkw.run pos pins s σ H _ I h) fun ws s2 ⟨zs, H2, I2, rz, _, l2, q2⟩ => ⟨I2.kIn, ?_⟩
  rw [hky]
  exact run_fnN (us := []) (vs := []) h4 (hr.mono hk) h3 hx I2 .nil rz rfl l2 q2
theorem pe_callNn (c : CalN X.prog X.w X.K X.mg X.base CX k n x ps ks gV sp) (hr : Room j X.A) (hx : Passes CX X E) (ha : PA X (e :: es) t) (hkw : PK X kws tk) (hk : k ≤ j := by decide) (hg : Gl X x := by rfl)
    (hal : (backToKw pos (keywordEach kws X.env)).all (·.1.isSome) = true := by rfl) (hky : (backToKw pos (keywordEach kws X.env)).filterMap (·.1) = ks := by rfl) (hdb : (x == ("__debug__" : Str)) = false := by decide)
    (he : starEach (e :: es) X.env = (false, eval e X.env) :: starEach es X.env := by rfl)
    (hnp : ((backTo pos (starEach (e :: es) X.env)).any (·.1) || (backToKw pos (keywordEach kws X.env)).any (·.1.isNone)) = false := by rfl) : PE X (.Call (.Name x p) (e :: es) kws pos) (tCallN n ks.length sp gV E t tk) := by
  obtain ⟨f, fd, g, h1, h2, h3, h4⟩ := c.ex
  exact pe_callN h4 (hr.mono hk) hg h1 h2 h3 hx ha hkw hal hky hdb he hnp
end
end Kx
/-! exceptions held as values: their class asked, their fields read. -/
namespace Kx
open L2 PySem PySem.Spec PyProof.Rows
/-- an exception stands at a: its class C, its dict at d -/
def IsEv (a C d : Addr) (h : Heap) : Prop := ∃ (ob : Obj) (ws : Array Value), h.get? a = some ob ∧ Zc (.ref C) (some d) ob ∧ ob.data = .fields ws
structure EvAt (H : Hp) (a C d : Addr) (fs : List (Str × V)) : Prop where
  ob : ∃ φ : Heap → Prop, H a = some (.ext φ) ∧ ∀ h, φ h → IsEv a C d h
  di : H d = some (.xd fs) ∨ H d = some (exd d fs)
theorem EvAt.same {H H' : Hp} {a C d : Addr} {fs : List (Str × V)} (e : Same H H') (h : EvAt H a C d fs) : EvAt H' a C d fs := by
  obtain ⟨⟨φ, h1, h2⟩, h3⟩ := h
  exact ⟨⟨φ, e _ _ h1, h2⟩, h3.imp (e _ _) (e _ _)⟩
theorem exo_ev {H : Hp} {a C d : Addr} {fs : List (Str × V)} (h1 : H a = some (exo a C (some d))) (h2 : H d = some (exd d fs)) : EvAt H a C d fs :=
  ⟨⟨_, h1, fun h ⟨t, q⟩ => ⟨_, _, q, ⟨rfl, rfl⟩, rfl⟩⟩, .inr h2⟩
section
variable {X : Cx} {pins : List (Addr × Obj)} {σ : L2.St} {H : Hp} {s : Shared} {a C d : Addr} {fs : List (Str × V)}
theorem EvAt.there (E : EvAt H a C d fs) (I : Inv X pins σ H s) : IsEv a C d s.heap ∧ ∃ mA, s.heap.Ns1 d mA ∧ ∀ f, RelO (fs.lookup f) (mA f) := by
  obtain ⟨⟨φ, h1, h2⟩, h3⟩ := E
  refine ⟨h2 _ (show ObjOk X.prog X.w H s.heap a (.ext φ) from I.hok a _ h1).1, ?_⟩
  rcases h3 with h3 | h3
  · obtain ⟨mA, z, r⟩ := (show ObjOk X.prog X.w H s.heap d (.xd fs) from I.hok d _ h3)
    exact ⟨mA, z, r⟩
  · exact exd_at I.hok h3
end
/-- isinstance(e, c) of such a value -/
def rIsV (K : PySem.W.Frag) : List V → Hp → VK → Prop := fun xs H Q => ∃ (a D d : Addr) (fs : List (Str × V)) (c : V) (cv : Value) (b : Bool), xs = [.ref a, c] ∧ EvAt H a D d fs ∧ ExcC K D ∧ (∀ u, RelV c u → u = cv) ∧ PySem.W.kitOne K (.ref D) cv = some b ∧ Q (.bl b) H
theorem call_isV {X : Cx} : CallR X (.builtin "isinstance") (rIsV X.K) := by
  rintro pins s σ H xs us Q I r ⟨a, D, d, fs, c, cv, b, rfl, E, C, hcv, e, q⟩
  obtain ⟨⟨ob, ws, h1, h2, h3⟩, mA, hns, _⟩ := E.there I
  cases r with
  | cons rx rr =>
    cases rr with
    | cons rt rr =>
      cases rr
      cases rx
      obtain rfl := hcv _ rt
      obtain ⟨od, ho, _⟩ := lookIn_ns hns
      have J : PySem.W.InstAt s.heap a ob D (some od) := by
        obtain ⟨c1, c2, c3, c4⟩ := ob
        obtain ⟨z1, z2⟩ := h2
        dsimp only at z1 z2 h3
        subst z1 z2 h3
        exact ⟨h1, rfl, rfl, ho⟩
      have cl : (PySem.W.clsIn X.K D).isSome = true := by
        obtain ⟨cd, hc, _⟩ := PySem.W.any_some C.hd
        rw [hc]
        rfl
      exact PySem.W.kia_one (PySem.W.kitx_exc cl C.hg C.hk C.hs C.ha C.hn C.ht C.hm) I.kIn J e (fun z => nomatch z) fun tk => ⟨.bl b, H, I.kept (t' := tk) fun _ _ z => z, rfl, q⟩
/-- e.f of such a value -/
def tEv (K : PySem.W.Frag) (f : Str) (te : TE) : TE := fun σ H Q => te σ H fun x H1 => ∃ (a D d : Addr) (fs : List (Str × V)) (v : V), x = .ref a ∧ EvAt H1 a D d fs ∧ XfC K D ∧ PySem.W.findIn K (.ref D) f = some none ∧ fs.lookup f = some v ∧ Q v H1
theorem pe_ev {X : Cx} {e : Expr} {te : TE} {pos : Pos} {n : Str} (he : PE X e te) (hb : attributeBase e n X.env (eval e X.env) = eval e X.env := by rfl) : PE X (.Attribute e n pos) (tEv X.K n te) := by
  refine ⟨fun pins s σ H Q I h => attr_of hb (thn (he.run pins s σ H _ I h) fun u s1 hh => ?_)⟩
  obtain ⟨x, H1, I1, rx, a, D, d, fs, v, rfl, E, T, no, l, q⟩ := hh
  obtain rfl := (show u = Value.ref a from rx)
  obtain ⟨⟨ob, ws, h1, h2, h3⟩, mA, hns, hr⟩ := E.there I1
  obtain ⟨od, hod, hlk⟩ := lookIn_ns hns
  obtain ⟨u, hu, ru⟩ := RelO.some_of (v := v) (o := mA n) (l ▸ hr n)
  have J : PySem.W.InstAt s1.heap a ob D (some od) := ⟨h1, h2.1, by unfold PySem.W.notCls; rw [h3] <;> rfl, by rw [h2.2]; exact hod⟩
  exact HandSPX.exc_get I1.kIn J T.ga T.gg T.exC (PySem.W.findObj_own T.hdC no rfl (by rw [hlk, hu])) (handed_of ru) ⟨v, H1, I1.tok _, ru, q⟩
end Kx
/-! own exceptions are made: by place, by name. -/
namespace Kx
open PySem PySem.W PySem.Calls PyProof.Rows PySem.HandSPX
/-- what the written part holds of such a class -/
structure EvC (K : Frag) (C : Addr) : Prop where
  cls : ∃ (B newId initId : String) (up : List Value) (nm q : Str) (N : Addr) (bs bm : List Value) (sn : List Str) (sub : List Value) (ab : Bool) (col : Option Bool) (dd : Option Addr) (k0 k1 k2 k3 k5 : Option Value),
    ExcBaseFacts B newId initId up ∧ K.lookup C = some (excClassObj nm q C N bs bm true sn sub ab col dd k0 k1 k2 k3 k5 newId) ∧ (Value.ref C :: bm).contains (.type B) = true ∧ (Value.ref C :: bm).contains (.type "AttributeError") = false ∧ (Value.ref C :: bm).contains (.type "NameError") = false
  exC : subIn K (.ref C) (.type "BaseException") = some true
  tyC : typeIn K (.ref C) = some (.type "type")
  kC : keepIn K (.ref C) = true
section
variable {h : Heap} {g : Array GenState} {d : Drawn} {t : Nat} {os : OsState} {prog : Program} {w : World} {A : Around} {R : Result → Shared → Prop} {E : Value → Shared → Prop}
variable {B newId initId : String} {up : List Value} {nm q : Str} {C N : Addr} {bs bm : List Value} {sn : List Str} {sub : List Value} {ab : Bool} {col : Option Bool} {dd : Option Addr} {k0 k1 k2 k3 k5 : Option Value} {more : List Value} {kw : List (Str × Value)}
theorem ev_check {M : Model} {Q : Unit → Shared → Prop} (F : ExcBaseFacts B newId initId up) (stands : h.get? C = some (excClassObj nm q C N bs bm true sn sub ab col dd k0 k1 k2 k3 k5 newId)) (isB : (Value.ref C :: bm).contains (.type B) = true) (done : Q () ⟨h, g, d, t, os⟩) :
    wpAny M A (checkBuiltinCall newId ⟨.ref C :: more, kw⟩) Q E ⟨h, g, d, t, os⟩ := by
  have short := F.noStar
  simp only [checkBuiltinCall, F.newSplit, F.newKind, F.newRow]
  repeat (first
    | refine wpAny_loadPart_at stands ?_
    | (refine wpAny_isSubtype_exc stands ?_; rw [isB])
    | refine wpAny_staticBase_exc stands ?_
    | refine wpAny_madeBy_exc stands ?_
    | simp only [bne_self_eq_false, Bool.false_eq_true, if_false]
    | wp_step)
  exact done
theorem ev_new (F : ExcBaseFacts B newId initId up) (stands : h.get? C = some (excClassObj nm q C N bs bm true sn sub ab col dd k0 k1 k2 k3 k5 newId)) (isB : (Value.ref C :: bm).contains (.type B) = true) (noA : (Value.ref C :: bm).contains (.type "AttributeError") = false) (noN : (Value.ref C :: bm).contains (.type "NameError") = false)
    (fits : more.length ≤ sizeLine) (done : R (.ok (.ret (.ref (h.objs.size + 1)))) ⟨(h.push (kdv_tup more)).push (excO C h.objs.size), g, d, t, os⟩) : codeAny (model prog w) A (.builtin newId ⟨.ref C :: more, kw⟩) R ⟨h, g, d, t, os⟩ := by
  have ends := F.ends
  refine codeAny_builtinAt F.entry ?_; unfold Builtin.«BaseException.__new__»; refine PySem.wpAt_bind ?_
  show PySem.wpAt _ _ _ (stack >>= _) _ _ _
  refine PySem.wpAt_bind (PySem.wpAt_stack fun _ _ => PySem.wpAt_of_wpAny ?_)
  wp_walk
  refine PySem.wpAt_of_wpAny ?_
  rw [F.owner]
  repeat (first
    | with_reducible refine wpAny_madeHere_exc F.canon stands ?_
    | with_reducible refine wpAny_loadPart_at stands ?_
    | (with_reducible refine wpAny_isSubtype_exc stands ?_; first | rw [isB] | rw [noA] | rw [noN])
    | wp_step)
  show R _ _
  rw [Heap.size_push]
  exact done
theorem ev_called {fI : Addr} (F : ExcBaseFacts B newId initId up) (stands : h.get? C = some (excClassObj nm q C N bs bm true sn sub ab col dd k0 k1 k2 k3 k5 newId)) (isB : (Value.ref C :: bm).contains (.type B) = true) (noA : (Value.ref C :: bm).contains (.type "AttributeError") = false) (noN : (Value.ref C :: bm).contains (.type "NameError") = false)
    (hi : Looks (model prog w) h (typeLookup (.ref C) "__init__") (some (.ref fI))) (hb : ∀ self, Looks (model prog w) h (bindSpecial (.ref fI) self) (.ref fI, [self])) (fits : more.length ≤ sizeLine)
    (done : codeAny (model prog w) (A.under (.builtin "type.__call__" ⟨.ref C :: more, kw⟩)) (.call (.ref fI) ⟨.ref (h.objs.size + 1) :: more, kw⟩) (InitBack (h.objs.size + 1) R) ⟨(h.push (kdv_tup more)).push (excO C h.objs.size), g, d, t, os⟩) :
    codeAny (model prog w) A (.call (.ref C) ⟨more, kw⟩) R ⟨h, g, d, t, os⟩ := by
  have l1 := tc_lookup
  have l2 := tc_bind (.ref C)
  have isTy : (⟨h, g, d, t, os⟩ : Shared).TypeIs (.ref C) "type" := ⟨_, stands, rfl⟩
  have all : ∀ b o, h.get? b = some o → ((h.push (kdv_tup more)).push (excO C h.objs.size)).get? b = some o := fun b o z => Heap.get?_push_of_some _ (Heap.get?_push_of_some _ z)
  refine codeAny_of_tree ?_
  show wpAny _ _ (callAny (.ref C) _) _ _ _; repeat (any_goals (first | assumption | with_reducible refine wpAny_loadPart_at stands ?_ | wp_step))
  refine ⟨rfl, ?_⟩
  refine codeAny_call_builtin_at (Code.quiet_builtin _ (by decide +kernel)) entry_typeCall (wpAny_check_type_call_sub stands ?_)
  repeat (first | with_reducible refine wpAny_loadPart_at stands ?_ | with_reducible refine wpAny_madeBy_exc stands ?_ | wp_step)
  refine codeAny_call_builtin_code (Code.quiet_builtin _ F.quiet) (ev_check F stands isB (ev_new F stands isB noA noN fits ?_))
  show wpAny _ _ _ _ _ _
  have hC1 := all _ _ stands
  have made : ((h.push (kdv_tup more)).push (excO C h.objs.size)).get? (h.objs.size + 1) = some (excO C h.objs.size) := by heap_get
  have own : (Value.ref C :: bm).contains (.ref C) = true := by simp
  have i1 := hi.keeps all
  have b1 := (hb (.ref (h.objs.size + 1))).keeps all
  unfold isInstance
  repeat (first | with_reducible refine wpAny_loadPart_at made ?_ | wp_step)
  show wpAny _ _ (isSubtype (.ref C) (.ref C)) _ _ ⟨(h.push (kdv_tup more)).push (excO C h.objs.size), g, d, t, os⟩
  refine wpAny_isSubtype_exc hC1 ?_
  rw [own]
  repeat wp_step
  show wpAny _ _ (typeLookup (.ref C) _) _ _ _; refine i1.at (wpAny_holding (wpAny_bind (b1.at (wpAny_bind (wpAny_call (codeAny_mono done fun r s' z => ?_))))))
  match r, z with
  | .error _, z => exact z
  | .ok .next, z => exact z.elim
  | .ok .brk, z => exact z.elim
  | .ok .cont, z => exact z.elim
  | .ok (.ret _), ⟨e1, z⟩ =>
    subst e1
    first | (wp_walk; exact z) | exact wpAny_pure (wpAny_pure z)
end
end Kx
/-! own exceptions as values; raised, their context None. -/
namespace Kx
open L2 PySem PySem.Spec PyProof.Rows
theorem EvC.of {K : PySem.W.Frag} {C : Addr} (T : OexC K C) : EvC K C := by
  obtain ⟨nm, q, N, bs, bm, sn, sub, ab, col, dd, v0, v1, v2, v3, v5, hC, hbm⟩ := T.cls
  have has := fun Y => PySem.HandSPX.refsVE_contains Y bm hbm
  refine ⟨⟨_, _, _, _, nm, q, N, bs, bm, sn, sub, ab, col, dd, v0, v1, v2, v3, v5, F.excBase_ValueError, hC, ?_, ?_, ?_⟩, T.exC, T.tyC, T.kC⟩
  · rw [List.contains_cons, has, F.excBase_ValueError.hasB, Bool.or_true]
  · rw [List.contains_cons, has, F.excBase_ValueError.noAttr]
    rfl
  · rw [List.contains_cons, has, F.excBase_ValueError.noName]
    rfl
theorem EvC.ofKey {K : PySem.W.Frag} {C : Addr} (T : KeyC K C) : EvC K C := by
  obtain ⟨nm, q, N, bs, sn, sub, ab, col, dd, k0, k1, k2, k3, k5, hC⟩ := T.cls
  exact ⟨⟨_, _, _, _, nm, q, N, bs, keyTail, sn, sub, ab, col, dd, k0, k1, k2, k3, k5, F.excBase_LookupError, hC, in_tail (by decide +kernel), in_tail (by decide +kernel), in_tail (by decide +kernel)⟩, T.exC, T.tyC, T.kC⟩
/-- what a made one leaves: the state at the init's start, the init's end -/
def Born (X : Cx) (pins : List (Addr × Obj)) (σ : L2.St) (H : Hp) (C : Addr) (G : Addr → Hp → Prop) (s : Shared) (u : Value) (s' : Shared) : Prop :=
  ∃ (a : Addr) (h2 : Heap), u = .ref a ∧ s.heap.objs.size ≤ a ∧ H a = none ∧ (∀ b o, s.heap.get? b = some o → h2.get? b = some o) ∧ Inv X pins σ (upd H a (exo a C none)) { s with heap := h2 } ∧
    ∃ v, CE X.stack X.prog X.w (upd H a (exo a C none)) { s with heap := h2 } (fun y H2 => y = .non ∧ G a H2) v s'
section
variable {X : Cx} {pins : List (Addr × Obj)} {σ : L2.St} {H : Hp} {s : Shared} {C fI : Addr} {fd : FuncData} {ps ks : List Str} {sp : Sp} {k : Nat} {G : Addr → Hp → Prop}
theorem ev_run {us ws us2 : List Value} {vs2 : List V} (T : EvC X.K C) (iC : PySem.W.findIn X.K (.ref C) "__init__" = some (some (.ref fI))) (tI : PySem.W.typeIn X.K (.ref fI) = some (.type "function")) (F1 : FnOk X.prog X.w X.K X.mg X.base CX0 k fI fd ps sp) (hr : Room (k + 1) X.A) (I : Inv X pins σ H s)
    (hb : ∀ (s' : Shared) (a : Addr), X.K.In s'.heap → BindsTo s' fd ⟨.ref a :: us, ks.zip ws⟩ (ps.zip (.ref a :: us2))) (rel : Vals vs2 us2) (fits : us.length ≤ sizeLine)
    (h : ∀ a, H a = none → sp (.ref a :: vs2) (upd H a (exo a C none)) (fun y H2 => y = .non ∧ G a H2) (fun _ _ _ => False)) :
    wpAny (model X.prog X.w) X.A (call (.ref C) us (ks.zip ws)) (Born X pins σ H C G s) X.xe s := by
  obtain ⟨B, newId, initId, up, nm, q, N, bs, bm, sn, sub, ab, col, dd, k0, k1, k2, k3, k5, F, hC, isB, noA, noN⟩ := T.cls
  obtain ⟨hp, g, dr, tk, os⟩ := (s : Shared)
  have more : hp.objs.size ≤ hp.objs.size + 1 := Nat.le_succ _
  have hn : H (hp.objs.size + 1) = none := I.hok.fresh more
  have all : ∀ b o, hp.get? b = some o → ((hp.push (PySem.W.kdv_tup us)).push (PySem.HandSPX.excO C hp.objs.size)).get? b = some o := fun b o z => Heap.get?_push_of_some _ (Heap.get?_push_of_some _ z)
  have here : ((hp.push (PySem.W.kdv_tup us)).push (PySem.HandSPX.excO C hp.objs.size)).get? (hp.objs.size + 1) = some (PySem.HandSPX.excO C hp.objs.size) := by heap_get
  have J : Inv X pins σ (upd H (hp.objs.size + 1) (exo (hp.objs.size + 1) C none)) ⟨(hp.push (PySem.W.kdv_tup us)).push (PySem.HandSPX.excO C hp.objs.size), g, dr, tk, os⟩ :=
    I.laid (t' := tk) all more (exo_ok here)
  refine wpAny_call (ev_called F (I.kIn _ _ hC) isB noA noN (PySem.W.looks_findIn I.kIn iC) (fun self => PySem.W.bind_fn I.kIn self tI) fits
    (codeAny_mono (F1.run _ X.stack _ _ ⟨Value.ref (hp.objs.size + 1) :: us, ks.zip ws⟩ (Value.ref (hp.objs.size + 1) :: us2) _ _ (fun _ _ _ => False) (hr.make C us (ks.zip ws)) (J.env0.make C us (ks.zip ws)) (hb _ _ J.kIn) (show Vals (V.ref (hp.objs.size + 1) :: vs2) (Value.ref (hp.objs.size + 1) :: us2) from .cons rfl rel) (h _ hn)) fun r s' z => ?_))
  match r, z with
  | .error _, z => exact z.elim
  | .ok .next, z => exact z.elim
  | .ok .brk, z => exact z.elim
  | .ok .cont, z => exact z.elim
  | .ok (.ret u), z =>
    have rv : u = Value.none := by
      obtain ⟨v, H2, _, _, _, _, r, e, _⟩ := z
      subst e
      exact r
    exact ⟨rv, _, _, rfl, more, hn, all, J, _, z⟩
theorem Born.value {Q : VK} {u : Value} {s' : Shared} (b : Born X pins σ H C (fun a H2 => Q (.ref a) H2) s u s') : EP X pins σ Q u s' := by
  obtain ⟨a, h2, rfl, _, _, _, J, v, ce⟩ := b
  obtain ⟨y, H2, J2, _, _, q⟩ := J.after ce
  exact ⟨.ref a, H2, J2, rfl, q⟩
theorem Born.raised {Q : XK} {u : Value} {s' : Shared} (T : EvC X.K C) (I : Inv X pins σ H s)
    (b : Born X pins σ H C (fun a H2 => ∃ (d : Addr) (fs : List (Str × V)), H2 a = some (exo a C (some d)) ∧ H2 d = some (exd d fs) ∧ H d = none ∧ Q (.ref C) (some d) (upd (del H2 a) d (.xd fs))) s u s') : L2N.MkP X pins σ Q u s' := by
  obtain ⟨a, h2, rfl, ha, hn, all, J, v, ce⟩ := b
  obtain ⟨y, H2, os2, bare2, un2, hok2, rv, ev, d, fs, ea, ed, hd1, q⟩ := ce
  obtain ⟨hp, gz, dr, tk, os⟩ := s
  obtain ⟨h3, g3, d3, t3, os3⟩ := s'
  obtain ⟨t0, G, J2, kG, ge, hoe, na⟩ := mk_end0 (d2 := d3) (t2 := t3) I ha all un2 hok2 os2 bare2 ea ed hd1
  refine ⟨a, _, _, ⟨G, g3, d3, t3, os3⟩, _, .ref C, some d, rfl, J2, kG, ge, hoe, ⟨rfl, rfl, fun ws hw => ?_⟩, rfl, rfl, na, rfl, bare2, raises_own T.exC T.tyC, q⟩
  cases hw
  rfl
end
/-- C(e, ..): what the init is asked -/
def tBorn (C : Addr) (sp : Sp) (ta : TA) (P : Hp → Addr → Hp → (V → Hp → Prop) → Prop) : TE := fun σ H Q => ta σ H fun vs H1 => vs.length ≤ 1000 ∧ ∀ a, H1 a = none → sp (.ref a :: vs) (upd H1 a (exo a C none)) (fun y H2 => y = .non ∧ P H1 a H2 Q) (fun _ _ _ => False)
/-- C(e, ..) as a value -/
def tMkV (C : Addr) (sp : Sp) (ta : TA) : TE := fun σ H Q => ta σ H fun vs H1 => vs.length ≤ 1000 ∧ ∀ a, H1 a = none → sp (.ref a :: vs) (upd H1 a (exo a C none)) (fun y H2 => y = .non ∧ Q (.ref a) H2) (fun _ _ _ => False)
/-- C(k = e, ..) as a value -/
def tMkVK (C : Addr) (m : Nat) (sp : Sp) (gV : List V → List V) (tk : TA) : TE := fun σ H Q => tk σ H fun zs H1 => zs.length = m ∧ ∀ a, H1 a = none → sp (.ref a :: gV zs) (upd H1 a (exo a C none)) (fun y H2 => y = .non ∧ Q (.ref a) H2) (fun _ _ _ => False)
/-- C(e, ..), to be raised -/
def tMkN (C : Addr) (sp : Sp) (ta : TA) : L2.St → Hp → XK → Prop := fun σ H Q => ta σ H fun vs H1 => vs.length ≤ 1000 ∧ ∀ a, H1 a = none → sp (.ref a :: vs) (upd H1 a (exo a C none))
  (fun y H2 => y = .non ∧ ∃ (d : Addr) (fs : List (Str × V)), H2 a = some (exo a C (some d)) ∧ H2 d = some (exd d fs) ∧ H1 d = none ∧ Q (.ref C) (some d) (upd (del H2 a) d (.xd fs))) (fun _ _ _ => False)
section
variable {X : Cx} {C fI : Addr} {fd : FuncData} {ps ks : List Str} {sp : Sp} {k : Nat} {x : Str} {e : Expr} {es : List Expr} {kws : List Keyword} {ta tk : TA} {p pos : Pos}
theorem fits_of {vs : List V} {us : List Value} (r : Vals vs us) (h : vs.length ≤ 1000) : us.length ≤ sizeLine := by
  rw [← Paired.length r, sizeLine_eq]
  omega
theorem binds_all (hb : Binds X.K fd ps []) {us : List Value} (n : us.length + 1 = ps.length) (s' : Shared) (a : Addr) (z : X.K.In s'.heap) : BindsTo s' fd ⟨.ref a :: us, ([] : List Str).zip ([] : List Value)⟩ (ps.zip (.ref a :: us)) := by
  have b := hb s' (.ref a :: us) z (by rw [List.append_nil]; exact n)
  rw [List.append_nil] at b
  exact b
theorem pe_mkV (T : EvC X.K C) (iC : PySem.W.findIn X.K (.ref C) "__init__" = some (some (.ref fI))) (tI : PySem.W.typeIn X.K (.ref fI) = some (.type "function")) (F1 : FnOk X.prog X.w X.K X.mg X.base CX0 k fI fd ps sp) (hr : Room (k + 1) X.A) (hb : Binds X.K fd ps []) (hm : X.mg x = some (.ref C)) (ha : PA X (e :: es) ta) (hg : Gl X x := by rfl)
    (hdb : (x == ("__debug__" : Str)) = false := by decide) (he : starEach (e :: es) X.env = (false, eval e X.env) :: starEach es X.env := by rfl) (hpl : (backTo pos (starEach es X.env)).any (·.1) = false := by rfl) : PE X (.Call (.Name x p) (e :: es) [] pos) (tMkV C sp ta) := by
  refine ⟨fun pins s σ H Q I h => wpAny_Call_Name_kw (ld_glob I hg hm ?_ hdb)⟩
  refine PySem.W.callWith_K (h₀ := X.base) I.ok.mod.kin T.kC (thn (ha.run pos pins s σ H _ I h) fun us s1 ⟨vs, H1, I1, r1, hz, q⟩ => ⟨I1.kIn, ?_⟩) he hpl
  have n : us.length + 1 = ps.length := by
    have l1 := F1.len _ _ _ _ (q s1.heap.objs.size (I1.hok.fresh (Nat.le_refl _)))
    have l2 := Paired.length r1
    rw [List.length_cons] at l1
    omega
  exact wpAny_mono (ev_run (ks := []) (ws := []) (G := fun a H2 => Q (.ref a) H2) T iC tI F1 hr I1 (binds_all hb n) r1 (fits_of r1 hz) q) (fun _ _ z => z.value) fun _ _ z => z
theorem pe_mkVK {g : List Value → List Value} {gV : List V → List V} (T : EvC X.K C) (iC : PySem.W.findIn X.K (.ref C) "__init__" = some (some (.ref fI))) (tI : PySem.W.typeIn X.K (.ref fI) = some (.type "function")) (F1 : FnOk X.prog X.w X.K X.mg X.base CX0 k fI fd ps sp) (hr : Room (k + 1) X.A)
    (hb : ∀ (s' : Shared) (a : Addr) (ws : List Value), X.K.In s'.heap → ws.length = ks.length → BindsTo s' fd ⟨[.ref a], ks.zip ws⟩ (ps.zip (.ref a :: g ws))) (rel : ∀ {zs : List V} {ws : List Value}, Vals zs ws → Vals (gV zs) (g ws)) (hm : X.mg x = some (.ref C)) (hkw : PK X kws tk) (hg : Gl X x := by rfl)
    (hal : (backToKw pos (keywordEach kws X.env)).all (·.1.isSome) = true := by rfl) (hky : (backToKw pos (keywordEach kws X.env)).filterMap (·.1) = ks := by rfl) (hdb : (x == ("__debug__" : Str)) = false := by decide)
    (hnp : ((backTo pos (starEach [] X.env)).any (·.1) || (backToKw pos (keywordEach kws X.env)).any (·.1.isNone)) = false := by rfl) : PE X (.Call (.Name x p) [] kws pos) (tMkVK C ks.length sp gV tk) := by
  refine ⟨fun pins s σ H Q I h => wpAny_Call_Name_kw (ld_glob I hg hm ?_ hdb)⟩
  refine PySem.W.callWith_KW0 (h₀ := X.base) I.ok.mod.kin T.kC hal ?_ hnp
  refine thn (hkw.run pos pins s σ H _ I h) fun ws s2 ⟨zs, H2, I2, rz, l2, q⟩ => ⟨I2.kIn, ?_⟩
  rw [hky]
  exact wpAny_mono (ev_run (us := []) (G := fun a H3 => Q (.ref a) H3) T iC tI F1 hr I2 (fun s' a z => hb s' a ws z (rz.length.symm.trans l2)) (rel rz) (Nat.zero_le _) q) (fun _ _ z => z.value) fun _ _ z => z
theorem pmkN (T : EvC X.K C) (iC : PySem.W.findIn X.K (.ref C) "__init__" = some (some (.ref fI))) (tI : PySem.W.typeIn X.K (.ref fI) = some (.type "function")) (F1 : FnOk X.prog X.w X.K X.mg X.base CX0 k fI fd ps sp) (hr : Room (k + 1) X.A) (hb : Binds X.K fd ps []) (hm : X.mg x = some (.ref C)) (ha : PA X (e :: es) ta) (hg : Gl X x := by rfl)
    (hdb : (x == ("__debug__" : Str)) = false := by decide) (he : starEach (e :: es) X.env = (false, eval e X.env) :: starEach es X.env := by rfl) (hpl : (backTo pos (starEach es X.env)).any (·.1) = false := by rfl) : L2N.PMk X (.Call (.Name x p) (e :: es) [] pos) (tMkN C sp ta) := by
  intro pins s σ H Q I h
  refine wpAny_Call_Name_kw (ld_glob (X := X) I hg hm ?_ hdb)
  refine PySem.W.callWith_K (h₀ := X.base) I.ok.mod.kin T.kC (thn (ha.run pos pins s σ H _ I h) fun us s1 ⟨vs, H1, I1, r1, hz, q⟩ => ⟨I1.kIn, ?_⟩) he hpl
  have n : us.length + 1 = ps.length := by
    have l1 := F1.len _ _ _ _ (q s1.heap.objs.size (I1.hok.fresh (Nat.le_refl _)))
    have l2 := Paired.length r1
    rw [List.length_cons] at l1
    omega
  exact wpAny_mono (ev_run (ks := []) (ws := []) T iC tI F1 hr I1 (binds_all hb n) r1 (fits_of r1 hz) q) (fun _ _ z => z.raised T I1) fun _ _ z => z
end
end Kx
/-! own errors raised, their context None: of one field, over ValueError or KeyError; of three. -/
namespace Kx
open L2 PySem PySem.Spec PyProof.Rows
/-! ### self.f = v on an error over KeyError -/
section
variable {X : Cx} {pins : List (Addr × Obj)} {σ : L2.St} {H : Hp} {s : Shared} {a C dx : Addr} {f : Str} {y : V}
theorem inv_dict {h' : Heap} {t1 : Addr} {tk : Nat} {u : Value} (I : Inv X pins σ H s) (ha : H a = some (exo a C none)) (k : ∀ b o, b ≠ a → s.heap.get? b = some o → h'.get? b = some o) (dn : s.heap.objs.size ≤ dx) (dne : dx ≠ a)
    (hx : h'.get? a = some { cls := .ref C, dict := some dx, data := .fields #[.ref t1, .none, .none, .none, .bool false, .none] }) (hn : h'.Ns1 dx (fun z => if z = f then some u else none)) (ry : RelV y u) :
    H dx = none ∧ Inv X pins σ (upd (upd H dx (exd dx [(f, y)])) a (exo a C (some dx))) { s with heap := h', toks := tk } := by
  have free : H dx = none := I.hok.fresh dn
  have nd : ∀ {b : Addr} {o : Obj}, s.heap.get? b = some o → b ≠ dx := fun q => Nat.ne_of_lt (Nat.lt_of_lt_of_le (Heap.lt_size q) dn)
  have na : ∀ {b : Addr}, H b = none → b ≠ a := fun {b} n => by
    rintro rfl
    rw [ha] at n
    exact nomatch n
  have step : Un X.fs [] H (upd (upd H dx (exd dx [(f, y)])) a (exo a C (some dx))) s.heap h' := {
    keep := fun b ob q n _ _ => k b ob (na n) q
    slot := fun b ob q n _ _ => ⟨ob.slots, k b ob (na n) q⟩
    free := fun b ob q n _ => by rw [upd_ne (na n), upd_ne (nd q)]; exact n
    there := fun b o q _ => (Decidable.em (b = a)).elim (fun e => ⟨_, e ▸ hx⟩) fun e => ⟨o, k b o e q⟩
    tups := fun b xs q => by rw [upd_ne (at_ne ha q exo_tup), upd_ne (ne_of_none q free)]; exact q
    frzs := fun b o v q => by rw [upd_ne (at_ne ha q exo_frz), upd_ne (ne_of_none q free)]; exact q
    tbls := fun b ps q => ⟨#[], by rw [upd_ne (at_ne ha q exo_tbl), upd_ne (ne_of_none q free), q, Array.append_empty]⟩ }
  refine ⟨free, I.un (t' := tk) step fun b o q => ?_⟩
  by_cases ea : b = a
  · subst ea
    rw [upd_same] at q
    obtain rfl := Option.some.inj q
    exact exo_ok hx
  rw [upd_ne ea] at q
  by_cases ed : b = dx
  · subst ed
    rw [upd_same] at q
    obtain rfl := Option.some.inj q
    exact exd_ok hn (relO_put (fs := []) ry fun _ => True.intro)
  rw [upd_ne ed] at q
  refine (I.hok b o q).stay (fun c v hc z => k c v (hc.elim (fun e => e ▸ ea) fun hc => at_ne ha hc exo_own) z) (fun c hc => ?_) fun c xs hc => ?_
  · rw [upd_ne (at_ne ha hc exo_own), upd_ne (ne_of_none hc free)]
    exact hc
  · rw [upd_ne (at_ne ha hc exo_tup), upd_ne (ne_of_none hc free)]
    exact hc
end
/-- self.f = e -/
def tOstK (K : PySem.W.Frag) (f : Str) (to te : TE) : TS := fun D σ H => te σ H fun y H1 => to σ H1 fun x H2 => ∃ a C : Addr, x = .ref a ∧ KeyC K C ∧ PySem.W.findIn K (.ref C) f = some none ∧ H2 a = some (exo a C none) ∧
  ∀ dx, H2 dx = none → dx ≠ a → D.nx σ (upd (upd H2 dx (exd dx [(f, y)])) a (exo a C (some dx)))
theorem ps_ostK {X : Cx} {o e : Expr} {to te : TE} {f : Str} {p' pos : Pos} (ho : PE X o to) (he : PE X e te) (hs : swapsWith e (some (.Attribute o f p')) pos.line X.env = pure false := by rfl) : PS X (.Assign [.Attribute o f p'] e pos) (tOstK X.K f to te) := by
  refine ⟨fun pins s σ H D I h => plainObj_wpAny_Assign_Attribute (thn (he.run pins s σ H _ I h) fun v s1 ⟨y, H1, I1, r1, q1⟩ => thn (ho.run pins s1 σ H1 _ I1 q1) fun u s2 ⟨x, H2, I2, r2, a, C, ex, T, no, ha, q⟩ => ?_) hs⟩
  subst ex
  obtain rfl := (show u = Value.ref a from r2)
  obtain ⟨t1, hob⟩ := exo_at I2.hok ha
  obtain ⟨hp, gz, dr, tk, os⟩ := s2
  refine PySem.W.set_plain I2.kIn (ox := { cls := .ref C, dict := none, data := .fields #[.ref t1, .none, .none, .none, .bool false, .none] }) (od := none) ⟨hob, rfl, rfl, trivial⟩ T.sa (key_osa T I2.kIn hob no fun h' tk' dx k dn dne hx hn => ?_)
  obtain ⟨free, J⟩ := inv_dict (tk := tk') I2 ha k dn dne hx hn r1
  exact ⟨σ, _, J, q dx free dne⟩
theorem ok_keepK {P : Program} {w : World} {K : PySem.W.Frag} {mg : Str → Option Value} {base : Heap} {C fI : Addr} {fd : FuncData} {f qual : Str} {params : Arguments} {scope : Scope} {p1 p2 p3 p4 : Pos}
    (F : FunD K "__init__" qual params [.Assign [.Attribute (.Name "self" p1) f p2] (.Name f p3) p4] scope [] [] fI fd) (T : KeyC K C) (no : PySem.W.findIn K (.ref C) f = some none)
    (sc : FnScope ["self", f] ["self", f] scope) (hd : (f == ("__debug__" : Str)) = false) (hcd : (f == ("__classdict__" : Str)) = false) (l0 : scope.names.lookup ("self" : Str) = some .local) (l1 : scope.names.lookup f = some .local) :
    FnOk P w K mg base CX0 1 fI fd ["self", f] (spKeep K C f) := by
  refine F.ok sc (fun vs H Q E h => ?_) (fun cdv A outer s H vs Q E hr h => ?_)
  · obtain ⟨a, v, rfl, _⟩ := h
    rfl
  · obtain ⟨a, v, rfl, ha, k⟩ := h
    exact ⟨_, pss_one (ps_ostK (pe_var (i := 0) rfl (.inl l0)) (pe_var (i := 1) rfl (.inl l1) hd hcd)), _, rfl, _, rfl, a, C, rfl, T, no, ha, fun dx n1 n2 => k dx n1 n2⟩
/-! ### what the module holds of an error of one field, of whatever base -/
structure ErrN (P : Program) (w : World) (K : PySem.W.Frag) (mg : Str → Option Value) (base : Heap) (k : Nat) (x f : Str) (C : Addr) : Prop where
  at_ : mg x = some (.ref C)
  cls : EvC K C
  ini : ∃ (fI : Addr) (fd : FuncData), PySem.W.findIn K (.ref C) "__init__" = some (some (.ref fI)) ∧ PySem.W.typeIn K (.ref fI) = some (.type "function") ∧ Binds K fd ["self", f] [] ∧ FnOk P w K mg base CX0 k fI fd ["self", f] (spKeep K C f) ∧
    ∀ (s' : Shared) (a : Addr) (ws : List Value), K.In s'.heap → ws.length = 1 → BindsTo s' fd ⟨[.ref a], ([f] : List Str).zip ws⟩ ((["self", f] : List Str).zip (.ref a :: ws))
section
variable {X : Cx} {k j : Nat} {x f : Str} {C : Addr} {e : Expr} {ta : TA} {W : WX} {p pos p2 : Pos}
theorem psN (T : ErrN X.prog X.w X.K X.mg X.base k x f C) (hc : X.calm = true) (hr : Room j X.A) (tk : L2N.Takes X W) (ha : PA X [e] ta) (hk : k + 1 ≤ j := by decide) (hg : Gl X x := by rfl) (hdb : (x == ("__debug__" : Str)) = false := by decide)
    (he : starEach (e :: []) X.env = (false, eval e X.env) :: starEach [] X.env := by rfl) (hpl : (backTo pos (starEach [] X.env)).any (·.1) = false := by rfl) :
    PS X (.Raise (some (.Call (.Name x p) [e] [] pos)) none p2) (fun _ σ H => tMkN C (spKeep X.K C f) ta σ H fun cls d H' => W cls d σ H') := by
  obtain ⟨fI, fd, h1, h2, h3, h4, _⟩ := T.ini
  exact L2N.ps_raise hc tk (pmkN T.cls h1 h2 h4 (hr.mono hk) h3 T.at_ ha hg hdb he hpl)
/-- C(e) as a value -/
theorem peV (T : ErrN X.prog X.w X.K X.mg X.base k x f C) (hr : Room j X.A) (ha : PA X [e] ta) (hk : k + 1 ≤ j := by decide) (hg : Gl X x := by rfl) (hdb : (x == ("__debug__" : Str)) = false := by decide)
    (he : starEach (e :: []) X.env = (false, eval e X.env) :: starEach [] X.env := by rfl) (hpl : (backTo pos (starEach [] X.env)).any (·.1) = false := by rfl) : PE X (.Call (.Name x p) [e] [] pos) (tMkV C (spKeep X.K C f) ta) := by
  obtain ⟨fI, fd, h1, h2, h3, h4, _⟩ := T.ini
  exact pe_mkV T.cls h1 h2 h4 (hr.mono hk) h3 T.at_ ha hg hdb he hpl
/-- C(f = e) as a value -/
theorem peVK {kws : List Keyword} {tk : TA} (T : ErrN X.prog X.w X.K X.mg X.base k x f C) (hr : Room j X.A) (hkw : PK X kws tk) (hk : k + 1 ≤ j := by decide) (hg : Gl X x := by rfl)
    (hal : (backToKw pos (keywordEach kws X.env)).all (·.1.isSome) = true := by rfl) (hky : (backToKw pos (keywordEach kws X.env)).filterMap (·.1) = [f] := by rfl) (hdb : (x == ("__debug__" : Str)) = false := by decide)
    (hnp : ((backTo pos (starEach [] X.env)).any (·.1) || (backToKw pos (keywordEach kws X.env)).any (·.1.isNone)) = false := by rfl) : PE X (.Call (.Name x p) [] kws pos) (tMkVK C 1 (spKeep X.K C f) id tk) := by
  obtain ⟨fI, fd, h1, h2, h3, h4, h5⟩ := T.ini
  exact pe_mkVK (g := id) (gV := id) (ks := [f]) T.cls h1 h2 h4 (hr.mono hk) h5 (fun r => r) T.at_ hkw hg hal hky hdb hnp
end
/-- a made value: what stands there -/
theorem made {K : PySem.W.Frag} {C : Addr} {f : Str} {v : V} {H : Hp} {Q : VK} (h : ∀ a d H', Same H H' → EvAt H' a C d [(f, v)] → Q (.ref a) H') :
    [v].length ≤ 1000 ∧ ∀ a, H a = none → spKeep K C f (.ref a :: [v]) (upd H a (exo a C none)) (fun y H2 => y = .non ∧ Q (.ref a) H2) (fun _ _ _ => False) := by
  refine ⟨Nat.succ_le_of_lt (by simp), fun a ha => ⟨a, v, rfl, upd_same, fun d hd ne => ⟨rfl, ?_⟩⟩⟩
  rw [upd_ne ne] at hd
  refine h a d _ (fun b o q => ?_) (exo_ev upd_same (by rw [upd_ne ne, upd_same]))
  have e1 := ne_of_none q ha
  rw [upd_ne e1, upd_ne (ne_of_none q hd), upd_ne e1]
  exact q
theorem madeK {K : PySem.W.Frag} {C : Addr} {f : Str} {v : V} {H : Hp} {Q : VK} (h : ∀ a d H', Same H H' → EvAt H' a C d [(f, v)] → Q (.ref a) H') :
    [v].length = 1 ∧ ∀ a, H a = none → spKeep K C f (.ref a :: id [v]) (upd H a (exo a C none)) (fun y H2 => y = .non ∧ Q (.ref a) H2) (fun _ _ _ => False) := ⟨rfl, (made h).2⟩
/-- raised -/
theorem thrownN {K : PySem.W.Frag} {C : Addr} {f : Str} {v : V} {H : Hp} {R : XK} (h : ∀ d, H d = none → R (.ref C) (some d) (upd H d (.xd [(f, v)]))) :
    [v].length ≤ 1000 ∧ ∀ a, H a = none → spKeep K C f (.ref a :: [v]) (upd H a (exo a C none))
      (fun y H2 => y = .non ∧ ∃ (d : Addr) (fs : List (Str × V)), H2 a = some (exo a C (some d)) ∧ H2 d = some (exd d fs) ∧ H d = none ∧ R (.ref C) (some d) (upd (del H2 a) d (.xd fs))) (fun _ _ _ => False) := thrown h
end Kx
/-! an own error of three fields. -/
namespace Kx
open L2 PySem PySem.Spec PyProof.Rows
def spKeep3 (K : PySem.W.Frag) (C : Addr) (f g h : Str) : Sp := fun vs H Q _ => ∃ (a : Addr) (x y z : V), vs = [.ref a, x, y, z] ∧ H a = some (exo a C none) ∧
  ∀ d H2, H d = none → d ≠ a → (∀ b, b ≠ a → b ≠ d → H2 b = H b) → H2 a = some (exo a C (some d)) → H2 d = some (exd d [(h, z), (g, y), (f, x)]) → Q .non H2
theorem ok_keep3 {P : Program} {w : World} {K : PySem.W.Frag} {mg : Str → Option Value} {base : Heap} {C fI : Addr} {fd : FuncData} {f g h qual : Str} {params : Arguments} {scope : Scope} {p1 p2 p3 p4 q1 q2 q3 q4 r1 r2 r3 r4 : Pos}
    (F : FunD K "__init__" qual params [.Assign [.Attribute (.Name "self" p1) f p2] (.Name f p3) p4, .Assign [.Attribute (.Name "self" q1) g q2] (.Name g q3) q4, .Assign [.Attribute (.Name "self" r1) h r2] (.Name h r3) r4] scope [] [] fI fd)
    (T : OexC K C) (nf : PySem.W.findIn K (.ref C) f = some none) (ng : PySem.W.findIn K (.ref C) g = some none) (nh : PySem.W.findIn K (.ref C) h = some none)
    (sc : FnScope ["self", f, g, h] ["self", f, g, h] scope) (df : (f == ("__debug__" : Str)) = false) (cf : (f == ("__classdict__" : Str)) = false) (dg : (g == ("__debug__" : Str)) = false) (cg : (g == ("__classdict__" : Str)) = false) (dh : (h == ("__debug__" : Str)) = false) (ch : (h == ("__classdict__" : Str)) = false)
    (l0 : scope.names.lookup ("self" : Str) = some .local) (lf : scope.names.lookup f = some .local) (lg : scope.names.lookup g = some .local) (lh : scope.names.lookup h = some .local) : FnOk P w K mg base CX0 1 fI fd ["self", f, g, h] (spKeep3 K C f g h) := by
  refine F.ok sc (fun vs H Q E z => ?_) (fun cdv A outer s H vs Q E hr z => ?_)
  · obtain ⟨a, x, y, z, rfl, _⟩ := z
    rfl
  · obtain ⟨a, x, y, z, rfl, ha, k⟩ := z
    refine ⟨_, pss_cons (ps_ost (pe_var (i := 0) rfl (.inl l0)) (pe_var (i := 1) rfl (.inl lf) df cf)) (pss_cons (ps_ost (pe_var (i := 0) rfl (.inl l0)) (pe_var (i := 2) rfl (.inl lg) dg cg)) (pss_one (ps_ost (pe_var (i := 0) rfl (.inl l0)) (pe_var (i := 3) rfl (.inl lh) dh ch)))), ?_⟩
    refine ⟨_, rfl, _, rfl, a, C, rfl, T, nf, .inl ⟨ha, fun d n1 n2 => ?_⟩⟩
    have a1 : upd (upd H d (exd d [(f, x)])) a (exo a C (some d)) a = some (exo a C (some d)) := upd_same
    have d1 : upd (upd H d (exd d [(f, x)])) a (exo a C (some d)) d = some (exd d [(f, x)]) := by rw [upd_ne n2, upd_same]
    refine ⟨_, rfl, _, rfl, a, C, rfl, T, ng, .inr ⟨d, _, a1, d1, by simp, ?_⟩⟩
    have a2 : upd (upd (upd H d (exd d [(f, x)])) a (exo a C (some d))) d (exd d [(g, y), (f, x)]) a = some (exo a C (some d)) := by rw [upd_ne (Ne.symm n2)]; exact a1
    refine ⟨_, rfl, _, rfl, a, C, rfl, T, nh, .inr ⟨d, _, a2, upd_same, by simp, ?_⟩⟩
    exact k d _ n1 n2 (fun b e1 e2 => by rw [upd_ne e2, upd_ne e2, upd_ne e1, upd_ne e2]) (by rw [upd_ne (Ne.symm n2)]; exact a2) upd_same
structure ErrF (P : Program) (w : World) (K : PySem.W.Frag) (mg : Str → Option Value) (base : Heap) (k : Nat) (x f g h : Str) (C : Addr) : Prop where
  at_ : mg x = some (.ref C)
  cls : OexC K C
  ini : ∃ (fI : Addr) (fd : FuncData), PySem.W.findIn K (.ref C) "__init__" = some (some (.ref fI)) ∧ PySem.W.typeIn K (.ref fI) = some (.type "function") ∧ Binds K fd ["self", f, g, h] [] ∧ FnOk P w K mg base CX0 k fI fd ["self", f, g, h] (spKeep3 K C f g h) ∧
    ∀ (s' : Shared) (a : Addr) (ws : List Value), K.In s'.heap → ws.length = 3 → BindsTo s' fd ⟨[.ref a], ([h, f, g] : List Str).zip ws⟩ ((["self", f, g, h] : List Str).zip (.ref a :: [ws.getD 1 .none, ws.getD 2 .none, ws.getD 0 .none]))
theorem made3 {K : PySem.W.Frag} {C : Addr} {f g h : Str} {x y z : V} {H : Hp} {Q : VK} (q : ∀ a d H', Same H H' → EvAt H' a C d [(h, z), (g, y), (f, x)] → Q (.ref a) H') :
    [x, y, z].length ≤ 1000 ∧ ∀ a, H a = none → spKeep3 K C f g h (.ref a :: [x, y, z]) (upd H a (exo a C none)) (fun u H2 => u = .non ∧ Q (.ref a) H2) (fun _ _ _ => False) := by
  refine ⟨by simp, fun a ha => ⟨a, x, y, z, rfl, upd_same, fun d H2 hd ne keep h1 h2 => ⟨rfl, q a d H2 (fun b o e => ?_) (exo_ev h1 h2)⟩⟩⟩
  rw [upd_ne ne] at hd
  have e1 := ne_of_none e ha
  rw [keep b e1 (ne_of_none e hd), upd_ne e1]
  exact e
theorem made3K {K : PySem.W.Frag} {C : Addr} {f g h : Str} {x y z : V} {H : Hp} {Q : VK} (q : ∀ a d H', Same H H' → EvAt H' a C d [(h, z), (g, y), (f, x)] → Q (.ref a) H') :
    [z, x, y].length = 3 ∧ ∀ a, H a = none → spKeep3 K C f g h (.ref a :: [[z, x, y].getD 1 .non, [z, x, y].getD 2 .non, [z, x, y].getD 0 .non]) (upd H a (exo a C none)) (fun u H2 => u = .non ∧ Q (.ref a) H2) (fun _ _ _ => False) := ⟨rfl, (made3 q).2⟩
theorem thrown3 {K : PySem.W.Frag} {C : Addr} {f g h : Str} {x y z : V} {H : Hp} {R : XK} (q : ∀ d, H d = none → R (.ref C) (some d) (upd H d (.xd [(h, z), (g, y), (f, x)]))) :
    [x, y, z].length ≤ 1000 ∧ ∀ a, H a = none → spKeep3 K C f g h (.ref a :: [x, y, z]) (upd H a (exo a C none))
      (fun u H2 => u = .non ∧ ∃ (d : Addr) (fs : List (Str × V)), H2 a = some (exo a C (some d)) ∧ H2 d = some (exd d fs) ∧ H d = none ∧ R (.ref C) (some d) (upd (del H2 a) d (.xd fs))) (fun _ _ _ => False) := by
  refine ⟨by simp, fun a ha => ⟨a, x, y, z, rfl, upd_same, fun d H2 hd ne keep h1 h2 => ⟨rfl, d, _, h1, h2, ?_, ?_⟩⟩⟩
  · rwa [upd_ne ne] at hd
  · have hd : H d = none := by rwa [upd_ne ne] at hd
    have e : upd (del H2 a) d (.xd [(h, z), (g, y), (f, x)]) = upd H d (.xd [(h, z), (g, y), (f, x)]) := by
      funext b
      by_cases e1 : b = d
      · rw [e1, upd_same, upd_same]
      · rw [upd_ne e1, upd_ne e1]
        by_cases e2 : b = a
        · rw [e2, del_same, ha]
        · rw [del_ne e2, keep b e2 e1, upd_ne e2]
    rw [e]
    exact q d hd
section
variable {X : Cx} {k j : Nat} {x f g h : Str} {C : Addr} {e : Expr} {es : List Expr} {ta : TA} {W : WX} {p pos p2 : Pos}
theorem psF (T : ErrF X.prog X.w X.K X.mg X.base k x f g h C) (hc : X.calm = true) (hr : Room j X.A) (tk : L2N.Takes X W) (ha : PA X (e :: es) ta) (hk : k + 1 ≤ j := by decide) (hg : Gl X x := by rfl) (hdb : (x == ("__debug__" : Str)) = false := by decide)
    (hz : starEach (e :: es) X.env = (false, eval e X.env) :: starEach es X.env := by rfl) (hpl : (backTo pos (starEach es X.env)).any (·.1) = false := by rfl) :
    PS X (.Raise (some (.Call (.Name x p) (e :: es) [] pos)) none p2) (fun _ σ H => tMkN C (spKeep3 X.K C f g h) ta σ H fun cls d H' => W cls d σ H') := by
  obtain ⟨fI, fd, h1, h2, h3, h4, _⟩ := T.ini
  exact L2N.ps_raise hc tk (pmkN (.of T.cls) h1 h2 h4 (hr.mono hk) h3 T.at_ ha hg hdb hz hpl)
theorem peF (T : ErrF X.prog X.w X.K X.mg X.base k x f g h C) (hr : Room j X.A) (ha : PA X (e :: es) ta) (hk : k + 1 ≤ j := by decide) (hg : Gl X x := by rfl) (hdb : (x == ("__debug__" : Str)) = false := by decide)
    (he : starEach (e :: es) X.env = (false, eval e X.env) :: starEach es X.env := by rfl) (hpl : (backTo pos (starEach es X.env)).any (·.1) = false := by rfl) : PE X (.Call (.Name x p) (e :: es) [] pos) (tMkV C (spKeep3 X.K C f g h) ta) := by
  obtain ⟨fI, fd, h1, h2, h3, h4, _⟩ := T.ini
  exact pe_mkV (.of T.cls) h1 h2 h4 (hr.mono hk) h3 T.at_ ha hg hdb he hpl
theorem vals_get {zs : List V} {ws : List Value} (r : Vals zs ws) (i : Nat) : RelV (zs.getD i .non) (ws.getD i .none) := by
  induction r generalizing i with
  | nil => exact rfl
  | cons h _ ih => cases i with
    | zero => exact h
    | succ i => exact ih i
/-- C(h = .., f = .., g = ..) as a value -/
theorem peFK {kws : List Keyword} {tk : TA} (T : ErrF X.prog X.w X.K X.mg X.base k x f g h C) (hr : Room j X.A) (hkw : PK X kws tk) (hk : k + 1 ≤ j := by decide) (hg : Gl X x := by rfl)
    (hal : (backToKw pos (keywordEach kws X.env)).all (·.1.isSome) = true := by rfl) (hky : (backToKw pos (keywordEach kws X.env)).filterMap (·.1) = [h, f, g] := by rfl) (hdb : (x == ("__debug__" : Str)) = false := by decide)
    (hnp : ((backTo pos (starEach [] X.env)).any (·.1) || (backToKw pos (keywordEach kws X.env)).any (·.1.isNone)) = false := by rfl) : PE X (.Call (.Name x p) [] kws pos) (tMkVK C 3 (spKeep3 X.K C f g h) (fun zs => [zs.getD 1 .non, zs.getD 2 .non, zs.getD 0 .non]) tk) := by
  obtain ⟨fI, fd, h1, h2, h3, h4, h5⟩ := T.ini
  exact pe_mkVK (g := fun ws => [ws.getD 1 .none, ws.getD 2 .none, ws.getD 0 .none]) (gV := fun zs => [zs.getD 1 .non, zs.getD 2 .non, zs.getD 0 .non]) (ks := [h, f, g]) (.of T.cls) h1 h2 h4 (hr.mono hk) h5 (fun r => .cons (vals_get r 1) (.cons (vals_get r 2) (.cons (vals_get r 0) .nil))) T.at_ hkw hg hal hky hdb hnp
end
end Kx
/-! lambdas held as values, called where they were made; their errors' context None. -/
namespace Kx
open L2 PySem PySem.Spec PyProof.Rows LamX
/-- the function object at f is ob -/
abbrev LamO (f : Addr) (ob : Obj) : HO := .ext fun h => h.get? f = some ob
theorem lamO_ok {P : Program} {w : World} {H : Hp} {h : Heap} {f : Addr} {ob : Obj} (e : h.get? f = some ob) : ObjOk P w H h f (LamO f ob) := ⟨e, ⟨ob, e⟩, fun h1 h2 z k => k _ z⟩
abbrev lamOb (X : Cx) (params : Arguments) (body : Expr) (scope : Scope) (pm : Value) (c' : Addr) (ctv : Value) : Obj := PySem.W.kla_obj "<lambda>" (X.env.qual ++ "<lambda>") params body scope (cloFrom X.env.cells scope.names []) pm c' ctv
/-- lambda: body, as a value -/
def tLamV (X : Cx) (T : List (Addr × Str)) (params : Arguments) (body : Expr) (scope : Scope) : TE := fun σ H Q => Tabs T H ∧ ∀ (f c' : Addr) (pm ctv : Value) (H1 : Hp), ExtN H H1 → Tabs T H1 → H f = none → H1 f = none → H1 c' = some (CodeO c' (X.env.qual ++ "<lambda>")) →
  Q (.ref f) (upd H1 f (LamO f (lamOb X params body scope pm c' ctv)))
section
variable {X : Cx}
theorem pe_lamV {T : List (Addr × Str)} {c P : Addr} {params : Arguments} {body : Expr} {scope : Scope} {pos : Pos} (TB : TabB X.base X.mg c P) (code : X.env.code = .ref c) (mem : (P, X.env.qual ++ "<lambda>") ∈ T) (only : ∀ p ∈ T, p.1 = P → p.2 = X.env.qual ++ "<lambda>")
    (hdef : defaultsOf params X.env = ([], [])) (L : LamS X.env.scope scope) : PE X (.Lambda params body scope pos) (tLamV X T params body scope) := by
  refine ⟨fun pins s σ H Q I asked => ?_⟩
  obtain ⟨hT, h⟩ := asked
  obtain ⟨ps, hP, trip, among⟩ := hT _ mem
  have free := L.has I.ok
  have here : s.heap.get? P = some { cls := .none, data := .fields ps } := I.hok P _ hP
  refine PySem.W.kla_eval hdef ?_; cases hc : codeAmong pos ps.toList with
  | some cv =>
    obtain ⟨c', rfl, old⟩ := among pos cv hc
    refine PySem.W.kla_makeFunctionHit (mg := X.mg) (c := c) (P := P) (ps := ps) (closure_ok free) I.ok.glob (I.mod.glob.keeps I.bk) code (TB.code.keeps I.bk) here trip hc (TB.bm.keeps I.bk) fun ctv h' tk all wide => ?_
    have J : Inv X pins σ H { s with heap := h', toks := tk } := I.kept all
    have J2 := J.laid (t' := tk) (a := h'.objs.size) (o := LamO h'.objs.size (lamOb X params body scope ((X.mg "__name__").getD .none) c' ctv)) (h' := h'.push (lamOb X params body scope ((X.mg "__name__").getD .none) c' ctv)) (fun b o e => Heap.get?_push_of_some _ e) (Nat.le_refl _) (lamO_ok (Heap.get?_push_size _ rfl))
    exact ⟨V.ref h'.objs.size, _, J2, rfl, h h'.objs.size c' _ ctv H (ExtN.refl H) hT (I.hok.fresh wide) (I.hok.fresh wide) old⟩
  | none =>
    refine PySem.W.kla_makeFunction (mg := X.mg) (c := c) (P := P) (ps := ps) (closure_ok free) I.ok.glob (I.mod.glob.keeps I.bk) code (TB.code.keeps I.bk) here trip hc TB.gP (TB.bm.keeps I.bk) fun c' ctv h' tk all ge lt rec_ tb => ?_
    obtain ⟨c2, oc, vs, t, e2, hoc, hd, hv⟩ := rec_
    cases e2
    have wide : s.heap.objs.size ≤ h'.objs.size := Nat.le_trans ge (Nat.le_of_lt lt)
    have nC : H c' = none := I.hok.fresh ge
    have J := inv_table (t' := tk) (more := #[rawInt pos.line, rawInt pos.col, .ref c']) I hP all tb ge ⟨oc, vs, t, hoc, hd, hv⟩
    have J2 := J.laid (t' := tk) (a := h'.objs.size) (o := LamO h'.objs.size (lamOb X params body scope ((X.mg "__name__").getD .none) c' ctv)) (h' := h'.push (lamOb X params body scope ((X.mg "__name__").getD .none) c' ctv)) (fun b o e => Heap.get?_push_of_some _ e) (Nat.le_refl _) (lamO_ok (Heap.get?_push_size _ rfl))
    have ext : ExtN H (upd (upd H P (.tbl (ps ++ #[rawInt pos.line, rawInt pos.col, .ref c']))) c' (CodeO c' (X.env.qual ++ "<lambda>"))) := fun b o e n => by
      have ne : b ≠ P := fun z => n ps (Option.some.inj (e.symm.trans (z ▸ hP)))
      rw [upd_ne (ne_of_none e nC), upd_ne ne]
      exact e
    have eL : (ps ++ #[rawInt pos.line, rawInt pos.col, Value.ref c']).toList = ps.toList ++ [rawInt pos.line, rawInt pos.col, Value.ref c'] := by simp
    refine ⟨V.ref h'.objs.size, _, J2, rfl, h h'.objs.size c' _ ctv _ ext (fun p hp => ?_) (I.hok.fresh wide) (J.hok.fresh (Nat.le_refl _)) upd_same⟩
    by_cases hb : p.1 = P
    · rw [only p hp hb, hb]
      refine ⟨_, (upd_ne (ne_of_none hP nC)).trans upd_same, eL ▸ PySem.TriplesOk_snoc _ _ _ _ trip, fun p' cv hcv => ?_⟩
      rw [eL] at hcv
      rcases among_app _ trip hcv with z | z
      · obtain ⟨c0, e1, e2⟩ := among p' cv z
        exact ⟨c0, e1, ext _ _ e2 codeO_ne⟩
      · exact ⟨c', z, upd_same⟩
    · obtain ⟨qs, a1, a2, a3⟩ := hT p hp
      refine ⟨qs, ((upd_ne (ne_of_none a1 nC)).trans (upd_ne hb)).trans a1, a2, fun p' cv hcv => ?_⟩
      obtain ⟨c0, e1, e2⟩ := (a3 p' cv hcv)
      exact ⟨c0, e1, ext _ _ e2 codeO_ne⟩
/-- the context of a lambda's body: errors' context None -/
abbrev lamCxN (X : Cx) (A : Around) (outer : List Env) (s : Shared) (H : Hp) (E : XK) (scope : Scope) (f c' : Addr) : Cx :=
  { lamCx X A outer s H E scope f c' with xe := fun e s' => wpAny (model X.prog X.w) (A.deeper (lamEnv X scope s.heap.objs.size f c')) (leaving (lamEnv X scope s.heap.objs.size f c') e) (fun _ s'' => L2N.CX X.prog X.w outer H s E e s'') (fun e' s'' => L2N.CX X.prog X.w outer H s E e' s'') s' }
/-- g() with g one of several lambdas -/
theorem pe_lamGo {ι : Type} {e : Expr} {te : TE} {pos : Pos} {k : Nat} {E : XK} (ps : ι → Arguments) (bs : ι → Expr) (ss : ι → Scope) (tb : ι → TE) (he : PE X e te) (hr : Room (k + 1) X.A) (hL : ∀ i, LamS X.env.scope (ss i)) (hx : Passes (L2N.CX X.prog X.w) X E)
    (hbind : ∀ i (q : Str) (cl : List (Str × Addr)) (pm cv ctv : Value), bindArgs (PySem.W.kla_fn "<lambda>" q (ps i) (bs i) (ss i) cl pm cv ctv) ⟨[], []⟩ = pure [])
    (hbody : ∀ i (A : Around) (outer : List Env) (s : Shared) (H : Hp) (f c' : Addr), Room k (A.deeper (lamEnv X (ss i) s.heap.objs.size f c')) → PE (lamCxN X A outer s H E (ss i) f c') (bs i) (tb i))
    (hc : eval (.Call e [] [] pos) X.env = (do callWith pos (← eval e X.env) [] (backTo pos (starEach [] X.env)) (backToKw pos (keywordEach [] X.env))) := by rfl) :
    PE X (.Call e [] [] pos) (fun σ H Q => te σ H fun v H1 => ∃ (i : ι) (f c' : Addr) (pm ctv : Value), v = .ref f ∧ H1 f = some (LamO f (lamOb X (ps i) (bs i) (ss i) pm c' ctv)) ∧ H1 c' = some (CodeO c' (X.env.qual ++ "<lambda>")) ∧ tb i σ H1 Q) := by
  refine ⟨fun pins s σ H Q I asked => ?_⟩
  rw [hc]
  refine wpAny_bind (thn (he.run pins s σ H _ I asked) fun u s1 ⟨v, H1, J, rv, i, f, c', pm, ctv, ev, hf, hco, q⟩ => ?_)
  subst ev
  obtain rfl := (show u = Value.ref f from rv)
  have here : s1.heap.get? f = some (lamOb X (ps i) (bs i) (ss i) pm c' ctv) := (show ObjOk X.prog X.w H1 s1.heap f (LamO f _) from J.hok f _ hf).1
  refine PySem.W.callWith_F0 ⟨_, _, _, _, here⟩ ?_
  obtain ⟨⟨oc, vs, t, hoc, hdc, hvc⟩, -, -⟩ := (show ObjOk X.prog X.w H1 s1.heap c' (CodeO c' (X.env.qual ++ "<lambda>")) from J.hok c' _ hco)
  have L := hL i
  have rc : codeAny (model X.prog X.w) X.A (.call (.ref f) ⟨[], []⟩) (CR (L2N.CX X.prog X.w) X.stack X.prog X.w H1 s1 Q E) s1 := by
    refine PySem.W.kla_callFunE hr.depth here rfl L.co L.gen rfl ⟨c', oc, vs, t, rfl, hoc, hdc, hvc⟩ ?_
    rw [hbind]
    refine wpAny_pure (wpAny_newFunctionEnv (fun y hy => (L.own y hy).2) (fun y hy => absurd hy (by simp)) (fun h1 ns but => ⟨J.nolimit.fresh _ but, ?_⟩) L.kind)
    show codeAny _ _ (.expr (bs i) (lamEnv X (ss i) s1.heap.objs.size f c')) _ _
    have kp : ∀ b o, s1.heap.get? b = some o → h1.get? b = some o := fun b o z => but.extBut b o (Nat.ne_of_lt (Heap.lt_size z)) (Heap.get?_push_of_some _ z)
    have K0 : Inv (lamCx X X.A X.stack s1 H1 E (ss i) f c') [] σ H1 { s1 with heap := h1, toks := s1.toks + ([] : List (Str × Value)).length } := lam_start2 J L J.env0 hr.hd Un.refl ns kp
    have K1 : Inv (lamCxN X X.A X.stack s1 H1 E (ss i) f c') [] σ H1 { s1 with heap := h1, toks := s1.toks + ([] : List (Str × Value)).length } :=
      ⟨⟨K0.ok.mod, K0.ok.kind, K0.ok.glob, K0.ok.blt, K0.ok.above, K0.ok.inj, K0.ok.has, K0.ok.cab, K0.ok.hd, K0.ok.frames, K0.ok.stk, K0.ok.exf, K0.ok.bs, K0.ok.bsz, K0.ok.noex, K0.ok.exfs, K0.ok.funs, K0.ok.frf⟩, K0.os, K0.bare, K0.base, K0.loc, K0.cell, K0.free, K0.freeC, K0.pin, K0.hok, K0.len⟩
    refine PySem.W.kla_codeExpr (wpAny_mono ((hbody i _ _ s1 H1 f c' (hr.deeper _)).run [] _ _ H1 Q K1 q) (fun v s2 z => ?_) fun _ _ z => z)
    obtain ⟨y, H2, K2, ry, q2⟩ := z
    exact ⟨y, H2, K2.os, K2.bare, K2.base, K2.hok, ry, q2⟩
  refine wpAny_call (codeAny_mono rc fun r s2 z => ?_)
  match r, z with
  | .error _, z => exact hx pins σ H1 s1 _ s2 J z
  | .ok (.ret _), z => exact J.after z
  | .ok .next, z => exact z.elim
  | .ok .brk, z => exact z.elim
  | .ok .cont, z => exact z.elim
end
end Kx
/-! where an error is handled: lists walked, tuples unpacked, a def that gets the error. -/
namespace Kx.Hot
open PySem PySem.Spec PyProof.Rows HotX
section
variable {prog : Program} {w : World} {A : Around} {E : Value → Shared → Prop} {s : Shared} {z l : Addr} {i : Nat} {xs : Array Value}
theorem hot_ne {x : Addr} {oz : Obj} {a b : Value} (hot : HotAt A x s.heap) (h : s.heap.get? z = some oz) (d : oz.data = .fields #[a, b]) : x ≠ z := by
  obtain ⟨_, o, vs, h1, d1, c1⟩ := hot
  rintro rfl
  rw [h1] at h
  cases h
  rw [d1] at d
  cases d
  cases c1
/-- the end of a list's walk -/
theorem list_end {x : Addr} {Q : Option Value → Shared → Prop} (hot : HotAt A x s.heap) (st : s.heap.IsListIter z l i) (isL : s.heap.IsList l xs) (out : xs[i]? = none) (q : ∀ h', Heap.ExtBut z s.heap h' → Q none { s with heap := h' }) : wpAny (model prog w) A (pyNext (.ref z)) Q E s := by
  obtain ⟨oz, hz, cz, dz⟩ := id st
  obtain ⟨ol, hl, _, nl, dl⟩ := isL
  have ne := hot_ne hot hz dz
  obtain ⟨hh, o1, v1, e1, d1, c1⟩ := hot
  unfold pyNext; refine wpAny_bind (wpAny_attempt (wpAny_callSpecial?_slot (name := Str.ofString "__next__") st.typeIs slot_listiter_next (wpAny_call_entry slot_listiter_next st.typeIs entry_listiter_next ?_ (args_listiter_next _))))
  show wpAny _ _ (field (.ref z) 0 >>= _) _ _ s; refine wpAny_bind (wpAny_field hz dz (x := .ref l) rfl ?_)
  show wpAny _ _ (if (Value.ref l == Value.none) = true then _ else _) _ _ s; rw [if_neg (show ¬ ((Value.ref l == Value.none) = true) from Bool.false_ne_true)]
  show wpAny _ _ (field (.ref z) 1 >>= _) _ _ s; refine wpAny_bind (wpAny_field hz dz (x := .int i 0) rfl ?_)
  show wpAny _ _ (seqItems? (.ref l) >>= _) _ _ s; refine wpAny_bind (wpAny_seqItems hl dl ?_)
  simp only [Int.toNat_natCast, out]
  refine wpAny_bind (wpAny_rule (wpAny_bind (wpAny_setField hz dz (by simp) ?_)))
  show wpAny _ _ (newExc (.type "StopIteration") [] >>= _) _ _ _; refine wpAny_bind ?_
  simp only [newExc, newTuple]; refine wpAny_bind (wpAny_newObj_type ?_ (by size_fits))
  refine wpAny_bind (m := firstArgMember _ _) (wpAny_of_eq (a := Value.none) (by first | rfl | (simp only [firstArgMember]; rfl)) ?_); refine wpAny_newObj_type ?_ (by size_fits)
  have e2 : ∀ b o, b ≠ z → s.heap.get? b = some o → (s.heap.update z (Obj.mapFields (·.setIfInBounds 0 Value.none))).get? b = some o := fun b o nb h => by
    rw [Heap.get?_update_other _ _ (Ne.symm nb)]
    exact h
  refine raiseNew_hot ⟨hh, o1, v1, Heap.get?_push_of_some _ (Heap.get?_push_of_some _ (e2 _ _ ne e1)), d1, c1⟩ (Nat.ne_of_lt (Heap.lt_size (Heap.get?_push_of_some _ (e2 _ _ ne e1)))) (Heap.get?_push_size _ rfl) rfl (by first | (simp; done) | (simp; omega) | (simp only [Array.size_append]; simp; omega)) ?_
  refine wpAny_bind (wpAny_isInstance (b := true) (T := "StopIteration") ⟨_, Heap.get?_update_self _ (Heap.get?_push_size _ rfl) rfl, rfl⟩ isSubtype_stop ?_)
  refine wpAny_pure (q _ fun b o nb h => ?_)
  rw [Heap.get?_update_other _ _ (Nat.ne_of_gt (Heap.lt_size (Heap.get?_push_of_some _ (e2 _ _ nb h))))]
  exact Heap.get?_push_of_some _ (Heap.get?_push_of_some _ (e2 _ _ nb h))
/-- the end of a tuple's walk -/
theorem tup_end {x : Addr} {Q : Option Value → Shared → Prop} (hot : HotAt A x s.heap) (st : IsTupIter s.heap z l i) (isT : IsTup s.heap l xs) (out : xs[i]? = none) (q : ∀ h', Heap.ExtBut z s.heap h' → Q none { s with heap := h' }) : wpAny (model prog w) A (pyNext (.ref z)) Q E s := by
  obtain ⟨oz, hz, cz, dz⟩ := id st
  obtain ⟨ol, hl, _, nl, dl⟩ := isT
  have ne := hot_ne hot hz dz
  obtain ⟨hh, o1, v1, e1, d1, c1⟩ := hot
  unfold pyNext; refine wpAny_bind (wpAny_attempt (wpAny_callSpecial?_slot (name := Str.ofString "__next__") st.typeIs slot_tupleiter_next (wpAny_call_entry slot_tupleiter_next st.typeIs entry_tupleiter_next ?_ (args_tupleiter_next _))))
  show wpAny _ _ (field (.ref z) 0 >>= _) _ _ s; refine wpAny_bind (wpAny_field hz dz (x := .ref l) rfl ?_)
  show wpAny _ _ (if (Value.ref l == Value.none) = true then _ else _) _ _ s; rw [if_neg (show ¬ ((Value.ref l == Value.none) = true) from Bool.false_ne_true)]
  show wpAny _ _ (field (.ref z) 1 >>= _) _ _ s; refine wpAny_bind (wpAny_field hz dz (x := .int i 0) rfl ?_)
  show wpAny _ _ (seqItems? (.ref l) >>= _) _ _ s; refine wpAny_bind (wpAny_seqItems hl dl ?_)
  simp only [Int.toNat_natCast, out]
  refine wpAny_bind (wpAny_rule (wpAny_bind (wpAny_setField hz dz (by simp) ?_)))
  show wpAny _ _ (newExc (.type "StopIteration") [] >>= _) _ _ _; refine wpAny_bind ?_
  simp only [newExc, newTuple]; refine wpAny_bind (wpAny_newObj_type ?_ (by size_fits))
  refine wpAny_bind (m := firstArgMember _ _) (wpAny_of_eq (a := Value.none) (by first | rfl | (simp only [firstArgMember]; rfl)) ?_); refine wpAny_newObj_type ?_ (by size_fits)
  have e2 : ∀ b o, b ≠ z → s.heap.get? b = some o → (s.heap.update z (Obj.mapFields (·.setIfInBounds 0 Value.none))).get? b = some o := fun b o nb h => by
    rw [Heap.get?_update_other _ _ (Ne.symm nb)]
    exact h
  refine raiseNew_hot ⟨hh, o1, v1, Heap.get?_push_of_some _ (Heap.get?_push_of_some _ (e2 _ _ ne e1)), d1, c1⟩ (Nat.ne_of_lt (Heap.lt_size (Heap.get?_push_of_some _ (e2 _ _ ne e1)))) (Heap.get?_push_size _ rfl) rfl (by first | (simp; done) | (simp; omega) | (simp only [Array.size_append]; simp; omega)) ?_
  refine wpAny_bind (wpAny_isInstance (b := true) (T := "StopIteration") ⟨_, Heap.get?_update_self _ (Heap.get?_push_size _ rfl) rfl, rfl⟩ isSubtype_stop ?_)
  refine wpAny_pure (q _ fun b o nb h => ?_)
  rw [Heap.get?_update_other _ _ (Nat.ne_of_gt (Heap.lt_size (Heap.get?_push_of_some _ (e2 _ _ nb h))))]
  exact Heap.get?_push_of_some _ (Heap.get?_push_of_some _ (e2 _ _ nb h))
/-- (a, b, ..) = a tuple -/
theorem tup_stored {x : Addr} {env : Env} {es : List Expr} {k} {pos : Pos} {Q : Unit → Shared → Prop} (hot : HotAt A x s.heap) (isT : IsTup s.heap l xs) (n : (assignEach es env).length = xs.size) (star : (assignEach es env).findIdx? (·.1) = none)
    (go : ∀ h', Heap.ExtBut s.heap.objs.size s.heap h' → wpAny (model prog w) A (assignInOrder ((assignEach es env).map (·.2)) xs.toList) Q E { s with heap := h' }) : wpAny (model prog w) A (assign (.Tuple es k pos) env (.ref l)) Q E s := by
  rw [assign_Tuple]; refine wpAny_bind (wpAny_standAt ?_)
  unfold unpack
  rw [n, star]; refine wpAny_bind (wpAny_holding ?_)
  have apart : l ≠ s.heap.objs.size := by obtain ⟨o, h, _⟩ := isT; exact Nat.ne_of_lt (Heap.lt_size h)
  obtain ⟨hh, o1, v1, e1, d1, c1⟩ := hot
  have ax : x ≠ s.heap.objs.size := Nat.ne_of_lt (Heap.lt_size e1)
  unfold unpackItems; refine wpAny_bind ?_
  unfold notIterableAtAll; refine wpAny_bind (wpAny_specialOf isT.typeIs slot_tuple_iter.lookup ?_)
  refine wpAny_pure ?_; simp only [Bool.false_eq_true, if_false]
  refine wpAny_bind (wpAny_holding (iter_tuple isT ?_)); refine wpAny_bind (wpAny_holding (draw_tuple apart xs.size 0 _ _ ⟨_, Heap.get?_push_size _ rfl, rfl, rfl⟩ (isT.push _) (by omega) fun h1 st1 but1 => ?_))
  have whole : List.take xs.size (List.drop 0 xs.toList) = xs.toList := by rw [List.drop_zero]; exact List.take_of_length_le (by simp)
  rw [whole]; rw [if_neg (by simp)]
  have isT1 : IsTup h1 l xs := (isT.push _).extBut but1.extBut apart
  have hot1 : HotAt A x h1 := ⟨hh, o1, v1, (but1.2 x ax).trans (Heap.get?_push_of_some _ e1), d1, c1⟩
  refine wpAny_bind (wpAny_holding (tup_end hot1 st1 isT1 (by simp) fun h2 ext2 => ?_)); simp only [Option.isSome_none, Bool.false_eq_true, if_false]
  exact wpAny_pure (go h2 fun b o nb e => ext2 b o nb (but1.extBut b o nb (Heap.get?_push_of_some _ e)))
end
end Kx.Hot
/-! A try with several clauses, of one class or of five; the context of what is caught is None. -/
namespace Kx.N
open PySem PyProof.Rows L2 PySem.Spec

section
variable {M : Model} {K : PySem.W.Frag}
open PySem.W PySem.Calls
/-- a tuple of five classes is asked -/
theorem exm5 {a1 a2 a3 a4 a5 cls : Value} {tp x : Addr} {y : Bool} {h : Heap} (inK : K.In h) (ty : Looks M h (typeOf (.ref x)) cls) (here : h.get? tp = some { cls := .type "tuple", data := .seq [a1, a2, a3, a4, a5].toArray }) (hx : exmAny K cls [a1, a2, a3, a4, a5] = some y) :
    Looks M h (excMatches (.ref x) (.ref tp)) y := by
  intro A Q E s k0 q
  obtain ⟨hh, gz, d, tk, os⟩ := s
  have k : ∀ b o, h.get? b = some o → hh.get? b = some o := k0
  have isT : Looks M h (isInstance (.ref tp) (.type "tuple")) true := ((Looks.ld here).andThen .now).andThen (Looks.of_pure isSubtype_tuple_tuple)
  obtain ⟨b1, r1, o1, hx, z1⟩ := exmAny_cons hx
  obtain ⟨b2, r2, o2, hx, z2⟩ := exmAny_cons hx
  obtain ⟨b3, r3, o3, hx, z3⟩ := exmAny_cons hx
  obtain ⟨b4, r4, o4, hx, z4⟩ := exmAny_cons hx
  obtain ⟨b5, r5, o5, hx, z5⟩ := exmAny_cons hx
  obtain rfl : false = r5 := Option.some.inj hx
  have both : ∀ {c : Value} {v : Bool}, exmOne K cls c = some v → Looks M hh (isExcClass c) true ∧ Looks M hh (isSubtype cls c) v := fun o => ⟨(exm_cls (M := M) inK o).1.keeps k, (exm_cls (M := M) inK o).2.keeps k⟩
  obtain ⟨u1, w1⟩ := both o1
  obtain ⟨u2, w2⟩ := both o2
  obtain ⟨u3, w3⟩ := both o3
  obtain ⟨u4, w4⟩ := both o4
  obtain ⟨u5, w5⟩ := both o5
  have ty := ty.keeps k
  have isT := isT.keeps k
  have at_ := k _ _ here
  subst z1 z2 z3 z4 z5
  unfold excMatches; refine wpAny_bind (isT.at ?_)
  dsimp only; rw [if_pos rfl]
  first
    | exact wpAny_bind (wpAny_seqItems at_ rfl (by dsimp only [Option.getD_some, Option.getD]; cases b1 <;> cases b2 <;> cases b3 <;> cases b4 <;> cases b5 <;> ((repeat (first | simp only [List.forIn_cons, List.forIn_nil, Bool.not_true, Bool.false_eq_true, if_false, if_true] | lk)); exact q)))
    | exact wpAny_bind (wpAny_bind (wpAny_seqItems at_ rfl (wpAny_pure (by dsimp only [Option.getD_some, Option.getD]; cases b1 <;> cases b2 <;> cases b3 <;> cases b4 <;> cases b5 <;> ((repeat (first | simp only [List.forIn_cons, List.forIn_nil, Bool.not_true, Bool.false_eq_true, if_false, if_true] | lk)); exact q)))))
theorem exm_single {cls c : Value} {y : Bool} (h : exmAny K cls [c] = some y) : exmOne K cls c = some y := by
  obtain ⟨b, r, o, hx, z⟩ := exmAny_cons h
  obtain rfl : false = r := Option.some.inj hx
  rw [z, Bool.or_false]
  exact o
end
theorem fly_keeps {G : Heap} {l : List Env} {x : Addr} {Z : Obj → Prop} {h h' : Heap} (f : HandSPX.FlyingZ G l x Z h) (k : ∀ b o, h.get? b = some o → h'.get? b = some o) : HandSPX.FlyingZ G l x Z h' := by
  obtain ⟨f1, f2, f3, ob, ws, T, ot, ts, e1, e2, e3, e4, e5, e6, e7, e8, e9⟩ := f
  exact ⟨fun b o q => k b o (f1 b o q), f2, f3.of_keeps fun b o q _ => ⟨o, k b o q, rfl⟩, ob, ws, T, ot, ts, k _ _ e1, e2, e3, e4, e5, e6, k _ _ e7, e8, e9⟩
/-- an error that came down to this frame and whose flight is over; `old` is the state without it -/
structure Down (X : Cx) (pins : List (Addr × Obj)) (σ : L2.St) (H : Hp) (x : Addr) (cls : Value) (d : Option Addr) (G : Heap) (old now : Shared) : Prop where
  was : Inv X pins σ H old
  low : ∀ b o, old.heap.get? b = some o → b ∉ frs X.stack → G.get? b = some o
  up : old.heap.UpToSlots now.heap
  fly : HandSPX.FlyingZ G (X.env :: X.outer) x (L2N.Zn cls d) now.heap
  fresh : H x = none
  sys : now.os = old.os
  bare : AllBare now.gens
section
variable {X : Cx} {pins : List (Addr × Obj)} {σ : L2.St} {H : Hp} {x : Addr} {cls : Value} {d : Option Addr} {G : Heap} {old now : Shared}
theorem Down.inv (D : Down X pins σ H x cls d G old now) : Inv X pins σ H now := D.was.landed D.low D.fly.1 D.up D.sys D.bare
/-- the record, and that it is no frame -/
theorem Down.rec_ (D : Down X pins σ H x cls d G old now) (hf : X.env.frame = some X.env.locals) :
    ∃ (ob : Obj) (vs : Array Value), now.heap.get? x = some ob ∧ L2N.Zn cls d ob ∧ ob.data = .fields vs ∧ x ≠ X.env.locals ∧ x ∉ X.fs := by
  obtain ⟨ob, vs, h1, h2, h3⟩ := D.fly.there
  have out : x ∉ frs (X.env :: X.outer) := by
    intro hm
    obtain ⟨_, ob2, h4, h5⟩ := D.fly.2.2.1.mem hm
    rw [h1] at h4
    cases h4
    exact h5 _ h3
  refine ⟨ob, vs, h1, h2, h3, fun z => out ?_, fun hm => out ?_⟩
  · exact List.mem_filterMap.mpr ⟨_, List.mem_cons_self, by rw [hf, z]⟩
  · obtain ⟨e1, h6, h7⟩ := List.mem_filterMap.mp hm
    exact List.mem_filterMap.mpr ⟨e1, List.mem_cons_of_mem _ h6, h7⟩
/-- within a suite -/
theorem Down.held (D : Down X pins σ H x cls d G old now) (hf : X.env.frame = some X.env.locals) :
    ∃ ob : Obj, now.heap.get? x = some ob ∧ L2N.Zn cls d ob ∧ (∃ vs, ob.data = .fields vs) ∧ Inv (X.suite x ((x, ob) :: (X.pn ++ pins))) [] σ H now := by
  obtain ⟨ob, vs, h1, h2, h3, h4, h5⟩ := D.rec_ hf
  exact ⟨ob, h1, h2, ⟨vs, h3⟩, D.inv.suite h1 h3 D.fresh h4 h5⟩
/-- no clause takes it: it goes on -/
theorem Down.goes {pos : Pos} {E : Ends} {W : WX} (D : Down X pins σ H x cls d G old now) (hs : X.stack = X.env :: X.outer) (hf : X.env.frame = some X.env.locals) (tk : L2N.Takes X W) (hw : W cls d σ H) :
    wpAny (model X.prog X.w) X.A (handleBy (.ref x) X.env []) (SP X pins E) X.xe now := by
  obtain ⟨_, _, _, ob, vs, T, _, _, h1, _, h3, h4, _⟩ := D.fly
  have away : wpAny (model X.prog X.w) X.A (setFlight (.ref x) X.env.frame) (fun _ s => wpAny (model X.prog X.w) X.A (throw (.ref x) : Sem Flow) (SP X pins E) X.xe s) X.xe now := by
    rw [hf]
    refine HandSPX.setFlight_upZ D.fly fun h' held up' => wpAny_throw (tk _ _ ⟨x, G, old, pins, σ, H, cls, d, rfl, D.was, D.low, D.up.trans up', ?_, D.fresh, D.sys, D.bare, hw⟩)
    rw [hs]
    exact .inr (.inr held)
  refine wpAny_handleBy_nil (wpAny_bind (wpAny_field h1 h3 h4 ?_))
  have some_ : ¬ ((Value.ref T == Value.none) = true) := by simp
  rw [if_neg some_]
  first
    | exact wpAny_bind away
    | exact wpAny_bind (wpAny_pure (wpAny_bind away))
end
/-- one clause: the class it names, the place of its name, its suite's reading -/
abbrev Clause : Type := List Value × Nat × (Addr → Value → Option Addr → TS)
/-- behind a suite the name at i is gone -/
def bare (E : Ends) (i : Nat) : Ends where
  nx := fun σ H => E.nx (σ.set i none) H
  rt := E.rt
  bk := fun σ H => E.bk (σ.set i none) H
  ct := fun σ H => E.ct (σ.set i none) H
/-- what is asked of an error that the body lets out -/
def asks (K : PySem.W.Frag) (W : WX) (E : Ends) : List Clause → WX
  | [] => W
  | k :: r => fun cls d σ H => ∃ y, PySem.W.exmAny K cls k.1 = some y ∧ (y = true → ∀ x, H x = none → k.2.2 x cls d (bare E k.2.1) (σ.set k.2.1 (some (.ref x))) H) ∧ (y = false → asks K W E r cls d σ H)
inductive Clauses (X : Cx) : List ExceptHandler → List Clause → Prop
  | nil : Clauses X [] []
  | cons {nm n : Str} {i : Nat} {c : Value} {t : Addr → Value → Option Addr → TS} {st : Stmt} {more : List Stmt} {p1 p2 : Pos} {hs : List ExceptHandler} {ks : List Clause} (nd : X.N.Nodup) (at_ : X.N[i]? = some n) (loc : X.env.kindOf n = some .local) (cl : Names X nm c)
      (su : ∀ (x : Addr) (ob : Obj) (cls : Value) (d : Option Addr) (pn : List (Addr × Obj)), L2N.Zn cls d ob → (∃ vs, ob.data = .fields vs) → PSs (X.suite x ((x, ob) :: pn)) (st :: more) (t x cls d)) (rest : Clauses X hs ks) :
      Clauses X (.ExceptHandler (some (.Name nm p1)) (some n) (st :: more) p2 :: hs) (([c], i, t) :: ks)
  | five {m1 m2 m3 m4 m5 n : Str} {i kk : Nat} {c1 c2 c3 c4 c5 : Value} {t : Addr → Value → Option Addr → TS} {st : Stmt} {more : List Stmt} {p1 p2 p3 p4 p5 p6 p7 : Pos} {hs : List ExceptHandler} {ks : List Clause} (nd : X.N.Nodup) (at_ : X.N[i]? = some n) (loc : X.env.kindOf n = some .local)
      (l1 : Names X m1 c1) (l2 : Names X m2 c2) (l3 : Names X m3 c3) (l4 : Names X m4 c4) (l5 : Names X m5 c5)
      (su : ∀ (x : Addr) (ob : Obj) (cls : Value) (d : Option Addr) (pn : List (Addr × Obj)), L2N.Zn cls d ob → (∃ vs, ob.data = .fields vs) → PSs (X.suite x ((x, ob) :: pn)) (st :: more) (t x cls d)) (rest : Clauses X hs ks) :
      Clauses X (.ExceptHandler (some (.Tuple [.Name m1 p1, .Name m2 p2, .Name m3 p3, .Name m4 p4, .Name m5 p5] kk p6)) (some n) (st :: more) p7 :: hs) (([c1, c2, c3, c4, c5], i, t) :: ks)
section
variable {X : Cx} {pins : List (Addr × Obj)} {σ : L2.St} {H : Hp} {x : Addr} {cls : Value} {d : Option Addr} {G : Heap} {old now : Shared} {E : Ends} {W : WX}
theorem name_there {nm : Str} {c : Value} {p1 : Pos} {ob : Obj} {Q E' : Value → Shared → Prop} (cl : Names X nm c) (J : Inv (X.suite x ((x, ob) :: (X.pn ++ pins))) [] σ H now) (q : Q c now) :
    wpAny (model X.prog X.w) (X.A.mark (some (.ref x))) (eval (.Name nm p1) X.env) Q E' now := by
  obtain ⟨g, db, m | ⟨m, b, nn⟩⟩ := cl
  · exact ld_glob J g m q db
  · exact ld_blt J g m b q nn db
theorem Down.clauses (D : Down X pins σ H x cls d G old now) (hs : X.stack = X.env :: X.outer) (hf : X.env.frame = some X.env.locals) (tk : L2N.Takes X W) {hds : List ExceptHandler} {ks : List Clause} (C : Clauses X hds ks) (w : asks X.K W E ks cls d σ H) :
    wpAny (model X.prog X.w) X.A (handleBy (.ref x) X.env hds) (SP X pins E) X.xe now := by
  induction C generalizing now with
  | nil => exact D.goes (pos := ⟨0, 0, 0, 0⟩) hs hf tk w
  | @cons nm n i c t st more p1 p2 hs' ks' nd at_ loc cl su rest ih =>
    obtain ⟨y, hy, yes, no⟩ := w
    obtain ⟨ob, h1, h2, h3, J⟩ := D.held hf
    refine wpAny_handleBy_cons (codeAny_handlers_test (name_there cl J ?_)) (fun z => nomatch z)
    have ty : PySem.W.Looks (model X.prog X.w) now.heap (typeOf (.ref x)) cls := fun _ _ _ _ k q => wpAny_typeOf_ref (k _ _ h1) (by rw [h2.1]; exact q)
    refine (PySem.W.exm_one D.inv.kIn ty (exm_single hy)).here ?_
    cases y with
    | false => exact ih D (no rfl)
    | true =>
      refine codeAny_handlers_suite_as (HandSPX.lands_againZ D.fly fun h' fl up' => ?_)
      have D' : Down X pins σ H x cls d G old { now with heap := h' } := ⟨D.was, D.low, D.up.trans up', fl, D.fresh, D.sys, D.bare⟩
      obtain ⟨ob', _, g2, g3, J'⟩ := D'.held hf
      refine store_ok (X := X.suite x ((x, ob') :: (X.pn ++ pins))) (v := .ref x) J' nd at_ (.inl loc) rfl (fun s2 J2 => ?_) (.inr loc)
      refine wpAny_mono ((su x ob' cls d (X.pn ++ pins) g2 g3).run [] s2 _ H _ J2 (yes rfl x D.fresh)) (fun f s3 hf3 => ?_) (fun _ _ z => z.elim)
      have gone : ∀ {σ3 : L2.St} {H3 : Hp} {R : Shared → Prop}, Inv (X.suite x ((x, ob') :: (X.pn ++ pins))) [] σ3 H3 s3 → (∀ s4, Inv X pins (σ3.set i none) H3 s4 → R s4) →
          wpAny (model X.prog X.w) X.A (do bindName X.env n .none; unbindBehindTheSuite X.env n p2) (fun _ s4 => R s4) X.xe s3 := fun J3 q => gone_ok (J3.unsuite D.was.ok) nd at_ loc q
      match f, hf3 with
      | .next, ⟨_, _, J3, q⟩ => exact gone J3 fun _ J4 => ⟨_, _, J4, q⟩
      | .brk, ⟨_, _, J3, q⟩ => exact gone J3 fun _ J4 => ⟨_, _, J4, q⟩
      | .cont, ⟨_, _, J3, q⟩ => exact gone J3 fun _ J4 => ⟨_, _, J4, q⟩
      | .ret _, ⟨_, _, _, J3, r, q⟩ => exact gone J3 fun _ J4 => ⟨_, _, _, J4, r, q⟩
  | @five m1 m2 m3 m4 m5 n i kk c1 c2 c3 c4 c5 t st more p1 p2 p3 p4 p5 p6 p7 hs' ks' nd at_ loc l1 l2 l3 l4 l5 su rest ih =>
    obtain ⟨y, hy, yes, no⟩ := w
    obtain ⟨ob, h1, h2, h3, J⟩ := D.held hf
    refine wpAny_handleBy_cons (codeAny_handlers_test ?_) (fun z => nomatch z)
    refine wpAny_Tuple (wpAny_items_cons (name_there l1 J (wpAny_items_cons (name_there l2 J (wpAny_items_cons (name_there l3 J (wpAny_items_cons (name_there l4 J (wpAny_items_cons (name_there l5 J (wpAny_items_nil ⟨by size_fits, ?_⟩)))))))))))
    have kp : ∀ b o, now.heap.get? b = some o → (now.heap.push { cls := .type "tuple", data := .seq [c1, c2, c3, c4, c5].toArray }).get? b = some o := fun _ _ z => Heap.get?_push_of_some _ z
    have ty : PySem.W.Looks (model X.prog X.w) (now.heap.push { cls := .type "tuple", data := .seq [c1, c2, c3, c4, c5].toArray }) (typeOf (.ref x)) cls := fun _ _ _ _ k q => wpAny_typeOf_ref (k _ _ (kp _ _ h1)) (by rw [h2.1]; exact q)
    refine (exm5 (D.inv.kIn.keeps kp) ty (Heap.get?_push_size now.heap rfl) hy).here ?_
    have D5 : Down X pins σ H x cls d G old { now with heap := now.heap.push { cls := .type "tuple", data := .seq [c1, c2, c3, c4, c5].toArray } } := ⟨D.was, D.low, D.up.trans (Heap.UpToSlots.of_keeps kp), fly_keeps D.fly kp, D.fresh, D.sys, D.bare⟩
    cases y with
    | false => exact ih D5 (no rfl)
    | true =>
      refine codeAny_handlers_suite_as (HandSPX.lands_againZ D5.fly fun h' fl up' => ?_)
      have D' : Down X pins σ H x cls d G old { now with heap := h' } := ⟨D.was, D.low, D5.up.trans up', fl, D.fresh, D.sys, D.bare⟩
      obtain ⟨ob', _, g2, g3, J'⟩ := D'.held hf
      refine store_ok (X := X.suite x ((x, ob') :: (X.pn ++ pins))) (v := .ref x) J' nd at_ (.inl loc) rfl (fun s2 J2 => ?_) (.inr loc)
      refine wpAny_mono ((su x ob' cls d (X.pn ++ pins) g2 g3).run [] s2 _ H _ J2 (yes rfl x D.fresh)) (fun f s3 hf3 => ?_) (fun _ _ z => z.elim)
      have gone : ∀ {σ3 : L2.St} {H3 : Hp} {R : Shared → Prop}, Inv (X.suite x ((x, ob') :: (X.pn ++ pins))) [] σ3 H3 s3 → (∀ s4, Inv X pins (σ3.set i none) H3 s4 → R s4) →
          wpAny (model X.prog X.w) X.A (do bindName X.env n .none; unbindBehindTheSuite X.env n p7) (fun _ s4 => R s4) X.xe s3 := fun J3 q => gone_ok (J3.unsuite D.was.ok) nd at_ loc q
      match f, hf3 with
      | .next, ⟨_, _, J3, q⟩ => exact gone J3 fun _ J4 => ⟨_, _, J4, q⟩
      | .brk, ⟨_, _, J3, q⟩ => exact gone J3 fun _ J4 => ⟨_, _, J4, q⟩
      | .cont, ⟨_, _, J3, q⟩ => exact gone J3 fun _ J4 => ⟨_, _, J4, q⟩
      | .ret _, ⟨_, _, _, J3, r, q⟩ => exact gone J3 fun _ J4 => ⟨_, _, _, J4, r, q⟩
end
/-- try: body / except C as n: .. / except D as m: .. -/
theorem ps_tries {X : Cx} {body : List Stmt} {hd : ExceptHandler} {hds : List ExceptHandler} {ks : List Clause} {pos : Pos} {tb : WX → TS} {W : WX} (hs : X.stack = X.env :: X.outer) (hf : X.env.frame = some X.env.locals) (tk : L2N.Takes X W)
    (hb : ∀ (U : WX) (pn : List (Addr × Obj)) (xe : Value → Shared → Prop), L2N.Takes (X.tr pn xe) U → PassesOwn (model X.prog X.w) X.A X.env xe → PSs (X.tr pn xe) body (tb U)) (C : Clauses X (hd :: hds) ks) :
    PS X (.Try body (hd :: hds) [] [] pos) (fun E σ H => tb (asks X.K W E ks) E σ H) := by
  refine ⟨fun pins s σ H E I h => wpAny_Try_except ?_⟩
  have top : X.A.frames = some (X.env :: X.outer) := by rw [I.ok.frames, hs]
  have inner := hb (asks X.K W E ks) (X.pn ++ pins) (fun e s1 => wpAny (model X.prog X.w) X.A (noteFrame e X.env) (fun _ s2 => wpAny (model X.prog X.w) X.A (setFlight e none)
    (fun _ s3 => wpAny (model X.prog X.w) X.A (handleBy e X.env (hd :: hds)) (SP X pins E) X.xe s3) X.xe s2) X.xe s1) ?_ PassesOwn.looking
  · refine wpAny_mono (inner.run [] s σ H E (I.toTry _) h) (fun f s1 q => ?_) (fun _ _ z => z)
    match f, q with
    | .next, ⟨_, _, J, q⟩ => exact wpAny_execs_nil ⟨_, _, J.ofTry I.ok, q⟩
    | .brk, ⟨_, _, J, q⟩ => exact ⟨_, _, J.ofTry I.ok, q⟩
    | .cont, ⟨_, _, J, q⟩ => exact ⟨_, _, J.ofTry I.ok, q⟩
    | .ret _, ⟨_, _, _, J, r, q⟩ => exact ⟨_, _, _, J.ofTry I.ok, r, q⟩
  · rintro u s1 ⟨x, G, old, _, σ1, H1, cls, d, rfl, J, low, up, sky, fr, sys, bare, w⟩
    rw [show (X.tr (X.pn ++ pins) _).stack = X.env :: X.outer from hs] at sky
    refine L2N.Sky.land L2N.Zn.steady top hf sky fun h' fl up' => ?_
    exact Down.clauses (now := { s1 with heap := h' }) ⟨J.ofTry I.ok, low, up.trans up', fl, fr, sys, bare⟩ hs hf tk C w
end Kx.N
namespace Kx.Hot
open L2 L2H PySem PySem.Spec PyProof.Rows HotX
/-- a list walked where an error is handled -/
theorem turnL {P : Program} {w : World} {K : PySem.W.Frag} {tg : Expr} (a z : Addr) : TurnH P w K tg (Itl K a) [z] z (fun i h => h.IsListIter z a i) where
  mem := List.mem_singleton.mpr rfl
  obj := fun i h st b hb => by
    obtain rfl := List.mem_singleton.mp hb
    obtain ⟨o, e, c, d⟩ := st
    exact ⟨o, e, fun v q => by rw [d] at q; cases q⟩
  keep := fun i h h' st k => st.at fun o e => k z (List.mem_singleton.mpr rfl) o e
  item := fun X hP hw hK hc i pins s σ H E I hf st hg => by
    subst hP hw hK
    obtain ⟨xs, x, hq, hx⟩ := hg
    obtain ⟨us, rv, isL, _⟩ := I.list hq
    obtain ⟨u, hu, rz⟩ := rv.get hx
    obtain ⟨f0, f1, f2, f3, f4, f5⟩ := hf z (List.mem_singleton.mpr rfl)
    refine wpAny_pyNext_list_item st isL.isList (x := u) (by simpa using hu) fun h' st' but => ?_
    have J : Inv X pins σ H { s with heap := h' } := I.turned (t' := s.toks) (fun b o hb e => (but.2 b hb).trans e) f0 f1 f3 f4 f5
    obtain ⟨o, e, c, d⟩ := id st'
    exact ⟨u, rfl, go_of (s := { s with heap := h' }) e c d (by decide) ⟨x, H, J, rz, ⟨rfl, fun ys hy => (I.list_inj hy hq) ▸ hx⟩, st', fun b hb => (hf b hb).1⟩⟩
  done := fun X hP hw hK hc i pins s σ H E I hf st hg => by
    subst hP hw hK
    obtain ⟨xs, hq, hx⟩ := hg
    obtain ⟨us, rv, isL, _⟩ := I.list hq
    obtain ⟨f0, f1, f2, f3, f4, f5⟩ := hf z (List.mem_singleton.mpr rfl)
    have n := rv.length
    obtain ⟨x1, hot⟩ := hc.at I
    exact list_end hot st isL.isList (by simp; omega) fun h' eb => ⟨rfl, I.turned (t' := s.toks) (fun b o hb e => eb b o hb e) f0 f1 f3 f4 f5⟩
  self := fun _ _ _ _ _ st q => wpAny_pyIter_listiter st q
section
variable {X : Cx} {tg e : Expr} {te : TE}
theorem pi_listH (he : PE X e te) : PIH X tg e (iList X.K te) := by
  refine ⟨fun pins s σ H R I h => thn (he.run pins s σ H _ I h) fun u t ⟨x, H1, J, rx, a, ex, ⟨xs, hx⟩, q⟩ => ?_⟩
  subst ex
  obtain rfl := (show u = Value.ref a from rx)
  obtain ⟨_, _, isL, _⟩ := J.list hx
  refine wpAny_pyIter_list isL.isList ⟨_, [t.heap.objs.size], _, _, H1, rfl, J.kept (t' := t.toks) fun b v z => Heap.get?_push_of_some _ z, turnL a _, ⟨_, Heap.get?_push_size _ rfl, rfl, rfl⟩, fun b hb => ?_, q⟩
  obtain rfl := List.mem_singleton.mp hb
  exact J.fpOk (Nat.le_refl _) (J.hok.fresh (Nat.le_refl _))
theorem pg_tupH {es : List Expr} {k : Nat} {t : TGs} {n : Nat} {pos : Pos} (hc : HotC X) (h : PGs X es t) (hn : (assignEach es X.env).length = n := by rfl) (hst : (assignEach es X.env).findIdx? (·.1) = none := by rfl) : PG X (.Tuple es k pos) (gTup X.K n t) := by
  refine ⟨fun pins s σ H v u Q I r asked => ?_⟩
  obtain ⟨a, xs, rfl, hq, hl, hw⟩ := asked
  cases r
  obtain ⟨us, rv, isT, _⟩ := I.tuple hq
  obtain ⟨x1, hot⟩ := hc.at I
  refine tup_stored hot isT (by simp [hn, ← hl, rv.length]) hst fun h' but => ?_
  exact h.run pins _ σ H xs _ Q (I.kept (t' := s.toks) fun b o e => but b o (Nat.ne_of_lt (Heap.lt_size e)) e) (by simpa using rv) hw
end
/-! ### a def that gets the error that is handled -/
/-- what such a def promises of the error p -/
structure FnE (P : Program) (w : World) (K : PySem.W.Frag) (mg : Str → Option Value) (base : Heap) (k : Nat) (f : Addr) (fd : FuncData) (ps : List Str) (sp : Addr × Obj → Sp) : Prop where
  len : ∀ p vs H Q E, sp p vs H Q E → vs.length = ps.length
  run : ∀ (A : Around) (outer : List Env) (s : Shared) (H : Hp) (args : Args) (us : List Value) (vs : List V) (Q : VK) (p : Addr × Obj), RoomH k A → Hot1 A p → PinOk outer H s p → Env0 P w K mg base A outer s H → BindsTo s fd args (ps.zip us) → Vals vs us → sp p vs H Q (fun _ _ _ => False) →
    codeAny (model P w) A (.call (.ref f) args) (CR CX0 outer P w H s Q (fun _ _ _ => False)) s
theorem FnE.of {P : Program} {w : World} {K : PySem.W.Frag} {mg : Str → Option Value} {base : Heap} {k : Nat} {f : Addr} {fd : FuncData} {x qual : Str} {params : Arguments} {body : List Stmt} {scope : Scope} {N ps : List Str} {sp : Addr × Obj → Sp} (F : FunD K x qual params body scope [] [] f fd) (S : FnScope N ps scope)
    (len : ∀ p vs H Q E, sp p vs H Q E → vs.length = ps.length)
    (hbody : ∀ (cdv : Value) (A : Around) (outer : List Env) (s : Shared) (H : Hp) (vs : List V) (Q : VK) (p : Addr × Obj), Hot1 A p → RoomH k (A.deeper (envOfC qual scope s.heap.objs.size f cdv)) → sp p vs H Q (fun _ _ _ => False) →
      ∃ t, PSs (cxH CX0 P w K mg base N qual scope f cdv A outer s H (fun _ _ _ => False) p) body t ∧ t { nx := fun _ H' => Q .non H', rt := Q } (L2.start N vs) H) : FnE P w K mg base (k + 1) f fd ps sp := by
  obtain ⟨oc, od, dV, kV, doc, pm, an, cdv, ct, osl, rfl, lk, hcd, -, -⟩ := F.ex
  refine ⟨len, fun A outer s H args us vs Q p hr hot pin e0 hb rel asked => ?_⟩
  have n := len _ _ _ _ _ asked
  have inK : K.In s.heap := e0.mod.kin.keeps fun b o e => (e0.bs b o e).1
  have wide : s.heap.NoLimit := e0.mod.nolimit.keeps fun b o e => (e0.bs b o e).1
  have kinds : ∀ y ∈ ps.zip us, scope.names.lookup y.1 = some .local ∨ (scope.names.lookup y.1 = some .cell ∧ ((cellsFrom (s.heap.objs.size + 1) scope.names []).lookup y.1).isSome = true) := by
    rintro ⟨m, v⟩ hy
    exact (S.par m (List.of_mem_zip hy).1).imp id fun q => ⟨q, PySem.W.cellsFrom_some _ _ _ (.inl q)⟩
  refine codeAny_call_function hr.depth (inK _ _ lk) rfl S.co S.gen rfl (PySem.W.codeRec_of inK hcd) (hb _ _ _ _ ?_)
  refine wpAny_newFunctionEnv_cells S.kind kinds fun env here s1 x => ?_
  subst here
  refine ⟨wide.keeps x.toInCall.keep, codeAny_func ?_⟩
  obtain ⟨t, ht, go⟩ := hbody cdv A outer s H vs Q p hot (hr.deeper _) asked
  have I : Inv (cxH CX0 P w K mg base N qual scope f cdv A outer s H (fun _ _ _ => False) p) [] (L2.start N vs) H s1 := inv_startH S pin e0 n rel x
  refine wpAny_mono (ht.run [] s1 (L2.start N vs) H _ I go) (fun fl s' z => ?_) fun _ _ z => z
  match fl, z with
  | .ret u, ⟨v, σ', H', J, rv, q⟩ => exact ⟨v, H', J.os, J.bare, J.base, J.hok, rv, q⟩
  | .next, ⟨σ', H', J, q⟩ => exact ⟨.non, H', J.os, J.bare, J.base, J.hok, rfl, q⟩
  | .brk, ⟨_, _, _, q⟩ => exact q.elim
  | .cont, ⟨_, _, _, q⟩ => exact q.elim
structure CalE (P : Program) (w : World) (K : PySem.W.Frag) (mg : Str → Option Value) (base : Heap) (k : Nat) (x : Str) (ps : List Str) (sp : Addr × Obj → Sp) : Prop where
  ex : ∃ (f : Addr) (fd : FuncData), mg x = some (.ref f) ∧ PySem.W.keepIn K (.ref f) = true ∧ Binds K fd ps [] ∧ FnE P w K mg base k f fd ps sp
/-- f(e) in the suite that holds the error -/
theorem pe_callE {X : Cx} {k j : Nat} {x : Str} {ps : List Str} {sp : Addr × Obj → Sp} {e : Expr} {es : List Expr} {t : TA} {p pos : Pos} {a : Addr} {ob : Obj} {cls : Value} {d : Option Addr} {pn : List (Addr × Obj)} (c : CalE X.prog X.w X.K X.mg X.base k x ps sp) (hr : Room j X.A) (hz : L2N.Zn cls d ob) (hf : ∃ vs, ob.data = .fields vs)
    (ha : PA (X.suite a ((a, ob) :: pn)) (e :: es) t) (hk : k ≤ j := by decide) (hg : Gl X x := by rfl) (hdb : (x == ("__debug__" : Str)) = false := by decide)
    (hz2 : starEach (e :: es) X.env = (false, eval e X.env) :: starEach es X.env := by rfl) (hpl : (backTo pos (starEach es X.env)).any (·.1) = false := by rfl) :
    PE (X.suite a ((a, ob) :: pn)) (.Call (.Name x p) (e :: es) [] pos) (fun σ H Q => t σ H fun vs H1 => sp (a, ob) vs H1 Q (fun _ _ _ => False)) := by
  obtain ⟨f, fd, c1, c2, c3, F⟩ := c.ex
  refine ⟨fun pins s σ H Q I h => wpAny_Call_Name_kw (ld_glob (X := X.suite a ((a, ob) :: pn)) I hg c1 ?_ hdb)⟩
  refine PySem.W.callWith_K (h₀ := X.base) I.ok.mod.kin c2 (thn (ha.run pos pins s σ H _ I h) fun us s1 ⟨vs, H1, J, rel, q⟩ => ⟨J.kIn, ?_⟩) hz2 hpl
  obtain ⟨g0, n0, nL, nF, nc⟩ := J.pin (a, ob) (List.mem_append_left _ List.mem_cons_self)
  have pin : PinOk X.stack H1 s1 (a, ob) := ⟨g0, n0, fun m => (List.mem_cons.mp (J.stkSub a m)).elim nL nF, nc⟩
  have hot : Hot1 (X.suite a ((a, ob) :: pn)).A (a, ob) := ⟨rfl, hf.elim fun vs z => ⟨vs, z, hz.2.2 vs z⟩⟩
  have n : (us ++ []).length = ps.length := by rw [List.append_nil, ← rel.length]; exact F.len _ _ _ _ _ q
  have b := c3 s1 us J.kIn n
  rw [List.append_nil] at b
  have room : RoomH k (X.suite a ((a, ob) :: pn)).A := ⟨(hr.mono hk).dp, (hr.mono hk).un⟩
  refine wpAny_call (codeAny_mono (F.run _ X.stack s1 H1 ⟨us, []⟩ us vs Q (a, ob) room hot pin J.env0 b rel q) fun r s2 z => ?_)
  match r, z with
  | .error _, z => exact z.elim
  | .ok (.ret _), z => exact J.after z
  | .ok .next, z => exact z.elim
  | .ok .brk, z => exact z.elim
  | .ok .cont, z => exact z.elim
/-- isinstance(e, c), e the error that a def got -/
theorem call_isH {X : Cx} {a D d : Addr} {ob : Obj} (C : ExcC X.K D) (hp : (a, ob) ∈ X.pn) (hz : Zc (.ref D) (some d) ob) (hf : ∃ vs, ob.data = .fields vs) :
    CallR X (.builtin "isinstance") (fun xs H Q => (∃ fs, H d = some (.xd fs)) ∧ rIsE X.K D a xs H Q) := by
  rintro pins s σ H xs us Q I r ⟨⟨fs, hd⟩, c, cv, b, rfl, hcv, e, q⟩
  cases r with
  | cons rx rr =>
    cases rr with
    | cons rt rr =>
      cases rr
      cases rx
      obtain rfl := hcv _ rt
      obtain ⟨g0, -⟩ := I.pin (a, ob) (List.mem_append_left _ hp)
      obtain ⟨vs, hv⟩ := hf
      obtain ⟨mA, hns, _⟩ := (show ObjOk X.prog X.w H s.heap d (.xd fs) from I.hok d _ hd)
      obtain ⟨od, hod, _⟩ := lookIn_ns hns
      have J : PySem.W.InstAt s.heap a ob D (some od) := by
        obtain ⟨c1, c2, c3, c4⟩ := ob
        obtain ⟨z1, z2⟩ := hz
        dsimp only at z1 z2 hv
        subst z1 z2 hv
        exact ⟨g0, rfl, rfl, hod⟩
      have cl : (PySem.W.clsIn X.K D).isSome = true := by
        obtain ⟨cd, hc, _⟩ := PySem.W.any_some C.hd
        rw [hc]
        rfl
      exact PySem.W.kia_one (PySem.W.kitx_exc cl C.hg C.hk C.hs C.ha C.hn C.ht C.hm) I.kIn J e (fun z => nomatch z) fun tk => ⟨.bl b, H, I.kept (t' := tk) fun _ _ z => z, rfl, q⟩
end Kx.Hot
/-! the text by places -/
namespace K4
open L2 PySem PySem.Spec PyProof.Rows Kx
def top (i : Nat) : Stmt := PySem.Challenge.pw_onewitness_k04_texts_of_machines_counter.main.body.getD i (.Pass ⟨0, 0, 0, 0⟩)
abbrev s_BadMachine_init : Stmt := inClass (top 2) 0
abbrev s_BadRow_init : Stmt := inClass (top 3) 0
abbrev s_BadShowing_init : Stmt := inClass (top 4) 0
abbrev s_BadText_init : Stmt := inClass (top 5) 0
abbrev s_Refused_init : Stmt := inClass (top 6) 0
abbrev s_is_number : Stmt := top 11
abbrev s_is_below : Stmt := top 12
abbrev s_is_sequence : Stmt := top 13
abbrev s_first_not_below : Stmt := top 14
abbrev s_row_of : Stmt := top 15
abbrev s_Counters_init : Stmt := inClass (top 19) 0
abbrev s_Counters_eq : Stmt := inClass (top 19) 1
abbrev s_are_rests : Stmt := top 20
abbrev s_can_show : Stmt := top 21
abbrev s_check_showing : Stmt := top 22
abbrev s_Machine_init : Stmt := inClass (top 24) 0
abbrev s_Machine_eq : Stmt := inClass (top 24) 1
abbrev s_is_table : Stmt := top 25
abbrev s_check_row : Stmt := top 26
abbrev s_number_text : Stmt := top 30
abbrev s_numbers_text : Stmt := top 31
abbrev s_machine_text : Stmt := top 32
abbrev s_counters_text : Stmt := top 33
abbrev s_row_text : Stmt := top 34
abbrev s_showing_text : Stmt := top 35
abbrev s_need_text : Stmt := top 36
abbrev s_read_below : Stmt := top 37
abbrev s_read_line : Stmt := top 38
abbrev s_read_states : Stmt := top 39
abbrev s_read_machine : Stmt := top 40
abbrev s_read_counters : Stmt := top 41
abbrev s_read_row : Stmt := top 42
abbrev s_read_number : Stmt := top 43
abbrev s_read_showing : Stmt := top 44
abbrev s_law_box : Stmt := top 46
abbrev s_law_take : Stmt := top 47
abbrev s_law_pick : Stmt := top 48
abbrev s_law_turned : Stmt := top 49
abbrev s_law_machine : Stmt := top 50
abbrev s_law_reads : Stmt := top 51
abbrev s_law_words : Stmt := top 52
abbrev s_law_lines_right : Stmt := top 53
abbrev s_law_row_right : Stmt := top 54
abbrev s_law_showing_right : Stmt := top 55
abbrev s_law : Stmt := top 56
abbrev FnP (K : PySem.W.Frag) (x : Str) (st : Stmt) (f : Addr) (fd : FuncData) : Prop := FunD K x x (defArgs st) (defBody st) (defScope st) [] [] f fd
/-- the built-in names that the module leaves alone, its numbers -/
structure Mg (mg : Str → Option Value) : Prop where
  z_ValueError : mg "ValueError" = none
  z_abs : mg "abs" = none
  z_bool : mg "bool" = none
  z_divmod : mg "divmod" = none
  z_enumerate : mg "enumerate" = none
  z_int : mg "int" = none
  z_isinstance : mg "isinstance" = none
  z_len : mg "len" = none
  z_list : mg "list" = none
  z_range : mg "range" = none
  z_repr : mg "repr" = none
  z_reversed : mg "reversed" = none
  z_str : mg "str" = none
  z_tuple : mg "tuple" = none
  z_zip : mg "zip" = none
  g_DEEDS_MOST : ∃ t, mg "DEEDS_MOST" = some (.int 4 t)
  g_STATES_MOST : ∃ t, mg "STATES_MOST" = some (.int 8 t)
  g_ROW_MOST : ∃ t, mg "ROW_MOST" = some (.int 400 t)
  g_ROUND_MOST : ∃ t, mg "ROUND_MOST" = some (.int 60 t)
  g_REST_MOST : ∃ t, mg "REST_MOST" = some (.int 6 t)
  g_PIECE : ∃ t, mg "PIECE" = some (.int 600 t)
  g_PIECE_WORTH : ∃ t, mg "PIECE_WORTH" = some (.int (10 ^ 600) t)
theorem pe_constI {X : Cx} {x : Str} {i : Int} {pos : Pos} (h : ∃ t, X.mg x = some (.int i t)) (hg : Gl X x := by rfl) (hd : (x == ("__debug__" : Str)) = false := by decide) : PE X (.Name x pos) (tC (.int i)) := by
  obtain ⟨t, ht⟩ := h
  exact pe_glob hg ht ⟨t, rfl⟩ hd
theorem pe_ty {X : Cx} {x : Str} {n : String} {pos : Pos} (hm : X.mg x = none) (hv : bootBuiltins x = some (.type n)) (hg : Gl X x := by rfl) (hn : x ≠ "__name__" := by decide) (hd : (x == ("__debug__" : Str)) = false := by decide) : PE X (.Name x pos) (tC (.ty n)) :=
  pe_bltn hg hm hv rfl hn hd
theorem bt_int : bootBuiltins "int" = some (.type "int") := by decide +kernel
theorem bt_bool : bootBuiltins "bool" = some (.type "bool") := by decide +kernel
theorem bt_list : bootBuiltins "list" = some (.type "list") := by decide +kernel
theorem bt_tuple : bootBuiltins "tuple" = some (.type "tuple") := by decide +kernel
end K4
/-! t.count(k): a tuple known to have no attributes of its own; tuple(xs) makes such a one. -/
namespace Kx
open L2 PySem PySem.Spec PyProof.Rows
/-- a tuple without attributes -/
def TupD (H : Hp) (a : Addr) (xs : List V) : Prop := ∃ o : Obj, H a = some (.frz o (.tup xs)) ∧ o.dict = none
def SqD (K : PySem.W.Frag) (H : Hp) (a : Addr) (xs : List V) : Prop := SqL K H a xs ∨ TupD H a xs
section
variable {K : PySem.W.Frag} {H H' : Hp} {a : Addr} {xs : List V}
theorem TupD.sqT (h : TupD H a xs) : SqT K H a xs := h.elim fun o h => .inl (.inr ⟨o, h.1⟩)
theorem TupD.same (e : Same H H') (h : TupD H a xs) : TupD H' a xs := h.elim fun o h => ⟨o, e _ _ h.1, h.2⟩
theorem SqD.sq (h : SqD K H a xs) : Sq K H a xs := h.imp id TupD.sqT
theorem SqD.same (e : Same H H') (h : SqD K H a xs) : SqD K H' a xs := h.imp (sqL_same e) (TupD.same e)
end
section
variable {X : Cx}
/-- tuple(xs) -/
theorem call_tupD : CallR X (.type "tuple") (fun xs H Q => ∃ p ys, xs = [.ref p] ∧ SqD X.K H p ys ∧ ∀ q H', Same H H' → TupD H' q ys → Q (.ref q) H') := by
  intro pins st σ H xs us Q I r h
  obtain ⟨p, ys, rfl, h, q⟩ := h
  rcases h with hq | hq
  · obtain ⟨u, rfl, rx⟩ := vals1 r
    obtain rfl : u = .ref p := rx
    obtain ⟨its, rv, pl, fits⟩ := I.list hq
    have len := rv.length
    refine call_tuple_list pl.isList (fun mem kp => ?_) (by simp only [List.size_toArray]; omega)
    have J : Inv X pins σ H { st with heap := mem } := I.kept (t' := st.toks) kp
    have here := Heap.get?_push_size (h := mem) (o := { cls := .type "tuple", data := .seq its.toArray }) rfl
    have J2 : Inv X pins σ (upd H mem.objs.size (.frz { cls := .type "tuple", data := .seq its.toArray } (.tup ys))) { st with heap := mem.push { cls := .type "tuple", data := .seq its.toArray } } :=
      J.laid (t' := st.toks) (fun b o e => Heap.get?_push_of_some _ e) (Nat.le_refl _) ⟨here, fits, its, rv, IsTup.new _ _⟩
    exact ⟨.ref mem.objs.size, _, J2, rfl, q _ _ (same_new (J.hok.fresh (Nat.le_refl _))) ⟨_, upd_same, rfl⟩⟩
  · exact call_tuple_of pins st σ H _ us Q I r ⟨p, ys, rfl, .inr ⟨hq.sqT, q p H (Same.refl H) hq⟩⟩
/-- t.count(k) -/
def tCount (to : TE) (t : TA) : TE := fun σ H Q => to σ H fun x H1 => ∃ (p : Addr) (ns : List Int), x = .ref p ∧ TupD H1 p (ns.map V.int) ∧ t σ H1 fun ks H2 => ∃ k : Int, ks = [.int k] ∧ Same H1 H2 ∧ Q (.int (ns.count k : Nat)) H2
theorem pe_count {o e : Expr} {to : TE} {t : TA} {apos cpos : Pos} (ho : PE X o to) (ha : PA X [e] t)
    (hbase : attributeBase o "count" X.env (eval o X.env) = eval o X.env := by rfl)
    (hfew : ((backTo cpos (starEach [e] X.env)).all (fun x => !x.1) && (backToKw cpos (keywordEach [] X.env)).all (fun x => x.1.isSome) && decide ([e].length + ([] : List Keyword).length + (if ([] : List Keyword).isEmpty then 0 else 1) < 30)) = true := by rfl)
    (hline : (apos.endLine == cpos.line) = true := by exact rfl)
    (hs : starEach [e] X.env = (false, eval e X.env) :: starEach [] X.env := by rfl) (hplain : (backTo cpos (starEach [] X.env)).any (·.1) = false := by rfl) :
    PE X (.Call (.Attribute o "count" apos) [e] [] cpos) (tCount to t) := by
  refine ⟨fun pins st σ H Q I h => ?_⟩
  refine wpAny_Call_method_late hbase hfew hline rfl (thn (ho.run pins st σ H _ I h) fun v s1 ⟨x, H1, I1, r1, p, ns, ex, ⟨o, hp, od⟩, q1⟩ => ?_)
  subst ex
  obtain rfl : v = .ref p := r1
  obtain ⟨at_, _, its, rv, ⟨ot, ot1, ot2, _⟩⟩ := (show ObjOk X.prog X.w H1 s1.heap p (.frz o (.tup (ns.map V.int))) from I1.hok p _ hp)
  rw [at_] at ot1
  cases ot1
  refine ⟨"tuple", "tuple.count", PySem.F.plainAttrs_tuple, PySem.F.slot_tuple_count, PySem.F.type_tuple_count, ⟨o, at_, ot2⟩, fun a ea => ?_, ?_⟩
  · cases ea
    exact ⟨o, at_, od⟩
  have arg := ha.run cpos pins s1 σ H1 _ I1 q1
  rw [hs] at arg ⊢
  have plain : (false || (backTo cpos (starEach [] X.env)).any (·.1)) = false := by rw [hplain] <;> rfl
  refine Calls.callWith_builtin plain (Calls.evalArgs_plain ?_)
  refine thn arg fun us s2 ⟨ks, H2, I2, r2, k, ek, sm, q2⟩ => ?_
  subst ek
  obtain ⟨u, rfl, ru⟩ := r2.one
  obtain ⟨tk, rfl⟩ := ru
  obtain ⟨o2, hp2, od2⟩ := TupD.same sm (show TupD H1 p (ns.map V.int) from ⟨o, hp, od⟩)
  obtain ⟨at2, _, its2, rv2, ⟨ot2', ot3, ot4, n2, ot5⟩⟩ := (show ObjOk X.prog X.w H2 s2.heap p (.frz o2 (.tup (ns.map V.int))) from I2.hok p _ hp2)
  rw [at2] at ot3
  cases ot3
  obtain ⟨cls, dct, data, slo⟩ := o2
  simp only at ot4 ot5
  subst ot4 ot5
  have hi := ints_of_vals rv2
  refine call_meets PySem.F.slot_tuple_count ⟨_, at2, rfl⟩ PySem.F.entry_tuple_count (PySem.F.args_tuple_count_2 _ _)
    (SeqAt.tuple_countAt p its2.toArray n2 dct slo (.int k tk) (eqk k)) ⟨at2, fun y hy => (eqk_gives hi y (by simpa using hy)).at _ _, ?_⟩
  have ec : its2.toArray.toList.countP (eqk k) = ns.count k := eqk_count hi
  refine ⟨.int (ns.count k : Nat), H2, I2.tok _, ⟨s2.toks, ?_⟩, q2⟩
  rw [ec]
end
end Kx
/-! a tuple, that is not empty, times 0, 1, more -/
namespace Kx
open L2 PySem PySem.Spec PyProof.Rows
theorem times_one (t : Addr) (its : Array Value) (n : Nat) (dct : Option Addr) (slo : Array (Option Value)) (tk : Tok) :
    Meets (Builtin.«tuple.__mul__» ⟨[.ref t, .int 1 tk], []⟩) (fun _ R s => s.heap.get? t = some { cls := .type "tuple", dict := dct, data := .seq its n, slots := slo } ∧ R (.ok (.ret (.ref t))) s) :=
  .of_wp fun prog wo A R s h => by
    obtain ⟨mem, g, d, k, os⟩ := s
    obtain ⟨here, h⟩ := h
    have idx := AutoSeq1.idx_int
    have yes : (its.isEmpty || (1 : Int) == 1) = true := by rw [Bool.or_eq_true]; exact .inr rfl
    wp_walk using wpAny_loadPart' here
    repeat (first
      | (refine wpAny_ite_false (by decide) ?_; wp_walk using wpAny_loadPart' here)
      | (refine wpAny_ite_true (decide_eq_true yes) ?_; wp_walk using wpAny_loadPart' here))
    exact ⟨_, rfl, h⟩
theorem times_nought (t : Addr) (its : Array Value) (n : Nat) (dct : Option Addr) (slo : Array (Option Value)) (tk : Tok) (some_ : its.isEmpty = false) :
    Meets (Builtin.«tuple.__mul__» ⟨[.ref t, .int 0 tk], []⟩) (fun _ R s => s.heap.get? t = some { cls := .type "tuple", dict := dct, data := .seq its n, slots := slo } ∧ R (.ok (.ret (.ref s.heap.objs.size))) { s with heap := s.heap.push { cls := .type "tuple", data := .seq #[] } }) :=
  .of_wp fun prog wo A R s h => by
    obtain ⟨mem, g, d, k, os⟩ := s
    obtain ⟨here, h⟩ := h
    have idx := AutoSeq1.idx_int
    have no : (its.isEmpty || (0 : Int) == 1) = false := by rw [some_]; rfl
    have yes : (decide ((0 : Int) ≤ 0) || its.isEmpty) = true := rfl
    wp_walk using wpAny_loadPart' here
    repeat (first
      | (refine wpAny_ite_false (by decide) ?_; wp_walk using wpAny_loadPart' here)
      | (refine wpAny_ite_false (decide_eq_false (by rw [no]; exact Bool.false_ne_true)) ?_; wp_walk using wpAny_loadPart' here)
      | (refine wpAny_ite_true (decide_eq_true yes) ?_; wp_walk using wpAny_loadPart' here))
    exact ⟨_, rfl, h⟩
/-- t * k, t not empty -/
def rTimes (K : PySem.W.Frag) : R2 := fun x y H Q => ∃ (t : Addr) (k : Nat) (xs : List V), x = .ref t ∧ y = .int (k : Int) ∧ SqT K H t xs ∧ xs ≠ [] ∧ k ≤ 1000 ∧ xs.length ≤ 1000 ∧
  ∀ p H', Same H H' → SqT K H' p (List.replicate k xs).flatten → Q (.ref p) H'
theorem op_times {X : Cx} : OpR X (binaryOp .Mult) (rTimes X.K) := by
  intro pins st σ H x y v u Q I rx ry h
  obtain ⟨t, k, xs, rfl, rfl, hT, ne, hk, hz, q⟩ := h
  match k with
  | k + 2 =>
    refine op_repT pins st σ H _ _ v u Q I rx ry ⟨t, _, xs, rfl, rfl, hT, ne, by omega, by omega, hz, fun p hp => ?_⟩
    exact q p _ (same_new hp) (SqT.of upd_same)
  | 1 =>
    cases rx
    obtain ⟨tk, rfl⟩ := ry
    obtain ⟨its, r, ⟨⟨cls, dct, data, slo⟩, ho, hc, n, hd⟩, hs⟩ := I.tuple hT
    simp only at hc hd
    subst hc hd
    refine wpAny_binaryOp_repeat_ref (T := "tuple") (U := "int") (by decide) ⟨_, ho, rfl⟩ (fun s' => typeIs_int s' 1 tk) noFill_tuple_mul F.fills_int_mul F.slot_int_rmul repeat_tuple F.slot_int_index.lookup
      (call_meets F.slot_int_rmul (typeIs_int st 1 tk) F.entry_int_rmul (F.args_int_rmul_2 _ _) (int_rmul_tuple 1 tk t its.toArray n dct slo)
        ⟨ho, rfl, ⟨_, ho, rfl⟩, call_meets F.slot_tuple_mul ⟨_, ho, rfl⟩ F.entry_tuple_mul (F.args_tuple_mul_2 _ _) (times_one t its.toArray n dct slo tk) ⟨ho, ?_⟩⟩)
    have e : (List.replicate 1 xs).flatten = xs := by simp
    rw [e] at q
    exact ⟨.ref t, H, I, rfl, q t H (Same.refl H) hT⟩
  | 0 =>
    cases rx
    obtain ⟨tk, rfl⟩ := ry
    obtain ⟨its, r, ⟨⟨cls, dct, data, slo⟩, ho, hc, n, hd⟩, hs⟩ := I.tuple hT
    simp only at hc hd
    subst hc hd
    have full : its.toArray.isEmpty = false := by
      cases its with
      | nil =>
        cases r
        exact absurd rfl ne
      | cons a b => rfl
    refine wpAny_binaryOp_repeat_ref (T := "tuple") (U := "int") (by decide) ⟨_, ho, rfl⟩ (fun s' => typeIs_int s' 0 tk) noFill_tuple_mul F.fills_int_mul F.slot_int_rmul repeat_tuple F.slot_int_index.lookup
      (call_meets F.slot_int_rmul (typeIs_int st 0 tk) F.entry_int_rmul (F.args_int_rmul_2 _ _) (int_rmul_tuple 0 tk t its.toArray n dct slo)
        ⟨ho, rfl, ⟨_, ho, rfl⟩, call_meets F.slot_tuple_mul ⟨_, ho, rfl⟩ F.entry_tuple_mul (F.args_tuple_mul_2 _ _) (times_nought t its.toArray n dct slo tk full) ⟨ho, ?_⟩⟩)
    refine ⟨.ref st.heap.objs.size, _, I.laid (t' := st.toks) (o := .tup []) (fun b ob q => Heap.get?_push_of_some _ q) (Nat.le_refl _) ?_, rfl, q _ _ (same_new (I.hok.fresh (Nat.le_refl _))) (SqT.of upd_same)⟩
    exact ⟨Nat.zero_le _, _, .nil, IsTup.new _ _⟩
end Kx
/-! an own ==, and the != that comes of it: both answers. -/
namespace Kx
open L2 PySem PySem.Spec PyProof.Rows
/-- x == y (x != y), x an instance of the class at C, y another one or a tuple: what its own == promises, by k the answer -/
def rOwnAsk (K : PySem.W.Frag) (C : Addr) (sp : Sp) (E : XK) (neg : Bool) : R2 := fun x y H Q => ∃ (a b dx : Addr) (fs : List (Str × V)), x = .ref a ∧ y = .ref b ∧ H a = some (.ins C dx fs) ∧
  ((∃ (dy : Addr) (gs : List (Str × V)), H b = some (.ins C dy gs)) ∨ (neg = false ∧ (∃ ys, SqT K H b ys) ∧ PySem.W.notFirst K C (.type "tuple") = true)) ∧
  sp [x, y] H (fun v H' => ∃ k, v = .bl k ∧ Q (.bl (neg != k)) H') E
/-- what ==, != ask of the class at C, whose own == is at f -/
structure EqC (K : PySem.W.Frag) (C f : Addr) : Prop where
  eq : PySem.W.findIn K (.ref C) "__eq__" = some (some (.ref f))
  isFn : PySem.W.isFn K (.ref f) = true
  ne : ∃ (nm q : Str) (N : Addr) (bs : List Value) (hdct : Bool) (sn : List Str) (sub : List Value) (ab : Bool) (col : Option Bool) (dd : Option Addr) (k0 k1 k2 k3 k5 : Option Value) (newId : String) (oN oF : Obj) (es : Array DictEntry) (ep : Nat),
    K.lookup C = some (excClassObj nm q C N bs [.type "object"] hdct sn sub ab col dd k0 k1 k2 k3 k5 newId) ∧ K.lookup N = some oN ∧ oN.data = .dict es ep ∧ StrKeys es ∧ nsFind es "__eq__" = some (.ref f) ∧ nsFind es "__ne__" = none ∧ K.lookup f = some oF ∧ oF.cls = .type "function"
section
variable {X : Cx} {CX : CXT} {C f : Addr} {fd : FuncData} {ps : List Str} {n : Nat} {sp : Sp} {E : XK}
theorem own_eq (F : FnOk X.prog X.w X.K X.mg X.base CX n f fd ps sp) (T : EqC X.K C f) (hb : Binds X.K fd ps []) (hr : Room n X.A) (hx : Passes CX X E) : OpR X (compareOp .Eq) (rOwnAsk X.K C sp E false) := by
  intro pins st σ H x y v u Q I rx ry h
  obtain ⟨a, b, dx, fs, rfl, rfl, ha, hy, q⟩ := h
  obtain rfl : v = .ref a := rx
  obtain rfl : u = .ref b := ry
  obtain ⟨m1, J, _⟩ := ins_get I.hok ha
  obtain ⟨od, J, _⟩ := J.look
  obtain ⟨m, hF⟩ := I.fr
  have go : wpAny (model X.prog X.w) X.A (call (.ref f) [.ref a, .ref b]) (PySem.W.CmpBack (EP X pins σ Q)) X.xe st := by
    have hl := F.len _ _ _ _ q
    have both : Vals [V.ref a, V.ref b] [.ref a, .ref b] := .cons rfl (.cons rfl .nil)
    refine wpAny_call (codeAny_mono (F.run X.A X.stack st H ⟨[.ref a, .ref b], []⟩ [.ref a, .ref b] [.ref a, .ref b] _ E hr I.env0 (by
      have := hb st [.ref a, .ref b] I.kIn (by simpa using hl)
      simpa using this) both q) fun r s' z => ?_)
    match r, z with
    | .error e, z => exact hx pins σ H st e s' I z
    | .ok (.ret w), z =>
      obtain ⟨z', H', I', rz, k, ez, qz⟩ := I.after z
      subst ez
      cases rz
      refine (show EP X pins σ Q (.bool k) s' from ⟨.bl k, H', I', rfl, ?_⟩)
      have e : (false != k) = k := by cases k <;> rfl
      rw [e] at qz
      exact qz
    | .ok .next, z => exact z.elim
    | .ok .brk, z => exact z.elim
    | .ok .cont, z => exact z.elim
  show wpAny (model X.prog X.w) X.A (richCompare .Eq (.ref a) (.ref b)) (EP X pins σ Q) X.xe st
  rcases hy with ⟨dy, gs, hb'⟩ | ⟨_, ⟨ys, hT⟩, nf⟩
  · obtain ⟨m2, J2, _⟩ := ins_get I.hok hb'
    obtain ⟨od2, J2, _⟩ := J2.look
    exact PySem.W.cmp_K (op := .Eq) (tb := .ref C) hr.units0 hF I.ok.mod.kin J J2.type (by simp [PySem.W.notFirst]) T.eq T.isFn go
  · obtain ⟨its, _, ⟨o, ho, hc, _⟩, _⟩ := I.tuple hT
    exact PySem.W.cmp_K (op := .Eq) (tb := .type "tuple") hr.units0 hF I.ok.mod.kin J (fun A' Q' E' s' kp q' => wpAny_typeOf_ref (kp _ _ ho) (by rw [hc]; exact q')) nf T.eq T.isFn go
theorem own_ne (F : FnOk X.prog X.w X.K X.mg X.base CX n f fd ps sp) (T : EqC X.K C f) (hb : Binds X.K fd ps []) (hr : Room (n + 1) X.A) (hx : Passes CX X E) : OpR X (compareOp .NotEq) (rOwnAsk X.K C sp E true) := by
  intro pins st σ H x y v u Q I rx ry h
  obtain ⟨a, b, dx, fs, rfl, rfl, ha, hy, q⟩ := h
  obtain rfl : v = .ref a := rx
  obtain rfl : u = .ref b := ry
  obtain ⟨dy, gs, hb'⟩ : ∃ (dy : Addr) (gs : List (Str × V)), H b = some (.ins C dy gs) := hy.elim id fun z => nomatch z.1
  obtain ⟨m1, J, _⟩ := ins_get I.hok ha
  obtain ⟨m2, J2, _⟩ := ins_get I.hok hb'
  obtain ⟨od, J, _⟩ := J.look
  obtain ⟨od2, J2, _⟩ := J2.look
  obtain ⟨nm, qn, N, bs, hdct, sn, sub, ab, col, dd, k0, k1, k2, k3, k5, newId, oN, oF, es, ep, hC, hN, dN, sk, e1, e2, hF, cF⟩ := T.ne
  have O : st.heap.OwnEqNoNe a C f "object" [.type "object"] := ⟨_, oF, nm, qn, N, bs, hdct, sn, sub, ab, col, dd, k0, k1, k2, k3, k5, newId, fun y => nsFind es y, _, J.at_, J.cls, I.kIn _ _ hC, ⟨oN, es, ep, I.kIn _ _ hN, dN, sk, fun _ => rfl⟩, e1, I.kIn _ _ hF, cF, PySem.F.cmp_object.mro, PySem.F.cmp_object.eq.lookup, e2⟩
  obtain ⟨hp, g, d, t, os⟩ := st
  refine compareOp_ne_ownEq PySem.F.cmp_object O J2.at_ J2.cls (by have := hr.un; omega) ?_
  have hl := F.len _ _ _ _ q
  have both : Vals [V.ref a, V.ref b] [.ref a, .ref b] := .cons rfl (.cons rfl .nil)
  refine wpAny_call (codeAny_mono (F.run X.A.in1 X.stack _ H ⟨[.ref a, .ref b], []⟩ [.ref a, .ref b] [.ref a, .ref b] _ E hr.in1 I.env0.in1 (by
    have := hb ⟨hp, g, d, t, os⟩ [.ref a, .ref b] I.kIn (by simpa using hl)
    simpa using this) both q) fun r s' z => ?_)
  match r, z with
  | .error e, z => exact hx pins σ H _ e s' I z
  | .ok (.ret w), z =>
    obtain ⟨z', H', I', rz, k, ez, qz⟩ := I.after z
    subst ez
    cases rz
    refine ⟨k, rfl, .bl (!k), H', I', rfl, ?_⟩
    have e : (true != k) = !k := by cases k <;> rfl
    rw [e] at qz
    exact qz
  | .ok .next, z => exact z.elim
  | .ok .brk, z => exact z.elim
  | .ok .cont, z => exact z.elim
end
end Kx
/-! tuples of whole numbers, and tuples of such: as data, ==, != -/
namespace Kx
open L2 PySem PySem.Spec PyProof.Rows
abbrev dNums (ns : List Int) : PyData := .tuple (ns.map PyData.int)
abbrev dRows (rs : List (List Int)) : PyData := .tuple (rs.map dNums)
theorem dpAll_nums {K : PySem.W.Frag} {H : Hp} : ∀ (ns : List Int), DpAll K H (ns.map V.int) (ns.map PyData.int)
  | [] => .nil
  | n :: ns => .cons (.int n) (dpAll_nums ns)
theorem dp_nums {K : PySem.W.Frag} {H : Hp} {a : Addr} {ns : List Int} (h : SqT K H a (ns.map V.int)) : Dp K H (.ref a) (dNums ns) := .tup h (dpAll_nums ns)
theorem lay_nums : ∀ (ns : List Int), PyData.canLayAll0 (ns.map PyData.int) = true
  | [] => by simp only [List.map_nil, PyData.canLayAll0]
  | n :: ns => by simp only [List.map_cons, PyData.canLayAll0, PyData.canLay0, lay_nums ns, Bool.and_self]
theorem deep_nums : ∀ (ns : List Int), PyData.depthAll (ns.map PyData.int) = 0
  | [] => by simp only [List.map_nil, PyData.depthAll]
  | n :: ns => by simp only [List.map_cons, PyData.depthAll, PyData.depth, deep_nums ns, Nat.max_self]
theorem shaped_nums (ns : List Int) : SeqAt.shaped (dNums ns) = true := by
  unfold SeqAt.shaped
  simp only [PyData.canLay0, PyData.depth, lay_nums, deep_nums]
  decide
theorem eqv_nums : ∀ (xs ys : List Int), PyData.eqvAll (xs.map PyData.int) (ys.map PyData.int) = decide (xs = ys)
  | [], ys => by cases ys <;> simp [PyData.eqvAll]
  | n :: ns, [] => by simp [PyData.eqvAll]
  | x :: xs, y :: ys => by
    simp only [List.map_cons, PyData.eqvAll, PyData.eqv, eqv_nums xs ys]
    rw [Bool.eq_iff_iff]
    simp
theorem lay_rows : ∀ (rs : List (List Int)), PyData.canLayAll0 (rs.map dNums) = true
  | [] => by simp only [List.map_nil, PyData.canLayAll0]
  | n :: ns => by simp only [List.map_cons, PyData.canLayAll0, PyData.canLay0, lay_nums, lay_rows ns, Bool.and_self]
theorem deep_rows : ∀ (rs : List (List Int)), PyData.depthAll (rs.map dNums) ≤ 1
  | [] => by simp only [List.map_nil, PyData.depthAll]; decide
  | n :: ns => by
    have := deep_rows ns
    simp only [List.map_cons, PyData.depthAll, PyData.depth, deep_nums]
    omega
theorem shaped_rows (rs : List (List Int)) : SeqAt.shaped (dRows rs) = true := by
  unfold SeqAt.shaped
  have := deep_rows rs
  simp only [PyData.canLay0, PyData.depth, lay_rows, Bool.true_and]
  exact decide_eq_true (show _ ≤ 64 by omega)
theorem eqv_rows : ∀ (xs ys : List (List Int)), PyData.eqvAll (xs.map dNums) (ys.map dNums) = decide (xs = ys)
  | [], ys => by cases ys <;> simp [PyData.eqvAll]
  | n :: ns, [] => by simp [PyData.eqvAll]
  | x :: xs, y :: ys => by
    simp only [List.map_cons, PyData.eqvAll, PyData.eqv, eqv_nums x y, eqv_rows xs ys]
    rw [Bool.eq_iff_iff]
    simp
/-- t == u, t != u: tuples of whole numbers -/
def rNumsEq (K : PySem.W.Frag) (neg : Bool) : R2 := fun x y H Q => ∃ (a b : Addr) (xs ys : List Int), x = .ref a ∧ y = .ref b ∧ SqT K H a (xs.map V.int) ∧ SqT K H b (ys.map V.int) ∧ Q (.bl (neg != decide (xs = ys))) H
theorem op_eqNums {X : Cx} (hu : X.A.units + 64 < cLine) : OpR X (compareOp .Eq) (rNumsEq X.K false) := by
  intro pins st σ H x y v u Q I rx ry h
  obtain ⟨a, b, xs, ys, rfl, rfl, h1, h2, q⟩ := h
  refine op_eqD hu pins st σ H _ _ v u Q I rx ry ⟨_, _, dp_nums h1, dp_nums h2, shaped_nums xs, shaped_nums ys, ?_⟩
  simp only [PyData.eqv, eqv_nums]
  rwa [Bool.false_bne] at q
theorem op_neNums {X : Cx} (hu : X.A.units + 64 < cLine) : OpR X (compareOp .NotEq) (rNumsEq X.K true) := by
  intro pins st σ H x y v u Q I rx ry h
  obtain ⟨a, b, xs, ys, rfl, rfl, h1, h2, q⟩ := h
  refine op_neD hu pins st σ H _ _ v u Q I rx ry ⟨_, _, dp_nums h1, dp_nums h2, shaped_nums xs, shaped_nums ys, ?_⟩
  simp only [PyData.eqv, eqv_nums]
  rwa [Bool.true_bne] at q
end Kx
/-! numbers, sequences, rows -/
namespace K4
open PySem PySem.Spec PyProof.Rows L2 Kx
def isNum : V → Bool
  | .int i => decide (0 ≤ i)
  | _ => false
def isBel (l : Int) : V → Bool
  | .int i => decide (0 ≤ i) && decide (i < l)
  | _ => false
/-- what a value of known kind is as a sequence: its items, none where it is none -/
inductive Long (K : PySem.W.Frag) (H : Hp) : V → Option (List V) → Prop
  | seq {a : Addr} {xs : List V} (h : Sq K H a xs) : Long K H (.ref a) (some xs)
  | non : Long K H .non none
  | bl (b : Bool) : Long K H (.bl b) none
  | int (i : Int) : Long K H (.int i) none
  | str (x : Str) : Long K H (.str x) none
def inLen (l m : Int) : Option (List V) → Bool
  | some xs => decide (l ≤ (xs.length : Int)) && decide ((xs.length : Int) ≤ m)
  | none => false
theorem Long.same {K : PySem.W.Frag} {H H' : Hp} {v : V} {o : Option (List V)} (e : Same H H') (h : Long K H v o) : Long K H' v o := by
  cases h with
  | seq q => exact .seq (q.same e)
  | non => exact .non
  | bl b => exact .bl b
  | int i => exact .int i
  | str x => exact .str x
theorem Kn.long {K : PySem.W.Frag} {H : Hp} {v : V} (h : Kn K H v) : ∃ o, Long K H v o := by
  cases h with
  | seq q => exact ⟨_, .seq q⟩
  | non => exact ⟨_, .non⟩
  | bl b => exact ⟨_, .bl b⟩
  | int i => exact ⟨_, .int i⟩
  | str x => exact ⟨_, .str x⟩
theorem Long.kn {K : PySem.W.Frag} {H : Hp} {v : V} {o : Option (List V)} (h : Long K H v o) : Kn K H v := by
  cases h with
  | seq q => exact .seq q
  | non => exact .non
  | bl b => exact .bl b
  | int i => exact .int i
  | str x => exact .str x
/-- the first item that is not below l -/
def fnb (l : Int) : List V → Option Nat
  | [] => none
  | x :: xs => if isBel l x = true then (fnb l xs).map (· + 1) else some 0
def optV : Option Nat → V
  | some n => .int n
  | none => .non
/-- none: a row of deeds below n; else where it is wrong -/
def rowAt (n : Int) : Option (List V) → Option Int
  | some xs => if xs.length ≤ 400 then (fnb n xs).map (fun (i : Nat) => (i : Int)) else some (-1)
  | none => some (-1)
/-- every item is of a known kind, where the sequence is no longer than m -/
def Kns (K : PySem.W.Frag) (H : Hp) (o : Option (List V)) (m : Nat) : Prop := ∀ xs, o = some xs → xs.length ≤ m → ∀ x ∈ xs, Kn K H x
theorem Kns.same {K : PySem.W.Frag} {H H' : Hp} {o : Option (List V)} {m : Nat} (e : Same H H') (h : Kns K H o m) : Kns K H' o m := fun xs q l x hx => (h xs q l x hx).same e
/-- an error C of the one field f is raised -/
def Thrown (E : XK) (H : Hp) (C : Addr) (f : Str) (v : V) : Prop := ∀ d H', Same H H' → H' d = some (.xd [(f, v)]) → E (.ref C) (some d) H'
theorem Thrown.same {E : XK} {H H' : Hp} {C : Addr} {f : Str} {v : V} (e : Same H H') (h : Thrown E H C f v) : Thrown E H' C f v := fun d H2 e2 q => h d H2 (e.trans e2) q
theorem Thrown.at_ {E : XK} {H : Hp} {C : Addr} {f : Str} {v : V} (h : Thrown E H C f v) : ∀ d, H d = none → E (.ref C) (some d) (upd H d (.xd [(f, v)])) := fun d q => h d _ (same_new q) upd_same
theorem fnb_none {l : Int} : ∀ {xs : List V}, fnb l xs = none ↔ ∀ x ∈ xs, isBel l x = true
  | [] => by simp [fnb]
  | x :: xs => by
    unfold fnb
    by_cases h : isBel l x = true
    · rw [if_pos h, Option.map_eq_none_iff, fnb_none]
      exact ⟨fun q y hy => (List.mem_cons.mp hy).elim (fun e => e ▸ h) (q y), fun q y hy => q y (List.mem_cons_of_mem _ hy)⟩
    · rw [if_neg h]
      exact ⟨fun q => (nomatch q), fun q => absurd (q x (List.mem_cons_self ..)) h⟩
theorem fnb_some {l : Int} : ∀ {xs : List V} {i : Nat}, (∀ j x, j < i → xs[j]? = some x → isBel l x = true) → (∃ x, xs[i]? = some x ∧ isBel l x = false) → fnb l xs = some i
  | [], i, _, h => by obtain ⟨x, h, _⟩ := h; simp at h
  | x :: xs, 0, _, h => by
    obtain ⟨y, h1, h2⟩ := h
    have e : x = y := by simpa using h1
    unfold fnb
    rw [e, if_neg (by rw [h2]; exact Bool.false_ne_true)]
  | x :: xs, i + 1, hl, h => by
    unfold fnb
    rw [if_pos (hl 0 x (Nat.succ_pos i) rfl), fnb_some (i := i) (fun j y hj hy => hl (j + 1) y (Nat.succ_lt_succ hj) (by simpa using hy)) (by simpa using h)]
    rfl
/-- the errors' classes -/
structure Ad where
  cM : Addr
  cR : Addr
  cS : Addr
  cT : Addr
  cF : Addr
/-- what the module holds of its errors -/
structure Er (P : Program) (w : World) (K : PySem.W.Frag) (mg : Str → Option Value) (base : Heap) (a : Ad) : Prop where
  BadMachine : ErrN P w K mg base 1 "BadMachine" "at" a.cM
  BadRow : ErrN P w K mg base 1 "BadRow" "at" a.cR
  BadShowing : ErrN P w K mg base 1 "BadShowing" "at" a.cS
  BadText : ErrN P w K mg base 1 "BadText" "at" a.cT
  Refused : ErrN P w K mg base 1 "Refused" "at" a.cF
def spNumber (K : PySem.W.Frag) : Sp := fun vs H Q _ => ∃ v, vs = [v] ∧ Kn K H v ∧ Q (.bl (isNum v)) H
def spBelow (K : PySem.W.Frag) : Sp := fun vs H Q _ => ∃ v l, vs = [v, .int l] ∧ Kn K H v ∧ Q (.bl (isBel l v)) H
def spSeq (K : PySem.W.Frag) : Sp := fun vs H Q _ => ∃ v l m o, vs = [v, .int l, .int m] ∧ Long K H v o ∧ ∀ H', Same H H' → Q (.bl (inLen l m o)) H'
def spFnb (K : PySem.W.Frag) : Sp := fun vs H Q _ => ∃ a xs l, vs = [.ref a, .int l] ∧ Sq K H a xs ∧ (∀ x ∈ xs, Kn K H x) ∧ ∀ H', Same H H' → Q (optV (fnb l xs)) H'
def spRowOf (K : PySem.W.Frag) (a : Ad) : Sp := fun vs H Q E => ∃ v o n, vs = [v, .int n] ∧ Long K H v o ∧ Kns K H o 400 ∧ (∀ i, rowAt n o = some i → Thrown E H a.cR "at" (.int i)) ∧
  (rowAt n o = none → ∃ b xs, v = .ref b ∧ o = some xs ∧ SqD K H b xs ∧ ∀ p H', Same H H' → TupD H' p xs → Q (.ref p) H')
/-- the type's name of such a value, where it is no int -/
theorem kn_ty {K : PySem.W.Frag} {H : Hp} {v : V} (h : Kn K H v) : (∃ i, v = .int i) ∨ ∃ n : String, TyX K H v (.type n) ∧ (n = "NoneType" ∨ n = "bool" ∨ n = "str" ∨ n = "list" ∨ n = "tuple") ∧ isNum v = false ∧ ∀ l, isBel l v = false := by
  cases h with
  | int i => exact .inl ⟨i, rfl⟩
  | non => exact .inr ⟨_, .base .non, by simp, rfl, fun _ => rfl⟩
  | bl b => exact .inr ⟨_, .base (.bl b), by simp, rfl, fun _ => rfl⟩
  | str x => exact .inr ⟨_, .base (.str x), by simp, rfl, fun _ => rfl⟩
  | seq q =>
    rcases q with q | q
    · exact .inr ⟨_, tyx_list q, by simp, rfl, fun _ => rfl⟩
    · exact .inr ⟨_, tyx_tuple q, by simp, rfl, fun _ => rfl⟩
theorem kit_int {K : PySem.W.Frag} {n : String} (h : n = "NoneType" ∨ n = "bool" ∨ n = "str" ∨ n = "list" ∨ n = "tuple") : ∃ b, PySem.W.kitOne K (.type n) (.type "int") = some b ∧ (b = true → PySem.W.kitOne K (.type n) (.type "bool") = some true) := by
  rcases h with rfl | rfl | rfl | rfl | rfl
  · exact ⟨false, kit_ty (by decide +kernel), fun z => nomatch z⟩
  · exact ⟨true, kit_ty (by decide +kernel), fun _ => kit_ty (by decide +kernel)⟩
  · exact ⟨false, kit_ty (by decide +kernel), fun z => nomatch z⟩
  · exact ⟨false, kit_ty (by decide +kernel), fun z => nomatch z⟩
  · exact ⟨false, kit_ty (by decide +kernel), fun z => nomatch z⟩
section
variable {P : Program} {w : World} {K : PySem.W.Frag} {mg : Str → Option Value} {base : Heap} {f : Addr} {fd : FuncData} {a : Ad}
theorem scis_number : FnScope ["value"] ["value"] (defScope s_is_number) := ⟨rfl, rfl, rfl, by decide +kernel, rfl, by decide +kernel, by decide +kernel⟩
theorem ok_is_number (F : FnP K "is_number" s_is_number f fd) (T : Mg mg) : FnOk P w K mg base CX0 1 f fd ["value"] (spNumber K) := by
  refine F.ok scis_number (fun vs H Q E h => ?_) (fun cdv A outer s H vs Q E hr h => ?_)
  · obtain ⟨v, rfl, _⟩ := h
    rfl
  · obtain ⟨v, rfl, hv, k⟩ := h
    refine ⟨_, PSs.nox (pss_one (ps_ret (pe_and (pe_callB call_isi (by rfl) T.z_isinstance (by decide +kernel) (pa_cons (pv 0) (pa_cons (pe_ty T.z_int bt_int) pa_nil))) (pe_and (pe_not (pe_callB call_isi (by rfl) T.z_isinstance (by decide +kernel) (pa_cons (pv 0) (pa_cons (pe_ty T.z_bool bt_bool) pa_nil)))) (pe_one (pe_cmpR op_ge (pv 0) pe_int (nomark _))))))), ?_⟩
    rcases kn_ty hv with ⟨i, rfl⟩ | ⟨n, ht, hn, e, _⟩
    · refine ⟨_, rfl, _, .ty "int", _, _, true, rfl, .ty _, .base (.int i), kit_ty (by decide +kernel), true, rfl, iteT ?_⟩
      refine ⟨_, rfl, _, .ty "bool", _, _, false, rfl, .ty _, .base (.int i), kit_ty (by decide +kernel), false, rfl, true, rfl, iteT ⟨_, rfl, _, _, rfl, rfl, ?_⟩⟩
      exact k
    · obtain ⟨b, hb, hb2⟩ := kit_int (K := K) hn
      rw [e] at k
      refine ⟨_, rfl, _, .ty "int", _, _, b, rfl, .ty _, ht, hb, b, rfl, ?_⟩
      cases b with
      | false => exact iteF k
      | true => exact iteT ⟨_, rfl, _, .ty "bool", _, _, true, rfl, .ty _, ht, hb2 rfl, true, rfl, false, rfl, iteF k⟩
theorem sc_is_below : FnScope ["value", "limit"] ["value", "limit"] (defScope s_is_below) := ⟨rfl, rfl, rfl, by decide +kernel, rfl, by decide +kernel, by decide +kernel⟩
theorem ok_is_below (F : FnP K "is_below" s_is_below f fd) (T : Mg mg) (c_is_number : Cal P w K mg base CX0 1 "is_number" ["value"] (spNumber K)) : FnOk P w K mg base CX0 2 f fd ["value", "limit"] (spBelow K) := by
  refine F.ok sc_is_below (fun vs H Q E h => ?_) (fun cdv A outer s H vs Q E hr h => ?_)
  · obtain ⟨v, l, rfl, _⟩ := h
    rfl
  · obtain ⟨v, l, rfl, hv, k⟩ := h
    refine ⟨_, PSs.nox (pss_one (ps_ret (pe_and (pe_callC c_is_number hr pass0 (pa_cons (pv 0) pa_nil)) (pe_one (pe_cmpR op_lt (pv 0) (pv 1) (nomark _)))))), ?_⟩
    refine ⟨_, rfl, v, rfl, hv, isNum v, rfl, ?_⟩
    cases e : isNum v with
    | false =>
      refine iteF ?_
      have e2 : isBel l v = false := by
        cases v <;> first | rfl | (have e' : decide _ = false := e; show (decide _ && decide _) = false; rw [e']; rfl)
      rw [e2] at k
      exact k
    | true =>
      refine iteT ?_
      obtain ⟨i, rfl⟩ : ∃ i, v = .int i := by
        cases v with
        | int i => exact ⟨i, rfl⟩
        | _ => cases e
      refine ⟨_, rfl, _, rfl, _, _, rfl, rfl, ?_⟩
      have e2 : isBel l (.int i) = decide (i < l) := by
        show (decide _ && decide _) = _
        rw [show decide (0 ≤ i) = true from e]
        rfl
      rw [e2] at k
      exact k
theorem sc_is_sequence : FnScope ["value", "least", "most"] ["value", "least", "most"] (defScope s_is_sequence) := ⟨rfl, rfl, rfl, by decide +kernel, rfl, by decide +kernel, by decide +kernel⟩
theorem kit_seq {K : PySem.W.Frag} {n : String} {b : Bool} (h1 : n = "list" ∨ n = "tuple" → b = true) (h2 : n = "NoneType" ∨ n = "bool" ∨ n = "str" ∨ n = "int" → b = false) (hn : (n = "list" ∨ n = "tuple") ∨ n = "NoneType" ∨ n = "bool" ∨ n = "str" ∨ n = "int") :
    PySem.W.kitAny K (.type n) [.type "list", .type "tuple"] = some b := by
  rcases hn with hn | hn
  · obtain rfl := h1 hn
    rcases hn with rfl | rfl
    · exact kitAny_cons (b := true) (kit_ty (by decide +kernel)) (fun z => nomatch z) (fun _ => rfl)
    · exact kitAny_cons (b := false) (kit_ty (by decide +kernel)) (fun _ => kitAny_cons (b := true) (kit_ty (by decide +kernel)) (fun z => nomatch z) (fun _ => rfl)) (fun z => nomatch z)
  · obtain rfl := h2 hn
    rcases hn with rfl | rfl | rfl | rfl
    · exact kitAny_cons (b := false) (kit_ty (by decide +kernel)) (fun _ => kitAny_cons (b := false) (kit_ty (by decide +kernel)) (fun _ => kitAny_nil) (fun z => nomatch z)) (fun z => nomatch z)
    · exact kitAny_cons (b := false) (kit_ty (by decide +kernel)) (fun _ => kitAny_cons (b := false) (kit_ty (by decide +kernel)) (fun _ => kitAny_nil) (fun z => nomatch z)) (fun z => nomatch z)
    · exact kitAny_cons (b := false) (kit_ty (by decide +kernel)) (fun _ => kitAny_cons (b := false) (kit_ty (by decide +kernel)) (fun _ => kitAny_nil) (fun z => nomatch z)) (fun z => nomatch z)
    · exact kitAny_cons (b := false) (kit_ty (by decide +kernel)) (fun _ => kitAny_cons (b := false) (kit_ty (by decide +kernel)) (fun _ => kitAny_nil) (fun z => nomatch z)) (fun z => nomatch z)
theorem long_ty {H : Hp} {v : V} {o : Option (List V)} (h : Long K H v o) : ∃ n : String, TyX K H v (.type n) ∧ PySem.W.kitAny K (.type n) [.type "list", .type "tuple"] = some o.isSome := by
  cases h with
  | non => exact ⟨_, .base .non, kit_seq (by simp) (by simp) (by simp)⟩
  | bl b => exact ⟨_, .base (.bl b), kit_seq (by simp) (by simp) (by simp)⟩
  | int i => exact ⟨_, .base (.int i), kit_seq (by simp) (by simp) (by simp)⟩
  | str x => exact ⟨_, .base (.str x), kit_seq (by simp) (by simp) (by simp)⟩
  | seq q =>
    rcases q with q | q
    · exact ⟨_, tyx_list q, kit_seq (by simp) (by simp) (by simp)⟩
    · exact ⟨_, tyx_tuple q, kit_seq (by simp) (by simp) (by simp)⟩
theorem ok_is_sequence (F : FnP K "is_sequence" s_is_sequence f fd) (T : Mg mg) : FnOk P w K mg base CX0 1 f fd ["value", "least", "most"] (spSeq K) := by
  refine F.ok sc_is_sequence (fun vs H Q E h => ?_) (fun cdv A outer s H vs Q E hr h => ?_)
  · obtain ⟨v, l, m, o, rfl, _⟩ := h
    rfl
  · obtain ⟨v, l, m, o, rfl, hv, k⟩ := h
    refine ⟨_, PSs.nox (pss_one (ps_ret (pe_and (pe_callB call_isiT (by rfl) T.z_isinstance (by decide +kernel) (pa_cons (pv 0) (pa_cons (pe_tup (pa_cons (pe_ty T.z_list bt_list) (pa_cons (pe_ty T.z_tuple bt_tuple) pa_nil))) pa_nil))) (pe_one (pe_chain op_le op_le (pv 1) (pe_callB call_len_seq (by rfl) T.z_len PySem.boot_len (pa_cons (pv 0) pa_nil)) (pv 2)))))), ?_⟩
    refine ⟨_, rfl, (by show 2 ≤ sizeLine; decide), fun p hp => ?_⟩
    have e := same_new (o := HO.tup [.ty "list", .ty "tuple"]) hp
    obtain ⟨n, ht, hk⟩ := long_ty (hv.same e)
    refine ⟨v, p, _, .type n, _, o.isSome, rfl, upd_same, .cons (.ty _) (.cons (.ty _) .nil), ht, hk, _, rfl, ?_⟩
    cases o with
    | none => exact iteF (k _ e)
    | some xs =>
      refine iteT ?_
      cases hv with
      | seq q =>
        have q' := q.same e
        refine ⟨_, rfl, _, rfl, _, _, rfl, q', _, _, rfl, rfl, decide (l ≤ (xs.length : Int)), rfl, ?_⟩
        refine ite2 (fun h1 => ?_) (fun h1 => ?_)
        · refine ⟨_, rfl, _, _, rfl, rfl, ?_⟩
          have k2 := k _ e
          rw [show inLen l m (some xs) = decide ((xs.length : Int) ≤ m) from by show (decide _ && _) = _; rw [h1]; rfl] at k2
          exact k2
        · have k2 := k _ e
          rw [show inLen l m (some xs) = false from by show (decide _ && _) = _; rw [Bool.eq_false_iff.mpr h1]; rfl] at k2
          exact k2
end
end K4
namespace K4
open PySem PySem.Spec PyProof.Rows L2 Kx
section
variable {P : Program} {w : World} {K : PySem.W.Frag} {mg : Str → Option Value} {base : Heap} {f : Addr} {fd : FuncData} {a : Ad}
theorem passC {X : Cx} {W : WX} {E : XK} (tk : L2N.Takes X W) (h : ∀ cls d σ H, E cls d H → W cls d σ H) : Passes (L2N.CX X.prog X.w) X E := L2N.passes_call tk h
theorem inLen_some {l m : Int} {xs : List V} : inLen l m (some xs) = (decide (l ≤ (xs.length : Int)) && decide ((xs.length : Int) ≤ m)) := rfl
theorem optV_non {o : Option Nat} : decide (optV o = V.non) = o.isNone := by
  cases o with
  | none => rfl
  | some n => exact decide_eq_false (fun z => nomatch z)
theorem sc_first_not_below : FnScope ["values", "limit", "at", "value"] ["values", "limit"] (defScope s_first_not_below) := ⟨rfl, rfl, rfl, by decide +kernel, rfl, by decide +kernel, by decide +kernel⟩
theorem ok_first_not_below (F : FnP K "first_not_below" s_first_not_below f fd) (T : Mg mg) (c_is_below : Cal P w K mg base CX0 2 "is_below" ["value", "limit"] (spBelow K)) : FnOk P w K mg base CX0 3 f fd ["values", "limit"] (spFnb K) := by
  refine F.ok sc_first_not_below (fun vs H Q E h => ?_) (fun cdv A outer s H vs Q E hr h => ?_)
  · obtain ⟨a, xs, l, rfl, _⟩ := h
    rfl
  · obtain ⟨a, xs, l, rfl, hx, hk, k⟩ := h
    refine ⟨_, PSs.nox (pss_cons (ps_for PassesOwn.never rfl (pi_pairs (by rfl) T.z_enumerate (pa_cons (pv 0) pa_nil)) (pg_tup rfl (pgs_cons (pg_name (i := 2) sc_first_not_below.nd rfl (by first | exact Or.inl rfl | exact Or.inr rfl)) (pgs_cons (pg_name (i := 3) sc_first_not_below.nd rfl (by first | exact Or.inl rfl | exact Or.inr rfl)) pgs_nil)))
        (pss_one (ps_if (pt_not (pt_val (pe_callC c_is_below hr pass0 (pa_cons (pv 3) (pa_cons (pv 1) pa_nil)))))
          (pss_one (ps_ret (pv 2)))
          pss_nil)))
      (pss_one (ps_ret pe_non))), ?_⟩
    refine ⟨_, rfl, a, xs, rfl, for_pairs hx (fun i σ' H' => ∃ x y, σ' = [some (.ref a), some (.int l), x, y] ∧ Same H H' ∧ ∀ j z, j < i → xs[j]? = some z → isBel l z = true) ⟨_, _, rfl, Same.refl H, fun j z hj => absurd hj (Nat.not_lt_zero j)⟩ (fun i σ' H' q => q.elim fun _ q => q.elim fun _ q => q.2.1) ?_ ?_⟩
    · rintro i x p σ' H' hx' ⟨_, _, rfl, e, hl⟩ hp
      refine ⟨p, _, rfl, SqT.of upd_same, rfl, ?_⟩
      refine ⟨_, _, rfl, _, _, rfl, rfl, ?_⟩
      refine ⟨x, rfl, _, rfl, x, l, rfl, ((hk x (List.mem_of_getElem? hx')).same e).same (same_new hp), isBel l x, rfl, ?_⟩
      cases eb : isBel l x with
      | true =>
        refine iteF ⟨_, _, rfl, e.trans (same_new hp), fun j z hj hz => ?_⟩
        rcases Nat.lt_or_eq_of_le (Nat.le_of_lt_succ hj) with h | rfl
        · exact hl j z h hz
        · rw [hx'] at hz
          cases hz
          exact eb
      | false =>
        refine iteT ⟨_, rfl, ?_⟩
        rw [fnb_some (i := i) hl ⟨x, hx', eb⟩] at k
        exact k _ (e.trans (same_new hp))
    · rintro σ' H' ⟨_, _, rfl, e, hl⟩
      have := k _ e
      rw [fnb_none.mpr fun x hx => by
        obtain ⟨j, hj⟩ := List.getElem?_of_mem (hx : x ∈ xs)
        exact hl j x (List.getElem?_eq_some_iff.mp hj).1 hj] at this
      exact this
theorem sc_row_of : FnScope ["value", "deeds", "at"] ["value", "deeds"] (defScope s_row_of) := ⟨rfl, rfl, rfl, by decide +kernel, rfl, by decide +kernel, by decide +kernel⟩
theorem ok_row_of (F : FnP K "row_of" s_row_of f fd) (T : Mg mg) (R : Er P w K mg base a) (c_is_sequence : Cal P w K mg base CX0 1 "is_sequence" ["value", "least", "most"] (spSeq K)) (c_first_not_below : Cal P w K mg base CX0 3 "first_not_below" ["values", "limit"] (spFnb K)) :
    FnOk P w K mg base (L2N.CX P w) 4 f fd ["value", "deeds"] (spRowOf K a) := by
  refine F.ok sc_row_of (fun vs H Q E h => ?_) (fun cdv A outer s H vs Q E hr h => ?_)
  · obtain ⟨v, o, n, rfl, _⟩ := h
    rfl
  · obtain ⟨v, o, n, rfl, hv, hk, bad, good⟩ := h
    refine ⟨_, (pss_cons (ps_if (pt_not (pt_val (pe_callC c_is_sequence hr pass0 (pa_cons (pv 0) (pa_cons pe_int (pa_cons (pe_constI T.g_ROW_MOST) pa_nil))))))
        (pss_one (psN R.BadRow rfl hr (L2N.takes_of rfl rfl rfl rfl) (pa_cons (pe_un un_neg pe_int) pa_nil)))
        pss_nil)
      (pss_cons (ps_set (i := 2) sc_row_of.nd rfl (by first | exact Or.inl rfl | exact Or.inr rfl) (pe_callC c_first_not_below hr pass0 (pa_cons (pv 0) (pa_cons (pv 1) pa_nil))))
      (pss_cons (ps_if (pt_cmpR op_notN (pv 2) pe_non (nomark _))
        (pss_one (psN R.BadRow rfl hr (L2N.takes_of rfl rfl rfl rfl) (pa_cons (pv 2) pa_nil)))
        pss_nil)
      (pss_one (ps_ret (pe_callTy call_tupD (by rfl) T.z_tuple (by decide +kernel) (pa_cons (pv 0) pa_nil))))))), ?_⟩
    refine ⟨_, rfl, _, 0, 400, o, rfl, hv, fun H1 e1 => ⟨inLen 0 400 o, rfl, ?_⟩⟩
    cases ei : inLen 0 400 o with
    | false =>
      have far : rowAt n o = some (-1) := by
        cases o with
        | none => rfl
        | some xs =>
          refine if_neg fun z => ?_
          rw [inLen_some, decide_eq_true (by omega), decide_eq_true (by omega)] at ei
          cases ei
      exact iteT ⟨1, rfl, thrownN ((bad _ far).same e1).at_⟩
    | true =>
      refine iteF ?_
      cases o with
      | none => cases ei
      | some xs =>
      cases hv with
      | @seq b _ hv =>
      have hl : xs.length ≤ 400 := by
        have z := ei
        rw [inLen_some, Bool.and_eq_true] at z
        have := of_decide_eq_true z.2
        omega
      have ra : rowAt n (some xs) = (fnb n xs).map (fun (i : Nat) => (i : Int)) := if_pos hl
      rw [ra] at bad good
      refine ⟨_, rfl, _, rfl, b, xs, n, rfl, hv.same e1, fun x hx => (hk _ rfl hl x hx).same e1, fun H2 e2 => ?_⟩
      have e3 := e1.trans e2
      refine ⟨optV (fnb n xs), rfl, rfl, ?_⟩
      cases ef : fnb n xs with
      | some i =>
        rw [ef] at bad
        refine ⟨true, rfl, iteT ?_⟩
        exact ⟨_, rfl, thrownN ((bad _ rfl).same e3).at_⟩
      | none =>
        rw [ef] at good
        obtain ⟨b', xs', q1, q2, hd, good⟩ := good rfl
        cases q1
        cases q2
        refine ⟨false, rfl, iteF ?_⟩
        exact ⟨_, rfl, b, xs, rfl, hd.same e3, fun p H4 e4 hp => good p H4 (e3.trans e4) hp⟩
end
end K4
/-! comprehensions whose list is known ahead, item by item -/
namespace Kx
open L2 PySem PySem.Spec PyProof.Rows
/-- i items of out are made, at D -/
def Part (H1 : Hp) (D : Addr) (out : List V) (i : Nat) (H : Hp) : Prop := H D = some (.lst (out.take i)) ∧ Same H1 H
section
variable {H1 H H' : Hp} {D : Addr} {out : List V} {i : Nat} {y : V}
theorem Part.zero (hD : H1 D = none) : Part H1 D out 0 (upd H1 D (.lst [])) := ⟨upd_same, same_new hD⟩
theorem Part.step (p : Part H1 D out i H) (hD : H1 D = none) (e : Same H H') (hy : out[i]? = some y) (fits : out.length ≤ sizeLine) :
    ∃ acc, H' D = some (.lst acc) ∧ acc.length < sizeLine ∧ Part H1 D out (i + 1) (upd H' D (.lst (acc ++ [y]))) := by
  have lt := (List.getElem?_eq_some_iff.mp hy).1
  refine ⟨_, e _ _ p.1, by rw [List.length_take]; omega, ?_, fun b o hb => ?_⟩
  · rw [upd_same, List.take_add_one, hy] <;> rfl
  · rw [upd_ne (ne_of_none hb hD)]
    exact e _ _ (p.2 _ _ hb)
theorem Part.done {n : Nat} (p : Part H1 D out n H) (h : out.length ≤ n) : H D = some (.lst out) ∧ Same H1 H := by
  have q := p.1
  rw [List.take_of_length_le h] at q
  exact ⟨q, p.2⟩
end
theorem yes {σ : L2.St} {H : Hp} {Q : Bool → Hp → Prop} (h : Q true H) : tYes σ H Q := h
/-- a comprehension's W by a word of the turn -/
theorem lc_by {J : It} {n : Nat} {g : TG} {tt : TT} {te : TE} {vs : List Nat} {σ : L2.St} {Q : VK} {D : Addr} {H0 : Hp} (Pv : Nat → Hp → Prop) (h0 : Pv 0 H0)
    (go : ∀ i H, i < n → Pv i H → J.go i H ∧ ∀ x H', J.yld i H x H' → g x (wipe σ vs) H' fun σ2 H2 => wipe σ2 vs = wipe σ vs ∧ tt σ2 H2 fun b H3 =>
      if b = true then te σ2 H3 fun y H4 => ∃ acc, H4 D = some (.lst acc) ∧ acc.length < sizeLine ∧ Pv (i + 1) (upd H4 D (.lst (acc ++ [y]))) else Pv (i + 1) H3)
    (stop : ∀ H, Pv n H → J.stop n H ∧ Q (.ref D) H) :
    ∃ W : Nat → Nat → Hp → Prop, (∃ m, W 0 m H0) ∧ ∀ i m H, W i m H → (J.stop i H ∧ Q (.ref D) H) ∨ (J.go i H ∧ ∃ Nx : Hp → Prop, (∀ H', Nx H' → ∃ m', m' < m ∧ W (i + 1) m' H') ∧ ∀ x H', J.yld i H x H' → g x (wipe σ vs) H' fun σ2 H2 => wipe σ2 vs = wipe σ vs ∧ tt σ2 H2 fun b H3 =>
      if b = true then te σ2 H3 (fun y H4 => ∃ acc, H4 D = some (.lst acc) ∧ acc.length < sizeLine ∧ Nx (upd H4 D (.lst (acc ++ [y])))) else Nx H3) := by
  refine ⟨fun i m H => m = n - i ∧ i ≤ n ∧ Pv i H, ⟨n, rfl, Nat.zero_le n, h0⟩, ?_⟩
  rintro i m H ⟨rfl, le, p⟩
  rcases Nat.lt_or_eq_of_le le with lt | rfl
  · obtain ⟨g1, g2⟩ := go i H lt p
    exact .inr ⟨g1, Pv (i + 1), fun H' p' => ⟨n - (i + 1), by omega, rfl, lt, p'⟩, g2⟩
  · exact .inl (stop H p)
/-- the same for any body of the turn -/
theorem turns {J : It} {n : Nat} {Z : Hp → Prop} {H0 : Hp} {B : (Hp → Prop) → V → Hp → Prop} (Pv : Nat → Hp → Prop) (h0 : Pv 0 H0) (go : ∀ i H, i < n → Pv i H → J.go i H ∧ ∀ x H', J.yld i H x H' → B (Pv (i + 1)) x H') (stop : ∀ H, Pv n H → J.stop n H ∧ Z H) :
    ∃ W : Nat → Nat → Hp → Prop, (∃ m, W 0 m H0) ∧ ∀ i m H, W i m H → (J.stop i H ∧ Z H) ∨ (J.go i H ∧ ∃ Nx : Hp → Prop, (∀ H', Nx H' → ∃ m', m' < m ∧ W (i + 1) m' H') ∧ ∀ x H', J.yld i H x H' → B Nx x H') := by
  refine ⟨fun i m H => m = n - i ∧ i ≤ n ∧ Pv i H, ⟨n, rfl, Nat.zero_le n, h0⟩, ?_⟩
  rintro i m H ⟨rfl, le, p⟩
  rcases Nat.lt_or_eq_of_le le with lt | rfl
  · obtain ⟨g1, g2⟩ := go i H lt p
    exact .inr ⟨g1, Pv (i + 1), fun H' p' => ⟨n - (i + 1), by omega, rfl, lt, p'⟩, g2⟩
  · exact .inl (stop H p)
/-- t + u, any tuples -/
def rCatS (K : PySem.W.Frag) : R2 := fun x y H Q => ∃ (a b : Addr) (xs ys : List V), x = .ref a ∧ y = .ref b ∧ SqT K H a xs ∧ SqT K H b ys ∧ xs.length + ys.length ≤ sizeLine ∧ ∀ p H', Same H H' → SqT K H' p (xs ++ ys) → Q (.ref p) H'
theorem op_catS {X : Cx} {K : PySem.W.Frag} (hK : X.K = K := by rfl) : OpR X (binaryOp .Add) (rCatS K) := by
  subst hK
  intro pins st σ H x y v u Q I rx ry h
  obtain ⟨a, b, xs, ys, rfl, rfl, h1, h2, fits, key⟩ := h
  refine op_catA pins st σ H _ _ v u Q I rx ry ⟨a, b, xs, ys, rfl, rfl, h1, h2, fits, fun e => ?_, fun _ e => ?_, fun _ _ p hp => key p _ (same_new hp) (SqT.of upd_same)⟩
  · subst e
    exact key b H (Same.refl H) h2
  · subst e
    exact key a H (Same.refl H) (by rw [List.append_nil]; exact h1)
end Kx
/-! machines are made, compared -/
namespace K4
open PySem PySem.Spec PyProof.Rows L2 Kx
theorem r64 {k : Nat} {A : Around} (r : Room k A) : A.units + 64 < cLine := by have := r.un; omega
theorem fnb_ints {l : Int} : ∀ {xs : List V}, fnb l xs = none → ∃ ns : List Int, xs = ns.map V.int ∧ ∀ n ∈ ns, 0 ≤ n ∧ n < l
  | [], _ => ⟨[], rfl, fun _ h => nomatch h⟩
  | x :: xs, h => by
    have h' := fnb_none.mp h
    obtain ⟨ns, rfl, hn⟩ := fnb_ints (xs := xs) (fnb_none.mpr fun y hy => h' y (List.mem_cons_of_mem _ hy))
    have hx := h' x (List.mem_cons_self ..)
    cases x with
    | int i =>
      have hx : (decide (0 ≤ i) && decide (i < l)) = true := hx
      rw [Bool.and_eq_true] at hx
      refine ⟨i :: ns, rfl, fun n hn' => (List.mem_cons.mp hn').elim (fun e => ?_) (hn n)⟩
      subst e
      exact ⟨of_decide_eq_true hx.1, of_decide_eq_true hx.2⟩
    | _ => exact absurd hx Bool.false_ne_true
theorem fnb_of {l : Int} {ns : List Int} (h : ∀ n ∈ ns, 0 ≤ n ∧ n < l) : fnb l (ns.map V.int) = none := fnb_none.mpr fun x hx => by
  obtain ⟨n, hn, rfl⟩ := List.mem_map.mp hx
  show (decide (0 ≤ n) && decide (n < l)) = true
  rw [decide_eq_true (h n hn).1, decide_eq_true (h n hn).2]
  rfl
theorem tup_of {K : PySem.W.Frag} {H : Hp} {a : Addr} {xs : List V} {Q : VK} (q : Sq K H a xs) (key : ∀ p H', Same H H' → SqT K H' p xs → Q (.ref p) H') : (SqL K H a xs ∧ ∀ l, H l = none → Q (.ref l) (upd H l (.tup xs))) ∨ (SqT K H a xs ∧ Q (.ref a) H) :=
  q.imp (fun q => ⟨q, fun l hl => key l _ (same_new hl) (SqT.of upd_same)⟩) fun q => ⟨q, key a H (Same.refl H) q⟩
theorem call_tup {X : Cx} : CallR X (.type "tuple") (fun xs H Q => ∃ p ys, xs = [.ref p] ∧ Sq X.K H p ys ∧ ∀ q H', Same H H' → SqT X.K H' q ys → Q (.ref q) H') := fun pins s σ H vs us Q I r ⟨p, ys, e, q, key⟩ =>
  call_tuple_of pins s σ H vs us Q I r ⟨p, ys, e, tup_of q key⟩
theorem rd_ins {H : Hp} {x a C dx : Addr} {fs gs : List (Str × V)} {u : HO} (hx : H x = some (.ins C dx fs)) (n1 : ∀ C dx fs, u ≠ .ins C dx fs) (q : Rd H a u) : Rd (upd H x (.ins C dx gs)) a u :=
  q.elim (fun q => .inl (by rw [upd_ne (ne_of q hx (n1 _ _ _))]; exact q)) fun ⟨z, q⟩ => .inr ⟨z, by rw [upd_ne (ne_of q hx (fun z => nomatch z))]; exact q⟩
theorem sqL_ins {K : PySem.W.Frag} {H : Hp} {x a C dx : Addr} {fs gs : List (Str × V)} {xs : List V} (hx : H x = some (.ins C dx fs)) (h : SqL K H a xs) : SqL K (upd H x (.ins C dx gs)) a xs := h.imp (rd_ins hx fun _ _ _ z => nomatch z) id
theorem sqT_ins {K : PySem.W.Frag} {H : Hp} {x a C dx : Addr} {fs gs : List (Str × V)} {xs : List V} (hx : H x = some (.ins C dx fs)) (h : SqT K H a xs) : SqT K (upd H x (.ins C dx gs)) a xs := h.imp (rd_ins hx fun _ _ _ z => nomatch z) id
theorem sq_ins {K : PySem.W.Frag} {H : Hp} {x a C dx : Addr} {fs gs : List (Str × V)} {xs : List V} (hx : H x = some (.ins C dx fs)) (h : Sq K H a xs) : Sq K (upd H x (.ins C dx gs)) a xs := h.imp (sqL_ins hx) (sqT_ins hx)
theorem tru_sq {K : PySem.W.Frag} {H : Hp} {b : Addr} {xs : List V} (h : Sq K H b xs) : TruV K (.ref b) H (!xs.isEmpty) := h.elim (fun h => .inl ⟨xs, h, rfl⟩) fun h => .inr (.inl ⟨xs, h, rfl⟩)
theorem sqT_lst {K : PySem.W.Frag} {H : Hp} {D : Addr} {u u' : List V} {q : Addr} {xs : List V} (hD : H D = some (.lst u)) (h : SqT K H q xs) : SqT K (upd H D (.lst u')) q xs := by
  refine h.imp (fun h => ?_) id
  rcases h with h | ⟨z, h⟩
  · exact .inl (by rw [upd_ne (ne_of h hD (fun z => nomatch z))]; exact h)
  · exact .inr ⟨z, by rw [upd_ne (ne_of h hD (fun z => nomatch z))]; exact h⟩
/-- tables that a machine may have: n states -/
structure Mok (n : Nat) (ts : List (List Int)) : Prop where
  l1 : 1 ≤ ts.length
  l4 : ts.length ≤ 4
  n1 : 1 ≤ n
  n8 : n ≤ 8
  len : ∀ t ∈ ts, t.length = n
  ent : ∀ t ∈ ts, ∀ x ∈ t, 0 ≤ x ∧ x < (n : Int)
/-- rows stand at these places -/
def RowsBy (R : Addr → List V → Prop) : List V → List (List Int) → Prop
  | [], [] => True
  | v :: vs, t :: ts => (∃ q, v = .ref q ∧ R q (t.map V.int)) ∧ RowsBy R vs ts
  | _, _ => False
theorem RowsBy.imp {R S : Addr → List V → Prop} (e : ∀ q xs, R q xs → S q xs) : ∀ {vs : List V} {ts : List (List Int)}, RowsBy R vs ts → RowsBy S vs ts
  | [], [], _ => trivial
  | _ :: _, _ :: _, ⟨⟨q, h1, h2⟩, h⟩ => ⟨⟨q, h1, e _ _ h2⟩, RowsBy.imp e h⟩
  | [], _ :: _, h => h.elim
  | _ :: _, [], h => h.elim
theorem RowsBy.length {R : Addr → List V → Prop} : ∀ {vs : List V} {ts : List (List Int)}, RowsBy R vs ts → vs.length = ts.length
  | [], [], _ => rfl
  | _ :: _, _ :: _, ⟨_, h⟩ => congrArg Nat.succ (RowsBy.length h)
  | [], _ :: _, h => h.elim
  | _ :: _, [], h => h.elim
theorem RowsBy.at_ {R : Addr → List V → Prop} : ∀ {vs : List V} {ts : List (List Int)} {i : Nat} {t : List Int}, RowsBy R vs ts → ts[i]? = some t → ∃ q, vs[i]? = some (.ref q) ∧ R q (t.map V.int)
  | _ :: _, _ :: _, 0, t, ⟨⟨q, h1, h2⟩, _⟩, e => by
    simp at e
    subst e
    exact ⟨q, by simp [h1], h2⟩
  | _ :: _, _ :: _, i + 1, t, ⟨_, h⟩, e => by
    obtain ⟨q, h1, h2⟩ := RowsBy.at_ (i := i) h (by simpa using e)
    exact ⟨q, by simpa using h1, h2⟩
  | [], [], _, _, _, e => by simp at e
  | [], _ :: _, _, _, h, _ => h.elim
  | _ :: _, [], _, _, h, _ => h.elim
theorem RowsBy.snoc {R : Addr → List V → Prop} {q : Addr} {t : List Int} (hq : R q (t.map V.int)) : ∀ {vs : List V} {ts : List (List Int)}, RowsBy R vs ts → RowsBy R (vs ++ [.ref q]) (ts ++ [t])
  | [], [], _ => ⟨⟨q, rfl, hq⟩, trivial⟩
  | _ :: _, _ :: _, ⟨h1, h⟩ => ⟨h1, RowsBy.snoc hq h⟩
  | [], _ :: _, h => h.elim
  | _ :: _, [], h => h.elim
structure McAt (K : PySem.W.Frag) (CM : Addr) (H : Hp) (m : Addr) (n : Nat) (ts : List (List Int)) : Prop where
  ok : Mok n ts
  ex : ∃ dx t ps, H m = some (.ins CM dx [("deeds", .int (ts.length : Int)), ("states", .int (n : Int)), ("tables", .ref t)]) ∧ SqT K H t ps ∧ RowsBy (SqT K H) ps ts
theorem McAt.same {K : PySem.W.Frag} {CM : Addr} {H H' : Hp} {m : Addr} {n : Nat} {ts : List (List Int)} (e : Same H H') (h : McAt K CM H m n ts) : McAt K CM H' m n ts := by
  obtain ⟨ok, dx, t, ps, h1, h2, h3⟩ := h
  exact ⟨ok, dx, t, ps, e _ _ h1, sqT_same e h2, h3.imp fun _ _ q => sqT_same e q⟩
structure ClsM (K : PySem.W.Frag) (mg : Str → Option Value) (CM : Addr) : Prop where
  at_ : mg "Machine" = some (.ref CM)
  cl : Cls K CM
  n1 : NoAttr K CM "deeds"
  n2 : NoAttr K CM "states"
  n3 : NoAttr K CM "tables"
  isi : SlX.SIsi K CM
  yes : PySem.W.kitOne K (.ref CM) (.ref CM) = some true
  notT : PySem.W.kitOne K (.type "tuple") (.ref CM) = some false
  first : PySem.W.notFirst K CM (.type "tuple") = true
/-- a table of n states -/
def isTab (n : Nat) : Option (List V) → Bool
  | some ys => inLen 1 8 (some ys) && (decide (ys.length = n) && (fnb ys.length ys).isNone)
  | none => false
theorem isTab_some {n : Nat} {ys : List V} : isTab n (some ys) = (inLen 1 8 (some ys) && (decide (ys.length = n) && (fnb ys.length ys).isNone)) := rfl
def spTable (K : PySem.W.Frag) : Sp := fun vs H Q _ => ∃ (v like : V) (o : Option (List V)) (n : Nat), vs = [v, like] ∧ Long K H v o ∧ Kns K H o 8 ∧ (inLen 1 8 o = true → ∃ c zs, like = .ref c ∧ Sq K H c zs ∧ zs.length = n) ∧ ∀ H', Same H H' → Q (.bl (isTab n o)) H'
/-- the first that is no table -/
def badTab (n : Nat) : List (Option (List V)) → Option Nat
  | [] => none
  | o :: os => if isTab n o = true then (badTab n os).map (· + 1) else some 0
theorem badTab_none {n : Nat} : ∀ {os : List (Option (List V))}, badTab n os = none ↔ ∀ o ∈ os, isTab n o = true
  | [] => by simp [badTab]
  | o :: os => by
    unfold badTab
    by_cases h : isTab n o = true
    · rw [if_pos h, Option.map_eq_none_iff, badTab_none]
      exact ⟨fun q y hy => (List.mem_cons.mp hy).elim (fun e => e ▸ h) (q y), fun q y hy => q y (List.mem_cons_of_mem _ hy)⟩
    · rw [if_neg h]
      exact ⟨fun q => (nomatch q), fun q => absurd (q o (List.mem_cons_self ..)) h⟩
theorem badTab_some {n : Nat} : ∀ {os : List (Option (List V))} {i : Nat}, (∀ j o, j < i → os[j]? = some o → isTab n o = true) → (∃ o, os[i]? = some o ∧ isTab n o = false) → badTab n os = some i
  | [], i, _, h => by obtain ⟨x, h, _⟩ := h; simp at h
  | x :: xs, 0, _, h => by
    obtain ⟨y, h1, h2⟩ := h
    have e : x = y := by simpa using h1
    unfold badTab
    rw [e, if_neg (by rw [h2]; exact Bool.false_ne_true)]
  | x :: xs, i + 1, hl, h => by
    unfold badTab
    rw [if_pos (hl 0 x (Nat.succ_pos i) rfl), badTab_some (i := i) (fun j y hj hy => hl (j + 1) y (Nat.succ_lt_succ hj) (by simpa using hy)) (by simpa using h)]
    rfl
/-- what the items are as sequences -/
def Items (K : PySem.W.Frag) (H : Hp) : List V → List (Option (List V)) → Prop
  | [], [] => True
  | v :: vs, o :: os => (Long K H v o ∧ Kns K H o 8) ∧ Items K H vs os
  | _, _ => False
theorem Items.at_ {K : PySem.W.Frag} {H : Hp} : ∀ {vs : List V} {os : List (Option (List V))} {i : Nat} {v : V}, Items K H vs os → vs[i]? = some v → ∃ o, os[i]? = some o ∧ Long K H v o ∧ Kns K H o 8
  | _ :: _, _ :: _, 0, v, ⟨h1, _⟩, e => by
    simp at e
    subst e
    exact ⟨_, rfl, h1⟩
  | _ :: _, _ :: _, i + 1, v, ⟨_, h⟩, e => by
    obtain ⟨o, h1, h2⟩ := Items.at_ (i := i) h (by simpa using e)
    exact ⟨o, by simpa using h1, h2⟩
  | [], [], _, _, _, e => by simp at e
  | [], _ :: _, _, _, h, _ => h.elim
  | _ :: _, [], _, _, h, _ => h.elim
/-- the number of the first's items -/
def lenAt (os : List (Option (List V))) : Nat := match os[0]? with
  | some (some ys) => ys.length
  | _ => 0
theorem tabs_of {K : PySem.W.Frag} {H : Hp} {n : Nat} : ∀ {vs : List V} {os : List (Option (List V))}, Items K H vs os → (∀ o ∈ os, isTab n o = true) → ∃ ts : List (List Int), os = ts.map (fun t => some (t.map V.int)) ∧ RowsBy (Sq K H) vs ts ∧ (∀ t ∈ ts, t.length = n) ∧ ∀ t ∈ ts, ∀ x ∈ t, 0 ≤ x ∧ x < (n : Int)
  | [], [], _, _ => ⟨[], rfl, trivial, (fun t h => nomatch h), (fun t h => nomatch h)⟩
  | v :: vs, o :: os, ⟨⟨h1, _⟩, h⟩, all => by
    obtain ⟨ts, e, r, l, b⟩ := tabs_of h fun o ho => all o (List.mem_cons_of_mem _ ho)
    have z := all o (List.mem_cons_self ..)
    cases h1 with
    | @seq a ys q =>
      rw [isTab_some, Bool.and_eq_true, Bool.and_eq_true] at z
      have len := of_decide_eq_true z.2.1
      obtain ⟨ns, en, hn⟩ := fnb_ints (Option.isNone_iff_eq_none.mp z.2.2)
      subst en
      refine ⟨ns :: ts, by rw [e]; rfl, ⟨⟨a, rfl, q⟩, r⟩, fun t ht => ?_, fun t ht => ?_⟩
      · rcases List.mem_cons.mp ht with rfl | ht
        · rw [← len, List.length_map]
        · exact l t ht
      · rcases List.mem_cons.mp ht with rfl | ht
        · intro x hx
          have := hn x hx
          rw [len] at this
          exact this
        · exact b t ht
    | _ => cases z
  | [], _ :: _, h, _ => h.elim
  | _ :: _, [], h, _ => h.elim
section
variable {P : Program} {w : World} {K : PySem.W.Frag} {mg : Str → Option Value} {base : Heap} {f : Addr} {fd : FuncData} {a : Ad} {CM : Addr}
theorem sc_is_table : FnScope ["value", "like"] ["value", "like"] (defScope s_is_table) := ⟨rfl, rfl, rfl, by decide +kernel, rfl, by decide +kernel, by decide +kernel⟩
theorem ok_is_table (F : FnP K "_is_table" s_is_table f fd) (T : Mg mg) (c_is_sequence : Cal P w K mg base CX0 1 "is_sequence" ["value", "least", "most"] (spSeq K)) (c_first_not_below : Cal P w K mg base CX0 3 "first_not_below" ["values", "limit"] (spFnb K)) : FnOk P w K mg base CX0 4 f fd ["value", "like"] (spTable K) := by
  refine F.ok sc_is_table (fun vs H Q E h => ?_) (fun cdv A outer s H vs Q E hr h => ?_)
  · obtain ⟨v, like, o, n, rfl, _⟩ := h
    rfl
  · obtain ⟨v, like, o, n, rfl, hv, hk, hl, k⟩ := h
    refine ⟨_, PSs.nox (pss_cons (ps_if (pt_not (pt_val (pe_callC c_is_sequence hr pass0 (pa_cons (pv 0) (pa_cons pe_int (pa_cons (pe_constI T.g_STATES_MOST) pa_nil))))))
        (pss_one (ps_ret pe_bl))
        pss_nil)
      (pss_one (ps_ret (pe_and (pe_cmpR op_eq (pe_callB call_len_seq (by rfl) T.z_len PySem.boot_len (pa_cons (pv 0) pa_nil)) (pe_callB call_len_seq (by rfl) T.z_len PySem.boot_len (pa_cons (pv 1) pa_nil)) (nomark _)) (pe_one (pe_cmpR op_isN (pe_callC c_first_not_below hr pass0 (pa_cons (pv 0) (pa_cons (pe_callB call_len_seq (by rfl) T.z_len PySem.boot_len (pa_cons (pv 0) pa_nil)) pa_nil))) pe_non (nomark _))))))), ?_⟩
    refine ⟨_, rfl, v, 1, 8, o, rfl, hv, fun H1 e1 => ⟨inLen 1 8 o, rfl, ?_⟩⟩
    cases i1 : inLen 1 8 o with
    | false =>
      have z : isTab n o = false := by
        cases o with
        | none => rfl
        | some ys => rw [isTab_some, i1] <;> rfl
      rw [z] at k
      exact iteT (k H1 e1)
    | true =>
      refine iteF ?_
      obtain ⟨c, zs, rfl, hc, hn⟩ := hl i1
      cases hv with
      | @seq b ys hb =>
        rw [isTab_some, i1] at k
        have l8 : ys.length ≤ 8 := by
          rw [inLen_some, Bool.and_eq_true] at i1
          have := of_decide_eq_true i1.2
          omega
        refine ⟨_, rfl, b, ys, rfl, hb.same e1, _, rfl, c, zs, rfl, hc.same e1, rfl, ?_⟩
        have ed : decide (V.int (ys.length : Int) = V.int (zs.length : Int)) = decide (ys.length = n) := by
          rw [hn, Bool.eq_iff_iff, decide_eq_true_eq, decide_eq_true_eq]
          exact ⟨fun z => by injection z with z; omega, fun z => by rw [z]⟩
        rw [ed]
        refine ⟨_, rfl, ?_⟩
        cases en : decide (ys.length = n) with
        | false =>
          rw [en] at k
          exact iteF (k H1 e1)
        | true =>
          rw [en] at k
          refine iteT ?_
          refine ⟨_, rfl, _, rfl, b, ys, rfl, hb.same e1, b, ys, _, rfl, hb.same e1, fun x hx => (hk _ rfl l8 x hx).same e1, fun H2 e2 => ⟨rfl, ?_⟩⟩
          have k2 := k _ (e1.trans e2)
          rw [← optV_non] at k2
          exact k2
      | _ => cases i1
end
end K4
/-! machines are made, compared -/
namespace K4
open L2 PySem PySem.Spec PyProof.Rows Kx
def spMachine (K : PySem.W.Frag) (a : Ad) (CM : Addr) : Sp := fun vs H Q E => ∃ (x dx : Addr) (v : V) (o : Option (List V)), vs = [.ref x, v] ∧ H x = some (.ins CM dx []) ∧ Long K H v o ∧ (inLen 1 4 o = false → Thrown E H a.cM "at" (.int (-1))) ∧
  ∀ xs, o = some xs → inLen 1 4 o = true → ∃ os, Items K H xs os ∧ (∀ i, badTab (lenAt os) os = some i → Thrown E H a.cM "at" (.int (i : Int))) ∧
    (badTab (lenAt os) os = none → ∀ n ts, Mok n ts → os = ts.map (fun t => some (t.map V.int)) → ∀ H', (∀ b o, b ≠ x → H b = some o → H' b = some o) → McAt K CM H' x n ts → Q .non H')
/-- tuple(xs) in a comprehension -/
theorem call_tupK {X : Cx} {K : PySem.W.Frag} (hK : X.K = K := by rfl) : CallR X (.type "tuple") (fun xs H Q => ∃ p ys, xs = [.ref p] ∧ Sq K H p ys ∧ ∀ q H', Same H H' → SqT K H' q ys → Q (.ref q) H') := by
  subst hK
  exact call_tup
theorem Items.length {K : PySem.W.Frag} {H : Hp} : ∀ {vs : List V} {os : List (Option (List V))}, Items K H vs os → vs.length = os.length
  | [], [], _ => rfl
  | _ :: _, _ :: _, ⟨_, h⟩ => congrArg Nat.succ (Items.length h)
  | [], _ :: _, h => h.elim
  | _ :: _, [], h => h.elim
theorem ints_map {xs ys : List (List Int)} (h : xs.map (fun t => some (t.map V.int)) = ys.map (fun t => some (t.map V.int))) : xs = ys := by
  have inj : ∀ {a b : List Int}, a.map V.int = b.map V.int → a = b := fun {a b} h => by
    have := congrArg (List.map fun v => match v with | V.int i => i | _ => 0) h
    simpa [Function.comp_def] using this
  induction xs generalizing ys with
  | nil => cases ys with
    | nil => rfl
    | cons _ _ => cases h
  | cons x xs ih => cases ys with
    | nil => cases h
    | cons y ys =>
      rw [List.map_cons, List.map_cons] at h
      injection h with h1 h2
      rw [inj (Option.some.inj h1), ih h2]
section
variable {P : Program} {w : World} {K : PySem.W.Frag} {mg : Str → Option Value} {base : Heap} {f : Addr} {fd : FuncData} {a : Ad} {CM : Addr}
theorem sc_machine : FnScope ["self", "tables", "at", "table"] ["self", "tables"] (defScope s_Machine_init) := ⟨rfl, rfl, rfl, by decide +kernel, rfl, by decide +kernel, by decide +kernel⟩
theorem ok_machine (F : FunD K "__init__" "Machine.__init__" (defArgs s_Machine_init) (defBody s_Machine_init) (defScope s_Machine_init) [] [] f fd) (T : Mg mg) (R : Er P w K mg base a) (TM : ClsM K mg CM)
    (c_is_sequence : Cal P w K mg base CX0 1 "is_sequence" ["value", "least", "most"] (spSeq K)) (c__is_table : Cal P w K mg base CX0 4 "_is_table" ["value", "like"] (spTable K)) : FnOk P w K mg base (L2N.CX P w) 5 f fd ["self", "tables"] (spMachine K a CM) := by
  refine F.ok sc_machine (fun vs H Q E h => ?_) (fun cdv A outer s H vs Q E hr h => ?_)
  · obtain ⟨x, dx, v, o, rfl, _⟩ := h
    rfl
  · obtain ⟨x, dx, v, o, rfl, hx, hv, far, near⟩ := h
    refine ⟨_, (pss_cons (ps_if (pt_not (pt_val (pe_callC c_is_sequence hr pass0 (pa_cons (pv 1) (pa_cons pe_int (pa_cons (pe_constI T.g_DEEDS_MOST) pa_nil))))))
        (pss_one (psN R.BadMachine rfl hr (L2N.takes_of rfl rfl rfl rfl) (pa_cons (pe_un un_neg pe_int) pa_nil)))
        pss_nil)
      (pss_cons (ps_for (passes_of rfl) rfl (pi_pairs (by rfl) T.z_enumerate (pa_cons (pv 1) pa_nil)) (pg_tup rfl (pgs_cons (pg_name (i := 2) sc_machine.nd rfl (by first | exact Or.inl rfl | exact Or.inr rfl)) (pgs_cons (pg_name (i := 3) sc_machine.nd rfl (by first | exact Or.inl rfl | exact Or.inr rfl)) pgs_nil)))
        (pss_one (ps_if (pt_not (pt_val (pe_callC c__is_table hr pass0 (pa_cons (pv 3) (pa_cons (pe_ix ix_seq (pv 1) pe_int (fun _ _ => rfl)) pa_nil)))))
          (pss_one (psN R.BadMachine rfl hr (L2N.takes_of rfl rfl rfl rfl) (pa_cons (pv 2) pa_nil)))
          pss_nil)))
      (PSs.nox (pss_cons (ps_fld (pv 0) (pe_callB call_len_seq (by rfl) T.z_len PySem.boot_len (pa_cons (pv 1) pa_nil)) rfl)
      (pss_cons (ps_fld (pv 0) (pe_callB call_len_seq (by rfl) T.z_len PySem.boot_len (pa_cons (pe_ix ix_seq (pv 1) pe_int (fun _ _ => rfl)) pa_nil)) rfl)
      (pss_one (ps_fld (pv 0) (pe_callTy call_tup (by rfl) T.z_tuple (by decide +kernel) (pa_cons (pe_lc (own := [("table", 3)]) (by rfl) sc_machine.nd (pi_any (pv 1)) (blkOk_by (own := [("table", 3)]) (N := ["self", "tables", "at", "table"]) (sc := defScope s_Machine_init) (by decide +kernel))
        (fun _ _ _ _ _ => pg_name (i := 3) sc_machine.nd rfl (by first | exact Or.inl rfl | exact Or.inr rfl)) (fun _ _ _ _ _ => pts_nil) (fun _ _ _ _ _ => pe_callTy (call_tupK (K := K)) (by rfl) T.z_tuple bt_tuple (pa_cons (pv 3) pa_nil))) pa_nil)) rfl))))))), ?_⟩
    refine ⟨_, rfl, v, 1, 4, o, rfl, hv, fun H1 e1 => ⟨inLen 1 4 o, rfl, ?_⟩⟩
    cases i1 : inLen 1 4 o with
    | false => exact iteT ⟨1, rfl, thrownN ((far i1).same e1).at_⟩
    | true =>
      refine iteF ?_
      cases hv with
      | @seq b xs hb =>
        obtain ⟨os, it, bad, good⟩ := near xs rfl i1
        have len := it.length
        have l4 : 1 ≤ xs.length ∧ xs.length ≤ 4 := by
          have z := i1
          rw [inLen_some, Bool.and_eq_true] at z
          have := of_decide_eq_true z.1
          have := of_decide_eq_true z.2
          omega
        obtain ⟨x0, hx0⟩ : ∃ x0, xs[0]? = some x0 := ⟨xs[0], List.getElem?_eq_getElem (by omega)⟩
        obtain ⟨o0, ho0, long0, kns0⟩ := it.at_ hx0
        have ix0 : ∀ {H' : Hp} {Q : VK}, Same H H' → Q x0 H' → rIx K (.ref b) (.int 0) H' Q := fun e q => by
          rcases hb.same e with z | z
          · exact .inl ⟨b, xs, 0, x0, rfl, rfl, z, atI_nat hx0, q⟩
          · exact .inr (.inl ⟨b, xs, 0, x0, rfl, rfl, z, atI_nat hx0, q⟩)
        refine ⟨_, rfl, b, xs, rfl, for_pairs (hb.same e1) (fun i σ' H' => ∃ y z, σ' = [some (.ref x), some (.ref b), y, z] ∧ Same H H' ∧ Same H1 H' ∧ ∀ j o, j < i → os[j]? = some o → isTab (lenAt os) o = true) ⟨_, _, rfl, e1, Same.refl _, fun j z hj => absurd hj (Nat.not_lt_zero j)⟩ (fun i σ' H' q => q.elim fun _ q => q.elim fun _ q => q.2.2.1) ?_ ?_⟩
        · rintro i y t σ' H' hy ⟨_, _, rfl, e, e', hs⟩ ht
          refine ⟨t, _, rfl, SqT.of upd_same, rfl, ?_⟩
          refine ⟨_, _, rfl, _, _, rfl, rfl, ?_⟩
          have e2 := e.trans (same_new (o := HO.tup [.int (i : Int), y]) ht)
          obtain ⟨oi, hoi, longi, knsi⟩ := it.at_ hy
          refine ⟨_, rfl, _, rfl, ix0 e2 ?_⟩
          refine ⟨y, x0, oi, lenAt os, rfl, longi.same e2, knsi.same e2, fun z => ?_, fun H3 e3 => ⟨isTab (lenAt os) oi, rfl, ?_⟩⟩
          · have z0 : isTab (lenAt os) o0 = true ∨ (i = 0 ∧ oi = o0) := by
              rcases Nat.eq_zero_or_pos i with h | h
              · subst h
                rw [ho0] at hoi
                exact .inr ⟨rfl, (Option.some.inj hoi).symm⟩
              · exact .inl (hs 0 o0 h ho0)
            have some0 : ∃ zs, o0 = some zs := by
              rcases z0 with h | ⟨_, h⟩
              · cases o0 with
                | none => cases h
                | some zs => exact ⟨zs, rfl⟩
              · subst h
                cases oi with
                | none => cases z
                | some zs => exact ⟨zs, rfl⟩
            obtain ⟨zs, rfl⟩ := some0
            cases long0 with
            | @seq c _ hc => exact ⟨c, zs, rfl, hc.same e2, by unfold lenAt; rw [ho0]⟩
          · cases eb : isTab (lenAt os) oi with
            | false => exact iteT ⟨_, rfl, thrownN ((bad i (badTab_some hs ⟨oi, hoi, eb⟩)).same (e2.trans e3)).at_⟩
            | true =>
              refine iteF ⟨_, _, rfl, e2.trans e3, (e'.trans (same_new ht)).trans e3, fun j z hj hz => ?_⟩
              rcases Nat.lt_or_eq_of_le (Nat.le_of_lt_succ hj) with h | rfl
              · exact hs j z h hz
              · rw [hoi] at hz
                cases hz
                exact eb
        · rintro σ' H' ⟨_, _, rfl, e, e', hs⟩
          have allT : ∀ o ∈ os, isTab (lenAt os) o = true := fun o ho => by
            obtain ⟨j, hj⟩ := List.getElem?_of_mem ho
            exact hs j o (by rw [len]; exact (List.getElem?_eq_some_iff.mp hj).1) hj
          obtain ⟨ts, eo, rows, tl, tb⟩ := tabs_of it allT
          have lts : ts.length = xs.length := by rw [len, eo, List.length_map]
          obtain ⟨t0, ht0⟩ : ∃ t0, ts[0]? = some t0 := ⟨ts[0], List.getElem?_eq_getElem (by omega)⟩
          have mt0 := List.mem_of_getElem? ht0
          have n0 : lenAt os = t0.length := (tl t0 mt0).symm
          have mok : Mok (lenAt os) ts := by
            have z := allT o0 (List.mem_of_getElem? ho0)
            refine ⟨by omega, by omega, ?_, ?_, tl, tb⟩
            · cases o0 with
              | none => cases z
              | some ys =>
                rw [isTab_some, Bool.and_eq_true, Bool.and_eq_true, inLen_some, Bool.and_eq_true] at z
                have := of_decide_eq_true z.1.1
                have := of_decide_eq_true z.2.1
                omega
            · cases o0 with
              | none => cases z
              | some ys =>
                rw [isTab_some, Bool.and_eq_true, Bool.and_eq_true, inLen_some, Bool.and_eq_true] at z
                have := of_decide_eq_true z.1.2
                have := of_decide_eq_true z.2.1
                omega
          have good := good (badTab_none.mpr allT) _ ts mok eo
          obtain ⟨c0, hc0, sc0⟩ := rows.at_ ht0
          rw [hx0] at hc0
          obtain rfl := Option.some.inj hc0
          have hx1 := e _ _ hx
          have hb1 := hb.same e
          refine ⟨_, rfl, b, xs, rfl, hb1, _, rfl, x, CM, dx, _, rfl, hx1, TM.cl, TM.n1, (by decide), ?_⟩
          generalize hH2 : upd H' x (.ins CM dx (putF "deeds" (.int (xs.length : Int)) [])) = H2
          have hx2 : H2 x = some (.ins CM dx [("deeds", .int (xs.length : Int))]) := by rw [← hH2]; exact upd_same
          have sq2 : ∀ {p : Addr} {zs : List V}, Sq K H p zs → Sq K H2 p zs := fun z => by rw [← hH2]; exact sq_ins hx1 (z.same e)
          have hb2 : Sq K H2 b xs := sq2 hb
          have keep2 : ∀ c o, c ≠ x → H c = some o → H2 c = some o := fun c o ne hc => by rw [← hH2, upd_ne ne]; exact e _ _ hc
          have ix2 : ∀ {Q : VK}, Q (.ref c0) H2 → rIx K (.ref b) (.int 0) H2 Q := fun q => by
            rcases hb2 with z | z
            · exact .inl ⟨b, xs, 0, _, rfl, rfl, z, atI_nat hx0, q⟩
            · exact .inr (.inl ⟨b, xs, 0, _, rfl, rfl, z, atI_nat hx0, q⟩)
          refine ⟨_, rfl, ix2 ?_⟩
          refine ⟨c0, _, rfl, sq2 sc0, _, rfl, x, CM, dx, _, rfl, hx2, TM.cl, TM.n2, (Nat.lt_of_succ_lt (by show 2 < 1000; decide)), ?_⟩
          rw [List.length_map, ← n0]
          generalize hH3 : upd H2 x (.ins CM dx (putF "states" (.int (lenAt os : Int)) [("deeds", .int (xs.length : Int))])) = H3
          have hx3 : H3 x = some (.ins CM dx [("deeds", .int (xs.length : Int)), ("states", .int (lenAt os : Int))]) := by rw [← hH3]; exact upd_same
          have sq3 : ∀ {p : Addr} {zs : List V}, Sq K H p zs → Sq K H3 p zs := fun z => by rw [← hH3]; exact sq_ins hx2 (sq2 z)
          have hb3 : Sq K H3 b xs := sq3 hb
          have keep3 : ∀ c o, c ≠ x → H c = some o → H3 c = some o := fun c o ne hc => by rw [← hH3, upd_ne ne]; exact keep2 _ _ ne hc
          have inp3 : RowsBy (Sq K H3) xs ts := rows.imp fun _ _ q => sq3 q
          have last : ∀ (H4 : Hp) (D : Addr) (ps : List V), Same H3 H4 → H4 D = some (.lst ps) → RowsBy (SqT K H4) ps ts → ∀ t H5, Same H4 H5 → SqT K H5 t ps → Q .non (upd H5 x (.ins CM dx [("deeds", .int (xs.length : Int)), ("states", .int (lenAt os : Int)), ("tables", .ref t)])) := fun H4 D ps e4 hD rw4 t H5 e5 ht => by
            have hx5 := e5 _ _ (e4 _ _ hx3)
            refine good _ (fun c o ne hc => by rw [upd_ne ne]; exact e5 _ _ (e4 _ _ (keep3 _ _ ne hc))) ⟨mok, dx, t, ps, by rw [upd_same, lts], sqT_ins hx5 ht, rw4.imp fun _ _ q => sqT_ins hx5 (sqT_same e5 q)⟩
          have go : ∀ (D : Addr), H3 D = .none → ∀ i y H4, xs[i]? = some y → (∃ ps, RowsBy (SqT K H4) ps (ts.take i) ∧ H4 D = some (.lst ps) ∧ Same H3 H4) → ∃ q ys, y = .ref q ∧ Sq K H4 q ys ∧ ∀ q' H5, Same H4 H5 → SqT K H5 q' ys →
              ∃ acc, H5 D = some (.lst acc) ∧ acc.length < sizeLine ∧ ∃ ps, RowsBy (SqT K (L2.upd H5 D (.lst (acc ++ [.ref q'])))) ps (ts.take (i + 1)) ∧ L2.upd H5 D (.lst (acc ++ [.ref q'])) D = some (.lst ps) ∧ Same H3 (L2.upd H5 D (.lst (acc ++ [.ref q']))) := fun D hD i y H4 hy ⟨ps, rw4, hD4, e4⟩ => by
            have hi : i < ts.length := by rw [lts]; exact (List.getElem?_eq_some_iff.mp hy).1
            have ht : ts[i]? = some ts[i] := List.getElem?_eq_getElem hi
            obtain ⟨q, hq, sq⟩ := inp3.at_ ht
            rw [hy] at hq
            refine ⟨q, _, Option.some.inj hq, sq.same e4, fun q' H5 e5 ht5 => ?_⟩
            have hD5 := e5 _ _ hD4
            have lps := rw4.length
            rw [List.length_take] at lps
            refine ⟨ps, hD5, by rw [sizeLine_eq]; omega, ps ++ [.ref q'], ?_, upd_same, fun c o hc => ?_⟩
            · rw [List.take_add_one, ht]
              exact RowsBy.snoc (sqT_lst hD5 ht5) (rw4.imp fun _ _ z => sqT_lst hD5 (sqT_same e5 z))
            · rw [upd_ne (ne_of_none hc hD)]
              exact e5 _ _ (e4 _ _ hc)
          have fin : ∀ (D : Addr) H4, (∃ ps, RowsBy (SqT K H4) ps (ts.take xs.length) ∧ H4 D = some (.lst ps) ∧ Same H3 H4) → ∃ ps, H4 D = some (.lst ps) ∧ RowsBy (SqT K H4) ps ts ∧ Same H3 H4 := fun D H4 ⟨ps, h1, h2, h3⟩ => by
            rw [← lts, List.take_length] at h1
            exact ⟨ps, h2, h1, h3⟩
          have zero : ∀ (D : Addr), H3 D = .none → ∃ ps, RowsBy (SqT K (L2.upd H3 D (.lst []))) ps (ts.take 0) ∧ L2.upd H3 D (.lst []) D = some (.lst ps) ∧ Same H3 (L2.upd H3 D (.lst [])) := fun D hD => ⟨[], trivial, upd_same, same_new hD⟩
          refine ⟨_, rfl, b, xs, rfl, ?_⟩
          rcases hb3 with hb3 | hb3
          · refine .inl ⟨hb3, fun D hD => lc_list (xs := xs) (fun i H4 => ∃ ps, RowsBy (SqT K H4) ps (ts.take i) ∧ H4 D = some (.lst ps) ∧ Same H3 H4) (zero D hD) (fun i H4 _ p => p.elim fun _ p => sqL_same p.2.2 hb3) (fun i y H4 hy p => ⟨rfl, yes ((if_pos rfl).mpr ?_)⟩) fun H4 p => ?_⟩
            · obtain ⟨q, ys, rfl, sq, k⟩ := go D hD i y H4 hy p
              exact ⟨_, rfl, q, ys, rfl, sq, k⟩
            · obtain ⟨ps, h1, h2, h3⟩ := fin D H4 p
              exact ⟨D, _, rfl, .inl (SqL.of h1), fun t H5 e5 ht => ⟨_, rfl, x, CM, dx, _, rfl, e5 _ _ (h3 _ _ hx3), TM.cl, TM.n3, (Nat.lt_of_succ_lt (by show 3 < 1000; decide)), last H4 D ps h3 h1 h2 t H5 e5 ht⟩⟩
          · refine .inr ⟨hb3, fun D hD => lc_tup (xs := xs) (fun i H4 => ∃ ps, RowsBy (SqT K H4) ps (ts.take i) ∧ H4 D = some (.lst ps) ∧ Same H3 H4) (zero D hD) (fun i H4 _ p => p.elim fun _ p => sqT_same p.2.2 hb3) (fun i y H4 hy p => ⟨rfl, yes ((if_pos rfl).mpr ?_)⟩) fun H4 p => ?_⟩
            · obtain ⟨q, ys, rfl, sq, k⟩ := go D hD i y H4 hy p
              exact ⟨_, rfl, q, ys, rfl, sq, k⟩
            · obtain ⟨ps, h1, h2, h3⟩ := fin D H4 p
              exact ⟨D, _, rfl, .inl (SqL.of h1), fun t H5 e5 ht => ⟨_, rfl, x, CM, dx, _, rfl, e5 _ _ (h3 _ _ hx3), TM.cl, TM.n3, (Nat.lt_of_succ_lt (by show 3 < 1000; decide)), last H4 D ps h3 h1 h2 t H5 e5 ht⟩⟩
      | _ => cases i1
end
end K4
/-! machines compared; states, deeds, rows -/
namespace K4
open L2 PySem PySem.Spec PyProof.Rows Kx
theorem dp_rows {K : PySem.W.Frag} {H : Hp} {p : Addr} {vs : List V} {rs : List (List Int)} (hp : SqT K H p vs) (h : RowsBy (SqT K H) vs rs) : Dp K H (.ref p) (dRows rs) := .tup hp (go h) where
  go : ∀ {vs : List V} {rs : List (List Int)}, RowsBy (SqT K H) vs rs → DpAll K H vs (rs.map dNums)
    | [], [], _ => .nil
    | _ :: _, _ :: _, ⟨⟨q, h1, h2⟩, h⟩ => .cons (by rw [h1]; exact dp_nums h2) (go h)
    | [], _ :: _, h => h.elim
    | _ :: _, [], h => h.elim
/-- t == u, tuples of rows -/
def rRowsEq (K : PySem.W.Frag) : R2 := fun x y H Q => ∃ (a b : Addr) (ps qs : List V) (xs ys : List (List Int)), x = .ref a ∧ y = .ref b ∧ SqT K H a ps ∧ SqT K H b qs ∧ RowsBy (SqT K H) ps xs ∧ RowsBy (SqT K H) qs ys ∧ Q (.bl (decide (xs = ys))) H
theorem op_eqRows {X : Cx} (hu : X.A.units + 64 < cLine) : OpR X (compareOp .Eq) (rRowsEq X.K) := by
  intro pins st σ H x y v u Q I rx ry h
  obtain ⟨a, b, ps, qs, xs, ys, rfl, rfl, h1, h2, r1, r2, q⟩ := h
  refine op_eqD hu pins st σ H _ _ v u Q I rx ry ⟨_, _, dp_rows h1 r1, dp_rows h2 r2, shaped_rows xs, shaped_rows ys, ?_⟩
  simp only [PyData.eqv, eqv_rows]
  exact q
def spEqM (K : PySem.W.Frag) (CM : Addr) : Sp := fun vs H Q _ => ∃ m n ts d, vs = [.ref m, .ref d] ∧ McAt K CM H m n ts ∧
  ((∃ n' ts', McAt K CM H d n' ts' ∧ ∀ H', Same H H' → Q (.bl (decide (ts = ts'))) H') ∨ ((∃ xs, SqT K H d xs) ∧ ∀ H', Same H H' → Q (.bl false) H'))
def spRow (K : PySem.W.Frag) (a : Ad) (CM : Addr) : Sp := fun vs H Q E => ∃ m n ts v o, vs = [.ref m, v] ∧ McAt K CM H m n ts ∧ Long K H v o ∧ Kns K H o 400 ∧ (∀ i, rowAt ts.length o = some i → Thrown E H a.cR "at" (.int i)) ∧
  (rowAt ts.length o = none → ∃ b xs, v = .ref b ∧ o = some xs ∧ SqD K H b xs ∧ ∀ p H', Same H H' → TupD H' p xs → Q (.ref p) H')
section
variable {P : Program} {w : World} {K : PySem.W.Frag} {mg : Str → Option Value} {base : Heap} {f : Addr} {fd : FuncData} {a : Ad} {CM : Addr}
theorem ty_mc {H : Hp} {m : Addr} {n : Nat} {ts : List (List Int)} (TM : ClsM K mg CM) (h : McAt K CM H m n ts) : TyX K H (.ref m) (.ref CM) := by
  obtain ⟨_, dx, t, ps, e, _⟩ := h
  exact .base (.ins e TM.cl TM.isi.ca TM.isi.cn TM.isi.ct TM.isi.cm)
theorem sc_eq : FnScope ["self", "other"] ["self", "other"] (defScope s_Machine_eq) := ⟨rfl, rfl, rfl, by decide +kernel, rfl, by decide +kernel, by decide +kernel⟩
theorem ok_eq (F : FunD K "__eq__" "Machine.__eq__" (defArgs s_Machine_eq) (defBody s_Machine_eq) (defScope s_Machine_eq) [] [] f fd) (T : Mg mg) (TM : ClsM K mg CM) : FnOk P w K mg base CX0 1 f fd ["self", "other"] (spEqM K CM) := by
  refine F.ok sc_eq (fun vs H Q E h => ?_) (fun cdv A outer s H vs Q E hr h => ?_)
  · obtain ⟨m, n, ts, d, rfl, _⟩ := h
    rfl
  · obtain ⟨m, n, ts, d, rfl, hm, how⟩ := h
    refine ⟨_, PSs.nox (pss_one (ps_ret (pe_and (pe_callB call_isi (by rfl) T.z_isinstance (by decide +kernel) (pa_cons (pv 1) (pa_cons (pe_glob (v := V.ref CM) rfl TM.at_ rfl) pa_nil))) (pe_one (pe_cmpR (op_eqRows (r64 hr)) (pe_fld (pv 0) rfl) (pe_fld (pv 1) rfl) (nomark _)))))), ?_⟩
    rcases how with ⟨n', ts', hd, k⟩ | ⟨⟨xs, hd⟩, k⟩
    · refine ⟨_, rfl, _, .ref CM, _, _, true, rfl, .own CM, ty_mc TM hd, TM.yes, true, rfl, iteT ?_⟩
      obtain ⟨_, dx, t, ps, c1, c2, c3⟩ := hm
      obtain ⟨_, dx', t', ps', d1, d2, d3⟩ := hd
      exact ⟨_, rfl, m, CM, dx, _, _, rfl, c1, TM.cl, TM.n3, rfl, _, rfl, d, CM, dx', _, _, rfl, d1, TM.cl, TM.n3, rfl, t, t', ps, ps', ts, ts', rfl, rfl, c2, d2, c3, d3, k H (Same.refl H)⟩
    · exact ⟨_, rfl, _, .ref CM, _, _, false, rfl, .own CM, tyx_tuple hd, TM.notT, false, rfl, iteF (k H (Same.refl H))⟩
theorem sc_check_row : FnScope ["machine", "value"] ["machine", "value"] (defScope s_check_row) := ⟨rfl, rfl, rfl, by decide +kernel, rfl, by decide +kernel, by decide +kernel⟩
theorem ok_check_row (F : FnP K "check_row" s_check_row f fd) (T : Mg mg) (TM : ClsM K mg CM) (c_row_of : Cal P w K mg base (L2N.CX P w) 4 "row_of" ["value", "deeds"] (spRowOf K a)) : FnOk P w K mg base (L2N.CX P w) 5 f fd ["machine", "value"] (spRow K a CM) := by
  refine F.ok sc_check_row (fun vs H Q E h => ?_) (fun cdv A outer s H vs Q E hr h => ?_)
  · obtain ⟨m, n, ts, v, o, rfl, _⟩ := h
    rfl
  · obtain ⟨m, n, ts, v, o, rfl, ⟨ok, dx, t, ps, h1, h2, h3⟩, hv, hk, bad, good⟩ := h
    refine ⟨_, (pss_one (ps_ret (pe_callC c_row_of hr (L2N.passes_call (L2N.takes_of rfl rfl rfl rfl) (fun _ _ _ _ z => z)) (pa_cons (pv 1) (pa_cons (pe_fld (pv 0) rfl) pa_nil))))), ?_⟩
    exact ⟨v, rfl, _, rfl, m, CM, dx, _, _, rfl, h1, TM.cl, TM.n1, rfl, v, o, _, rfl, hv, hk, bad, good⟩
end
end K4
/-! counters are made, compared -/
namespace K4
open PySem PySem.Spec PyProof.Rows L2 Kx
/-- rounds and rests that counters may have -/
structure Cok (rs es : List Int) : Prop where
  l1 : 1 ≤ rs.length
  l4 : rs.length ≤ 4
  le : es.length = rs.length
  r : ∀ x ∈ rs, 0 ≤ x ∧ x ≤ 60
  e : ∀ x ∈ es, 0 ≤ x ∧ x ≤ 6
structure CnAt (K : PySem.W.Frag) (C : Addr) (H : Hp) (c : Addr) (rs es : List Int) : Prop where
  ok : Cok rs es
  ex : ∃ dx p q, H c = some (.ins C dx [("rounds", .ref p), ("rests", .ref q)]) ∧ SqT K H p (rs.map V.int) ∧ SqT K H q (es.map V.int)
theorem CnAt.same {K : PySem.W.Frag} {C : Addr} {H H' : Hp} {c : Addr} {rs es : List Int} (e : Same H H') (h : CnAt K C H c rs es) : CnAt K C H' c rs es := by
  obtain ⟨ok, dx, p, q, h1, h2, h3⟩ := h
  exact ⟨ok, dx, p, q, e _ _ h1, sqT_same e h2, sqT_same e h3⟩
/-- what the module holds of such a class -/
structure ClsC (K : PySem.W.Frag) (mg : Str → Option Value) (C : Addr) : Prop where
  at_ : mg "Counters" = some (.ref C)
  cl : Cls K C
  n1 : NoAttr K C "rounds"
  n2 : NoAttr K C "rests"
  isi : SlX.SIsi K C
  yes : PySem.W.kitOne K (.ref C) (.ref C) = some true
  notT : PySem.W.kitOne K (.type "tuple") (.ref C) = some false
  first : PySem.W.notFirst K C (.type "tuple") = true
def roundsOk : Option (List V) → Bool
  | some xs => inLen 1 4 (some xs) && (fnb 61 xs).isNone
  | none => false
theorem roundsOk_some {xs : List V} : roundsOk (some xs) = (inLen 1 4 (some xs) && (fnb 61 xs).isNone) := rfl
def restsOk (k : Nat) : Option (List V) → Bool
  | some ys => ys.isEmpty || (decide (ys.length = k) && (fnb 7 ys).isNone)
  | none => false
theorem restsOk_some {k : Nat} {ys : List V} : restsOk k (some ys) = (ys.isEmpty || (decide (ys.length = k) && (fnb 7 ys).isNone)) := rfl
def spRests (K : PySem.W.Frag) : Sp := fun vs H Q _ => ∃ (v : V) (k : Nat) (o : Option (List V)), vs = [v, .int (k : Int)] ∧ k ≤ 4 ∧ Long K H v o ∧ Kns K H o 4 ∧ ∀ H', Same H H' → Q (.bl (restsOk k o)) H'
def spInit (K : PySem.W.Frag) (a : Ad) (C : Addr) : Sp := fun vs H Q E => ∃ (x dx : Addr) (v1 v2 : V) (o1 o2 : Option (List V)), vs = [.ref x, v1, v2] ∧ H x = some (.ins C dx []) ∧ Long K H v1 o1 ∧ Kns K H o1 4 ∧ Long K H v2 o2 ∧ Kns K H o2 4 ∧
  (roundsOk o1 = false → Thrown E H a.cF "at" v1) ∧ (∀ xs, o1 = some xs → roundsOk o1 = true → restsOk xs.length o2 = false → Thrown E H a.cF "at" v2) ∧
  (∀ rs es, Cok rs es → o1 = some (rs.map V.int) → (o2 = some [] ∧ es = List.replicate rs.length 0 ∨ o2 = some (es.map V.int)) → ∀ H', (∀ b o, b ≠ x → H b = some o → H' b = some o) → CnAt K C H' x rs es → Q .non H')
theorem restsOk_true {k : Nat} {o : Option (List V)} (h : restsOk k o = true) : o = some [] ∨ ∃ es : List Int, o = some (es.map V.int) ∧ es.length = k ∧ ∀ x ∈ es, 0 ≤ x ∧ x ≤ 6 := by
  cases o with
  | none => cases h
  | some ys =>
    rw [restsOk_some, Bool.or_eq_true, Bool.and_eq_true] at h
    rcases h with h | ⟨h1, h2⟩
    · rw [List.isEmpty_iff.mp h]
      exact .inl rfl
    · obtain ⟨es, rfl, he⟩ := fnb_ints (Option.isNone_iff_eq_none.mp h2)
      refine .inr ⟨es, rfl, ?_, fun x hx => ⟨(he x hx).1, by have := (he x hx).2; omega⟩⟩
      have := of_decide_eq_true h1
      rwa [List.length_map] at this
section
variable {P : Program} {w : World} {K : PySem.W.Frag} {mg : Str → Option Value} {base : Heap} {f : Addr} {fd : FuncData} {a : Ad} {C : Addr}
theorem sc__are_rests : FnScope ["value", "kinds"] ["value", "kinds"] (defScope s_are_rests) := ⟨rfl, rfl, rfl, by decide +kernel, rfl, by decide +kernel, by decide +kernel⟩
theorem optV_isN {o : Option Nat} : decide (optV o = V.non) = o.isNone := optV_non
theorem inLen_00 {xs : List V} : inLen 0 0 (some xs) = xs.isEmpty := by
  cases xs with
  | nil => rfl
  | cons x xs =>
    rw [inLen_some, decide_eq_true (by omega), decide_eq_false (by simp only [List.length_cons]; omega)]
    rfl
theorem inLen_kk {k : Nat} {xs : List V} : inLen (k : Int) (k : Int) (some xs) = decide (xs.length = k) := by
  rw [inLen_some, Bool.eq_iff_iff, Bool.and_eq_true, decide_eq_true_eq, decide_eq_true_eq, decide_eq_true_eq]
  omega
theorem ok_are_rests (F : FnP K "_are_rests" s_are_rests f fd) (T : Mg mg) (c_is_sequence : Cal P w K mg base CX0 1 "is_sequence" ["value", "least", "most"] (spSeq K)) (c_first_not_below : Cal P w K mg base CX0 3 "first_not_below" ["values", "limit"] (spFnb K)) :
    FnOk P w K mg base CX0 4 f fd ["value", "kinds"] (spRests K) := by
  refine F.ok sc__are_rests (fun vs H Q E h => ?_) (fun cdv A outer s H vs Q E hr h => ?_)
  · obtain ⟨v, k, o, rfl, _⟩ := h
    rfl
  · obtain ⟨v, k, o, rfl, hk, hv, kn, q⟩ := h
    refine ⟨_, PSs.nox (pss_cons (ps_if (pt_val (pe_callC c_is_sequence hr pass0 (pa_cons (pv 0) (pa_cons pe_int (pa_cons pe_int pa_nil)))))
        (pss_one (ps_ret pe_bl))
        pss_nil)
      (pss_one (ps_ret (pe_and (pe_callC c_is_sequence hr pass0 (pa_cons (pv 0) (pa_cons (pv 1) (pa_cons (pv 1) pa_nil)))) (pe_one (pe_cmpR op_isN (pe_callC c_first_not_below hr pass0 (pa_cons (pv 0) (pa_cons (pe_op op_add (pe_constI T.g_REST_MOST) pe_int) pa_nil))) pe_non (nomark _))))))), ?_⟩
    refine ⟨v, rfl, v, 0, 0, o, rfl, hv, fun H1 e1 => ⟨inLen 0 0 o, rfl, ?_⟩⟩
    cases o with
    | none =>
      refine iteF ?_
      exact ⟨v, rfl, _, rfl, _, rfl, v, _, _, none, rfl, hv.same e1, fun H2 e2 => ⟨_, rfl, iteF (q _ (e1.trans e2))⟩⟩
    | some xs =>
      rw [inLen_00]
      cases hz : xs.isEmpty with
      | true =>
        refine iteT ?_
        have e : restsOk k (some xs) = true := by rw [restsOk_some, hz] <;> rfl
        rw [e] at q
        exact q _ e1
      | false =>
        refine iteF ?_
        have e : restsOk k (some xs) = (decide (xs.length = k) && (fnb 7 xs).isNone) := by rw [restsOk_some, hz] <;> rfl
        rw [e] at q
        refine ⟨v, rfl, _, rfl, _, rfl, v, _, _, some xs, rfl, hv.same e1, fun H2 e2 => ⟨_, rfl, ?_⟩⟩
        rw [inLen_kk]
        cases hl : decide (xs.length = k) with
        | false =>
          rw [hl] at q
          exact iteF (q _ (e1.trans e2))
        | true =>
          rw [hl] at q
          refine iteT ?_
          have e12 := e1.trans e2
          cases hv with
          | seq qs =>
            refine ⟨_, rfl, _, _, rfl, rfl, _, xs, 7, rfl, qs.same e12, fun x hx => (kn _ rfl (by have := of_decide_eq_true hl; omega) x hx).same e12, fun H3 e3 => ⟨rfl, ?_⟩⟩
            have q3 := q _ (e12.trans e3)
            rw [← optV_non] at q3
            exact q3
theorem sc_init : FnScope ["self", "rounds", "rests"] ["self", "rounds", "rests"] (defScope s_Counters_init) := ⟨rfl, rfl, rfl, by decide +kernel, rfl, by decide +kernel, by decide +kernel⟩
theorem ok_init {dvs : List V} (F : FunD K "__init__" "Counters.__init__" (defArgs s_Counters_init) (defBody s_Counters_init) (defScope s_Counters_init) dvs [] f fd) (T : Mg mg) (R : Er P w K mg base a) (TC : ClsC K mg C)
    (c_is_sequence : Cal P w K mg base CX0 1 "is_sequence" ["value", "least", "most"] (spSeq K)) (c_first_not_below : Cal P w K mg base CX0 3 "first_not_below" ["values", "limit"] (spFnb K))
    (c__are_rests : Cal P w K mg base CX0 4 "_are_rests" ["value", "kinds"] (spRests K)) : FnOk P w K mg base (L2N.CX P w) 5 f fd ["self", "rounds", "rests"] (spInit K a C) := by
  refine F.ok sc_init (fun vs H Q E h => ?_) (fun cdv A outer s H vs Q E hr h => ?_)
  · obtain ⟨x, dx, v1, v2, o1, o2, rfl, _⟩ := h
    rfl
  · obtain ⟨x, dx, v1, v2, o1, o2, rfl, hx, h1, k1, h2, k2, bad1, bad2, good⟩ := h
    refine ⟨_, (pss_cons (ps_if (PW.pt (pw_or (pt_not (pt_val (pe_callC c_is_sequence hr pass0 (pa_cons (pv 1) (pa_cons pe_int (pa_cons (pe_constI T.g_DEEDS_MOST) pa_nil)))))) (pw_or1 (pt_cmpR op_notN (pe_callC c_first_not_below hr pass0 (pa_cons (pv 1) (pa_cons (pe_op op_add (pe_constI T.g_ROUND_MOST) pe_int) pa_nil))) pe_non (nomark _)))))
        (pss_one (psN R.Refused rfl hr (L2N.takes_of rfl rfl rfl rfl) (pa_cons (pv 1) pa_nil)))
        pss_nil)
      (pss_cons (ps_if (pt_not (pt_val (pe_callC c__are_rests hr pass0 (pa_cons (pv 2) (pa_cons (pe_callB call_len_seq (by rfl) T.z_len PySem.boot_len (pa_cons (pv 1) pa_nil)) pa_nil)))))
        (pss_one (psN R.Refused rfl hr (L2N.takes_of rfl rfl rfl rfl) (pa_cons (pv 2) pa_nil)))
        pss_nil)
      (PSs.nox (pss_cons (ps_fld (pv 0) (pe_callTy call_tup (by rfl) T.z_tuple (by decide +kernel) (pa_cons (pv 1) pa_nil)) rfl)
      (pss_one (ps_fld (pv 0) (pe_ifExp (pt_truth (pv 2) (by intro _; rfl)) (pe_callTy call_tup (by rfl) T.z_tuple (by decide +kernel) (pa_cons (pv 2) pa_nil)) (pe_op op_times (pe_tup (pa_cons pe_int pa_nil)) (pe_callB call_len_seq (by rfl) T.z_len PySem.boot_len (pa_cons (pv 1) pa_nil)))) rfl)))))), ?_⟩
    refine ⟨v1, rfl, v1, 1, 4, o1, rfl, h1, fun H1 e1 => ⟨inLen 1 4 o1, rfl, ?_⟩⟩
    cases i1 : inLen 1 4 o1 with
    | false =>
      have r1 : roundsOk o1 = false := by
        cases o1 with
        | none => rfl
        | some xs => rw [roundsOk_some, i1] <;> rfl
      exact iteT ⟨v1, rfl, thrownN ((bad1 r1).same e1).at_⟩
    | true =>
      refine iteF ?_
      cases h1 with
      | seq q1 =>
        rename_i b1 xs
        have len : 1 ≤ xs.length ∧ xs.length ≤ 4 := by
          have z := i1
          rw [inLen_some, Bool.and_eq_true] at z
          have := of_decide_eq_true z.1
          have := of_decide_eq_true z.2
          omega
        refine ⟨_, rfl, _, _, rfl, rfl, b1, xs, 61, rfl, q1.same e1, fun x hx => (k1 _ rfl len.2 x hx).same e1, fun H2 e2 => ⟨rfl, !(fnb 61 xs).isNone, ?_, ?_⟩⟩
        · rw [← optV_non]
        · have e12 := e1.trans e2
          cases ef : (fnb 61 xs).isNone with
          | false =>
            have r1 : roundsOk (some xs) = false := by rw [roundsOk_some, i1, ef] <;> rfl
            exact iteT ⟨_, rfl, thrownN ((bad1 r1).same e12).at_⟩
          | true =>
            have r1 : roundsOk (some xs) = true := by rw [roundsOk_some, i1, ef] <;> rfl
            refine iteF ?_
            refine ⟨v2, rfl, _, rfl, _, xs, rfl, q1.same e12, v2, xs.length, o2, rfl, len.2, h2.same e12, fun ys q l x hx => (k2 ys q l x hx).same e12, fun H3 e3 => ⟨restsOk xs.length o2, rfl, ?_⟩⟩
            have e13 := e12.trans e3
            cases r2 : restsOk xs.length o2 with
            | false => exact iteT ⟨v2, rfl, thrownN ((bad2 xs rfl r1 r2).same e13).at_⟩
            | true =>
              refine iteF ?_
              obtain ⟨rs, rfl, hrs⟩ := fnb_ints (Option.isNone_iff_eq_none.mp ef)
              have q1' := q1.same e13
              have hx' := e13 _ _ hx
              have fin : ∀ (p q : Addr) (es : List Int) (Hz : Hp), Cok rs es → (o2 = some [] ∧ es = List.replicate rs.length 0 ∨ o2 = some (es.map V.int)) → (∀ b o, b ≠ x → H b = some o → Hz b = some o) → SqT K Hz p (rs.map V.int) → SqT K Hz q (es.map V.int) → Hz x = some (.ins C dx [("rounds", .ref p), ("rests", .ref q)]) → Q .non Hz := fun p q es Hz ok2 ho keep hp hq hz =>
                good rs es ok2 rfl ho Hz keep ⟨ok2, dx, p, q, hz, hp, hq⟩
              refine ⟨_, rfl, b1, _, rfl, q1', fun p H4 e4 hp => ?_⟩
              have e14 := e13.trans e4
              refine ⟨_, rfl, x, C, dx, _, rfl, e14 _ _ hx, TC.cl, TC.n1, (by decide), ?_⟩
              have hx4 := e14 _ _ hx
              generalize eH : upd H4 x (.ins C dx (putF "rounds" (.ref p) [])) = H5
              have hx5 : H5 x = some (.ins C dx [("rounds", .ref p)]) := by rw [← eH]; exact upd_same
              have q15 : Sq K H5 b1 (rs.map V.int) := by rw [← eH]; exact sq_ins hx4 (q1.same e14)
              have p5 : SqT K H5 p (rs.map V.int) := by rw [← eH]; exact sqT_ins hx4 hp
              have keep5 : ∀ b o, b ≠ x → H b = some o → H5 b = some o := fun b o ne hb => by rw [← eH, upd_ne ne]; exact e14 _ _ hb
              obtain ⟨b2, ys, rfl, rfl, q2⟩ : ∃ b2 ys, v2 = .ref b2 ∧ o2 = some ys ∧ Sq K H b2 ys := by
                cases h2 with
                | seq q => exact ⟨_, _, rfl, rfl, q⟩
                | _ => cases r2
              have q25 : Sq K H5 b2 ys := by rw [← eH]; exact sq_ins hx4 (q2.same e14)
              have last : ∀ (q : Addr) (es : List Int) (H7 : Hp), Same H5 H7 → SqT K H7 q (es.map V.int) → Cok rs es → (some ys = some [] ∧ es = List.replicate rs.length 0 ∨ some ys = some (es.map V.int)) → Q .non (upd H7 x (.ins C dx (putF "rests" (.ref q) [("rounds", .ref p)]))) := fun q es H7 e7 hq ok2 ho =>
                fin p q es _ ok2 ho (fun b o ne hb => by rw [upd_ne ne]; exact e7 _ _ (keep5 b o ne hb)) (sqT_ins (e7 _ _ hx5) (sqT_same e7 p5)) (sqT_ins (e7 _ _ hx5) hq) upd_same
              have lrs : 1 ≤ rs.length ∧ rs.length ≤ 4 := by rw [List.length_map] at len; exact len
              have brs : ∀ n ∈ rs, 0 ≤ n ∧ n ≤ 60 := fun n hn => ⟨(hrs n hn).1, by have := (hrs n hn).2; omega⟩
              refine ⟨_, rfl, _, tru_sq q25, ?_⟩
              rcases restsOk_true r2 with e | ⟨es, e, le, be⟩
              · cases e
                refine iteF ⟨(by show 1 ≤ sizeLine; decide), fun t ht => ?_⟩
                have e6 := same_new (o := HO.tup [.int 0]) ht
                refine ⟨_, rfl, b1, _, rfl, q15.same e6, ?_⟩
                refine ⟨t, rs.length, [.int 0], rfl, by rw [List.length_map], SqT.of upd_same, (by simp), by omega, (by decide), fun q H7 e7 hq => ?_⟩
                have e57 := e6.trans e7
                refine ⟨_, rfl, x, C, dx, _, rfl, e57 _ _ hx5, TC.cl, TC.n2, (Nat.lt_of_succ_lt (by show 2 < 1000; decide)), ?_⟩
                refine last q (List.replicate rs.length 0) H7 e57 ?_ ⟨lrs.1, lrs.2, List.length_replicate, brs, fun n hn => by rw [List.eq_of_mem_replicate hn]; decide⟩ (.inl ⟨rfl, rfl⟩)
                have e8 : (List.replicate rs.length [V.int 0]).flatten = (List.replicate rs.length (0 : Int)).map V.int := by rw [List.map_replicate, List.flatten_replicate_singleton]
                rw [e8] at hq
                exact hq
              · cases e
                have ne : (!(es.map V.int).isEmpty) = true := by
                  cases es with
                  | nil => simp at le; omega
                  | cons _ _ => rfl
                rw [ne]
                refine iteT ⟨_, rfl, b2, _, rfl, q25, fun q H7 e7 hq => ?_⟩
                refine ⟨_, rfl, x, C, dx, _, rfl, e7 _ _ hx5, TC.cl, TC.n2, (Nat.lt_of_succ_lt (by show 2 < 1000; decide)), ?_⟩
                rw [List.length_map] at le
                exact last q es H7 e7 hq ⟨lrs.1, lrs.2, le, brs, be⟩ (.inr rfl)
      | non => cases i1
      | bl _ => cases i1
      | int _ => cases i1
      | str _ => cases i1
/-- own ==: of other counters, of a tuple -/
def spEqC (K : PySem.W.Frag) (C : Addr) : Sp := fun vs H Q _ => ∃ c rs es d, vs = [.ref c, .ref d] ∧ CnAt K C H c rs es ∧
  ((∃ rs' es', CnAt K C H d rs' es' ∧ ∀ H', Same H H' → Q (.bl (decide (rs = rs' ∧ es = es'))) H') ∨ ((∃ xs, SqT K H d xs) ∧ ∀ H', Same H H' → Q (.bl false) H'))
theorem ty_cn {H : Hp} {c : Addr} {rs es : List Int} (TC : ClsC K mg C) (h : CnAt K C H c rs es) : TyX K H (.ref c) (.ref C) := by
  obtain ⟨_, dx, p, q, e, _⟩ := h
  exact .base (.ins e TC.cl TC.isi.ca TC.isi.cn TC.isi.ct TC.isi.cm)
theorem sc_eqC : FnScope ["self", "other"] ["self", "other"] (defScope s_Counters_eq) := ⟨rfl, rfl, rfl, by decide +kernel, rfl, by decide +kernel, by decide +kernel⟩
theorem ok_eqC (F : FunD K "__eq__" "Counters.__eq__" (defArgs s_Counters_eq) (defBody s_Counters_eq) (defScope s_Counters_eq) [] [] f fd) (T : Mg mg) (TC : ClsC K mg C) : FnOk P w K mg base CX0 1 f fd ["self", "other"] (spEqC K C) := by
  refine F.ok sc_eqC (fun vs H Q E h => ?_) (fun cdv A outer s H vs Q E hr h => ?_)
  · obtain ⟨c, rs, es, d, rfl, _⟩ := h
    rfl
  · obtain ⟨c, rs, es, d, rfl, hc, how⟩ := h
    refine ⟨_, PSs.nox (pss_one (ps_ret (pe_and (pe_callB call_isi (by rfl) T.z_isinstance (by decide +kernel) (pa_cons (pv 1) (pa_cons (pe_glob (v := V.ref C) rfl TC.at_ rfl) pa_nil))) (pe_and (pe_cmpR (op_eqNums (r64 hr)) (pe_fld (pv 0) rfl) (pe_fld (pv 1) rfl) (nomark _)) (pe_one (pe_cmpR (op_eqNums (r64 hr)) (pe_fld (pv 0) rfl) (pe_fld (pv 1) rfl) (nomark _))))))), ?_⟩
    rcases how with ⟨rs', es', hd, k⟩ | ⟨⟨xs, hd⟩, k⟩
    · refine ⟨_, rfl, _, .ref C, _, _, true, rfl, .own C, ty_cn TC hd, TC.yes, true, rfl, iteT ?_⟩
      obtain ⟨_, dx, p, q, c1, c2, c3⟩ := hc
      obtain ⟨_, dx', p', q', d1, d2, d3⟩ := hd
      refine ⟨_, rfl, c, C, dx, _, _, rfl, c1, TC.cl, TC.n1, rfl, _, rfl, d, C, dx', _, _, rfl, d1, TC.cl, TC.n1, rfl, p, p', rs, rs', rfl, rfl, c2, d2, _, rfl, ?_⟩
      have k := k H (Same.refl H)
      refine ite2 (fun h => ?_) (fun h => ?_)
      · have e : rs = rs' := by simpa using h
        refine ⟨_, rfl, c, C, dx, _, _, rfl, c1, TC.cl, TC.n2, rfl, _, rfl, d, C, dx', _, _, rfl, d1, TC.cl, TC.n2, rfl, q, q', es, es', rfl, rfl, c3, d3, ?_⟩
        have e2 : (false != decide (es = es')) = decide (rs = rs' ∧ es = es') := by rw [Bool.false_bne, Bool.eq_iff_iff]; simp [e]
        rw [← e2] at k
        exact k
      · have e : ¬ rs = rs' := by simpa using h
        have e2 : decide (rs = rs' ∧ es = es') = false := decide_eq_false fun z => e z.1
        rw [e2] at k
        exact k
    · exact ⟨_, rfl, _, .ref C, _, _, false, rfl, .own C, tyx_tuple hd, TC.notT, false, rfl, iteF (k H (Same.refl H))⟩
end
end K4
/-! showings of any value, the showing one deed later -/
namespace K4
open PySem PySem.Spec PyProof.Rows L2 Kx
theorem Cok.at_ {rs es : List Int} (h : Cok rs es) {i : Nat} (hi : i < rs.length) : rs[i]? = some (rs.getD i 0) ∧ es[i]? = some (es.getD i 0) ∧ 0 ≤ rs.getD i 0 ∧ rs.getD i 0 ≤ 60 ∧ 0 ≤ es.getD i 0 ∧ es.getD i 0 ≤ 6 := by
  have he : i < es.length := by rw [h.le]; exact hi
  have a1 : rs[i]? = some (rs.getD i 0) := by rw [List.getD_eq_getElem?_getD, List.getElem?_eq_getElem hi] <;> rfl
  have a2 : es[i]? = some (es.getD i 0) := by rw [List.getD_eq_getElem?_getD, List.getElem?_eq_getElem he] <;> rfl
  have b1 := h.r _ (List.mem_of_getElem? a1)
  have b2 := h.e _ (List.mem_of_getElem? a2)
  exact ⟨a1, a2, b1.1, b1.2, b2.1, b2.2⟩
def canShow (r e : Int) (v : V) : Bool := if r = 0 then isNum v else isBel (e + r) v
def spCanShow (K : PySem.W.Frag) (C : Addr) : Sp := fun vs H Q _ => ∃ c rs es, ∃ i : Nat, ∃ v r e, vs = [.ref c, .int (i : Int), v] ∧ CnAt K C H c rs es ∧ Kn K H v ∧ rs[i]? = some r ∧ es[i]? = some e ∧ Q (.bl (canShow r e v)) H
/-- all items can be shown -/
def AllShow (rs es : List Int) (xs : List V) : Prop := ∀ j x, xs[j]? = some x → canShow (rs.getD j 0) (es.getD j 0) x = true
/-- item i is the first that can't be shown -/
def FirstWrong (rs es : List Int) (xs : List V) (i : Nat) : Prop := (∀ j x, j < i → xs[j]? = some x → canShow (rs.getD j 0) (es.getD j 0) x = true) ∧ ∃ x, xs[i]? = some x ∧ canShow (rs.getD i 0) (es.getD i 0) x = false
/-- what is asked of a value that is to be a showing -/
structure ShowArg (K : PySem.W.Frag) (a : Ad) (H : Hp) (E : XK) (rs es : List Int) (v : V) (o : Option (List V)) : Prop where
  long : Long K H v o
  kn : ∀ xs, o = some xs → xs.length = rs.length → ∀ x ∈ xs, Kn K H x
  far : (o = none ∨ ∃ xs, o = some xs ∧ xs.length ≠ rs.length) → Thrown E H a.cS "at" (.int (-1))
  near : ∀ xs i, o = some xs → xs.length = rs.length → FirstWrong rs es xs i → Thrown E H a.cS "at" (.int (i : Int))
def spCheck (K : PySem.W.Frag) (a : Ad) (C : Addr) : Sp := fun vs H Q E => ∃ c rs es v o, vs = [.ref c, v] ∧ CnAt K C H c rs es ∧ ShowArg K a H E rs es v o ∧
  ∀ xs, o = some xs → xs.length = rs.length → AllShow rs es xs → ∀ p H', Same H H' → SqT K H' p xs → Q (.ref p) H'
theorem canShow_int {r e : Int} {v : V} (h : canShow r e v = true) : ∃ n, v = .int n ∧ 0 ≤ n := by
  unfold canShow at h
  by_cases z : r = 0
  · rw [if_pos z] at h
    cases v with
    | int n => exact ⟨n, rfl, of_decide_eq_true h⟩
    | _ => cases h
  · rw [if_neg z] at h
    cases v with
    | int n =>
      have h : (decide (0 ≤ n) && decide (n < e + r)) = true := h
      rw [Bool.and_eq_true] at h
      exact ⟨n, rfl, of_decide_eq_true h.1⟩
    | _ => cases h
theorem all_ints : ∀ {xs : List V}, (∀ (j : Nat) (x : V), xs[j]? = some x → ∃ n, x = V.int n ∧ 0 ≤ n) → ∃ ns : List Int, xs = ns.map V.int ∧ ∀ n ∈ ns, 0 ≤ n
  | [], _ => ⟨[], rfl, fun _ h => nomatch h⟩
  | x :: xs, h => by
    obtain ⟨n, rfl, hn⟩ := h 0 x rfl
    obtain ⟨ns, rfl, hns⟩ := all_ints (xs := xs) fun j y hy => h (j + 1) y (by simpa using hy)
    exact ⟨n :: ns, rfl, fun m hm => (List.mem_cons.mp hm).elim (fun e => e ▸ hn) (hns m)⟩
section
variable {P : Program} {w : World} {K : PySem.W.Frag} {mg : Str → Option Value} {base : Heap} {f : Addr} {fd : FuncData} {a : Ad} {C CM : Addr}
theorem sc_can_show : FnScope ["counters", "kind", "value", "turn"] ["counters", "kind", "value"] (defScope s_can_show) := ⟨rfl, rfl, rfl, by decide +kernel, rfl, by decide +kernel, by decide +kernel⟩
theorem ok_can_show (F : FnP K "_can_show" s_can_show f fd) (T : Mg mg) (TC : ClsC K mg C) (c_is_number : Cal P w K mg base CX0 1 "is_number" ["value"] (spNumber K)) (c_is_below : Cal P w K mg base CX0 2 "is_below" ["value", "limit"] (spBelow K)) :
    FnOk P w K mg base CX0 3 f fd ["counters", "kind", "value"] (spCanShow K C) := by
  refine F.ok sc_can_show (fun vs H Q E h => ?_) (fun cdv A outer s H vs Q E hr h => ?_)
  · obtain ⟨c, rs, es, i, v, r, e, rfl, _⟩ := h
    rfl
  · obtain ⟨c, rs, es, i, v, r, e, rfl, ⟨ok, dx, p, q, h1, h2, h3⟩, hv, hr', he, k⟩ := h
    refine ⟨_, PSs.nox (pss_cons (ps_set (i := 3) sc_can_show.nd rfl (by first | exact Or.inl rfl | exact Or.inr rfl) (pe_ix ix_tup (pe_fld (pv 0) rfl) (pv 1) (fun _ _ => rfl)))
      (pss_cons (ps_if (pt_cmpR op_eq (pv 3) pe_int (nomark _))
        (pss_one (ps_ret (pe_callC c_is_number hr pass0 (pa_cons (pv 2) pa_nil))))
        pss_nil)
      (pss_one (ps_ret (pe_callC c_is_below hr pass0 (pa_cons (pv 2) (pa_cons (pe_op op_add (pe_ix ix_tup (pe_fld (pv 0) rfl) (pv 1) (fun _ _ => rfl)) (pv 3)) pa_nil))))))), ?_⟩
    have hr2 : (rs.map V.int)[i]? = some (.int r) := by rw [List.getElem?_map, hr']; rfl
    have he2 : (es.map V.int)[i]? = some (.int e) := by rw [List.getElem?_map, he]; rfl
    refine ⟨_, rfl, c, C, dx, _, _, rfl, h1, TC.cl, TC.n1, rfl, _, rfl, p, _, _, _, rfl, rfl, h2, atI_nat hr2, ?_⟩
    refine ⟨_, rfl, rfl, _, rfl, ?_⟩
    refine ite2 (fun h => ?_) (fun h => ?_)
    · have z : canShow r e v = isNum v := if_pos (by simpa using h)
      rw [z] at k
      exact ⟨v, rfl, v, rfl, hv, k⟩
    · have z : canShow r e v = isBel (e + r) v := if_neg (by simpa using h)
      rw [z] at k
      exact ⟨v, rfl, _, rfl, c, C, dx, _, _, rfl, h1, TC.cl, TC.n2, rfl, _, rfl, q, _, _, _, rfl, rfl, h3, atI_nat he2, _, rfl, _, _, rfl, rfl, v, _, rfl, hv, k⟩
theorem sc_check : FnScope ["counters", "value", "kinds", "kind", "item"] ["counters", "value"] (defScope s_check_showing) := ⟨rfl, rfl, rfl, by decide +kernel, rfl, by decide +kernel, by decide +kernel⟩
theorem ok_check (F : FnP K "check_showing" s_check_showing f fd) (T : Mg mg) (R : Er P w K mg base a) (TC : ClsC K mg C) (c_is_sequence : Cal P w K mg base CX0 1 "is_sequence" ["value", "least", "most"] (spSeq K))
    (c__can_show : Cal P w K mg base CX0 3 "_can_show" ["counters", "kind", "value"] (spCanShow K C)) : FnOk P w K mg base (L2N.CX P w) 4 f fd ["counters", "value"] (spCheck K a C) := by
  refine F.ok sc_check (fun vs H Q E h => ?_) (fun cdv A outer s H vs Q E hr h => ?_)
  · obtain ⟨c, rs, es, v, o, rfl, _⟩ := h
    rfl
  · obtain ⟨c, rs, es, v, o, rfl, hc, sa, good⟩ := h
    obtain ⟨ok, dx, p, q, h1, h2, h3⟩ := id hc
    refine ⟨_, (pss_cons (ps_set (i := 2) sc_check.nd rfl (by first | exact Or.inl rfl | exact Or.inr rfl) (pe_callB call_len_seq (by rfl) T.z_len PySem.boot_len (pa_cons (pe_fld (pv 0) rfl) pa_nil)))
      (pss_cons (ps_if (pt_not (pt_val (pe_callC c_is_sequence hr pass0 (pa_cons (pv 1) (pa_cons (pv 2) (pa_cons (pv 2) pa_nil))))))
        (pss_one (psN R.BadShowing rfl hr (L2N.takes_of rfl rfl rfl rfl) (pa_cons (pe_un un_neg pe_int) pa_nil)))
        pss_nil)
      (pss_cons (ps_for (passes_of rfl) rfl (pi_pairs (by rfl) T.z_enumerate (pa_cons (pv 1) pa_nil)) (pg_tup rfl (pgs_cons (pg_name (i := 3) sc_check.nd rfl (by first | exact Or.inl rfl | exact Or.inr rfl)) (pgs_cons (pg_name (i := 4) sc_check.nd rfl (by first | exact Or.inl rfl | exact Or.inr rfl)) pgs_nil)))
        (pss_one (ps_if (pt_not (pt_val (pe_callC c__can_show hr pass0 (pa_cons (pv 0) (pa_cons (pv 3) (pa_cons (pv 4) pa_nil))))))
          (pss_one (psN R.BadShowing rfl hr (L2N.takes_of rfl rfl rfl rfl) (pa_cons (pv 3) pa_nil)))
          pss_nil)))
      (pss_one (ps_ret (pe_callTy call_tup (by rfl) T.z_tuple (by decide +kernel) (pa_cons (pv 1) pa_nil))))))), ?_⟩
    refine ⟨_, rfl, c, C, dx, _, _, rfl, h1, TC.cl, TC.n1, rfl, p, _, rfl, .inr h2, ?_⟩
    rw [List.length_map]
    refine ⟨v, rfl, _, rfl, _, rfl, v, _, _, o, rfl, sa.long, fun H1 e1 => ⟨inLen rs.length rs.length o, rfl, ?_⟩⟩
    cases ei : inLen rs.length rs.length o with
    | false =>
      refine iteT ⟨1, rfl, thrownN ((sa.far ?_).same e1).at_⟩
      cases o with
      | none => exact .inl rfl
      | some xs =>
        rw [inLen_kk] at ei
        exact .inr ⟨xs, rfl, of_decide_eq_false ei⟩
    | true =>
      refine iteF ?_
      obtain ⟨long, kn, far, near⟩ := sa
      cases long with
      | seq hx =>
        rename_i b xs
        rw [inLen_kk] at ei
        have hl := of_decide_eq_true ei
        refine ⟨_, rfl, b, xs, rfl, for_pairs (hx.same e1) (fun i σ' H' => ∃ x y, σ' = [some (.ref c), some (.ref b), some (.int rs.length), x, y] ∧ Same H H' ∧ Same H1 H' ∧ ∀ j z, j < i → xs[j]? = some z → canShow (rs.getD j 0) (es.getD j 0) z = true) ⟨_, _, rfl, e1, Same.refl _, fun j z hj => absurd hj (Nat.not_lt_zero j)⟩ (fun i σ' H' q => q.elim fun _ q => q.elim fun _ q => q.2.2.1) ?_ ?_⟩
        · rintro i x t σ' H' hx' ⟨_, _, rfl, e, e', hs⟩ ht
          have hi : i < rs.length := by have := (List.getElem?_eq_some_iff.mp hx').1; omega
          obtain ⟨a1, a2, _⟩ := ok.at_ hi
          refine ⟨t, _, rfl, SqT.of upd_same, rfl, ?_⟩
          refine ⟨_, _, rfl, _, _, rfl, rfl, ?_⟩
          have e2 := e.trans (same_new (o := HO.tup [.int (i : Int), x]) ht)
          refine ⟨_, rfl, _, rfl, x, rfl, c, rs, es, i, x, _, _, rfl, hc.same e2, (kn xs rfl hl x (List.mem_of_getElem? hx')).same e2, a1, a2, _, rfl, ?_⟩
          cases eb : canShow (rs.getD i 0) (es.getD i 0) x with
          | false => exact iteT ⟨_, rfl, thrownN ((near xs i rfl hl ⟨hs, x, hx', eb⟩).same e2).at_⟩
          | true =>
            refine iteF ⟨_, _, rfl, e2, e'.trans (same_new ht), fun j z hj hz => ?_⟩
            rcases Nat.lt_or_eq_of_le (Nat.le_of_lt_succ hj) with h | rfl
            · exact hs j z h hz
            · rw [hx'] at hz
              cases hz
              exact eb
        · rintro σ' H' ⟨_, _, rfl, e, e', hs⟩
          exact ⟨_, rfl, b, xs, rfl, hx.same e, fun t H4 e4 ht => good xs rfl hl (fun j z hz => hs j z (List.getElem?_eq_some_iff.mp hz).1 hz) t H4 (e.trans e4) ht⟩
      | non => cases ei
      | bl _ => cases ei
      | int _ => cases ei
      | str _ => cases ei
end
end K4
/-! how long the texts of data are; a word between two statements; parts of lists -/
namespace Kx
open L2 PySem PySem.Spec PyProof.Rows
/-- behind a statement a word of one's own -/
theorem ps_mid {X : Cx} {st : Stmt} {t : TS} (h : PS X st t) : PS X st fun E σ H => ∃ N : L2.St → Hp → Prop, t { E with nx := N } σ H ∧ ∀ σ' H', N σ' H' → E.nx σ' H' := by
  refine ⟨fun pins s σ H E I ⟨N, q, k⟩ => wpAny_mono (h.run pins s σ H { E with nx := N } I q) (fun f s' z => ?_) fun _ _ z => z⟩
  match f, z with
  | .next, ⟨σ', H', J, n⟩ => exact ⟨σ', H', J, k σ' H' n⟩
  | .brk, z => exact z
  | .cont, z => exact z
  | .ret _, z => exact z
theorem ends_nx {E : Ends} {N : L2.St → Hp → Prop} : ({ E with nx := N } : Ends).nx = N := rfl
section
variable {xs : List V} {i : Nat}
theorem cut_to (h : i ≤ xs.length) : cutV xs none (some (i : Int)) = xs.take i := by
  unfold cutV
  rw [HT.sIx_none, HT.sIx_nat, List.drop_zero, Nat.sub_zero, Nat.min_eq_left h]
theorem cut_from (h : i ≤ xs.length) : cutV xs (some (i : Int)) none = xs.drop i := by
  unfold cutV
  rw [HT.sIx_none, HT.sIx_nat, Nat.min_eq_left h]
  exact List.take_of_length_le (by rw [List.length_drop]; exact Nat.le_refl _)
end
/-- d shows, within m levels, as a text of at most L signs -/
structure OkD (m L : Nat) (d : PyData) : Prop where
  sh : d.showable = true
  nd : d.hasDict = false
  deep : d.depth ≤ m
  fit : d.shown.length ≤ L
structure OkA (m L : Nat) (ds : List PyData) : Prop where
  sh : PyData.showableAll ds = true
  nd : PyData.hasDictAll ds = false
  deep : PyData.depthAll ds ≤ m
  fit : piled (PyData.shownAll ds) ≤ L
theorem OkD.mono {m n L M : Nat} {d : PyData} (h : OkD m L d) (h1 : m ≤ n) (h2 : L ≤ M) : OkD n M d := ⟨h.sh, h.nd, Nat.le_trans h.deep h1, Nat.le_trans h.fit h2⟩
theorem OkA.mono {m n L M : Nat} {d : List PyData} (h : OkA m L d) (h1 : m ≤ n) (h2 : L ≤ M) : OkA n M d := ⟨h.sh, h.nd, Nat.le_trans h.deep h1, Nat.le_trans h.fit h2⟩
theorem okD_int {i : Int} (h : i.natAbs < 2 ^ 200) : OkD 0 1921 (.int i) := by
  have lg : i.natAbs.log2 < 1920 := by
    by_cases z : i.natAbs = 0
    · rw [z]
      decide
    · exact (Nat.log2_lt z).mpr (Nat.lt_of_lt_of_le h (Nat.pow_le_pow_right (by decide) (by decide)))
  refine ⟨?_, by simp only [PyData.hasDict], by simp only [PyData.depth]; exact Nat.le_refl _, ?_⟩
  · simp only [PyData.showable]
    exact decide_eq_true lg
  · simp only [PyData.shown]
    exact int_text_len_1921 lg
theorem okD_small {i : Int} (h : -1000000 ≤ i ∧ i ≤ 1000000) : OkD 0 1921 (.int i) := okD_int (Nat.lt_of_lt_of_le (show i.natAbs < 2 ^ 20 by omega) (Nat.pow_le_pow_right (by decide) (by decide)))
theorem okD_non : OkD 0 4 .none := ⟨rfl, by simp only [PyData.hasDict], by simp only [PyData.depth]; exact Nat.le_refl _, by decide +kernel⟩
theorem okD_bl (b : Bool) : OkD 0 5 (.bool b) := ⟨rfl, by simp only [PyData.hasDict], by simp only [PyData.depth]; exact Nat.le_refl _, by cases b <;> decide +kernel⟩
theorem okD_str {z : Str} {L : Nat} (h : (reprText z).length ≤ L) : OkD 0 L (.str z) := ⟨rfl, by simp only [PyData.hasDict], by simp only [PyData.depth]; exact Nat.le_refl _, by simp only [PyData.shown]; exact h⟩
theorem okA_nil {m : Nat} : OkA m 0 [] := ⟨by simp only [PyData.showableAll], by simp only [PyData.hasDictAll], by simp only [PyData.depthAll]; exact Nat.zero_le _, by simp only [PyData.shownAll]; exact Nat.le_refl _⟩
theorem okA_cons {m L M : Nat} {d : PyData} {ds : List PyData} (h : OkD m L d) (k : OkA m M ds) : OkA m (L + 2 + M) (d :: ds) := by
  refine ⟨?_, ?_, ?_, ?_⟩
  · simp only [PyData.showableAll, h.sh, k.sh, Bool.and_self]
  · simp only [PyData.hasDictAll, h.nd, k.nd, Bool.or_self]
  · simp only [PyData.depthAll]
    exact Nat.max_le.mpr ⟨h.deep, k.deep⟩
  · simp only [PyData.shownAll]
    rw [piled_cons]
    have := h.fit
    have := k.fit
    omega
theorem textFrom_most : ∀ (ts : List Str) (k : Nat) (acc : Str), (textFrom k acc ts).length ≤ acc.length + piled ts
  | [], k, acc => Nat.le_refl _
  | t :: r, k, acc => by
    have ih := textFrom_most r (k + 1) (acc ++ (if k > 0 then ", " else "" : String) ++ t)
    rw [strLen_append, strLen_append] at ih
    have e : (((if k > 0 then ", " else "" : String) : Str)).length ≤ 2 := by split <;> decide
    rw [piled_cons]
    change (textFrom (k + 1) _ r).length ≤ _
    omega
theorem okD_list {m L : Nat} {ds : List PyData} (h : OkA m L ds) : OkD (m + 1) (L + 4) (.list ds) := by
  refine ⟨by simp only [PyData.showable]; exact h.sh, by simp only [PyData.hasDict]; exact h.nd, by simp only [PyData.depth]; exact Nat.succ_le_succ h.deep, ?_⟩
  simp only [PyData.shown]
  unfold listText
  have := textFrom_most (PyData.shownAll ds) 0 "["
  have e1 : (("[" : String) : Str).length = 1 := rfl
  have e2 : (("]" : String) : Str).length = 1 := rfl
  have := h.fit
  rw [strLen_append, e2]
  have e3 : (Str.ofString "[").length = 1 := rfl
  omega
theorem okD_tuple {m L : Nat} {ds : List PyData} (h : OkA m L ds) : OkD (m + 1) (L + 4) (.tuple ds) := by
  refine ⟨by simp only [PyData.showable]; exact h.sh, by simp only [PyData.hasDict]; exact h.nd, by simp only [PyData.depth]; exact Nat.succ_le_succ h.deep, ?_⟩
  simp only [PyData.shown]
  unfold tupleText
  have e1 : (("(" : String) : Str).length = 1 := rfl
  have e3 : (((if (PyData.shownAll ds).length == 1 then ",)" else ")" : String) : Str)).length ≤ 2 := by split <;> decide
  have := h.fit
  simp only [strLen_append, e1]
  by_cases z : PyData.shownAll ds = []
  · have e4 : (Str.join ", " (PyData.shownAll ds)).length = 0 := by rw [z]; rfl
    omega
  · have := join_length_add _ z
    omega
theorem okA_ints : ∀ {ns : List Int}, (∀ n ∈ ns, -1000000 ≤ n ∧ n ≤ 1000000) → OkA 0 (1923 * ns.length) (ns.map PyData.int)
  | [], _ => okA_nil
  | n :: ns, h => (okA_cons (okD_small (h n List.mem_cons_self)) (okA_ints fun x hx => h x (List.mem_cons_of_mem _ hx))).mono (Nat.le_refl _) (by rw [List.length_cons]; omega)
theorem okD_nums {ns : List Int} (h : ∀ n ∈ ns, -1000000 ≤ n ∧ n ≤ 1000000) (l : ns.length ≤ 8) : OkD 1 15400 (dNums ns) := (okD_tuple (okA_ints h)).mono (Nat.le_refl _) (by omega)
theorem okA_rows : ∀ {rs : List (List Int)}, (∀ r ∈ rs, r.length ≤ 8 ∧ ∀ n ∈ r, -1000000 ≤ n ∧ n ≤ 1000000) → OkA 1 (15402 * rs.length) (rs.map dNums)
  | [], _ => okA_nil
  | r :: rs, h => (okA_cons (okD_nums (h r List.mem_cons_self).2 (h r List.mem_cons_self).1) (okA_rows fun x hx => h x (List.mem_cons_of_mem _ hx))).mono (Nat.le_refl _) (by rw [List.length_cons]; omega)
theorem okD_rows {rs : List (List Int)} (h : ∀ r ∈ rs, r.length ≤ 8 ∧ ∀ n ∈ r, -1000000 ≤ n ∧ n ≤ 1000000) (l : rs.length ≤ 1000) : OkD 2 15402004 (dRows rs) := (okD_tuple (okA_rows h)).mono (Nat.le_refl _) (by omega)
end Kx
/-! sep.join(reversed(a list)); what is never run. -/
namespace Kx
open PySem PySem.Spec PyProof.Rows L2 RT MpR
section
variable {prog : Program} {w : World} {A : Around} {E : Value → Shared → Prop} {s : Shared}
theorem join_rev {x : Str} {t : Tok} {it l : Addr} {items : Array Value} {ys : List Str} {Q : Value → Shared → Prop} (hh : A.handled = none) (hit : s.heap.IsRevIter it l ((items.size : Int) - 1)) (hl : s.heap.IsList l items) (hne : l ≠ it) (hn : items.size ≤ sizeLine)
    (hP : ∀ acc : Array Value, ItemsOf (fun i v => items[items.size - 1 - i]? = some v) acc items.size → StrsAre acc.toList ys) (hok : (ys.map (·.length)).sum + ys.length * x.length ≤ 16777216)
    (hq : ∀ h' t' k, (∀ b o, b ≠ it → s.heap.get? b = some o → h'.get? b = some o) → Q (.str (Txt.join x ys) t') { s with heap := h', toks := k }) : wpAny (model prog w) A (call (.builtin "str.join") [.str x t, .ref it]) Q E s := by
  have hh1 : A.in1.handled = none := hh
  refine wpAny_call (codeAny_call_builtin F.slot_str_join.plain F.entry_str_join (F.slot_str_join.check _ _ _ _ _ _ _ _ (typeIs_str _ _ _) (F.args_str_join_2 _ _) ?_))
  rw [join_tree_other]
  refine wpAny_bind (wpAny_typeOf hit.typeIs ?_)
  show wpAny _ A.in1 ((pyIter (.ref it)).tryCatch _ >>= fun it => collect it >>= fun items => joinTail x items) _ _ s
  refine wpAny_bind (wpAny_tryCatch (wpAny_pyIter_revIter hit ?_))
  refine wpAny_bind (collect_rev hh1 hit hl hne hn fun h' tk acc hk hacc => ?_)
  obtain ⟨l2, hl2, ht⟩ := strsAre_values (hP acc hacc)
  subst ht
  rw [hl2]
  have hok' := joinOk_of hok
  unfold JoinOk at hok'
  rw [Bool.not_eq_true'] at hok'
  have g : Gives (joinTail x (strValues l2)) (joinMade x l2) := by
    have g0 := gives_joinTail x l2 hok'
    cases l2 with
    | nil => exact g0
    | cons p r => cases r with
      | nil => exact g0
      | cons q r' => exact g0
  exact g prog w A (wants Q E) _ (post_join l2 ⟨joinFit_length hok', fun t' k => hq h' t' k hk⟩)
end
theorem strs_of : ∀ {ys : List Str} {vs : List Value}, Vals (ys.map V.str) vs → StrsAre vs ys
  | [], [], _ => .nil
  | y :: ys, v :: vs, .cons r rs => by
    obtain ⟨t, rfl⟩ := r
    exact .cons y t (strs_of rs)
section
variable {X : Cx} {o e : Expr} {to te : TE} {apos pos p pos2 : Pos}
/-- sep.join(reversed(xs)), xs a list: sep first -/
def tJoinRev (K : PySem.W.Frag) (to te : TE) : TE := fun σ H Q => to σ H fun x H1 => (∃ a, x = .str a) ∧ te σ H1 fun v H2 => ∃ (a : Str) (q : Addr) (ys : List Str),
  x = .str a ∧ v = .ref q ∧ SqL K H2 q (ys.map V.str) ∧ (ys.reverse.map (·.length)).sum + ys.reverse.length * a.length ≤ 16777216 ∧ Q (.str (Txt.join a ys.reverse)) H2
theorem pe_joinRev (hc : X.calm = true) (ho : PE X o to) (hg : Gl X "reversed") (hm : X.mg "reversed" = none) (he : PE X e te)
    (hs1 : starEach [.Call (.Name "reversed" p) [e] [] pos2] X.env = [(false, eval (.Call (.Name "reversed" p) [e] [] pos2) X.env)] := by rfl)
    (hs : starEach [e] X.env = (false, eval e X.env) :: starEach [] X.env := by rfl)
    (hbase : attributeBase o "join" X.env (eval o X.env) = eval o X.env := by rfl) (hline : (apos.endLine == pos.line) = true := by rfl) :
    PE X (.Call (.Attribute o "join" apos) [.Call (.Name "reversed" p) [e] [] pos2] [] pos) (tJoinRev X.K to te) := by
  refine ⟨fun pins s σ H Q I h => ?_⟩
  refine PySem.Call_method1 hbase hs1 hline (thn (ho.run pins s σ H _ I h) fun v s1 ⟨x, H1, I1, r1, q1⟩ => ?_)
  obtain ⟨⟨a, rfl⟩, q1⟩ := q1
  obtain ⟨t, rfl⟩ := _root_.id r1
  refine ⟨"str", _, F.plainAttrs_str, F.slot_str_join, F.type_str_join, typeIs_str _ _ _, (fun _ e => nomatch e), Calls.callWith_builtin rfl (Calls.evalArgs_plain (Calls.spliced_cons ?_))⟩
  refine Call_ (ld_blt I1 hg hm PyProof.Rows.boot_reversed (PyProof.Rows.callWith_type1 (args_cons (thn (he.run pins s1 σ H1 _ I1 q1) fun u s2 ⟨y, H2, I2, r2, q2⟩ => args_nil ?_) hs) hs rfl))
  obtain ⟨a', q, ys, ea, rfl, hq, hz, q3⟩ := q2
  cases ea
  obtain rfl : u = Value.ref q := r2
  obtain ⟨its, rv, p', hsz⟩ := I2.list hq
  have hl := p'.isList
  obtain ⟨ol, hol, _⟩ := id hl
  have hn : its.toArray.size ≤ sizeLine := by rw [List.size_toArray, ← rv.length]; exact hsz
  have hne : q ≠ s2.heap.objs.size := Nat.ne_of_lt (Heap.lt_size hol)
  refine call_reversed_list hl (Calls.spliced_nil ?_)
  have k0 : ∀ b o, s2.heap.get? b = some o → (s2.heap.push (revObj q ((its.toArray.size : Int) - 1))).get? b = some o := fun b o e => Heap.get?_push_of_some _ e
  have I3 : Inv X pins σ H2 { s2 with heap := s2.heap.push (revObj q ((its.toArray.size : Int) - 1)) } := I2.kept (t' := s2.toks) k0
  obtain ⟨f0, f1, f2, f3, f4, f5⟩ := I2.fpOk (H' := H2) (b := s2.heap.objs.size) (Nat.le_refl _) (I2.hok.fresh (Nat.le_refl _))
  refine join_rev (s := { s2 with heap := s2.heap.push (revObj q ((its.toArray.size : Int) - 1)) }) (ys := ys.reverse) (I2.ok.hd hc) ⟨_, Heap.get?_push_size _ rfl, rfl, rfl⟩ (hl.push _) hne hn (fun acc hacc => strs_of ?_) hz fun h' t' k hk => ?_
  · rw [List.map_reverse]
    exact vals_rev rv hacc
  · exact ⟨.str _, H2, I3.turned (t' := k) (fun b o hb e => hk b o hb e) f0 f1 f3 f4 f5, ⟨t', rfl⟩, q3⟩
end
/-- what is never run -/
theorem ps_dead {X : Cx} {st : Stmt} : PS X st (fun _ _ _ => False) := ⟨fun _ _ _ _ _ _ h => h.elim⟩
theorem pe_dead {X : Cx} {e : Expr} : PE X e (fun _ _ _ => False) := ⟨fun _ _ _ _ _ _ h => h.elim⟩
end Kx
/-! words and lines -/
namespace K4
open L2 PySem PySem.Spec PyProof.Rows Kx TL
theorem bt_str : bootBuiltins "str" = some (.type "str") := by decide +kernel
/-- a number as a word -/
abbrev num (n : Nat) : Str := Str.ofString (toString ((n : Nat) : Int))
theorem tl_len (a : Str) : a.length = (tl a).length := by
  unfold tl Str.length
  exact Array.length_toList.symm
theorem num_len {n : Nat} (h : n < 10 ^ 40) : (num n).length ≤ 40 := by
  rw [tl_len, tl_num]
  exact numL_len (by decide) h
theorem num_inj {m n : Nat} (h : num m = num n) : m = n := by
  have := congrArg tl h
  rw [tl_num, tl_num] at this
  exact numL_inj this
theorem num_free {n s : Nat} (h : s < 48 ∨ 57 < s) : s ∉ tl (num n) := by
  rw [tl_num]
  exact numL_free h
theorem num_ne (n : Nat) : tl (num n) ≠ [] := by
  rw [tl_num]
  exact numL_ne n
theorem sum_len {k : Nat} : ∀ {ws : List Str}, (∀ w ∈ ws, w.length ≤ k) → (ws.map (·.length)).sum ≤ k * ws.length
  | [], _ => Nat.zero_le _
  | w :: ws, h => by
    have h1 := h w (List.mem_cons_self ..)
    have h2 := sum_len fun x hx => h x (List.mem_cons_of_mem _ hx)
    simp only [List.map_cons, List.sum_cons, List.length_cons, Nat.mul_add, Nat.mul_one]
    omega
/-- words with one blank between -/
def line (ws : List Str) : Str := Txt.join " " ws
/-- lines with one line feed between -/
def text (ls : List Str) : Str := Txt.join "\n" ls
theorem tl_sp : tl (Str.ofString " ") = [32] := by decide +kernel
theorem tl_lf : tl (Str.ofString "\n") = [10] := by decide +kernel
theorem split_line {ws : List Str} (hne : ws ≠ []) (hp : ∀ w ∈ ws, 32 ∉ tl w) : Txt.split (line ws) " " = ws := split_join tl_sp (by decide +kernel) hne hp
theorem split_text {ls : List Str} (hne : ls ≠ []) (hp : ∀ l ∈ ls, 10 ∉ tl l) : Txt.split (text ls) "\n" = ls := split_join tl_lf (by decide +kernel) hne hp
theorem joinL_mem {S : List Nat} {c : Nat} : ∀ {ps : List (List Nat)}, c ∈ joinL S ps → c ∈ S ∨ ∃ p ∈ ps, c ∈ p
  | [], h => absurd h (List.not_mem_nil)
  | [p], h => .inr ⟨p, List.mem_singleton.mpr rfl, h⟩
  | p :: q :: r, h => by
    have h : c ∈ p ++ (S ++ joinL S (q :: r)) := h
    rcases List.mem_append.mp h with h | h
    · exact .inr ⟨p, List.mem_cons_self .., h⟩
    rcases List.mem_append.mp h with h | h
    · exact .inl h
    · rcases joinL_mem h with h | ⟨x, hx, hc⟩
      · exact .inl h
      · exact .inr ⟨x, List.mem_cons_of_mem _ hx, hc⟩
theorem line_free {ws : List Str} {c : Nat} (h : c ≠ 32) (hp : ∀ w ∈ ws, c ∉ tl w) : c ∉ tl (line ws) := by
  intro hc
  unfold line at hc
  rw [join_eq, tl_join, tl_sp] at hc
  rcases joinL_mem hc with hc | ⟨p, hq, hc⟩
  · exact h (List.mem_singleton.mp hc)
  · obtain ⟨w, hw, rfl⟩ := List.mem_map.mp hq
    exact hp w hw hc
theorem joinL_len {S : List Nat} : ∀ (ps : List (List Nat)), (joinL S ps).length ≤ (ps.map (·.length)).sum + ps.length * S.length
  | [] => Nat.zero_le _
  | [p] => by simp [joinL]
  | p :: q :: r => by
    have ih := joinL_len (S := S) (q :: r)
    show (p ++ (S ++ joinL S (q :: r))).length ≤ _
    rw [List.length_append, List.length_append]
    simp only [List.map_cons, List.sum_cons, List.length_cons] at ih ⊢
    have : (r.length + 1 + 1) * S.length = (r.length + 1) * S.length + S.length := by rw [Nat.add_mul, Nat.one_mul]
    omega
theorem join_len (y : Str) (ws : List Str) : (Txt.join y ws).length ≤ (ws.map (·.length)).sum + ws.length * y.length := by
  have h := joinL_len (S := tl y) (ws.map tl)
  rw [tl_len, join_eq, tl_join]
  have e : (ws.map tl).map (·.length) = ws.map (·.length) := by
    rw [List.map_map]
    exact List.map_congr_left fun w _ => (tl_len w).symm
  rw [e, List.length_map, ← tl_len] at h
  exact h
theorem line_len {ws : List Str} {k : Nat} (h : ∀ w ∈ ws, w.length ≤ k) : (line ws).length ≤ (k + 1) * ws.length := by
  have h1 := join_len " " ws
  have h2 := sum_len h
  have h3 : (Str.ofString " ").length = 1 := by decide +kernel
  rw [h3] at h1
  unfold line
  have : (k + 1) * ws.length = k * ws.length + ws.length := by rw [Nat.add_mul, Nat.one_mul]
  omega
theorem text_len {ls : List Str} {k : Nat} (h : ∀ w ∈ ls, w.length ≤ k) : (text ls).length ≤ (k + 1) * ls.length := by
  have h1 := join_len "\n" ls
  have h2 := sum_len h
  have h3 : (Str.ofString "\n").length = 1 := by decide +kernel
  rw [h3] at h1
  unfold text
  have : (k + 1) * ls.length = k * ls.length + ls.length := by rw [Nat.add_mul, Nat.one_mul]
  omega
/-- numbers as words -/
def nums (ns : List Nat) : List Str := ns.map num
theorem nums_free {ns : List Nat} {s : Nat} (h : s < 48 ∨ 57 < s) : ∀ w ∈ nums ns, s ∉ tl w := fun w hw => by
  obtain ⟨n, _, rfl⟩ := List.mem_map.mp hw
  exact num_free h
theorem nums_len {ns : List Nat} (h : ∀ n ∈ ns, n < 10 ^ 40) : ∀ w ∈ nums ns, w.length ≤ 40 := fun w hw => by
  obtain ⟨n, hn, rfl⟩ := List.mem_map.mp hw
  exact num_len (h n hn)
/-! one more word, at either end -/
theorem joinL_snoc {S p : List Nat} : ∀ {ps : List (List Nat)}, ps ≠ [] → joinL S (ps ++ [p]) = joinL S ps ++ (S ++ p)
  | [], h => absurd rfl h
  | [q], _ => rfl
  | q :: r :: t, _ => by
    show q ++ (S ++ joinL S (r :: t ++ [p])) = (q ++ (S ++ joinL S (r :: t))) ++ (S ++ p)
    rw [joinL_snoc (by simp)]
    simp only [List.append_assoc]
theorem tl_inj {a b : Str} (h : tl a = tl b) : a = b := ext_tl h
theorem join_snoc {y w : Str} {ws : List Str} (h : ws ≠ []) : Txt.join y (ws ++ [w]) = Txt.join y ws ++ y ++ w := by
  refine tl_inj ?_
  rw [join_eq, join_eq, tl_join, List.map_append, List.map_singleton, joinL_snoc (by simpa using h), tl_append, tl_append, tl_join, List.append_assoc]
theorem join_cons {y w : Str} {ws : List Str} (h : ws ≠ []) : Txt.join y (w :: ws) = w ++ y ++ Txt.join y ws := by
  refine tl_inj ?_
  cases ws with
  | nil => exact absurd rfl h
  | cons v vs =>
    rw [join_eq, join_eq, tl_join, tl_append, tl_append, tl_join, List.append_assoc]
    rfl
theorem join_one {y w : Str} : Txt.join y [w] = w := by
  refine tl_inj ?_
  rw [join_eq, tl_join]
  rfl
end K4
/-! texts are written -/
namespace K4
open L2 PySem PySem.Spec PyProof.Rows Kx TL
set_option exponentiation.threshold 3000
theorem log_ok {n : Nat} (h : n < 10 ^ 40) : ((n : Nat) : Int).natAbs.log2 < 1920 := by
  rw [Int.natAbs_natCast]
  by_cases z : n = 0
  · rw [z]
    decide
  · exact (Nat.log2_lt z).mpr (Nat.lt_of_lt_of_le h (Nat.le_trans (show 10 ^ 40 ≤ 2 ^ 200 by decide +kernel) (Nat.pow_le_pow_right (by decide) (by decide))))
theorem not_big {n : Nat} (h : n < 10 ^ 40) : ¬((10 ^ 600 : Int) ≤ (n : Int)) := by
  intro z
  have e : (10 ^ 600 : Int) = ((10 ^ 600 : Nat) : Int) := by decide +kernel
  rw [e] at z
  exact absurd (Nat.le_trans (show 10 ^ 40 ≤ 10 ^ 600 from Nat.pow_le_pow_right (by decide) (by decide)) (Int.ofNat_le.mp z)) (Nat.not_le.mpr h)
def iv (ns : List Nat) : List V := ns.map fun n => V.int (n : Nat)
def spNumText : Sp := fun vs H Q _ => ∃ n : Nat, vs = [.int (n : Nat)] ∧ n < 10 ^ 40 ∧ ∀ H', Same H H' → Q (.str (num n)) H'
def spNums (K : PySem.W.Frag) : Sp := fun vs H Q _ => ∃ (p : Addr) (ns : List Nat), vs = [.ref p] ∧ SqT K H p (iv ns) ∧ (∀ n ∈ ns, n < 10 ^ 40) ∧ ns.length ≤ 400 ∧ ∀ H', Same H H' → Q (.str (line (nums ns))) H'
section
variable {P : Program} {w : World} {K : PySem.W.Frag} {mg : Str → Option Value} {base : Heap} {f : Addr} {fd : FuncData} {a : Ad} {C CM : Addr}
theorem sc_number_text : FnScope ["number", "pieces", "low"] ["number"] (defScope s_number_text) := ⟨rfl, rfl, rfl, by decide +kernel, rfl, by decide +kernel, by decide +kernel⟩
theorem ok_number_text (F : FnP K "_number_text" s_number_text f fd) (T : Mg mg) : FnOk P w K mg base CX0 1 f fd ["number"] spNumText := by
  refine F.ok sc_number_text (fun vs H Q E h => ?_) (fun cdv A outer s H vs Q E hr h => ?_)
  · obtain ⟨n, rfl, _⟩ := h
    rfl
  · obtain ⟨n, rfl, hn, k⟩ := h
    refine ⟨_, PSs.nox (pss_cons (ps_set (i := 1) sc_number_text.nd rfl (by first | exact Or.inl rfl | exact Or.inr rfl) (pe_lst pa_nil))
      (pss_cons (ps_while PassesOwn.never (pt_cmpR op_ge (pv 0) (pe_constI T.g_PIECE_WORTH) (nomark _)) (pss_cons ps_dead (pss_one ps_dead)))
      (pss_cons (ps_expr (pe_bm PySem.F.plainAttrs_list PySem.F.slot_list_append PySem.F.type_list_append mt_append (pv 1) (pa_cons (pe_callTy call_str_int (by rfl) T.z_str bt_str (pa_cons (pv 0) pa_nil)) pa_nil)))
      (pss_one (ps_ret (pe_joinRev rfl pe_str (by rfl) T.z_reversed (pv 1))))))), ?_⟩
    refine ⟨by show 0 ≤ sizeLine; decide, fun L hL => ?_⟩
    have hl := upd_same (H := H) (a := L) (o := HO.lst [])
    refine ⟨fun _ σ' H' => σ' = [some (.int (n : Nat)), some (.ref L), none] ∧ H' = upd H L (.lst []), ⟨0, rfl, rfl⟩, ?_⟩
    rintro k' σ' H' ⟨rfl, rfl⟩
    refine ⟨_, rfl, _, _, rfl, rfl, _, rfl, ite2 (fun lt => ?_) (fun ge => ?_)⟩
    · exact absurd (of_decide_eq_true lt) (not_big hn)
    · refine ⟨_, rfl, .inl ⟨rfl, _, SqL.of hl⟩, _, rfl, _, rfl, log_ok hn, L, _, _, rfl, rfl, hl, by show 0 < sizeLine; decide, ?_⟩
      refine ⟨⟨_, rfl⟩, _, rfl, _, L, [num n], rfl, rfl, SqL.of upd_same, ?_, ?_⟩
      · have := num_len hn
        show (num n).length + 0 + 1 * 0 ≤ 16777216
        omega
      · show Q (.str (Txt.join "" [num n])) _
        rw [join_one]
        exact k _ fun b o hb => by rw [upd_upd, upd_ne (ne_of_none hb hL)]; exact hb
theorem sc_numbers_text : FnScope ["numbers", "number"] ["numbers"] (defScope s_numbers_text) := ⟨rfl, rfl, rfl, by decide +kernel, rfl, by decide +kernel, by decide +kernel⟩
theorem ok_numbers_text (F : FnP K "_numbers_text" s_numbers_text f fd) (T : Mg mg) (c_num : Cal P w K mg base CX0 1 "_number_text" ["number"] spNumText) : FnOk P w K mg base CX0 2 f fd ["numbers"] (spNums K) := by
  refine F.ok sc_numbers_text (fun vs H Q E h => ?_) (fun cdv A outer s H vs Q E hr h => ?_)
  · obtain ⟨p, ns, rfl, _⟩ := h
    rfl
  · obtain ⟨p, ns, rfl, hp, hn, hl, k⟩ := h
    refine ⟨_, PSs.nox (pss_one (ps_ret (pe_join pe_str (pe_lc (own := [("number", 1)]) (by rfl) sc_numbers_text.nd (pi_tup (pv 0)) (blkOk_by (own := [("number", 1)]) (N := ["numbers", "number"]) (sc := defScope s_numbers_text) (by decide +kernel))
        (fun _ _ _ _ _ => pg_name (i := 1) sc_numbers_text.nd rfl (by first | exact Or.inl rfl | exact Or.inr rfl)) (fun _ _ _ _ _ => pts_nil)
        (fun _ _ _ _ _ => pe_callC c_num hr pass0 (pa_cons (pv 1) pa_nil)))))), ?_⟩
    refine ⟨⟨_, rfl⟩, _, rfl, p, rfl, ⟨_, hp⟩, fun D hD => lc_tup (xs := iv ns) (Part H D ((nums ns).map V.str)) (Part.zero hD) (fun i H _ pt => sqT_same pt.2 hp) ?_ ?_⟩
    · rintro j y H2 hy pt
      obtain ⟨n, he, rfl⟩ : ∃ n, ns[j]? = some n ∧ y = .int (n : Nat) := by
        unfold iv at hy
        rw [List.getElem?_map, Option.map_eq_some_iff] at hy
        obtain ⟨e, h1, h2⟩ := hy
        exact ⟨e, h1, h2.symm⟩
      refine ⟨rfl, yes ((if_pos rfl).mpr ?_)⟩
      refine ⟨_, rfl, n, rfl, hn n (List.mem_of_getElem? he), fun H3 e3 => pt.step hD e3 ?_ ?_⟩
      · unfold nums
        rw [List.getElem?_map, List.getElem?_map, he]
        rfl
      · unfold nums
        rw [List.length_map, List.length_map, sizeLine_eq]
        omega
    · intro H2 pt
      obtain ⟨hD2, e2⟩ := pt.done (by unfold nums iv; rw [List.length_map, List.length_map, List.length_map]; exact Nat.le_refl _)
      refine ⟨_, D, nums ns, rfl, rfl, .inl (SqL.of hD2), ?_, k _ e2⟩
      have h1 := sum_len (nums_len hn)
      have h2 : (nums ns).length = ns.length := List.length_map ..
      have h3 : (Str.ofString " ").length = 1 := by decide +kernel
      rw [h3]
      omega
end
end K4
/-! texts of machines, counters, rows, showings -/
namespace K4
open L2 PySem PySem.Spec PyProof.Rows Kx TL
/-- a table's line -/
def tLine (t : List Int) : Str := line (nums (t.map Int.toNat))
def mLines (n : Nat) (ts : List (List Int)) : List Str := (Str.ofString "states " ++ num n) :: ts.map tLine
def cLines (rs es : List Int) : List Str := [Str.ofString "rounds " ++ tLine rs, Str.ofString "rests " ++ tLine es]
theorem iv_nat {t : List Int} (h : ∀ x ∈ t, 0 ≤ x) : iv (t.map Int.toNat) = t.map V.int := by
  unfold iv
  rw [List.map_map]
  exact List.map_congr_left fun x hx => congrArg V.int (Int.toNat_of_nonneg (h x hx))
theorem below {t : List Int} {k : Nat} (hk : k < 10 ^ 40) (h : ∀ x ∈ t, 0 ≤ x ∧ x ≤ (k : Int)) : ∀ n ∈ t.map Int.toNat, n < 10 ^ 40 := fun n hn => by
  obtain ⟨x, hx, rfl⟩ := List.mem_map.mp hn
  have := h x hx
  have : x.toNat ≤ k := by omega
  omega
theorem append_len (a b : Str) : (a ++ b).length = a.length + b.length := by
  rw [tl_len, tl_append, List.length_append, ← tl_len, ← tl_len]
theorem tLine_len {t : List Int} {k : Nat} (hk : k < 10 ^ 40) (h : ∀ x ∈ t, 0 ≤ x ∧ x ≤ (k : Int)) : (tLine t).length ≤ 41 * t.length := by
  have := line_len (nums_len (below hk h))
  unfold nums at this
  rw [List.length_map, List.length_map] at this
  exact this
def spMtext (K : PySem.W.Frag) (CM : Addr) : Sp := fun vs H Q _ => ∃ m n ts, vs = [.ref m] ∧ McAt K CM H m n ts ∧ ∀ H', Same H H' → Q (.str (text (mLines n ts))) H'
def spCtext (K : PySem.W.Frag) (C : Addr) : Sp := fun vs H Q _ => ∃ c rs es, vs = [.ref c] ∧ CnAt K C H c rs es ∧ ∀ H', Same H H' → Q (.str (text (cLines rs es))) H'
theorem Mok.nn {n : Nat} {ts : List (List Int)} (ok : Mok n ts) {t : List Int} (h : t ∈ ts) : ∀ x ∈ t, 0 ≤ x ∧ x ≤ (8 : Nat) := fun x hx => by
  have := ok.ent t h x hx
  have := ok.n8
  omega
theorem mLines_len {n : Nat} {ts : List (List Int)} (ok : Mok n ts) : ∀ l ∈ mLines n ts, l.length ≤ 400 := by
  intro l hl
  rcases List.mem_cons.mp hl with rfl | hl
  · have h1 : (Str.ofString "states ").length = 7 := by decide +kernel
    have h2 := num_len (n := n) (by have := ok.n8; omega)
    rw [append_len, h1]
    omega
  · obtain ⟨t, ht, rfl⟩ := List.mem_map.mp hl
    have h1 := tLine_len (by decide) (ok.nn ht)
    have h2 := ok.len t ht
    have h3 := ok.n8
    omega
theorem take_snoc {α : Type} {l : List α} {i : Nat} {x : α} (h : l[i]? = some x) : l.take (i + 1) = l.take i ++ [x] := by rw [List.take_add_one, h]; rfl
section
variable {P : Program} {w : World} {K : PySem.W.Frag} {mg : Str → Option Value} {base : Heap} {f : Addr} {fd : FuncData} {a : Ad} {C CM : Addr}
theorem sc_machine_text : FnScope ["machine", "lines", "table"] ["machine"] (defScope s_machine_text) := ⟨rfl, rfl, rfl, by decide +kernel, rfl, by decide +kernel, by decide +kernel⟩
theorem ok_machine_text (F : FnP K "machine_text" s_machine_text f fd) (T : Mg mg) (TM : ClsM K mg CM) (c_num : Cal P w K mg base CX0 1 "_number_text" ["number"] spNumText) (c_nums : Cal P w K mg base CX0 2 "_numbers_text" ["numbers"] (spNums K)) :
    FnOk P w K mg base CX0 3 f fd ["machine"] (spMtext K CM) := by
  refine F.ok sc_machine_text (fun vs H Q E h => ?_) (fun cdv A outer s H vs Q E hr h => ?_)
  · obtain ⟨m, n, ts, rfl, _⟩ := h
    rfl
  · obtain ⟨m, n, ts, rfl, hm, k⟩ := h
    obtain ⟨ok, dx, t, ps, h1, h2, h3⟩ := id hm
    have n8 := ok.n8
    have l4 := ok.l4
    refine ⟨_, PSs.nox (pss_cons (ps_set (i := 1) sc_machine_text.nd rfl (by first | exact Or.inl rfl | exact Or.inr rfl) (pe_lst (pa_cons (pe_op op_add_str pe_str (pe_callC c_num hr pass0 (pa_cons (pe_fld (pv 0) rfl) pa_nil))) pa_nil)))
      (pss_cons (ps_for PassesOwn.never rfl (pi_tup (pe_fld (pv 0) rfl)) (pg_name (i := 2) sc_machine_text.nd rfl (by first | exact Or.inl rfl | exact Or.inr rfl))
        (pss_one (ps_expr (pe_bm PySem.F.plainAttrs_list PySem.F.slot_list_append PySem.F.type_list_append mt_append (pv 1) (pa_cons (pe_callC c_nums hr pass0 (pa_cons (pv 2) pa_nil)) pa_nil)))))
      (pss_one (ps_ret (pe_join pe_str (pv 1)))))), ?_⟩
    refine ⟨_, rfl, m, CM, dx, _, _, rfl, h1, TM.cl, TM.n2, rfl, n, rfl, by omega, fun H1 e1 => ?_⟩
    have hs : (Str.ofString "states ").length + (num n).length ≤ sizeLine := by
      have h1 : (Str.ofString "states ").length = 7 := by decide +kernel
      have h2 := num_len (n := n) (by omega)
      rw [h1, sizeLine_eq]
      omega
    refine ⟨_, _, rfl, rfl, hs, by show 1 ≤ sizeLine; decide, fun L hL => ?_⟩
    have hl := upd_same (H := H1) (a := L) (o := HO.lst [V.str (Str.ofString "states " ++ num n)])
    have eL := e1.trans (same_new (o := HO.lst [V.str (Str.ofString "states " ++ num n)]) hL)
    have fL : ∀ b o, H b = some o → b ≠ L := fun b o hb => ne_of_none (e1 _ _ hb) hL
    generalize upd H1 L (HO.lst [V.str (Str.ofString "states " ++ num n)]) = H2 at hl eL ⊢
    refine ⟨_, rfl, m, CM, dx, _, _, rfl, eL _ _ h1, TM.cl, TM.n3, rfl, t, rfl, ⟨ps, sqT_same eL h2⟩, ?_⟩
    refine for_tup (xs := ps) (fun i σ' H' => (∃ y, σ' = [some (.ref m), some (.ref L), y]) ∧ H' L = some (.lst ((mLines n (ts.take i)).map V.str)) ∧ Same H H') ⟨⟨_, rfl⟩, hl, eL⟩ (fun i σ' H' _ q => sqT_same q.2.2 h2) ?_ ?_
    · rintro i q σ' H' hq ⟨⟨y, rfl⟩, hl', e'⟩
      have hi : i < ts.length := by rw [← h3.length]; exact (List.getElem?_eq_some_iff.mp hq).1
      have ht : ts[i]? = some ts[i] := List.getElem?_eq_getElem hi
      obtain ⟨qa, hqa, sq⟩ := h3.at_ ht
      rw [hq] at hqa
      obtain rfl := Option.some.inj hqa
      have nn := ok.nn (List.getElem_mem hi)
      have len := ok.len _ (List.getElem_mem hi)
      refine ⟨_, rfl, .inl ⟨rfl, _, SqL.of hl'⟩, _, rfl, qa, (ts[i]).map Int.toNat, rfl, by rw [iv_nat fun x hx => (nn x hx).1]; exact sqT_same e' sq, below (by decide) nn, by rw [List.length_map]; omega, fun H3 e3 => ?_⟩
      refine ⟨L, _, _, rfl, rfl, e3 _ _ hl', ?_, ⟨_, rfl⟩, ?_, fun b o hb => ?_⟩
      · rw [List.length_map]
        show (mLines n (ts.take i)).length < sizeLine
        unfold mLines
        rw [List.length_cons, List.length_map, List.length_take, sizeLine_eq]
        omega
      · rw [upd_same, take_snoc ht]
        unfold mLines
        rw [List.map_append, ← List.cons_append, List.map_append]
        rfl
      · rw [upd_ne (fL b o hb)]
        exact e3 _ _ (e' _ _ hb)
    · rintro σ' H' ⟨⟨y, rfl⟩, hl', e'⟩
      have el : ts.take ps.length = ts := by rw [h3.length, List.take_length]
      rw [el] at hl'
      refine ⟨⟨_, rfl⟩, _, rfl, _, L, mLines n ts, rfl, rfl, .inl (SqL.of hl'), ?_, k _ e'⟩
      have h1 := sum_len (mLines_len ok)
      have h2 : (mLines n ts).length = ts.length + 1 := by unfold mLines; rw [List.length_cons, List.length_map]
      have h3 : (Str.ofString "\n").length = 1 := by decide +kernel
      rw [h3]
      omega
theorem sc_counters_text : FnScope ["counters"] ["counters"] (defScope s_counters_text) := ⟨rfl, rfl, rfl, by decide +kernel, rfl, by decide +kernel, by decide +kernel⟩
theorem ok_counters_text (F : FnP K "counters_text" s_counters_text f fd) (T : Mg mg) (TC : ClsC K mg C) (c_nums : Cal P w K mg base CX0 2 "_numbers_text" ["numbers"] (spNums K)) : FnOk P w K mg base CX0 3 f fd ["counters"] (spCtext K C) := by
  refine F.ok sc_counters_text (fun vs H Q E h => ?_) (fun cdv A outer s H vs Q E hr h => ?_)
  · obtain ⟨c, rs, es, rfl, _⟩ := h
    rfl
  · obtain ⟨c, rs, es, rfl, hc, k⟩ := h
    obtain ⟨ok, dx, p, q, h1, h2, h3⟩ := id hc
    have l4 := ok.l4
    have le := ok.le
    refine ⟨_, PSs.nox (pss_one (ps_ret (pe_op op_add_str (pe_op op_add_str (pe_op op_add_str pe_str (pe_callC c_nums hr pass0 (pa_cons (pe_fld (pv 0) rfl) pa_nil))) pe_str) (pe_callC c_nums hr pass0 (pa_cons (pe_fld (pv 0) rfl) pa_nil))))), ?_⟩
    have nr : ∀ x ∈ rs, 0 ≤ x ∧ x ≤ ((60 : Nat) : Int) := ok.r
    have ne : ∀ x ∈ es, 0 ≤ x ∧ x ≤ ((6 : Nat) : Int) := ok.e
    have lr := tLine_len (by decide) nr
    have ls := tLine_len (by decide) ne
    have t1 : (Str.ofString "rounds ").length = 7 := by decide +kernel
    have t2 : (Str.ofString "\nrests ").length = 7 := by decide +kernel
    refine ⟨_, rfl, c, C, dx, _, _, rfl, h1, TC.cl, TC.n1, rfl, p, rs.map Int.toNat, rfl, by rw [iv_nat fun x hx => (nr x hx).1]; exact h2, below (by decide) nr, by rw [List.length_map]; omega, fun H1 e1 => ?_⟩
    refine ⟨_, _, rfl, rfl, by rw [t1, sizeLine_eq]; show 7 + (tLine rs).length ≤ _; omega, ?_⟩
    refine ⟨_, _, rfl, rfl, by rw [append_len, t1, t2, sizeLine_eq]; show 7 + (tLine rs).length + 7 ≤ _; omega, ?_⟩
    refine ⟨_, rfl, c, C, dx, _, _, rfl, e1 _ _ h1, TC.cl, TC.n2, rfl, q, es.map Int.toNat, rfl, by rw [iv_nat fun x hx => (ne x hx).1]; exact sqT_same e1 h3, below (by decide) ne, by rw [List.length_map]; omega, fun H2 e2 => ?_⟩
    refine ⟨_, _, rfl, rfl, by rw [append_len, append_len, t1, t2, sizeLine_eq]; show 7 + (tLine rs).length + 7 + (tLine es).length ≤ _; omega, ?_⟩
    have e : text (cLines rs es) = Str.ofString "rounds " ++ tLine rs ++ Str.ofString "\nrests " ++ tLine es := by
      unfold text cLines
      rw [join_cons (by simp), join_one]
      refine tl_inj ?_
      have tz : tl (Str.ofString "\nrests ") = 10 :: tl (Str.ofString "rests ") := by decide +kernel
      simp only [tl_append, tl_lf, tz, List.append_assoc, List.cons_append, List.nil_append]
    have := k _ (e1.trans e2)
    rw [e] at this
    exact this
end
end K4
/-! rows and showings as texts; words that are numbers below a limit -/
namespace K4
open L2 PySem PySem.Spec PyProof.Rows Kx TL
def rowText (row : List Nat) : Str := if row = [] then Str.ofString "-" else line (nums row)
def spRtext (K : PySem.W.Frag) (a : Ad) (CM : Addr) : Sp := fun vs H Q E => ∃ m n ts v o, vs = [.ref m, v] ∧ McAt K CM H m n ts ∧ Long K H v o ∧ Kns K H o 400 ∧ (∀ i, rowAt ts.length o = some i → Thrown E H a.cR "at" (.int i)) ∧
  (rowAt ts.length o = none → ∃ (b : Addr) (row : List Nat), v = .ref b ∧ o = some (iv row) ∧ SqD K H b (iv row) ∧ row.length ≤ 400 ∧ (∀ n ∈ row, n < 10 ^ 40) ∧ ∀ H', Same H H' → Q (.str (rowText row)) H')
def spStext (K : PySem.W.Frag) (a : Ad) (C : Addr) : Sp := fun vs H Q E => ∃ c rs es v o, vs = [.ref c, v] ∧ CnAt K C H c rs es ∧ ShowArg K a H E rs es v o ∧
  ∀ xs, o = some xs → xs.length = rs.length → AllShow rs es xs → ∃ ns : List Nat, xs = iv ns ∧ (∀ n ∈ ns, n < 10 ^ 40) ∧ ∀ H', Same H H' → Q (.str (line (nums ns))) H'
/-- any value as a text -/
def spText (K : PySem.W.Frag) (a : Ad) : Sp := fun vs H Q E => ∃ v, vs = [v] ∧ Kn K H v ∧ (∀ x, v = .str x → Q (.str x) H) ∧ ((∀ x, v ≠ .str x) → Thrown E H a.cT "at" (.int 0))
/-- the number below l that a word is -/
def idx (l : Nat) (w : Str) : Option Nat := (List.range l).find? fun i => num i == w
theorem idx_num {l i : Nat} (h : i < l) : idx l (num i) = some i := by
  unfold idx
  cases e : (List.range l).find? fun j => num j == num i with
  | none =>
    have := List.find?_eq_none.mp e i (List.mem_range.mpr h)
    simp at this
  | some j =>
    have h1 := List.find?_some e
    have h2 : num j = num i := by simpa using h1
    rw [num_inj h2]
theorem idx_none {l : Nat} {w : Str} (h : ∀ i, i < l → num i ≠ w) : idx l w = none := by
  unfold idx
  rw [List.find?_eq_none]
  intro i hi
  simpa using h i (List.mem_range.mp hi)
theorem idx_some {l i : Nat} {w : Str} (h : idx l w = some i) : i < l ∧ num i = w := by
  unfold idx at h
  exact ⟨List.mem_range.mp (List.mem_of_find?_eq_some h), by simpa using List.find?_some h⟩
/-- the words up to the first that is no number below l -/
def rdB (l : Nat) : List Str → List Nat
  | [] => []
  | w :: r => match idx l w with
    | some i => i :: rdB l r
    | none => []
theorem rdB_le {l : Nat} : ∀ (ws : List Str), (rdB l ws).length ≤ ws.length
  | [] => Nat.le_refl _
  | w :: r => by
    unfold rdB
    split
    · exact Nat.succ_le_succ (rdB_le r)
    · exact Nat.zero_le _
theorem rdB_nums {l : Nat} : ∀ {ns : List Nat} {ws : List Str}, (∀ n ∈ ns, n < l) → rdB l (nums ns ++ ws) = ns ++ rdB l ws
  | [], _, _ => rfl
  | n :: ns, ws, h => by
    show rdB l (num n :: (nums ns ++ ws)) = n :: (ns ++ rdB l ws)
    have e := idx_num (h n (List.mem_cons_self ..))
    conv => lhs; unfold rdB
    rw [e]
    exact congrArg (n :: ·) (rdB_nums fun m hm => h m (List.mem_cons_of_mem _ hm))
theorem rdB_stop {l : Nat} {w : Str} {ws : List Str} (h : idx l w = none) : rdB l (w :: ws) = [] := by
  unfold rdB
  rw [h]
def spRdB (K : PySem.W.Frag) : Sp := fun vs H Q _ => ∃ (w : Addr) (ws : List Str) (l : Nat), vs = [.ref w, .int (l : Nat)] ∧ l ≤ 100 ∧ SqL K H w (ws.map V.str) ∧ ws.length ≤ 100000 ∧ ∀ p H', Same H H' → H p = none → H' p = some (.lst (iv (rdB l ws))) → Q (.ref p) H'
def rightOf (l : Nat) : List V := (List.range l).map fun i => V.str (num i)
theorem right_at {l i : Nat} (h : i < l) : (rightOf l)[i]? = some (V.str (num i)) := by
  unfold rightOf
  rw [List.getElem?_map, List.getElem?_range h]
  rfl
theorem right_in {l : Nat} {w : Str} : inV (.str w) (rightOf l) = (idx l w).isSome := by
  unfold inV rightOf idx
  rw [List.any_map]
  cases e : (List.range l).find? fun i => num i == w with
  | none =>
    rw [List.find?_eq_none] at e
    rw [List.any_eq_false.mpr fun i hi => ?_]
    · rfl
    · exact e i hi
  | some j =>
    rw [List.any_eq_true.mpr ⟨j, List.mem_of_find?_eq_some e, ?_⟩]
    · rfl
    · have := List.find?_some e
      exact this
theorem right_flat {l : Nat} : (rightOf l).all flatV = true := List.all_eq_true.mpr fun v hv => by
  obtain ⟨i, _, rfl⟩ := List.mem_map.mp hv
  rfl
section
variable {P : Program} {w : World} {K : PySem.W.Frag} {mg : Str → Option Value} {base : Heap} {f : Addr} {fd : FuncData} {a : Ad} {C CM : Addr}
theorem sc_row_text : FnScope ["machine", "row", "done"] ["machine", "row"] (defScope s_row_text) := ⟨rfl, rfl, rfl, by decide +kernel, rfl, by decide +kernel, by decide +kernel⟩
theorem ok_row_text (F : FnP K "row_text" s_row_text f fd) (T : Mg mg) (c_row : Cal P w K mg base (L2N.CX P w) 5 "check_row" ["machine", "value"] (spRow K a CM)) (c_nums : Cal P w K mg base CX0 2 "_numbers_text" ["numbers"] (spNums K)) :
    FnOk P w K mg base (L2N.CX P w) 6 f fd ["machine", "row"] (spRtext K a CM) := by
  refine F.ok sc_row_text (fun vs H Q E h => ?_) (fun cdv A outer s H vs Q E hr h => ?_)
  · obtain ⟨m, n, ts, v, o, rfl, _⟩ := h
    rfl
  · obtain ⟨m, n, ts, v, o, rfl, hm, hv, kn, bad, good⟩ := h
    refine ⟨_, (pss_cons (ps_set (i := 2) sc_row_text.nd rfl (by first | exact Or.inl rfl | exact Or.inr rfl) (pe_callC c_row hr (L2N.passes_call (E := E) (L2N.takes_of rfl rfl rfl rfl) (fun _ _ _ _ z => z)) (pa_cons (pv 0) (pa_cons (pv 1) pa_nil))))
      (pss_one (ps_ret (pe_ifExp (pt_truth (pv 2) (fun _ => rfl)) (pe_callC c_nums hr pass0 (pa_cons (pv 2) pa_nil)) pe_str)))), ?_⟩
    refine ⟨_, rfl, v, rfl, m, n, ts, v, o, rfl, hm, hv, kn, bad, fun eb => ?_⟩
    obtain ⟨b, row, rfl, rfl, hs, l400, lt, fin⟩ := good eb
    refine ⟨b, _, rfl, rfl, hs, fun p H1 e1 hp => ?_⟩
    refine ⟨_, rfl, _, tru_sq (.inr hp.sqT), ?_⟩
    have q := fin H1 e1
    cases row with
    | nil => exact q
    | cons n r => exact ⟨_, rfl, p, n :: r, rfl, hp.sqT, lt, l400, fun H2 e2 => fin H2 (e1.trans e2)⟩
theorem sc_showing_text : FnScope ["counters", "showing"] ["counters", "showing"] (defScope s_showing_text) := ⟨rfl, rfl, rfl, by decide +kernel, rfl, by decide +kernel, by decide +kernel⟩
theorem ok_showing_text (F : FnP K "showing_text" s_showing_text f fd) (T : Mg mg) (c_chk : Cal P w K mg base (L2N.CX P w) 4 "check_showing" ["counters", "value"] (spCheck K a C)) (c_nums : Cal P w K mg base CX0 2 "_numbers_text" ["numbers"] (spNums K)) :
    FnOk P w K mg base (L2N.CX P w) 6 f fd ["counters", "showing"] (spStext K a C) := by
  refine F.ok sc_showing_text (fun vs H Q E h => ?_) (fun cdv A outer s H vs Q E hr h => ?_)
  · obtain ⟨c, rs, es, v, o, rfl, _⟩ := h
    rfl
  · obtain ⟨c, rs, es, v, o, rfl, hc, sa, good⟩ := h
    have l4 := hc.1.l4
    refine ⟨_, (pss_one (ps_ret (pe_callC c_nums hr pass0 (pa_cons (pe_callC c_chk hr (L2N.passes_call (E := E) (L2N.takes_of rfl rfl rfl rfl) (fun _ _ _ _ z => z)) (pa_cons (pv 0) (pa_cons (pv 1) pa_nil))) pa_nil)))), ?_⟩
    refine ⟨_, rfl, v, rfl, c, rs, es, v, o, rfl, hc, sa, fun xs ex hl all p H1 e1 hp => ?_⟩
    obtain ⟨ns, rfl, lt, fin⟩ := good xs ex hl all
    have hl2 : ns.length = rs.length := by
      unfold iv at hl
      rw [List.length_map] at hl
      exact hl
    exact ⟨p, ns, rfl, hp, lt, by omega, fun H2 e2 => fin H2 (e1.trans e2)⟩
theorem sc_need_text : FnScope ["text"] ["text"] (defScope s_need_text) := ⟨rfl, rfl, rfl, by decide +kernel, rfl, by decide +kernel, by decide +kernel⟩
theorem ok_need_text (F : FnP K "_need_text" s_need_text f fd) (T : Mg mg) (R : Er P w K mg base a) : FnOk P w K mg base (L2N.CX P w) 4 f fd ["text"] (spText K a) := by
  refine F.ok sc_need_text (fun vs H Q E h => ?_) (fun cdv A outer s H vs Q E hr h => ?_)
  · obtain ⟨v, rfl, _⟩ := h
    rfl
  · obtain ⟨v, rfl, hv, good, bad⟩ := h
    refine ⟨_, (pss_cons (ps_if (pt_not (pt_val (pe_callB call_isi (by rfl) T.z_isinstance (by decide +kernel) (pa_cons (pv 0) (pa_cons (pe_ty T.z_str bt_str) pa_nil)))))
        (pss_one (psN R.BadText rfl hr (L2N.takes_of rfl rfl rfl rfl) (pa_cons pe_int pa_nil)))
        pss_nil)
      (pss_one (ps_ret (pv 0)))), ?_⟩
    cases hv with
    | str x => exact ⟨_, rfl, _, .ty "str", _, _, true, rfl, .ty _, .base (.str x), kit_ty (by decide +kernel), true, rfl, iteF ⟨_, rfl, good x rfl⟩⟩
    | non => exact ⟨_, rfl, _, .ty "str", _, _, false, rfl, .ty _, .base .non, kit_ty (by decide +kernel), false, rfl, iteT (thrownN (bad fun x z => nomatch z).at_)⟩
    | bl b => exact ⟨_, rfl, _, .ty "str", _, _, false, rfl, .ty _, .base (.bl b), kit_ty (by decide +kernel), false, rfl, iteT (thrownN (bad fun x z => nomatch z).at_)⟩
    | int i => exact ⟨_, rfl, _, .ty "str", _, _, false, rfl, .ty _, .base (.int i), kit_ty (by decide +kernel), false, rfl, iteT (thrownN (bad fun x z => nomatch z).at_)⟩
    | seq q =>
      rcases q with q | q
      · exact ⟨_, rfl, _, .ty "str", _, _, false, rfl, .ty _, tyx_list q, kit_ty (by decide +kernel), false, rfl, iteT (thrownN (bad fun x z => nomatch z).at_)⟩
      · exact ⟨_, rfl, _, .ty "str", _, _, false, rfl, .ty _, tyx_tuple q, kit_ty (by decide +kernel), false, rfl, iteT (thrownN (bad fun x z => nomatch z).at_)⟩
theorem sc_read_below : FnScope ["words", "limit", "right", "numbers", "word", "number"] ["words", "limit"] (defScope s_read_below) := ⟨rfl, rfl, rfl, by decide +kernel, rfl, by decide +kernel, by decide +kernel⟩
theorem ok_read_below (F : FnP K "read_below" s_read_below f fd) (T : Mg mg) : FnOk P w K mg base CX0 1 f fd ["words", "limit"] (spRdB K) := by
  refine F.ok sc_read_below (fun vs H Q E h => ?_) (fun cdv A outer s H vs Q E hr h => ?_)
  · obtain ⟨x, ws, l, rfl, _⟩ := h
    rfl
  · obtain ⟨x, ws, l, rfl, l100, hx, few, q⟩ := h
    refine ⟨_, PSs.nox (pss_cons (ps_setLc (i := 2) (own := [("number", 5)]) (by rfl) sc_read_below.nd rfl rfl (sw_true rfl rfl rfl (by decide +kernel)) (pi_range1 (by rfl) T.z_range (pa_cons (pv 1) pa_nil)) (blkOk_by (own := [("number", 5)]) (N := ["words", "limit", "right", "numbers", "word", "number"]) (sc := defScope s_read_below) (by decide +kernel))
        (fun _ _ _ _ _ => pg_name (i := 5) sc_read_below.nd rfl (by first | exact Or.inl rfl | exact Or.inr rfl)) (fun _ _ _ _ _ => pts_nil) (fun _ _ _ _ _ => pe_callTy call_str_int (by rfl) T.z_str bt_str (pa_cons (pv 5) pa_nil)))
      (pss_cons (ps_set (i := 3) sc_read_below.nd rfl (by first | exact Or.inl rfl | exact Or.inr rfl) (pe_lst pa_nil))
      (pss_cons (ps_for PassesOwn.never rfl (pi_list (pv 0)) (pg_name (i := 4) sc_read_below.nd rfl (by first | exact Or.inl rfl | exact Or.inr rfl))
        (pss_cons (ps_if (pt_cmpR op_notIn_seq (pv 4) (pv 2) (by rfl))
          (pss_one (ps_ret (pv 3)))
          pss_nil)
        (pss_one (ps_expr (pe_bm PySem.F.plainAttrs_list PySem.F.slot_list_append PySem.F.type_list_append mt_append (pv 3) (pa_cons (pe_bm PySem.F.plainAttrs_list PySem.F.slot_list_index PySem.F.type_list_index mt_index (pv 2) (pa_cons (pv 4) pa_nil)) pa_nil))))))
      (pss_one (ps_ret (pv 3)))))), ?_⟩
    refine ⟨_, rfl, _, rfl, by omega, by omega, fun D hD => lc_range (lo := 0) (n := l) (Part H D (rightOf l)) (Part.zero hD) ?_ ?_⟩
    · intro i H2 hi pt
      refine ⟨rfl, yes ((if_pos rfl).mpr ?_)⟩
      have i0 : (0 : Int) + (i : Int) = (i : Int) := Int.zero_add _
      rw [i0]
      exact ⟨_, rfl, _, rfl, log_ok (n := i) (by omega), pt.step hD (Same.refl H2) (y := .str (num i)) (right_at hi) (by unfold rightOf; rw [List.length_map, List.length_range, sizeLine_eq]; omega)⟩
    · intro H1 pt
      obtain ⟨hR, e1⟩ := pt.done (by unfold rightOf; rw [List.length_map, List.length_range]; exact Nat.le_refl _)
      refine ⟨by show 0 ≤ sizeLine; decide, fun N hN => ?_⟩
      have neD : D ≠ N := ne_of_none hR hN
      refine ⟨_, rfl, x, rfl, ⟨_, sqL_same (e1.trans (same_new hN)) hx⟩, for_list (xs := ws.map V.str) (fun i σ' H' => ∃ (found : List Nat) (y z : Option V), σ' = [some (.ref x), some (.int (l : Nat)), some (.ref D), some (.ref N), y, z] ∧ found.length = i ∧ rdB l ws = found ++ rdB l (ws.drop i) ∧ Same H1 H' ∧ H' N = some (.lst (iv found))) ⟨[], _, _, rfl, rfl, rfl, same_new hN, upd_same⟩
        (fun i σ' H' _ z => by
          obtain ⟨_, _, _, _, _, _, e, _⟩ := z
          exact sqL_same (e1.trans e) hx) ?_ ?_⟩
      · rintro i y σ' H' hy ⟨found, y0, z0, rfl, fl, ef, e, hn⟩
        have hR' := e _ _ hR
        obtain ⟨wd, hw, rfl⟩ : ∃ wd, ws[i]? = some wd ∧ y = .str wd := by
          rw [List.getElem?_map, Option.map_eq_some_iff] at hy
          obtain ⟨wd, h1, h2⟩ := hy
          exact ⟨wd, h1, h2.symm⟩
        obtain ⟨hi, ew⟩ := List.getElem?_eq_some_iff.mp hw
        have ed : ws.drop i = wd :: ws.drop (i + 1) := by rw [List.drop_eq_getElem_cons hi, ew]
        rw [ed] at ef
        cases ei : idx l wd with
        | none =>
          refine ⟨_, rfl, _, rfl, D, _, rfl, .inl (SqL.of hR'), rfl, right_flat, true, ?_⟩
          rw [right_in, ei]
          refine ⟨rfl, iteT ⟨_, rfl, ?_⟩⟩
          rw [rdB_stop ei, List.append_nil] at ef
          refine q N _ (e1.trans e) (e1.free hN) ?_
          rw [ef]
          exact hn
        | some j =>
          obtain ⟨jl, ej⟩ := idx_some ei
          refine ⟨_, rfl, _, rfl, D, _, rfl, .inl (SqL.of hR'), rfl, right_flat, false, ?_⟩
          rw [right_in, ei]
          refine ⟨rfl, iteF ?_⟩
          refine ⟨_, rfl, .inl ⟨rfl, _, SqL.of hn⟩, _, rfl, .inl ⟨rfl, _, SqL.of hR'⟩, _, rfl, D, _, _, j, _, rfl, rfl, SqL.of hR', rfl, right_flat, right_at jl, ?_, fun m z' hm hz => ?_, N, _, _, rfl, rfl, hn, ?_, found ++ [j], _, _, rfl, ?_, ?_, fun b o hb => ?_, ?_⟩
          · show (num j == wd) = true
            rw [ej]
            simp
          · rw [right_at (by omega)] at hz
            cases hz
            show (num m == wd) = false
            have ne : num m ≠ wd := fun z => by
              rw [← ej] at z
              have := num_inj z
              omega
            simpa using ne
          · unfold iv
            rw [List.length_map, sizeLine_eq]
            omega
          · rw [List.length_append, fl]
            rfl
          · rw [ef, List.append_assoc]
            congr 1
            show rdB l (wd :: ws.drop (i + 1)) = j :: rdB l (ws.drop (i + 1))
            conv => lhs; unfold rdB
            rw [ei]
          · rw [upd_ne (ne_of_none hb hN)]
            exact e _ _ hb
          · rw [upd_same]
            unfold iv
            rw [List.map_append]
            rfl
      · rintro σ' H' ⟨found, y0, z0, rfl, fl, ef, e, hn⟩
        rw [List.length_map, List.drop_length] at ef
        have ef : rdB l ws = found := by rw [ef]; exact List.append_nil _
        refine ⟨_, rfl, q N _ (e1.trans e) (e1.free hN) ?_⟩
        rw [ef]
        exact hn
end
end K4
/-! lines are read -/
namespace K4
open L2 PySem PySem.Spec PyProof.Rows Kx TL
/-- words without blanks -/
def Free (ws : List Str) : Prop := ws ≠ [] ∧ ∀ w ∈ ws, 32 ∉ tl w
/-- a line that begins with a name: its numbers below l, none where it is not so -/
def rdL (name : Str) (l : Nat) (ws : List Str) : List Nat := if ws.head? = some name ∧ (rdB l ws.tail).length = ws.tail.length then rdB l ws.tail else []
def spRdL (K : PySem.W.Frag) : Sp := fun vs H Q _ => ∃ (ws : List Str) (name : Str) (l : Nat), vs = [.str (line ws), .str name, .int (l : Nat)] ∧ Free ws ∧ ws.length ≤ 10000 ∧ (line ws).length + 2 ≤ sizeLine ∧ l ≤ 100 ∧ ∀ p H', Same H H' → H' p = some (.lst (iv (rdL name l ws))) → Q (.ref p) H'
def spRdStates (a : Ad) : Sp := fun vs H Q E => ∃ ws : List Str, vs = [.str (line ws)] ∧ Free ws ∧ ws.length ≤ 10000 ∧ (line ws).length + 2 ≤ sizeLine ∧ ((∀ n, rdL (Str.ofString "states") 9 ws = [n] → n = 0) → Thrown E H a.cT "at" (.int 1)) ∧
  (∀ n, rdL (Str.ofString "states") 9 ws = [n] → n ≠ 0 → ∀ H', Same H H' → Q (.int (n : Nat)) H')
theorem at0 {xs : List V} {x : V} {r : List V} (h : xs = x :: r) : atI xs 0 = some x := by
  rw [h]
  exact atI_nat (j := 0) rfl
theorem split_len {α β : Type} {f : α → β} {l : List α} : ((l.map f).length : Int) = (l.length : Int) := by rw [List.length_map]
section
variable {P : Program} {w : World} {K : PySem.W.Frag} {mg : Str → Option Value} {base : Heap} {f : Addr} {fd : FuncData} {a : Ad} {C CM : Addr}
theorem sc_read_line : FnScope ["line", "name", "limit", "words", "numbers"] ["line", "name", "limit"] (defScope s_read_line) := ⟨rfl, rfl, rfl, by decide +kernel, rfl, by decide +kernel, by decide +kernel⟩
theorem ok_read_line (F : FnP K "_read_line" s_read_line f fd) (T : Mg mg) (c_below : Cal P w K mg base CX0 1 "read_below" ["words", "limit"] (spRdB K)) : FnOk P w K mg base CX0 2 f fd ["line", "name", "limit"] (spRdL K) := by
  refine F.ok sc_read_line (fun vs H Q E h => ?_) (fun cdv A outer s H vs Q E hr h => ?_)
  · obtain ⟨ws, nm, l, rfl, _⟩ := h
    rfl
  · obtain ⟨ws, nm, l, rfl, ⟨ne, fr⟩, few, fits, l100, k⟩ := h
    refine ⟨_, PSs.nox (pss_cons (ps_set (i := 3) sc_read_line.nd rfl (by first | exact Or.inl rfl | exact Or.inr rfl) (pe_split (pv 0) pe_str))
      (pss_cons (ps_set (i := 4) sc_read_line.nd rfl (by first | exact Or.inl rfl | exact Or.inr rfl) (pe_callC c_below hr pass0 (pa_cons (pe_slice sl_list (pv 3) (po_some pe_int) po_none) (pa_cons (pv 2) pa_nil))))
      (pss_cons (ps_if (PW.pt (pw_or (pt_cmpR op_ne (pe_ix ix_list (pv 3) pe_int (fun _ _ => rfl)) (pv 1) (nomark _)) (pw_or1 (pt_cmpR op_lt (pe_callB call_len_seq (by rfl) T.z_len PySem.boot_len (pa_cons (pv 4) pa_nil)) (pe_op op_sub (pe_callB call_len_seq (by rfl) T.z_len PySem.boot_len (pa_cons (pv 3) pa_nil)) pe_int) (nomark _)))))
        (pss_one (ps_ret (pe_lst pa_nil)))
        pss_nil)
      (pss_one (ps_ret (pv 4)))))), ?_⟩
    refine ⟨_, rfl, ⟨_, rfl⟩, _, _, rfl, rfl, by decide +kernel, fits, fun W hW => ?_⟩
    rw [split_line ne fr]
    have hW1 := upd_same (H := H) (a := W) (o := HO.lst (ws.map V.str))
    have e1 := same_new (o := HO.lst (ws.map V.str)) hW
    generalize upd H W (HO.lst (ws.map V.str)) = H1 at hW1 e1 ⊢
    obtain ⟨w0, r, rfl⟩ : ∃ w0 r, ws = w0 :: r := by
      cases ws with
      | nil => exact absurd rfl ne
      | cons w0 r => exact ⟨w0, r, rfl⟩
    refine ⟨_, rfl, 1, rfl, W, _, rfl, SqL.of hW1, fun V2 hV => ?_⟩
    rw [show cutV ((w0 :: r).map V.str) (some 1) none = r.map V.str from cut_from (i := 1) (by simp)]
    have e2 := same_new (o := HO.lst (r.map V.str)) hV
    refine ⟨_, rfl, V2, r, l, rfl, l100, SqL.of upd_same, by have := few; rw [List.length_cons] at this; omega, fun N H3 e3 _ hN => ?_⟩
    have hW3 := e3 _ _ (e2 _ _ hW1)
    have lens : (iv (rdB l r)).length = (rdB l r).length := List.length_map ..
    have le := rdB_le (l := l) r
    have last : rdL nm l (w0 :: r) = (if w0 = nm ∧ (rdB l r).length = r.length then rdB l r else []) := by
      unfold rdL
      simp
    refine ⟨_, rfl, W, _, 0, _, rfl, rfl, SqL.of hW3, at0 (List.map_cons ..), _, rfl, rfl, _, rfl, ?_⟩
    by_cases en : w0 = nm
    · subst en
      rw [decide_eq_true rfl]
      refine iteF ⟨_, rfl, N, _, rfl, .inl (SqL.of hN), _, rfl, W, _, rfl, .inl (SqL.of hW3), _, _, rfl, rfl, _, _, rfl, rfl, _, rfl, ?_⟩
      rw [lens, List.length_map, List.length_cons]
      by_cases el : (rdB l r).length = r.length
      · rw [if_pos ⟨rfl, el⟩] at last
        rw [show decide (((rdB l r).length : Int) < ((r.length + 1 : Nat) : Int) - 1) = false from decide_eq_false (by omega)]
        refine iteF ⟨_, rfl, k N H3 ((e1.trans e2).trans e3) ?_⟩
        rw [last]
        exact hN
      · rw [if_neg (fun z => el z.2)] at last
        rw [show decide (((rdB l r).length : Int) < ((r.length + 1 : Nat) : Int) - 1) = true from decide_eq_true (by omega)]
        refine iteT ⟨by show 0 ≤ sizeLine; decide, fun Z hZ => k Z _ (((e1.trans e2).trans e3).trans (same_new hZ)) ?_⟩
        rw [last]
        exact upd_same
    · rw [if_neg (fun z => en z.1)] at last
      rw [decide_eq_false (fun z => en (V.str.inj z))]
      refine iteT (iteT ⟨by show 0 ≤ sizeLine; decide, fun Z hZ => k Z _ (((e1.trans e2).trans e3).trans (same_new hZ)) ?_⟩)
      rw [last]
      exact upd_same
theorem sc_read_states : FnScope ["line", "numbers"] ["line"] (defScope s_read_states) := ⟨rfl, rfl, rfl, by decide +kernel, rfl, by decide +kernel, by decide +kernel⟩
theorem ok_read_states (F : FnP K "_read_states" s_read_states f fd) (T : Mg mg) (R : Er P w K mg base a) (c_line : Cal P w K mg base CX0 2 "_read_line" ["line", "name", "limit"] (spRdL K)) : FnOk P w K mg base (L2N.CX P w) 3 f fd ["line"] (spRdStates a) := by
  refine F.ok sc_read_states (fun vs H Q E h => ?_) (fun cdv A outer s H vs Q E hr h => ?_)
  · obtain ⟨ws, rfl, _⟩ := h
    rfl
  · obtain ⟨ws, rfl, fr, few, fits, bad, good⟩ := h
    refine ⟨_, (pss_cons (ps_set (i := 1) sc_read_states.nd rfl (by first | exact Or.inl rfl | exact Or.inr rfl) (pe_callC c_line hr pass0 (pa_cons (pv 0) (pa_cons pe_str (pa_cons (pe_op op_add (pe_constI T.g_STATES_MOST) pe_int) pa_nil)))))
      (pss_cons (ps_if (PW.pt (pw_or (pt_cmpR op_ne (pe_callB call_len_seq (by rfl) T.z_len PySem.boot_len (pa_cons (pv 1) pa_nil)) pe_int (nomark _)) (pw_or1 (pt_cmpR op_eq (pe_ix ix_list (pv 1) pe_int (fun _ _ => rfl)) pe_int (nomark _)))))
        (pss_one (psN R.BadText rfl hr (L2N.takes_of rfl rfl rfl rfl) (pa_cons pe_int pa_nil)))
        pss_nil)
      (pss_one (ps_ret (pe_ix ix_list (pv 1) pe_int (fun _ _ => rfl)))))), ?_⟩
    refine ⟨_, rfl, _, _, rfl, rfl, ws, _, 9, rfl, fr, few, fits, by decide, fun N H1 e1 hN => ?_⟩
    refine ⟨_, rfl, N, _, rfl, .inl (SqL.of hN), rfl, _, rfl, ?_⟩
    have lens : (iv (rdL (Str.ofString "states") 9 ws)).length = (rdL (Str.ofString "states") 9 ws).length := List.length_map ..
    rw [lens]
    generalize eL : rdL (Str.ofString "states") 9 ws = L at bad good hN ⊢
    match L, eL with
    | [], eL =>
      rw [decide_eq_false (by simp)]
      exact iteT (iteT (thrownN ((bad fun n z => by cases z).same e1).at_))
    | [n], eL =>
      rw [decide_eq_true (by simp)]
      refine iteF ⟨_, rfl, N, _, _, _, rfl, rfl, SqL.of hN, at0 (x := .int (n : Nat)) (r := []) rfl, rfl, _, rfl, ?_⟩
      by_cases z : n = 0
      · subst z
        rw [show decide (V.int ((0 : Nat) : Int) = V.int 0) = true from by decide]
        exact iteT (thrownN ((bad fun n z => by cases z; rfl).same e1).at_)
      · rw [decide_eq_false (fun h => z (by have := V.int.inj h; omega))]
        exact iteF ⟨_, rfl, N, _, _, _, rfl, rfl, SqL.of hN, at0 (x := .int (n : Nat)) (r := []) rfl, good n rfl z H1 e1⟩
    | n :: m :: r, eL =>
      rw [decide_eq_false (by simp; omega)]
      exact iteT (iteT (thrownN ((bad fun n z => by cases z).same e1).at_))
end
end K4
/-! machines and counters are made -/
namespace K4
open PySem PySem.Spec PyProof.Rows L2 Kx RZ
structure Mks (P : Program) (w : World) (K : PySem.W.Frag) (mg : Str → Option Value) (base : Heap) (a : Ad) (C CM : Addr) : Prop where
  cnt : ∃ (f : Addr) (fd : FuncData), Mk K C f ∧ FnOk P w K mg base (L2N.CX P w) 5 f fd ["self", "rounds", "rests"] (spInit K a C) ∧ Binds K fd ["self", "rounds", "rests"] []
  mac : ∃ (f : Addr) (fd : FuncData), Mk K CM f ∧ FnOk P w K mg base (L2N.CX P w) 5 f fd ["self", "tables"] (spMachine K a CM) ∧ Binds K fd ["self", "tables"] []
  eqC : ∃ (f : Addr) (fd : FuncData), EqC K C f ∧ Binds K fd ["self", "other"] [] ∧ FnOk P w K mg base CX0 1 f fd ["self", "other"] (spEqC K C)
  eqM : ∃ (f : Addr) (fd : FuncData), EqC K CM f ∧ Binds K fd ["self", "other"] [] ∧ FnOk P w K mg base CX0 1 f fd ["self", "other"] (spEqM K CM)
section
variable {X : Cx} {a : Ad} {C CM : Addr} {E : XK} {p pos : Pos} {e e2 : Expr} {t tk : TA} {n : Nat}
theorem pe_cnt2 (M : Mks X.prog X.w X.K X.mg X.base a C CM) (TC : ClsC X.K X.mg C) (hr : Room n X.A) (hx : Passes (L2N.CX X.prog X.w) X E) (ha : PA X [e, e2] t) (hn : 6 ≤ n := by decide) (hg : Gl X "Counters" := by rfl)
    (he : starEach [e, e2] X.env = (false, eval e X.env) :: starEach [e2] X.env := by rfl) (hpl : (backTo pos (starEach [e2] X.env)).any (·.1) = false := by rfl) {K : PySem.W.Frag} (hK : X.K = K := by rfl) : PE X (.Call (.Name "Counters" p) [e, e2] [] pos) (tMake C (spInit K a C) [] E t) := by
  subst hK
  obtain ⟨f, fd, h1, h2, h3⟩ := M.cnt
  exact pe_make h1 h2 (hr.mono hn) hg TC.at_ h3 .nil hx ha (by decide) he hpl
theorem pe_mac (M : Mks X.prog X.w X.K X.mg X.base a C CM) (TM : ClsM X.K X.mg CM) (hr : Room n X.A) (hx : Passes (L2N.CX X.prog X.w) X E) (ha : PA X [e] t) (hn : 6 ≤ n := by decide) (hg : Gl X "Machine" := by rfl)
    (he : starEach [e] X.env = (false, eval e X.env) :: starEach [] X.env := by rfl) (hpl : (backTo pos (starEach [] X.env)).any (·.1) = false := by rfl) {K : PySem.W.Frag} (hK : X.K = K := by rfl) : PE X (.Call (.Name "Machine" p) [e] [] pos) (tMake CM (spMachine K a CM) [] E t) := by
  subst hK
  obtain ⟨f, fd, h1, h2, h3⟩ := M.mac
  exact pe_make h1 h2 (hr.mono hn) hg TM.at_ h3 .nil hx ha (by decide) he hpl
end
theorem pzN {X : Cx} : Passes (L2N.CX X.prog X.w) X fun _ _ _ => False := L2N.passes_call (fun _ _ ⟨_, _, _, _, _, _, _, _, _, _, _, _, _, _, _, _, z⟩ => z.elim) fun _ _ _ _ z => z
theorem kns_ints {K : PySem.W.Frag} {H : Hp} {ns : List Int} {m : Nat} : Kns K H (some (ns.map V.int)) m := fun xs q _ x hx => by
  cases q
  obtain ⟨n, _, rfl⟩ := List.mem_map.mp hx
  exact .int n
theorem items_of {K : PySem.W.Frag} {H : Hp} : ∀ {vs : List V} {ts : List (List Int)}, RowsBy (Sq K H) vs ts → Items K H vs (ts.map fun t => some (t.map V.int))
  | [], [], _ => trivial
  | _ :: _, _ :: _, ⟨⟨q, h1, h2⟩, h⟩ => ⟨⟨by rw [h1]; exact .seq h2, kns_ints⟩, items_of h⟩
  | [], _ :: _, h => h.elim
  | _ :: _, [], h => h.elim
theorem isTab_of {n : Nat} {t : List Int} (n1 : 1 ≤ n) (n8 : n ≤ 8) (l : t.length = n) (b : ∀ x ∈ t, 0 ≤ x ∧ x < (n : Int)) : isTab n (some (t.map V.int)) = true := by
  rw [isTab_some, inLen_some, List.length_map, l, fnb_of b, decide_eq_true (by omega), decide_eq_true (by omega)]
  simp
theorem new_ins {C x dx : Addr} {H : Hp} (hx : H x = none) (hd : H dx = none) (ne : dx ≠ x) : Same H (upd (upd H dx (.own x)) x (.ins C dx [])) := (same_new hd).trans (same_new (by rw [upd_ne (Ne.symm ne)]; exact hx))
theorem mc_make {K : PySem.W.Frag} {a : Ad} {CM x dx b : Addr} {H : Hp} {xs : List V} {n : Nat} {ts : List (List Int)} {E : XK} {Q : Hp → Prop} (ok : Mok n ts) (hb : Sq K H b xs) (rows : RowsBy (Sq K H) xs ts) (hx : H x = none) (hd : H dx = none) (ne : dx ≠ x)
    (q : ∀ H', Same H H' → McAt K CM H' x n ts → Q H') : spMachine K a CM [.ref x, .ref b] (upd (upd H dx (.own x)) x (.ins CM dx [])) (fun v H2 => v = .non ∧ Q H2) E := by
  have e := new_ins (C := CM) hx hd ne
  have len := rows.length
  have l1 := ok.l1
  have l4 := ok.l4
  have it := items_of (rows.imp fun _ _ z => z.same e)
  have l0 : lenAt (ts.map fun t => some (t.map V.int)) = n := by
    obtain ⟨t0, ht0⟩ : ∃ t0, ts[0]? = some t0 := ⟨ts[0], List.getElem?_eq_getElem (by omega)⟩
    unfold lenAt
    rw [List.getElem?_map, ht0]
    show (t0.map V.int).length = n
    rw [List.length_map]
    exact ok.len _ (List.mem_of_getElem? ht0)
  have nb : badTab n (ts.map fun t => some (t.map V.int)) = none := badTab_none.mpr fun o ho => by
    obtain ⟨t, ht, rfl⟩ := List.mem_map.mp ho
    exact isTab_of ok.n1 ok.n8 (ok.len t ht) (ok.ent t ht)
  refine ⟨x, dx, .ref b, some xs, rfl, upd_same, .seq (hb.same e), fun z => ?_, fun ys ey _ => ?_⟩
  · rw [inLen_some, decide_eq_true (by omega), decide_eq_true (by omega)] at z
    cases z
  · cases ey
    refine ⟨_, it, fun i z => ?_, fun _ n' ts' ok' eo H' keep mc => ?_⟩
    · rw [l0, nb] at z
      cases z
    · have et := ints_map eo
      subst et
      have en : n' = n := by
        obtain ⟨t0, ht0⟩ : ∃ t0, ts[0]? = some t0 := ⟨ts[0], List.getElem?_eq_getElem (by omega)⟩
        rw [← ok.len _ (List.mem_of_getElem? ht0), ok'.len _ (List.mem_of_getElem? ht0)]
      subst en
      exact ⟨rfl, q H' (fun c o hc => keep c o (ne_of_none hc hx) (e _ _ hc)) mc⟩
theorem ints_inj : ∀ {xs ys : List Int}, xs.map V.int = ys.map V.int → xs = ys
  | [], [], _ => rfl
  | [], _ :: _, h => nomatch h
  | _ :: _, [], h => nomatch h
  | x :: xs, y :: ys, h => by
    rw [List.map_cons] at h
    rw [List.map_cons] at h
    injection h with h1 h2
    cases h1
    rw [ints_inj h2]
section
variable {K : PySem.W.Frag} {a : Ad} {C x dx : Addr} {H : Hp} {v1 v2 : V} {E : XK} {o1 o2 : Option (List V)} {rs es : List Int}
theorem rounds_ok (ok : Cok rs es) : roundsOk (some (rs.map V.int)) = true := by
  rw [roundsOk_some, inLen_some, fnb_of (l := 61) fun n hn => ⟨(ok.r n hn).1, by have := (ok.r n hn).2; omega⟩, List.length_map]
  have := ok.l1
  have := ok.l4
  rw [decide_eq_true (by omega), decide_eq_true (by omega)]
  rfl
theorem rests_ok (ok : Cok rs es) : restsOk rs.length (some (es.map V.int)) = true := by
  rw [restsOk_some, fnb_of (l := 7) fun n hn => ⟨(ok.e n hn).1, by have := (ok.e n hn).2; omega⟩, List.length_map, decide_eq_true ok.le]
  simp
theorem make_good {Q : Hp → Prop} (ok : Cok rs es) (h1 : Long K H v1 (some (rs.map V.int))) (h2 : (Long K H v2 (some []) ∧ es = List.replicate rs.length 0) ∨ Long K H v2 (some (es.map V.int))) (hx : H x = none) (hd : H dx = none) (ne : dx ≠ x)
    (q : ∀ H', Same H H' → CnAt K C H' x rs es → Q H') : spInit K a C [.ref x, v1, v2] (upd (upd H dx (.own x)) x (.ins C dx [])) (fun v H2 => v = .non ∧ Q H2) E := by
  have e := new_ins (C := C) hx hd ne
  have last : ∀ rs' es', some (rs.map V.int) = some (rs'.map V.int) → es' = es → ∀ H', (∀ b o, b ≠ x → upd (upd H dx (.own x)) x (.ins C dx []) b = some o → H' b = some o) → CnAt K C H' x rs' es' → V.non = V.non ∧ Q H' := fun rs' es' er ee H' keep cn => by
    have er := ints_inj (Option.some.inj er)
    subst er ee
    exact ⟨rfl, q H' (fun b o hb => keep b o (ne_of_none hb hx) (e _ _ hb)) cn⟩
  rcases h2 with ⟨h2, ee⟩ | h2
  · refine ⟨x, dx, v1, v2, _, some [], rfl, upd_same, h1.same e, kns_ints, h2.same e, fun xs q _ x hx => by cases q; simp at hx, fun z => ?_, fun xs e1 _ z => ?_, fun rs' es' ok' er how => ?_⟩
    · rw [rounds_ok ok] at z
      cases z
    · cases e1
      rw [restsOk_some] at z
      cases z
    · rcases how with ⟨_, e3⟩ | e3
      · exact last rs' es' er (by rw [e3, ee, ints_inj (Option.some.inj er)])
      · exfalso
        have z : es'.length = 0 := by cases es' with
          | nil => rfl
          | cons _ _ => cases e3
        have := ok'.le
        have := ok'.l1
        omega
  · refine ⟨x, dx, v1, v2, _, _, rfl, upd_same, h1.same e, kns_ints, h2.same e, kns_ints, fun z => ?_, fun xs e1 _ z => ?_, fun rs' es' ok' er how => ?_⟩
    · rw [rounds_ok ok] at z
      cases z
    · cases e1
      rw [List.length_map, rests_ok ok] at z
      cases z
    · rcases how with ⟨e3, _⟩ | e3
      · exfalso
        have z : es.length = 0 := by cases es with
          | nil => rfl
          | cons _ _ => cases e3
        have := ok.le
        have := ok.l1
        omega
      · exact last rs' es' er (ints_inj (Option.some.inj e3)).symm
end
end K4
/-! machines are read -/
namespace K4
open L2 PySem PySem.Spec PyProof.Rows Kx TL
/-- lines without line feeds, words without blanks, all of few signs -/
structure Lines (lss : List (List Str)) : Prop where
  ne : lss ≠ []
  free : ∀ ws ∈ lss, Free ws
  lf : ∀ ws ∈ lss, ∀ w ∈ ws, 10 ∉ tl w
  few : ∀ ws ∈ lss, ws.length ≤ 10000
  fits : ∀ ws ∈ lss, (line ws).length + 2 ≤ sizeLine
  all : (text (lss.map line)).length + 2 ≤ sizeLine
theorem split_lines {lss : List (List Str)} (h : Lines lss) : Txt.split (text (lss.map line)) "\n" = lss.map line := split_text (by have := h.ne; simpa using this) fun l hl => by
  obtain ⟨ws, hw, rfl⟩ := List.mem_map.mp hl
  exact line_free (by decide) (h.lf ws hw)
def okTab (n : Nat) (ws : List Str) : Bool := decide (ws.length = n) && decide ((rdB n ws).length = n)
def tabOf (n : Nat) (ws : List Str) : List Int := (rdB n ws).map fun (k : Nat) => (k : Int)
theorem tabOf_iv {n : Nat} {ws : List Str} : (tabOf n ws).map V.int = iv (rdB n ws) := by
  unfold tabOf iv
  rw [List.map_map]
  rfl
theorem rdB_lt {l : Nat} : ∀ {ws : List Str}, ∀ k ∈ rdB l ws, k < l
  | [], k, h => by cases h
  | w :: r, k, h => by
    unfold rdB at h
    cases e : idx l w with
    | none =>
      rw [e] at h
      cases h
    | some i =>
      rw [e] at h
      rcases List.mem_cons.mp h with rfl | h
      · exact (idx_some e).1
      · exact rdB_lt k h
/-- the first line of a machine's text that is not so; of how many states -/
def mBadL (tl : List (List Str)) : List Nat → Option Nat
  | [n] => if n = 0 then some 1 else match (tl.take 4).findIdx? (fun ws => !okTab n ws) with
    | some i => some (i + 2)
    | none => if tl = [] then some 2 else if 4 < tl.length then some 6 else none
  | _ => some 1
def mBad : List (List Str) → Option Nat
  | [] => none
  | hd :: tl => mBadL tl (rdL (Str.ofString "states") 9 hd)
def mStates (lss : List (List Str)) : Nat := match rdL (Str.ofString "states") 9 (lss.headD []) with
  | [n] => n
  | _ => 0
def mTabs (lss : List (List Str)) : List (List Int) := lss.tail.map (tabOf (mStates lss))
def spRdM (K : PySem.W.Frag) (a : Ad) (CM : Addr) : Sp := fun vs H Q E => ∃ v, vs = [v] ∧ Kn K H v ∧ ((∀ x, v ≠ .str x) → Thrown E H a.cT "at" (.int 0)) ∧
  (∀ x, v = .str x → ∃ lss, x = text (lss.map line) ∧ Lines lss ∧ (∀ i, mBad lss = some i → Thrown E H a.cT "at" (.int (i : Nat))) ∧ (mBad lss = none → ∀ p H', Same H H' → McAt K CM H' p (mStates lss) (mTabs lss) → Q (.ref p) H'))
theorem rdL_lt {nm : Str} {l : Nat} {ws : List Str} : ∀ k ∈ rdL nm l ws, k < l := fun k h => by
  unfold rdL at h
  split at h
  · exact rdB_lt k h
  · cases h
theorem cut_15 {xs : List V} (h : 1 ≤ xs.length) : cutV xs (some 1) (some 5) = (xs.drop 1).take 4 := by
  unfold cutV
  rw [show (some (1 : Int)) = some ((1 : Nat) : Int) from rfl, show (some (5 : Int)) = some ((5 : Nat) : Int) from rfl, HT.sIx_nat, HT.sIx_nat, Nat.min_eq_left h]
  rw [List.take_eq_take_min (i := 4), List.length_drop, List.take_eq_take_min (i := min 5 xs.length - 1), List.length_drop]
  congr 1
  omega
section
variable {P : Program} {w : World} {K : PySem.W.Frag} {mg : Str → Option Value} {base : Heap} {f : Addr} {fd : FuncData} {a : Ad} {C CM : Addr}
theorem sc_read_machine : FnScope ["text", "lines", "states", "tables", "line", "words", "table"] ["text"] (defScope s_read_machine) := ⟨rfl, rfl, rfl, by decide +kernel, rfl, by decide +kernel, by decide +kernel⟩
theorem ok_read_machine (F : FnP K "read_machine" s_read_machine f fd) (T : Mg mg) (TM : ClsM K mg CM) (R : Er P w K mg base a) (M : Mks P w K mg base a C CM) (c_text : Cal P w K mg base (L2N.CX P w) 4 "_need_text" ["text"] (spText K a))
    (c_below : Cal P w K mg base CX0 1 "read_below" ["words", "limit"] (spRdB K)) (c_states : Cal P w K mg base (L2N.CX P w) 3 "_read_states" ["line"] (spRdStates a)) : FnOk P w K mg base (L2N.CX P w) 7 f fd ["text"] (spRdM K a CM) := by
  refine F.ok sc_read_machine (fun vs H Q E h => ?_) (fun cdv A outer s H vs Q E hr h => ?_)
  · obtain ⟨v, rfl, _⟩ := h
    rfl
  · obtain ⟨v, rfl, kn, bad0, rest⟩ := h
    refine ⟨_, (pss_cons (ps_set (i := 1) sc_read_machine.nd rfl (by first | exact Or.inl rfl | exact Or.inr rfl) (pe_split (pe_callC c_text hr (L2N.passes_call (E := E) (L2N.takes_of rfl rfl rfl rfl) (fun _ _ _ _ z => z)) (pa_cons (pv 0) pa_nil)) pe_str))
      (pss_cons (ps_set (i := 2) sc_read_machine.nd rfl (by first | exact Or.inl rfl | exact Or.inr rfl) (pe_callC c_states hr (L2N.passes_call (E := E) (L2N.takes_of rfl rfl rfl rfl) (fun _ _ _ _ z => z)) (pa_cons (pe_ix ix_list (pv 1) pe_int (fun _ _ => rfl)) pa_nil)))
      (pss_cons (ps_set (i := 3) sc_read_machine.nd rfl (by first | exact Or.inl rfl | exact Or.inr rfl) (pe_lst pa_nil))
      (pss_cons (ps_for (passes_of rfl) rfl (pi_list (pe_slice sl_list (pv 1) (po_some pe_int) (po_some (pe_op op_add (pe_constI T.g_DEEDS_MOST) pe_int)))) (pg_name (i := 4) sc_read_machine.nd rfl (by first | exact Or.inl rfl | exact Or.inr rfl))
        (pss_cons (ps_set (i := 5) sc_read_machine.nd rfl (by first | exact Or.inl rfl | exact Or.inr rfl) (pe_split (pv 4) pe_str))
        (pss_cons (ps_set (i := 6) sc_read_machine.nd rfl (by first | exact Or.inl rfl | exact Or.inr rfl) (pe_callC c_below hr pass0 (pa_cons (pv 5) (pa_cons (pv 2) pa_nil))))
        (pss_cons (ps_if (PW.pt (pw_or (pt_cmpR op_ne (pe_callB call_len_seq (by rfl) T.z_len PySem.boot_len (pa_cons (pv 5) pa_nil)) (pv 2) (nomark _)) (pw_or1 (pt_cmpR op_ne (pe_callB call_len_seq (by rfl) T.z_len PySem.boot_len (pa_cons (pv 6) pa_nil)) (pv 2) (nomark _)))))
          (pss_one (psN R.BadText rfl hr (L2N.takes_of rfl rfl rfl rfl) (pa_cons (pe_op op_add (pe_callB call_len_seq (by rfl) T.z_len PySem.boot_len (pa_cons (pv 3) pa_nil)) pe_int) pa_nil)))
          pss_nil)
        (pss_one (ps_expr (pe_bm PySem.F.plainAttrs_list PySem.F.slot_list_append PySem.F.type_list_append mt_append (pv 3) (pa_cons (pv 6) pa_nil))))))))
      (pss_cons (ps_if (PW.pt (pw_or (pt_cmpR op_eq (pe_callB call_len_seq (by rfl) T.z_len PySem.boot_len (pa_cons (pv 3) pa_nil)) pe_int (nomark _)) (pw_or1 (pt_cmpR op_lt (pe_callB call_len_seq (by rfl) T.z_len PySem.boot_len (pa_cons (pv 3) pa_nil)) (pe_op op_sub (pe_callB call_len_seq (by rfl) T.z_len PySem.boot_len (pa_cons (pv 1) pa_nil)) pe_int) (nomark _)))))
        (pss_one (psN R.BadText rfl hr (L2N.takes_of rfl rfl rfl rfl) (pa_cons (pe_op op_add (pe_callB call_len_seq (by rfl) T.z_len PySem.boot_len (pa_cons (pv 3) pa_nil)) pe_int) pa_nil)))
        pss_nil)
      (pss_one (ps_ret (pe_mac (K := K) M TM hr pzN (pa_cons (pv 3) pa_nil))))))))), ?_⟩
    refine ⟨_, rfl, v, rfl, kn, fun x ev => ?_, bad0⟩
    obtain ⟨lss, rfl, L, bad, good⟩ := rest x ev
    subst ev
    refine ⟨⟨_, rfl⟩, _, _, rfl, rfl, by decide +kernel, L.all, fun W hW => ?_⟩
    rw [split_lines L]
    have hW1 := upd_same (H := H) (a := W) (o := HO.lst ((lss.map line).map V.str))
    have e1 := same_new (o := HO.lst ((lss.map line).map V.str)) hW
    generalize upd H W (HO.lst ((lss.map line).map V.str)) = H1 at hW1 e1 ⊢
    obtain ⟨hd, r, rfl⟩ : ∃ hd r, lss = hd :: r := by
      cases lss with
      | nil => exact absurd rfl L.ne
      | cons hd r => exact ⟨hd, r, rfl⟩
    have mh : hd ∈ hd :: r := List.mem_cons_self ..
    refine ⟨_, rfl, W, _, 0, _, rfl, rfl, SqL.of hW1, at0 (List.map_cons ..), hd, rfl, L.free hd mh, L.few hd mh, L.fits hd mh, fun z => ?_, fun n en n0 H2 e2 => ?_⟩
    · refine (bad 1 ?_).same e1
      show mBadL r (rdL (Str.ofString "states") 9 hd) = some 1
      match rdL (Str.ofString "states") 9 hd, z with
      | [], _ => rfl
      | [n], z => exact if_pos (z n rfl)
      | _ :: _ :: _, _ => rfl
    · have n9 : n < 9 := rdL_lt n (by rw [en]; exact List.mem_singleton.mpr rfl)
      have mb : mBad (hd :: r) = mBadL r [n] := congrArg (mBadL r) en
      have ms : mStates (hd :: r) = n := by
        unfold mStates
        rw [List.headD_cons, en]
      have mb2 : mBadL r [n] = (match (r.take 4).findIdx? (fun ws => !okTab n ws) with
        | some i => some (i + 2)
        | none => if r = [] then some 2 else if 4 < r.length then some 6 else none) := if_neg n0
      rw [mb2] at mb
      refine ⟨by show 0 ≤ sizeLine; decide, fun Tb hTb => ?_⟩
      have eT := same_new (o := HO.lst []) hTb
      have hT := upd_same (H := H2) (a := Tb) (o := HO.lst [])
      have hW2 := eT _ _ (e2 _ _ hW1)
      have fT : ∀ b o, H2 b = some o → b ≠ Tb := fun b o hb => ne_of_none hb hTb
      generalize upd H2 Tb (HO.lst []) = H3 at eT hT hW2 ⊢
      refine ⟨_, rfl, 1, rfl, _, _, rfl, rfl, 5, rfl, W, _, rfl, SqL.of hW2, fun V2 hV => ?_⟩
      rw [show cutV (((hd :: r).map line).map V.str) (some 1) (some 5) = ((r.take 4).map line).map V.str from by rw [cut_15 (by simp), List.map_cons, List.map_cons, List.drop_one, List.tail_cons, List.map_take, List.map_take]]
      have eV := same_new (o := HO.lst (((r.take 4).map line).map V.str)) hV
      have hV4 := upd_same (H := H3) (a := V2) (o := HO.lst (((r.take 4).map line).map V.str))
      have nVT : V2 ≠ Tb := fun z => by rw [z, hT] at hV; cases hV
      have hT4 := eV _ _ hT
      have e24 := eT.trans eV
      generalize upd H3 V2 (HO.lst (((r.take 4).map line).map V.str)) = H4 at eV hV4 hT4 e24 ⊢
      refine ⟨V2, rfl, ⟨_, SqL.of hV4⟩, for_list (xs := ((r.take 4).map line).map V.str) (fun i σ' H' => ∃ (ps : List V) (x4 x5 x6 : Option V), σ' = [some (.str (text ((hd :: r).map line))), some (.ref W), some (.int (n : Nat)), some (.ref Tb), x4, x5, x6] ∧ Same H2 H' ∧ H' V2 = some (.lst (((r.take 4).map line).map V.str)) ∧ H' Tb = some (.lst ps) ∧
        RowsBy (fun q xs => H' q = some (.lst xs) ∧ q ≠ Tb) ps (((r.take 4).take i).map (tabOf n)) ∧ ∀ j ws, j < i → (r.take 4)[j]? = some ws → okTab n ws = true) ⟨[], _, _, _, rfl, e24, hV4, hT4, trivial, fun j ws hj => absurd hj (Nat.not_lt_zero j)⟩ (fun i σ' H' _ z => by
          obtain ⟨_, _, _, _, _, _, hv, _⟩ := z
          exact SqL.of hv) ?_ ?_⟩
      · rintro i y σ' H5 hy ⟨ps, x4, x5, x6, rfl, e5, hV5, hT5, rows, oks⟩
        obtain ⟨ws, hw, rfl⟩ : ∃ ws, (r.take 4)[i]? = some ws ∧ y = .str (line ws) := by
          rw [List.getElem?_map, List.getElem?_map] at hy
          cases e : (r.take 4)[i]? with
          | none => rw [e] at hy; cases hy
          | some ws => rw [e] at hy; exact ⟨ws, rfl, (Option.some.inj hy).symm⟩
        have hi := (List.getElem?_eq_some_iff.mp hw).1
        have mw : ws ∈ hd :: r := List.mem_cons_of_mem _ (List.mem_of_mem_take (List.mem_of_getElem? hw))
        have lp : ps.length = i := by
          rw [rows.length, List.length_map, List.length_take]
          omega
        have i4 : i < 4 := by
          rw [List.length_take] at hi
          omega
        refine ⟨_, rfl, ⟨_, rfl⟩, _, _, rfl, rfl, by decide +kernel, L.fits ws mw, fun Wd hWd => ?_⟩
        rw [split_line (L.free ws mw).1 (L.free ws mw).2]
        have e6 := same_new (o := HO.lst (ws.map V.str)) hWd
        have hWd6 := upd_same (H := H5) (a := Wd) (o := HO.lst (ws.map V.str))
        generalize upd H5 Wd (HO.lst (ws.map V.str)) = H6 at e6 hWd6 ⊢
        refine ⟨_, rfl, _, rfl, Wd, ws, n, rfl, by omega, SqL.of hWd6, by have := L.few ws mw; omega, fun N H7 e7 nN hN => ?_⟩
        have e57 := e6.trans e7
        have hT7 := e57 _ _ hT5
        have e27 := e5.trans e57
        have lens : (iv (rdB n ws)).length = (rdB n ws).length := List.length_map ..
        refine ⟨_, rfl, Wd, _, rfl, .inl (SqL.of (e7 _ _ hWd6)), _, rfl, rfl, _, rfl, ?_⟩
        have bd : okTab n ws = false → Thrown E H7 a.cT "at" (.int ((ps.length : Int) + 2)) := fun hb => by
          have t := (bad (i + 2) (by
            rw [mb, List.findIdx?_eq_some_iff_getElem.mpr ⟨hi, by rw [(List.getElem?_eq_some_iff.mp hw).2, hb]; rfl, fun j hj => ?_⟩]
            have hj2 : j < (r.take 4).length := by omega
            rw [oks j _ hj (List.getElem?_eq_getElem hj2)]
            simp)).same ((e1.trans e2).trans e27)
          rw [show (((i + 2 : Nat) : Int)) = (ps.length : Int) + 2 from by rw [lp]; omega] at t
          exact t
        by_cases el : ws.length = n
        · rw [List.length_map, show decide (V.int (ws.length : Int) = V.int (n : Int)) = true from by rw [el]; exact decide_eq_true rfl]
          refine iteF ⟨_, rfl, N, _, rfl, .inl (SqL.of hN), _, rfl, rfl, _, rfl, ?_⟩
          rw [lens]
          by_cases el2 : (rdB n ws).length = n
          · rw [show decide (V.int ((rdB n ws).length : Int) = V.int (n : Int)) = true from by rw [el2]; exact decide_eq_true rfl]
            have nNT : N ≠ Tb := fun z => by rw [z, e6 _ _ hT5] at nN; cases nN
            have eo : okTab n ws = true := by
              unfold okTab
              rw [decide_eq_true el, decide_eq_true el2]
              rfl
            refine iteF ⟨_, rfl, .inl ⟨rfl, _, SqL.of hT7⟩, _, rfl, Tb, _, _, rfl, rfl, hT7, by rw [lp, sizeLine_eq]; omega, ps ++ [.ref N], _, _, _, rfl, fun b o hb => ?_, ?_, upd_same, ?_, fun j ws' hj hj' => ?_⟩
            · rw [upd_ne (fT b o hb)]
              exact e27 _ _ hb
            · rw [upd_ne nVT]
              exact e57 _ _ hV5
            · rw [take_snoc hw, List.map_append]
              refine RowsBy.snoc ⟨by rw [upd_ne nNT, tabOf_iv]; exact hN, nNT⟩ (rows.imp fun q xs z => ⟨by rw [upd_ne z.2]; exact e57 _ _ z.1, z.2⟩)
            · rcases Nat.lt_or_eq_of_le (Nat.le_of_lt_succ hj) with h | rfl
              · exact oks j ws' h hj'
              · rw [hw] at hj'
                cases hj'
                exact eo
          · rw [show decide (V.int ((rdB n ws).length : Int) = V.int (n : Int)) = false from decide_eq_false fun z => el2 (by have := V.int.inj z; omega)]
            refine iteT ⟨_, rfl, Tb, _, rfl, .inl (SqL.of hT7), _, _, rfl, rfl, thrownN (bd ?_).at_⟩
            unfold okTab
            rw [decide_eq_false el2, Bool.and_false]
        · rw [List.length_map, show decide (V.int (ws.length : Int) = V.int (n : Int)) = false from decide_eq_false fun z => el (by have := V.int.inj z; omega)]
          refine iteT (iteT ⟨_, rfl, Tb, _, rfl, .inl (SqL.of hT7), _, _, rfl, rfl, thrownN (bd ?_).at_⟩)
          unfold okTab
          rw [decide_eq_false el, Bool.false_and]
      · rintro σ' H5 ⟨ps, x4, x5, x6, rfl, e5, hV5, hT5, rows, oks⟩
        rw [List.length_map, List.length_map] at rows oks
        rw [List.take_length] at rows
        have lp : ps.length = (r.take 4).length := by rw [rows.length, List.length_map]
        have e15 := (e1.trans e2).trans e5
        have fn : (r.take 4).findIdx? (fun ws => !okTab n ws) = none := List.findIdx?_eq_none_iff.mpr fun ws hm => by
          obtain ⟨j, hj, ej⟩ := List.getElem_of_mem hm
          rw [oks j ws hj (by rw [List.getElem?_eq_getElem hj, ej])]
          rfl
        rw [fn] at mb
        have hW5 := e5 _ _ (e2 _ _ hW1)
        rw [List.length_take] at lp
        refine ⟨_, rfl, Tb, _, rfl, .inl (SqL.of hT5), rfl, _, rfl, ?_⟩
        by_cases er : r = []
        · subst er
          have l0 : ps.length = 0 := by rw [lp]; rfl
          have t := (bad 2 mb).same e15
          rw [show decide (V.int (ps.length : Int) = V.int 0) = true from by rw [l0]; rfl]
          refine iteT (iteT ⟨_, rfl, Tb, _, rfl, .inl (SqL.of hT5), _, _, rfl, rfl, ?_⟩)
          rw [l0]
          exact thrownN t.at_
        · have lr : 1 ≤ r.length := by
            cases r with
            | nil => exact absurd rfl er
            | cons _ _ => simp
          rw [show decide (V.int (ps.length : Int) = V.int 0) = false from decide_eq_false fun z => by have := V.int.inj z; omega]
          refine iteF ⟨_, rfl, Tb, _, rfl, .inl (SqL.of hT5), _, rfl, W, _, rfl, .inl (SqL.of hW5), _, _, rfl, rfl, _, _, rfl, rfl, _, rfl, ?_⟩
          rw [List.length_map, List.length_map, List.length_cons]
          rw [if_neg er] at mb
          by_cases l4 : 4 < r.length
          · rw [if_pos l4] at mb
            have t := (bad 6 mb).same e15
            rw [show decide ((ps.length : Int) < ((r.length + 1 : Nat) : Int) - 1) = true from decide_eq_true (by omega)]
            refine iteT ⟨_, rfl, Tb, _, rfl, .inl (SqL.of hT5), _, _, rfl, rfl, ?_⟩
            rw [show ps.length = 4 from by omega]
            exact thrownN t.at_
          · rw [if_neg l4] at mb
            rw [show decide ((ps.length : Int) < ((r.length + 1 : Nat) : Int) - 1) = false from decide_eq_false (by omega)]
            have et : r.take 4 = r := List.take_of_length_le (by omega)
            rw [et] at rows oks
            refine iteF ⟨_, rfl, fun x dx hx hdx nx => ?_⟩
            have mt : mTabs (hd :: r) = r.map (tabOf n) := by
              unfold mTabs
              rw [ms]
              rfl
            have q := good mb
            rw [ms, mt] at q
            refine mc_make (n := n) (ts := r.map (tabOf n)) ⟨by rw [List.length_map]; exact lr, by rw [List.length_map]; omega, by omega, by omega, fun t ht => ?_, fun t ht z hz => ?_⟩ (.inl (SqL.of hT5)) (rows.imp fun q xs z => .inl (SqL.of z.1)) hx hdx nx fun G eG mc => q x G (e15.trans eG) mc
            · obtain ⟨ws, hm, rfl⟩ := List.mem_map.mp ht
              obtain ⟨j, hj, ej⟩ := List.getElem_of_mem hm
              have := oks j ws hj (by rw [List.getElem?_eq_getElem hj, ej])
              unfold okTab at this
              rw [Bool.and_eq_true] at this
              unfold tabOf
              rw [List.length_map]
              exact of_decide_eq_true this.2
            · obtain ⟨ws, hm, rfl⟩ := List.mem_map.mp ht
              unfold tabOf at hz
              obtain ⟨k, hk, rfl⟩ := List.mem_map.mp hz
              have := rdB_lt k hk
              omega
end
end K4
/-! counters and rows are read -/
namespace K4
open L2 PySem PySem.Spec PyProof.Rows Kx TL
def natI (ns : List Nat) : List Int := ns.map fun (k : Nat) => (k : Int)
theorem natI_iv {ns : List Nat} : (natI ns).map V.int = iv ns := by
  unfold natI iv
  rw [List.map_map]
  rfl
def cRounds (lss : List (List Str)) : List Nat := rdL (Str.ofString "rounds") 61 (lss.headD [])
def cRests (lss : List (List Str)) : List Nat := rdL (Str.ofString "rests") 7 (lss.tail.headD [])
/-- the first line of counters' text that is not so -/
def cBad : List (List Str) → Option Nat
  | [] => none
  | hd :: tl => if (rdL (Str.ofString "rounds") 61 hd).length = 0 ∨ 4 < (rdL (Str.ofString "rounds") 61 hd).length then some 1 else match tl with
    | [] => some 2
    | l2 :: r => if (rdL (Str.ofString "rests") 7 l2).length ≠ (rdL (Str.ofString "rounds") 61 hd).length then some 2 else if r ≠ [] then some 3 else none
def spRdC (K : PySem.W.Frag) (a : Ad) (C : Addr) : Sp := fun vs H Q E => ∃ v, vs = [v] ∧ Kn K H v ∧ ((∀ x, v ≠ .str x) → Thrown E H a.cT "at" (.int 0)) ∧
  (∀ x, v = .str x → ∃ lss, x = text (lss.map line) ∧ Lines lss ∧ (∀ i, cBad lss = some i → Thrown E H a.cT "at" (.int (i : Nat))) ∧ (cBad lss = none → ∀ p H', Same H H' → CnAt K C H' p (natI (cRounds lss)) (natI (cRests lss)) → Q (.ref p) H'))
/-- a row's words -/
def spRdR (K : PySem.W.Frag) (a : Ad) (CM : Addr) : Sp := fun vs H Q E => ∃ m n ts v, vs = [.ref m, v] ∧ McAt K CM H m n ts ∧ Kn K H v ∧ ((∀ x, v ≠ .str x) → Thrown E H a.cT "at" (.int 0)) ∧
  (∀ x, v = .str x → ∃ ws, x = line ws ∧ Free ws ∧ ws.length ≤ 10000 ∧ (line ws).length + 2 ≤ sizeLine ∧ (x = Str.ofString "-" → ∀ p H', Same H H' → SqT K H' p [] → Q (.ref p) H') ∧
    (x ≠ Str.ofString "-" → ((rdB ts.length (ws.take 400)).length < ws.length → Thrown E H a.cT "at" (.int ((rdB ts.length (ws.take 400)).length : Nat))) ∧
      (¬(rdB ts.length (ws.take 400)).length < ws.length → ∀ p H', Same H H' → SqT K H' p (iv (rdB ts.length (ws.take 400))) → Q (.ref p) H')))
theorem at1 {xs : List V} {x y : V} {r : List V} (h : xs = x :: y :: r) : atI xs 1 = some y := by
  rw [h]
  exact atI_nat (j := 1) rfl
theorem iv_len {ns : List Nat} : (iv ns).length = ns.length := List.length_map ..
theorem cut_to' {xs : List V} : cutV xs none (some 400) = xs.take 400 := by
  unfold cutV
  rw [show (some (400 : Int)) = some ((400 : Nat) : Int) from rfl, HT.sIx_none, HT.sIx_nat, List.drop_zero, Nat.sub_zero]
  rw [List.take_eq_take_min (i := 400)]
section
variable {P : Program} {w : World} {K : PySem.W.Frag} {mg : Str → Option Value} {base : Heap} {f : Addr} {fd : FuncData} {a : Ad} {C CM : Addr}
theorem sc_read_counters : FnScope ["text", "lines", "rounds", "rests"] ["text"] (defScope s_read_counters) := ⟨rfl, rfl, rfl, by decide +kernel, rfl, by decide +kernel, by decide +kernel⟩
theorem ok_read_counters (F : FnP K "read_counters" s_read_counters f fd) (T : Mg mg) (TC : ClsC K mg C) (R : Er P w K mg base a) (M : Mks P w K mg base a C CM) (c_text : Cal P w K mg base (L2N.CX P w) 4 "_need_text" ["text"] (spText K a))
    (c_line : Cal P w K mg base CX0 2 "_read_line" ["line", "name", "limit"] (spRdL K)) (c_seq : Cal P w K mg base CX0 1 "is_sequence" ["value", "least", "most"] (spSeq K)) : FnOk P w K mg base (L2N.CX P w) 7 f fd ["text"] (spRdC K a C) := by
  refine F.ok sc_read_counters (fun vs H Q E h => ?_) (fun cdv A outer s H vs Q E hr h => ?_)
  · obtain ⟨v, rfl, _⟩ := h
    rfl
  · obtain ⟨v, rfl, kn, bad0, rest⟩ := h
    refine ⟨_, (pss_cons (ps_set (i := 1) sc_read_counters.nd rfl (by first | exact Or.inl rfl | exact Or.inr rfl) (pe_split (pe_callC c_text hr (L2N.passes_call (E := E) (L2N.takes_of rfl rfl rfl rfl) (fun _ _ _ _ z => z)) (pa_cons (pv 0) pa_nil)) pe_str))
      (pss_cons (ps_set (i := 2) sc_read_counters.nd rfl (by first | exact Or.inl rfl | exact Or.inr rfl) (pe_callC c_line hr pass0 (pa_cons (pe_ix ix_list (pv 1) pe_int (fun _ _ => rfl)) (pa_cons pe_str (pa_cons (pe_op op_add (pe_constI T.g_ROUND_MOST) pe_int) pa_nil)))))
      (pss_cons (ps_if (pt_not (pt_val (pe_callC c_seq hr pass0 (pa_cons (pv 2) (pa_cons pe_int (pa_cons (pe_constI T.g_DEEDS_MOST) pa_nil))))))
        (pss_one (psN R.BadText rfl hr (L2N.takes_of rfl rfl rfl rfl) (pa_cons pe_int pa_nil)))
        pss_nil)
      (pss_cons (ps_if (pt_cmpR op_lt (pe_callB call_len_seq (by rfl) T.z_len PySem.boot_len (pa_cons (pv 1) pa_nil)) pe_int (nomark _))
        (pss_one (psN R.BadText rfl hr (L2N.takes_of rfl rfl rfl rfl) (pa_cons pe_int pa_nil)))
        pss_nil)
      (pss_cons (ps_set (i := 3) sc_read_counters.nd rfl (by first | exact Or.inl rfl | exact Or.inr rfl) (pe_callC c_line hr pass0 (pa_cons (pe_ix ix_list (pv 1) pe_int (fun _ _ => rfl)) (pa_cons pe_str (pa_cons (pe_op op_add (pe_constI T.g_REST_MOST) pe_int) pa_nil)))))
      (pss_cons (ps_if (pt_cmpR op_ne (pe_callB call_len_seq (by rfl) T.z_len PySem.boot_len (pa_cons (pv 3) pa_nil)) (pe_callB call_len_seq (by rfl) T.z_len PySem.boot_len (pa_cons (pv 2) pa_nil)) (nomark _))
        (pss_one (psN R.BadText rfl hr (L2N.takes_of rfl rfl rfl rfl) (pa_cons pe_int pa_nil)))
        pss_nil)
      (pss_cons (ps_if (pt_cmpR op_gt (pe_callB call_len_seq (by rfl) T.z_len PySem.boot_len (pa_cons (pv 1) pa_nil)) pe_int (nomark _))
        (pss_one (psN R.BadText rfl hr (L2N.takes_of rfl rfl rfl rfl) (pa_cons pe_int pa_nil)))
        pss_nil)
      (pss_one (ps_ret (pe_cnt2 (K := K) M TC hr pzN (pa_cons (pv 2) (pa_cons (pv 3) pa_nil)))))))))))), ?_⟩
    refine ⟨_, rfl, v, rfl, kn, fun x ev => ?_, bad0⟩
    obtain ⟨lss, rfl, L, bad, good⟩ := rest x ev
    subst ev
    refine ⟨⟨_, rfl⟩, _, _, rfl, rfl, by decide +kernel, L.all, fun W hW => ?_⟩
    rw [split_lines L]
    have hW1 := upd_same (H := H) (a := W) (o := HO.lst ((lss.map line).map V.str))
    have e1 := same_new (o := HO.lst ((lss.map line).map V.str)) hW
    generalize upd H W (HO.lst ((lss.map line).map V.str)) = H1 at hW1 e1 ⊢
    obtain ⟨hd, r, rfl⟩ : ∃ hd r, lss = hd :: r := by
      cases lss with
      | nil => exact absurd rfl L.ne
      | cons hd r => exact ⟨hd, r, rfl⟩
    have mh : hd ∈ hd :: r := List.mem_cons_self ..
    refine ⟨_, rfl, W, _, 0, _, rfl, rfl, SqL.of hW1, at0 (List.map_cons ..), _, _, rfl, rfl, hd, _, 61, rfl, L.free hd mh, L.few hd mh, L.fits hd mh, by decide, fun N H2 e2 hN => ?_⟩
    have ec : cRounds (hd :: r) = rdL (Str.ofString "rounds") 61 hd := rfl
    have eb : cBad (hd :: r) = (if (rdL (Str.ofString "rounds") 61 hd).length = 0 ∨ 4 < (rdL (Str.ofString "rounds") 61 hd).length then some 1 else match r with
      | [] => some 2
      | l2 :: r => if (rdL (Str.ofString "rests") 7 l2).length ≠ (rdL (Str.ofString "rounds") 61 hd).length then some 2 else if r ≠ [] then some 3 else none) := rfl
    have lt61 : ∀ k ∈ rdL (Str.ofString "rounds") 61 hd, k < 61 := rdL_lt
    generalize rdL (Str.ofString "rounds") 61 hd = rs at hN ec eb lt61 ⊢
    refine ⟨_, rfl, .ref N, _, _, some (iv rs), rfl, .seq (.inl (SqL.of hN)), fun H3 e3 => ⟨_, rfl, ?_⟩⟩
    have e13 := e1.trans (e2.trans e3)
    rw [inLen_some, iv_len]
    by_cases c1 : rs.length = 0 ∨ 4 < rs.length
    · rw [if_pos c1] at eb
      have t := (bad 1 eb).same e13
      rw [show (decide ((1 : Int) ≤ (rs.length : Int)) && decide ((rs.length : Int) ≤ 4)) = false from by
        rw [Bool.and_eq_false_iff, decide_eq_false_iff_not, decide_eq_false_iff_not]
        omega]
      exact iteT (thrownN t.at_)
    rw [if_neg c1] at eb
    rw [show (decide ((1 : Int) ≤ (rs.length : Int)) && decide ((rs.length : Int) ≤ 4)) = true from by
      rw [Bool.and_eq_true, decide_eq_true_eq, decide_eq_true_eq]
      omega]
    have hW3 := e3 _ _ (e2 _ _ hW1)
    refine iteF ⟨_, rfl, W, _, rfl, .inl (SqL.of hW3), _, _, rfl, rfl, _, rfl, ?_⟩
    rw [List.length_map, List.length_map, List.length_cons]
    cases r with
    | nil =>
      have t := (bad 2 eb).same e13
      exact iteT (thrownN t.at_)
    | cons l2 r =>
      have m2 : l2 ∈ hd :: l2 :: r := List.mem_cons_of_mem _ (List.mem_cons_self ..)
      rw [show decide ((((l2 :: r).length + 1 : Nat) : Int) < 2) = false from decide_eq_false (by rw [List.length_cons]; omega)]
      refine iteF ⟨_, rfl, W, _, 1, _, rfl, rfl, SqL.of hW3, at1 (by rw [List.map_cons, List.map_cons, List.map_cons, List.map_cons]), _, _, rfl, rfl, l2, _, 7, rfl, L.free l2 m2, L.few l2 m2, L.fits l2 m2, by decide, fun Z H4 e4 hZ => ?_⟩
      have es : cRests (hd :: l2 :: r) = rdL (Str.ofString "rests") 7 l2 := rfl
      have eb : cBad (hd :: l2 :: r) = (if (rdL (Str.ofString "rests") 7 l2).length ≠ rs.length then some 2 else if r ≠ [] then some 3 else none) := eb
      have lt7 : ∀ k ∈ rdL (Str.ofString "rests") 7 l2, k < 7 := rdL_lt
      generalize rdL (Str.ofString "rests") 7 l2 = qs at hZ es eb lt7 ⊢
      have e14 := e13.trans e4
      have hN4 := e4 _ _ (e3 _ _ hN)
      refine ⟨_, rfl, Z, _, rfl, .inl (SqL.of hZ), _, rfl, N, _, rfl, .inl (SqL.of hN4), rfl, _, rfl, ?_⟩
      rw [iv_len, iv_len]
      by_cases c2 : qs.length = rs.length
      · rw [if_neg (fun z => z c2)] at eb
        rw [show decide (V.int (qs.length : Int) = V.int (rs.length : Int)) = true from by rw [c2]; exact decide_eq_true rfl]
        refine iteF ⟨_, rfl, W, _, rfl, .inl (SqL.of (e4 _ _ hW3)), _, _, rfl, rfl, _, rfl, ?_⟩
        rw [List.length_map, List.length_map, List.length_cons, List.length_cons]
        by_cases c3 : r = []
        · subst c3
          rw [if_neg (fun z => z rfl)] at eb
          have q := good eb
          rw [ec, es] at q
          refine iteF ⟨_, rfl, _, rfl, fun x dx hx hdx nx => ?_⟩
          refine make_good (rs := natI rs) (es := natI qs) ⟨?_, ?_, ?_, fun z hz => ?_, fun z hz => ?_⟩ (.seq (.inl (SqL.of (by rw [natI_iv]; exact hN4)))) (.inr (.seq (.inl (SqL.of (by rw [natI_iv]; exact hZ))))) hx hdx nx fun G eG cn => q x G (e14.trans eG) cn
          · unfold natI
            rw [List.length_map]
            omega
          · unfold natI
            rw [List.length_map]
            omega
          · unfold natI
            rw [List.length_map, List.length_map]
            exact c2
          · obtain ⟨k, hk, rfl⟩ := List.mem_map.mp hz
            have := lt61 k hk
            omega
          · obtain ⟨k, hk, rfl⟩ := List.mem_map.mp hz
            have := lt7 k hk
            omega
        · rw [if_pos c3] at eb
          have t := (bad 3 eb).same e14
          have l1 : 1 ≤ r.length := by
            cases r with
            | nil => exact absurd rfl c3
            | cons _ _ => simp
          rw [show decide ((2 : Int) < ((r.length + 1 + 1 : Nat) : Int)) = true from decide_eq_true (by omega)]
          exact iteT (thrownN t.at_)
      · rw [if_pos c2] at eb
        have t := (bad 2 eb).same e14
        rw [show decide (V.int (qs.length : Int) = V.int (rs.length : Int)) = false from decide_eq_false fun z => c2 (by have := V.int.inj z; omega)]
        exact iteT (thrownN t.at_)
theorem sc_read_row : FnScope ["machine", "text", "words", "row"] ["machine", "text"] (defScope s_read_row) := ⟨rfl, rfl, rfl, by decide +kernel, rfl, by decide +kernel, by decide +kernel⟩
theorem ok_read_row (F : FnP K "read_row" s_read_row f fd) (T : Mg mg) (R : Er P w K mg base a) (TM : ClsM K mg CM) (c_text : Cal P w K mg base (L2N.CX P w) 4 "_need_text" ["text"] (spText K a)) (c_below : Cal P w K mg base CX0 1 "read_below" ["words", "limit"] (spRdB K)) :
    FnOk P w K mg base (L2N.CX P w) 5 f fd ["machine", "text"] (spRdR K a CM) := by
  refine F.ok sc_read_row (fun vs H Q E h => ?_) (fun cdv A outer s H vs Q E hr h => ?_)
  · obtain ⟨m, n, ts, v, rfl, _⟩ := h
    rfl
  · obtain ⟨m, n, ts, v, rfl, hm, kn, bad0, rest⟩ := h
    obtain ⟨ok, dx, t, ps, h1, h2, h3⟩ := id hm
    refine ⟨_, (pss_cons (ps_if (pt_cmpR op_eq (pe_callC c_text hr (L2N.passes_call (E := E) (L2N.takes_of rfl rfl rfl rfl) (fun _ _ _ _ z => z)) (pa_cons (pv 1) pa_nil)) pe_str (nomark _))
        (pss_one (ps_ret (pe_tup pa_nil)))
        pss_nil)
      (pss_cons (ps_set (i := 2) sc_read_row.nd rfl (by first | exact Or.inl rfl | exact Or.inr rfl) (pe_split (pv 1) pe_str))
      (pss_cons (ps_set (i := 3) sc_read_row.nd rfl (by first | exact Or.inl rfl | exact Or.inr rfl) (pe_callC c_below hr pass0 (pa_cons (pe_slice sl_list (pv 2) po_none (po_some (pe_constI T.g_ROW_MOST))) (pa_cons (pe_fld (pv 0) rfl) pa_nil))))
      (pss_cons (ps_if (pt_cmpR op_lt (pe_callB call_len_seq (by rfl) T.z_len PySem.boot_len (pa_cons (pv 3) pa_nil)) (pe_callB call_len_seq (by rfl) T.z_len PySem.boot_len (pa_cons (pv 2) pa_nil)) (nomark _))
        (pss_one (psN R.BadText rfl hr (L2N.takes_of rfl rfl rfl rfl) (pa_cons (pe_callB call_len_seq (by rfl) T.z_len PySem.boot_len (pa_cons (pv 3) pa_nil)) pa_nil)))
        pss_nil)
      (pss_one (ps_ret (pe_callTy call_tup (by rfl) T.z_tuple (by decide +kernel) (pa_cons (pv 3) pa_nil)))))))), ?_⟩
    refine ⟨v, rfl, v, rfl, kn, fun x ev => ?_, bad0⟩
    obtain ⟨ws, ex, fr, few, fits, dash, other⟩ := rest x ev
    subst ev
    refine ⟨rfl, _, rfl, ite2 (fun z => ?_) (fun z => ?_)⟩
    · refine ⟨by show 0 ≤ sizeLine; decide, fun p hp => ?_⟩
      exact dash (V.str.inj (of_decide_eq_true z)) p _ (same_new hp) (SqT.of upd_same)
    · have nx : x ≠ Str.ofString "-" := fun e => z (decide_eq_true (by rw [e]))
      obtain ⟨bad, good⟩ := other nx
      subst ex
      refine ⟨_, rfl, ⟨_, rfl⟩, _, _, rfl, rfl, by decide +kernel, fits, fun W hW => ?_⟩
      rw [split_line fr.1 fr.2]
      have hW1 := upd_same (H := H) (a := W) (o := HO.lst (ws.map V.str))
      have e1 := same_new (o := HO.lst (ws.map V.str)) hW
      generalize upd H W (HO.lst (ws.map V.str)) = H1 at hW1 e1 ⊢
      refine ⟨_, rfl, 400, rfl, W, _, rfl, SqL.of hW1, fun V2 hV => ?_⟩
      rw [cut_to', ← List.map_take]
      have e2 := same_new (o := HO.lst ((ws.take 400).map V.str)) hV
      refine ⟨_, rfl, m, CM, dx, _, _, rfl, e2 _ _ (e1 _ _ h1), TM.cl, TM.n1, rfl, V2, ws.take 400, ts.length, rfl, by have := ok.l4; omega, SqL.of upd_same, by rw [List.length_take]; omega, fun N H3 e3 _ hN => ?_⟩
      have e13 := (e1.trans e2).trans e3
      refine ⟨_, rfl, N, _, rfl, .inl (SqL.of hN), _, rfl, W, _, rfl, .inl (SqL.of (e3 _ _ (e2 _ _ hW1))), _, _, rfl, rfl, _, rfl, ?_⟩
      rw [iv_len, List.length_map]
      by_cases c : (rdB ts.length (ws.take 400)).length < ws.length
      · rw [show decide (((rdB ts.length (ws.take 400)).length : Int) < (ws.length : Int)) = true from decide_eq_true (by omega)]
        refine iteT ⟨_, rfl, N, _, rfl, .inl (SqL.of hN), ?_⟩
        rw [iv_len]
        exact thrownN ((bad c).same e13).at_
      · rw [show decide (((rdB ts.length (ws.take 400)).length : Int) < (ws.length : Int)) = false from decide_eq_false (by omega)]
        refine iteF ⟨_, rfl, N, _, rfl, .inl (SqL.of hN), fun p H4 e4 hp => good c p H4 (e13.trans e4) hp⟩
end
end K4
/-! words of great numbers are read -/
namespace K4
open L2 PySem PySem.Spec PyProof.Rows Kx TL
def digs : Str := Str.ofString "0123456789"
theorem digs_has {c : Nat} : digs.cps.contains c = true ↔ 48 ≤ c ∧ c ≤ 57 := by
  have e : digs = ⟨#[48, 49, 50, 51, 52, 53, 54, 55, 56, 57]⟩ := by decide +kernel
  rw [e]
  simp
  omega
theorem tw_self {p : Nat → Bool} : ∀ {l : List Nat}, l.takeWhile p = l ↔ ∀ c ∈ l, p c = true
  | [] => by simp
  | a :: r => by
    have ih := tw_self (p := p) (l := r)
    by_cases h : p a = true
    · rw [List.takeWhile_cons_of_pos h]
      constructor
      · intro e c hc
        rcases List.mem_cons.mp hc with rfl | hc
        · exact h
        · exact ih.mp (List.cons.inj e).2 c hc
      · intro all
        rw [ih.mpr fun c hc => all c (List.mem_cons_of_mem _ hc)]
    · rw [List.takeWhile_cons_of_neg h]
      constructor
      · intro e
        cases e
      · intro all
        exact absurd (all a (List.mem_cons_self ..)) h
theorem strip_all {x : Str} (ne : tl x ≠ []) (all : NumText.AllDigits (tl x)) : Txt.stripChars x digs = Str.ofString "" := by
  have go : ∀ c ∈ tl x, digs.cps.contains c = true := fun c hc => digs_has.mpr (all c hc)
  have lo : stripLo digs.cps.contains true x = (tl x).length := by
    unfold stripLo
    rw [if_pos rfl, tw_self.mpr go]
  have l0 : (tl x).length ≠ 0 := by simpa using ne
  unfold Txt.stripChars Txt.stripBy
  rw [if_neg (by
    unfold stripSame
    rw [lo, beq_eq_false_iff_ne.mpr l0, Bool.false_and]
    exact Bool.false_ne_true)]
  refine tl_inj ?_
  unfold stripped
  rw [tl_strSub, lo, List.drop_length, List.take_nil]
  rfl
theorem strip_not {x : Str} (no : ¬NumText.AllDigits (tl x)) : Txt.stripChars x digs ≠ Str.ofString "" := by
  intro z
  have z := congrArg tl z
  have e0 : tl (Str.ofString "") = [] := rfl
  rw [e0] at z
  have nx : tl x ≠ [] := fun h => no (by rw [h]; intro c hc; cases hc)
  unfold Txt.stripChars Txt.stripBy at z
  by_cases s : stripSame digs.cps.contains true true x = true
  · rw [if_pos s] at z
    exact nx z
  · rw [if_neg s] at z
    unfold stripped at z
    rw [tl_strSub] at z
    have key : ∃ c r, (tl x).drop (stripLo digs.cps.contains true x) = c :: r ∧ digs.cps.contains c = false := by
      unfold stripLo
      rw [if_pos rfl]
      have e := List.takeWhile_append_dropWhile (p := digs.cps.contains) (l := tl x)
      have ed : (tl x).drop ((tl x).takeWhile digs.cps.contains).length = (tl x).dropWhile digs.cps.contains := by
        conv => lhs; arg 2; rw [← e]
        exact List.drop_left
      cases hd : (tl x).dropWhile digs.cps.contains with
      | nil =>
        exfalso
        rw [hd, List.append_nil] at e
        exact no fun c hc => digs_has.mp (tw_self.mp e c hc)
      | cons c r =>
        refine ⟨c, r, by rw [← hd]; exact ed, ?_⟩
        have := List.head?_dropWhile_not digs.cps.contains (tl x)
        rw [hd] at this
        simpa using this
    obtain ⟨c, r, ed, hc⟩ := key
    have hi : stripLo digs.cps.contains true x + 1 ≤ stripHi digs.cps.contains true x (stripLo digs.cps.contains true x) := by
      unfold stripHi
      rw [if_pos rfl, ed, List.reverse_cons]
      have l1 : ((r.reverse ++ [c]).takeWhile digs.cps.contains).length ≤ r.length := by
        by_cases h : ((r.reverse ++ [c]).takeWhile digs.cps.contains).length ≤ r.length
        · exact h
        · exfalso
          have p := List.takeWhile_prefix digs.cps.contains (l := r.reverse ++ [c])
          have le := p.length_le
          rw [List.length_append, List.length_reverse] at le
          have eq := p.eq_of_length (by rw [List.length_append, List.length_reverse]; simp at le ⊢; omega)
          have := tw_self.mp eq c (by simp)
          rw [hc] at this
          cases this
      have l2 : (tl x).length = stripLo digs.cps.contains true x + (r.length + 1) := by
        have := congrArg List.length ed
        rw [List.length_drop, List.length_cons] at this
        omega
      have l3 : x.length = (tl x).length := tl_len x
      omega
    rw [ed] at z
    have : (c :: r).take (stripHi digs.cps.contains true x (stripLo digs.cps.contains true x) - stripLo digs.cps.contains true x) ≠ [] := by
      rw [show stripHi digs.cps.contains true x (stripLo digs.cps.contains true x) - stripLo digs.cps.contains true x = (stripHi digs.cps.contains true x (stripLo digs.cps.contains true x) - stripLo digs.cps.contains true x - 1) + 1 from by omega]
      simp
    exact this z
end K4
/-! a word as a number, of any size -/
namespace K4
open L2 PySem PySem.Spec PyProof.Rows Kx TL
/-- the word of a number: signs 0 to 9, none ahead that is needless -/
def IsNum (w : Str) : Prop := NumText.AllDigits (tl w) ∧ tl w ≠ [] ∧ ¬∃ c r, tl w = 48 :: c :: r
def spRdN : Sp := fun vs H Q _ => ∃ w : Str, vs = [.str w] ∧ w.length ≤ 500 ∧ (IsNum w → Q (.int (NumText.digitsVal (tl w) : Nat)) H) ∧ (¬IsNum w → Q .non H)
theorem val0 (l : List Nat) : NumText.digitsVal (48 :: l) = NumText.digitsVal l := rfl
theorem tl_mk1 {c : Nat} : tl (⟨#[c]⟩ : Str) = [c] := rfl
theorem rgc0 {n : Nat} (h : n ≤ 1000) : RgC (n : Int) (n : Int) 600 0 := by
  have z : Builtin.Range.rangeSize (n : Int) (n : Int) 600 = 0 := by
    unfold Builtin.Range.rangeSize
    rw [if_pos (by decide), if_neg (by omega)]
  refine ⟨by decide, by decide, ?_, z⟩
  unfold Builtin.Range.small
  rw [z]
  have f : Builtin.Range.rangeFitsLong (n : Int) = true := by
    unfold Builtin.Range.rangeFitsLong
    simp only [Bool.and_eq_true, decide_eq_true_eq]
    omega
  have f2 : Builtin.Range.rangeFitsLong 600 = true := by decide
  have f3 : Builtin.Range.rangeFitsLong 0 = true := by decide
  rw [f, f2, f3]
  rfl
section
variable {P : Program} {w : World} {K : PySem.W.Frag} {mg : Str → Option Value} {base : Heap} {f : Addr} {fd : FuncData} {a : Ad} {C CM : Addr}
theorem sc_read_number : FnScope ["word", "head", "number", "at"] ["word"] (defScope s_read_number) := ⟨rfl, rfl, rfl, by decide +kernel, rfl, by decide +kernel, by decide +kernel⟩
theorem ok_read_number (F : FnP K "_read_number" s_read_number f fd) (T : Mg mg) : FnOk P w K mg base CX0 1 f fd ["word"] spRdN := by
  refine F.ok sc_read_number (fun vs H Q E h => ?_) (fun cdv A outer s H vs Q E hr h => ?_)
  · obtain ⟨w, rfl, _⟩ := h
    rfl
  · obtain ⟨wd, rfl, l500, good, bad⟩ := h
    have fit : wd.length ≤ sizeLine := by rw [sizeLine_eq]; omega
    refine ⟨_, PSs.nox (pss_cons (ps_if (PW.pt (pw_or (pt_cmpR op_eq (pv 0) pe_str (nomark _)) (pw_or1 (pt_cmpR op_ne (pe_m1 PySem.F.slot_str_strip PySem.F.type_str_strip mt_stripChars (pv 0) pe_str) pe_str (nomark _)))))
        (pss_one (ps_ret pe_non))
        pss_nil)
      (pss_cons (ps_if (PW.pt (pw_and (pt_cmpR op_eq (pe_ix ix_str (pv 0) pe_int (fun _ _ => rfl)) pe_str (nomark _)) (pw_and1 (pt_cmpR op_ne (pv 0) pe_str (nomark _)))))
        (pss_one (ps_ret pe_non))
        pss_nil)
      (pss_cons (ps_set (i := 1) sc_read_number.nd rfl (by first | exact Or.inl rfl | exact Or.inr rfl) (pe_op op_mod (pe_callB call_len_str (by rfl) T.z_len PySem.boot_len (pa_cons (pv 0) pa_nil)) (pe_constI T.g_PIECE)))
      (pss_cons (ps_set (i := 2) sc_read_number.nd rfl (by first | exact Or.inl rfl | exact Or.inr rfl) (pe_callTy call_int_str (by rfl) T.z_int bt_int (pa_cons (pe_op op_add_str pe_str (pe_slice sl_str (pv 0) po_none (po_some (pv 1)))) pa_nil)))
      (pss_cons (ps_for PassesOwn.never rfl (pi_range3 (by rfl) T.z_range (pa_cons (pv 1) (pa_cons (pe_callB call_len_str (by rfl) T.z_len PySem.boot_len (pa_cons (pv 0) pa_nil)) (pa_cons (pe_constI T.g_PIECE) pa_nil)))) (pg_name (i := 3) sc_read_number.nd rfl (by first | exact Or.inl rfl | exact Or.inr rfl)) (pss_one ps_dead))
      (pss_one (ps_ret (pv 2)))))))), ?_⟩
    refine ⟨_, rfl, rfl, _, rfl, ?_⟩
    by_cases e0 : wd = Str.ofString ""
    · rw [decide_eq_true (by rw [e0])]
      exact iteT (iteT (bad fun z => z.2.1 (by rw [e0]; rfl)))
    rw [decide_eq_false (fun z => e0 (V.str.inj z))]
    have ne : tl wd ≠ [] := fun z => e0 (tl_inj z)
    refine iteF ⟨_, rfl, ⟨_, rfl⟩, wd, digs, rfl, rfl, fit, rfl, _, rfl, ?_⟩
    by_cases all : NumText.AllDigits (tl wd)
    · rw [strip_all ne all, decide_eq_true rfl]
      obtain ⟨c, r, ec⟩ : ∃ c r, tl wd = c :: r := by
        cases h : tl wd with
        | nil => exact absurd h ne
        | cons c r => exact ⟨c, r, rfl⟩
      have at_ : atI (tl wd) 0 = some c := by rw [ec]; exact atI_nat (j := 0) rfl
      refine iteF ⟨_, rfl, wd, 0, c, rfl, rfl, fit, at_, rfl, _, rfl, ?_⟩
      have lead : (IsNum wd → ¬(c = 48 ∧ wd ≠ Str.ofString "0")) ∧ (¬(c = 48 ∧ wd ≠ Str.ofString "0") → IsNum wd) := by
        refine ⟨fun z h => ?_, fun z => ⟨all, ne, fun h => ?_⟩⟩
        · cases r with
          | nil => exact h.2 (tl_inj (by rw [ec, h.1]; rfl))
          | cons d r => exact z.2.2 ⟨d, r, by rw [ec, h.1]⟩
        · obtain ⟨d, r', h⟩ := h
          rw [ec] at h
          obtain ⟨h1, h2⟩ := List.cons.inj h
          refine z ⟨h1, fun e => ?_⟩
          have e := congrArg tl e
          rw [ec, h2] at e
          have e : c :: d :: r' = [48] := e
          cases e
      by_cases c0 : c = 48
      · subst c0
        rw [show decide (V.str (⟨#[48]⟩ : Str) = V.str (Str.ofString "0")) = true from by decide +kernel]
        refine iteT ⟨_, rfl, rfl, _, rfl, ?_⟩
        by_cases w0 : wd = Str.ofString "0"
        · rw [decide_eq_true (by rw [w0])]
          have num := lead.2 fun h => h.2 w0
          refine iteF ?_
          have hm : ((wd.length : Int) % 600) = (wd.length : Int) := Int.emod_eq_of_lt (by omega) (by omega)
          refine ⟨_, rfl, wd, rfl, fit, _, _, rfl, rfl, (show (0 : Int) < 600 by decide), ?_⟩
          rw [show ((fun (i j : Int) => V.int (i % j)) (wd.length : Int) 600) = V.int (wd.length : Int) from congrArg V.int hm]
          refine ⟨_, rfl, _, rfl, _, rfl, wd, rfl, fit, ?_⟩
          rw [show cutS wd none (some (wd.length : Int)) = wd from by
            refine tl_inj ?_
            unfold cutS
            rw [HT.sIx_none, HT.sIx_nat, Nat.min_self, List.drop_zero, Nat.sub_zero]
            show ((tl wd).take wd.length) = tl wd
            rw [tl_len]
            exact List.take_length]
          have tz : tl (Str.ofString "0" ++ wd) = 48 :: tl wd := by rw [tl_append]; rfl
          have lz : (Str.ofString "0" ++ wd).length = 1 + wd.length := by rw [append_len]; rfl
          refine ⟨_, _, rfl, rfl, by rw [show (Str.ofString "0").length = 1 from rfl, sizeLine_eq]; omega, _, ((NumText.digitsVal (tl wd) : Nat) : Int), rfl, ?_, by rw [lz]; omega, ?_⟩
          · have h := intText_digits (x := Str.ofString "0" ++ wd) (by
              show NumText.AllDigits (tl _)
              rw [tz]
              intro c hc
              rcases List.mem_cons.mp hc with rfl | hc
              · decide
              · exact all c hc) (by
              show tl _ ≠ []
              rw [tz]
              simp) (by rw [lz]; omega)
            rw [h]
            show some ((NumText.digitsVal (tl (Str.ofString "0" ++ wd)) : Nat) : Int) = _
            rw [tz, val0]
          · refine ⟨_, rfl, _, rfl, wd, rfl, fit, (wd.length : Int), (wd.length : Int), 600, 0, rfl, rgc0 (by omega), ?_⟩
            refine ⟨fun i _ σ' H' => σ' = [some (.str wd), some (.int (wd.length : Int)), some (.int (NumText.digitsVal (tl wd) : Nat)), none] ∧ H' = H, ⟨0, rfl, rfl⟩, ?_⟩
            rintro i m σ' H' ⟨rfl, rfl⟩
            exact .inl ⟨Nat.zero_le _, _, rfl, good num⟩
        · rw [decide_eq_false (fun z => w0 (V.str.inj z))]
          exact iteT (bad fun z => lead.1 z ⟨rfl, w0⟩)
      · have num := lead.2 fun h => c0 h.1
        rw [show decide (V.str (⟨#[c]⟩ : Str) = V.str (Str.ofString "0")) = false from decide_eq_false fun z => by
          have z := congrArg tl (V.str.inj z)
          have z : [c] = [48] := z
          exact c0 (List.cons.inj z).1]
        refine iteF (iteF ?_)
        have hm : ((wd.length : Int) % 600) = (wd.length : Int) := Int.emod_eq_of_lt (by omega) (by omega)
        refine ⟨_, rfl, wd, rfl, fit, _, _, rfl, rfl, (show (0 : Int) < 600 by decide), ?_⟩
        rw [show ((fun (i j : Int) => V.int (i % j)) (wd.length : Int) 600) = V.int (wd.length : Int) from congrArg V.int hm]
        refine ⟨_, rfl, _, rfl, _, rfl, wd, rfl, fit, ?_⟩
        rw [show cutS wd none (some (wd.length : Int)) = wd from by
          refine tl_inj ?_
          unfold cutS
          rw [HT.sIx_none, HT.sIx_nat, Nat.min_self, List.drop_zero, Nat.sub_zero]
          show ((tl wd).take wd.length) = tl wd
          rw [tl_len]
          exact List.take_length]
        have tz : tl (Str.ofString "0" ++ wd) = 48 :: tl wd := by rw [tl_append]; rfl
        have lz : (Str.ofString "0" ++ wd).length = 1 + wd.length := by rw [append_len]; rfl
        refine ⟨_, _, rfl, rfl, by rw [show (Str.ofString "0").length = 1 from rfl, sizeLine_eq]; omega, _, ((NumText.digitsVal (tl wd) : Nat) : Int), rfl, ?_, by rw [lz]; omega, ?_⟩
        · have h := intText_digits (x := Str.ofString "0" ++ wd) (by
            show NumText.AllDigits (tl _)
            rw [tz]
            intro c hc
            rcases List.mem_cons.mp hc with rfl | hc
            · decide
            · exact all c hc) (by
            show tl _ ≠ []
            rw [tz]
            simp) (by rw [lz]; omega)
          rw [h]
          show some ((NumText.digitsVal (tl (Str.ofString "0" ++ wd)) : Nat) : Int) = _
          rw [tz, val0]
        · refine ⟨_, rfl, _, rfl, wd, rfl, fit, (wd.length : Int), (wd.length : Int), 600, 0, rfl, rgc0 (by omega), ?_⟩
          refine ⟨fun i _ σ' H' => σ' = [some (.str wd), some (.int (wd.length : Int)), some (.int (NumText.digitsVal (tl wd) : Nat)), none] ∧ H' = H, ⟨0, rfl, rfl⟩, ?_⟩
          rintro i m σ' H' ⟨rfl, rfl⟩
          exact .inl ⟨Nat.zero_le _, _, rfl, good num⟩
    · rw [decide_eq_false (fun z => strip_not all (V.str.inj z))]
      exact iteT (bad fun z => all z.1)
end
end K4
/-! an own error raised out of an except suite. -/
namespace Kx
open L2 PySem PySem.Spec PyProof.Rows
theorem sky_imp {B : Heap} {l : List Env} {a : Addr} {Z Z' : Obj → Prop} {L : Addr} {h : Heap} (z : ∀ o, Z o → Z' o) (x : Sky B l a Z L h) : Sky B l a Z' L h := by
  rcases x with ⟨h1, h2, h3, oe, vs, h4, h5, h6⟩ | x | ⟨h1, h2, h3, h4⟩
  · exact .inl ⟨h1, h2, h3, oe, vs, h4, z _ h5, h6⟩
  · exact .inr (.inl (L2H.flyingZ_imp z x))
  · exact .inr (.inr ⟨h1, h2, h3, L2H.tracedZ_imp z h4⟩)
/-- who takes any error takes one whose context is None -/
theorem takesN_of {X : Cx} {W : WX} (t : L2.Takes X W) : L2N.Takes X W := fun u s' ⟨a, B, sI, pins, σ, H, cls, d, e, I, nb, up, sky, na, os, ag, w⟩ =>
  t u s' ⟨a, B, sI, pins, σ, H, cls, d, e, I, nb, up, sky_imp (fun _ z => z.zc) sky, na, os, ag, w⟩
theorem ok_keepH {P : Program} {w : World} {K : PySem.W.Frag} {mg : Str → Option Value} {base : Heap} {C fI : Addr} {fd : FuncData} {f qual : Str} {params : Arguments} {scope : Scope} {p1 p2 p3 p4 : Pos}
    (F : FunD K "__init__" qual params [.Assign [.Attribute (.Name "self" p1) f p2] (.Name f p3) p4] scope [] [] fI fd) (T : OexC K C) (no : PySem.W.findIn K (.ref C) f = some none)
    (sc : FnScope ["self", f] ["self", f] scope) (hd : (f == ("__debug__" : Str)) = false) (hcd : (f == ("__classdict__" : Str)) = false) (l0 : scope.names.lookup ("self" : Str) = some .local) (l1 : scope.names.lookup f = some .local) :
    L2H.FnH P w K mg base CX0 1 fI fd ["self", f] (spKeep K C f) := by
  obtain ⟨oc, od, dV, kV, doc, pm, an, cdv, ct, osl, rfl, lk, hcd2, hD, -⟩ := F.ex
  refine L2H.fn_ofH lk hcd2 sc (fun vs H Q E h => ?_) (fun A outer s H vs Q E p hot hr h => ?_)
  · obtain ⟨a, v, rfl, _⟩ := h
    rfl
  · obtain ⟨a, v, rfl, ha, k⟩ := h
    refine ⟨_, pss_one (ps_ost (pe_var (i := 0) rfl (.inl l0)) (pe_var (i := 1) rfl (.inl l1) hd hcd)), ?_⟩
    exact ⟨_, rfl, _, rfl, a, C, rfl, T, no, .inl ⟨ha, fun dx n1 n2 => k dx n1 n2⟩⟩
/-- what the module holds of an error that a suite raises -/
structure ErrH (P : Program) (w : World) (K : PySem.W.Frag) (mg : Str → Option Value) (base : Heap) (k : Nat) (x f : Str) (C : Addr) : Prop where
  at_ : mg x = some (.ref C)
  cls : OexC K C
  ini : ∃ (fI : Addr) (fd : FuncData), PySem.W.findIn K (.ref C) "__init__" = some (some (.ref fI)) ∧ PySem.W.typeIn K (.ref fI) = some (.type "function") ∧ Binds K fd ["self", f] [] ∧ L2H.FnH P w K mg base CX0 k fI fd ["self", f] (spKeep K C f)
/-- raise C(e) from None, in a suite -/
theorem psHN {X : Cx} {W : WX} {k j jn : Nat} {x f : Str} {C : Addr} {e : Expr} {ta : TA} {p pos p2 cpos : Pos} (T : ErrH X.prog X.w X.K X.mg X.base k x f C) (hc : L2H.HotC X) (hr : L2H.RoomH j X.A) (tk : L2.Takes X W) (ha : PA X [e] ta) (hk : k + 1 ≤ j := by decide) (hg : Gl X x := by rfl)
    (hdb : (x == ("__debug__" : Str)) = false := by decide) (he : starEach (e :: []) X.env = (false, eval e X.env) :: starEach [] X.env := by rfl) (hpl : (backTo pos (starEach [] X.env)).any (·.1) = false := by rfl) :
    PS X (.Raise (some (.Call (.Name x p) [e] [] pos)) (some (.Constant .none jn cpos)) p2) (fun _ σ H => tMkO C (spKeep X.K C f) [] ta σ H fun cls d H' => W cls d σ H') := by
  obtain ⟨fI, fd, h1, h2, h3, h4⟩ := T.ini
  exact L2H.ps_raiseHN hc tk (L2H.pmk5_oexH T.cls h1 h2 h4 (hr.mono hk) hc h3 (fun _ _ _ _ _ _ _ h => h.elim) hg T.at_ ha hdb he hpl)
end Kx
/-! showings are read -/
namespace K4
open L2 PySem PySem.Spec PyProof.Rows Kx TL
open Classical in
/-- what a word is read as -/
noncomputable def rdV (w : Str) : V := if IsNum w then .int (NumText.digitsVal (tl w) : Nat) else .non
noncomputable def valsOf (ws : List Str) : List V := ws.map rdV
theorem PE.mono {X : Cx} {e : Expr} {t t2 : TE} (h : PE X e t) (k : ∀ σ H Q, t2 σ H Q → t σ H Q) : PE X e t2 := ⟨fun pins s σ H Q I q => h.run pins s σ H Q I (k _ _ _ q)⟩
/-- the words, read -/
def tNs (K : PySem.W.Frag) : TE := fun σ H Q => ∃ (c x : V) (w : Addr) (y : Option V) (ws : List Str), σ = [some c, some x, some (.ref w), y] ∧ SqL K H w (ws.map V.str) ∧ (∀ z ∈ ws, z.length ≤ 500) ∧ ws.length ≤ 10000 ∧ ∀ D H', Same H H' → H' D = some (.lst (valsOf ws)) → Q (.ref D) H'
def spRdS (K : PySem.W.Frag) (a : Ad) (C : Addr) : Sp := fun vs H Q E => ∃ c rs es v, vs = [.ref c, v] ∧ CnAt K C H c rs es ∧ Kn K H v ∧ ((∀ x, v ≠ .str x) → Thrown E H a.cT "at" (.int 0)) ∧
  (∀ x, v = .str x → ∃ ws, x = line ws ∧ Free ws ∧ ws.length ≤ 10000 ∧ (line ws).length + 2 ≤ sizeLine ∧ (∀ z ∈ ws, z.length ≤ 500) ∧
    (((valsOf ws).length ≠ rs.length ∨ ∃ i, FirstWrong rs es (valsOf ws) i) → Thrown E H a.cT "at" (.int 1)) ∧
    ((valsOf ws).length = rs.length → AllShow rs es (valsOf ws) → ∀ p H', Same H H' → SqT K H' p (valsOf ws) → Q (.ref p) H'))
theorem valsOf_kn {K : PySem.W.Frag} {H : Hp} {ws : List Str} : ∀ x ∈ valsOf ws, Kn K H x := fun x hx => by
  obtain ⟨w, _, rfl⟩ := List.mem_map.mp hx
  unfold rdV
  split
  · exact .int _
  · exact .non
section
variable {P : Program} {w : World} {K : PySem.W.Frag} {mg : Str → Option Value} {base : Heap} {f : Addr} {fd : FuncData} {a : Ad} {C CM : Addr}
theorem sc_read_showing : FnScope ["counters", "text", "words", "word"] ["counters", "text"] (defScope s_read_showing) := ⟨rfl, rfl, rfl, by decide +kernel, rfl, by decide +kernel, by decide +kernel⟩
theorem ok_read_showing (F : FnP K "read_showing" s_read_showing f fd) (T : Mg mg) (R : Er P w K mg base a) (RH : ErrH P w K mg base 1 "BadText" "at" a.cT) (mS : PySem.W.exmOne K (.ref a.cS) (.ref a.cS) = some true) (c_text : Cal P w K mg base (L2N.CX P w) 4 "_need_text" ["text"] (spText K a))
    (c_num : Cal P w K mg base CX0 1 "_read_number" ["word"] spRdN) (c_chk : Cal P w K mg base (L2N.CX P w) 4 "check_showing" ["counters", "value"] (spCheck K a C)) : FnOk P w K mg base (L2.CX P w) 6 f fd ["counters", "text"] (spRdS K a C) := by
  refine F.ok sc_read_showing (fun vs H Q E h => ?_) (fun cdv A outer s H vs Q E hr h => ?_)
  · obtain ⟨c, rs, es, v, rfl, _⟩ := h
    rfl
  · obtain ⟨c, rs, es, v, rfl, hc, kn, bad0, rest⟩ := h
    refine ⟨_, (pss_cons (ps_set (i := 2) sc_read_showing.nd rfl (by first | exact Or.inl rfl | exact Or.inr rfl) (pe_split (pe_callC c_text hr (L2N.passes_call (E := E) (takesN_of (L2.takes_of rfl rfl rfl rfl)) (fun _ _ _ _ z => z)) (pa_cons (pv 1) pa_nil)) pe_str))
      (pss_one (L2H.ps_try_onlyX (Wout := fun cls d _ H' => E cls d H') (tb := fun W => tRet (tCall (spCheck K a C) [] (fun cls d H' => ∀ σ' : L2.St, W cls d σ' H') (tCons (tVar 0) (tCons (tNs K) tNil))))
        (ts := fun _ _ _ _ σ H => tMkO a.cT (spKeep K a.cT "at") [] (tCons (tC (.int 1)) tNil) σ H fun cls d H' => E cls d H')
        rfl rfl ⟨rfl, by decide, .inl R.BadShowing.at_⟩ (fun hd => L2H.passesAt_of rfl hd) (L2.takes_of rfl rfl rfl rfl)
        (fun W pn xe tkN tk2 own => pss_one (ps_ret (pe_callC c_chk hr (L2N.passes_call tkN (fun _ _ σ _ z => z σ)) (pa_cons (pv 0) (pa_cons (PE.mono (pe_lc (own := [("word", 3)]) (by rfl) sc_read_showing.nd (pi_list (pv 2)) (blkOk_by (own := [("word", 3)]) (N := ["counters", "text", "words", "word"]) (sc := defScope s_read_showing) (by decide +kernel))
          (fun _ _ _ _ _ => pg_name (i := 3) sc_read_showing.nd rfl (by first | exact Or.inl rfl | exact Or.inr rfl)) (fun _ _ _ _ _ => pts_nil) (fun _ _ _ _ _ => pe_callC c_num hr pass0 (pa_cons (pv 3) pa_nil))) (fun σ H Q q => ?comp)) pa_nil)))))
        (fun x oe cls d pn hz hf tkS hot => pss_one (psHN RH hot (L2H.roomH_mark hr _) tkS (pa_cons pe_int pa_nil)))))), ?_⟩
    case comp =>
      obtain ⟨c, x, wd, y, ws, rfl, hw, l500, few, k⟩ := q
      refine ⟨_, rfl, wd, rfl, ⟨_, hw⟩, fun D hD => lc_list (xs := ws.map V.str) (Part H D (valsOf ws)) (Part.zero hD) (fun i H _ pt => sqL_same pt.2 hw) ?_ ?_⟩
      · rintro j y H2 hy pt
        obtain ⟨z, hz, rfl⟩ : ∃ z, ws[j]? = some z ∧ y = .str z := by
          rw [List.getElem?_map, Option.map_eq_some_iff] at hy
          obtain ⟨z, h1, h2⟩ := hy
          exact ⟨z, h1, h2.symm⟩
        refine ⟨rfl, yes ((if_pos rfl).mpr ?_)⟩
        have go : pt = pt := rfl
        have av : (valsOf ws)[j]? = some (rdV z) := by
          unfold valsOf
          rw [List.getElem?_map, hz]
          rfl
        have fl : (valsOf ws).length ≤ sizeLine := by
          unfold valsOf
          rw [List.length_map, sizeLine_eq]
          omega
        refine ⟨_, rfl, z, rfl, l500 z (List.mem_of_getElem? hz), fun num => ?_, fun nn => ?_⟩
        · have := pt.step hD (Same.refl H2) av fl
          unfold rdV at this
          rw [if_pos num] at this
          exact this
        · have := pt.step hD (Same.refl H2) av fl
          unfold rdV at this
          rw [if_neg nn] at this
          exact this
      · intro H2 pt
        obtain ⟨hl, e2⟩ := pt.done (by unfold valsOf; rw [List.length_map, List.length_map]; exact Nat.le_refl _)
        exact k D H2 e2 hl
    refine ⟨_, rfl, v, rfl, kn, fun x ev => ?_, bad0⟩
    obtain ⟨ws, rfl, fr, few, fits, l500, bad, good⟩ := rest x ev
    subst ev
    refine ⟨⟨_, rfl⟩, _, _, rfl, rfl, by decide +kernel, fits, fun W hW => ?_⟩
    rw [split_line fr.1 fr.2]
    have hW1 := upd_same (H := H) (a := W) (o := HO.lst (ws.map V.str))
    have e1 := same_new (o := HO.lst (ws.map V.str)) hW
    generalize upd H W (HO.lst (ws.map V.str)) = H1 at hW1 e1 ⊢
    refine ⟨_, rfl, _, _, W, _, ws, rfl, SqL.of hW1, l500, few, fun D H2 e2 hD => ?_⟩
    have e12 := e1.trans e2
    have raise : ((valsOf ws).length ≠ rs.length ∨ ∃ i, FirstWrong rs es (valsOf ws) i) → ∀ (u : V) (DD : Ends), Thrown (fun cls d H' => ∀ σ' : L2.St, L2.wOnly K (.ref a.cS) (fun _ _ _ _ σ H => tMkO a.cT (spKeep K a.cT "at") [] (tCons (tC (.int 1)) tNil) σ H fun cls d H' => E cls d H') (fun cls d _ H' => E cls d H') DD cls d σ' H') H2 a.cS "at" u := fun hb u DD d H3 e3 hd3 σ' => ⟨true, mS, fun _ x hx => thrown ((bad hb).same (e12.trans e3)).at_, fun z => nomatch z⟩
    refine ⟨c, rs, es, .ref D, some (valsOf ws), rfl, hc.same e12, ⟨.seq (.inl (SqL.of hD)), fun xs ex _ => by cases ex; exact valsOf_kn, fun z => ?_, fun xs i ex hl fw => ?_⟩, fun xs ex hl all p H3 e3 hp => ?_⟩
    · refine raise (.inl ?_) _ _
      rcases z with z | ⟨xs, ex, hl⟩
      · cases z
      · cases ex
        exact hl
    · cases ex
      exact raise (.inr ⟨i, fw⟩) _ _
    · cases ex
      exact good hl all p H3 (e12.trans e3) hp
end
end K4
/-! the law's draws -/
namespace K4
open PySem PySem.Spec PyProof.Rows L2 Kx RZ
/-- a source of draws -/
def bx (t : Int × Int × Int) : HO := .lst [.int t.1, .int t.2.1, .int t.2.2]
/-- from H to H' only the source at b has moved, things were made -/
def Mv (b : Addr) (H H' : Hp) : Prop := (∀ c o, c ≠ b → H c = some o → H' c = some o) ∧ ∃ t, H' b = some (bx t)
theorem Mv.refl {b : Addr} {H : Hp} {t : Int × Int × Int} (h : H b = some (bx t)) : Mv b H H := ⟨fun _ _ _ h => h, t, h⟩
theorem Mv.trans {b : Addr} {H H1 H2 : Hp} (h : Mv b H H1) (g : Mv b H1 H2) : Mv b H H2 := ⟨fun c o ne q => g.1 c o ne (h.1 c o ne q), g.2⟩
theorem Mv.same {b : Addr} {H H1 H2 : Hp} (h : Mv b H H1) (g : Same H1 H2) : Mv b H H2 := ⟨fun c o ne q => g c o (h.1 c o ne q), h.2.elim fun t q => ⟨t, g _ _ q⟩⟩
theorem Mv.upd {b : Addr} {H : Hp} (t : Int × Int × Int) : Mv b H (L2.upd H b (bx t)) := ⟨fun c o ne q => by rw [upd_ne ne]; exact q, t, upd_same⟩
section
variable {K : PySem.W.Frag} {b a : Addr} {H H' : Hp} {t : Int × Int × Int} {xs : List V}
theorem Mv.rd {u : HO} (m : Mv b H H') (hb : H b = some (bx t)) (n1 : ∀ ys, u ≠ .lst ys) (h : Rd H a u) : Rd H' a u := by
  rcases h with h | ⟨z, h⟩
  · exact .inl (m.1 _ _ (ne_of h hb (n1 _)) h)
  · exact .inr ⟨z, m.1 _ _ (ne_of h hb (fun z => nomatch z)) h⟩
theorem Mv.sqT (m : Mv b H H') (hb : H b = some (bx t)) (h : SqT K H a xs) : SqT K H' a xs := h.imp (m.rd hb fun _ z => nomatch z) id
theorem Mv.sqL (m : Mv b H H') (ne : a ≠ b) (h : SqL K H a xs) : SqL K H' a xs := h.imp (fun h => h.elim (fun h => .inl (m.1 _ _ ne h)) fun ⟨z, h⟩ => .inr ⟨z, m.1 _ _ ne h⟩) id
theorem Mv.tupD (m : Mv b H H') (hb : H b = some (bx t)) (h : TupD H a xs) : TupD H' a xs := h.elim fun o h => ⟨o, m.1 _ _ (ne_of h.1 hb (fun z => nomatch z)) h.1, h.2⟩
theorem Mv.mc {C c : Addr} {n : Nat} {ts : List (List Int)} (m : Mv b H H') (hb : H b = some (bx t)) (h : McAt K C H c n ts) : McAt K C H' c n ts := by
  obtain ⟨ok, dx, p, ps, h1, h2, h3⟩ := h
  exact ⟨ok, dx, p, ps, m.1 _ _ (ne_of h1 hb (fun z => nomatch z)) h1, m.sqT hb h2, h3.imp fun _ _ q => m.sqT hb q⟩
end
def spTake : Sp := fun vs H Q _ => ∃ (b : Addr) (t : Int × Int × Int) (many : Int), vs = [.ref b, .int many] ∧ H b = some (bx t) ∧ 0 < many ∧ many < 1073741824 ∧
  ∀ (r : Int) (H' : Hp), 0 ≤ r → r < many → Mv b H H' → Q (.int r) H'
def spPick (K : PySem.W.Frag) : Sp := fun vs H Q _ => ∃ (b a : Addr) (t : Int × Int × Int) (xs : List V), vs = [.ref b, .ref a] ∧ H b = some (bx t) ∧ a ≠ b ∧ SqL K H a xs ∧ 0 < xs.length ∧ xs.length < 1073741824 ∧
  ∀ (v : V) (H' : Hp), v ∈ xs → Mv b H H' → Q v H'
def spBox (K : PySem.W.Frag) : Sp := fun vs H Q _ => ∃ (a : Addr) (ns : List Int) (k : Nat), vs = [.ref a, .int (k : Int)] ∧ SqL K H a (ns.map V.int) ∧ ns.length ≤ 63 ∧
  ∀ (H' : Hp) (b : Addr) (t : Int × Int × Int), Same H H' → H b = none → H' b = some (bx t) → Q (.ref b) H'
section
variable {P : Program} {w : World} {K : PySem.W.Frag} {mg : Str → Option Value} {base : Heap} {f : Addr} {fd : FuncData} {a : Ad} {C CM : Addr}
theorem sc_law_take : FnScope ["box", "many", "digit", "raw"] ["box", "many"] (defScope s_law_take) := ⟨rfl, rfl, rfl, by decide +kernel, rfl, by decide +kernel, by decide +kernel⟩
theorem ok_take (F : FnP K "_law_take" s_law_take f fd) (T : Mg mg) : FnOk P w K mg base CX0 1 f fd ["box", "many"] spTake := by
  refine F.ok sc_law_take (fun vs H Q E h => ?_) (fun cdv A outer s H vs Q E hr h => ?_)
  · obtain ⟨b, t, many, rfl, _⟩ := h
    rfl
  · obtain ⟨b, ⟨x, y, z⟩, many, rfl, hb, h0, h1, k⟩ := h
    refine ⟨_, PSs.nox (pss_cons (ps_if (pt_cmpR op_gt (pe_ix ix_list (pv 0) pe_int (fun _ _ => rfl)) pe_int (nomark _))
        (pss_cons (ps_set (i := 2) sc_law_take.nd rfl (by first | exact Or.inl rfl | exact Or.inr rfl) (pe_op op_mod (pe_callTy call_int1 (by rfl) T.z_int (by decide +kernel) (pa_cons (pe_ix ix_list (pv 0) pe_int (fun _ _ => rfl)) pa_nil)) (pv 1)))
        (pss_cons (ps_asg (pe_op op_fdivN (pe_ix ix_list (pv 0) pe_int (fun _ _ => rfl)) (pv 1)) (pg_sub (pv 0) pe_int set_list))
        (pss_one (ps_ret (pv 2)))))
        pss_nil)
      (pss_cons (ps_asg (pe_op op_add (pe_ix ix_list (pv 0) pe_int (fun _ _ => rfl)) pe_int) (pg_sub (pv 0) pe_int set_list))
      (pss_cons (ps_set (i := 3) sc_law_take.nd rfl (by first | exact Or.inl rfl | exact Or.inr rfl) (pe_op op_mod (pe_callTy call_int1 (by rfl) T.z_int (by decide +kernel) (pa_cons (pe_op op_add (pe_op op_mul (pe_op op_add (pe_ix ix_list (pv 0) pe_int (fun _ _ => rfl)) (pe_op op_mul pe_int (pe_ix ix_list (pv 0) pe_int (fun _ _ => rfl)))) pe_int) pe_int) pa_nil)) pe_int))
      (pss_cons (ps_asg (pe_op op_add (pe_op op_mod (pe_callTy call_int1 (by rfl) T.z_int (by decide +kernel) (pa_cons (pe_op op_add (pe_op op_mul (pv 3) pe_int) pe_int) pa_nil)) pe_int) pe_int) (pg_sub (pv 0) pe_int set_list))
      (pss_one (ps_ret (pe_op op_mod (pe_callTy call_int1 (by rfl) T.z_int (by decide +kernel) (pa_cons (pe_op op_fdiv (pe_op op_add (pe_op op_mul (pv 3) pe_int) (pe_ix ix_list (pv 0) pe_int (fun _ _ => rfl))) pe_int) pa_nil)) (pv 1)))))))), ?_⟩
    refine ⟨_, rfl, b, _, 0, _, rfl, rfl, SqL.of hb, rfl, _, _, rfl, rfl, _, rfl, ?_⟩
    refine ite2 (fun hx => ?_) (fun hx => ?_)
    · refine ⟨_, rfl, b, _, 0, _, rfl, rfl, SqL.of hb, rfl, .inl ⟨_, rfl, _, rfl, _, _, rfl, rfl, h0, ?_⟩⟩
      refine ⟨_, rfl, b, _, 0, _, rfl, rfl, SqL.of hb, rfl, _, rfl, _, _, rfl, rfl, ⟨by omega, by omega⟩, ?_⟩
      refine ⟨_, rfl, b, _, 0, 0, rfl, rfl, hb, rfl, ?_⟩
      exact ⟨_, rfl, k _ _ (Int.emod_nonneg _ (by omega)) (Int.emod_lt_of_pos _ h0) (Mv.upd (x.fdiv many, y, z))⟩
    · refine ⟨_, rfl, b, _, 2, _, rfl, rfl, SqL.of hb, rfl, _, _, rfl, rfl, ?_⟩
      refine ⟨_, rfl, b, _, 2, 2, rfl, rfl, hb, rfl, ?_⟩
      have e1 : L2.upd H b (.lst (([V.int x, V.int y, V.int z] : List V).set 2 (V.int (z + 1)))) b = some (.lst [V.int x, V.int y, V.int (z + 1)]) := upd_same
      refine ⟨_, rfl, b, _, 1, _, rfl, rfl, SqL.of e1, rfl, ?_⟩
      refine ⟨_, rfl, b, _, 2, _, rfl, rfl, SqL.of e1, rfl, _, _, rfl, rfl, .inl ⟨by decide, by decide⟩, _, _, rfl, rfl, _, _, rfl, rfl, .inr ⟨by decide, by decide⟩, _, _, rfl, rfl, ?_⟩
      refine .inl ⟨_, rfl, _, _, rfl, rfl, (by show (0 : Int) < 2147483423; decide), ?_⟩
      generalize hraw : ((y + 66029 * (z + 1)) * 55249 + 67) % 2147483423 = raw
      refine ⟨_, rfl, _, _, rfl, rfl, .inr ⟨by decide, by decide⟩, _, _, rfl, rfl, .inl ⟨_, rfl, _, _, rfl, rfl, (by show (0 : Int) < 2147483477; decide), _, _, rfl, rfl, ?_⟩⟩
      refine ⟨_, rfl, b, _, 1, 1, rfl, rfl, e1, rfl, ?_⟩
      rw [upd_upd]
      refine ⟨_, rfl, _, _, rfl, rfl, .inr ⟨by decide, by decide⟩, ?_⟩
      refine ⟨_, rfl, b, _, 1, _, rfl, rfl, SqL.of upd_same, rfl, _, _, rfl, rfl, _, _, rfl, rfl, ⟨by decide, by decide⟩, .inl ⟨_, rfl, _, rfl, _, _, rfl, rfl, h0, ?_⟩⟩
      exact k _ _ (Int.emod_nonneg _ (by omega)) (Int.emod_lt_of_pos _ h0) (Mv.upd (x, _, z + 1))
theorem sc_law_pick : FnScope ["box", "some"] ["box", "some"] (defScope s_law_pick) := ⟨rfl, rfl, rfl, by decide +kernel, rfl, by decide +kernel, by decide +kernel⟩
theorem ok_pick (F : FnP K "_law_pick" s_law_pick f fd) (T : Mg mg) (c__law_take : Cal P w K mg base CX0 1 "_law_take" ["box", "many"] spTake) : FnOk P w K mg base CX0 2 f fd ["box", "some"] (spPick K) := by
  refine F.ok sc_law_pick (fun vs H Q E h => ?_) (fun cdv A outer s H vs Q E hr h => ?_)
  · obtain ⟨b, a, t, xs, rfl, _⟩ := h
    rfl
  · obtain ⟨b, a, t, xs, rfl, hb, ne, hs, h0, h1, k⟩ := h
    refine ⟨_, PSs.nox (pss_one (ps_ret (pe_ix ix_list (pv 1) (pe_callC c__law_take hr pass0 (pa_cons (pv 0) (pa_cons (pe_callB call_len_seq (by rfl) T.z_len PySem.boot_len (pa_cons (pv 1) pa_nil)) pa_nil))) (fun _ _ => rfl)))), ?_⟩
    refine ⟨_, rfl, _, rfl, _, rfl, a, xs, rfl, .inl hs, b, t, _, rfl, hb, by omega, by omega, fun r H' r0 r1 m => ?_⟩
    obtain ⟨i, rfl⟩ : ∃ i : Nat, r = (i : Int) := ⟨r.toNat, by omega⟩
    have hx : xs[i]? = some xs[i] := List.getElem?_eq_getElem (by omega)
    exact ⟨a, xs, _, _, rfl, rfl, m.sqL ne hs, atI_nat hx, k _ H' (List.mem_of_getElem? hx) m⟩
theorem sc_law_box : FnScope ["script", "k", "cell"] ["script", "k"] (defScope s_law_box) := ⟨rfl, rfl, rfl, by decide +kernel, rfl, by decide +kernel, by decide +kernel⟩
theorem ok_box (F : FnP K "_law_box" s_law_box f fd) (T : Mg mg) : FnOk P w K mg base CX0 1 f fd ["script", "k"] (spBox K) := by
  refine F.ok sc_law_box (fun vs H Q E h => ?_) (fun cdv A outer s H vs Q E hr h => ?_)
  · obtain ⟨a, ns, kk, rfl, _⟩ := h
    rfl
  · obtain ⟨a, ns, kk, rfl, hs, hl, k⟩ := h
    refine ⟨_, PSs.nox (pss_cons (ps_set (i := 2) sc_law_box.nd rfl (by first | exact Or.inl rfl | exact Or.inr rfl) (pe_op op_add (pe_op op_mul pe_int (pv 1)) pe_int))
      (pss_cons (ps_if (pt_cmpR op_lt (pv 1) (pe_callB call_len_seq (by rfl) T.z_len PySem.boot_len (pa_cons (pv 0) pa_nil)) (nomark _))
        (pss_one (ps_set (i := 2) sc_law_box.nd rfl (by first | exact Or.inl rfl | exact Or.inr rfl) (pe_callB call_abs (by rfl) T.z_abs (by decide +kernel) (pa_cons (pe_ix ix_list (pv 0) (pv 1) (fun _ _ => rfl)) pa_nil))))
        (pss_one (ps_if (pt_cmpR op_gt (pe_callB call_len_seq (by rfl) T.z_len PySem.boot_len (pa_cons (pv 0) pa_nil)) pe_int (nomark _))
          (pss_one (ps_set (i := 2) sc_law_box.nd rfl (by first | exact Or.inl rfl | exact Or.inr rfl) (pe_op op_add (pv 2) (pe_op op_mul (pe_op op_mod (pe_callTy call_int1 (by rfl) T.z_int (by decide +kernel) (pa_cons (pe_callB call_abs (by rfl) T.z_abs (by decide +kernel) (pa_cons (pe_ix ix_list (pv 0) (pe_op op_mod (pe_callTy call_int1 (by rfl) T.z_int (by decide +kernel) (pa_cons (pv 1) pa_nil)) (pe_callB call_len_seq (by rfl) T.z_len PySem.boot_len (pa_cons (pv 0) pa_nil))) (fun _ _ => rfl)) pa_nil)) pa_nil)) pe_int) pe_int))))
          pss_nil)))
      (pss_one (ps_ret (pe_lst (pa_cons (pe_ix ix_list (pe_lst (pa_cons pe_int (pa_cons (pv 2) pa_nil))) (pe_callTy call_int1 (by rfl) T.z_int (by decide +kernel) (pa_cons (pe_cmpR op_ge (pv 2) (pe_op op_pow pe_int pe_int) (nomark _)) pa_nil)) (fun _ _ => rfl)) (pa_cons (pe_op op_add (pe_op op_mod (pe_callTy call_int1 (by rfl) T.z_int (by decide +kernel) (pa_cons (pe_op op_add (pe_op op_mul (pe_op op_mod (pe_callTy call_int1 (by rfl) T.z_int (by decide +kernel) (pa_cons (pv 2) pa_nil)) pe_int) pe_int) (pe_op op_mul pe_int (pv 1))) pa_nil)) pe_int) pe_int) (pa_cons pe_int pa_nil)))))))), ?_⟩
    refine ⟨_, rfl, _, _, rfl, rfl, .inl ⟨by decide, by decide⟩, _, _, rfl, rfl, ?_⟩
    refine ⟨_, rfl, _, rfl, a, _, rfl, .inl hs, _, _, rfl, rfl, _, rfl, ?_⟩
    rw [List.length_map]
    have tail : ∀ c : Int, ∀ b : Bool, ∃ v, atI [V.int 0, V.int c] (if b = true then 1 else 0) = some (V.int v) := fun c b => by cases b <;> exact ⟨_, rfl⟩
    refine ite2 (fun h1 => ?_) (fun h1 => ?_)
    · have hk : kk < ns.length := by simpa using h1
      have hx : (ns.map V.int)[kk]? = some (V.int ns[kk]) := by rw [List.getElem?_map, List.getElem?_eq_getElem hk]; rfl
      refine ⟨_, rfl, _, rfl, a, _, _, _, rfl, rfl, hs, atI_nat hx, _, rfl, ?_⟩
      refine ⟨_, rfl, (by show 2 ≤ sizeLine; decide), fun l hl0 => ?_⟩
      refine ⟨_, rfl, _, _, rfl, rfl, ⟨by decide, by decide, by decide⟩, _, _, rfl, rfl, .inr ⟨_, rfl, l, _, _, _, rfl, rfl, SqL.of upd_same, (tail _ _).choose_spec, ?_⟩⟩
      refine ⟨_, rfl, .inl ⟨_, rfl, _, _, rfl, rfl, (by show (0 : Int) < 2147483477; decide), _, _, rfl, rfl, .inr ⟨by decide, by decide⟩, ?_⟩⟩
      refine ⟨_, rfl, _, _, rfl, rfl, .inl ⟨by decide, by decide⟩, _, _, rfl, rfl, .inl ⟨_, rfl, _, _, rfl, rfl, (by show (0 : Int) < 2147483477; decide), _, _, rfl, rfl, ?_⟩⟩
      refine ⟨(by show 3 ≤ sizeLine; decide), fun p hp => ?_⟩
      exact k _ p (_, _, 0) ((same_new hl0).trans (same_new hp)) ((same_new hl0).free hp) upd_same
    · refine ⟨_, rfl, a, _, rfl, .inl hs, _, _, rfl, rfl, _, rfl, ?_⟩
      rw [List.length_map]
      refine ite2 (fun h2 => ?_) (fun h2 => ?_)
      · have hk : 0 < ns.length := by simpa using h2
        have hm : (kk : Int) % (ns.length : Int) = ((kk % ns.length : Nat) : Int) := rfl
        have lt : kk % ns.length < ns.length := Nat.mod_lt _ hk
        have hx : (ns.map V.int)[kk % ns.length]? = some (V.int ns[kk % ns.length]) := by rw [List.getElem?_map, List.getElem?_eq_getElem lt]; rfl
        refine ⟨_, rfl, _, rfl, _, rfl, .inl ⟨_, rfl, _, rfl, a, _, rfl, .inl hs, _, _, rfl, rfl, ?_, ?_⟩⟩
        · rw [List.length_map]
          omega
        · have hat : atI (ns.map V.int) ((kk : Int) % (((ns.map V.int).length : Nat) : Int)) = some (V.int ns[kk % ns.length]) := by
            rw [List.length_map, hm]
            exact atI_nat hx
          refine ⟨a, _, _, _, rfl, rfl, hs, hat, _, rfl, .inl ⟨_, rfl, _, _, rfl, rfl, (by show (0 : Int) < 2147483477; decide), _, _, rfl, rfl, .inr ⟨by decide, by decide⟩, _, _, rfl, rfl, ?_⟩⟩
          refine ⟨_, rfl, (by show 2 ≤ sizeLine; decide), fun l hl0 => ?_⟩
          refine ⟨_, rfl, _, _, rfl, rfl, ⟨by decide, by decide, by decide⟩, _, _, rfl, rfl, .inr ⟨_, rfl, l, _, _, _, rfl, rfl, SqL.of upd_same, (tail _ _).choose_spec, ?_⟩⟩
          refine ⟨_, rfl, .inl ⟨_, rfl, _, _, rfl, rfl, (by show (0 : Int) < 2147483477; decide), _, _, rfl, rfl, .inr ⟨by decide, by decide⟩, ?_⟩⟩
          refine ⟨_, rfl, _, _, rfl, rfl, .inl ⟨by decide, by decide⟩, _, _, rfl, rfl, .inl ⟨_, rfl, _, _, rfl, rfl, (by show (0 : Int) < 2147483477; decide), _, _, rfl, rfl, ?_⟩⟩
          refine ⟨(by show 3 ≤ sizeLine; decide), fun p hp => ?_⟩
          exact k _ p (_, _, 0) ((same_new hl0).trans (same_new hp)) ((same_new hl0).free hp) upd_same
      · generalize (9533 * (kk : Int) + 463) = c
        refine ⟨_, rfl, (by show 2 ≤ sizeLine; decide), fun l hl0 => ?_⟩
        refine ⟨_, rfl, _, _, rfl, rfl, ⟨by decide, by decide, by decide⟩, _, _, rfl, rfl, .inr ⟨_, rfl, l, _, _, _, rfl, rfl, SqL.of upd_same, (tail _ _).choose_spec, ?_⟩⟩
        refine ⟨_, rfl, .inl ⟨_, rfl, _, _, rfl, rfl, (by show (0 : Int) < 2147483477; decide), _, _, rfl, rfl, .inr ⟨by decide, by decide⟩, ?_⟩⟩
        refine ⟨_, rfl, _, _, rfl, rfl, .inl ⟨by decide, by decide⟩, _, _, rfl, rfl, .inl ⟨_, rfl, _, _, rfl, rfl, (by show (0 : Int) < 2147483477; decide), _, _, rfl, rfl, ?_⟩⟩
        refine ⟨(by show 3 ≤ sizeLine; decide), fun p hp => ?_⟩
        exact k _ p (_, _, 0) ((same_new hl0).trans (same_new hp)) ((same_new hl0).free hp) upd_same
end
end K4
/-! the law's tables -/
namespace K4
open L2 PySem PySem.Spec PyProof.Rows Kx RZ TL
theorem Mv.none {b D : Addr} {H H' : Hp} (m : Mv b H H') (h : H' D = .none) : H D = .none ∧ D ≠ b := by
  have ne : D ≠ b := fun z => by
    obtain ⟨t, ht⟩ := m.2
    rw [z, ht] at h
    cases h
  refine ⟨?_, ne⟩
  cases e : H D with
  | none => rfl
  | some o =>
    have := m.1 D o ne e
    rw [h] at this
    cases this
theorem Mv.put {b D : Addr} {H H' : Hp} {o : HO} (m : Mv b H H') (h1 : H D = .none) (h2 : D ≠ b) : Mv b H (L2.upd H' D o) := ⟨fun c u ne q => by
  rw [upd_ne (ne_of_none q h1)]
  exact m.1 c u ne q, by
  obtain ⟨t, ht⟩ := m.2
  exact ⟨t, by rw [upd_ne (Ne.symm h2)]; exact ht⟩⟩
def spTurned (K : PySem.W.Frag) : Sp := fun vs H Q _ => ∃ (b : Addr) (t : Int × Int × Int) (n : Nat), vs = [.ref b, .int (n : Nat)] ∧ H b = some (bx t) ∧ n ≤ 8 ∧ ∀ (p : Addr) (H' : Hp) (ns : List Nat), Mv b H H' → ns.length = n → (∀ x ∈ ns, x < n) → SqT K H' p (iv ns) → Q (.ref p) H'
theorem sq_idx {k n : Nat} (h : k < n) : seqIndex? (k : Int) n = some k := by
  have := seqIndex_of (k := (k : Int)) (n := n) (by omega) (by omega)
  rw [Int.toNat_natCast] at this
  exact this
theorem rgV_iv {n : Nat} : rgV 0 (n : Int) = iv (List.range n) := by
  unfold rgV iv
  rw [Int.sub_zero, Int.toNat_natCast]
  exact List.map_congr_left fun i _ => by rw [Int.zero_add]
theorem iv_erase {ns : List Nat} {k : Nat} : (iv ns).eraseIdx k = iv (ns.eraseIdx k) := by
  unfold iv
  induction ns generalizing k with
  | nil => rfl
  | cons a r ih => cases k with
    | zero => rfl
    | succ k =>
      show V.int (a : Nat) :: (r.map fun n => V.int (n : Nat)).eraseIdx k = V.int (a : Nat) :: (r.eraseIdx k).map fun n => V.int (n : Nat)
      rw [ih]
theorem mem_erase {α : Type} {l : List α} {k : Nat} {x : α} (h : x ∈ l.eraseIdx k) : x ∈ l := List.mem_of_mem_eraseIdx h
section
variable {P : Program} {w : World} {K : PySem.W.Frag} {mg : Str → Option Value} {base : Heap} {f : Addr} {fd : FuncData}
theorem sc_turned : FnScope ["box", "states", "left", "found", "state"] ["box", "states"] (defScope s_law_turned) := ⟨rfl, rfl, rfl, by decide +kernel, rfl, by decide +kernel, by decide +kernel⟩
theorem ok_turned (F : FnP K "_law_turned" s_law_turned f fd) (T : Mg mg) (c_take : Cal P w K mg base CX0 1 "_law_take" ["box", "many"] spTake) : FnOk P w K mg base CX0 2 f fd ["box", "states"] (spTurned K) := by
  refine F.ok sc_turned (fun vs H Q E h => ?_) (fun cdv A outer s H vs Q E hr h => ?_)
  · obtain ⟨b, t, n, rfl, _⟩ := h
    rfl
  · obtain ⟨b, t, n, rfl, hb, n8, k⟩ := h
    refine ⟨_, PSs.nox (pss_cons (ps_par (i := 2) (j := 3) (by rfl) sc_turned.nd rfl rfl (by decide) rfl rfl (pa_cons (pe_listRg rfl (by rfl) T.z_list (prg_1 (by rfl) T.z_range (pv 1))) (pa_cons (pe_lst pa_nil) pa_nil)) (by rfl))
      (pss_cons (ps_for PassesOwn.never rfl (pi_range1 (by rfl) T.z_range (pa_cons (pv 1) pa_nil)) (pg_name (i := 4) sc_turned.nd rfl (by first | exact Or.inl rfl | exact Or.inr rfl))
        (pss_one (ps_expr (pe_bm PySem.F.plainAttrs_list PySem.F.slot_list_append PySem.F.type_list_append mt_append (pv 3) (pa_cons (pe_bm PySem.F.plainAttrs_list PySem.F.slot_list_pop PySem.F.type_list_pop mt_popAt (pv 2) (pa_cons (pe_callC c_take hr pass0 (pa_cons (pv 0) (pa_cons (pe_callB call_len_seq (by rfl) T.z_len PySem.boot_len (pa_cons (pv 2) pa_nil)) pa_nil))) pa_nil)) pa_nil)))))
      (pss_one (ps_ret (pe_callTy call_tup (by rfl) T.z_tuple (by decide +kernel) (pa_cons (pv 3) pa_nil)))))), ?_⟩
    refine ⟨_, rfl, n, rfl, RgOk.of_le (by decide) (by omega) (by decide) (by omega), fun L hL => ⟨by show 0 ≤ sizeLine; decide, fun Fa hF => ?_⟩⟩
    rw [rgV_iv] at hF ⊢
    have e1 := same_new (o := HO.lst (iv (List.range n))) hL
    have hL1 := upd_same (H := H) (a := L) (o := HO.lst (iv (List.range n)))
    have lb : L ≠ b := fun z => by rw [z, hb] at hL; cases hL
    generalize upd H L (HO.lst (iv (List.range n))) = H1 at e1 hL1 hF ⊢
    have e2 := same_new (o := HO.lst []) hF
    have hF1 := upd_same (H := H1) (a := Fa) (o := HO.lst [])
    have fb : Fa ≠ b := fun z => by rw [z, e1 _ _ hb] at hF; cases hF
    have fl : Fa ≠ L := fun z => by rw [z, hL1] at hF; cases hF
    have nF : H Fa = none := e1.free hF
    have m0 : Mv b H (upd H1 Fa (HO.lst [])) := (Mv.refl hb).same (e1.trans e2)
    have hL2 := e2 _ _ hL1
    generalize upd H1 Fa (HO.lst []) = H2 at e2 hF1 m0 hL2 ⊢
    refine ⟨_, _, rfl, _, rfl, n, rfl, by omega, by omega, for_range (lo := 0) (n := n) (fun i σ' H' => ∃ (y : Option V) (ls fs : List Nat), σ' = [some (.ref b), some (.int (n : Nat)), some (.ref L), some (.ref Fa), y] ∧ Mv b H H' ∧ H' L = some (.lst (iv ls)) ∧ H' Fa = some (.lst (iv fs)) ∧ ls.length = n - i ∧ fs.length = i ∧ (∀ x ∈ ls, x < n) ∧ ∀ x ∈ fs, x < n) ⟨_, List.range n, [], rfl, m0, hL2, hF1, by simp, rfl, fun x hx => List.mem_range.mp hx, fun x hx => by cases hx⟩ ?_ ?_⟩
    · rintro i σ' H3 hi ⟨y, ls, fs, rfl, m3, hL3, hF3, l1, l2, a1, a2⟩
      obtain ⟨t3, hb3⟩ := m3.2
      have ll : (iv ls).length = n - i := by rw [iv_len, l1]
      refine ⟨_, rfl, .inl ⟨rfl, _, SqL.of hF3⟩, _, rfl, .inl ⟨rfl, _, SqL.of hL3⟩, _, rfl, _, rfl, L, _, rfl, .inl (SqL.of hL3), b, t3, _, rfl, hb3, by rw [ll]; omega, by rw [ll]; omega, fun r H4 r0 r1 m4 => ?_⟩
      rw [ll] at r1
      obtain ⟨j, rfl⟩ : ∃ j : Nat, r = (j : Int) := ⟨r.toNat, by omega⟩
      have jl : j < ls.length := by omega
      have hL4 := m4.1 _ _ lb hL3
      have hF4 := m4.1 _ _ fb hF3
      have m34 := m3.trans m4
      refine ⟨L, _, _, j, V.int (ls[j] : Nat), rfl, rfl, hL4, by omega, by omega, sq_idx (by rw [iv_len]; exact jl), ?_, ?_⟩
      · unfold iv
        rw [List.getElem?_map, List.getElem?_eq_getElem jl]
        rfl
      · rw [iv_erase]
        have mE : Mv b H (upd H4 L (HO.lst (iv (ls.eraseIdx j)))) := m34.put hL lb
        refine ⟨Fa, _, _, rfl, rfl, by rw [upd_ne fl]; exact hF4, by rw [iv_len, l2, sizeLine_eq]; omega, _, ls.eraseIdx j, fs ++ [ls[j]], rfl, mE.put nF fb, by rw [upd_ne (Ne.symm fl), upd_same], ?_, ?_, ?_, fun x hx => a1 x (mem_erase hx), fun x hx => ?_⟩
        · rw [upd_same]
          unfold iv
          rw [List.map_append]
          rfl
        · rw [List.length_eraseIdx_of_lt jl]
          omega
        · rw [List.length_append, l2]
          rfl
        · rcases List.mem_append.mp hx with h | h
          · exact a2 x h
          · rw [List.mem_singleton.mp h]
            exact a1 _ (List.getElem_mem jl)
    · rintro σ' H3 ⟨y, ls, fs, rfl, m3, hL3, hF3, l1, l2, a1, a2⟩
      exact ⟨_, rfl, Fa, _, rfl, .inl (SqL.of hF3), fun p H4 e4 hp => k p H4 fs (m3.same e4) l2 a2 hp⟩
end
end K4
/-! the law's words -/
namespace K4
open L2 PySem PySem.Spec PyProof.Rows Kx RZ TL
/-- a list or a tuple, walked -/
theorem pi_lt {X : Cx} {tg l : Expr} {tl : TE} (hl : PE X l tl) : PI X tg l (fun σ H R => iList X.K tl σ H R ∨ iTup X.K tl σ H R) := ⟨fun pins s σ H R I h => h.elim ((pi_list hl).run pins s σ H R I) ((pi_tup hl).run pins s σ H R I)⟩
def spWords (K : PySem.W.Frag) : Sp := fun vs H Q _ => ∃ (p : Addr) (ns : List Nat), vs = [.ref p] ∧ Sq K H p (iv ns) ∧ (∀ n ∈ ns, n < 10 ^ 40) ∧ ns.length ≤ 400 ∧ ∀ H', Same H H' → Q (.str (rowText ns)) H'
section
variable {P : Program} {w : World} {K : PySem.W.Frag} {mg : Str → Option Value} {base : Heap} {f : Addr} {fd : FuncData}
theorem sc_words : FnScope ["numbers", "number"] ["numbers"] (defScope s_law_words) := ⟨rfl, rfl, rfl, by decide +kernel, rfl, by decide +kernel, by decide +kernel⟩
theorem ok_words (F : FnP K "_law_words" s_law_words f fd) (T : Mg mg) : FnOk P w K mg base CX0 1 f fd ["numbers"] (spWords K) := by
  refine F.ok sc_words (fun vs H Q E h => ?_) (fun cdv A outer s H vs Q E hr h => ?_)
  · obtain ⟨p, ns, rfl, _⟩ := h
    rfl
  · obtain ⟨p, ns, rfl, hp, lt, l400, k⟩ := h
    refine ⟨_, PSs.nox (pss_one (ps_ret (pe_ifExp (pt_cmpR op_gt (pe_callB call_len_seq (by rfl) T.z_len PySem.boot_len (pa_cons (pv 0) pa_nil)) pe_int (nomark _))
      (pe_join pe_str (pe_lc (own := [("number", 1)]) (by rfl) sc_words.nd (pi_lt (pv 0)) (blkOk_by (own := [("number", 1)]) (N := ["numbers", "number"]) (sc := defScope s_law_words) (by decide +kernel))
        (fun _ _ _ _ _ => pg_name (i := 1) sc_words.nd rfl (by first | exact Or.inl rfl | exact Or.inr rfl)) (fun _ _ _ _ _ => pts_nil) (fun _ _ _ _ _ => pe_callTy call_str_int (by rfl) T.z_str bt_str (pa_cons (pv 1) pa_nil)))) pe_str))), ?_⟩
    refine ⟨_, rfl, p, _, rfl, hp, _, _, rfl, rfl, _, rfl, ?_⟩
    rw [iv_len]
    by_cases e : ns = []
    · subst e
      have := k H (Same.refl H)
      exact this
    · have l1 : 1 ≤ ns.length := by
        cases ns with
        | nil => exact absurd rfl e
        | cons _ _ => simp
      rw [show decide ((0 : Int) < (ns.length : Int)) = true from decide_eq_true (by omega)]
      have step : ∀ {D : Addr} (hD : H D = none) {j : Nat} {y : V} {H2 : Hp}, (iv ns)[j]? = some y → Part H D ((nums ns).map V.str) j H2 → ∃ n : Nat, y = .int (n : Nat) ∧ ((n : Nat) : Int).natAbs.log2 < 1920 ∧ ∃ acc, H2 D = some (.lst acc) ∧ acc.length < sizeLine ∧ Part H D ((nums ns).map V.str) (j + 1) (upd H2 D (.lst (acc ++ [.str (num n)]))) := fun {D} hD {j y H2} hy pt => by
        obtain ⟨n, he, rfl⟩ : ∃ n, ns[j]? = some n ∧ y = .int (n : Nat) := by
          unfold iv at hy
          rw [List.getElem?_map, Option.map_eq_some_iff] at hy
          obtain ⟨e, h1, h2⟩ := hy
          exact ⟨e, h1, h2.symm⟩
        refine ⟨n, rfl, log_ok (lt n (List.mem_of_getElem? he)), pt.step hD (Same.refl H2) ?_ ?_⟩
        · unfold nums
          rw [List.getElem?_map, List.getElem?_map, he]
          rfl
        · unfold nums
          rw [List.length_map, List.length_map, sizeLine_eq]
          omega
      have fin : ∀ {D : Addr} {H2 : Hp}, Part H D ((nums ns).map V.str) (iv ns).length H2 → H2 D = some (.lst ((nums ns).map V.str)) ∧ Same H H2 := fun pt => pt.done (by unfold nums iv; rw [List.length_map, List.length_map, List.length_map]; exact Nat.le_refl _)
      have size : ((nums ns).map (·.length)).sum + (nums ns).length * (Str.ofString " ").length ≤ 16777216 := by
        have h1 := sum_len (nums_len lt)
        have h2 : (nums ns).length = ns.length := List.length_map ..
        have h3 : (Str.ofString " ").length = 1 := by decide +kernel
        rw [h3]
        omega
      have et : rowText ns = Txt.join " " (nums ns) := if_neg e
      rw [et] at k
      refine iteT ⟨⟨_, rfl⟩, ?_⟩
      rcases hp with hp | hp
      · refine .inl ⟨_, rfl, p, rfl, ⟨_, hp⟩, fun D hD => lc_list (xs := iv ns) (Part H D ((nums ns).map V.str)) (Part.zero hD) (fun i H _ pt => sqL_same pt.2 hp) ?_ ?_⟩
        · rintro j y H2 hy pt
          obtain ⟨n, rfl, h1, h2⟩ := step hD hy pt
          exact ⟨rfl, yes ((if_pos rfl).mpr ⟨_, rfl, _, rfl, h1, h2⟩)⟩
        · intro H2 pt
          obtain ⟨hD2, e2⟩ := fin pt
          exact ⟨_, D, nums ns, rfl, rfl, .inl (SqL.of hD2), size, k _ e2⟩
      · refine .inr ⟨_, rfl, p, rfl, ⟨_, hp⟩, fun D hD => lc_tup (xs := iv ns) (Part H D ((nums ns).map V.str)) (Part.zero hD) (fun i H _ pt => sqT_same pt.2 hp) ?_ ?_⟩
        · rintro j y H2 hy pt
          obtain ⟨n, rfl, h1, h2⟩ := step hD hy pt
          exact ⟨rfl, yes ((if_pos rfl).mpr ⟨_, rfl, _, rfl, h1, h2⟩)⟩
        · intro H2 pt
          obtain ⟨hD2, e2⟩ := fin pt
          exact ⟨_, D, nums ns, rfl, rfl, .inl (SqL.of hD2), size, k _ e2⟩
end
end K4
/-! the law's machines -/
namespace K4
open L2 PySem PySem.Spec PyProof.Rows Kx RZ TL
theorem call_tupS {X : Cx} {K : PySem.W.Frag} (hK : X.K = K := by rfl) : CallR X (.type "tuple") (fun xs H Q => ∃ p ys, xs = [.ref p] ∧ Sq K H p ys ∧ ∀ q H', Same H H' → SqT K H' q ys → Q (.ref q) H') := by
  subst hK
  exact call_tup
theorem natI_lt {n : Nat} {ns : List Nat} (h : ∀ x ∈ ns, x < n) : ∀ z ∈ natI ns, 0 ≤ z ∧ z < (n : Int) := fun z hz => by
  obtain ⟨k, hk, rfl⟩ := List.mem_map.mp hz
  have := h k hk
  omega
theorem natI_len {ns : List Nat} : (natI ns).length = ns.length := List.length_map ..
def spMach (K : PySem.W.Frag) : Sp := fun vs H Q _ => ∃ (b : Addr) (t : Int × Int × Int) (most kinds : Nat), vs = [.ref b, .int (most : Nat), .int (kinds : Nat)] ∧ H b = some (bx t) ∧ 1 ≤ most ∧ most ≤ 8 ∧ 1 ≤ kinds ∧ kinds ≤ 4 ∧
  ∀ (Fa : Addr) (H' : Hp) (ps : List V) (n : Nat) (ts : List (List Int)), Mv b H H' → Fa ≠ b → H Fa = none → H' Fa = some (.lst ps) → RowsBy (SqT K H') ps ts → Mok n ts → Q (.ref Fa) H'
/-- rows made one by one: the list at D -/
def Rws (K : PySem.W.Frag) (b : Addr) (H : Hp) (D : Addr) (n : Nat) (i : Nat) (H' : Hp) : Prop := ∃ (ps : List V) (ts : List (List Int)), H' D = some (.lst ps) ∧ Mv b H H' ∧ RowsBy (SqT K H') ps ts ∧ ts.length = i ∧ (∀ t ∈ ts, t.length = n) ∧ ∀ t ∈ ts, ∀ z ∈ t, 0 ≤ z ∧ z < (n : Int)
theorem Rws.zero {K : PySem.W.Frag} {b D : Addr} {H H1 : Hp} {n : Nat} (m : Mv b H (upd H1 D (.lst []))) : Rws K b H D n 0 (upd H1 D (.lst [])) := ⟨[], [], upd_same, m, trivial, rfl, fun _ h => (List.not_mem_nil h).elim, fun _ h => (List.not_mem_nil h).elim⟩
theorem RowsBy.set {R : Addr → List V → Prop} {q : Addr} {t : List Int} (hq : R q (t.map V.int)) : ∀ {vs : List V} {ts : List (List Int)} (j : Nat), RowsBy R vs ts → RowsBy R (vs.set j (.ref q)) (ts.set j t)
  | [], [], _, _ => trivial
  | _ :: _, _ :: _, 0, ⟨_, h⟩ => ⟨⟨q, rfl, hq⟩, h⟩
  | _ :: _, _ :: _, j + 1, ⟨h1, h⟩ => ⟨h1, RowsBy.set hq j h⟩
  | [], _ :: _, _, h => h.elim
  | _ :: _, [], _, h => h.elim
theorem Rws.step {K : PySem.W.Frag} {b D q : Addr} {H H1 H2 : Hp} {n i : Nat} {ns : List Nat} (r : Rws K b H D n i H1) (nD : H D = none) (db : D ≠ b) (i9 : i ≤ 8) (m : Mv b H1 H2) (l : ns.length = n) (a : ∀ x ∈ ns, x < n) (hq : SqT K H2 q (iv ns)) :
    ∃ acc, H2 D = some (.lst acc) ∧ acc.length < sizeLine ∧ Rws K b H D n (i + 1) (upd H2 D (.lst (acc ++ [.ref q]))) := by
  obtain ⟨ps, ts, h1, h2, h3, h4, h5, h6⟩ := r
  obtain ⟨t1, hb1⟩ := h2.2
  have hD := m.1 _ _ db h1
  refine ⟨ps, hD, by rw [h3.length, h4, sizeLine_eq]; omega, ps ++ [.ref q], ts ++ [natI ns], upd_same, (h2.trans m).put nD db, ?_, by rw [List.length_append, h4]; rfl, fun t ht => ?_, fun t ht => ?_⟩
  · refine RowsBy.snoc (sqT_lst hD ?_) (h3.imp fun _ _ z => sqT_lst hD (m.sqT hb1 z))
    rw [natI_iv]
    exact hq
  · rcases List.mem_append.mp ht with h | h
    · exact h5 t h
    · rw [List.mem_singleton.mp h, natI_len]
      exact l
  · rcases List.mem_append.mp ht with h | h
    · exact h6 t h
    · rw [List.mem_singleton.mp h]
      exact natI_lt a
section
variable {P : Program} {w : World} {K : PySem.W.Frag} {mg : Str → Option Value} {base : Heap} {f : Addr} {fd : FuncData}
theorem sc_mach : FnScope ["box", "most", "kinds", "states", "style", "found", "deed", "table", "state"] ["box", "most", "kinds"] (defScope s_law_machine) := ⟨rfl, rfl, rfl, by decide +kernel, rfl, by decide +kernel, by decide +kernel⟩
theorem ok_mach (F : FnP K "_law_machine" s_law_machine f fd) (T : Mg mg) (c_take : Cal P w K mg base CX0 1 "_law_take" ["box", "many"] spTake) (c_turned : Cal P w K mg base CX0 2 "_law_turned" ["box", "states"] (spTurned K)) : FnOk P w K mg base CX0 3 f fd ["box", "most", "kinds"] (spMach K) := by
  refine F.ok sc_mach (fun vs H Q E h => ?_) (fun cdv A outer s H vs Q E hr h => ?_)
  · obtain ⟨b, t, most, kinds, rfl, _⟩ := h
    rfl
  · obtain ⟨b, t, most, kinds, rfl, hb, m1, m8, k1, k4, k⟩ := h
    refine ⟨_, PSs.nox (pss_cons (ps_asg (pe_tup (pa_cons (pe_op op_add pe_int (pe_callC c_take hr pass0 (pa_cons (pv 0) (pa_cons (pv 1) pa_nil)))) (pa_cons (pe_callC c_take hr pass0 (pa_cons (pv 0) (pa_cons pe_int pa_nil))) pa_nil))) (pg_tup rfl (pgs_cons (pg_name (i := 3) sc_mach.nd rfl (by first | exact Or.inl rfl | exact Or.inr rfl)) (pgs_cons (pg_name (i := 4) sc_mach.nd rfl (by first | exact Or.inl rfl | exact Or.inr rfl)) pgs_nil))))
      (pss_cons (ps_mid (ps_setLc (i := 5) (own := [("deed", 6)]) (by rfl) sc_mach.nd rfl rfl (sw_true rfl rfl rfl (by decide +kernel)) (pi_range1 (by rfl) T.z_range (pa_cons (pe_op op_add pe_int (pe_callC c_take hr pass0 (pa_cons (pv 0) (pa_cons (pv 2) pa_nil)))) pa_nil)) (blkOk_by (own := [("deed", 6)]) (N := ["box", "most", "kinds", "states", "style", "found", "deed", "table", "state"]) (sc := defScope s_law_machine) (by decide +kernel)) (fun _ _ _ _ _ => (pg_name (i := 6) sc_mach.nd rfl (by first | exact Or.inl rfl | exact Or.inr rfl))) (fun _ _ _ _ _ => pts_nil) (fun _ _ _ _ _ => (pe_callC c_turned hr pass0 (pa_cons (pv 0) (pa_cons (pv 3) pa_nil))))))
      (pss_cons (ps_mid (ps_if (pt_cmpR op_eq (pv 4) pe_int (nomark _)) (pss_one (ps_setLc (i := 5) (own := [("table", 7)]) (by rfl) sc_mach.nd rfl rfl (sw_true rfl rfl rfl (by decide +kernel)) (pi_list (pv 5)) (blkOk_by (own := [("table", 7)]) (N := ["box", "most", "kinds", "states", "style", "found", "deed", "table", "state"]) (sc := defScope s_law_machine) (by decide +kernel)) (fun _ _ _ _ _ => (pg_name (i := 7) sc_mach.nd rfl (by first | exact Or.inl rfl | exact Or.inr rfl))) (fun _ _ _ _ _ => pts_nil) (fun _ _ _ _ _ => (pe_callTy (call_tupS (K := K)) (by rfl) T.z_tuple bt_tuple (pa_cons (pe_lc (own := [("state", 8)]) (by rfl) sc_mach.nd (pi_range1 (by rfl) T.z_range (pa_cons (pv 3) pa_nil)) (blkOk_by (own := [("state", 8)]) (N := ["box", "most", "kinds", "states", "style", "found", "deed", "table", "state"]) (sc := { kind := .function, names := [(".0", .local), ("table", .local), ("tuple", .globalImplicit), ("range", .globalImplicit), ("box", .cell), ("states", .cell)], isGenerator := false, isCoroutine := false }) (by decide +kernel)) (fun _ _ _ _ _ => (pg_name (i := 8) sc_mach.nd rfl (by first | exact Or.inl rfl | exact Or.inr rfl))) (fun _ _ _ _ _ => pts_nil) (fun _ _ _ _ _ => (pe_callC c_take hr pass0 (pa_cons (pv 0) (pa_cons (pv 3) pa_nil))))) pa_nil))))) pss_nil))
      (pss_cons (ps_mid (ps_if (pt_cmpR op_eq (pv 4) pe_int (nomark _)) (pss_one (ps_asg (pe_callTy (call_tupS (K := K)) (by rfl) T.z_tuple bt_tuple (pa_cons (pe_lc (own := [("state", 8)]) (by rfl) sc_mach.nd (pi_range1 (by rfl) T.z_range (pa_cons (pv 3) pa_nil)) (blkOk_by (own := [("state", 8)]) (N := ["box", "most", "kinds", "states", "style", "found", "deed", "table", "state"]) (sc := defScope s_law_machine) (by decide +kernel)) (fun _ _ _ _ _ => (pg_name (i := 8) sc_mach.nd rfl (by first | exact Or.inl rfl | exact Or.inr rfl))) (fun _ _ _ _ _ => pts_nil) (fun _ _ _ _ _ => (pe_callC c_take hr pass0 (pa_cons (pv 0) (pa_cons (pv 3) pa_nil))))) pa_nil)) (pg_sub (pv 5) (pe_callC c_take hr pass0 (pa_cons (pv 0) (pa_cons (pe_callB call_len_seq (by rfl) T.z_len PySem.boot_len (pa_cons (pv 5) pa_nil)) pa_nil))) set_list))) pss_nil))
      (pss_cons (ps_mid (ps_if (pt_cmpR op_eq (pv 4) pe_int (nomark _)) (pss_one (ps_setLc (i := 5) (own := [("deed", 6)]) (by rfl) sc_mach.nd rfl rfl (sw_true rfl rfl rfl (by decide +kernel)) (pi_range1 (by rfl) T.z_range (pa_cons (pe_callB call_len_seq (by rfl) T.z_len PySem.boot_len (pa_cons (pv 5) pa_nil)) pa_nil)) (blkOk_by (own := [("deed", 6)]) (N := ["box", "most", "kinds", "states", "style", "found", "deed", "table", "state"]) (sc := defScope s_law_machine) (by decide +kernel)) (fun _ _ _ _ _ => (pg_name (i := 6) sc_mach.nd rfl (by first | exact Or.inl rfl | exact Or.inr rfl))) (fun _ _ _ _ _ => pts_nil) (fun _ _ _ _ _ => (pe_callTy (call_tupS (K := K)) (by rfl) T.z_tuple bt_tuple (pa_cons (pe_lc (own := [("state", 8)]) (by rfl) sc_mach.nd (pi_range1 (by rfl) T.z_range (pa_cons (pv 3) pa_nil)) (blkOk_by (own := [("state", 8)]) (N := ["box", "most", "kinds", "states", "style", "found", "deed", "table", "state"]) (sc := { kind := .function, names := [(".0", .local), ("deed", .cell), ("tuple", .globalImplicit), ("range", .globalImplicit), ("states", .cell)], isGenerator := false, isCoroutine := false }) (by decide +kernel)) (fun _ _ _ _ _ => (pg_name (i := 8) sc_mach.nd rfl (by first | exact Or.inl rfl | exact Or.inr rfl))) (fun _ _ _ _ _ => pts_nil) (fun _ _ _ _ _ => (pe_op op_mod (pe_callTy call_int1 (by rfl) T.z_int bt_int (pa_cons (pe_op op_add (pe_op op_add (pv 8) (pv 6)) pe_int) pa_nil)) (pv 3)))) pa_nil))))) pss_nil))
      (pss_one (ps_ret (pv 5)))))))), ?_⟩
    refine ⟨_, rfl, _, rfl, b, t, _, rfl, hb, by omega, by omega, fun r0 H1 a0 a1 mv1 => ⟨_, _, rfl, rfl, ?_⟩⟩
    obtain ⟨t1, hb1⟩ := mv1.2
    refine ⟨_, rfl, b, t1, 5, rfl, hb1, by decide, by decide, fun st H2 c0 c1 mv2 => ⟨by show 2 ≤ sizeLine; decide, fun p hp => ?_⟩⟩
    obtain ⟨n, en⟩ : ∃ n : Nat, 1 + r0 = (n : Int) := ⟨(1 + r0).toNat, by omega⟩
    have n1 : 1 ≤ n := by omega
    have n8 : n ≤ 8 := by omega
    rw [show ((fun (i j : Int) => V.int (i + j)) 1 r0) = V.int (n : Int) from congrArg V.int en]
    have mp := (mv1.trans mv2).same (same_new (o := HO.tup [V.int (n : Int), V.int st]) hp)
    refine ⟨p, _, rfl, SqT.of upd_same, rfl, ?_⟩
    refine ⟨_, _, rfl, _, _, rfl, rfl, ?_⟩
    generalize upd H2 p (HO.tup [V.int (n : Int), V.int st]) = H3 at mp ⊢
    obtain ⟨t3, hb3⟩ := mp.2
    refine ⟨(fun σ' H' => ∃ (Fa : Addr) (ps : List V) (ts : List (List Int)) (x6 x7 x8 : Option V), σ' = [some (.ref b), some (.int (most : Nat)), some (.int (kinds : Nat)), some (.int (n : Nat)), some (.int st), some (.ref Fa), x6, x7, x8] ∧ Mv b H H' ∧ Fa ≠ b ∧ H Fa = none ∧ H' Fa = some (.lst ps) ∧ RowsBy (SqT K H') ps ts ∧ Mok n ts), ?_, ?_⟩
    · refine ⟨_, rfl, _, rfl, b, t3, _, rfl, hb3, by omega, by omega, fun r2 H4 d0 d1 mv4 => ⟨_, _, rfl, rfl, ?_⟩⟩
      obtain ⟨m, em⟩ : ∃ m : Nat, 1 + r2 = (m : Int) := ⟨(1 + r2).toNat, by omega⟩
      rw [show ((fun (i j : Int) => V.int (i + j)) 1 r2) = V.int (m : Int) from congrArg V.int em]
      have m4 := mp.trans mv4
      refine ⟨m, rfl, by omega, by omega, fun D hD => ?_⟩
      obtain ⟨nD, db⟩ := m4.none hD
      refine lc_range (lo := 0) (n := m) (Rws K b H D n) (Rws.zero (m4.put nD db)) ?_ ?_
      · intro i H5 hi rw5
        obtain ⟨t5, hb5⟩ := rw5.elim fun _ z => z.elim fun _ z => z.2.1.2
        refine ⟨rfl, yes ((if_pos rfl).mpr ?_)⟩
        exact ⟨_, rfl, _, rfl, b, t5, n, rfl, hb5, n8, fun q H6 ns m6 l6 a6 hq => rw5.step nD db (by omega) m6 l6 a6 hq⟩
      · rintro H5 ⟨ps, ts, h1, h2, h3, h4, h5, h6⟩
        exact ⟨D, ps, ts, _, _, _, rfl, h2, db, nD, h1, h3, by omega, by omega, n1, n8, h5, h6⟩
    rintro σ1 H5 ⟨Fa, ps, ts, x6, x7, x8, rfl, m5, fb, nF, hF, rows, ok⟩
    have l1 := ok.l1
    have l4 := ok.l4
    obtain ⟨t5, hb5⟩ := m5.2
    refine ⟨(fun σ' H' => ∃ (Fa : Addr) (ps : List V) (ts : List (List Int)) (x6 x7 x8 : Option V), σ' = [some (.ref b), some (.int (most : Nat)), some (.int (kinds : Nat)), some (.int (n : Nat)), some (.int st), some (.ref Fa), x6, x7, x8] ∧ Mv b H H' ∧ Fa ≠ b ∧ H Fa = none ∧ H' Fa = some (.lst ps) ∧ RowsBy (SqT K H') ps ts ∧ Mok n ts), ?_, ?_⟩
    · refine ⟨_, rfl, rfl, _, rfl, ite2 (fun z => ?_) (fun z => ⟨Fa, ps, ts, _, _, _, rfl, m5, fb, nF, hF, rows, ok⟩)⟩
      refine ⟨_, rfl, Fa, rfl, ⟨_, SqL.of hF⟩, fun D hD => ?_⟩
      obtain ⟨nD, db⟩ := m5.none hD
      have nDF : D ≠ Fa := fun z => by rw [z, hF] at hD; cases hD
      refine lc_list (xs := ps) (fun i H' => Rws K b H D n i H' ∧ H' Fa = some (.lst ps)) ⟨Rws.zero (m5.put nD db), by rw [upd_ne (Ne.symm nDF)]; exact hF⟩ (fun i H _ z => SqL.of z.2) ?_ ?_
      · rintro i y H6 hy ⟨rw6, hF6⟩
        have hi : i < 4 := by have := (List.getElem?_eq_some_iff.mp hy).1; rw [rows.length] at this; omega
        obtain ⟨t6, hb6⟩ := rw6.elim fun _ z => z.elim fun _ z => z.2.1.2
        refine ⟨rfl, yes ((if_pos rfl).mpr ?_)⟩
        refine ⟨_, rfl, n, rfl, by omega, by omega, fun D2 hD2 => lc_range (lo := 0) (n := n) (fun i H' => ∃ ns : List Nat, H' D2 = some (.lst (iv ns)) ∧ Mv b H6 H' ∧ ns.length = i ∧ ∀ x ∈ ns, x < n) ?_ ?_ ?_⟩
        · have nb : D2 ≠ b := fun z => by rw [z, hb6] at hD2; cases hD2
          exact ⟨[], upd_same, (Mv.refl hb6).put hD2 nb, rfl, fun x hx => by cases hx⟩
        · rintro j H8 hj ⟨ns, hn, m8, l8, a8⟩
          obtain ⟨t8, hb8⟩ := m8.2
          have nb : D2 ≠ b := fun z => by rw [z, hb6] at hD2; cases hD2
          refine ⟨rfl, yes ((if_pos rfl).mpr ?_)⟩
          refine ⟨_, rfl, _, rfl, b, t8, _, rfl, hb8, by omega, by omega, fun r H9 r0 r1 m9 => ⟨iv ns, m9.1 _ _ nb hn, by rw [iv_len, sizeLine_eq]; omega, ns ++ [r.toNat], ?_, (m8.trans m9).put hD2 nb, by rw [List.length_append, l8]; rfl, fun x hx => ?_⟩⟩
          · rw [upd_same]
            unfold iv
            rw [List.map_append, List.map_singleton, Int.toNat_of_nonneg r0]
          · rcases List.mem_append.mp hx with h | h
            · exact a8 x h
            · rw [List.mem_singleton.mp h]
              omega
        · rintro H8 ⟨ns, hn, m8, l8, a8⟩
          refine ⟨D2, _, rfl, .inl (SqL.of hn), fun q H9 e9 hq => ?_⟩
          have m9 := m8.same e9
          obtain ⟨acc, c1, c2, c3⟩ := rw6.step nD db (by omega) m9 l8 a8 (by have := hq; exact this)
          exact ⟨acc, c1, c2, c3, by rw [upd_ne (Ne.symm nDF)]; exact m9.1 _ _ fb hF6⟩
      · rintro H6 ⟨⟨ps', ts', h1, h2, h3, h4, h5, h6⟩, _⟩
        have lp := rows.length
        exact ⟨D, ps', ts', _, _, _, rfl, h2, db, nD, h1, h3, by omega, by omega, n1, n8, h5, h6⟩
    clear hb5 t5
    rintro σ1 H6 ⟨Ga, qs, us, x6, x7, x8, rfl, m6, gb, nG, hG, rows6, ok6⟩
    have u1 := ok6.l1
    have u4 := ok6.l4
    have lq := rows6.length
    obtain ⟨t6, hb6⟩ := m6.2
    refine ⟨(fun σ' H' => ∃ (Fa : Addr) (ps : List V) (ts : List (List Int)) (x6 x7 x8 : Option V), σ' = [some (.ref b), some (.int (most : Nat)), some (.int (kinds : Nat)), some (.int (n : Nat)), some (.int st), some (.ref Fa), x6, x7, x8] ∧ Mv b H H' ∧ Fa ≠ b ∧ H Fa = none ∧ H' Fa = some (.lst ps) ∧ RowsBy (SqT K H') ps ts ∧ Mok n ts), ?_, ?_⟩
    · refine ⟨_, rfl, rfl, _, rfl, ite2 (fun z => ?_) (fun z => ⟨Ga, qs, us, _, _, _, rfl, m6, gb, nG, hG, rows6, ok6⟩)⟩
      refine ⟨_, rfl, n, rfl, by omega, by omega, fun D2 hD2 => lc_range (lo := 0) (n := n) (fun i H' => ∃ ns : List Nat, H' D2 = some (.lst (iv ns)) ∧ Mv b H6 H' ∧ ns.length = i ∧ ∀ x ∈ ns, x < n) ?_ ?_ ?_⟩
      · have nb : D2 ≠ b := fun z => by rw [z, hb6] at hD2; cases hD2
        exact ⟨[], upd_same, (Mv.refl hb6).put hD2 nb, rfl, fun x hx => by cases hx⟩
      · rintro j H8 hj ⟨ns, hn, m8, l8, a8⟩
        obtain ⟨t8, hb8⟩ := m8.2
        have nb : D2 ≠ b := fun z => by rw [z, hb6] at hD2; cases hD2
        refine ⟨rfl, yes ((if_pos rfl).mpr ?_)⟩
        refine ⟨_, rfl, _, rfl, b, t8, _, rfl, hb8, by omega, by omega, fun r H9 r0 r1 m9 => ⟨iv ns, m9.1 _ _ nb hn, by rw [iv_len, sizeLine_eq]; omega, ns ++ [r.toNat], ?_, (m8.trans m9).put hD2 nb, by rw [List.length_append, l8]; rfl, fun x hx => ?_⟩⟩
        · rw [upd_same]
          unfold iv
          rw [List.map_append, List.map_singleton, Int.toNat_of_nonneg r0]
        · rcases List.mem_append.mp hx with h | h
          · exact a8 x h
          · rw [List.mem_singleton.mp h]
            omega
      · rintro H8 ⟨ns, hn, m8, l8, a8⟩
        refine ⟨D2, _, rfl, .inl (SqL.of hn), fun q H9 e9 hq => ?_⟩
        have m9 := m8.same e9
        have hG9 := m9.1 _ _ gb hG
        obtain ⟨t9, hb9⟩ := m9.2
        refine ⟨_, rfl, _, rfl, _, rfl, Ga, _, rfl, .inl (SqL.of hG9), b, t9, _, rfl, hb9, by omega, by omega, fun r H10 r0 r1 m10 => ?_⟩
        obtain ⟨j, rfl⟩ : ∃ j : Nat, r = (j : Int) := ⟨r.toNat, by omega⟩
        have m610 := m9.trans m10
        have hG10 := m10.1 _ _ gb hG9
        refine ⟨Ga, qs, _, j, rfl, rfl, hG10, by unfold ixN; rw [if_pos (by omega), if_pos (by omega), Int.toNat_natCast], Ga, _, us.set j (natI ns), _, _, _, rfl, (m6.trans m610).put nG gb, gb, nG, upd_same, ?_, ⟨by rw [List.length_set]; exact u1, by rw [List.length_set]; exact u4, n1, n8, fun t ht => ?_, fun t ht => ?_⟩⟩
        · refine RowsBy.set (sqT_lst hG10 ?_) j (rows6.imp fun _ _ z => sqT_lst hG10 (m610.sqT hb6 z))
          rw [natI_iv]
          exact m10.sqT hb9 hq
        · rcases List.mem_or_eq_of_mem_set ht with h | rfl
          · exact ok6.len t h
          · rw [natI_len]
            exact l8
        · rcases List.mem_or_eq_of_mem_set ht with h | rfl
          · exact ok6.ent t h
          · exact natI_lt a8
    clear hb6 t6
    rintro σ1 H7 ⟨Fb, rs, vs, x6', x7', x8', rfl, m7, eb, nB, hB, rows7, ok7⟩
    have v1 := ok7.l1
    have v4 := ok7.l4
    have lr := rows7.length
    obtain ⟨t7, hb7⟩ := m7.2
    refine ⟨(fun σ' H' => ∃ (Fa : Addr) (ps : List V) (ts : List (List Int)) (x6 x7 x8 : Option V), σ' = [some (.ref b), some (.int (most : Nat)), some (.int (kinds : Nat)), some (.int (n : Nat)), some (.int st), some (.ref Fa), x6, x7, x8] ∧ Mv b H H' ∧ Fa ≠ b ∧ H Fa = none ∧ H' Fa = some (.lst ps) ∧ RowsBy (SqT K H') ps ts ∧ Mok n ts), ?_, ?_⟩
    · refine ⟨_, rfl, rfl, _, rfl, ite2 (fun z => ?_) (fun z => ⟨Fb, rs, vs, _, _, _, rfl, m7, eb, nB, hB, rows7, ok7⟩)⟩
      refine ⟨_, rfl, Fb, _, rfl, .inl (SqL.of hB), (rs.length : Nat), rfl, by omega, by omega, fun D hD => ?_⟩
      obtain ⟨nD, db⟩ := m7.none hD
      refine lc_range (lo := 0) (n := rs.length) (Rws K b H D n) (Rws.zero (m7.put nD db)) ?_ ?_
      · intro i H8 hi rw8
        obtain ⟨t8, hb8⟩ := rw8.elim fun _ z => z.elim fun _ z => z.2.1.2
        refine ⟨rfl, yes ((if_pos rfl).mpr ?_)⟩
        have lm : ((List.range n).map fun j => (j + i + 1) % n).length = n := by rw [List.length_map, List.length_range]
        refine ⟨_, rfl, n, rfl, by omega, by omega, fun D2 hD2 => lc_range (lo := 0) (n := n) (Part H8 D2 (iv ((List.range n).map fun j => (j + i + 1) % n))) (Part.zero hD2) ?_ ?_⟩
        · intro j H9 hj pt
          refine ⟨rfl, yes ((if_pos rfl).mpr ?_)⟩
          refine ⟨_, rfl, _, rfl, _, _, rfl, rfl, _, _, rfl, rfl, .inl ⟨_, rfl, _, rfl, _, _, rfl, rfl, (show (0 : Int) < (n : Int) by omega), pt.step hD2 (Same.refl _) ?_ ?_⟩⟩
          · unfold iv
            rw [List.getElem?_map, List.getElem?_map, List.getElem?_range hj]
            show some (V.int (((j + i + 1) % n : Nat) : Int)) = some (V.int ((0 + (j : Int) + (0 + (i : Int)) + 1) % (n : Int)))
            rw [Int.zero_add, Int.zero_add]
            rfl
          · rw [iv_len, lm, sizeLine_eq]
            omega
        · intro H9 pt
          obtain ⟨h9, e9⟩ := pt.done (by rw [iv_len, lm]; exact Nat.le_refl _)
          refine ⟨D2, _, rfl, .inl (SqL.of h9), fun q H10 e10 hq => ?_⟩
          refine rw8.step nD db (by omega) ((Mv.refl hb8).same (e9.trans e10)) lm (fun x hx => ?_) hq
          obtain ⟨j, _, rfl⟩ := List.mem_map.mp hx
          exact Nat.mod_lt _ (by omega)
      · rintro H8 ⟨ps', ts', h1, h2, h3, h4, h5, h6⟩
        exact ⟨D, ps', ts', _, _, _, rfl, h2, db, nD, h1, h3, by omega, by omega, n1, n8, h5, h6⟩
    rintro σ1 H8 ⟨Fc, ws, zs, y6, y7, y8, rfl, m8', cb, nC, hC, rows8, ok8⟩
    exact ⟨_, rfl, k Fc H8 ws n zs m8' cb nC hC rows8 ok8⟩
end
end K4
/-! a def whose errors have no context, among such as may have one. -/
namespace Kx
open L2 PySem PySem.Spec PyProof.Rows
theorem cx_to {P : Program} {w : World} {outer : List Env} {H : Hp} {s s' : Shared} {E : XK} {u : Value} (x : L2N.CX P w outer H s E u s') : L2.CX P w outer H s E u s' := by
  obtain ⟨a, B, H', cls, d, e, fl, r⟩ := x
  exact ⟨a, B, H', cls, d, e, L2H.flyingZ_imp (fun _ z => z.zc) fl, r⟩
theorem FnOk.toL2 {P : Program} {w : World} {K : PySem.W.Frag} {mg : Str → Option Value} {base : Heap} {k : Nat} {f : Addr} {fd : FuncData} {ps : List Str} {sp : Sp} (F : FnOk P w K mg base (L2N.CX P w) k f fd ps sp) : FnOk P w K mg base (L2.CX P w) k f fd ps sp :=
  ⟨F.len, fun A outer s H args us vs Q E hr e0 hb r h => codeAny_mono (F.run A outer s H args us vs Q E hr e0 hb r h) fun r s' x => by
    unfold CR at x ⊢
    split at x
    · exact x
    · exact x
    · exact cx_to x⟩
theorem Cal.toL2 {P : Program} {w : World} {K : PySem.W.Frag} {mg : Str → Option Value} {base : Heap} {k : Nat} {x : Str} {ps : List Str} {sp : Sp} (c : Cal P w K mg base (L2N.CX P w) k x ps sp) : Cal P w K mg base (L2.CX P w) k x ps sp := by
  obtain ⟨f, fd, h1, h2, h3, h4⟩ := c
  exact ⟨f, fd, h1, h2, h3, FnOk.toL2 h4⟩
theorem CalN.toL2 {P : Program} {w : World} {K : PySem.W.Frag} {mg : Str → Option Value} {base : Heap} {k n : Nat} {x : Str} {ps ks : List Str} {gV : List V → List V → List V} {sp : Sp} (c : CalN P w K mg base (L2N.CX P w) k n x ps ks gV sp) : CalN P w K mg base (L2.CX P w) k n x ps ks gV sp := by
  obtain ⟨f, fd, g, h1, h2, h3, h4⟩ := c
  exact ⟨f, fd, g, h1, h2, h3, FnOk.toL2 h4⟩
end Kx
/-! where only tables move; a body whose code object is known -/
namespace Kx
open L2 PySem PySem.Spec PyProof.Rows
section
variable {P : Program} {w : World} {K : PySem.W.Frag} {mg : Str → Option Value} {base : Heap} {x qual : Str} {params : Arguments} {body : List Stmt} {scope : Scope} {dvs : List V} {kws : List (Str × V)} {f c : Addr} {fd : FuncData}
/-- a def's body, its code object known -/
theorem okGc {CX : CXT} {N ps : List Str} {k : Nat} {sp : Sp} (F : FunD K x qual params body scope dvs kws f fd) (hc : fd.code = .ref c) (S : FnScope N ps scope) (len : ∀ vs H Q E, sp vs H Q E → vs.length = ps.length)
    (hbody : ∀ (A : Around) (outer : List Env) (s : Shared) (H : Hp) (vs : List V) (Q : VK) (E : XK), Lone A → Room k (A.deeper (envOfC qual scope s.heap.objs.size f (.ref c))) → sp vs H Q E →
      ∃ t, PSs (cxOf CX P w K mg base N qual scope f (.ref c) A outer s H E) body t ∧ t { nx := fun _ H' => Q .non H', rt := Q } (start N vs) H) : FnG P w K mg base CX (k + 1) f fd ps sp := by
  obtain ⟨oc, od, dV, kV, doc, pm, an, cdv, ct, osl, rfl, lk, hcd, -, -⟩ := F.ex
  have hc : cdv = .ref c := hc
  subst hc
  exact ⟨len, fun A outer s H args us vs Q E hr lone e0 hb hv hs => LamX.run_ofS lk hcd S hr e0 hb hv (len _ _ _ _ hs) fun hr' => hbody A outer s H vs Q E lone hr' hs⟩
end
/-! ### where only tables move -/
section
variable {K : PySem.W.Frag} {H H' : Hp} {a : Addr} {xs : List V}
theorem ext_rd (e : LamX.ExtN H H') {u : HO} (n : ∀ ps, u ≠ .tbl ps) (h : Rd H a u) : Rd H' a u := h.elim (fun q => .inl (e _ _ q n)) fun ⟨z, q⟩ => .inr ⟨z, e _ _ q fun _ z => nomatch z⟩
theorem ext_sqT (e : LamX.ExtN H H') (h : SqT K H a xs) : SqT K H' a xs := h.imp (ext_rd e fun _ z => nomatch z) id
theorem ext_sqL (e : LamX.ExtN H H') (h : SqL K H a xs) : SqL K H' a xs := h.imp (ext_rd e fun _ z => nomatch z) id
theorem ext_sq (e : LamX.ExtN H H') (h : Sq K H a xs) : Sq K H' a xs := h.imp (ext_sqL e) (ext_sqT e)
theorem ext_of (e : Same H H') : LamX.ExtN H H' := fun b o q _ => e b o q
theorem ext_kn {v : V} (e : LamX.ExtN H H') (h : Kn K H v) : Kn K H' v := by
  cases h with
  | non => exact .non
  | bl b => exact .bl b
  | int i => exact .int i
  | str x => exact .str x
  | seq q => exact .seq (ext_sq e q)
theorem tabs_same {T : List (Addr × Str)} (t : LamX.Tabs T H) (e : Same H H') : LamX.Tabs T H' := t.ext e
/-- t == u, t != u: tuples of rows -/
def rRowsEq (K : PySem.W.Frag) (neg : Bool) : R2 := fun x y H Q => ∃ (xs ys : List (List Int)), Dp K H x (dRows xs) ∧ Dp K H y (dRows ys) ∧ Q (.bl (neg != decide (xs = ys))) H
theorem op_eqRows {X : Cx} (hu : X.A.units + 64 < cLine) : OpR X (compareOp .Eq) (rRowsEq X.K false) := by
  intro pins st σ H x y v u Q I rx ry ⟨xs, ys, h1, h2, q⟩
  refine op_eqD hu pins st σ H _ _ v u Q I rx ry ⟨_, _, h1, h2, shaped_rows xs, shaped_rows ys, ?_⟩
  simp only [PyData.eqv, eqv_rows]
  rwa [Bool.false_bne] at q
theorem op_neRows {X : Cx} (hu : X.A.units + 64 < cLine) : OpR X (compareOp .NotEq) (rRowsEq X.K true) := by
  intro pins st σ H x y v u Q I rx ry ⟨xs, ys, h1, h2, q⟩
  refine op_neD hu pins st σ H _ _ v u Q I rx ry ⟨_, _, h1, h2, shaped_rows xs, shaped_rows ys, ?_⟩
  simp only [PyData.eqv, eqv_rows]
  rwa [Bool.true_bne] at q
end
end Kx
/-! what is read of a call -/
namespace K4
open L2 PySem PySem.Spec PyProof.Rows Kx RZ
theorem takes_len {X : Cx} {W : WX} (t : Takes X W) : Takes X fun c d σ H => σ.length = X.N.length → W c d σ H := fun u s ⟨x, B, o, pins, σ, H, cls, d, e, I, r1, r2, r3, r4, r5, r6, q⟩ => t u s ⟨x, B, o, pins, σ, H, cls, d, e, I, r1, r2, r3, r4, r5, r6, q I.len⟩
/-- what is read of an error -/
def OutR (K : PySem.W.Frag) (a : Ad) (cls : Value) (d : Option Addr) (H : Hp) (Q : VK) : Prop := ∃ (dd : Addr) (i : Int), d = some dd ∧ cls = .ref a.cT ∧ H dd = some (.xd [("at", .int i)]) ∧ ∀ p H2, Same H H2 → SqT K H2 p [.str "text", .int i, .bl true] → Q (.ref p) H2
/-- what is read of a call tl: what it gives, or what its error tells -/
def TTr (K : PySem.W.Frag) (a : Ad) : (XK → Hp → VK → Prop) → Hp → VK → Prop := fun tl H Q => tl (fun cls d H' => OutR K a cls d H' Q) H Q
/-- the error as it is caught and asked -/
structure Hd (K : PySem.W.Frag) (mg : Str → Option Value) (a : Ad) (cW : Addr) : Prop where
  g_W : mg "WitnessError" = some (.ref cW)
  g_T : mg "BadText" = some (.ref a.cT)
  x_T : XfC K a.cT
  n_T : PySem.W.findIn K (.ref a.cT) "at" = some none
  e_T : ExcC K a.cT
  k_T : PySem.W.kitOne K (.ref a.cT) (.ref cW) = some true
  m_TT : PySem.W.exmOne K (.ref a.cT) (.ref a.cT) = some true
/-- isinstance(e, c), whatever the error's class is said to be -/
theorem call_isEw {X : Cx} {x D : Addr} {oe : Obj} {cls : Value} {d : Option Addr} {pn : List (Addr × Obj)} (C : ExcC X.K D) (hz : Zc cls d oe) (hf : ∃ vs, oe.data = .fields vs) :
    CallR (X.suite x ((x, oe) :: pn)) (.builtin "isinstance") (fun xs H Q => cls = .ref D ∧ (∃ dd, d = some dd ∧ ∃ fs, H dd = some (.xd fs)) ∧ rIsE X.K D x xs H Q) := by
  rintro pins s σ H xs us Q I r h
  obtain ⟨rfl, ⟨dd, rfl, fs, h1⟩, h2⟩ := h
  exact call_isEd C hz hf pins s σ H xs us Q I r ⟨⟨fs, h1⟩, h2⟩
section
variable {P : Program} {w : World} {K : PySem.W.Frag} {mg : Str → Option Value} {base : Heap} {f : Addr} {fd : FuncData} {a : Ad} {CM cW : Addr}
theorem sc_reads : FnScope ["work", "e"] ["work"] (defScope s_law_reads) := ⟨rfl, rfl, rfl, by decide +kernel, rfl, by decide +kernel, by decide +kernel⟩
theorem reads_gives {X : Cx} {g : Addr} {cdg : Value} {k : Nat} {q : Str} (T : Mg X.mg) (D : Hd X.K X.mg a cW) (hr : Room (k + 2) X.A) :
    LamX.GivesTo X ["work", "e"] "_law_reads" (defScope s_law_reads) g cdg (defBody s_law_reads) "work" q (TTr X.K a) := by
  intro fl c' s H Q tl act hc h
  refine ⟨_, pss_one (ps_tries (W := fun _ _ _ _ => False)
      (tb := fun U E σ H => ∃ Ech : XK, (∀ cls d σ' H', Ech cls d H' → σ'.length = 2 → U cls d σ' H') ∧ σ[0]? = some (some (.ref fl)) ∧ H c' = some (LamX.CodeO c' q) ∧ tl Ech H (fun v H' => E.rt v H'))
      rfl rfl LamX.takes0 (fun U pn xe tk own => ?_)
      (Clauses.cons (i := 1) sc_reads.nd rfl rfl ⟨rfl, by decide, .inl D.g_T⟩
        (fun x ob cls d pn hz hf => pss_one (ps_ret (pe_tup (pa_cons pe_str (pa_cons (pe_xf D.x_T D.n_T hz hf (pv 1)) (pa_cons (pe_callB (call_isEw D.e_T hz hf) (by rfl) T.z_isinstance (by decide +kernel) (pa_cons (pv 1) (pa_cons (pe_glob (v := V.ref cW) rfl D.g_W rfl) pa_nil))) pa_nil))))))
      Clauses.nil)), ?_⟩
  · refine ⟨fun pins s' σ H' E I h' => ?_⟩
    rcases h' with ⟨Ech, hW, h1, h2, h3⟩
    have hp := fun p1 p2 => act (fun c d σ H => σ.length = _ → U c d σ H) pn xe Ech p1 p2 (takes_len tk) (fun cls d σ' H' he hlen => hW cls d σ' H' he hlen)
    exact (pss_one (ps_ret (hp _ _))).run pins s' σ H' E I ⟨h1, h2, h3⟩
  · refine ⟨fun cls d H' => OutR X.K a cls d H' Q, ?_, rfl, hc, h⟩
    rintro cls d σ' H' ⟨dd, i, rfl, rfl, hd, k⟩ hlen
    obtain ⟨v0, v1, rfl⟩ : ∃ v0 v1, σ' = [v0, v1] := by
      match σ', hlen with
      | [v0, v1], _ => exact ⟨v0, v1, rfl⟩
    refine ⟨true, D.m_TT, fun _ x hx => ?_, fun z => nomatch z⟩
    exact ⟨_, rfl, rfl, rfl, dd, _, _, rfl, hd, rfl, _, rfl, rfl, ⟨dd, rfl, _, hd⟩, _, _, true, rfl, fun u r => r, D.k_T, (by show 3 ≤ sizeLine; decide), fun p hp => k p _ (same_new hp) (SqT.of upd_same)⟩
/-- what a def that reads by lambdas must know: c, Pt its code object and table -/
structure HF (X : Cx) (a : Ad) (cW : Addr) (Ts : List (Addr × Str)) (g : Addr) (fdg : FuncData) (c Pt : Addr) (st : Stmt) : Prop where
  FH : FnP X.K "_law_reads" s_law_reads g fdg
  gH : X.mg "_law_reads" = some (.ref g)
  bH : Binds X.K fdg ["work"] []
  T : Mg X.mg
  D : Hd X.K X.mg a cW
  TB : LamX.TabB X.base X.mg c Pt
  code : X.env.code = .ref c
  sc : X.env.scope = defScope st
  mem : (Pt, X.env.qual ++ "<lambda>") ∈ Ts
  only : ∀ p ∈ Ts, p.1 = Pt → p.2 = X.env.qual ++ "<lambda>"
theorem pe_reads {X : Cx} {a : Ad} {cW : Addr} {Ts : List (Addr × Str)} {g : Addr} {fdg : FuncData} {c Pt : Addr} {st : Stmt} {k : Nat} {params : Arguments} {body : Expr} {scope : Scope} {t : XK → TE} {p lpos pos : Pos} (h : HF X a cW Ts g fdg c Pt st) (hr : Room (k + 2) X.A)
    (hbody : ∀ (A : Around) (outer : List Env) (s : Shared) (H : Hp) (E : XK) (f c' : Addr), Room k (A.deeper (LamX.lamEnv X scope s.heap.objs.size f c')) → PE (LamX.lamCx X A outer s H E scope f c') body (t E))
    (hg : Gl X "_law_reads" := by rfl) (hL : LamX.lamSB (defScope st) scope = true := by decide +kernel) (hdef : defaultsOf params X.env = ([], []) := by rfl)
    (hbind : ∀ (q : Str) (cl : List (Str × Addr)) (pm cv ctv : Value), bindArgs (PySem.W.kla_fn "<lambda>" q params body scope cl pm cv ctv) ⟨[], []⟩ = pure [] := by intros; rfl) :
    PE X (.Call (.Name "_law_reads" p) [.Lambda params body scope lpos] [] pos) (LamX.tLam Ts (TTr X.K a) t) := by
  obtain ⟨oc, od, dV, kV, doc, pm, an, cdv, ct, osl, rfl, lk, hcd, -, -⟩ := h.FH.ex
  exact LamX.pe_lamcall (k := k) hg h.gH h.FH.kp lk hcd h.bH sc_reads rfl (.inl rfl) (reads_gives h.T h.D hr) h.TB h.code h.mem h.only hr (by rw [h.sc]; exact LamX.lamS_by hL) hdef hbind hbody
end
end K4
/-! words that are no numbers; lines bent -/
namespace K4
open L2 PySem PySem.Spec PyProof.Rows Kx TL
theorem idx_bad {l : Nat} {w : Str} (h : ∀ i, num i ≠ w) : idx l w = none := idx_none fun i _ => h i
theorem num_ne_sign {w : Str} {c : Nat} (hc : c ∈ tl w) (h : c < 48 ∨ 57 < c) (i : Nat) : num i ≠ w := fun e => num_free (n := i) h (by rw [e]; exact hc)
theorem num_ne_nil (i : Nat) : num i ≠ Str.ofString "" := fun e => num_ne i (by rw [e]; rfl)
/-- no sign 0 ahead of a greater number -/
theorem numL_lead : ∀ (n : Nat) {c : Nat} {r : List Nat}, numL n ≠ 48 :: c :: r := by
  intro n
  induction n using Nat.strongRecOn with
  | _ n ih =>
    intro c r e
    by_cases h : n < 10
    · rw [numL_lt h] at e
      have := congrArg List.length e
      simp at this
    · rw [numL_step (by omega)] at e
      cases hd : numL (n / 10) with
      | nil => exact absurd hd (numL_ne _)
      | cons a t =>
        rw [hd] at e
        cases t with
        | nil =>
          have h48 : a = 48 := by
            simp at e
            exact e.1
          have v := numL_val (n / 10)
          rw [hd, h48] at v
          have : n / 10 = 0 := by rw [← v]; rfl
          omega
        | cons b t =>
          have h48 : a = 48 := by
            simp at e
            exact e.1
          exact ih (n / 10) (by omega) (by rw [hd, h48])
theorem num_ne_zero (i k : Nat) : num i ≠ Str.ofString "0" ++ num k := fun e => by
  have e := congrArg tl e
  rw [tl_append, tl_num, tl_num, show tl (Str.ofString "0") = [48] from rfl] at e
  cases hd : numL k with
  | nil => exact numL_ne k hd
  | cons c r =>
    rw [hd] at e
    exact numL_lead i e
theorem idx_61 {l : Nat} (h : l ≤ 61) : idx l (Str.ofString "61") = none := idx_none fun i hi e => by
  have : num 61 = Str.ofString "61" := by decide +kernel
  have := num_inj (e.trans this.symm)
  omega
/-- a line with words ws as it is bent: the first eleven ways -/
inductive Bent (ws : List Str) : List Str → Prop
  | behind : Bent ws (ws ++ [Str.ofString ""])
  | ahead : Bent ws (Str.ofString "" :: ws)
  | none : Bent ws [Str.ofString ""]
  | twice {w0 : Str} {r : List Str} (h : ws = w0 :: r) : Bent ws (w0 :: ((if r = [] then [] else Str.ofString "" :: r) ++ [Str.ofString ""]))
  | zeros : Bent ws (ws ++ List.replicate 8 (Str.ofString "0"))
  | last {i : List Str} {k : Nat} {w : Str} (h : ws = i ++ [num k]) (hw : ∀ l, l ≤ 61 → idx l w = Option.none) : Bent ws (i ++ [w])
theorem bad_ask {k : Nat} : ∀ l, l ≤ 61 → idx l (num k ++ Str.ofString "?") = none := fun l _ => idx_bad (num_ne_sign (c := 63) (by rw [tl_append]; exact List.mem_append_right _ (by decide +kernel)) (by decide))
theorem bad_zero {k : Nat} : ∀ l, l ≤ 61 → idx l (Str.ofString "0" ++ num k) = none := fun l _ => idx_bad fun i => num_ne_zero i k
theorem bad_neg : ∀ l, l ≤ 61 → idx l (Str.ofString "-1") = none := fun l _ => idx_bad (num_ne_sign (c := 45) (by decide +kernel) (by decide))
theorem bad_X : ∀ l, l ≤ 61 → idx l (Str.ofString "X") = none := fun l _ => idx_bad (num_ne_sign (c := 88) (by decide +kernel) (by decide))
theorem bad_plus : ∀ l, l ≤ 61 → idx l (Str.ofString "+1") = none := fun l _ => idx_bad (num_ne_sign (c := 43) (by decide +kernel) (by decide))
theorem idx_nil {l : Nat} : idx l (Str.ofString "") = none := idx_bad num_ne_nil
/-- a table's line that is bent is no table -/
theorem bent_tab {n : Nat} {ns : List Nat} {ws : List Str} (n1 : 1 ≤ n) (n61 : n ≤ 61) (len : ns.length = n) (lt : ∀ k ∈ ns, k < n) (b : Bent (nums ns) ws) : okTab n ws = false := by
  have ln : (nums ns).length = n := by unfold nums; rw [List.length_map, len]
  have short : ws.length ≠ n → okTab n ws = false := fun h => by
    unfold okTab
    rw [decide_eq_false h, Bool.false_and]
  have few : (rdB n ws).length ≠ n → okTab n ws = false := fun h => by
    unfold okTab
    rw [decide_eq_false h, Bool.and_false]
  cases b with
  | behind => exact short (by rw [List.length_append, ln]; simp)
  | ahead => exact short (by rw [List.length_cons, ln]; omega)
  | none => exact few (by rw [rdB_stop idx_nil]; simp; omega)
  | twice h =>
    rename_i w0 r
    refine short ?_
    rw [h, List.length_cons] at ln
    by_cases z : r = []
    · rw [if_pos z]
      subst z
      simp at ln ⊢
      omega
    · rw [if_neg z]
      simp
      omega
  | zeros => exact short (by rw [List.length_append, ln]; simp)
  | last h hw =>
    rename_i i k w
    have hi : i = nums ns.dropLast := by
      have := congrArg List.dropLast h
      rw [List.dropLast_concat] at this
      rw [← this]
      unfold nums
      rw [List.map_dropLast]
    subst hi
    refine few ?_
    rw [rdB_nums fun m hm => lt m (List.dropLast_subset _ hm), rdB_stop (hw n n61), List.append_nil, List.length_dropLast]
    omega
end K4
/-! first lines bent -/
namespace K4
open L2 PySem PySem.Spec PyProof.Rows Kx TL
theorem rdL_none {nm : Str} {l : Nat} {ws : List Str} (h : ws.head? = some nm → (rdB l ws.tail).length ≠ ws.tail.length) : rdL nm l ws = [] := by
  unfold rdL
  exact if_neg fun z => h z.1 z.2
theorem zero_num : Str.ofString "0" = num 0 := by decide +kernel
/-- a named line of numbers that is bent tells none, or eight too many -/
theorem bent_named {nm : Str} {l : Nat} {ns : List Nat} {ws : List Str} (l1 : 1 ≤ l) (l61 : l ≤ 61) (hn : nm ≠ Str.ofString "") (lt : ∀ k ∈ ns, k < l) (ne : ns ≠ []) (b : Bent (nm :: nums ns) ws) : rdL nm l ws = [] ∨ (rdL nm l ws).length = ns.length + 8 := by
  cases b with
  | behind =>
    refine .inl (rdL_none fun _ => ?_)
    show (rdB l (nums ns ++ [Str.ofString ""])).length ≠ (nums ns ++ [Str.ofString ""]).length
    rw [rdB_nums lt, rdB_stop idx_nil, List.append_nil, List.length_append]
    unfold nums
    rw [List.length_map]
    simp
  | ahead => exact .inl (rdL_none fun h => absurd (Option.some.inj h).symm hn)
  | none => exact .inl (rdL_none fun h => absurd (Option.some.inj h).symm hn)
  | twice h =>
    rename_i w0 r
    obtain ⟨e1, e2⟩ := List.cons.inj h
    subst e1 e2
    have nr : nums ns ≠ [] := by
      unfold nums
      simpa using ne
    refine .inl (rdL_none fun _ => ?_)
    rw [if_neg nr]
    show (rdB l ((Str.ofString "" :: nums ns) ++ [Str.ofString ""])).length ≠ ((Str.ofString "" :: nums ns) ++ [Str.ofString ""]).length
    rw [List.cons_append, rdB_stop idx_nil]
    simp
  | zeros =>
    refine .inr ?_
    have e : nums ns ++ List.replicate 8 (Str.ofString "0") = nums (ns ++ List.replicate 8 0) ++ [] := by
      rw [List.append_nil, zero_num]
      unfold nums
      rw [List.map_append, List.map_replicate]
    have hl : ∀ k ∈ ns ++ List.replicate 8 0, k < l := fun k hk => by
      rcases List.mem_append.mp hk with h | h
      · exact lt k h
      · rw [List.eq_of_mem_replicate h]
        exact l1
    have er : rdB l (nums ns ++ List.replicate 8 (Str.ofString "0")) = ns ++ List.replicate 8 0 := by
      rw [e, rdB_nums hl]
      exact List.append_nil _
    have e2 : rdL nm l (nm :: nums ns ++ List.replicate 8 (Str.ofString "0")) = ns ++ List.replicate 8 0 := by
      unfold rdL
      rw [if_pos]
      · exact er
      · refine ⟨rfl, ?_⟩
        show (rdB l (nums ns ++ List.replicate 8 (Str.ofString "0"))).length = (nums ns ++ List.replicate 8 (Str.ofString "0")).length
        rw [er, List.length_append, List.length_append]
        unfold nums
        rw [List.length_map, List.length_replicate, List.length_replicate]
    rw [e2, List.length_append, List.length_replicate]
  | last h hw =>
    rename_i i k w
    have hi : i = nm :: nums ns.dropLast := by
      have e := congrArg List.dropLast h
      rw [List.dropLast_concat] at e
      rw [← e]
      have nr : nums ns ≠ [] := by
        unfold nums
        simpa using ne
      rw [List.dropLast_cons_of_ne_nil nr]
      unfold nums
      rw [List.map_dropLast]
    subst hi
    refine .inl (rdL_none fun _ => ?_)
    show (rdB l (nums ns.dropLast ++ [w])).length ≠ (nums ns.dropLast ++ [w]).length
    rw [rdB_nums fun m hm => lt m (List.dropLast_subset _ hm), rdB_stop (hw l l61), List.append_nil, List.length_append]
    unfold nums
    rw [List.length_map]
    simp
/-- a machine's first line, bent -/
theorem bent_states {n : Nat} {ws : List Str} {tl : List (List Str)} (n8 : n ≤ 8) (b : Bent (Str.ofString "states" :: nums [n]) ws) : mBad (ws :: tl) = some 1 := by
  show mBadL tl (rdL (Str.ofString "states") 9 ws) = some 1
  rcases bent_named (l := 9) (by decide) (by decide) (by decide +kernel) (fun k hk => by rw [List.mem_singleton.mp hk]; omega) (by simp) b with h | h
  · rw [h]
    rfl
  · cases e : rdL (Str.ofString "states") 9 ws with
    | nil => rfl
    | cons a t => cases t with
      | nil =>
        rw [e] at h
        simp at h
      | cons _ _ => rfl
/-- the first line of counters' text, bent -/
theorem bent_rounds {ns : List Nat} {ws : List Str} {tl : List (List Str)} (lt : ∀ k ∈ ns, k < 61) (ne : ns ≠ []) (b : Bent (Str.ofString "rounds" :: nums ns) ws) : cBad (ws :: tl) = some 1 := by
  show (if (rdL (Str.ofString "rounds") 61 ws).length = 0 ∨ 4 < (rdL (Str.ofString "rounds") 61 ws).length then some 1 else _) = some 1
  rw [if_pos]
  rcases bent_named (l := 61) (by decide) (by decide) (by decide +kernel) lt ne b with h | h
  · rw [h]
    exact .inl rfl
  · right
    rw [h]
    have : 1 ≤ ns.length := by
      cases ns with
      | nil => exact absurd rfl ne
      | cons _ _ => simp
    omega
/-- the second line, bent -/
theorem bent_rests {rs ns : List Nat} {ws : List Str} (r1 : rs ≠ []) (r4 : rs.length ≤ 4) (ltr : ∀ k ∈ rs, k < 61) (len : ns.length = rs.length) (lt : ∀ k ∈ ns, k < 7) (b : Bent (Str.ofString "rests" :: nums ns) ws) : cBad [Str.ofString "rounds" :: nums rs, ws] = some 2 := by
  have l1 : 1 ≤ rs.length := by
    cases rs with
    | nil => exact absurd rfl r1
    | cons _ _ => simp
  have e : rdL (Str.ofString "rounds") 61 (Str.ofString "rounds" :: nums rs) = rs := by
    have er : rdB 61 (nums rs) = rs := by
      have := rdB_nums (l := 61) (ws := []) ltr
      rw [List.append_nil] at this
      rw [this]
      exact List.append_nil _
    unfold rdL
    rw [if_pos]
    · exact er
    · refine ⟨rfl, ?_⟩
      show (rdB 61 (nums rs)).length = (nums rs).length
      rw [er]
      unfold nums
      rw [List.length_map]
  show (if (rdL (Str.ofString "rounds") 61 (Str.ofString "rounds" :: nums rs)).length = 0 ∨ 4 < (rdL (Str.ofString "rounds") 61 (Str.ofString "rounds" :: nums rs)).length then some 1 else if (rdL (Str.ofString "rests") 7 ws).length ≠ (rdL (Str.ofString "rounds") 61 (Str.ofString "rounds" :: nums rs)).length then some 2 else _) = some 2
  rw [e, if_neg (by omega)]
  rw [if_pos]
  have nn : ns ≠ [] := fun z => by
    rw [z] at len
    simp at len
    omega
  rcases bent_named (l := 7) (by decide) (by decide) (by decide +kernel) lt nn b with h | h
  · rw [h]
    simp
    omega
  · rw [h]
    omega
end K4
/-! right lines, and one table bent -/
namespace K4
open L2 PySem PySem.Spec PyProof.Rows Kx TL
theorem rdB_all {l : Nat} {ns : List Nat} (lt : ∀ k ∈ ns, k < l) : rdB l (nums ns) = ns := by
  have := rdB_nums (l := l) (ws := []) lt
  rw [List.append_nil] at this
  rw [this]
  exact List.append_nil _
theorem rdL_all {nm : Str} {l : Nat} {ns : List Nat} (lt : ∀ k ∈ ns, k < l) : rdL nm l (nm :: nums ns) = ns := by
  unfold rdL
  rw [if_pos]
  · exact rdB_all lt
  · refine ⟨rfl, ?_⟩
    show (rdB l (nums ns)).length = (nums ns).length
    rw [rdB_all lt]
    unfold nums
    rw [List.length_map]
theorem okTab_all {n : Nat} {ns : List Nat} (len : ns.length = n) (lt : ∀ k ∈ ns, k < n) : okTab n (nums ns) = true := by
  unfold okTab
  rw [rdB_all lt, decide_eq_true len, Bool.and_true]
  refine decide_eq_true ?_
  unfold nums
  rw [List.length_map, len]
/-- a machine's words -/
def mWords (n : Nat) (ts : List (List Nat)) : List (List Str) := (Str.ofString "states" :: nums [n]) :: ts.map nums
/-- counters' words -/
def cWords (rs es : List Nat) : List (List Str) := [Str.ofString "rounds" :: nums rs, Str.ofString "rests" :: nums es]
structure TsOk (n : Nat) (ts : List (List Nat)) : Prop where
  n1 : 1 ≤ n
  n8 : n ≤ 8
  l1 : 1 ≤ ts.length
  l4 : ts.length ≤ 4
  len : ∀ t ∈ ts, t.length = n
  lt : ∀ t ∈ ts, ∀ k ∈ t, k < n
theorem head_states {n : Nat} (n8 : n ≤ 8) : rdL (Str.ofString "states") 9 (Str.ofString "states" :: nums [n]) = [n] := rdL_all fun k hk => by rw [List.mem_singleton.mp hk]; omega
theorem mBad_head {n : Nat} {tl : List (List Str)} (n1 : 1 ≤ n) (n8 : n ≤ 8) : mBad ((Str.ofString "states" :: nums [n]) :: tl) = (match (tl.take 4).findIdx? (fun ws => !okTab n ws) with
    | some i => some (i + 2)
    | none => if tl = [] then some 2 else if 4 < tl.length then some 6 else none) := by
  show mBadL tl (rdL (Str.ofString "states") 9 (Str.ofString "states" :: nums [n])) = _
  rw [head_states n8]
  exact if_neg (by omega)
theorem mBad_good {n : Nat} {ts : List (List Nat)} (h : TsOk n ts) : mBad (mWords n ts) = none := by
  unfold mWords
  rw [mBad_head h.n1 h.n8, List.take_of_length_le (by rw [List.length_map]; exact h.l4), List.findIdx?_eq_none_iff.mpr fun ws hw => ?_]
  · have ne : ts.map nums ≠ [] := fun z => by
      have := h.l1
      rw [List.map_eq_nil_iff] at z
      rw [z] at this
      simp at this
    show (if ts.map nums = [] then some 2 else if 4 < (ts.map nums).length then some 6 else none) = none
    rw [if_neg ne, if_neg (by rw [List.length_map]; have := h.l4; omega)]
  · obtain ⟨t, ht, rfl⟩ := List.mem_map.mp hw
    rw [okTab_all (h.len t ht) (h.lt t ht)]
    rfl
theorem mStates_good {n : Nat} {ts : List (List Nat)} (h : TsOk n ts) : mStates (mWords n ts) = n := by
  unfold mStates mWords
  rw [List.headD_cons, head_states h.n8]
theorem mTabs_good {n : Nat} {ts : List (List Nat)} (h : TsOk n ts) : mTabs (mWords n ts) = ts.map natI := by
  unfold mTabs
  rw [mStates_good h]
  show (ts.map nums).map (tabOf n) = ts.map natI
  rw [List.map_map]
  refine List.map_congr_left fun t ht => ?_
  show tabOf n (nums t) = natI t
  unfold tabOf natI
  rw [rdB_all (h.lt t ht)]
/-- one table bent -/
theorem bent_table {n j : Nat} {ts : List (List Nat)} {ws : List Str} (h : TsOk n ts) (hj : j < ts.length) (b : Bent (nums ts[j]) ws) : mBad ((Str.ofString "states" :: nums [n]) :: (ts.map nums).set j ws) = some (j + 2) := by
  have n8 := h.n8
  have tj := List.getElem_mem hj
  have bad := bent_tab h.n1 (by omega) (h.len _ tj) (h.lt _ tj) b
  rw [mBad_head h.n1 h.n8, List.take_of_length_le (by rw [List.length_set, List.length_map]; exact h.l4), List.findIdx?_eq_some_iff_getElem.mpr ⟨by rw [List.length_set, List.length_map]; exact hj, by rw [List.getElem_set_self, bad]; rfl, fun i hi => ?_⟩]
  rw [List.getElem_set_ne (by omega), List.getElem_map]
  have ti := List.getElem_mem (l := ts) (n := i) (by omega)
  rw [okTab_all (h.len _ ti) (h.lt _ ti)]
  simp
theorem cBad_good {rs es : List Nat} (r1 : 1 ≤ rs.length) (r4 : rs.length ≤ 4) (len : es.length = rs.length) (ltr : ∀ k ∈ rs, k < 61) (lte : ∀ k ∈ es, k < 7) : cBad (cWords rs es) = none := by
  show (if (rdL (Str.ofString "rounds") 61 (Str.ofString "rounds" :: nums rs)).length = 0 ∨ 4 < (rdL (Str.ofString "rounds") 61 (Str.ofString "rounds" :: nums rs)).length then some 1 else if (rdL (Str.ofString "rests") 7 (Str.ofString "rests" :: nums es)).length ≠ (rdL (Str.ofString "rounds") 61 (Str.ofString "rounds" :: nums rs)).length then some 2 else if ([] : List (List Str)) ≠ [] then some 3 else none) = none
  rw [rdL_all ltr, rdL_all lte, if_neg (by omega), if_neg (fun z => z len), if_neg (fun z => z rfl)]
theorem cRounds_good {rs es : List Nat} (ltr : ∀ k ∈ rs, k < 61) : cRounds (cWords rs es) = rs := rdL_all ltr
theorem cRests_good {rs es : List Nat} (lte : ∀ k ∈ es, k < 7) : cRests (cWords rs es) = es := rdL_all lte
end K4
/-! the law's lines as words -/
namespace K4
open L2 PySem PySem.Spec PyProof.Rows Kx TL
theorem natI_back {t : List Nat} : (natI t).map Int.toNat = t := by
  unfold natI
  rw [List.map_map]
  conv => rhs; rw [← List.map_id t]
  exact List.map_congr_left fun k _ => Int.toNat_natCast k
theorem tLine_natI {t : List Nat} : tLine (natI t) = line (nums t) := by
  unfold tLine
  rw [natI_back]
theorem line_cons {w : Str} {ws : List Str} (h : ws ≠ []) : line (w :: ws) = w ++ Str.ofString " " ++ line ws := join_cons h
theorem line_one {w : Str} : line [w] = w := join_one
theorem nums_ne {ns : List Nat} (h : ns ≠ []) : nums ns ≠ [] := by
  unfold nums
  simpa using h
theorem lead_line {nm nb : Str} {ns : List Nat} (e : nb = nm ++ Str.ofString " ") (h : ns ≠ []) : nb ++ line (nums ns) = line (nm :: nums ns) := by
  rw [line_cons (nums_ne h), e]
theorem mLines_words {n : Nat} {ts : List (List Nat)} : mLines n (ts.map natI) = (mWords n ts).map line := by
  unfold mLines mWords
  rw [List.map_cons, List.map_map, List.map_map]
  have hd : Str.ofString "states " ++ num n = line (Str.ofString "states" :: nums [n]) := by
    rw [← lead_line (nm := Str.ofString "states") (nb := Str.ofString "states ") (by decide +kernel) (by simp)]
    show _ = _ ++ line [num n]
    rw [line_one]
  rw [hd]
  exact congrArg _ (List.map_congr_left fun t _ => tLine_natI)
theorem cLines_words {rs es : List Nat} (h1 : rs ≠ []) (h2 : es ≠ []) : cLines (natI rs) (natI es) = (cWords rs es).map line := by
  unfold cLines cWords
  rw [tLine_natI, tLine_natI, List.map_cons, List.map_cons, List.map_nil, ← lead_line (nm := Str.ofString "rounds") (nb := Str.ofString "rounds ") (by decide +kernel) h1, ← lead_line (nm := Str.ofString "rests") (nb := Str.ofString "rests ") (by decide +kernel) h2]
/-- a word that may stand in a line -/
def Word (w : Str) : Prop := 32 ∉ tl w ∧ 10 ∉ tl w ∧ w.length ≤ 100
theorem word_num {n : Nat} (h : n < 10 ^ 40) : Word (num n) := ⟨num_free (by decide), num_free (by decide), Nat.le_trans (num_len h) (by decide)⟩
theorem Lines.of {lss : List (List Str)} (ne : lss ≠ []) (n1 : ∀ ws ∈ lss, ws ≠ []) (wd : ∀ ws ∈ lss, ∀ w ∈ ws, Word w) (few : ∀ ws ∈ lss, ws.length ≤ 1000) (many : lss.length ≤ 20) : Lines lss := by
  have ll : ∀ ws ∈ lss, (line ws).length ≤ 101000 := fun ws hw => by
    have h1 := line_len (ws := ws) (k := 100) fun w h => (wd ws hw w h).2.2
    have h2 := few ws hw
    omega
  refine ⟨ne, fun ws hw => ⟨n1 ws hw, fun w h => (wd ws hw w h).1⟩, fun ws hw w h => (wd ws hw w h).2.1, fun ws hw => by have := few ws hw; omega, fun ws hw => by have := ll ws hw; rw [sizeLine_eq]; omega, ?_⟩
  have h1 := text_len (ls := lss.map line) (k := 101000) fun l hl => by
    obtain ⟨ws, hw, rfl⟩ := List.mem_map.mp hl
    exact ll ws hw
  rw [List.length_map] at h1
  rw [sizeLine_eq]
  omega
theorem words_nums {ns : List Nat} (h : ∀ n ∈ ns, n < 10 ^ 40) : ∀ w ∈ nums ns, Word w := fun w hw => by
  obtain ⟨n, hn, rfl⟩ := List.mem_map.mp hw
  exact word_num (h n hn)
theorem mWords_lines {n : Nat} {ts : List (List Nat)} (h : TsOk n ts) : Lines (mWords n ts) := by
  have l4 := h.l4
  have n8 := h.n8
  refine Lines.of (by simp [mWords]) (fun ws hw => ?_) (fun ws hw => ?_) (fun ws hw => ?_) (by unfold mWords; rw [List.length_cons, List.length_map]; omega)
  · rcases List.mem_cons.mp hw with rfl | hw
    · simp
    · obtain ⟨t, ht, rfl⟩ := List.mem_map.mp hw
      refine nums_ne fun z => ?_
      have := h.len t ht
      have := h.n1
      rw [z] at *
      simp at *
      omega
  · rcases List.mem_cons.mp hw with rfl | hw
    · intro w hw
      rcases List.mem_cons.mp hw with rfl | hw
      · exact ⟨by decide +kernel, by decide +kernel, by decide +kernel⟩
      · exact words_nums (fun m hm => by rw [List.mem_singleton.mp hm]; omega) w hw
    · obtain ⟨t, ht, rfl⟩ := List.mem_map.mp hw
      exact words_nums fun m hm => by have := h.lt t ht m hm; omega
  · rcases List.mem_cons.mp hw with rfl | hw
    · simp [nums]
    · obtain ⟨t, ht, rfl⟩ := List.mem_map.mp hw
      have := h.len t ht
      unfold nums
      rw [List.length_map]
      omega
end K4
/-! x.replace(y, z, 1) of written texts; a written list whose first item gives out a token. -/
namespace Kx
open L2 PySem PySem.Spec PyProof.Rows CwR Builtin Builtin.Str
/-- x.replace(y, z, 1) -/
def rep1 (x y z : Str) : Str := if (occurrences x y 0 x.length 1).isEmpty || (y.length == 0 && z.length == 0) then x else glued z (partsBetween x (occurrences x y 0 x.length 1) y.length)
theorem gives_rep1 (x y z : Str) (t u v q : Tok) (hf : (u == 0 || v == 0) = false ∧ (u == v) = false ∧ (y == z) = false ∧ tooLong (x.length + (occurrences x y 0 x.length 1).length * z.length) = false) :
    Gives («str.replace» ⟨[.str x t, .str y u, .str z v, .int 1 q], []⟩) (if ((occurrences x y 0 x.length 1).isEmpty || (y.length == 0 && z.length == 0)) = true then .val (.str x t) else .str (glued z (partsBetween x (occurrences x y 0 x.length 1) y.length))) := by
  have tree : «str.replace» ⟨[.str x t, .str y u, .str z v, .int 1 q], []⟩ = (if ((occurrences x y 0 x.length 1).isEmpty || (y.length == 0 && z.length == 0)) = true then (do rule "str.replace.nothing"; ret (.str x t)) else
          (do let same ← isSame (.str y u) (.str z v)
              if same = true then (do rule "str.replace.old-is-new"; ret (.str x t)) else
              if tooLong (x.length + (occurrences x y 0 x.length 1).length * z.length) = true then unsupported "str.replace:memory" else
              retStr (glued z (partsBetween x (occurrences x y 0 x.length 1) y.length)))) := by
    show (do let limit ← countLimit "str.replace" (some (.int 1 q)) (x.length + 1); _) = _
    rw [countLimit_int "str.replace" 1 q (x.length + 1) (by decide)]
    rfl
  rw [tree]
  cases hc : ((occurrences x y 0 x.length 1).isEmpty || (y.length == 0 && z.length == 0))
  · obtain ⟨h0, huv, hyz, hl⟩ := hf
    rw [isSame_str_other y z u v h0 huv hyz, hl]
    exact .of_eq rfl
  · exact .rule (.of_eq rfl)
theorem rep1_len {x y z : Str} (hb : x.length + 2 * z.length ≤ 16777216) : (glued z (partsBetween x (occurrences x y 0 x.length 1) y.length)).length ≤ sizeLine := by
  have h1 := StrLaws.occ_length_le x y 0 x.length 1
  have hy : (glued y (partsBetween x (occurrences x y 0 x.length 1) y.length)).length = x.length := by rw [StrLaws.glued_between_self]
  rw [size_glued, length_partsBetween, Nat.add_sub_cancel] at hy
  rw [size_glued, length_partsBetween, Nat.add_sub_cancel, sizeLine_eq]
  have h2 : (occurrences x y 0 x.length 1).length * z.length ≤ 1 * z.length := Nat.mul_le_mul_right _ h1
  omega
section
variable {X : Cx} {o e f : Expr} {te tf to : TE} {y z : Str} {j k j2 : Nat} {c0 c1 c2 apos pos p p' : Pos}
def tRep1 (to : TE) (y z : Str) : TE := fun σ H Q => to σ H fun v H1 => ∃ x, v = .str x ∧ x.length + 2 * z.length ≤ 16777216 ∧ Q (.str (rep1 x y z)) H1
theorem pet_rep1 (ho : PE X o to) (hyz : (y == z) = false := by decide)
    (hst : starEach [.Constant (.str y) j c0, .Constant (.str z) k c1, .Constant (.int 1) j2 c2] X.env = [(false, eval (.Constant (.str y) j c0) X.env), (false, eval (.Constant (.str z) k c1) X.env), (false, eval (.Constant (.int 1) j2 c2) X.env)] := by rfl)
    (hbase : attributeBase o "replace" X.env (eval o X.env) = eval o X.env := by rfl) (hline : (apos.endLine == pos.line) = true := by rfl) :
    PET X (.Call (.Attribute o "replace" apos) [.Constant (.str y) j c0, .Constant (.str z) k c1, .Constant (.int 1) j2 c2] [] pos) (tRep1 to y z) := by
  intro pins s σ H Q h0 I h
  refine PySem.wpAny_Call_method_lateS hbase (by rw [hst]; rfl) hline ?_
  rw [hst]
  refine (wpAny_mono (PySem.wpAny_toks (ho.run pins s σ H _ I h)) (fun v s1 q => ?_) fun _ _ z => z.2)
  obtain ⟨hk, v', H1, I1, r1, x, e1, hb, q⟩ := q
  subst e1
  obtain ⟨tx, e2⟩ := r1
  subst e2
  refine ⟨"str", _, PySem.F.plainAttrs_str, PySem.F.slot_str_replace, PySem.F.type_str_replace, typeIs_str _ _ _, (fun _ e => nomatch e), Calls.callWith_builtin rfl (Calls.evalArgs_plain (Calls.spliced_cons ?_))⟩
  refine Calls.Constant_str (k := j) (pos := c0) (Calls.spliced_cons (Calls.Constant_str (k := k) (pos := c1) (Calls.spliced_cons ?_)))
  refine (pe_int (X := X) (i := 1) (j := j2) (pos := c2)).run pins _ σ H1 (fun w H2 => w = .int 1 ∧ H2 = H1) (I1.tok _) ⟨rfl, rfl⟩ |> fun w => wpAny_mono w (fun u s2 q2 => ?_) fun _ _ z => z
  obtain ⟨w', H2, I2, r2, ew, eH⟩ := q2
  subst ew
  subst eH
  obtain ⟨tq, rfl⟩ := r2
  refine Calls.spliced_nil ?_
  have hl : tooLong (x.length + (occurrences x y 0 x.length 1).length * z.length) = false := by
    have h1 := StrLaws.occ_length_le x y 0 x.length 1
    have h2 : (occurrences x y 0 x.length 1).length * z.length ≤ 1 * z.length := Nat.mul_le_mul_right _ h1
    unfold tooLong sizeLine
    exact decide_eq_false (by omega)
  refine call_gives F.slot_str_replace (typeIs_str _ _ _) F.entry_str_replace (F.args_str_replace_4 _ _ _ _)
    (gives_rep1 x y z tx s1.toks (s1.toks + 1) tq ⟨by have t0 : s1.toks ≠ 0 := (by omega); simp [t0], by simp, hyz, hl⟩) ?_
  unfold rep1 at q
  cases hc : ((occurrences x y 0 x.length 1).isEmpty || (y.length == 0 && z.length == 0))
  · rw [hc] at q
    simp only [Bool.false_eq_true, if_false] at q ⊢
    exact ⟨rep1_len hb, .str _, H2, I2.tok _, ⟨_, rfl⟩, q⟩
  · rw [hc] at q
    simp only [if_true] at q ⊢
    exact ⟨.str x, H2, I2, ⟨tx, rfl⟩, q⟩
/-- an expression that gives out a token -/
def PEt (X : Cx) (e : Expr) (t : TE) : Prop :=
  ∀ (pins : List (Addr × Obj)) (s : Shared) (σ : L2.St) (H : Hp) (Q : VK), Inv X pins σ H s → t σ H Q → wpAny (model X.prog X.w) X.A (eval e X.env) (fun v s' => 1 ≤ s'.toks ∧ EP X pins σ Q v s') X.xe s
theorem pet_lit {c : Str} {i : Nat} : PEt X (.Constant (.str c) i p) (tC (.str c)) := by
  intro pins s σ H Q I h
  exact Calls.Constant_str ⟨Nat.succ_le_succ (Nat.zero_le _), .str c, H, I.tok _, ⟨_, rfl⟩, h⟩
/-- e op 'c' -/
theorem pet_opL {op : Operator} {r : R2} {c : Str} {i : Nat} (ho : OpR X (binaryOp op) r) (ha : PE X e te) : PEt X (.BinOp e op (.Constant (.str c) i p) pos) (tOp r te (tC (.str c))) := by
  intro pins s σ H Q I h
  refine wpAny_BinOp (thn (ha.run pins s σ H _ I h) fun v s1 ⟨x, H1, I1, r1, q1⟩ => ?_)
  refine Calls.Constant_str ?_
  exact wpAny_mono (PySem.wpAny_toks (ho pins { s1 with toks := s1.toks + 1 } σ H1 x (.str c) v (.str c s1.toks) Q (I1.tok _) r1 ⟨_, rfl⟩ q1)) (fun u s2 q2 => ⟨Nat.le_trans (Nat.succ_le_succ (Nat.zero_le _)) q2.1, q2.2⟩) fun _ _ z => z.2
/-- [e, ..]: behind e a token is out -/
theorem pa_consT {es : List Expr} {ta : TA} (ha : PEt X e te) (hr : PAT X es ta) (hs : starEach (e :: es) X.env = (false, eval e X.env) :: starEach es X.env := by rfl) : PA X (e :: es) (tCons te ta) := by
  refine ⟨fun pos pins s σ H Q I h => ?_⟩
  rw [hs]
  show wpAny _ _ (spliced ((false, eval e X.env) :: backTo pos (starEach es X.env))) _ _ s
  refine Calls.spliced_cons (thn (ha pins s σ H _ I h) fun v s1 q => ?_)
  obtain ⟨hk, x, H1, I1, r1, q1⟩ := q
  exact thn (hr pos pins s1 σ H1 _ hk I1 q1) fun us s2 ⟨xs, H2, I2, r2, q2⟩ => ⟨x :: xs, H2, I2, .cons r1 r2, q2⟩
theorem pat_of {es : List Expr} {ta : TA} (h : PA X es ta) : PAT X es ta := fun pos pins s σ H Q _ I q => h.run pos pins s σ H Q I q
end
/-! what it gives -/
open TL StrLaws in
theorem rep1_none {x z : Str} (h : 32 ∉ tl x) : rep1 x (Str.ofString " ") z = x := by
  unfold rep1
  rcases occ_head x (Str.ofString " ") 1 (Nat.le_refl 1) with ⟨h0, _⟩ | ⟨i, r, h0, ha, _⟩
  · rw [h0]
    rfl
  · refine absurd ?_ h
    have := at_take ha
    have e2 : (Str.ofString " ").cps.toList = [32] := by decide +kernel
    rw [e2] at this
    have hm : 32 ∈ (x.cps.toList.drop i).take 1 := by
      have t : ([32] : List Nat).length = 1 := rfl
      rw [t] at this
      rw [this]
      exact List.mem_singleton.mpr rfl
    exact List.mem_of_mem_drop (List.mem_of_mem_take hm)
open TL StrLaws in
theorem rep1_some {x z : Str} {a b : List Nat} (hx : tl x = a ++ 32 :: b) (ha : 32 ∉ a) : tl (rep1 x (Str.ofString " ") z) = a ++ (tl z ++ b) := by
  have e2 : (Str.ofString " ").cps.toList = [32] := by decide +kernel
  have el : (Str.ofString " ").length = 1 := by decide +kernel
  have hx' : x.cps.toList = a ++ 32 :: b := hx
  have xl : x.length = x.cps.toList.length := by simp [Str.length]
  have hat : ∀ k, At x (Str.ofString " ") x.length k → k = a.length ∨ a.length < k := fun k hk => by
    have := at_take hk
    rw [e2] at this
    have t : ([32] : List Nat).length = 1 := rfl
    rw [t, hx'] at this
    rcases Nat.lt_trichotomy k a.length with h | h | h
    · exfalso
      have e3 : ((a ++ 32 :: b).drop k).take 1 = [a[k]] := by
        rw [List.drop_append_of_le_length (Nat.le_of_lt h), List.drop_eq_getElem_cons h]
        rfl
      rw [e3] at this
      have e4 : a[k] = 32 := by simpa using this
      exact ha (e4 ▸ List.getElem_mem h)
    · exact .inl h
    · exact .inr h
  have here : At x (Str.ofString " ") x.length a.length := by
    refine take_at (by rw [el]; exact Nat.le_refl 1) ?_
    rw [e2, hx', List.drop_left']
    · rfl
    · rfl
  have occ : occurrences x (Str.ofString " ") 0 x.length 1 = [a.length] := by
    have h1 := StrLaws.occ_length_le x (Str.ofString " ") 0 x.length 1
    rcases occ_head x (Str.ofString " ") 1 (Nat.le_refl 1) with ⟨h0, hn⟩ | ⟨i, r, h0, hi, hn⟩
    · exact absurd here (hn _)
    · rw [h0] at h1 ⊢
      have hr : r = [] := by
        cases r with
        | nil => rfl
        | cons _ _ => simp at h1
      subst hr
      rcases hat i hi with h | h
      · rw [h]
      · exact absurd here (hn _ h)
  unfold rep1
  rw [occ, el]
  show tl (glued z (partsBetween x [a.length] 1)) = _
  rw [partsBetween_eq]
  show tl (glued z [strSub x 0 a.length, strSub x (a.length + 1) x.length]) = _
  show (glued z [strSub x 0 a.length, strSub x (a.length + 1) x.length]).cps.toList = _
  rw [glued_list]
  show (strSub x 0 a.length).cps.toList ++ (z.cps.toList ++ ((strSub x (a.length + 1) x.length).cps.toList ++ [])) = _
  rw [List.append_nil, strSub_toList, strSub_toList, hx', List.drop_zero, Nat.sub_zero, List.take_left']
  · have e5 : (a ++ 32 :: b).drop (a.length + 1) = b := by
      rw [show a ++ 32 :: b = (a ++ [32]) ++ b by simp, List.drop_left']
      simp
    rw [e5, List.take_of_length_le]
    · rw [xl, hx']
      simp
      omega
  · rfl
open TL StrLaws in
/-- x.replace(' ', ','): no blank is left -/
theorem replace_free {x : Str} : 32 ∉ tl (Txt.replace x (Str.ofString " ") (Str.ofString ",")) := by
  have e2 : (Str.ofString " ").cps.toList = [32] := by decide +kernel
  have e3 : (Str.ofString ",").cps.toList = [44] := by decide +kernel
  show 32 ∉ (Txt.replace x (Str.ofString " ") (Str.ofString ",")).cps.toList
  rw [replace_list (by decide +kernel), e2, e3]
  generalize x.cps.toList = l
  induction l with
  | nil =>
    rw [replL_nil]
    exact List.not_mem_nil
  | cons c r ih =>
    by_cases h : (c :: r).take ([32] : List Nat).length = [32]
    · rw [replL_hit (by simp) h]
      intro hm
      rcases List.mem_append.mp hm with h1 | h1
      · simp at h1
      · exact ih h1
    · rw [replL_miss h]
      intro hm
      rcases List.mem_cons.mp hm with h1 | h1
      · refine h ?_
        rw [← h1]
        rfl
      · exact ih h1
end Kx
/-! a right text of lines; one of its lines bent in eleven ways -/
namespace K4
open L2 PySem PySem.Spec PyProof.Rows Kx TL
theorem sapp_assoc (a b c : Str) : a ++ b ++ c = a ++ (b ++ c) := tl_inj (by rw [tl_append, tl_append, tl_append, tl_append, List.append_assoc])
theorem sapp_nil (a : Str) : a ++ Str.ofString "" = a := tl_inj (by rw [tl_append]; exact List.append_nil _)
theorem snil_app (a : Str) : Str.ofString "" ++ a = a := tl_inj (by rw [tl_append]; rfl)
theorem line_app : ∀ {ws vs : List Str}, ws ≠ [] → vs ≠ [] → line (ws ++ vs) = line ws ++ Str.ofString " " ++ line vs
  | [w], vs, _, h => by
    rw [line_one]
    exact line_cons h
  | w :: u :: ws, vs, _, h => by
    have ih := line_app (ws := u :: ws) (vs := vs) (by simp) h
    rw [line_cons (w := w) (ws := u :: ws) (by simp), List.cons_append, line_cons (w := w) (by simp), ih]
    simp only [sapp_assoc]
  | [], _, h, _ => absurd rfl h
theorem line_snoc {ws : List Str} {w : Str} (h : ws ≠ []) : line (ws ++ [w]) = line ws ++ Str.ofString " " ++ w := by rw [line_app h (by simp), line_one]
theorem bend_behind {W : List Str} (h : W ≠ []) : line W ++ Str.ofString " " = line (W ++ [Str.ofString ""]) := by rw [line_snoc h, sapp_nil]
theorem bend_ahead {W : List Str} (h : W ≠ []) : Str.ofString " " ++ line W = line (Str.ofString "" :: W) := by rw [line_cons h, snil_app]
theorem bend_none : Str.ofString "" = line [Str.ofString ""] := line_one.symm
theorem bend_twice {w0 : Str} {r : List Str} (h0 : 32 ∉ tl w0) : rep1 (line (w0 :: r)) (Str.ofString " ") (Str.ofString "  ") ++ Str.ofString " " = line (w0 :: ((if r = [] then [] else Str.ofString "" :: r) ++ [Str.ofString ""])) := by
  by_cases hr : r = []
  · subst hr
    rw [line_one, rep1_none h0, if_pos rfl]
    show _ = line ([w0] ++ [Str.ofString ""])
    rw [line_snoc (by simp), line_one, sapp_nil]
  · rw [if_neg hr]
    have e1 : tl (line (w0 :: r)) = tl w0 ++ 32 :: tl (line r) := by
      rw [line_cons hr, tl_append, tl_append, List.append_assoc]
      rfl
    have e2 := rep1_some (z := Str.ofString "  ") e1 h0
    refine tl_inj ?_
    rw [tl_append, e2, show w0 :: (Str.ofString "" :: r ++ [Str.ofString ""]) = (w0 :: Str.ofString "" :: r) ++ [Str.ofString ""] from rfl, line_snoc (by simp), line_cons (w := w0) (by simp), line_cons hr]
    simp only [tl_append]
    rw [show tl (Str.ofString "  ") = [32, 32] by decide +kernel, show tl (Str.ofString " ") = [32] by decide +kernel, show tl (Str.ofString "") = [] by decide +kernel]
    simp
theorem bend_last {I : List Str} {w z : Str} : line (I ++ [w]) ++ z = line (I ++ [w ++ z]) := by
  by_cases h : I = []
  · subst h
    show line [w] ++ z = line [w ++ z]
    rw [line_one, line_one]
  · rw [line_snoc h, line_snoc h, sapp_assoc]
theorem bend_zeros {W : List Str} (h : W ≠ []) : line W ++ Str.ofString " 0 0 0 0 0 0 0 0" = line (W ++ List.replicate 8 (Str.ofString "0")) := by
  rw [line_app h (by simp), sapp_assoc]
  have : Str.ofString " 0 0 0 0 0 0 0 0" = Str.ofString " " ++ line (List.replicate 8 (Str.ofString "0")) := by decide +kernel
  rw [this]
/-- a bent line that can be read -/
structure BOk (W ws : List Str) : Prop where
  b : Bent W ws
  ne : ws ≠ []
  wd : ∀ w ∈ ws, Word w
  few : ws.length ≤ 1000
/-- a line's words -/
structure WOk (W : List Str) : Prop where
  ne : W ≠ []
  wd : ∀ w ∈ W, Word w
  few : W.length ≤ 20
  last : ∃ I k, W = I ++ [num k] ∧ k < 10 ^ 40
theorem word_ (s : String) (h : (decide (32 ∉ tl (Str.ofString s)) && decide (10 ∉ tl (Str.ofString s)) && decide ((Str.ofString s).length ≤ 100)) = true := by decide +kernel) : Word (Str.ofString s) := by
  rw [Bool.and_eq_true, Bool.and_eq_true, decide_eq_true_eq, decide_eq_true_eq, decide_eq_true_eq] at h
  exact ⟨h.1.1, h.1.2, h.2⟩
theorem word_app {a b : Str} (h1 : 32 ∉ tl a ∧ 10 ∉ tl a) (h2 : 32 ∉ tl b ∧ 10 ∉ tl b) (l : a.length + b.length ≤ 100) : Word (a ++ b) := by
  refine ⟨?_, ?_, by rw [append_len]; exact l⟩
  · rw [tl_append]
    exact fun m => (List.mem_append.mp m).elim h1.1 h2.1
  · rw [tl_append]
    exact fun m => (List.mem_append.mp m).elim h1.2 h2.2
theorem wd_app {A B : List Str} (h1 : ∀ w ∈ A, Word w) (h2 : ∀ w ∈ B, Word w) : ∀ w ∈ A ++ B, Word w := fun w hw => (List.mem_append.mp hw).elim (h1 w) (h2 w)
theorem wd_one {v : Str} (h : Word v) : ∀ w ∈ [v], Word w := fun w hw => by
  rw [List.mem_singleton.mp hw]
  exact h
section
variable {W : List Str}
theorem BOk.behind (h : WOk W) : BOk W (W ++ [Str.ofString ""]) := ⟨.behind, by simp, wd_app h.wd (wd_one (word_ "")), by have := h.few; rw [List.length_append, List.length_singleton]; omega⟩
theorem BOk.ahead (h : WOk W) : BOk W (Str.ofString "" :: W) := ⟨.ahead, by simp, wd_app (wd_one (word_ "")) h.wd, by have := h.few; rw [List.length_cons]; omega⟩
theorem BOk.none : BOk W [Str.ofString ""] := ⟨.none, by simp, wd_one (word_ ""), by simp⟩
theorem BOk.twice {w0 : Str} {r : List Str} (h : WOk (w0 :: r)) : BOk (w0 :: r) (w0 :: ((if r = [] then [] else Str.ofString "" :: r) ++ [Str.ofString ""])) := by
  have hw := h.wd
  have few := h.few
  refine ⟨.twice rfl, by simp, ?_, ?_⟩
  · refine wd_app (wd_one (hw _ (List.mem_cons_self ..))) (wd_app ?_ (wd_one (word_ "")))
    by_cases hr : r = []
    · rw [if_pos hr]
      exact fun _ z => nomatch z
    · rw [if_neg hr]
      exact wd_app (wd_one (word_ "")) fun w z => hw w (List.mem_cons_of_mem _ z)
  · rw [List.length_cons] at few
    by_cases hr : r = []
    · rw [if_pos hr]
      simp
    · rw [if_neg hr]
      simp
      omega
theorem BOk.zeros (h : WOk W) : BOk W (W ++ List.replicate 8 (Str.ofString "0")) := ⟨.zeros, by simp, wd_app h.wd fun w z => by rw [List.eq_of_mem_replicate z]; exact word_ "0", by have := h.few; rw [List.length_append, List.length_replicate]; omega⟩
theorem BOk.last {I : List Str} {k : Nat} {w : Str} (h : WOk (I ++ [num k])) (hw : Word w) (bad : ∀ l, l ≤ 61 → idx l w = Option.none) : BOk (I ++ [num k]) (I ++ [w]) :=
  ⟨.last rfl bad, by simp, wd_app (fun v hv => h.wd v (List.mem_append_left _ hv)) (wd_one hw), by have := h.few; rw [List.length_append, List.length_singleton] at *; omega⟩
end
/-- a right text: of a machine (true), of counters (false) -/
inductive Good : Bool → List (List Str) → Prop
  | m {n : Nat} {ts : List (List Nat)} (h : TsOk n ts) : Good true (mWords n ts)
  | c {rs es : List Nat} (r1 : 1 ≤ rs.length) (r4 : rs.length ≤ 4) (len : es.length = rs.length) (ltr : ∀ k ∈ rs, k < 61) (lte : ∀ k ∈ es, k < 7) : Good false (cWords rs es)
/-- the first line that is not so -/
def badOf : Bool → List (List Str) → Option Nat
  | true => mBad
  | false => cBad
theorem last_nums {ns : List Nat} (h : ns ≠ []) (lt : ∀ k ∈ ns, k < 10 ^ 40) : ∃ I k, nums ns = I ++ [num k] ∧ k < 10 ^ 40 := by
  refine ⟨nums ns.dropLast, ns.getLast h, ?_, lt _ (List.getLast_mem h)⟩
  conv => lhs; rw [← List.dropLast_concat_getLast h]
  unfold nums
  rw [List.map_append]
  rfl
theorem wok_nums {ns : List Nat} (h : ns ≠ []) (l : ns.length ≤ 8) (lt : ∀ k ∈ ns, k < 10 ^ 40) : WOk (nums ns) := ⟨nums_ne h, words_nums lt, by unfold nums; rw [List.length_map]; omega, last_nums h lt⟩
theorem wok_named {nm : Str} {ns : List Nat} (hn : Word nm) (h : ns ≠ []) (l : ns.length ≤ 8) (lt : ∀ k ∈ ns, k < 10 ^ 40) : WOk (nm :: nums ns) := by
  obtain ⟨I, k, e, hk⟩ := last_nums h lt
  refine ⟨by simp, wd_app (wd_one hn) (words_nums lt), by unfold nums; rw [List.length_cons, List.length_map]; omega, nm :: I, k, by rw [e]; rfl, hk⟩
section
variable {i : Bool} {lss : List (List Str)}
theorem Good.len (g : Good i lss) : 1 ≤ lss.length ∧ lss.length ≤ 5 := by
  cases g with
  | m h =>
    have := h.l4
    unfold mWords
    rw [List.length_cons, List.length_map]
    omega
  | c r1 r4 len ltr lte =>
    show 1 ≤ 2 ∧ 2 ≤ 5
    decide
theorem Good.wok (g : Good i lss) : ∀ ws ∈ lss, WOk ws := by
  intro ws hw
  cases g with
  | m h =>
    have n8 := h.n8
    have n1 := h.n1
    rcases List.mem_cons.mp hw with rfl | hw
    · exact wok_named (word_ "states") (by simp) (by simp) fun k hk => by rw [List.mem_singleton.mp hk]; omega
    · obtain ⟨t, ht, rfl⟩ := List.mem_map.mp hw
      have lt := h.len t ht
      refine wok_nums (fun z => by rw [z] at lt; simp at lt; omega) (by omega) fun k hk => by have := h.lt t ht k hk; omega
  | c r1 r4 len ltr lte =>
    rename_i rs es
    rcases List.mem_cons.mp hw with rfl | hw
    · exact wok_named (word_ "rounds") (fun z => by rw [z] at r1; simp at r1) (by omega) fun k hk => by have := ltr k hk; omega
    · rw [List.mem_singleton.mp hw]
      exact wok_named (word_ "rests") (fun z => by rw [z] at len; simp at len; omega) (by omega) fun k hk => by have := lte k hk; omega
theorem Good.lines (g : Good i lss) : Lines lss := by
  have l := g.len
  refine Lines.of (fun z => by rw [z] at l; simp at l) (fun ws hw => (g.wok ws hw).ne) (fun ws hw => (g.wok ws hw).wd) (fun ws hw => by have := (g.wok ws hw).few; omega) (by omega)
theorem Good.linesB (g : Good i lss) {j : Nat} {ws : List Str} (hj : j < lss.length) (b : BOk lss[j] ws) : Lines (lss.set j ws) := by
  have l := g.len
  have mem : ∀ vs ∈ lss.set j ws, vs ∈ lss ∨ vs = ws := fun vs hv => List.mem_or_eq_of_mem_set hv
  refine Lines.of (fun z => by have := congrArg List.length z; rw [List.length_set] at this; simp at this; rw [this] at l; simp at l) (fun vs hv => ?_) (fun vs hv => ?_) (fun vs hv => ?_) (by rw [List.length_set]; omega)
  · rcases mem vs hv with h | rfl
    · exact (g.wok vs h).ne
    · exact b.ne
  · rcases mem vs hv with h | rfl
    · exact (g.wok vs h).wd
    · exact b.wd
  · rcases mem vs hv with h | rfl
    · have := (g.wok vs h).few
      omega
    · exact b.few
theorem Good.good (g : Good i lss) : badOf i lss = none := by
  cases g with
  | m h => exact mBad_good h
  | c r1 r4 len ltr lte => exact cBad_good r1 r4 len ltr lte
theorem Good.bent (g : Good i lss) {j : Nat} {ws : List Str} (hj : j < lss.length) (b : Bent lss[j] ws) : badOf i (lss.set j ws) = some (j + 1) := by
  cases g with
  | m h =>
    rename_i n ts
    cases j with
    | zero => exact bent_states h.n8 b
    | succ j =>
      have hj' : j < ts.length := by
        unfold mWords at hj
        rw [List.length_cons, List.length_map] at hj
        omega
      have e : (mWords n ts)[j + 1] = nums ts[j] := by
        show ((Str.ofString "states" :: nums [n]) :: ts.map nums)[j + 1]'(by rw [List.length_cons, List.length_map]; omega) = _
        rw [List.getElem_cons_succ, List.getElem_map]
      rw [e] at b
      exact bent_table h hj' b
  | c r1 r4 len ltr lte =>
    rename_i rs es
    have rn : rs ≠ [] := fun z => by rw [z] at r1; simp at r1
    match j, hj, b with
    | 0, _, b => exact bent_rounds (tl := [Str.ofString "rests" :: nums es]) ltr rn b
    | 1, _, b => exact bent_rests rn r4 ltr len lte b
    | k + 2, h, _ => exact absurd h (by unfold cWords; simp)
end
end K4
/-! lambdas of one parameter that capture nothing, called by a name that holds one. -/
namespace Kx
open L2 PySem PySem.Spec PyProof.Rows LamX NdefX
/-- a lambda's words, as a function's -/
abbrev lamF (q : Str) (params : Arguments) (scope : Scope) (c' : Addr) : NF := ⟨"<lambda>", q, params, [], scope, [], c'⟩
/-- the lambda object that captures nothing -/
abbrev lamOb1 (q : Str) (params : Arguments) (body : Expr) (scope : Scope) (pm : Value) (c' : Addr) (ctv : Value) : Obj := PySem.W.kla_obj "<lambda>" q params body scope [] pm c' ctv
/-- the context of its body -/
abbrev lam1Cx (CXt : CXT) (X : Cx) (N : List Str) (q : Str) (params : Arguments) (scope : Scope) (f c' : Addr) (A : Around) (outer : List Env) (s : Shared) (H : Hp) (E : XK) : Cx :=
  ncx CXt X.prog X.w X.K X.mg X.base N (lamF q params scope c') f A outer s H E
section
variable {X : Cx}
/-- x(e) with x one of several lambdas -/
theorem pe_lamGo1 {ι : Type} {CXt : CXT} {j k : Nat} {x y : Str} {e : Expr} {ta : TA} {p pos : Pos} {E : XK} (q : Str) (ps : ι → Arguments) (bs : ι → Expr) (ss : ι → Scope) (tb : ι → TE)
    (ha : PA X [e] ta) (hr : Room (k + 1) X.A) (hS : ∀ i, NScope [y] [y] [] (ss i)) (hx : Passes CXt X E)
    (hbind : ∀ i (cl : List (Str × Addr)) (pm cv ctv u : Value), bindArgs (PySem.W.kla_fn "<lambda>" q (ps i) (bs i) (ss i) cl pm cv ctv) ⟨[u], []⟩ = pure [(y, u)])
    (hbody : ∀ i (A : Around) (outer : List Env) (s : Shared) (H : Hp) (f c' : Addr), Room k (A.deeper (envF (lamF q (ps i) (ss i) c') f s.heap.objs.size)) → PE (lam1Cx CXt X [y] q (ps i) (ss i) f c' A outer s H E) (bs i) (tb i))
    (hN : X.N[j]? = some x) (hv : Vis X.env.scope x) (hd : (x == ("__debug__" : Str)) = false := by decide) (hcd : (x == ("__classdict__" : Str)) = false := by decide)
    (he : starEach [e] X.env = (false, eval e X.env) :: starEach [] X.env := by rfl) (hpl : (backTo pos (starEach [] X.env)).any (·.1) = false := by rfl) :
    PE X (.Call (.Name x p) [e] [] pos) (fun σ H Q => ∃ (i : ι) (f c' : Addr) (pm ctv : Value), σ[j]? = some (some (.ref f)) ∧ H f = some (LamO f (lamOb1 q (ps i) (bs i) (ss i) pm c' ctv)) ∧
      ta σ H fun vs H1 => ∃ v, vs = [v] ∧ H1 f = some (LamO f (lamOb1 q (ps i) (bs i) (ss i) pm c' ctv)) ∧ H1 c' = some (CodeO c' q) ∧ tb i [some v] H1 Q) := by
  refine ⟨fun pins s σ H Q I asked => ?_⟩
  obtain ⟨i, f, c', pm, ctv, hs, hf, ht⟩ := asked
  refine wpAny_Call_Name_kw (thn ((pe_var (pos := p) hN hv hd hcd).run pins s σ H (fun v H1 => v = .ref f ∧ H1 = H) I ⟨.ref f, hs, rfl, rfl⟩) fun u s1 ⟨v, H1, I1, r1, q1⟩ => ?_)
  obtain ⟨ev, eH⟩ := q1
  subst ev
  rw [eH] at I1
  obtain rfl : u = Value.ref f := r1
  have here1 : s1.heap.get? f = some (lamOb1 q (ps i) (bs i) (ss i) pm c' ctv) := (show ObjOk X.prog X.w H s1.heap f (LamO f _) from I1.hok f _ hf).1
  refine PySem.W.callWith_F (first := []) ⟨_, _, _, _, here1⟩ (thn (ha.run pos pins s1 σ H _ I1 ht) fun us s2 ⟨vs, H2, I2, r, v, ev, h1, h2, q2⟩ => ?_) he hpl
  have here : s2.heap.get? f = some (lamOb1 q (ps i) (bs i) (ss i) pm c' ctv) := (show ObjOk X.prog X.w H2 s2.heap f (LamO f _) from I2.hok f _ h1).1
  refine ⟨⟨_, _, _, _, here⟩, ?_⟩
  subst ev
  obtain ⟨u, rfl, ru⟩ : ∃ u, us = [u] ∧ RelV v u := by
    cases r with
    | cons r1 r2 =>
      cases r2
      exact ⟨_, rfl, r1⟩
  show wpAny _ _ (call (.ref f) [u]) _ _ _
  have L := hS i
  have rc : codeAny (model X.prog X.w) X.A (.call (.ref f) ⟨[u], []⟩) (CR CXt X.stack X.prog X.w H2 s2 Q E) s2 := by
    refine PySem.W.kla_callFunE hr.depth here rfl L.co L.gen rfl (codeO_at I2.hok h2) ?_
    rw [hbind]
    refine wpAny_pure (wpAny_newFunctionEnv L.nocell (fun ⟨n, m⟩ hy => ?_) (fun h₁ hns hsb => ⟨I2.nolimit.fresh _ hsb, ?_⟩) L.kind)
    · have hn : n = y := by
        have hy : (n, m) ∈ [(y, u)] := hy
        rw [List.mem_singleton] at hy
        exact congrArg Prod.fst hy
      exact L.par n (by rw [hn]; exact List.mem_singleton.mpr rfl)
    show codeAny _ _ (.expr (bs i) (envF (lamF q (ps i) (ss i) c') f s2.heap.objs.size)) _ _
    have kp : ∀ b o, s2.heap.get? b = some o → h₁.get? b = some o := fun b o z => hsb.extBut b o (Nat.ne_of_lt (Heap.lt_size z)) (Heap.get?_push_of_some _ z)
    have J : Inv (lam1Cx CXt X [y] q (ps i) (ss i) f c' X.A X.stack s2 H2 E) [] (startF [y] [v] []) H2 { s2 with heap := h₁, toks := s2.toks + ([y].zip [u]).length } :=
      inv_startN (F := lamF q (ps i) (ss i) c') L hr.hd I2.env0 rfl (.cons ru .nil) ⟨rfl, fun _ _ z => (nomatch z), fun _ _ _ z => (nomatch z), fun i y z => (by simp at z)⟩ hns kp
    refine PySem.W.kla_codeExpr (wpAny_mono ((hbody i _ _ s2 H2 f c' (hr.deeper _)).run [] _ _ H2 Q J q2) (fun v s3 z => ?_) fun _ _ z => z)
    obtain ⟨y3, H3, K3, ry, q3⟩ := z
    exact ⟨y3, H3, K3.os, K3.bare, K3.base, K3.hok, ry, q3⟩
  refine wpAny_call (codeAny_mono rc fun r s3 z => ?_)
  match r, z with
  | .error _, z => exact hx pins σ H2 s2 _ s3 I2 z
  | .ok (.ret _), z => exact I2.after z
  | .ok .next, z => exact z.elim
  | .ok .brk, z => exact z.elim
  | .ok .cont, z => exact z.elim
/-- such a lambda as a value -/
theorem pe_lamV1 {T : List (Addr × Str)} {c P : Addr} {params : Arguments} {body : Expr} {scope : Scope} {pos : Pos} (TB : TabB X.base X.mg c P) (code : X.env.code = .ref c) (mem : (P, X.env.qual ++ "<lambda>") ∈ T) (only : ∀ p ∈ T, p.1 = P → p.2 = X.env.qual ++ "<lambda>")
    (hdef : defaultsOf params X.env = ([], [])) (free : ∀ y ∈ scope.names, y.2 = .free → ∃ c, X.env.cells.lookup y.1 = some c) : PE X (.Lambda params body scope pos) (tLamV X T params body scope) := by
  refine ⟨fun pins s σ H Q I asked => ?_⟩
  obtain ⟨hT, h⟩ := asked
  obtain ⟨ps, hP, trip, among⟩ := hT _ mem
  have here : s.heap.get? P = some { cls := .none, data := .fields ps } := I.hok P _ hP
  refine PySem.W.kla_eval hdef ?_; cases hc : codeAmong pos ps.toList with
  | some cv =>
    obtain ⟨c', rfl, old⟩ := among pos cv hc
    refine PySem.W.kla_makeFunctionHit (mg := X.mg) (c := c) (P := P) (ps := ps) (closure_ok free) I.ok.glob (I.mod.glob.keeps I.bk) code (TB.code.keeps I.bk) here trip hc (TB.bm.keeps I.bk) fun ctv h' tk all wide => ?_
    have J : Inv X pins σ H { s with heap := h', toks := tk } := I.kept all
    have J2 := J.laid (t' := tk) (a := h'.objs.size) (o := LamO h'.objs.size (lamOb X params body scope ((X.mg "__name__").getD .none) c' ctv)) (h' := h'.push (lamOb X params body scope ((X.mg "__name__").getD .none) c' ctv)) (fun b o e => Heap.get?_push_of_some _ e) (Nat.le_refl _) (lamO_ok (Heap.get?_push_size _ rfl))
    exact ⟨V.ref h'.objs.size, _, J2, rfl, h h'.objs.size c' _ ctv H (ExtN.refl H) hT (I.hok.fresh wide) (I.hok.fresh wide) old⟩
  | none =>
    refine PySem.W.kla_makeFunction (mg := X.mg) (c := c) (P := P) (ps := ps) (closure_ok free) I.ok.glob (I.mod.glob.keeps I.bk) code (TB.code.keeps I.bk) here trip hc TB.gP (TB.bm.keeps I.bk) fun c' ctv h' tk all ge lt rec_ tb => ?_
    obtain ⟨c2, oc, vs, t, e2, hoc, hd, hv⟩ := rec_
    cases e2
    have wide : s.heap.objs.size ≤ h'.objs.size := Nat.le_trans ge (Nat.le_of_lt lt)
    have nC : H c' = none := I.hok.fresh ge
    have J := inv_table (t' := tk) (more := #[rawInt pos.line, rawInt pos.col, .ref c']) I hP all tb ge ⟨oc, vs, t, hoc, hd, hv⟩
    have J2 := J.laid (t' := tk) (a := h'.objs.size) (o := LamO h'.objs.size (lamOb X params body scope ((X.mg "__name__").getD .none) c' ctv)) (h' := h'.push (lamOb X params body scope ((X.mg "__name__").getD .none) c' ctv)) (fun b o e => Heap.get?_push_of_some _ e) (Nat.le_refl _) (lamO_ok (Heap.get?_push_size _ rfl))
    have ext : ExtN H (upd (upd H P (.tbl (ps ++ #[rawInt pos.line, rawInt pos.col, .ref c']))) c' (CodeO c' (X.env.qual ++ "<lambda>"))) := fun b o e n => by
      have ne : b ≠ P := fun z => n ps (Option.some.inj (e.symm.trans (z ▸ hP)))
      rw [upd_ne (ne_of_none e nC), upd_ne ne]
      exact e
    have eL : (ps ++ #[rawInt pos.line, rawInt pos.col, Value.ref c']).toList = ps.toList ++ [rawInt pos.line, rawInt pos.col, Value.ref c'] := by simp
    refine ⟨V.ref h'.objs.size, _, J2, rfl, h h'.objs.size c' _ ctv _ ext (fun p hp => ?_) (I.hok.fresh wide) (J.hok.fresh (Nat.le_refl _)) upd_same⟩
    by_cases hb : p.1 = P
    · rw [only p hp hb, hb]
      refine ⟨_, (upd_ne (ne_of_none hP nC)).trans upd_same, eL ▸ PySem.TriplesOk_snoc _ _ _ _ trip, fun p' cv hcv => ?_⟩
      rw [eL] at hcv
      rcases among_app _ trip hcv with z | z
      · obtain ⟨c0, e1, e2⟩ := among p' cv z
        exact ⟨c0, e1, ext _ _ e2 codeO_ne⟩
      · exact ⟨c', z, upd_same⟩
    · obtain ⟨qs, a1, a2, a3⟩ := hT p hp
      refine ⟨qs, ((upd_ne (ne_of_none a1 nC)).trans (upd_ne hb)).trans a1, a2, fun p' cv hcv => ?_⟩
      obtain ⟨c0, e1, e2⟩ := (a3 p' cv hcv)
      exact ⟨c0, e1, ext _ _ e2 codeO_ne⟩
/-- what such a body lets out is handed on -/
theorem passL1 {P : Program} {w : World} {K : PySem.W.Frag} {mg : Str → Option Value} {base : Heap} {N : List Str} {F : NF} {f : Addr} {A : Around} {outer : List Env} {s : Shared} {H : Hp} {E : XK} :
    Passes (L2.CX P w) (ncx (L2.CX P w) P w K mg base N F f A outer s H E) E :=
  passes_call (X := ncx (L2.CX P w) P w K mg base N F f A outer s H E) (takes_of (E := E) rfl rfl rfl rfl) (fun _ _ _ _ z => z)
end
end Kx
/-! what stays where lambdas are heard, the source moves -/
namespace K4
open L2 PySem PySem.Spec PyProof.Rows Kx RZ
/-- the source moved, tables grew, things were made -/
structure Go (Ts : List (Addr × Str)) (b : Addr) (H H' : Hp) : Prop where
  keep : ∀ c o, c ≠ b → (∀ ps, o ≠ .tbl ps) → H c = some o → H' c = some o
  box : ∃ t, H' b = some (bx t)
  tabs : LamX.Tabs Ts H'
section
variable {K : PySem.W.Frag} {Ts : List (Addr × Str)} {b a : Addr} {H H' H2 : Hp} {t : Int × Int × Int} {xs : List V} {C c : Addr} {n : Nat} {ts : List (List Int)}
theorem tabs_mv (m : Mv b H H') (hb : H b = some (bx t)) (h : LamX.Tabs Ts H) : LamX.Tabs Ts H' := fun p hp => by
  obtain ⟨ps, h1, h2, h3⟩ := h p hp
  refine ⟨ps, m.1 _ _ (ne_of h1 hb (fun z => nomatch z)) h1, h2, fun pos cv hcv => ?_⟩
  obtain ⟨c, e1, e2⟩ := h3 pos cv hcv
  refine ⟨c, e1, m.1 _ _ (ne_of e2 hb (fun z => ?_)) e2⟩
  unfold LamX.CodeO bx at z
  cases z
theorem Go.refl (hb : H b = some (bx t)) (h : LamX.Tabs Ts H) : Go Ts b H H := ⟨fun _ _ _ _ q => q, ⟨t, hb⟩, h⟩
theorem Go.same (g : Go Ts b H H') (e : Same H' H2) : Go Ts b H H2 := ⟨fun c o n1 n2 q => e _ _ (g.keep c o n1 n2 q), g.box.elim fun t q => ⟨t, e _ _ q⟩, g.tabs.ext e⟩
theorem Go.mv (g : Go Ts b H H') (m : Mv b H' H2) : Go Ts b H H2 := ⟨fun c o n1 n2 q => m.1 _ _ n1 (g.keep c o n1 n2 q), m.2, g.box.elim fun t q => tabs_mv m q g.tabs⟩
theorem Go.ext (g : Go Ts b H H') (e : LamX.ExtN H' H2) (h : LamX.Tabs Ts H2) : Go Ts b H H2 := ⟨fun c o n1 n2 q => e _ _ (g.keep c o n1 n2 q) n2, g.box.elim fun t q => ⟨t, e _ _ q (fun _ z => nomatch z)⟩, h⟩
theorem Go.trans (g : Go Ts b H H') (k : Go Ts b H' H2) : Go Ts b H H2 := ⟨fun c o n1 n2 q => k.keep c o n1 n2 (g.keep c o n1 n2 q), k.box, k.tabs⟩
theorem Go.rd {u : HO} (g : Go Ts b H H') (hb : H b = some (bx t)) (n1 : ∀ ys, u ≠ .lst ys) (n2 : ∀ ps, u ≠ .tbl ps) (h : Rd H a u) : Rd H' a u := by
  rcases h with h | ⟨z, h⟩
  · exact .inl (g.keep _ _ (ne_of h hb (n1 _)) n2 h)
  · exact .inr ⟨z, g.keep _ _ (ne_of h hb (fun z => nomatch z)) (fun _ z => nomatch z) h⟩
theorem Go.sqT (g : Go Ts b H H') (hb : H b = some (bx t)) (h : SqT K H a xs) : SqT K H' a xs := h.imp (g.rd hb (fun _ z => nomatch z) fun _ z => nomatch z) id
theorem Go.sqL (g : Go Ts b H H') (ne : a ≠ b) (h : SqL K H a xs) : SqL K H' a xs := h.imp (fun h => h.elim (fun h => .inl (g.keep _ _ ne (fun _ z => nomatch z) h)) fun ⟨z, h⟩ => .inr ⟨z, g.keep _ _ ne (fun _ z => nomatch z) h⟩) id
theorem Go.mc (g : Go Ts b H H') (hb : H b = some (bx t)) (h : McAt K C H c n ts) : McAt K C H' c n ts := by
  obtain ⟨ok, dx, p, ps, h1, h2, h3⟩ := h
  exact ⟨ok, dx, p, ps, g.keep _ _ (ne_of h1 hb (fun z => nomatch z)) (fun _ z => nomatch z) h1, g.sqT hb h2, h3.imp fun _ _ q => g.sqT hb q⟩
theorem Go.rows {ps : List V} (g : Go Ts b H H') (hb : H b = some (bx t)) (h : RowsBy (SqT K H) ps ts) : RowsBy (SqT K H') ps ts := h.imp fun _ _ q => g.sqT hb q
theorem Go.lst {us : List V} (g : Go Ts b H H') (ne : a ≠ b) (h : H a = some (.lst us)) : H' a = some (.lst us) := g.keep _ _ ne (fun _ z => nomatch z) h
theorem ext_mc (e : LamX.ExtN H H') (h : McAt K C H c n ts) : McAt K C H' c n ts := by
  obtain ⟨ok, dx, p, ps, h1, h2, h3⟩ := h
  exact ⟨ok, dx, p, ps, e _ _ h1 (fun _ z => nomatch z), ext_sqT e h2, h3.imp fun _ _ q => ext_sqT e q⟩
theorem ext_cn {rs es : List Int} (e : LamX.ExtN H H') (h : CnAt K C H c rs es) : CnAt K C H' c rs es := by
  obtain ⟨ok, dx, p, q, h1, h2, h3⟩ := h
  exact ⟨ok, dx, p, q, e _ _ h1 (fun _ z => nomatch z), ext_sqT e h2, ext_sqT e h3⟩
theorem Go.cn {rs es : List Int} (g : Go Ts b H H') (hb : H b = some (bx t)) (h : CnAt K C H c rs es) : CnAt K C H' c rs es := by
  obtain ⟨ok, dx, p, q, h1, h2, h3⟩ := h
  exact ⟨ok, dx, p, q, g.keep _ _ (ne_of h1 hb (fun z => nomatch z)) (fun _ z => nomatch z) h1, g.sqT hb h2, g.sqT hb h3⟩
theorem lamO_ne {f : Addr} {ob : Obj} (ps : Array Value) : LamO f ob ≠ .tbl ps := fun z => by
  unfold LamO at z
  cases z
theorem lamO_bx {f : Addr} {ob : Obj} {t : Int × Int × Int} : LamO f ob ≠ bx t := fun z => by
  unfold LamO bx at z
  cases z
theorem codeO_bx {c : Addr} {q : Str} {t : Int × Int × Int} : LamX.CodeO c q ≠ bx t := fun z => by
  unfold LamX.CodeO bx at z
  cases z
theorem ext_lam {f : Addr} {ob : Obj} (e : LamX.ExtN H H') (h : H f = some (LamO f ob)) : H' f = some (LamO f ob) := e _ _ h lamO_ne
theorem Go.lam {f : Addr} {ob : Obj} (g : Go Ts b H H') (hb : H b = some (bx t)) (h : H f = some (LamO f ob)) : H' f = some (LamO f ob) := g.keep _ _ (ne_of h hb lamO_bx) lamO_ne h
theorem Go.code {c : Addr} {q : Str} (g : Go Ts b H H') (hb : H b = some (bx t)) (h : H c = some (LamX.CodeO c q)) : H' c = some (LamX.CodeO c q) := g.keep _ _ (ne_of h hb codeO_bx) LamX.codeO_ne h
theorem ext_code {c : Addr} {q : Str} (e : LamX.ExtN H H') (h : H c = some (LamX.CodeO c q)) : H' c = some (LamX.CodeO c q) := e _ _ h LamX.codeO_ne
theorem ext_lst {us : List V} (e : LamX.ExtN H H') (h : H a = some (.lst us)) : H' a = some (.lst us) := e _ _ h fun _ z => nomatch z
end
end K4
/-! what readers read; the lambdas that read -/
namespace K4
open L2 PySem PySem.Spec PyProof.Rows Kx TL
/-- nothing is raised here -/
theorem pz {X : Cx} : Passes (L2.CX X.prog X.w) X fun _ _ _ => False := passes_call LamX.takes0 fun _ _ _ _ z => z
theorem passL {X : Cx} {A : Around} {outer : List Env} {s : Shared} {H : Hp} {E : XK} {scope : Scope} {f c' : Addr} : Passes (L2.CX (LamX.lamCx X A outer s H E scope f c').prog (LamX.lamCx X A outer s H E scope f c').w) (LamX.lamCx X A outer s H E scope f c') E :=
  passes_call (takes_of (E := E) rfl rfl rfl rfl) (fun _ _ _ _ z => z)
/-- the object that a right text tells -/
def ObjAt (K : PySem.W.Frag) (C CM : Addr) : Bool → List (List Str) → Hp → Addr → Prop
  | true => fun lss H p => McAt K CM H p (mStates lss) (mTabs lss)
  | false => fun lss H p => CnAt K C H p (natI (cRounds lss)) (natI (cRests lss))
/-- what a reader asks -/
def RdI (K : PySem.W.Frag) (a : Ad) (C CM : Addr) : Bool → V → Hp → VK → XK → Prop
  | true => fun v H Q E => spRdM K a CM [v] H Q E
  | false => fun v H Q E => spRdC K a C [v] H Q E
section
variable {K : PySem.W.Frag} {a : Ad} {C CM : Addr} {i : Bool} {lss : List (List Str)} {H H' : Hp} {p : Addr} {v : V} {Q : VK} {E : XK} {n : Nat} {Ts : List (Addr × Str)} {b : Addr} {t : Int × Int × Int}
theorem ObjAt.same (e : Same H H') (h : ObjAt K C CM i lss H p) : ObjAt K C CM i lss H' p := by
  cases i with
  | true => exact McAt.same e h
  | false => exact CnAt.same e h
theorem ObjAt.ext (e : LamX.ExtN H H') (h : ObjAt K C CM i lss H p) : ObjAt K C CM i lss H' p := by
  cases i with
  | true => exact ext_mc e h
  | false => exact ext_cn e h
theorem ObjAt.go (g : Go Ts b H H') (hb : H b = some (bx t)) (h : ObjAt K C CM i lss H p) : ObjAt K C CM i lss H' p := by
  cases i with
  | true => exact g.mc hb h
  | false => exact g.cn hb h
theorem RdI.none (hk : Kn K H v) (hs : ∀ x, v ≠ .str x) (q : Thrown E H a.cT "at" (.int 0)) : RdI K a C CM i v H Q E := by
  cases i with
  | true => exact ⟨v, rfl, hk, fun _ => q, fun x e => absurd e (hs x)⟩
  | false => exact ⟨v, rfl, hk, fun _ => q, fun x e => absurd e (hs x)⟩
theorem RdI.bad (hl : Lines lss) (hb : badOf i lss = some n) (q : Thrown E H a.cT "at" (.int (n : Nat))) : RdI K a C CM i (.str (text (lss.map line))) H Q E := by
  cases i with
  | true =>
    refine ⟨_, rfl, .str _, fun z => absurd rfl (z _), fun x e => ?_⟩
    cases e
    refine ⟨lss, rfl, hl, fun j z => ?_, fun z => ?_⟩
    · rw [show mBad lss = some n from hb] at z
      cases z
      exact q
    · rw [show mBad lss = some n from hb] at z
      cases z
  | false =>
    refine ⟨_, rfl, .str _, fun z => absurd rfl (z _), fun x e => ?_⟩
    cases e
    refine ⟨lss, rfl, hl, fun j z => ?_, fun z => ?_⟩
    · rw [show cBad lss = some n from hb] at z
      cases z
      exact q
    · rw [show cBad lss = some n from hb] at z
      cases z
theorem RdI.good (hl : Lines lss) (hb : badOf i lss = Option.none) (q : ∀ p H', Same H H' → ObjAt K C CM i lss H' p → Q (.ref p) H') : RdI K a C CM i (.str (text (lss.map line))) H Q E := by
  cases i with
  | true =>
    refine ⟨_, rfl, .str _, fun z => absurd rfl (z _), fun x e => ?_⟩
    cases e
    refine ⟨lss, rfl, hl, fun j z => ?_, fun _ => q⟩
    rw [show mBad lss = Option.none from hb] at z
    cases z
  | false =>
    refine ⟨_, rfl, .str _, fun z => absurd rfl (z _), fun x e => ?_⟩
    cases e
    refine ⟨lss, rfl, hl, fun j z => ?_, fun _ => q⟩
    rw [show cBad lss = Option.none from hb] at z
    cases z
end
/-- x != y, both told by one right text -/
def rNeO (K : PySem.W.Frag) (C CM : Addr) : R2 := fun x y H Q => ∃ (i : Bool) (lss : List (List Str)) (m d : Addr), x = .ref m ∧ y = .ref d ∧ ObjAt K C CM i lss H m ∧ ObjAt K C CM i lss H d ∧ ∀ H', Same H H' → Q (.bl false) H'
theorem op_neO {X : Cx} {a : Ad} {C CM : Addr} {n : Nat} (M : Mks X.prog X.w X.K X.mg X.base a C CM) (hr : Room n X.A) (hn : 2 ≤ n := by decide) {K : PySem.W.Frag} (hK : X.K = K := by rfl) : OpR X (compareOp .NotEq) (rNeO K C CM) := by
  subst hK
  intro pins st σ H x y v u Q I rx ry ⟨i, lss, m, d, ex, ey, hm, hd, q⟩
  cases i with
  | true =>
    obtain ⟨f, fd, h1, h2, h3⟩ := M.eqM
    obtain ⟨_, dx, t, ps, c1, _⟩ := id hm
    obtain ⟨_, dy, t', ps', d1, _⟩ := id hd
    refine own_ne h3 h1 h2 (hr.mono (by omega)) pass0 pins st σ H x y v u Q I rx ry ⟨m, d, dx, _, ex, ey, c1, .inl ⟨dy, _, d1⟩, m, _, _, d, by rw [ex, ey], hm, .inl ⟨_, _, hd, fun H' e => ⟨_, rfl, ?_⟩⟩⟩
    rw [decide_eq_true rfl]
    exact q H' e
  | false =>
    obtain ⟨f, fd, h1, h2, h3⟩ := M.eqC
    obtain ⟨_, dx, _, _, c1, _⟩ := id hm
    obtain ⟨_, dy, _, _, d1, _⟩ := id hd
    refine own_ne h3 h1 h2 (hr.mono (by omega)) pass0 pins st σ H x y v u Q I rx ry ⟨m, d, dx, _, ex, ey, c1, .inl ⟨dy, _, d1⟩, m, _, _, d, by rw [ex, ey], hm, .inl ⟨_, _, hd, fun H' e => ⟨_, rfl, ?_⟩⟩⟩
    rw [decide_eq_true ⟨rfl, rfl⟩]
    exact q H' e
/-! the lambdas of the law that read -/
def forBody : List Stmt := match (defBody s_law).getD 0 (.Pass ⟨0, 0, 0, 0⟩) with
  | .For _ _ body _ _ => body
  | _ => []
def rdLam (i : Bool) : Option (Arguments × PySem.Expr × Scope) := match forBody.getD (if i then 6 else 14) (.Pass ⟨0, 0, 0, 0⟩) with
  | .If (.UnaryOp _ (.Call _ [_, _, .Lambda ps b sc _, _, _] _ _) _) _ _ _ => some (ps, b, sc)
  | _ => none
def rdPs (i : Bool) : Arguments := match rdLam i with
  | some (p, _, _) => p
  | none => defArgs s_law
def rdBd (i : Bool) : PySem.Expr := match rdLam i with
  | some (_, b, _) => b
  | none => .Constant .none 0 ⟨0, 0, 0, 0⟩
def rdSc (i : Bool) : Scope := match rdLam i with
  | some (_, _, s) => s
  | none => defScope s_law
/-- their name -/
abbrev rdQ : Str := (Str.ofString "law" ++ ".<locals>.") ++ "<lambda>"
abbrev rdOb (i : Bool) (pm : Value) (c' : Addr) (ctv : Value) : Obj := lamOb1 rdQ (rdPs i) (rdBd i) (rdSc i) pm c' ctv
theorem rd_scope (i : Bool) : NdefX.NScope ["text"] ["text"] [] (rdSc i) := by
  cases i
  · exact NdefX.nscope_by (by decide +kernel)
  · exact NdefX.nscope_by (by decide +kernel)
theorem rd_bind (i : Bool) (cl : List (Str × Addr)) (pm cv ctv u : Value) : bindArgs (PySem.W.kla_fn "<lambda>" rdQ (rdPs i) (rdBd i) (rdSc i) cl pm cv ctv) ⟨[u], []⟩ = pure [((Str.ofString "text"), u)] := by
  cases i <;> rfl
def kw1 : List V → List V → List V := fun _ zs => [zs.getD 0 .non]
def kw2 : List V → List V → List V := fun _ zs => [zs.getD 1 .non, zs.getD 0 .non]
section
variable {P : Program} {w : World} {K : PySem.W.Frag} {mg : Str → Option Value} {base : Heap} {a : Ad} {C CM : Addr}
/-- the readers, called by a keyword -/
structure Rds (P : Program) (w : World) (K : PySem.W.Frag) (mg : Str → Option Value) (base : Heap) (a : Ad) (C CM : Addr) : Prop where
  mK : CalN P w K mg base (L2.CX P w) 7 0 "read_machine" ["text"] ["text"] kw1 (spRdM K a CM)
  cK : CalN P w K mg base (L2.CX P w) 7 0 "read_counters" ["text"] ["text"] kw1 (spRdC K a C)
/-- such a lambda's body -/
theorem rd_body {X : Cx} (B : Rds X.prog X.w X.K X.mg X.base a C CM) {E : XK} (i : Bool) (A : Around) (outer : List Env) (s : Shared) (H : Hp) (f c' : Addr) (hr : Room 7 (A.deeper (NdefX.envF (lamF rdQ (rdPs i) (rdSc i) c') f s.heap.objs.size))) :
    PE (lam1Cx (L2.CX X.prog X.w) X ["text"] rdQ (rdPs i) (rdSc i) f c' A outer s H E) (rdBd i) (fun σ H1 Q => ∃ v, σ[0]? = some (some v) ∧ RdI X.K a C CM i v H1 Q E) := by
  cases i with
  | true =>
    refine PE.mono (show PE _ (.Call (.Name "read_machine" _) [] _ _) _ from pe_callN0 B.mK hr passL1 (pk_cons (pv 0) pk_nil)) fun σ H1 Q h => ?_
    obtain ⟨v, h1, h2⟩ := h
    exact ⟨v, h1, rfl, rfl, h2⟩
  | false =>
    refine PE.mono (show PE _ (.Call (.Name "read_counters" _) [] _ _) _ from pe_callN0 B.cK hr passL1 (pk_cons (pv 0) pk_nil)) fun σ H1 Q h => ?_
    obtain ⟨v, h1, h2⟩ := h
    exact ⟨v, h1, rfl, rfl, h2⟩
end
end K4
/-! the eleven bent texts -/
namespace K4
open L2 PySem PySem.Spec PyProof.Rows Kx TL
theorem cut_init {xs : List V} (h : xs ≠ []) : cutV xs none (some (-1)) = xs.dropLast := by
  have l : 1 ≤ xs.length := by
    cases xs with
    | nil => exact absurd rfl h
    | cons _ _ => simp
  have e1 : HT.sIx xs.length 0 none = 0 := rfl
  have e2 : HT.sIx xs.length xs.length (some (-1)) = xs.length - 1 := by
    unfold HT.sIx
    simp
    omega
  unfold cutV
  rw [e1, e2, List.drop_zero, Nat.sub_zero, List.dropLast_eq_take]
theorem rep1_short {x y z : Str} : (rep1 x y z).length ≤ x.length + z.length := by
  unfold rep1
  split
  · omega
  · have h1 := StrLaws.occ_length_le x y 0 x.length 1
    have hy : (Builtin.Str.glued y (Builtin.Str.partsBetween x (Builtin.Str.occurrences x y 0 x.length 1) y.length)).length = x.length := by rw [StrLaws.glued_between_self]
    rw [size_glued, length_partsBetween, Nat.add_sub_cancel] at hy
    rw [size_glued, length_partsBetween, Nat.add_sub_cancel]
    have h2 : (Builtin.Str.occurrences x y 0 x.length 1).length * z.length ≤ 1 * z.length := Nat.mul_le_mul_right _ h1
    omega
def sixOf (W : List Str) : List Str := [line W ++ Str.ofString " ", Str.ofString " " ++ line W, Str.ofString "", rep1 (line W) (Str.ofString " ") (Str.ofString "  ") ++ Str.ofString " ", line W ++ Str.ofString "?", line W ++ Str.ofString " 0 0 0 0 0 0 0 0"]
/-- a text of a bent line -/
def BTx (W : List Str) (z : Str) : Prop := ∃ ws, z = line ws ∧ BOk W ws
theorem num_word {k : Nat} : 32 ∉ tl (num k) ∧ 10 ∉ tl (num k) := ⟨num_free (by decide), num_free (by decide)⟩
theorem six_ok {W : List Str} (h : WOk W) : ∀ z ∈ sixOf W, BTx W z := by
  obtain ⟨I, k, eW, hk⟩ := h.last
  have kl := num_len hk
  intro z hz
  unfold sixOf at hz
  simp only [List.mem_cons, List.not_mem_nil, or_false] at hz
  rcases hz with rfl | rfl | rfl | rfl | rfl | rfl
  · exact ⟨_, bend_behind h.ne, .behind h⟩
  · exact ⟨_, bend_ahead h.ne, .ahead h⟩
  · exact ⟨_, bend_none, .none⟩
  · obtain ⟨w0, r, rfl⟩ : ∃ w0 r, W = w0 :: r := by
      cases W with
      | nil => exact absurd rfl h.ne
      | cons w0 r => exact ⟨w0, r, rfl⟩
    exact ⟨_, bend_twice (h.wd _ (List.mem_cons_self ..)).1, .twice h⟩
  · subst eW
    refine ⟨_, bend_last, .last h (word_app num_word (by decide +kernel) ?_) bad_ask⟩
    rw [show (Str.ofString "?").length = 1 by decide +kernel]
    omega
  · exact ⟨_, bend_zeros h.ne, .zeros h⟩
theorem odd_ok {I : List Str} {k : Nat} (h : WOk (I ++ [num k])) (hk : k < 10 ^ 40) {odd : Str} (ho : odd ∈ [Str.ofString "0" ++ num k, Str.ofString "61", Str.ofString "-1", Str.ofString "X", Str.ofString "+1"]) : BTx (I ++ [num k]) (line (I ++ [odd])) := by
  have kl := num_len hk
  simp only [List.mem_cons, List.not_mem_nil, or_false] at ho
  rcases ho with rfl | rfl | rfl | rfl | rfl
  · refine ⟨_, rfl, .last h (word_app (by decide +kernel) num_word ?_) bad_zero⟩
    rw [show (Str.ofString "0").length = 1 by decide +kernel]
    omega
  · exact ⟨_, rfl, .last h (word_ "61") fun l hl => idx_61 hl⟩
  · exact ⟨_, rfl, .last h (word_ "-1") bad_neg⟩
  · exact ⟨_, rfl, .last h (word_ "X") bad_X⟩
  · exact ⟨_, rfl, .last h (word_ "+1") bad_plus⟩
theorem odd_len {k : Nat} (hk : k < 10 ^ 40) {odd : Str} (ho : odd ∈ [Str.ofString "0" ++ num k, Str.ofString "61", Str.ofString "-1", Str.ofString "X", Str.ofString "+1"]) : odd.length ≤ 50 := by
  have kl := num_len hk
  simp only [List.mem_cons, List.not_mem_nil, or_false] at ho
  rcases ho with rfl | rfl | rfl | rfl | rfl
  · rw [append_len, show (Str.ofString "0").length = 1 by decide +kernel]
    omega
  · decide +kernel
  · decide +kernel
  · decide +kernel
  · decide +kernel
end K4
/-! texts of lines are right -/
namespace K4
open L2 PySem PySem.Spec PyProof.Rows Kx TL CwR
theorem op_neSameK {X : Cx} {K : PySem.W.Frag} (hu : X.A.units + 64 < cLine) (hK : X.K = K := by rfl) : OpR X (compareOp .NotEq) (rSame K false) := by
  subst hK
  exact op_neSame hu
theorem sl_listK {X : Cx} {K : PySem.W.Frag} (hK : X.K = K := by rfl) : SlR X (rSlL K) := by
  subst hK
  exact sl_list
theorem pe_joinK {X : Cx} {o e : PySem.Expr} {to te : TE} {apos pos : Pos} {K : PySem.W.Frag} (ho : PE X o to) (he : PE X e te) (hK : X.K = K := by rfl) (hs : starEach [e] X.env = [(false, eval e X.env)] := by rfl) (hbase : attributeBase o "join" X.env (eval o X.env) = eval o X.env := by rfl) (hline : (apos.endLine == pos.line) = true := by rfl) :
    PE X (.Call (.Attribute o "join" apos) [e] [] pos) (tM1 (fun x xs H Q => ∃ a p, ∃ ys : List Str, x = .str a ∧ xs = [.ref p] ∧ (SqL K H p (ys.map V.str) ∨ SqT K H p (ys.map V.str)) ∧ (ys.map (·.length)).sum + ys.length * a.length ≤ 16777216 ∧ Q (.str (Txt.join a ys)) H) to te) := by
  subst hK
  exact pe_join ho he hs hbase hline
theorem shaped_nil : SeqAt.shaped (.list []) = true := by
  unfold SeqAt.shaped
  simp only [PyData.canLay0, PyData.canLayAll0, PyData.depth, PyData.depthAll]
  decide
/-- lines are few and short -/
theorem sum_ok {lss : List (List Str)} (wd : ∀ ws ∈ lss, ∀ w ∈ ws, w.length ≤ 100) (few : ∀ ws ∈ lss, ws.length ≤ 1000) (many : lss.length ≤ 20) : ((lss.map line).map (·.length)).sum + (lss.map line).length * (Str.ofString "\n").length ≤ 16777216 := by
  have h1 := sum_len (ws := lss.map line) (k := 101000) fun l hl => by
    obtain ⟨ws, hw, rfl⟩ := List.mem_map.mp hl
    have := line_len (ws := ws) (k := 100) (wd ws hw)
    have := few ws hw
    omega
  have h2 : (Str.ofString "\n").length = 1 := by decide +kernel
  rw [List.length_map] at *
  rw [h2]
  omega
section
variable {i : Bool} {lss : List (List Str)}
theorem Good.sum (g : Good i lss) : ((lss.map line).map (·.length)).sum + (lss.map line).length * (Str.ofString "\n").length ≤ 16777216 :=
  sum_ok (fun ws hw w h => ((g.wok ws hw).wd w h).2.2) (fun ws hw => by have := (g.wok ws hw).few; omega) (by have := g.len; omega)
theorem Good.sumB (g : Good i lss) {j : Nat} {ws : List Str} (hj : j < lss.length) (b : BOk lss[j] ws) : (((lss.set j ws).map line).map (·.length)).sum + ((lss.set j ws).map line).length * (Str.ofString "\n").length ≤ 16777216 := by
  refine sum_ok (fun vs hv w h => ?_) (fun vs hv => ?_) (by have := g.len; rw [List.length_set]; omega)
  · rcases List.mem_or_eq_of_mem_set hv with h1 | rfl
    · exact ((g.wok vs h1).wd w h).2.2
    · exact (b.wd w h).2.2
  · rcases List.mem_or_eq_of_mem_set hv with h1 | rfl
    · have := (g.wok vs h1).few
      omega
    · exact b.few
theorem Good.line_ok (g : Good i lss) {j : Nat} (hj : j < lss.length) : (line lss[j]).length ≤ 2100 := by
  have w := g.wok _ (List.getElem_mem hj)
  have := line_len (ws := lss[j]) (k := 100) fun v hv => (w.wd v hv).2.2
  have := w.few
  omega
end
theorem set_lines {lss : List (List Str)} {j : Nat} {ws : List Str} (hj : j < lss.length) : ((lss.map line).map V.str).take j ++ [V.str (line ws)] ++ ((lss.map line).map V.str).drop (j + 1) = ((lss.set j ws).map line).map V.str := by
  rw [List.set_eq_take_append_cons_drop, if_pos hj]
  simp [List.map_take, List.map_drop]
def spLines (K : PySem.W.Frag) (a : Ad) (C CM : Addr) (Ts : List (Addr × Str)) : Sp := fun vs H Q _ => ∃ (b L f c' D hd : Addr) (t : Int × Int × Int) (i : Bool) (lss : List (List Str)) (pm ctv : Value) (heads : List Str),
  vs = [.ref b, .ref L, .ref f, .ref D, .ref hd] ∧ H b = some (bx t) ∧ L ≠ b ∧ H L = some (.lst ((lss.map line).map V.str)) ∧ H f = some (LamO f (rdOb i pm c' ctv)) ∧ H c' = some (LamX.CodeO c' rdQ) ∧ Good i lss ∧ ObjAt K C CM i lss H D ∧
  hd ≠ b ∧ SqL K H hd (heads.map V.str) ∧ heads.length ≤ 20 ∧ (∀ h ∈ heads, ∃ ms, h = text (ms.map line) ∧ Lines ms ∧ badOf i ms = some 1) ∧ LamX.Tabs Ts H ∧ ∀ H', Go Ts b H H' → Q (.bl true) H'
abbrev sgR (b L f D hd : Addr) (x5 x6 x7 x8 x9 x10 : Option V) : L2.St := [some (.ref b), some (.ref L), some (.ref f), some (.ref D), some (.ref hd), x5, x6, x7, x8, x9, x10]
theorem pe_readsB {X : Cx} {a : Ad} {cW : Addr} {Ts : List (Addr × Str)} {g : Addr} {fdg : FuncData} {c Pt C0 : Addr} {st : Stmt} {k : Nat} {params : Arguments} {body : PySem.Expr} {scope bs : Scope} {t : XK → TE} {p lpos pos : Pos} {s0 : Shared} {H0 : Hp} {cl : List (Str × Addr)} {fp : List Addr} (h : HF X a cW Ts g fdg c Pt st) (hr : Room (k + 2) X.A)
    (hbody : ∀ (A : Around) (outer : List Env) (s : Shared) (H : Hp) (E : XK) (f c' : Addr), Room k (A.deeper (LamX.lamEnv (X.blk s0 H0 bs (compEnvC bs cl C0 X.env) fp) scope s.heap.objs.size f c')) → PE (LamX.lamCx (X.blk s0 H0 bs (compEnvC bs cl C0 X.env) fp) A outer s H E scope f c') body (t E))
    (hL : LamX.lamSB (compEnvC bs cl C0 X.env).scope scope = true) (hg : Gl (X.blk s0 H0 bs (compEnvC bs cl C0 X.env) fp) "_law_reads" := by rfl) (hdef : defaultsOf params (compEnvC bs cl C0 X.env) = ([], []) := by rfl)
    (hbind : ∀ (q : Str) (cl : List (Str × Addr)) (pm cv ctv : Value), bindArgs (PySem.W.kla_fn "<lambda>" q params body scope cl pm cv ctv) ⟨[], []⟩ = pure [] := by intros; rfl) :
    PE (X.blk s0 H0 bs (compEnvC bs cl C0 X.env) fp) (.Call (.Name "_law_reads" p) [.Lambda params body scope lpos] [] pos) (LamX.tLam Ts (TTr X.K a) t) := by
  obtain ⟨oc, od, dV, kV, doc, pm, an, cdv, ct, osl, rfl, lk, hcd, -, -⟩ := h.FH.ex
  exact LamX.pe_lamcall (X := X.blk s0 H0 bs (compEnvC bs cl C0 X.env) fp) (k := k) hg h.gH h.FH.kp lk hcd h.bH sc_reads rfl (.inl rfl) (reads_gives (X := X.blk s0 H0 bs (compEnvC bs cl C0 X.env) fp) h.T h.D hr) h.TB h.code h.mem h.only hr (LamX.lamS_by hL) hdef hbind hbody
section
variable {P : Program} {w : World} {K : PySem.W.Frag} {mg : Str → Option Value} {base : Heap} {f : Addr} {fd : FuncData} {a : Ad} {C CM cW : Addr} {Ts : List (Addr × Str)} {g cc Pt : Addr} {fdg : FuncData}
theorem sc_lines : FnScope ["box", "lines", "read", "due", "heads", "at", "line", "words", "some", "odd", "value"] ["box", "lines", "read", "due", "heads"] (defScope s_law_lines_right) := ⟨rfl, rfl, rfl, by decide +kernel, rfl, by decide +kernel, by decide +kernel⟩
/-- read(e), in a lambda -/
def tRd (K : PySem.W.Frag) (a : Ad) (C CM : Addr) (E : XK) (ta : TA) : TE := fun σ H Q => ∃ (i : Bool) (f c' : Addr) (pm ctv : Value), σ[2]? = some (some (.ref f)) ∧ H f = some (LamO f (rdOb i pm c' ctv)) ∧
      ta σ H fun vs H1 => ∃ v, vs = [v] ∧ H1 f = some (LamO f (rdOb i pm c' ctv)) ∧ H1 c' = some (LamX.CodeO c' rdQ) ∧ ∃ u, ([some v] : L2.St)[0]? = some (some u) ∧ RdI K a C CM i u H1 Q E
theorem pe_rd {X : Cx} {E : XK} {e : PySem.Expr} {ta : TA} {p pos : Pos} (B : Rds X.prog X.w X.K X.mg X.base a C CM) (ha : PA X [e] ta) (hr : Room 8 X.A) (hx : Passes (L2.CX X.prog X.w) X E) (hN : X.N[2]? = some (Str.ofString "read")) (hv : Vis X.env.scope (Str.ofString "read")) (hK : X.K = K := by rfl)
    (he : starEach [e] X.env = (false, eval e X.env) :: starEach [] X.env := by rfl) (hpl : (backTo pos (starEach [] X.env)).any (·.1) = false := by rfl) : PE X (.Call (.Name "read" p) [e] [] pos) (tRd K a C CM E ta) := by
  subst hK
  exact pe_lamGo1 (CXt := L2.CX X.prog X.w) (k := 7) (j := 2) (y := "text") rdQ rdPs rdBd rdSc (fun i σ H1 Q => ∃ v, σ[0]? = some (some v) ∧ RdI X.K a C CM i v H1 Q E) ha hr rd_scope hx rd_bind (fun i A2 o2 s2 H2 f2 c2 hr2 => rd_body B i A2 o2 s2 H2 f2 c2 hr2) hN hv (he := he) (hpl := hpl)
abbrev XL (P : Program) (w : World) (K : PySem.W.Frag) (mg : Str → Option Value) (base : Heap) (f cc : Addr) (A : Around) (outer : List Env) (s : Shared) (H : Hp) (E : XK) : Cx := (cxOf CX0 P w K mg base ["box", "lines", "read", "due", "heads", "at", "line", "words", "some", "odd", "value"] "_law_lines_right" (defScope s_law_lines_right) f (.ref cc) A outer s H E).nox
theorem ok_lines (F : FnP K "_law_lines_right" s_law_lines_right f fd) (hcode : fd.code = .ref cc) (FH : FnP K "_law_reads" s_law_reads g fdg) (gH : mg "_law_reads" = some (.ref g)) (bH : Binds K fdg ["work"] []) (T : Mg mg) (D : Hd K mg a cW) (TB : LamX.TabB base mg cc Pt)
    (mem : (Pt, (Str.ofString "_law_lines_right" ++ ".<locals>.") ++ "<lambda>") ∈ Ts) (only : ∀ p ∈ Ts, p.1 = Pt → p.2 = (Str.ofString "_law_lines_right" ++ ".<locals>.") ++ "<lambda>") (M : Mks P w K mg base a C CM) (B : Rds P w K mg base a C CM)
    (c_take : Cal P w K mg base CX0 1 "_law_take" ["box", "many"] spTake) (c_pick : Cal P w K mg base CX0 2 "_law_pick" ["box", "some"] (spPick K)) : FnG P w K mg base CX0 11 f fd ["box", "lines", "read", "due", "heads"] (spLines K a C CM Ts) := by
  refine okGc F hcode sc_lines (fun vs H Q E h => ?_) (fun A0 o0 s0 H vs Q E0 lone hr h => ?_)
  · obtain ⟨b, L, f, c', D, hd, t, i, lss, pm, ctv, heads, rfl, _⟩ := h
    rfl
  · obtain ⟨b, L, rf, c', Do, hd, t, i, lss, pm, ctv, heads, rfl, hb, Lb, hL, hf0, hc0, gd, ob, hdb, hh, h20, hhd, tabs, k⟩ := h
    have hf : HF (cxOf CX0 P w K mg base ["box", "lines", "read", "due", "heads", "at", "line", "words", "some", "odd", "value"] "_law_lines_right" (defScope s_law_lines_right) f (.ref cc) A0 o0 s0 H E0).nox a cW Ts g fdg cc Pt s_law_lines_right := ⟨FH, gH, bH, T, D, TB, rfl, rfl, mem, only⟩
    refine ⟨_, PSs.nox (pss_cons (ps_mid (ps_if (pt_cmpR (op_neO (K := K) M hr) (pe_reads (k := 8) hf hr (fun A1 o1 s1 H1 E1 f1 c1 hr' => pe_rd (X := LamX.lamCx (XL P w K mg base f cc A0 o0 s0 H E0) A1 o1 s1 H1 E1 _ f1 c1) (K := K) B (pa_cons (pe_joinK (K := K) pe_str (pv 1)) pa_nil) hr' passL rfl (.inr (.inr rfl)))) (pv 3) (nomark _))
        (pss_one (ps_ret pe_bl))
        pss_nil))
      (pss_cons (ps_set (i := 5) sc_lines.nd rfl (by first | exact Or.inl rfl | exact Or.inr rfl) (pe_callC c_take hr pass0 (pa_cons (pv 0) (pa_cons (pe_callB call_len_seq (by rfl) T.z_len PySem.boot_len (pa_cons (pv 1) pa_nil)) pa_nil))))
      (pss_cons (ps_set (i := 6) sc_lines.nd rfl (by first | exact Or.inl rfl | exact Or.inr rfl) (pe_ix ix_list (pv 1) (pv 5) (fun _ _ => rfl)))
      (pss_cons (ps_mid (ps_set (i := 7) sc_lines.nd rfl (by first | exact Or.inl rfl | exact Or.inr rfl) (pe_split (pv 6) pe_str)))
      (pss_cons (ps_set (i := 8) sc_lines.nd rfl (by first | exact Or.inl rfl | exact Or.inr rfl) (pe_lst (pa_consT (pet_opL op_add_str (pv 6)) (pat_cons (PET.of (pe_op op_add_str pe_str (pv 6))) (pat_cons (PET.of pe_str) (pat_cons (pet_op op_add_str (pet_rep1 (pv 6)) (PET.of pe_str)) (pat_of (pa_cons (pe_op op_add_str (pv 6) pe_str) (pa_cons (pe_op op_add_str (pv 6) pe_str) pa_nil)))))))))
      (pss_cons (ps_mid (ps_set (i := 8) sc_lines.nd rfl (by first | exact Or.inl rfl | exact Or.inr rfl) (pe_op op_cat (pv 8) (pe_lc (own := [("odd", 9)]) (by rfl) sc_lines.nd (pi_tup (pe_tup (pa_cons (pe_op op_add_str pe_str (pe_ix ix_list (pv 7) (pe_un un_neg pe_int) (fun _ _ => rfl))) (pa_cons pe_str (pa_cons pe_str (pa_cons pe_str (pa_cons pe_str pa_nil))))))) (blkOk_by (own := [("odd", 9)]) (N := ["box", "lines", "read", "due", "heads", "at", "line", "words", "some", "odd", "value"]) (sc := defScope s_law_lines_right) (by decide +kernel)) (fun _ _ _ _ _ => (pg_name (i := 9) sc_lines.nd rfl (by first | exact Or.inl rfl | exact Or.inr rfl))) (fun _ _ _ _ _ => pts_nil) (fun _ _ _ _ _ => pe_joinK (K := K) pe_str (pe_op op_cat (pe_slice (sl_listK (K := K)) (pv 7) po_none (po_some (pe_un un_neg pe_int))) (pe_lst (pa_cons (pv 9) pa_nil))))))))
      (pss_cons (ps_mid (ps_if (pt_cmpR (op_neSameK (K := K) (r64 hr)) (pe_reads (k := 8) hf hr (fun A1 o1 s1 H1 E1 f1 c1 hr' => pe_rd (X := LamX.lamCx (XL P w K mg base f cc A0 o0 s0 H E0) A1 o1 s1 H1 E1 _ f1 c1) (K := K) B (pa_cons (pe_joinK (K := K) pe_str (pe_op op_cat (pe_op op_cat (pe_slice (sl_listK (K := K)) (pv 1) po_none (po_some (pv 5))) (pe_lst (pa_cons (pe_callC c_pick hr' pass0 (pa_cons (pv 0) (pa_cons (pv 8) pa_nil))) pa_nil))) (pe_slice (sl_listK (K := K)) (pv 1) (po_some (pe_op op_add (pv 5) pe_int)) po_none))) pa_nil) hr' passL rfl (.inr (.inr rfl)))) (pe_tup (pa_cons pe_str (pa_cons (pe_op op_add (pv 5) pe_int) (pa_cons pe_bl pa_nil)))) (nomark _))
        (pss_one (ps_ret pe_bl))
        pss_nil))
      (pss_cons (ps_mid (ps_if (pt_cmpR (op_neD (r64 hr)) (pe_lc (own := [("value", 10)]) (by rfl) sc_lines.nd (pi_tup (pe_tup (pa_cons pe_non (pa_cons pe_int (pa_cons (pe_lst (pa_cons pe_str pa_nil)) (pa_cons pe_bl pa_nil)))))) (blkOk_by (own := [("value", 10)]) (N := ["box", "lines", "read", "due", "heads", "at", "line", "words", "some", "odd", "value"]) (sc := defScope s_law_lines_right) (by decide +kernel)) (fun _ _ _ _ _ => (pg_name (i := 10) sc_lines.nd rfl (by first | exact Or.inl rfl | exact Or.inr rfl))) (fun _ _ _ _ _ => (pts_one (pt_cmpR (op_neSameK (K := K) (r64 hr)) (pe_readsB (k := 8) hf hr (fun A outer s H E f c' hr' => pe_rd (K := K) B (pa_cons (pv 10) pa_nil) hr' passL rfl (.inr (.inr rfl))) (by rfl)) (pe_tup (pa_cons pe_str (pa_cons pe_int (pa_cons pe_bl pa_nil)))) (nomark _)))) (fun _ _ _ _ _ => (pv 10))) (pe_lst pa_nil) (nomark _))
        (pss_one (ps_ret pe_bl))
        pss_nil))
      (pss_one (ps_ret (pe_cmpR (op_eqD (r64 hr)) (pe_lc (own := [("value", 10)]) (by rfl) sc_lines.nd (pi_list (pv 4)) (blkOk_by (own := [("value", 10)]) (N := ["box", "lines", "read", "due", "heads", "at", "line", "words", "some", "odd", "value"]) (sc := defScope s_law_lines_right) (by decide +kernel)) (fun _ _ _ _ _ => (pg_name (i := 10) sc_lines.nd rfl (by first | exact Or.inl rfl | exact Or.inr rfl))) (fun _ _ _ _ _ => (pts_one (pt_cmpR (op_neSameK (K := K) (r64 hr)) (pe_readsB (k := 8) hf hr (fun A outer s H E f c' hr' => pe_rd (K := K) B (pa_cons (pv 10) pa_nil) hr' passL rfl (.inr (.inr rfl))) (by rfl)) (pe_tup (pa_cons pe_str (pa_cons pe_int (pa_cons pe_bl pa_nil)))) (nomark _)))) (fun _ _ _ _ _ => (pv 10))) (pe_lst pa_nil) (nomark _)))))))))))), ?_⟩
    have ln := gd.len
    have sgd := gd.sum
    have st : ∀ {H' : Hp}, Go Ts b H H' → H' L = some (.lst ((lss.map line).map V.str)) ∧ H' rf = some (LamO rf (rdOb i pm c' ctv)) ∧ H' c' = some (LamX.CodeO c' rdQ) ∧ ObjAt K C CM i lss H' Do ∧ SqL K H' hd (heads.map V.str) := fun g =>
      ⟨g.lst Lb hL, g.lam hb hf0, g.code hb hc0, ob.go g hb, g.sqL hdb hh⟩
    refine ⟨fun σ' H' => σ' = sgR b L rf Do hd .none .none .none .none .none .none ∧ Go Ts b H H', ?_, ?_⟩
    · refine ⟨tabs, fun H1 x1 tb1 => ?_⟩
      have g1 : Go Ts b H H1 := (Go.refl hb tabs).ext x1 tb1
      obtain ⟨hL1, hf1, hc1, ob1, _⟩ := st g1
      refine ⟨i, rf, c', pm, ctv, rfl, hf1, ⟨_, rfl⟩, _, rfl, _, L, lss.map line, rfl, rfl, .inl (SqL.of hL1), sgd, ?_⟩
      refine ⟨_, rfl, hf1, hc1, _, rfl, RdI.good gd.lines gd.good fun p H2 e2 ob2 => ?_⟩
      refine ⟨_, rfl, i, lss, p, Do, rfl, rfl, ob2, ob1.same e2, fun H3 e3 => ⟨_, rfl, iteF ?_⟩⟩
      exact ⟨rfl, g1.same (e2.trans e3)⟩
    rintro σ' H1 ⟨rfl, g1⟩
    obtain ⟨t1, hb1⟩ := g1.box
    obtain ⟨hL1, hf1, hc1, ob1, hh1⟩ := st g1
    refine ⟨_, rfl, _, rfl, L, _, rfl, .inl (SqL.of hL1), b, t1, _, rfl, hb1, ?_, ?_, fun at0 H2 a0 a1 m2 => ?_⟩
    · rw [List.length_map, List.length_map]
      omega
    · rw [List.length_map, List.length_map]
      omega
    rw [List.length_map, List.length_map] at a1
    obtain ⟨j, rfl⟩ : ∃ j : Nat, at0 = (j : Int) := ⟨at0.toNat, by omega⟩
    have hj : j < lss.length := by omega
    have g2 := g1.mv m2
    obtain ⟨hL2, hf2, hc2, ob2, hh2⟩ := st g2
    have wk := gd.wok _ (List.getElem_mem hj)
    have ll := gd.line_ok hj
    have hlj : ((lss.map line).map V.str)[j]? = some (V.str (line lss[j])) := by rw [List.getElem?_map, List.getElem?_map, List.getElem?_eq_getElem hj]; rfl
    obtain ⟨t2, hb2⟩ := g2.box
    refine ⟨_, rfl, _, rfl, L, _, (j : Int), _, rfl, rfl, SqL.of hL2, atI_nat hlj, ?_⟩
    refine ⟨fun σ' H' => ∃ W, σ' = sgR b L rf Do hd (some (.int (j : Int))) (some (.str (line lss[j]))) (some (.ref W)) .none .none .none ∧ Go Ts b H H' ∧ H' W = some (.lst (lss[j].map V.str)) ∧ W ≠ b, ?_, ?_⟩
    · refine ⟨_, rfl, ⟨_, rfl⟩, _, _, rfl, rfl, by decide +kernel, by rw [sizeLine_eq]; omega, fun W hW => ?_⟩
      rw [split_line wk.ne fun w hw => (wk.wd w hw).1]
      exact ⟨W, rfl, g2.same (same_new hW), upd_same, fun z => by rw [z, hb2] at hW; cases hW⟩
    clear hL2 hf2 hc2 ob2 hh2 hb2
    rintro σ' H3 ⟨W, rfl, g3, hW3, Wb⟩
    have few := wk.few
    have l1 : (Str.ofString " ").length = 1 := by decide +kernel
    have l2 : (Str.ofString "  ").length = 2 := by decide +kernel
    have l3 : (Str.ofString "?").length = 1 := by decide +kernel
    have l4 : (Str.ofString " 0 0 0 0 0 0 0 0").length = 16 := by decide +kernel
    have lr : (rep1 (line lss[j]) (Str.ofString " ") (Str.ofString "  ")).length ≤ 3000 := by
      have := rep1_short (x := line lss[j]) (y := Str.ofString " ") (z := Str.ofString "  ")
      omega
    refine ⟨_, rfl, _, _, rfl, rfl, by rw [l1, sizeLine_eq]; omega, ?_⟩
    refine ⟨_, rfl, _, _, rfl, rfl, by rw [l1, sizeLine_eq]; omega, ?_⟩
    refine ⟨_, rfl, _, rfl, by rw [l2]; omega, ?_⟩
    refine ⟨_, _, rfl, rfl, by rw [l1, sizeLine_eq]; omega, ?_⟩
    refine ⟨_, rfl, _, _, rfl, rfl, by rw [l3, sizeLine_eq]; omega, ?_⟩
    refine ⟨_, rfl, _, _, rfl, rfl, by rw [l4, sizeLine_eq]; omega, ?_⟩
    refine ⟨(by show 6 ≤ sizeLine; decide), fun S hS => ?_⟩
    obtain ⟨t3, hb3⟩ := g3.box
    have Sb : S ≠ b := fun z => by rw [z, hb3] at hS; cases hS
    obtain ⟨I, k1, eW, hk1⟩ := wk.last
    refine ⟨fun σ' H' => ∃ (S : Addr) (zs : List Str) (x9 x10 : Option V), σ' = sgR b L rf Do hd (some (.int (j : Int))) (some (.str (line lss[j]))) (some (.ref W)) (some (.ref S)) x9 x10 ∧ Go Ts b H H' ∧ H' S = some (.lst (zs.map V.str)) ∧ S ≠ b ∧ zs.length = 11 ∧ ∀ z ∈ zs, BTx lss[j] z, ?_, ?_⟩
    · have eS := same_new (o := HO.lst [V.str (line lss[j] ++ Str.ofString " "), V.str (Str.ofString " " ++ line lss[j]), V.str (Str.ofString ""), V.str (rep1 (line lss[j]) (Str.ofString " ") (Str.ofString "  ") ++ Str.ofString " "), V.str (line lss[j] ++ Str.ofString "?"), V.str (line lss[j] ++ Str.ofString " 0 0 0 0 0 0 0 0")]) hS
      have uS : L2.upd H3 S (HO.lst [V.str (line lss[j] ++ Str.ofString " "), V.str (Str.ofString " " ++ line lss[j]), V.str (Str.ofString ""), V.str (rep1 (line lss[j]) (Str.ofString " ") (Str.ofString "  ") ++ Str.ofString " "), V.str (line lss[j] ++ Str.ofString "?"), V.str (line lss[j] ++ Str.ofString " 0 0 0 0 0 0 0 0")]) S = some (HO.lst ((sixOf lss[j]).map V.str)) := upd_same
      generalize L2.upd H3 S (HO.lst [V.str (line lss[j] ++ Str.ofString " "), V.str (Str.ofString " " ++ line lss[j]), V.str (Str.ofString ""), V.str (rep1 (line lss[j]) (Str.ofString " ") (Str.ofString "  ") ++ Str.ofString " "), V.str (line lss[j] ++ Str.ofString "?"), V.str (line lss[j] ++ Str.ofString " 0 0 0 0 0 0 0 0")]) = H4 at *
      have hW4 := eS _ _ hW3
      have lk := num_len hk1
      have lz : (Str.ofString "0").length = 1 := by decide +kernel
      have at1 : atI (lss[j].map V.str) (-1) = some (V.str (num k1)) := by rw [eW, List.map_append]; exact atI_last _ _
      refine ⟨_, rfl, ?_⟩
      refine ⟨_, rfl, _, rfl, W, _, _, _, rfl, rfl, SqL.of hW4, at1, _, _, rfl, rfl, by rw [lz, sizeLine_eq]; omega, ?_⟩
      refine ⟨(by show 5 ≤ sizeLine; decide), fun tv htv => ⟨tv, rfl, ⟨_, SqT.of upd_same⟩, fun D1 hD1 => ?_⟩⟩
      let Od : List Str := [Str.ofString "0" ++ num k1, Str.ofString "61", Str.ofString "-1", Str.ofString "X", Str.ofString "+1"]
      have e5 := same_new (o := HO.tup (Od.map V.str)) htv
      have u5 : SqT K (L2.upd H4 tv (HO.tup (Od.map V.str))) tv (Od.map V.str) := SqT.of upd_same
      refine lc_tup (xs := Od.map V.str) (fun i H' => ∃ zs : List Str, H' D1 = some (.lst (zs.map V.str)) ∧ Same (L2.upd H4 tv (HO.tup (Od.map V.str))) H' ∧ zs.length = i ∧ ∀ z ∈ zs, BTx lss[j] z) ⟨[], upd_same, same_new hD1, rfl, fun _ z => nomatch z⟩ (fun i H' _ ⟨_, _, z, _⟩ => sqT_same z u5) ?_ ?_
      · rintro i y H6 hy ⟨zs, hz6, e6, ln6, bt6⟩
        obtain ⟨odd, ho, rfl⟩ : ∃ odd ∈ Od, V.str odd = y := List.mem_map.mp (List.mem_of_getElem? hy)
        have hW6 := e6 _ _ (e5 _ _ hW4)
        have lo := odd_len hk1 ho
        refine ⟨rfl, yes ((if_pos rfl).mpr ?_)⟩
        refine ⟨⟨_, rfl⟩, _, rfl, 1, rfl, -1, rfl, W, _, rfl, SqL.of hW6, fun p hp => ?_⟩
        have ep := same_new (o := HO.lst (cutV (lss[j].map V.str) none (some (-1)))) hp
        refine ⟨_, rfl, (by show 1 ≤ sizeLine; decide), fun q hq => ?_⟩
        have eq_ := same_new (o := HO.lst [V.str odd]) hq
        have hp7 := eq_ _ _ (upd_same (H := H6) (a := p) (o := HO.lst (cutV (lss[j].map V.str) none (some (-1)))))
        refine ⟨p, q, _, _, rfl, rfl, hp7, upd_same, ?_, fun r hr => ?_⟩
        · have := cutV_length (lss[j].map V.str) none (some (-1))
          rw [List.length_map] at this
          rw [sizeLine_eq]
          show _ + 1 ≤ _
          omega
        have er := same_new (o := HO.lst (cutV (lss[j].map V.str) none (some (-1)) ++ [V.str odd])) hr
        have ecut : cutV (lss[j].map V.str) none (some (-1)) ++ [V.str odd] = (I ++ [odd]).map V.str := by
          rw [cut_init (by simpa using wk.ne), eW, List.map_append, List.map_singleton, List.dropLast_concat, List.map_append, List.map_singleton]
        have hr7 : SqL K (L2.upd (L2.upd (L2.upd H6 p (HO.lst (cutV (lss[j].map V.str) none (some (-1))))) q (HO.lst [V.str odd])) r (HO.lst (cutV (lss[j].map V.str) none (some (-1)) ++ [V.str odd]))) r ((I ++ [odd]).map V.str) := by
          rw [← ecut]
          exact SqL.of upd_same
        have e67 := (ep.trans eq_).trans er
        refine ⟨_, r, I ++ [odd], rfl, rfl, .inl hr7, ?_, ?_⟩
        · have h1 := sum_len (ws := I ++ [odd]) (k := 100) fun w hw => by
            rcases List.mem_append.mp hw with h | h
            · exact (wk.wd w (by rw [eW]; exact List.mem_append_left _ h)).2.2
            · rw [List.mem_singleton.mp h]
              omega
          have h2 : (I ++ [odd]).length ≤ 20 := by
            rw [eW, List.length_append, List.length_singleton] at few
            rw [List.length_append, List.length_singleton]
            exact few
          rw [l1]
          omega
        · have i5 : i < 5 := by simpa [Od] using (List.getElem?_eq_some_iff.mp hy).1
          refine ⟨_, e67 _ _ hz6, by rw [List.length_map, sizeLine_eq]; omega, zs ++ [line (I ++ [odd])], ?_, ?_, by rw [List.length_append, ln6]; rfl, fun z hz => ?_⟩
          · rw [upd_same, List.map_append]
            rfl
          · intro c o hc
            rw [upd_ne (ne_of_none hc hD1)]
            exact e67 _ _ (e6 _ _ hc)
          · rcases List.mem_append.mp hz with h | h
            · exact bt6 z h
            · rw [List.mem_singleton.mp h, eW]
              rw [eW] at wk
              exact odd_ok wk hk1 ho
      · rintro H6 ⟨zs, hz6, e6, ln6, bt6⟩
        have e36 := (eS.trans e5).trans e6
        have uS6 := e6 _ _ (e5 _ _ uS)
        have l5 : zs.length = 5 := ln6
        refine ⟨S, D1, _, _, rfl, rfl, uS6, hz6, by rw [List.length_map, List.length_map, l5, sizeLine_eq]; exact (by decide : 6 + 5 ≤ 16777216), fun S2 hS2 => ?_⟩
        have e7 := same_new (o := HO.lst ((sixOf lss[j]).map V.str ++ zs.map V.str)) hS2
        refine ⟨S2, sixOf lss[j] ++ zs, _, _, rfl, (g3.same e36).same e7, by rw [upd_same, List.map_append], fun z => ?_, by rw [List.length_append, l5]; rfl, fun z hz => (List.mem_append.mp hz).elim (six_ok wk z) (bt6 z)⟩
        rw [z, e36 _ _ hb3] at hS2
        cases hS2
    clear hW3 Wb g3 hb3 hS Sb
    rintro σ' H3 ⟨S', zs, x9, x10, rfl, g3, hS3, Sb, z11, bts⟩
    let WN : L2.St → Hp → Prop := fun σ' H' => ∃ (S W : Addr) (x9 x10 : Option V), σ' = sgR b L rf Do hd (some (.int (j : Int))) (some (.str (line lss[j]))) (some (.ref W)) (some (.ref S)) x9 x10 ∧ Go Ts b H H'
    have flat3 : ∀ {s1 : Str} {i : Int} {b1 : Bool}, ∀ v ∈ [V.str s1, .int i, .bl b1], flatB v = true ∨ ∃ c, v = .ref c := fun v hv => by
      simp only [List.mem_cons, List.not_mem_nil, or_false] at hv
      rcases hv with rfl | rfl | rfl <;> exact .inl rfl
    refine ⟨WN, ?_, ?_⟩
    · refine ⟨g3.tabs, fun H5 x5 tb5 => ?_⟩
      have g5 := g3.ext x5 tb5
      obtain ⟨hL5, hf5, hc5, ob5, hh5⟩ := st g5
      obtain ⟨t5, hb5⟩ := g5.box
      refine ⟨i, rf, c', pm, ctv, rfl, hf5, ⟨_, rfl⟩, _, rfl, _, rfl, _, rfl, L, _, rfl, SqL.of hL5, fun p hp => ?_⟩
      have ctk : cutV ((lss.map line).map V.str) none (some (j : Int)) = ((lss.map line).map V.str).take j := cut_to (by rw [List.length_map, List.length_map]; omega)
      rw [ctk]
      have ep := same_new (o := HO.lst (((lss.map line).map V.str).take j)) hp
      have up := upd_same (H := H5) (a := p) (o := HO.lst (((lss.map line).map V.str).take j))
      have hS5 := ext_lst x5 hS3
      generalize L2.upd H5 p (HO.lst (((lss.map line).map V.str).take j)) = H6 at *
      refine ⟨_, rfl, _, rfl, b, S', t5, zs.map V.str, rfl, ep _ _ hb5, Sb, SqL.of (ep _ _ hS5), by rw [List.length_map]; omega, by rw [List.length_map]; omega, fun x H7 hx m7 => ?_⟩
      obtain ⟨z, hz, rfl⟩ := List.mem_map.mp hx
      obtain ⟨ws, rfl, bk⟩ := bts z hz
      have pb : p ≠ b := fun z => by rw [z, hb5] at hp; cases hp
      have up7 := m7.1 _ _ pb up
      refine ⟨(by show 1 ≤ sizeLine; decide), fun q hq => ?_⟩
      have e8 := same_new (o := HO.lst [V.str (line ws)]) hq
      refine ⟨p, q, _, _, rfl, rfl, e8 _ _ up7, upd_same, by rw [List.length_take, List.length_map, List.length_map, sizeLine_eq]; show _ + 1 ≤ _; omega, fun r hr => ?_⟩
      have e9 := same_new (o := HO.lst (((lss.map line).map V.str).take j ++ [V.str (line ws)])) hr
      have g7 := (g5.same ep).mv m7
      have g9 := (g7.same e8).same e9
      obtain ⟨hL9, hf9, hc9, ob9, hh9⟩ := st g9
      refine ⟨_, rfl, _, rfl, _, _, rfl, rfl, _, rfl, L, _, rfl, SqL.of hL9, fun u hu => ?_⟩
      have cdr : cutV ((lss.map line).map V.str) (some ((j : Int) + 1)) none = ((lss.map line).map V.str).drop (j + 1) := by
        have := cut_from (xs := (lss.map line).map V.str) (i := j + 1) (by rw [List.length_map, List.length_map]; omega)
        rw [← this]
        rfl
      rw [cdr]
      have eA := same_new (o := HO.lst (((lss.map line).map V.str).drop (j + 1))) hu
      refine ⟨r, u, _, _, rfl, rfl, eA _ _ upd_same, upd_same, by rw [List.length_append, List.length_take, List.length_drop, List.length_map, List.length_map, sizeLine_eq]; show _ + 1 + _ ≤ _; omega, fun v hv => ?_⟩
      rw [set_lines hj]
      have eB := same_new (o := HO.lst (((lss.set j ws).map line).map V.str)) hv
      have gB := (g9.same eA).same eB
      obtain ⟨hLB, hfB, hcB, obB, hhB⟩ := st gB
      refine ⟨_, v, (lss.set j ws).map line, rfl, rfl, .inl (SqL.of upd_same), gd.sumB hj bk, ?_⟩
      refine ⟨_, rfl, hfB, hcB, _, rfl, RdI.bad (gd.linesB hj bk) (gd.bent hj bk.b) ?_⟩
      refine fun d HC eC hd => ⟨d, _, rfl, rfl, hd, fun p2 HD eD hp2 => ?_⟩
      refine ⟨_, rfl, _, _, rfl, rfl, (by show 3 ≤ sizeLine; decide), fun w2 hw2 => ?_⟩
      have eE := same_new (o := HO.tup [.str "text", .int ((j : Int) + 1), .bl true]) hw2
      refine ⟨p2, w2, _, rfl, rfl, sqT_same eE hp2, SqT.of upd_same, flat3, _, rfl, iteF ?_⟩
      exact ⟨_, _, _, _, rfl, gB.same (eC.trans (eD.trans eE))⟩
    clear hS3 bts g3
    rintro σ' H4 ⟨S2, W2, x9', x10', rfl, g4⟩
    refine ⟨WN, ?_, ?_⟩
    · refine ⟨(by show 1 ≤ sizeLine; decide), fun l1 hl1 => ?_⟩
      have e4 := same_new (o := HO.lst [V.str (Str.ofString "")]) hl1
      have u4 := upd_same (H := H4) (a := l1) (o := HO.lst [V.str (Str.ofString "")])
      generalize L2.upd H4 l1 (HO.lst [V.str (Str.ofString "")]) = H5 at *
      refine ⟨(by show 4 ≤ sizeLine; decide), fun tv htv => ⟨tv, rfl, ⟨_, SqT.of upd_same⟩, fun D2 hD2 => ?_⟩⟩
      have e5 := same_new (o := HO.tup [.non, .int 5, .ref l1, .bl true]) htv
      have u5 : SqT K (L2.upd H5 tv (HO.tup [.non, .int 5, .ref l1, .bl true])) tv [.non, .int 5, .ref l1, .bl true] := SqT.of upd_same
      have u45 := e5 _ _ u4
      generalize L2.upd H5 tv (HO.tup [.non, .int 5, .ref l1, .bl true]) = H6 at *
      have e6 := same_new (o := HO.lst []) hD2
      have u6 : L2.upd H6 D2 (HO.lst []) D2 = some (HO.lst []) := upd_same
      have tv6 := sqT_same e6 u5
      have e46 := (e4.trans e5).trans e6
      refine lc_tup (xs := [.non, .int 5, .ref l1, .bl true]) (fun i H' => LamX.ExtN (L2.upd H6 D2 (HO.lst [])) H' ∧ LamX.Tabs Ts H') ⟨.refl _, g4.tabs.ext e46⟩ (fun i H' _ z => ext_sqT z.1 tv6) ?_ ?_
      · rintro n y H7 hy ⟨x7, tb7⟩
        have hy := List.mem_of_getElem? hy
        refine ⟨rfl, ?_⟩
        refine ⟨tb7, fun H8 x8 tb8 => ?_⟩
        have g8 := (g4.same e46).ext (x7.trans x8) tb8
        obtain ⟨hL8, hf8, hc8, ob8, hh8⟩ := st g8
        have ky : Kn K H8 y ∧ ∀ x, y ≠ .str x := by
          simp only [List.mem_cons, List.not_mem_nil, or_false] at hy
          rcases hy with rfl | rfl | rfl | rfl
          · exact ⟨.non, fun _ z => nomatch z⟩
          · exact ⟨.int 5, fun _ z => nomatch z⟩
          · exact ⟨.seq (.inl (SqL.of (ext_lst (x7.trans x8) (e6 _ _ u45)))), fun _ z => nomatch z⟩
          · exact ⟨.bl true, fun _ z => nomatch z⟩
        refine ⟨i, rf, c', pm, ctv, rfl, hf8, _, rfl, _, rfl, hf8, hc8, _, rfl, RdI.none ky.1 ky.2 ?_⟩
        refine fun d HC eC hd => ⟨d, _, rfl, rfl, hd, fun p2 HD eD hp2 => ?_⟩
        refine ⟨(by show 3 ≤ sizeLine; decide), fun w2 hw2 => ?_⟩
        have eE := same_new (o := HO.tup [.str "text", .int 0, .bl true]) hw2
        refine ⟨p2, w2, _, rfl, rfl, sqT_same eE hp2, SqT.of upd_same, flat3, _, rfl, iteF ?_⟩
        have e9B := eC.trans (eD.trans eE)
        exact ⟨(x7.trans x8).trans (ext_of e9B), tb8.ext e9B⟩
      · rintro H7 ⟨x7, tb7⟩
        refine ⟨(by show 0 ≤ sizeLine; decide), fun l2 hl2 => ?_⟩
        have e8 := same_new (o := HO.lst []) hl2
        refine ⟨_, _, .lst (SqL.of (e8 _ _ (x7 _ _ u6 (fun _ z => nomatch z)))) .nil, .lst (SqL.of upd_same) .nil, shaped_nil, shaped_nil, ?_⟩
        refine ⟨_, rfl, ?_⟩
        have ev : PyData.eqv (.list []) (.list []) = true := by simp only [PyData.eqv, PyData.eqvAll]
        rw [ev]
        exact iteF ⟨_, _, _, _, rfl, ((g4.same e46).ext x7 tb7).same e8⟩
    clear g4
    rintro σ' H4 ⟨S3, W3, y9, y10, rfl, g4⟩
    obtain ⟨hL4, hf4, hc4, ob4, hh4⟩ := st g4
    refine ⟨_, rfl, hd, rfl, ⟨_, hh4⟩, fun D2 hD2 => ?_⟩
    have e6 := same_new (o := HO.lst []) hD2
    have u6 : L2.upd H4 D2 (HO.lst []) D2 = some (HO.lst []) := upd_same
    have hh6 := sqL_same e6 hh4
    refine lc_list (xs := heads.map V.str) (fun i H' => LamX.ExtN (L2.upd H4 D2 (HO.lst [])) H' ∧ LamX.Tabs Ts H') ⟨.refl _, g4.tabs.ext e6⟩ (fun i H' _ z => ext_sqL z.1 hh6) ?_ ?_
    · rintro n y H7 hy ⟨x7, tb7⟩
      obtain ⟨h0, hm, rfl⟩ := List.mem_map.mp (List.mem_of_getElem? hy)
      obtain ⟨ms, rfl, lm, bm⟩ := hhd h0 hm
      refine ⟨rfl, ?_⟩
      refine ⟨tb7, fun H8 x8 tb8 => ?_⟩
      have g8 := (g4.same e6).ext (x7.trans x8) tb8
      obtain ⟨hL8, hf8, hc8, ob8, hh8⟩ := st g8
      refine ⟨i, rf, c', pm, ctv, rfl, hf8, _, rfl, _, rfl, hf8, hc8, _, rfl, RdI.bad lm bm ?_⟩
      refine fun d HC eC hd => ⟨d, _, rfl, rfl, hd, fun p2 HD eD hp2 => ?_⟩
      refine ⟨(by show 3 ≤ sizeLine; decide), fun w2 hw2 => ?_⟩
      have eE := same_new (o := HO.tup [.str "text", .int 1, .bl true]) hw2
      refine ⟨p2, w2, _, rfl, rfl, sqT_same eE hp2, SqT.of upd_same, flat3, _, rfl, iteF ?_⟩
      have e9B := eC.trans (eD.trans eE)
      exact ⟨(x7.trans x8).trans (ext_of e9B), tb8.ext e9B⟩
    · rintro H7 ⟨x7, tb7⟩
      refine ⟨(by show 0 ≤ sizeLine; decide), fun l2 hl2 => ?_⟩
      have e8 := same_new (o := HO.lst []) hl2
      refine ⟨_, _, .lst (SqL.of (e8 _ _ (x7 _ _ u6 (fun _ z => nomatch z)))) .nil, .lst (SqL.of upd_same) .nil, shaped_nil, shaped_nil, ?_⟩
      have ev : PyData.eqv (.list []) (.list []) = true := by simp only [PyData.eqv, PyData.eqvAll]
      rw [ev]
      exact k _ (((g4.same e6).ext x7 tb7).same e8)
end
end K4
/-! texts of rows are right -/
namespace K4
open L2 PySem PySem.Spec PyProof.Rows Kx TL
/-- x(..) in a try's body -/
theorem pe_callCS {X : Cx} {k j : Nat} {x : Str} {ps : List Str} {sp : Sp} {W : WX} {e : PySem.Expr} {es : List PySem.Expr} {t : TA} {p pos : Pos} (c : Cal X.prog X.w X.K X.mg X.base (L2.CX X.prog X.w) k x ps sp) (hr : Room j X.A) (tk : Takes X W) (ha : PA X (e :: es) t) (hk : k ≤ j := by decide) (hg : Gl X x := by rfl) (hdb : (x == ("__debug__" : Str)) = false := by decide)
    (he : starEach (e :: es) X.env = (false, eval e X.env) :: starEach es X.env := by rfl) (hpl : (backTo pos (starEach es X.env)).any (·.1) = false := by rfl) : PE X (.Call (.Name x p) (e :: es) [] pos) (tCallSD sp [] (WE W) t) := by
  obtain ⟨f, fd, h1, h2, h3, h4⟩ := c.ex
  exact pe_callSD (FnOk.mono h4 hk) hr hg h1 h2 h3 .nil (fun σ => passAt tk σ) ha hdb he hpl
theorem _root_.Kx.OkD.d60 {m L : Nat} {d : PyData} (o : OkD m L d) (hm : m ≤ 60 := by decide) : d.depth ≤ 60 := Nat.le_trans o.deep hm
theorem _root_.Kx.OkD.line {m L : Nat} {d : PyData} (o : OkD m L d) (hL : L ≤ 16777216 := by decide) : d.shown.length ≤ sizeLine := by rw [sizeLine_eq]; exact Nat.le_trans o.fit hL
/-- behind an expression a word of one's own -/
def tMid (t : TE) : TE := fun σ H Q => ∃ N : V → Hp → Prop, t σ H N ∧ ∀ v H', N v H' → Q v H'
theorem pe_mid {X : Cx} {e : PySem.Expr} {t : TE} (h : PE X e t) : PE X e (tMid t) := ⟨fun pins s σ H Q I ⟨N, q, k⟩ => wpAny_mono (h.run pins s σ H N I q) (fun v s' ⟨x, H', J, r, n⟩ => ⟨x, H', J, r, k x H' n⟩) fun _ _ z => z⟩
/-- an error's class, caught and asked -/
structure HdX (K : PySem.W.Frag) (mg : Str → Option Value) (C : Addr) (x : Str) : Prop where
  g : mg x = some (.ref C)
  x_ : XfC K C
  n_ : PySem.W.findIn K (.ref C) "at" = some none
  m_ : PySem.W.exmOne K (.ref C) (.ref C) = some true
theorem call_lenK {X : Cx} {K : PySem.W.Frag} (hK : X.K = K := by rfl) : CallR X (.builtin "len") (fun xs H Q => ∃ p ys, xs = [.ref p] ∧ Sq K H p ys ∧ Q (.int (ys.length : Nat)) H) := by
  subst hK
  intro pins s σ H vs us Q I r ⟨p, ys, e, h, q⟩
  exact call_len_seq pins s σ H vs us Q I r ⟨p, ys, e, h, q⟩
/-- what is asked of the text of a row -/
theorem sign_line {ws : List Str} {B : Nat} (hB : 32 < B) (h : ∀ w ∈ ws, ∀ c ∈ tl w, c < B) : ∀ c ∈ tl (line ws), c < B := fun c hc => by
  by_cases hb : c < B
  · exact hb
  · exact absurd hc (line_free (by omega) fun w hw m => hb (h w hw c m))
theorem sign_num {n : Nat} : ∀ c ∈ tl (num n), c < 58 := fun c hc => by
  by_cases h : c < 58
  · exact h
  · exact absurd hc (num_free (.inr (by omega)))
theorem sign_row {row : List Nat} : ∀ c ∈ tl (rowText row), c < 58 := by
  unfold rowText
  split
  · decide +kernel
  · refine sign_line (by decide) fun w hw => ?_
    obtain ⟨n, _, rfl⟩ := List.mem_map.mp hw
    exact sign_num
theorem row_len {row : List Nat} (h : ∀ n ∈ row, n < 10 ^ 40) : (rowText row).length ≤ 41 * row.length + 1 := by
  unfold rowText
  split
  · have : (Str.ofString "-").length = 1 := by decide +kernel
    omega
  · have := line_len (ws := nums row) (k := 40) fun w hw => nums_len h w hw
    unfold nums at this ⊢
    rw [List.length_map] at this
    omega
theorem okD_text {z : Str} {L : Nat} (h : ∀ c ∈ tl z, c < 16 ^ 8) (l : z.length ≤ L) : OkD 0 (10 * L + 2) (.str z) := okD_str (by
  have := StrLaws.reprText_len z h
  omega)
/-- words of a row, bent -/
theorem row_bent {l j : Nat} {row : List Nat} {odd : Str} (lt : ∀ n ∈ row, n < l) (l400 : row.length ≤ 300) (hj : j ≤ row.length) (ho : idx l odd = none) : rdB l (((nums row).take j ++ [odd] ++ (nums row).drop j ++ [Str.ofString "?"]).take 400) = row.take j := by
  have e1 : (nums row).take j = nums (row.take j) := by
    unfold nums
    rw [List.map_take]
  have e2 : ((nums row).take j ++ [odd] ++ (nums row).drop j ++ [Str.ofString "?"]).take 400 = nums (row.take j) ++ odd :: ((nums row).drop j ++ [Str.ofString "?"]) := by
    rw [List.take_of_length_le]
    · rw [e1]
      simp
    · simp [nums]
      omega
  rw [e2, rdB_nums fun n hn => lt n (List.mem_of_mem_take hn), rdB_stop ho, List.append_nil]
def oddsR (l : Nat) : List Str := [num l, Str.ofString "-", Str.ofString "x", Str.ofString "", Str.ofString "00", Str.ofString "-1", Str.ofString "1?", Str.ofString "a"]
theorem odd_idx {l : Nat} {odd : Str} (h : odd ∈ oddsR l) : idx l odd = none := by
  unfold oddsR at h
  simp only [List.mem_cons, List.not_mem_nil, or_false] at h
  rcases h with rfl | rfl | rfl | rfl | rfl | rfl | rfl | rfl
  · exact idx_none fun i hi e => by have := num_inj e; omega
  · exact idx_bad (num_ne_sign (c := 45) (by decide +kernel) (by decide))
  · exact idx_bad (num_ne_sign (c := 120) (by decide +kernel) (by decide))
  · exact idx_nil
  · have e : Str.ofString "00" = Str.ofString "0" ++ num 0 := by decide +kernel
    rw [e]
    exact idx_bad fun i => num_ne_zero i 0
  · exact idx_bad (num_ne_sign (c := 45) (by decide +kernel) (by decide))
  · exact idx_bad (num_ne_sign (c := 63) (by decide +kernel) (by decide))
  · exact idx_bad (num_ne_sign (c := 97) (by decide +kernel) (by decide))
theorem odd_word {l : Nat} (hl : l < 10 ^ 40) {odd : Str} (h : odd ∈ oddsR l) : Word odd := by
  unfold oddsR at h
  simp only [List.mem_cons, List.not_mem_nil, or_false] at h
  rcases h with rfl | rfl | rfl | rfl | rfl | rfl | rfl | rfl
  · exact word_num hl
  · exact word_ "-"
  · exact word_ "x"
  · exact word_ ""
  · exact word_ "00"
  · exact word_ "-1"
  · exact word_ "1?"
  · exact word_ "a"
theorem isBel_nat {l k : Nat} : isBel (l : Int) (.int (k : Nat)) = decide (k < l) := by
  show (decide ((0 : Int) ≤ (k : Int)) && decide ((k : Int) < (l : Int))) = _
  rw [decide_eq_true (by omega), Bool.true_and]
  exact decide_eq_decide.mpr (by omega)
theorem rowAt_iv {l : Nat} {row : List Nat} (lt : ∀ n ∈ row, n < l) (l400 : row.length ≤ 400) : rowAt l (some (iv row)) = none := by
  show (if (iv row).length ≤ 400 then (fnb l (iv row)).map (fun (i : Nat) => (i : Int)) else some (-1)) = none
  rw [if_pos (by rw [iv_len]; exact l400), fnb_none.mpr fun x hx => ?_]
  · rfl
  · obtain ⟨n, hn, rfl⟩ := List.mem_map.mp hx
    rw [isBel_nat]
    exact decide_eq_true (lt n hn)
theorem rowAt_more {l : Nat} {row : List Nat} (lt : ∀ n ∈ row, n < l) (l400 : row.length ≤ 300) : rowAt l (some (iv row ++ [.int (l : Nat)])) = some (row.length : Nat) := by
  show (if (iv row ++ [V.int (l : Nat)]).length ≤ 400 then (fnb l (iv row ++ [V.int (l : Nat)])).map (fun (i : Nat) => (i : Int)) else some (-1)) = _
  have h : fnb l (iv row ++ [V.int (l : Nat)]) = some row.length := by
    refine fnb_some (fun j x hj hx => ?_) ⟨.int (l : Nat), ?_, ?_⟩
    · rw [List.getElem?_append_left (by rw [iv_len]; exact hj)] at hx
      obtain ⟨n, hn, rfl⟩ := List.mem_map.mp (List.mem_of_getElem? hx)
      rw [isBel_nat]
      exact decide_eq_true (lt n hn)
    · rw [List.getElem?_append_right (by rw [iv_len]; exact Nat.le_refl _), iv_len, Nat.sub_self]
      rfl
    · rw [isBel_nat]
      exact decide_eq_false (by omega)
  rw [if_pos (by rw [List.length_append, iv_len, List.length_singleton]; omega), h]
  rfl
theorem kns_iv {K : PySem.W.Frag} {H : Hp} {row : List Nat} {m : Nat} : Kns K H (some (iv row)) m := fun xs q _ x hx => by
  cases q
  obtain ⟨n, _, rfl⟩ := List.mem_map.mp hx
  exact .int _
theorem no_dash2 {row : List Nat} : line (nums row) ≠ Str.ofString "-" := fun e => by
  have h : 45 ∈ tl (line (nums row)) := by
    rw [e]
    decide +kernel
  exact absurd h (line_free (by decide) (nums_free (by decide)))
theorem free_of {ws : List Str} (ne : ws ≠ []) (h : ∀ w ∈ ws, Word w) : Free ws := ⟨ne, fun w hw => (h w hw).1⟩
theorem line_fits {ws : List Str} (h : ∀ w ∈ ws, Word w) (l : ws.length ≤ 1000) : (line ws).length ≤ 101000 := by
  have := line_len (ws := ws) (k := 100) fun w hw => (h w hw).2.2
  omega
theorem no_dash {ws : List Str} : line (ws ++ [Str.ofString "?"]) ≠ Str.ofString "-" := fun e => by
  have h : 63 ∈ tl (line (ws ++ [Str.ofString "?"])) := by
    by_cases hw : ws = []
    · subst hw
      show 63 ∈ tl (line [Str.ofString "?"])
      rw [line_one]
      decide +kernel
    · rw [line_snoc hw, tl_append]
      exact List.mem_append_right _ (by decide +kernel)
  rw [e] at h
  revert h
  decide +kernel
end K4
/-! rows' texts, as the law asks them -/
namespace K4
open L2 PySem PySem.Spec PyProof.Rows Kx TL CwR
def spRowR (K : PySem.W.Frag) (CM : Addr) (Ts : List (Addr × Str)) : Sp := fun vs H Q _ => ∃ (b m F : Addr) (t : Int × Int × Int) (n : Nat) (ts : List (List Int)) (ps : List V),
  vs = [.ref b, .ref m, .ref F] ∧ H b = some (bx t) ∧ McAt K CM H m n ts ∧ F ≠ b ∧ H F = some (.lst ps) ∧ ps.length = ts.length ∧ LamX.Tabs Ts H ∧ ∀ H', Go Ts b H H' → Q (.bl true) H'
abbrev sgW (b m F : Addr) (x3 x4 x5 x6 x7 x8 x9 x10 x11 : Option V) : L2.St := [some (.ref b), some (.ref m), some (.ref F), x3, x4, x5, x6, x7, x8, x9, x10, x11]
section
variable {P : Program} {w : World} {K : PySem.W.Frag} {mg : Str → Option Value} {base : Heap} {f : Addr} {fd : FuncData} {a : Ad} {C CM cW : Addr} {Ts : List (Addr × Str)} {g cc Pt : Addr} {fdg : FuncData}
structure FnR (P : Program) (w : World) (K : PySem.W.Frag) (mg : Str → Option Value) (base : Heap) (a : Ad) (CM : Addr) : Prop where
  take : Cal P w K mg base CX0 1 "_law_take" ["box", "many"] spTake
  pick : Cal P w K mg base CX0 2 "_law_pick" ["box", "some"] (spPick K)
  words : Cal P w K mg base CX0 1 "_law_words" ["numbers"] (spWords K)
  txt : Cal P w K mg base (L2.CX P w) 6 "row_text" ["machine", "row"] (spRtext K a CM)
  txtK : CalN P w K mg base (L2.CX P w) 6 0 "row_text" ["machine", "row"] ["row", "machine"] kw2 (spRtext K a CM)
  rd : Cal P w K mg base (L2.CX P w) 5 "read_row" ["machine", "text"] (spRdR K a CM)
  rdK : CalN P w K mg base (L2.CX P w) 5 0 "read_row" ["machine", "text"] ["text", "machine"] kw2 (spRdR K a CM)
theorem sc_rowr : FnScope ["box", "machine", "tables", "row", "words", "text", "at", "odd", "e", "turn", "deed", "value"] ["box", "machine", "tables"] (defScope s_law_row_right) := ⟨rfl, rfl, rfl, by decide +kernel, rfl, by decide +kernel, by decide +kernel⟩
abbrev XR (P : Program) (w : World) (K : PySem.W.Frag) (mg : Str → Option Value) (base : Heap) (f cc : Addr) (A : Around) (outer : List Env) (s : Shared) (H : Hp) (E : XK) : Cx := (cxOf CX0 P w K mg base ["box", "machine", "tables", "row", "words", "text", "at", "odd", "e", "turn", "deed", "value"] "_law_row_right" (defScope s_law_row_right) f (.ref cc) A outer s H E).nox
theorem ok_rowr (F : FnP K "_law_row_right" s_law_row_right f fd) (hcode : fd.code = .ref cc) (FH : FnP K "_law_reads" s_law_reads g fdg) (gH : mg "_law_reads" = some (.ref g)) (bH : Binds K fdg ["work"] []) (T : Mg mg) (D : Hd K mg a cW) (DR : HdX K mg a.cR "BadRow") (TB : LamX.TabB base mg cc Pt)
    (mem : (Pt, (Str.ofString "_law_row_right" ++ ".<locals>.") ++ "<lambda>") ∈ Ts) (only : ∀ p ∈ Ts, p.1 = Pt → p.2 = (Str.ofString "_law_row_right" ++ ".<locals>.") ++ "<lambda>") (B : FnR P w K mg base a CM) : FnG P w K mg base CX0 11 f fd ["box", "machine", "tables"] (spRowR K CM Ts) := by
  refine okGc F hcode sc_rowr (fun vs H Q E h => ?_) (fun A0 o0 s0 H vs Q E0 lone hr h => ?_)
  · obtain ⟨b, m, F, t, n, ts, ps, rfl, _⟩ := h
    rfl
  · obtain ⟨b, m, Fa, t, n, ts, ps, rfl, hb, mc, Fb, hF, lps, tabs, k⟩ := h
    have cs : CallR (XR P w K mg base f cc A0 o0 s0 H E0) (.builtin "repr") (rShow K) := call_show lone (r64 hr)
    have hf : HF (XR P w K mg base f cc A0 o0 s0 H E0) a cW Ts g fdg cc Pt s_law_row_right := ⟨FH, gH, bH, T, D, TB, rfl, rfl, mem, only⟩
    refine ⟨_, PSs.nox (pss_cons (ps_mid (ps_setLc (i := 3) (own := [("turn", 9)]) (by rfl) sc_rowr.nd rfl rfl (sw_true rfl rfl rfl (by decide +kernel)) (pi_range1 (by rfl) T.z_range (pa_cons (pe_callC B.take hr pass0 (pa_cons (pv 0) (pa_cons pe_int pa_nil))) pa_nil)) (blkOk_by (own := [("turn", 9)]) (N := ["box", "machine", "tables", "row", "words", "text", "at", "odd", "e", "turn", "deed", "value"]) (sc := defScope s_law_row_right) (by decide +kernel)) (fun _ _ _ _ _ => (pg_name (i := 9) sc_rowr.nd rfl (by first | exact Or.inl rfl | exact Or.inr rfl))) (fun _ _ _ _ _ => pts_nil) (fun _ _ _ _ _ => pe_callC B.take hr pass0 (pa_cons (pv 0) (pa_cons (pe_callB (call_lenK (K := K)) (by rfl) T.z_len PySem.boot_len (pa_cons (pv 2) pa_nil)) pa_nil)))))
      (pss_cons (ps_mid (ps_asg (pe_tup (pa_cons (pe_lc (own := [("deed", 10)]) (by rfl) sc_rowr.nd (pi_list (pv 3)) (blkOk_by (own := [("deed", 10)]) (N := ["box", "machine", "tables", "row", "words", "text", "at", "odd", "e", "turn", "deed", "value"]) (sc := defScope s_law_row_right) (by decide +kernel)) (fun _ _ _ _ _ => (pg_name (i := 10) sc_rowr.nd rfl (by first | exact Or.inl rfl | exact Or.inr rfl))) (fun _ _ _ _ _ => pts_nil) (fun _ _ _ _ _ => pe_callTy call_str_int (by rfl) T.z_str bt_str (pa_cons (pv 10) pa_nil))) (pa_cons (pe_callC B.words hr pass0 (pa_cons (pv 3) pa_nil)) pa_nil))) (pg_tup rfl (pgs_cons (pg_name (i := 4) sc_rowr.nd rfl (by first | exact Or.inl rfl | exact Or.inr rfl)) (pgs_cons (pg_name (i := 5) sc_rowr.nd rfl (by first | exact Or.inl rfl | exact Or.inr rfl)) pgs_nil)))))
      (pss_cons (ps_mid (ps_if (pt_cmpR op_ne (pe_callB cs (by rfl) T.z_repr (by decide +kernel) (pa_cons (pe_lst (pa_cons (pe_mid (pe_callC B.txt hr pz (pa_cons (pv 1) (pa_cons (pv 3) pa_nil)))) (pa_cons (pe_mid (pe_callN0 B.txtK hr pz (pk_cons (pe_callTy call_tupD (by rfl) T.z_tuple bt_tuple (pa_cons (pv 3) pa_nil)) (pk_cons (pv 1) pk_nil)))) pa_nil))) pa_nil)) (pe_callB cs (by rfl) T.z_repr (by decide +kernel) (pa_cons (pe_op op_rep (pe_lst (pa_cons (pv 5) pa_nil)) pe_int) pa_nil)) (nomark _))
        (pss_one (ps_ret pe_bl))
        pss_nil))
      (pss_cons (ps_mid (ps_if (PW.pt (pw_or (pt_cmpR op_ne (pe_callB cs (by rfl) T.z_repr (by decide +kernel) (pa_cons (pe_mid (pe_callC B.rd hr pz (pa_cons (pv 1) (pa_cons (pv 5) pa_nil)))) pa_nil)) (pe_callB cs (by rfl) T.z_repr (by decide +kernel) (pa_cons (pe_callTy call_tup (by rfl) T.z_tuple bt_tuple (pa_cons (pv 3) pa_nil)) pa_nil)) (nomark _)) (pw_or1 (pt_cmpR (op_neNums (r64 hr)) (pe_mid (pe_callN0 B.rdK hr pz (pk_cons (pv 5) (pk_cons (pv 1) pk_nil)))) (pe_callTy call_tup (by rfl) T.z_tuple bt_tuple (pa_cons (pv 3) pa_nil)) (nomark _)))))
        (pss_one (ps_ret pe_bl))
        pss_nil))
      (pss_cons (ps_set (i := 6) sc_rowr.nd rfl (by first | exact Or.inl rfl | exact Or.inr rfl) (pe_callC B.take hr pass0 (pa_cons (pv 0) (pa_cons (pe_op op_add (pe_callB call_len_seq (by rfl) T.z_len PySem.boot_len (pa_cons (pv 4) pa_nil)) pe_int) pa_nil))))
      (pss_cons (ps_mid (ps_set (i := 7) sc_rowr.nd rfl (by first | exact Or.inl rfl | exact Or.inr rfl) (pe_callC B.pick hr pass0 (pa_cons (pv 0) (pa_cons (pe_lst (pa_cons (pe_callTy call_str_int (by rfl) T.z_str bt_str (pa_cons (pe_callB call_len_seq (by rfl) T.z_len PySem.boot_len (pa_cons (pv 2) pa_nil)) pa_nil)) (pa_cons pe_str (pa_cons pe_str (pa_cons pe_str (pa_cons pe_str (pa_cons pe_str (pa_cons pe_str (pa_cons pe_str pa_nil))))))))) pa_nil)))))
      (pss_cons (ps_mid (ps_if (pt_cmpR (op_neSameK (K := K) (r64 hr)) (pe_reads (k := 8) hf hr (fun A1 o1 s1 H1 E1 f1 c1 hr' => pe_callC B.rd hr' passL (pa_cons (pv 1) (pa_cons (pe_joinK (K := K) pe_str (pe_op op_cat (pe_op op_cat (pe_op op_cat (pe_slice (sl_listK (K := K)) (pv 4) po_none (po_some (pv 6))) (pe_lst (pa_cons (pv 7) pa_nil))) (pe_slice (sl_listK (K := K)) (pv 4) (po_some (pv 6)) po_none)) (pe_lst (pa_cons pe_str pa_nil)))) pa_nil)))) (pe_tup (pa_cons pe_str (pa_cons (pv 6) (pa_cons pe_bl pa_nil)))) (nomark _))
        (pss_one (ps_ret pe_bl))
        pss_nil))
      (pss_cons (ps_mid (ps_if (pt_cmpR (op_neD (r64 hr)) (pe_lc (own := [("value", 11)]) (by rfl) sc_rowr.nd (pi_tup (pe_tup (pa_cons pe_non (pa_cons pe_int (pa_cons (pe_lst pa_nil) (pa_cons (pe_lst (pa_cons pe_str pa_nil)) pa_nil)))))) (blkOk_by (own := [("value", 11)]) (N := ["box", "machine", "tables", "row", "words", "text", "at", "odd", "e", "turn", "deed", "value"]) (sc := defScope s_law_row_right) (by decide +kernel)) (fun _ _ _ _ _ => (pg_name (i := 11) sc_rowr.nd rfl (by first | exact Or.inl rfl | exact Or.inr rfl))) (fun _ _ _ _ _ => (pts_one (pt_cmpR (op_neSameK (K := K) (r64 hr)) (pe_readsB (k := 8) hf hr (fun A1 o1 s1 H1 E1 f1 c1 hr' => pe_callC B.rd hr' passL (pa_cons (pv 1) (pa_cons (pv 11) pa_nil))) (by rfl)) (pe_tup (pa_cons pe_str (pa_cons pe_int (pa_cons pe_bl pa_nil)))) (nomark _)))) (fun _ _ _ _ _ => (pv 11))) (pe_lst pa_nil) (nomark _))
        (pss_one (ps_ret pe_bl))
        pss_nil))
      (pss_cons (ps_tries (W := fun _ _ _ _ => False) rfl rfl LamX.takes0 (fun U pn xe tk own => pss_one (ps_expr (pe_callCS B.txt hr tk (pa_cons (pv 1) (pa_cons (pe_op op_cat (pv 3) (pe_lst (pa_cons (pe_callB (call_lenK (K := K)) (by rfl) T.z_len PySem.boot_len (pa_cons (pv 2) pa_nil)) pa_nil))) pa_nil)))))
        (Clauses.cons (i := 8) sc_rowr.nd rfl rfl ⟨rfl, by decide, .inl DR.g⟩ (fun x ob cls d pn hz hf => pss_one (ps_ret (pe_cmpR op_eq (pe_xf DR.x_ DR.n_ hz hf (pv 8)) (pe_callB (call_lenK (K := K)) (by rfl) T.z_len PySem.boot_len (pa_cons (pv 3) pa_nil)) (nomark _)))) Clauses.nil))
      (pss_one (ps_ret pe_bl))))))))))), ?_⟩
    have ok := mc.ok
    have lt1 := ok.l1
    have lt4 := ok.l4
    have g0 : Go Ts b H H := .refl hb tabs
    refine ⟨fun σ' H' => ∃ (R : Addr) (row : List Nat) (x9 : Option V), σ' = sgW b m Fa (some (.ref R)) .none .none .none .none .none x9 .none .none ∧ Go Ts b H H' ∧ H' R = some (.lst (iv row)) ∧ R ≠ b ∧ (∀ n ∈ row, n < ts.length) ∧ row.length ≤ 7, ?_, ?_⟩
    · refine ⟨_, rfl, b, t, 8, rfl, hb, by decide, by decide, fun r H2 r0 r8 m2 => ?_⟩
      obtain ⟨q, rfl⟩ : ∃ q : Nat, r = (q : Int) := ⟨r.toNat, by omega⟩
      obtain ⟨t2, hb2⟩ := m2.2
      have hF2 := m2.1 _ _ Fb hF
      refine ⟨_, rfl, by omega, by omega, fun D0 hD0 => ?_⟩
      have Db : D0 ≠ b := fun z => by rw [z, hb2] at hD0; cases hD0
      refine lc_range (lo := 0) (n := q) (fun i H' => ∃ row : List Nat, H' D0 = some (.lst (iv row)) ∧ row.length = i ∧ (∀ n ∈ row, n < ts.length) ∧ Mv b H2 H') ⟨[], upd_same, rfl, (fun _ z => nomatch z), (Mv.refl hb2).put hD0 Db⟩ ?_ ?_
      · rintro i H3 hi ⟨row, hD3, l3, lt3, m3⟩
        obtain ⟨t3, hb3⟩ := m3.2
        refine ⟨rfl, yes ((if_pos rfl).mpr ?_)⟩
        refine ⟨_, rfl, _, rfl, Fa, ps, rfl, .inl (SqL.of (m3.1 _ _ Fb hF2)), b, t3, _, rfl, hb3, by omega, by omega, fun x H4 x0 x1 m4 => ?_⟩
        rw [lps] at x1
        obtain ⟨x, rfl⟩ : ∃ q : Nat, x = (q : Int) := ⟨x.toNat, by omega⟩
        refine ⟨_, m4.1 _ _ Db hD3, by rw [iv_len, sizeLine_eq]; omega, row ++ [x], ?_, by rw [List.length_append, l3]; rfl, fun y hy => ?_, (m3.trans m4).put hD0 Db⟩
        · rw [upd_same]
          unfold iv
          rw [List.map_append]
          rfl
        · rcases List.mem_append.mp hy with h | h
          · exact lt3 y h
          · rw [List.mem_singleton.mp h]
            omega
      · rintro H3 ⟨row, hD3, l3, lt3, m3⟩
        exact ⟨D0, row, _, rfl, (g0.mv m2).mv m3, hD3, Db, lt3, by omega⟩
    rintro σ' H1 ⟨R, row, x9, rfl, g1, hR1, Rb, rlt, r7⟩
    have r40 : ∀ n ∈ row, n < 10 ^ 40 := fun n hn => by have := rlt n hn; omega
    let st : Hp → Prop := fun H' => H' R = some (.lst (iv row))
    have lnum : (nums row).length = row.length := by unfold nums; rw [List.length_map]
    have tl_ : (rowText row).length ≤ 300 := by have := row_len r40; omega
    have tsg : ∀ c ∈ tl (rowText row), c < 16 ^ 8 := fun c hc => by have := sign_row c hc; omega
    refine ⟨fun σ' H' => ∃ (W : Addr) (x9 x10 : Option V), σ' = sgW b m Fa (some (.ref R)) (some (.ref W)) (some (.str (rowText row))) .none .none .none x9 x10 .none ∧ Go Ts b H H' ∧ H' R = some (.lst (iv row)) ∧ H' W = some (.lst ((nums row).map V.str)) ∧ W ≠ b, ?_, ?_⟩
    · obtain ⟨t1, hb1⟩ := g1.box
      refine ⟨_, rfl, R, rfl, ⟨_, SqL.of hR1⟩, fun D0 hD0 => ?_⟩
      have Db : D0 ≠ b := fun z => by rw [z, hb1] at hD0; cases hD0
      refine lc_list (xs := iv row) (Part H1 D0 ((nums row).map V.str)) (Part.zero hD0) (fun i H' _ pt => SqL.of (pt.2 _ _ hR1)) ?_ ?_
      · rintro i y H2 hy pt
        obtain ⟨n', he, rfl⟩ : ∃ n', row[i]? = some n' ∧ V.int (n' : Nat) = y := by
          unfold iv at hy
          rw [List.getElem?_map, Option.map_eq_some_iff] at hy
          exact hy
        refine ⟨rfl, yes ((if_pos rfl).mpr ⟨_, rfl, _, rfl, log_ok (r40 n' (List.mem_of_getElem? he)), pt.step hD0 (Same.refl H2) ?_ ?_⟩)⟩
        · unfold nums
          rw [List.getElem?_map, List.getElem?_map, he]
          rfl
        · rw [List.length_map, lnum, sizeLine_eq]
          omega
      · intro H2 pt
        obtain ⟨hD2, e2⟩ := pt.done (by rw [List.length_map, lnum, iv_len]; exact Nat.le_refl _)
        refine ⟨_, rfl, R, row, rfl, .inl (SqL.of (e2 _ _ hR1)), r40, by omega, fun H3 e3 => ?_⟩
        refine ⟨(by show 2 ≤ sizeLine; decide), fun G hG => ⟨G, _, rfl, SqT.of upd_same, rfl, ?_⟩⟩
        have e4 := same_new (o := HO.tup [.ref D0, .str (rowText row)]) hG
        have e := e2.trans (e3.trans e4)
        exact ⟨_, _, rfl, _, _, rfl, rfl, D0, _, _, rfl, g1.same e, e _ _ hR1, e4 _ _ (e3 _ _ hD2), Db⟩
    clear hR1 g1
    rintro σ' H1 ⟨W, x9', x10, rfl, g1, hR1, hW1, Wb⟩
    have rok := rowAt_iv rlt (by omega : row.length ≤ 400)
    have ask : ∀ {H' : Hp} {v : V} {bb : Addr} {Q : VK} {E : XK}, McAt K CM H' m n ts → v = .ref bb → SqD K H' bb (iv row) → (∀ H2, Same H' H2 → Q (.str (rowText row)) H2) → spRtext K a CM [.ref m, v] H' Q E := fun mc ev hv q =>
      ⟨m, n, ts, _, some (iv row), rfl, mc, by rw [ev]; exact .seq hv.sq, kns_iv, (fun i z => by rw [rok] at z; cases z), fun _ => ⟨_, row, ev, rfl, hv, by omega, r40, q⟩⟩
    have rds : ∀ {H' : Hp} {Q : VK} {E : XK}, McAt K CM H' m n ts → (∀ p H2, Same H' H2 → SqT K H2 p (iv row) → Q (.ref p) H2) → spRdR K a CM [.ref m, .str (rowText row)] H' Q E := fun mc q => by
      refine ⟨m, n, ts, _, rfl, mc, .str _, fun z => absurd rfl (z _), fun x ex => ?_⟩
      cases ex
      by_cases e : row = []
      · have et : rowText row = Str.ofString "-" := if_pos e
        rw [et]
        refine ⟨[Str.ofString "-"], line_one.symm, free_of (by simp) (wd_one (word_ "-")), by simp, by rw [line_one, sizeLine_eq]; decide +kernel, fun _ p H2 e2 hp => q p H2 e2 (by rw [e]; exact hp), fun z => absurd rfl z⟩
      · have et : rowText row = line (nums row) := if_neg e
        have wd : ∀ w ∈ nums row, Word w := words_nums r40
        have lf := line_fits wd (by omega)
        have er : rdB ts.length ((nums row).take 400) = row := by
          rw [List.take_of_length_le (by omega)]
          exact rdB_all rlt
        rw [et]
        refine ⟨nums row, rfl, free_of (nums_ne e) wd, by omega, by rw [sizeLine_eq]; omega, fun z => absurd z no_dash2, fun _ => ⟨fun z => ?_, fun _ p H2 e2 hp => q p H2 e2 (by rw [er] at hp; exact hp)⟩⟩
        rw [er, lnum] at z
        omega
    let NT : Hp → V → Hp → Prop := fun Ha v H' => v = .str (rowText row) ∧ Same Ha H'
    let NR : Hp → V → Hp → Prop := fun Ha v H' => ∃ p, v = .ref p ∧ Same Ha H' ∧ SqT K H' p (iv row)
    let WR : Addr → Option V → Option V → L2.St → Hp → Prop := fun W x6 x7 σ' H' => ∃ (x9 x10 x11 : Option V), σ' = sgW b m Fa (some (.ref R)) (some (.ref W)) (some (.str (rowText row))) x6 x7 .none x9 x10 x11 ∧ Go Ts b H H' ∧ H' R = some (.lst (iv row)) ∧ H' W = some (.lst ((nums row).map V.str)) ∧ W ≠ b
    have o2 : OkD 1 16000 (.list [.str (rowText row), .str (rowText row)]) := (okD_list (okA_cons (okD_text tsg (L := 300) (by omega)) (okA_cons (okD_text tsg (L := 300) (by omega)) okA_nil))).mono (Nat.le_refl _) (by decide)
    refine ⟨WR W .none .none, ?_, ?_⟩
    · have mc1 := g1.mc hb mc
      refine ⟨NT H1, ⟨_, rfl, _, rfl, ask (Q := NT H1) (E := fun _ _ _ => False) mc1 rfl (.inl (SqL.of hR1)) fun H2 e2 => ⟨rfl, e2⟩⟩, ?_⟩
      rintro _ H2 ⟨rfl, e2⟩
      have hR2 := e2 _ _ hR1
      refine ⟨NT H2, ⟨_, rfl, R, iv row, rfl, .inl (SqL.of hR2), fun q H3 e3 hq => ⟨_, rfl, rfl, rfl, ask (Q := NT H2) (E := fun _ _ _ => False) (mc1.same (e2.trans e3)) rfl (.inr hq) fun H4 e4 => ⟨rfl, e3.trans e4⟩⟩⟩, ?_⟩
      rintro _ H4 ⟨rfl, e4⟩
      refine ⟨(by show 2 ≤ sizeLine; decide), fun l hl => ?_⟩
      refine ⟨_, _, rfl, .lst (SqL.of upd_same) (.cons (.str _) (.cons (.str _) .nil)), o2.sh, o2.nd, o2.d60, o2.line, ?_⟩
      have e5 := same_new (o := HO.lst [.str (rowText row), .str (rowText row)]) hl
      refine ⟨_, rfl, (by show 1 ≤ sizeLine; decide), fun l2 hl2 => ?_⟩
      have e6 := same_new (o := HO.lst [.str (rowText row)]) hl2
      refine ⟨l2, 2, _, rfl, rfl, upd_same, by decide, by decide, (by show 1 * 2 ≤ sizeLine; decide), fun l3 hl3 => ?_⟩
      have e7 := same_new (o := HO.lst [.str (rowText row), .str (rowText row)]) hl3
      refine ⟨_, _, rfl, .lst (SqL.of upd_same) (.cons (.str _) (.cons (.str _) .nil)), o2.sh, o2.nd, o2.d60, o2.line, ?_⟩
      have e := e2.trans (e4.trans (e5.trans (e6.trans e7)))
      refine ⟨rfl, _, rfl, ite2 (fun z => ?_) (fun _ => ?_)⟩
      · simp at z
      · exact ⟨_, _, _, rfl, g1.same e, e _ _ hR1, e _ _ hW1, Wb⟩
    clear hR1 g1 hW1 Wb
    rintro σ' H1 ⟨y9, y10, y11, rfl, g1, hR1, hW1, Wb⟩
    refine ⟨WR W .none .none, ?_, ?_⟩
    · have mc1 := g1.mc hb mc
      have oN : OkD 1 15400 (dNums (natI row)) := okD_nums (fun z hz => by
        obtain ⟨n', hn, rfl⟩ := List.mem_map.mp hz
        have := rlt n' hn
        omega) (by rw [natI_len]; omega)
      refine ⟨NR H1, ⟨_, rfl, _, rfl, rds (Q := NR H1) (E := fun _ _ _ => False) mc1 fun p H2 e2 hp => ⟨p, rfl, e2, hp⟩⟩, ?_⟩
      rintro _ H2 ⟨p, rfl, e2, hp⟩
      rw [← natI_iv] at hp
      refine ⟨_, _, rfl, dp_nums hp, oN.sh, oN.nd, oN.d60, oN.line, ?_⟩
      refine ⟨_, rfl, R, iv row, rfl, .inl (SqL.of (e2 _ _ hR1)), fun q H3 e3 hq => ?_⟩
      rw [← natI_iv] at hq
      refine ⟨_, _, rfl, dp_nums hq, oN.sh, oN.nd, oN.d60, oN.line, ?_⟩
      refine ⟨rfl, _, rfl, ite2 (fun z => ?_) (fun _ => ?_)⟩
      · simp at z
      have e23 := e2.trans e3
      refine ⟨NR H3, ⟨_, rfl, _, rfl, rfl, rfl, rds (Q := NR H3) (E := fun _ _ _ => False) (mc1.same e23) fun p2 H4 e4 hp2 => ⟨p2, rfl, e4, hp2⟩⟩, ?_⟩
      rintro _ H4 ⟨p2, rfl, e4, hp2⟩
      rw [← natI_iv] at hp2
      refine ⟨_, rfl, R, iv row, rfl, .inl (SqL.of (e4 _ _ (e23 _ _ hR1))), fun q2 H5 e5 hq2 => ?_⟩
      rw [← natI_iv] at hq2
      have e := e23.trans (e4.trans e5)
      refine ⟨p2, q2, _, _, rfl, rfl, sqT_same e5 hp2, hq2, ?_⟩
      rw [decide_eq_true rfl]
      exact ⟨_, rfl, iteF ⟨_, _, _, rfl, g1.same e, e _ _ hR1, e _ _ hW1, Wb⟩⟩
    clear hR1 g1 hW1 Wb
    rintro σ' H1 ⟨z9, z10, z11, rfl, g1, hR1, hW1, Wb⟩
    have flat3 : ∀ {s1 : Str} {i : Int} {b1 : Bool}, ∀ v ∈ [V.str s1, .int i, .bl b1], flatB v = true ∨ ∃ c, v = .ref c := fun v hv => by
      simp only [List.mem_cons, List.not_mem_nil, or_false] at hv
      rcases hv with rfl | rfl | rfl <;> exact .inl rfl
    obtain ⟨t1, hb1⟩ := g1.box
    refine ⟨_, rfl, _, rfl, W, _, rfl, .inl (SqL.of hW1), _, _, rfl, rfl, b, t1, _, rfl, hb1, by rw [List.length_map]; omega, by rw [List.length_map]; omega, fun at0 H2 a0 a1 m2 => ?_⟩
    rw [List.length_map, lnum] at a1
    obtain ⟨j, rfl⟩ : ∃ j : Nat, at0 = (j : Int) := ⟨at0.toNat, by omega⟩
    have hj : j ≤ row.length := by omega
    obtain ⟨t2, hb2⟩ := m2.2
    have g2 := g1.mv m2
    have F2 := g2.lst Fb hF
    have hR2 := m2.1 _ _ Rb hR1
    have hW2 := m2.1 _ _ Wb hW1
    let WO : L2.St → Hp → Prop := fun σ' H' => ∃ odd : Str, odd ∈ oddsR ts.length ∧ WR W (some (.int (j : Int))) (some (.str odd)) σ' H'
    refine ⟨WO, ?_, ?_⟩
    · refine ⟨_, rfl, _, rfl, Fa, ps, rfl, .inl (SqL.of F2), _, rfl, log_ok (n := ps.length) (by omega), ?_⟩
      refine ⟨(by show 8 ≤ sizeLine; decide), fun l hl => ?_⟩
      have e3 := same_new (o := HO.lst ((oddsR ps.length).map V.str)) hl
      have u3 : L2.upd H2 l (HO.lst ((oddsR ps.length).map V.str)) l = some (HO.lst ((oddsR ps.length).map V.str)) := upd_same
      have lb : l ≠ b := fun z => by rw [z, hb2] at hl; cases hl
      refine ⟨b, l, t2, (oddsR ps.length).map V.str, rfl, e3 _ _ hb2, lb, SqL.of u3, (by show 0 < 8; decide), (by show 8 < 1073741824; decide), fun x H4 hx m4 => ?_⟩
      obtain ⟨odd, ho, rfl⟩ := List.mem_map.mp hx
      exact ⟨odd, by rw [← lps]; exact ho, _, _, _, rfl, (g2.same e3).mv m4, m4.1 _ _ Rb (e3 _ _ hR2), m4.1 _ _ Wb (e3 _ _ hW2), Wb⟩
    clear hR1 g1 hW1 hR2 hW2 g2 F2 hb2 hb1
    rintro σ' H1 ⟨odd, ho, w9, w10, w11, rfl, g1, hR1, hW1, Wb⟩
    have wod := odd_word (by omega : ts.length < 10 ^ 40) ho
    let BW : List Str := (nums row).take j ++ [odd] ++ (nums row).drop j ++ [Str.ofString "?"]
    have lBW : BW.length = row.length + 2 := by
      show ((nums row).take j ++ [odd] ++ (nums row).drop j ++ [Str.ofString "?"]).length = _
      simp only [List.length_append, List.length_take, List.length_drop, List.length_singleton, lnum]
      omega
    have wBW : ∀ w ∈ BW, Word w := wd_app (wd_app (wd_app (fun w hw => words_nums r40 w (List.mem_of_mem_take hw)) (wd_one wod)) fun w hw => words_nums r40 w (List.mem_of_mem_drop hw)) (wd_one (word_ "?"))
    refine ⟨WO, ?_, ?_⟩
    · refine ⟨g1.tabs, fun H5 x5 tb5 => ?_⟩
      have g5 := g1.ext x5 tb5
      have mc5 := g5.mc hb mc
      have hR5 := ext_lst x5 hR1
      have hW5 := ext_lst x5 hW1
      refine ⟨_, rfl, ⟨_, rfl⟩, ?_⟩
      refine ⟨_, rfl, _, rfl, _, rfl, W, _, rfl, SqL.of hW5, fun p hp => ?_⟩
      rw [cut_to (by rw [List.length_map]; omega)]
      have e6 := same_new (o := HO.lst (((nums row).map V.str).take j)) hp
      refine ⟨_, rfl, (by show 1 ≤ sizeLine; decide), fun q hq => ?_⟩
      have e7 := same_new (o := HO.lst [V.str odd]) hq
      refine ⟨p, q, _, _, rfl, rfl, e7 _ _ upd_same, upd_same, by rw [List.length_take, List.length_map, sizeLine_eq]; show _ + 1 ≤ _; omega, fun r hr => ?_⟩
      have e8 := same_new (o := HO.lst (((nums row).map V.str).take j ++ [V.str odd])) hr
      have e58 := (e6.trans e7).trans e8
      refine ⟨_, rfl, _, rfl, _, rfl, W, _, rfl, SqL.of (e58 _ _ hW5), fun u hu => ?_⟩
      rw [cut_from (by rw [List.length_map]; omega)]
      have e9 := same_new (o := HO.lst (((nums row).map V.str).drop j)) hu
      refine ⟨r, u, _, _, rfl, rfl, e9 _ _ upd_same, upd_same, by rw [List.length_append, List.length_take, List.length_drop, List.length_map, sizeLine_eq]; show _ + 1 + _ ≤ _; omega, fun v hv => ?_⟩
      have eA := same_new (o := HO.lst (((nums row).map V.str).take j ++ [V.str odd] ++ ((nums row).map V.str).drop j)) hv
      refine ⟨(by show 1 ≤ sizeLine; decide), fun y hy => ?_⟩
      have eB := same_new (o := HO.lst [V.str (Str.ofString "?")]) hy
      refine ⟨v, y, _, _, rfl, rfl, eB _ _ upd_same, upd_same, by rw [List.length_append, List.length_append, List.length_take, List.length_drop, List.length_map, sizeLine_eq]; show _ + 1 + _ + 1 ≤ _; omega, fun z hz => ?_⟩
      have eBW : ((nums row).map V.str).take j ++ [V.str odd] ++ ((nums row).map V.str).drop j ++ [V.str (Str.ofString "?")] = BW.map V.str := by
        show _ = ((nums row).take j ++ [odd] ++ (nums row).drop j ++ [Str.ofString "?"]).map V.str
        simp only [List.map_append, List.map_take, List.map_drop, List.map_cons, List.map_nil]
      rw [eBW]
      have eC := same_new (o := HO.lst (BW.map V.str)) hz
      have e5C := e58.trans (e9.trans (eA.trans (eB.trans eC)))
      refine ⟨_, z, BW, rfl, rfl, .inl (SqL.of upd_same), ?_, ?_⟩
      · have h1 := sum_len (ws := BW) (k := 100) fun w hw => (wBW w hw).2.2
        have h3 : (Str.ofString " ").length = 1 := by decide +kernel
        rw [h3]
        omega
      refine ⟨m, n, ts, _, rfl, mc5.same e5C, .str _, (fun z => absurd rfl (z _)), fun x ex => ?_⟩
      cases ex
      have rb := row_bent rlt (by omega) hj (odd_idx ho)
      have lf := line_fits wBW (by omega)
      refine ⟨BW, rfl, free_of (fun z => by rw [z] at lBW; simp at lBW) wBW, by omega, by rw [sizeLine_eq]; omega, fun z => absurd z no_dash, fun _ => ⟨fun _ => ?_, fun z => absurd (by
        show (rdB ts.length (((nums row).take j ++ [odd] ++ (nums row).drop j ++ [Str.ofString "?"]).take 400)).length < BW.length
        rw [rb, List.length_take]
        omega) z⟩⟩
      have tj : (row.take j).length = j := by rw [List.length_take]; omega
      show Thrown _ _ a.cT "at" (.int ((rdB ts.length (((nums row).take j ++ [odd] ++ (nums row).drop j ++ [Str.ofString "?"]).take 400)).length : Nat))
      rw [rb, tj]
      refine fun d H6 eD hd => ⟨d, _, rfl, rfl, hd, fun p2 H7 eE hp2 => ?_⟩
      refine ⟨_, rfl, (by show 3 ≤ sizeLine; decide), fun w2 hw2 => ?_⟩
      have eF := same_new (o := HO.tup [.str "text", .int (j : Int), .bl true]) hw2
      refine ⟨p2, w2, _, rfl, rfl, sqT_same eF hp2, SqT.of upd_same, flat3, _, rfl, iteF ?_⟩
      have e := e5C.trans (eD.trans (eE.trans eF))
      exact ⟨odd, ho, _, _, _, rfl, g5.same e, e _ _ hR5, e _ _ hW5, Wb⟩
    clear hR1 g1 hW1
    rintro σ' H4 ⟨odd', ho', v9, v10, v11, rfl, g4, hR4, hW4, _⟩
    refine ⟨WO, ?_, ?_⟩
    · refine ⟨(by show 0 ≤ sizeLine; decide), fun l0 hl0 => ?_⟩
      have e3 := same_new (o := HO.lst []) hl0
      have u3 := upd_same (H := H4) (a := l0) (o := HO.lst [])
      generalize L2.upd H4 l0 (HO.lst []) = H3 at *
      refine ⟨(by show 1 ≤ sizeLine; decide), fun l1 hl1 => ?_⟩
      have e4 := same_new (o := HO.lst [V.str (Str.ofString "0")]) hl1
      have u4 := upd_same (H := H3) (a := l1) (o := HO.lst [V.str (Str.ofString "0")])
      have u34 := e4 _ _ u3
      generalize L2.upd H3 l1 (HO.lst [V.str (Str.ofString "0")]) = H5 at *
      refine ⟨(by show 4 ≤ sizeLine; decide), fun tv htv => ⟨tv, rfl, ⟨_, SqT.of upd_same⟩, fun D2 hD2 => ?_⟩⟩
      have e5 := same_new (o := HO.tup [.non, .int 0, .ref l0, .ref l1]) htv
      have u5 : SqT K (L2.upd H5 tv (HO.tup [.non, .int 0, .ref l0, .ref l1])) tv [.non, .int 0, .ref l0, .ref l1] := SqT.of upd_same
      have u45 := e5 _ _ u4
      have u35 := e5 _ _ u34
      generalize L2.upd H5 tv (HO.tup [.non, .int 0, .ref l0, .ref l1]) = H6 at *
      have e6 := same_new (o := HO.lst []) hD2
      have u6 : L2.upd H6 D2 (HO.lst []) D2 = some (HO.lst []) := upd_same
      have tv6 := sqT_same e6 u5
      have e46 := (e3.trans e4).trans (e5.trans e6)
      refine lc_tup (xs := [.non, .int 0, .ref l0, .ref l1]) (fun i H' => LamX.ExtN (L2.upd H6 D2 (HO.lst [])) H' ∧ LamX.Tabs Ts H') ⟨.refl _, g4.tabs.ext e46⟩ (fun i H' _ z => ext_sqT z.1 tv6) ?_ ?_
      · rintro i y H7 hy ⟨x7, tb7⟩
        have hy := List.mem_of_getElem? hy
        refine ⟨rfl, ?_⟩
        refine ⟨tb7, fun H8 x8 tb8 => ?_⟩
        have mc8 := ((g4.same e46).ext (x7.trans x8) tb8).mc hb mc
        have ky : Kn K H8 y ∧ ∀ x, y ≠ .str x := by
          simp only [List.mem_cons, List.not_mem_nil, or_false] at hy
          rcases hy with rfl | rfl | rfl | rfl
          · exact ⟨.non, fun _ z => nomatch z⟩
          · exact ⟨.int 0, fun _ z => nomatch z⟩
          · exact ⟨.seq (.inl (SqL.of (ext_lst (x7.trans x8) (e6 _ _ u35)))), fun _ z => nomatch z⟩
          · exact ⟨.seq (.inl (SqL.of (ext_lst (x7.trans x8) (e6 _ _ u45)))), fun _ z => nomatch z⟩
        refine ⟨_, rfl, _, rfl, m, n, ts, y, rfl, mc8, ky.1, fun _ => ?_, fun x ex => absurd ex (ky.2 x)⟩
        refine fun d HC eC hd => ⟨d, _, rfl, rfl, hd, fun p2 HD eD hp2 => ?_⟩
        refine ⟨(by show 3 ≤ sizeLine; decide), fun w2 hw2 => ?_⟩
        have eE := same_new (o := HO.tup [.str "text", .int 0, .bl true]) hw2
        refine ⟨p2, w2, _, rfl, rfl, sqT_same eE hp2, SqT.of upd_same, flat3, _, rfl, iteF ?_⟩
        have e9B := eC.trans (eD.trans eE)
        exact ⟨(x7.trans x8).trans (ext_of e9B), tb8.ext e9B⟩
      · rintro H7 ⟨x7, tb7⟩
        refine ⟨(by show 0 ≤ sizeLine; decide), fun l2 hl2 => ?_⟩
        have e8 := same_new (o := HO.lst []) hl2
        refine ⟨_, _, .lst (SqL.of (e8 _ _ (x7 _ _ u6 (fun _ z => nomatch z)))) .nil, .lst (SqL.of upd_same) .nil, shaped_nil, shaped_nil, ?_⟩
        refine ⟨_, rfl, ?_⟩
        have ev : PyData.eqv (.list []) (.list []) = true := by simp only [PyData.eqv, PyData.eqvAll]
        rw [ev]
        exact iteF ⟨odd', ho', _, _, _, rfl, ((g4.same e46).ext x7 tb7).same e8, e8 _ _ (ext_lst x7 (e46 _ _ hR4)), e8 _ _ (ext_lst x7 (e46 _ _ hW4)), Wb⟩
    clear g4 hR4 hW4
    rintro σ' H4 ⟨odd2, ho2, q9, q10, q11, rfl, g4, hR4, hW4, _⟩
    have F4 := g4.lst Fb hF
    refine ⟨_, rfl, _, rfl, _, rfl, Fa, ps, rfl, .inl (SqL.of F4), (by show 1 ≤ sizeLine; decide), fun q hq => ?_⟩
    have e5 := same_new (o := HO.lst [V.int (ps.length : Nat)]) hq
    refine ⟨R, q, _, _, rfl, rfl, e5 _ _ hR4, upd_same, by rw [iv_len, sizeLine_eq]; show _ + 1 ≤ _; omega, fun r hr => ?_⟩
    have e6 := same_new (o := HO.lst (iv row ++ [V.int (ps.length : Nat)])) hr
    have e46 := e5.trans e6
    have rm := rowAt_more rlt (by omega : row.length ≤ 300)
    rw [← lps] at rm
    refine ⟨m, n, ts, _, some (iv row ++ [V.int (ps.length : Nat)]), rfl, (g4.mc hb mc).same e46, .seq (.inl (SqL.of upd_same)), fun xs z _ x hx => ?_, fun i z => ?_, fun z => ?_⟩
    · cases z
      rcases List.mem_append.mp hx with h | h
      · exact kns_iv _ rfl (by rw [iv_len]; exact Nat.le_refl _) x h
      · rw [List.mem_singleton.mp h]
        exact .int _
    · rw [← lps, rm] at z
      cases z
      refine fun d H7 e7 hd => ⟨true, DR.m_, fun _ x hx => ?_, fun z => nomatch z⟩
      refine ⟨_, rfl, rfl, rfl, d, _, _, rfl, hd, rfl, ?_⟩
      refine ⟨_, rfl, R, _, rfl, .inl (SqL.of (e7 _ _ (e46 _ _ hR4))), rfl, ?_⟩
      rw [iv_len, decide_eq_true rfl]
      exact k _ ((g4.same e46).same e7)
    · rw [← lps, rm] at z
      cases z
end
end K4
/-! showings' words, bent -/
namespace K4
open L2 PySem PySem.Spec PyProof.Rows Kx TL
theorem isNum_num (n : Nat) : IsNum (num n) := by
  refine ⟨?_, num_ne n, fun ⟨c, r, e⟩ => ?_⟩
  · rw [tl_num]
    exact numL_digits n
  · rw [tl_num] at e
    exact numL_lead n e
theorem rdV_num (n : Nat) : rdV (num n) = .int (n : Nat) := by
  unfold rdV
  rw [if_pos (isNum_num n), tl_num, numL_val]
theorem vals_nums (ns : List Nat) : valsOf (nums ns) = iv ns := by
  unfold valsOf nums iv
  rw [List.map_map]
  exact List.map_congr_left fun n _ => rdV_num n
theorem rdV_bad {w : Str} {c : Nat} (hc : c ∈ tl w) (h : c < 48 ∨ 57 < c) : rdV w = .non := by
  unfold rdV
  refine if_neg fun z => ?_
  have := z.1 c hc
  omega
theorem rdV_nil : rdV (Str.ofString "") = .non := by
  unfold rdV
  exact if_neg fun z => z.2.1 rfl
theorem rdV_zero (n : Nat) : rdV (Str.ofString "0" ++ num n) = .non := by
  unfold rdV
  refine if_neg fun z => z.2.2 ?_
  rw [tl_append, tl_num, show tl (Str.ofString "0") = [48] from rfl]
  cases h : numL n with
  | nil => exact absurd h (numL_ne n)
  | cons c r => exact ⟨c, r, rfl⟩
theorem canShow_non {r e : Int} : canShow r e .non = false := by
  unfold canShow
  split <;> rfl
/-- some item can't be shown, so one is the first such -/
theorem first_wrong {rs es : List Int} {xs : List V} : ∀ i : Nat, (∃ x, xs[i]? = some x ∧ canShow (rs.getD i 0) (es.getD i 0) x = false) → ∃ j, FirstWrong rs es xs j := by
  intro i
  induction i using Nat.strongRecOn with
  | _ i ih =>
    intro h
    by_cases z : ∃ j, j < i ∧ ∃ x, xs[j]? = some x ∧ canShow (rs.getD j 0) (es.getD j 0) x = false
    · obtain ⟨j, lt, hj⟩ := z
      exact ih j lt hj
    · refine ⟨i, fun j x lt hx => ?_, h⟩
      cases e : canShow (rs.getD j 0) (es.getD j 0) x with
      | true => rfl
      | false => exact absurd ⟨j, lt, x, hx, e⟩ z
/-- words that are read as no showing -/
structure NoS (rs es : List Int) (ws : List Str) : Prop where
  ne : ws ≠ []
  wd : ∀ w ∈ ws, 32 ∉ tl w ∧ w.length ≤ 500
  few : ws.length ≤ 100
  bad : (valsOf ws).length ≠ rs.length ∨ ∃ i, FirstWrong rs es (valsOf ws) i
theorem vals_len {ws : List Str} : (valsOf ws).length = ws.length := List.length_map ..
theorem vals_at {ws : List Str} {i : Nat} {w : Str} (h : ws[i]? = some w) : (valsOf ws)[i]? = some (rdV w) := by
  unfold valsOf
  rw [List.getElem?_map, h]
  rfl
theorem NoS.at_ {rs es : List Int} {ws : List Str} {i : Nat} {w : Str} (ne : ws ≠ []) (wd : ∀ w ∈ ws, 32 ∉ tl w ∧ w.length ≤ 500) (few : ws.length ≤ 100) (h : ws[i]? = some w) (b : canShow (rs.getD i 0) (es.getD i 0) (rdV w) = false) : NoS rs es ws := ⟨ne, wd, few, .inr (first_wrong i ⟨_, vals_at h, b⟩)⟩
theorem NoS.non {rs es : List Int} {ws : List Str} {i : Nat} {w : Str} (ne : ws ≠ []) (wd : ∀ w ∈ ws, 32 ∉ tl w ∧ w.length ≤ 500) (few : ws.length ≤ 100) (h : ws[i]? = some w) (b : rdV w = .non) : NoS rs es ws := .at_ ne wd few h (by rw [b]; exact canShow_non)
theorem NoS.len {rs es : List Int} {ws : List Str} (ne : ws ≠ []) (wd : ∀ w ∈ ws, 32 ∉ tl w ∧ w.length ≤ 500) (few : ws.length ≤ 100) (h : ws.length ≠ rs.length) : NoS rs es ws := ⟨ne, wd, few, .inl (by rw [vals_len]; exact h)⟩
theorem NoS.fits {rs es : List Int} {ws : List Str} (h : NoS rs es ws) : Free ws ∧ ws.length ≤ 10000 ∧ (line ws).length + 2 ≤ sizeLine ∧ ∀ z ∈ ws, z.length ≤ 500 := by
  have l := line_len (ws := ws) (k := 500) fun w hw => (h.wd w hw).2
  have few := h.few
  exact ⟨⟨h.ne, fun w hw => (h.wd w hw).1⟩, by omega, by rw [sizeLine_eq]; omega, fun z hz => (h.wd z hz).2⟩
/-- a text that tells no showing -/
def NoT (rs es : List Int) (z : Str) : Prop := ∃ ws, z = line ws ∧ NoS rs es ws
/-- numbers that are a showing -/
structure SOk (rs es : List Int) (ns : List Nat) : Prop where
  l1 : 1 ≤ rs.length
  l4 : rs.length ≤ 4
  len : ns.length = rs.length
  lt : ∀ n ∈ ns, n < 10 ^ 12
  all : AllShow rs es (iv ns)
section
variable {rs es : List Int} {ns : List Nat}
theorem SOk.ne (h : SOk rs es ns) : ns ≠ [] := fun z => by
  have := h.len
  have := h.l1
  rw [z] at *
  simp at *
  omega
theorem SOk.lt40 (h : SOk rs es ns) : ∀ n ∈ ns, n < 10 ^ 40 := fun n hn => Nat.lt_trans (h.lt n hn) (by decide)
theorem SOk.txt (h : SOk rs es ns) : rowText ns = line (nums ns) := if_neg h.ne
theorem SOk.wd (h : SOk rs es ns) : ∀ w ∈ nums ns, 32 ∉ tl w ∧ w.length ≤ 500 := fun w hw => by
  have := words_nums h.lt40 w hw
  exact ⟨this.1, Nat.le_trans this.2.2 (by decide)⟩
theorem nlen : (nums ns).length = ns.length := by unfold nums; rw [List.length_map]
theorem w500 {v : Str} (h : 32 ∉ tl v) (l : v.length ≤ 500) : ∀ w ∈ [v], 32 ∉ tl w ∧ w.length ≤ 500 := fun w hw => by
  rw [List.mem_singleton.mp hw]
  exact ⟨h, l⟩
theorem w_app {A B : List Str} (h1 : ∀ w ∈ A, 32 ∉ tl w ∧ w.length ≤ 500) (h2 : ∀ w ∈ B, 32 ∉ tl w ∧ w.length ≤ 500) : ∀ w ∈ A ++ B, 32 ∉ tl w ∧ w.length ≤ 500 := fun w hw => (List.mem_append.mp hw).elim (h1 w) (h2 w)
theorem app32 {a b : Str} (h1 : 32 ∉ tl a) (h2 : 32 ∉ tl b) : 32 ∉ tl (a ++ b) := by
  rw [tl_append]
  exact fun m => (List.mem_append.mp m).elim h1 h2
def nineOf (x : Str) : List Str := [Str.ofString "", Str.ofString "-", x ++ Str.ofString " ", Str.ofString " " ++ x, x ++ Str.ofString " 0", Str.ofString "0" ++ x, x ++ Str.ofString "?", Str.ofString "-1" ++ x, Txt.replace x (Str.ofString " ") (Str.ofString ",") ++ Str.ofString ","]
theorem nine_ok (h : SOk rs es ns) : ∀ z ∈ nineOf (rowText ns), NoT rs es z := by
  have ne := h.ne
  have l1 := h.l1
  have l4 := h.l4
  have len := h.len
  have wd := h.wd
  have nn : nums ns ≠ [] := nums_ne ne
  have nl : (nums ns).length = ns.length := nlen
  intro z hz
  unfold nineOf at hz
  rw [h.txt] at hz
  simp only [List.mem_cons, List.not_mem_nil, or_false] at hz
  obtain ⟨n0, r0, rfl⟩ : ∃ n0 r0, ns = n0 :: r0 := by
    cases ns with
    | nil => exact absurd rfl ne
    | cons a r => exact ⟨a, r, rfl⟩
  have ln0 : (num n0).length ≤ 40 := num_len (h.lt40 n0 (List.mem_cons_self ..))
  have ahead : ∀ p : Str, p ++ line (nums (n0 :: r0)) = line ((p ++ num n0) :: nums r0) := fun p => by
    by_cases hr : nums r0 = []
    · show p ++ line (num n0 :: nums r0) = _
      rw [hr, line_one, line_one]
    · show p ++ line (num n0 :: nums r0) = _
      rw [line_cons hr, line_cons hr, sapp_assoc, sapp_assoc, sapp_assoc]
  have wr : ∀ w ∈ nums r0, 32 ∉ tl w ∧ w.length ≤ 500 := fun w hw => wd w (List.mem_cons_of_mem _ hw)
  have lr : (nums r0).length ≤ 3 := by
    have : (num n0 :: nums r0).length = (n0 :: r0).length := nl
    rw [List.length_cons] at this
    omega
  rcases hz with rfl | rfl | rfl | rfl | rfl | rfl | rfl | rfl | rfl
  · exact ⟨_, bend_none, .non (i := 0) (by simp) (w500 (by decide +kernel) (by decide +kernel)) (by simp) rfl rdV_nil⟩
  · exact ⟨[Str.ofString "-"], line_one.symm, .non (i := 0) (by simp) (w500 (by decide +kernel) (by decide +kernel)) (by simp) rfl (rdV_bad (c := 45) (by decide +kernel) (by decide))⟩
  · exact ⟨_, bend_behind nn, .len (by simp) (w_app wd (w500 (by decide +kernel) (by decide +kernel))) (by rw [List.length_append, List.length_singleton]; omega) (by rw [List.length_append, List.length_singleton]; omega)⟩
  · exact ⟨_, bend_ahead nn, .len (by simp) (w_app (A := [Str.ofString ""]) (w500 (by decide +kernel) (by decide +kernel)) wd) (by rw [List.length_cons]; omega) (by rw [List.length_cons]; omega)⟩
  · refine ⟨nums (n0 :: r0) ++ [Str.ofString "0"], ?_, .len (by simp) (w_app wd (w500 (by decide +kernel) (by decide +kernel))) (by rw [List.length_append, List.length_singleton]; omega) (by rw [List.length_append, List.length_singleton]; omega)⟩
    rw [line_snoc nn, sapp_assoc]
    rfl
  · refine ⟨_, ahead _, .non (i := 0) (by simp) (w_app (A := [_]) (w500 (app32 (by decide +kernel) (num_free (by decide))) ?_) wr) (by rw [List.length_cons]; omega) rfl (rdV_zero n0)⟩
    rw [append_len, show (Str.ofString "0").length = 1 by decide +kernel]
    omega
  · obtain ⟨I, k, eW, hk⟩ := last_nums ne h.lt40
    have lk := num_len hk
    rw [eW, bend_last]
    have wI : ∀ w ∈ I, 32 ∉ tl w ∧ w.length ≤ 500 := fun w hw => wd w (by rw [eW]; exact List.mem_append_left _ hw)
    have lI : I.length ≤ 10 := by
      have := congrArg List.length eW
      rw [List.length_append] at this
      omega
    refine ⟨_, rfl, .non (i := I.length) (by simp) (w_app wI (w500 (app32 (num_free (by decide)) (by decide +kernel)) ?_)) (by rw [List.length_append, List.length_singleton]; omega) (by rw [List.getElem?_append_right (Nat.le_refl _), Nat.sub_self]; rfl) (rdV_bad (c := 63) (by rw [tl_append]; exact List.mem_append_right _ (by decide +kernel)) (by decide))⟩
    rw [append_len, show (Str.ofString "?").length = 1 by decide +kernel]
    omega
  · refine ⟨_, ahead _, .non (i := 0) (by simp) (w_app (A := [_]) (w500 (app32 (by decide +kernel) (num_free (by decide))) ?_) wr) (by rw [List.length_cons]; omega) rfl (rdV_bad (c := 45) (by rw [tl_append]; exact List.mem_append_left _ (by decide +kernel)) (by decide))⟩
    rw [append_len, show (Str.ofString "-1").length = 2 by decide +kernel]
    omega
  · refine ⟨_, line_one.symm, .non (i := 0) (by simp) (w500 (app32 replace_free (by decide +kernel)) ?_) (by simp) rfl (rdV_bad (c := 44) (by rw [tl_append]; exact List.mem_append_right _ (by decide +kernel)) (by decide))⟩
    have l5 := line_len (ws := nums (n0 :: r0)) (k := 40) fun w hw => nums_len h.lt40 w hw
    have l6 := TK.replace_len (line (nums (n0 :: r0))) (Str.ofString " ") (Str.ofString ",")
    rw [show (Str.ofString ",").length = 1 by decide +kernel] at l6
    rw [append_len, show (Str.ofString ",").length = 1 by decide +kernel]
    omega
theorem far_ok (h : SOk rs es ns) {i : Nat} {v : Nat} (hi : i < rs.length) (hv : v < 10 ^ 12) (b : canShow (rs.getD i 0) (es.getD i 0) (.int (v : Nat)) = false) : NoT rs es (rowText (ns.set i v)) := by
  have l : (ns.set i v).length = ns.length := List.length_set ..
  have len := h.len
  have l4 := h.l4
  have l1 := h.l1
  have ne : ns.set i v ≠ [] := fun z => by
    rw [z] at l
    simp at l
    omega
  have lt : ∀ n ∈ ns.set i v, n < 10 ^ 40 := fun n hn => by
    rcases List.mem_or_eq_of_mem_set hn with h1 | rfl
    · exact h.lt40 n h1
    · exact Nat.lt_trans hv (by decide)
  refine ⟨nums (ns.set i v), if_neg ne, .at_ (i := i) (w := num v) (nums_ne ne) (fun w hw => ?_) (by rw [nlen, l]; omega) ?_ (by rw [rdV_num]; exact b)⟩
  · have := words_nums lt w hw
    exact ⟨this.1, Nat.le_trans this.2.2 (by decide)⟩
  · unfold nums
    rw [List.getElem?_map, List.getElem?_set_self (by omega)]
    rfl
end
end K4
/-! showings' texts, as the law asks them -/
namespace K4
open L2 PySem PySem.Spec PyProof.Rows Kx TL CwR RZ
/-- t[lo:hi] -/
def rCut (K : PySem.W.Frag) : V → Option Int → Option Int → Hp → VK → Prop := fun x lo hi H Q => ∃ a xs, x = .ref a ∧ SqT K H a xs ∧ ∀ p H', Same H H' → SqT K H' p (cutV xs lo hi) → Q (.ref p) H'
theorem sl_cut {X : Cx} {K : PySem.W.Frag} (hK : X.K = K := by rfl) : SlR X (rCut K) := by
  subst hK
  intro pins s σ H x v vl vu lo hi sl Q I rx hs pl pu ⟨a, xs, e, h, q⟩
  refine sl_tupA pins s σ H x v vl vu lo hi sl Q I rx hs pl pu ⟨a, xs, e, h, fun ⟨z1, z2⟩ => q a H (Same.refl H) ?_, fun _ p hp => q p _ (same_new hp) (SqT.of upd_same)⟩
  unfold cutV
  rw [z1, z2, List.drop_zero, Nat.sub_zero, List.take_length]
  exact h
def spShowR (K : PySem.W.Frag) (C : Addr) (Ts : List (Addr × Str)) : Sp := fun vs H Q _ => ∃ (b c p q : Addr) (t : Int × Int × Int) (rs es : List Int),
  vs = [.ref b, .ref c, .ref p, .ref q] ∧ H b = some (bx t) ∧ CnAt K C H c rs es ∧ SqT K H p (rs.map V.int) ∧ SqT K H q (es.map V.int) ∧ LamX.Tabs Ts H ∧ ∀ H', Go Ts b H H' → Q (.bl true) H'
abbrev sgS (b c p q : Addr) (x4 x5 x6 x7 x8 x9 x10 x11 : Option V) : L2.St := [some (.ref b), some (.ref c), some (.ref p), some (.ref q), x4, x5, x6, x7, x8, x9, x10, x11]
section
variable {P : Program} {w : World} {K : PySem.W.Frag} {mg : Str → Option Value} {base : Heap} {f : Addr} {fd : FuncData} {a : Ad} {C CM cW : Addr} {Ts : List (Addr × Str)} {g cc Pt : Addr} {fdg : FuncData}
structure FnS (P : Program) (w : World) (K : PySem.W.Frag) (mg : Str → Option Value) (base : Heap) (a : Ad) (C : Addr) : Prop where
  take : Cal P w K mg base CX0 1 "_law_take" ["box", "many"] spTake
  words : Cal P w K mg base CX0 1 "_law_words" ["numbers"] (spWords K)
  txt : Cal P w K mg base (L2.CX P w) 6 "showing_text" ["counters", "showing"] (spStext K a C)
  txtK : CalN P w K mg base (L2.CX P w) 6 0 "showing_text" ["counters", "showing"] ["showing", "counters"] kw2 (spStext K a C)
  rd : Cal P w K mg base (L2.CX P w) 6 "read_showing" ["counters", "text"] (spRdS K a C)
  rdK : CalN P w K mg base (L2.CX P w) 6 0 "read_showing" ["counters", "text"] ["text", "counters"] kw2 (spRdS K a C)
theorem sc_show : FnScope ["box", "counters", "rounds", "rests", "showing", "text", "none", "at", "e", "turn", "rest", "value"] ["box", "counters", "rounds", "rests"] (defScope s_law_showing_right) := ⟨rfl, rfl, rfl, by decide +kernel, rfl, by decide +kernel, by decide +kernel⟩
abbrev XS (P : Program) (w : World) (K : PySem.W.Frag) (mg : Str → Option Value) (base : Heap) (f cc : Addr) (A : Around) (outer : List Env) (s : Shared) (H : Hp) (E : XK) : Cx := (cxOf CX0 P w K mg base ["box", "counters", "rounds", "rests", "showing", "text", "none", "at", "e", "turn", "rest", "value"] "_law_showing_right" (defScope s_law_showing_right) f (.ref cc) A outer s H E).nox
theorem ok_show (F : FnP K "_law_showing_right" s_law_showing_right f fd) (hcode : fd.code = .ref cc) (FH : FnP K "_law_reads" s_law_reads g fdg) (gH : mg "_law_reads" = some (.ref g)) (bH : Binds K fdg ["work"] []) (T : Mg mg) (D : Hd K mg a cW) (DS : HdX K mg a.cS "BadShowing") (TB : LamX.TabB base mg cc Pt)
    (mem : (Pt, (Str.ofString "_law_showing_right" ++ ".<locals>.") ++ "<lambda>") ∈ Ts) (only : ∀ p ∈ Ts, p.1 = Pt → p.2 = (Str.ofString "_law_showing_right" ++ ".<locals>.") ++ "<lambda>") (B : FnS P w K mg base a C) : FnG P w K mg base CX0 11 f fd ["box", "counters", "rounds", "rests"] (spShowR K C Ts) := by
  refine okGc F hcode sc_show (fun vs H Q E h => ?_) (fun A0 o0 s0 H vs Q E0 lone hr h => ?_)
  · obtain ⟨b, c, p, q, t, rs, es, rfl, _⟩ := h
    rfl
  · obtain ⟨b, c, p, q, t, rs, es, rfl, hb, cn, hp0, hq0, tabs, k⟩ := h
    have cs : CallR (XS P w K mg base f cc A0 o0 s0 H E0) (.builtin "repr") (rShow K) := call_show lone (r64 hr)
    have hf : HF (XS P w K mg base f cc A0 o0 s0 H E0) a cW Ts g fdg cc Pt s_law_showing_right := ⟨FH, gH, bH, T, D, TB, rfl, rfl, mem, only⟩
    refine ⟨_, PSs.nox (pss_cons (ps_mid (ps_set (i := 4) sc_show.nd rfl (by first | exact Or.inl rfl | exact Or.inr rfl) (pe_callTy call_tup (by rfl) T.z_tuple bt_tuple (pa_cons (pe_lc (own := [("turn", 9), ("rest", 10)]) (g := gTup K 2 (gCons (gName 9) (gCons (gName 10) gNil))) (by rfl) sc_show.nd (pi_zipA (by rfl) T.z_zip (pa_cons (pv 2) (pa_cons (pv 3) pa_nil))) (blkOk_by (own := [("turn", 9), ("rest", 10)]) (N := ["box", "counters", "rounds", "rests", "showing", "text", "none", "at", "e", "turn", "rest", "value"]) (sc := defScope s_law_showing_right) (by decide +kernel)) (fun _ _ _ _ _ => pg_tup rfl (pgs_cons (pg_name (i := 9) sc_show.nd rfl (by first | exact Or.inl rfl | exact Or.inr rfl)) (pgs_cons (pg_name (i := 10) sc_show.nd rfl (by first | exact Or.inl rfl | exact Or.inr rfl)) pgs_nil))) (fun _ _ _ _ _ => pts_nil) (fun _ _ _ _ _ => pe_ifExp (pt_cmpR op_eq (pv 9) pe_int (nomark _)) (pe_callC B.take hr pass0 (pa_cons (pv 0) (pa_cons (pe_op op_pow pe_int pe_int) pa_nil))) (pe_callC B.take hr pass0 (pa_cons (pv 0) (pa_cons (pe_op op_add (pv 10) (pv 9)) pa_nil))))) pa_nil))))
      (pss_cons (ps_mid (ps_set (i := 5) sc_show.nd rfl (by first | exact Or.inl rfl | exact Or.inr rfl) (pe_callC B.words hr pass0 (pa_cons (pv 4) pa_nil))))
      (pss_cons (ps_mid (ps_if (pt_cmpR op_ne (pe_callB cs (by rfl) T.z_repr (by decide +kernel) (pa_cons (pe_lst (pa_cons (pe_mid (pe_callC B.txt hr pz (pa_cons (pv 1) (pa_cons (pv 4) pa_nil)))) (pa_cons (pe_mid (pe_callN0 B.txtK hr pz (pk_cons (pe_callTy call_list_of (by rfl) T.z_list bt_list (pa_cons (pv 4) pa_nil)) (pk_cons (pv 1) pk_nil)))) pa_nil))) pa_nil)) (pe_callB cs (by rfl) T.z_repr (by decide +kernel) (pa_cons (pe_op op_rep (pe_lst (pa_cons (pv 5) pa_nil)) pe_int) pa_nil)) (nomark _))
        (pss_one (ps_ret pe_bl))
        pss_nil))
      (pss_cons (ps_mid (ps_if (PW.pt (pw_or (pt_cmpR op_ne (pe_callB cs (by rfl) T.z_repr (by decide +kernel) (pa_cons (pe_mid (pe_callC B.rd hr pz (pa_cons (pv 1) (pa_cons (pv 5) pa_nil)))) pa_nil)) (pe_callB cs (by rfl) T.z_repr (by decide +kernel) (pa_cons (pv 4) pa_nil)) (nomark _)) (pw_or1 (pt_cmpR (op_neNums (r64 hr)) (pe_mid (pe_callN0 B.rdK hr pz (pk_cons (pv 5) (pk_cons (pv 1) pk_nil)))) (pv 4) (nomark _)))))
        (pss_one (ps_ret pe_bl))
        pss_nil))
      (pss_cons (ps_mid (ps_set (i := 6) sc_show.nd rfl (by first | exact Or.inl rfl | exact Or.inr rfl) (pe_lst (pa_consT pet_lit (pat_cons (PET.of pe_str) (pat_cons (PET.of (pe_op op_add_str (pv 5) pe_str)) (pat_cons (PET.of (pe_op op_add_str pe_str (pv 5))) (pat_cons (PET.of (pe_op op_add_str (pv 5) pe_str)) (pat_cons (PET.of (pe_op op_add_str pe_str (pv 5))) (pat_cons (PET.of (pe_op op_add_str (pv 5) pe_str)) (pat_cons (PET.of (pe_op op_add_str pe_str (pv 5))) (pat_cons (pet_op op_add_str (pet_replC (pv 5)) (PET.of pe_str)) pat_nil))))))))))))
      (pss_cons (ps_set (i := 7) sc_show.nd rfl (by first | exact Or.inl rfl | exact Or.inr rfl) (pe_callC B.take hr pass0 (pa_cons (pv 0) (pa_cons (pe_callB call_len_seq (by rfl) T.z_len PySem.boot_len (pa_cons (pv 2) pa_nil)) pa_nil))))
      (pss_cons (ps_mid (ps_set (i := 6) sc_show.nd rfl (by first | exact Or.inl rfl | exact Or.inr rfl) (pe_op op_cat (pv 6) (pe_ifExp (pt_cmpR op_gt (pe_ix ix_tup (pv 2) (pv 7) (fun _ _ => rfl)) pe_int (nomark _)) (pe_lst (pa_cons (pe_callC B.words hr pass0 (pa_cons (pe_op (op_catS (K := K)) (pe_op (op_catS (K := K)) (pe_slice (sl_cut (K := K)) (pv 4) po_none (po_some (pv 7))) (pe_tup (pa_cons (pe_op op_add (pe_ix ix_tup (pv 3) (pv 7) (fun _ _ => rfl)) (pe_ix ix_tup (pv 2) (pv 7) (fun _ _ => rfl))) pa_nil))) (pe_slice (sl_cut (K := K)) (pv 4) (po_some (pe_op op_add (pv 7) pe_int)) po_none)) pa_nil)) pa_nil)) (pe_lst pa_nil)))))
      (pss_cons (ps_mid (ps_if (pt_cmpR (op_neD (r64 hr)) (pe_lc (own := [("value", 11)]) (by rfl) sc_show.nd (pi_list (pv 6)) (blkOk_by (own := [("value", 11)]) (N := ["box", "counters", "rounds", "rests", "showing", "text", "none", "at", "e", "turn", "rest", "value"]) (sc := defScope s_law_showing_right) (by decide +kernel)) (fun _ _ _ _ _ => (pg_name (i := 11) sc_show.nd rfl (by first | exact Or.inl rfl | exact Or.inr rfl))) (fun _ _ _ _ _ => (pts_one (pt_cmpR (op_neSameK (K := K) (r64 hr)) (pe_readsB (k := 8) hf hr (fun A1 o1 s1 H1 E1 f1 c1 hr' => pe_callC B.rd hr' passL (pa_cons (pv 1) (pa_cons (pv 11) pa_nil))) (by rfl)) (pe_tup (pa_cons pe_str (pa_cons pe_int (pa_cons pe_bl pa_nil)))) (nomark _)))) (fun _ _ _ _ _ => (pv 11))) (pe_lst pa_nil) (nomark _))
        (pss_one (ps_ret pe_bl))
        pss_nil))
      (pss_cons (ps_mid (ps_if (pt_cmpR (op_neD (r64 hr)) (pe_lc (own := [("value", 11)]) (by rfl) sc_show.nd (pi_tup (pe_tup (pa_cons pe_non (pa_cons pe_int (pa_cons (pe_lst (pa_cons (pv 5) pa_nil)) (pa_cons pe_bl pa_nil)))))) (blkOk_by (own := [("value", 11)]) (N := ["box", "counters", "rounds", "rests", "showing", "text", "none", "at", "e", "turn", "rest", "value"]) (sc := defScope s_law_showing_right) (by decide +kernel)) (fun _ _ _ _ _ => (pg_name (i := 11) sc_show.nd rfl (by first | exact Or.inl rfl | exact Or.inr rfl))) (fun _ _ _ _ _ => (pts_one (pt_cmpR (op_neSameK (K := K) (r64 hr)) (pe_readsB (k := 8) hf hr (fun A1 o1 s1 H1 E1 f1 c1 hr' => pe_callC B.rd hr' passL (pa_cons (pv 1) (pa_cons (pv 11) pa_nil))) (by rfl)) (pe_tup (pa_cons pe_str (pa_cons pe_int (pa_cons pe_bl pa_nil)))) (nomark _)))) (fun _ _ _ _ _ => (pv 11))) (pe_lst pa_nil) (nomark _))
        (pss_one (ps_ret pe_bl))
        pss_nil))
      (pss_cons (ps_tries (W := fun _ _ _ _ => False) rfl rfl LamX.takes0 (fun U pn xe tk own => pss_one (ps_expr (pe_callCS B.txt hr tk (pa_cons (pv 1) (pa_cons (pe_op (op_catS (K := K)) (pv 4) (pe_tup (pa_cons pe_int pa_nil))) pa_nil)))))
        (Clauses.cons (i := 8) sc_show.nd rfl rfl ⟨rfl, by decide, .inl DS.g⟩ (fun x ob cls d pn hz hf => pss_one (ps_ret (pe_cmpR op_eq (pe_xf DS.x_ DS.n_ hz hf (pv 8)) (pe_un un_neg pe_int) (nomark _)))) Clauses.nil))
      (pss_one (ps_ret pe_bl)))))))))))), ?_⟩
    have ok := cn.ok
    have l1 := ok.l1
    have l4 := ok.l4
    have le := ok.le
    have g0 : Go Ts b H H := .refl hb tabs
    refine ⟨fun σ' H' => ∃ (sh : Addr) (ns : List Nat) (x9 x10 : Option V), σ' = sgS b c p q (some (.ref sh)) .none .none .none .none x9 x10 .none ∧ Go Ts b H H' ∧ SqT K H' sh (iv ns) ∧ SOk rs es ns, ?_, ?_⟩
    · refine ⟨_, rfl, _, rfl, p, q, _, _, rfl, .inr ⟨hp0, hq0, fun D0 hD0 => ?_⟩⟩
      have Db : D0 ≠ b := fun z => by rw [z, hb] at hD0; cases hD0
      refine turns (n := rs.length) (fun i H' => ∃ ns : List Nat, H' D0 = some (.lst (iv ns)) ∧ ns.length = i ∧ (∀ (j : Nat) (n : Nat), ns[j]? = some n → n < 10 ^ 12 ∧ canShow (rs.getD j 0) (es.getD j 0) (.int (n : Nat)) = true) ∧ Mv b H H') ⟨[], upd_same, rfl, (fun j n z => by simp at z), (Mv.refl hb).put hD0 Db⟩ ?_ ?_
      · rintro i H2 hi ⟨ns, hD2, l2, ok2, m2⟩
        obtain ⟨a1, a2, r0, r60, e0, e6⟩ := ok.at_ hi
        have b1 : (rs.map V.int)[i]? = some (.int (rs.getD i 0)) := by rw [List.getElem?_map, a1]; rfl
        have b2 : (es.map V.int)[i]? = some (.int (es.getD i 0)) := by rw [List.getElem?_map, a2]; rfl
        have q2 := m2.sqT hb hp0
        have q3 := m2.sqT hb hq0
        refine ⟨⟨_, _, _, _, q2, q3, b1, b2⟩, ?_⟩
        rintro v H3 ⟨tt, x, y, rfl, ht, rfl, hx, hy⟩
        have ex := hx _ q2
        have ey := hy _ q3
        rw [b1] at ex
        rw [b2] at ey
        cases ex
        cases ey
        have m3 := m2.same (same_new (o := HO.tup [V.int (rs.getD i 0), V.int (es.getD i 0)]) ht)
        have hD3 := same_new (o := HO.tup [V.int (rs.getD i 0), V.int (es.getD i 0)]) ht _ _ hD2
        obtain ⟨t3, hb3⟩ := m3.2
        have step : ∀ (x : Nat) (H4 : Hp), x < 10 ^ 12 → canShow (rs.getD i 0) (es.getD i 0) (.int (x : Nat)) = true → Mv b (L2.upd H2 tt (HO.tup [V.int (rs.getD i 0), V.int (es.getD i 0)])) H4 → ∃ acc, H4 D0 = some (.lst acc) ∧ acc.length < sizeLine ∧ ∃ ns : List Nat, L2.upd H4 D0 (.lst (acc ++ [.int (x : Nat)])) D0 = some (.lst (iv ns)) ∧ ns.length = i + 1 ∧ (∀ (j : Nat) (n : Nat), ns[j]? = some n → n < 10 ^ 12 ∧ canShow (rs.getD j 0) (es.getD j 0) (.int (n : Nat)) = true) ∧ Mv b H (L2.upd H4 D0 (.lst (acc ++ [.int (x : Nat)]))) := fun x H4 x1 x2 m4 => by
          refine ⟨_, m4.1 _ _ Db hD3, by rw [iv_len, sizeLine_eq]; omega, ns ++ [x], ?_, by rw [List.length_append, l2]; rfl, fun j n hj => ?_, (m3.trans m4).put hD0 Db⟩
          · rw [upd_same]
            unfold iv
            rw [List.map_append]
            rfl
          · by_cases hjl : j < ns.length
            · rw [List.getElem?_append_left hjl] at hj
              exact ok2 j n hj
            · rw [List.getElem?_append_right (by omega)] at hj
              have hj0 : j - ns.length = 0 := by
                have := (List.getElem?_eq_some_iff.mp hj).1
                simpa using this
              rw [hj0] at hj
              have : x = n := by simpa using hj
              have jj : j = i := by omega
              rw [← this, jj]
              exact ⟨x1, x2⟩
        refine ⟨tt, _, rfl, SqT.of upd_same, rfl, ?_⟩
        refine ⟨_, _, rfl, _, _, rfl, rfl, rfl, yes ((if_pos rfl).mpr ?_)⟩
        refine ⟨_, rfl, rfl, _, rfl, ite2 (fun h => ?_) (fun h => ?_)⟩
        · refine ⟨_, rfl, _, _, rfl, rfl, ⟨by decide, by decide, by decide⟩, b, t3, _, rfl, hb3, by decide, by decide, fun x H4 x0 x1 m4 => ?_⟩
          have x1 : x < 1000000000 := x1
          obtain ⟨x, rfl⟩ : ∃ k : Nat, x = (k : Int) := ⟨x.toNat, by omega⟩
          have hz : rs.getD i 0 = 0 := by simpa using h
          refine step x H4 (by omega) ?_ m4
          unfold canShow
          rw [if_pos hz]
          exact (decide_eq_true (show (0 : Int) ≤ (x : Int) by omega) : decide _ = true)
        · have hz : rs.getD i 0 ≠ 0 := by simpa using h
          refine ⟨_, rfl, _, rfl, _, rfl, _, _, rfl, rfl, b, t3, _, rfl, hb3, by omega, by omega, fun x H4 x0 x1 m4 => ?_⟩
          obtain ⟨x, rfl⟩ : ∃ k : Nat, x = (k : Int) := ⟨x.toNat, by omega⟩
          refine step x H4 (by omega) ?_ m4
          unfold canShow
          rw [if_neg hz]
          show (decide ((0 : Int) ≤ (x : Int)) && decide ((x : Int) < _)) = true
          rw [decide_eq_true x0, decide_eq_true x1]
          rfl
      · rintro H2 ⟨ns, hD2, l2, ok2, m2⟩
        refine ⟨⟨_, _, m2.sqT hb hp0, m2.sqT hb hq0, .inl (by rw [List.length_map]; exact Nat.le_refl _)⟩, D0, _, rfl, .inl (SqL.of hD2), fun sh H3 e3 hsh => ?_⟩
        refine ⟨sh, ns, _, _, rfl, (g0.mv m2).same e3, hsh, l1, l4, l2, fun n hn => ?_, fun j x hx => ?_⟩
        · obtain ⟨j, hj⟩ := List.getElem?_of_mem hn
          exact (ok2 j n hj).1
        · unfold iv at hx
          rw [List.getElem?_map, Option.map_eq_some_iff] at hx
          obtain ⟨n, hn, rfl⟩ := hx
          exact (ok2 j n hn).2
    rintro σ' H1 ⟨sh, ns, x9, x10, rfl, g1, hsh1, so⟩
    have lt40 := so.lt40
    have len := so.len
    have txt := so.txt
    have nn : nums ns ≠ [] := nums_ne so.ne
    have tl_ : (rowText ns).length ≤ 300 := by have := row_len lt40; omega
    have tsg : ∀ c ∈ tl (rowText ns), c < 16 ^ 8 := fun c hc => by have := sign_row c hc; omega
    have noFW : ∀ i, ¬FirstWrong rs es (iv ns) i := fun i ⟨_, x, hx, z⟩ => by rw [so.all i x hx] at z; cases z
    have ask : ∀ {H' : Hp} {v : V} {bb : Addr} {Q : VK} {E : XK}, CnAt K C H' c rs es → v = .ref bb → Sq K H' bb (iv ns) → (∀ H2, Same H' H2 → Q (.str (rowText ns)) H2) → spStext K a C [.ref c, v] H' Q E := fun cn ev hv qq => by
      refine ⟨c, rs, es, _, some (iv ns), rfl, cn, ⟨by rw [ev]; exact .seq hv, fun xs z _ => ?_, fun z => ?_, fun xs i z _ fw => ?_⟩, fun xs z _ _ => ?_⟩
      · cases z
        exact kns_iv (m := (iv ns).length) _ rfl (Nat.le_refl _)
      · rcases z with z | ⟨xs, z, h⟩
        · cases z
        · cases z
          exact absurd (by rw [iv_len]; exact len) h
      · cases z
        exact absurd fw (noFW i)
      · cases z
        refine ⟨ns, rfl, lt40, fun H2 e2 => ?_⟩
        rw [← txt]
        exact qq H2 e2
    have rds : ∀ {H' : Hp} {Q : VK} {E : XK}, CnAt K C H' c rs es → (∀ p H2, Same H' H2 → SqT K H2 p (iv ns) → Q (.ref p) H2) → spRdS K a C [.ref c, .str (rowText ns)] H' Q E := fun cn qq => by
      refine ⟨c, rs, es, _, rfl, cn, .str _, fun z => absurd rfl (z _), fun x ex => ?_⟩
      cases ex
      have wd := words_nums lt40
      have lf := line_fits wd (by rw [nlen]; omega)
      refine ⟨nums ns, txt, free_of nn wd, by rw [nlen]; omega, by rw [sizeLine_eq]; omega, fun z hz => (so.wd z hz).2, fun z => ?_, fun _ _ p H2 e2 hp => ?_⟩
      · rw [vals_nums, iv_len] at z
        rcases z with z | ⟨i, z⟩
        · exact absurd len z
        · exact absurd z (noFW i)
      · rw [vals_nums] at hp
        exact qq p H2 e2 hp
    let NT : Hp → V → Hp → Prop := fun Ha v H' => v = .str (rowText ns) ∧ Same Ha H'
    let NR : Hp → V → Hp → Prop := fun Ha v H' => ∃ p, v = .ref p ∧ Same Ha H' ∧ SqT K H' p (iv ns)
    let WS : Option V → Option V → L2.St → Hp → Prop := fun x6 x7 σ' H' => ∃ (x9 x10 x11 : Option V), σ' = sgS b c p q (some (.ref sh)) (some (.str (rowText ns))) x6 x7 .none x9 x10 x11 ∧ Go Ts b H H' ∧ SqT K H' sh (iv ns)
    refine ⟨WS .none .none, ?_, ?_⟩
    · refine ⟨_, rfl, sh, ns, rfl, .inr hsh1, lt40, by omega, fun H2 e2 => ⟨_, _, _, rfl, g1.same e2, sqT_same e2 hsh1⟩⟩
    clear g1 hsh1
    rintro σ' H1 ⟨y9, y10, y11, rfl, g1, hsh1⟩
    have o2 : OkD 1 16000 (.list [.str (rowText ns), .str (rowText ns)]) := (okD_list (okA_cons (okD_text tsg (L := 300) (by omega)) (okA_cons (okD_text tsg (L := 300) (by omega)) okA_nil))).mono (Nat.le_refl _) (by decide)
    refine ⟨WS .none .none, ?_, ?_⟩
    · have cn1 := g1.cn hb cn
      refine ⟨NT H1, ⟨_, rfl, _, rfl, ask (Q := NT H1) (E := fun _ _ _ => False) cn1 rfl (.inr hsh1) fun H2 e2 => ⟨rfl, e2⟩⟩, ?_⟩
      rintro _ H2 ⟨rfl, e2⟩
      refine ⟨NT H2, ⟨_, rfl, sh, _, rfl, .inr (sqT_same e2 hsh1), fun l0 hl0 => ⟨_, rfl, rfl, rfl, ask (Q := NT H2) (E := fun _ _ _ => False) ((cn1.same e2).same (same_new hl0)) rfl (.inl (SqL.of upd_same)) fun H4 e4 => ⟨rfl, (same_new hl0).trans e4⟩⟩⟩, ?_⟩
      rintro _ H4 ⟨rfl, e4⟩
      refine ⟨(by show 2 ≤ sizeLine; decide), fun l hl => ?_⟩
      refine ⟨_, _, rfl, .lst (SqL.of upd_same) (.cons (.str _) (.cons (.str _) .nil)), o2.sh, o2.nd, o2.d60, o2.line, ?_⟩
      have e5 := same_new (o := HO.lst [.str (rowText ns), .str (rowText ns)]) hl
      refine ⟨_, rfl, (by show 1 ≤ sizeLine; decide), fun l2 hl2 => ?_⟩
      have e6 := same_new (o := HO.lst [.str (rowText ns)]) hl2
      refine ⟨l2, 2, _, rfl, rfl, upd_same, by decide, by decide, (by show 1 * 2 ≤ sizeLine; decide), fun l3 hl3 => ?_⟩
      have e7 := same_new (o := HO.lst [.str (rowText ns), .str (rowText ns)]) hl3
      refine ⟨_, _, rfl, .lst (SqL.of upd_same) (.cons (.str _) (.cons (.str _) .nil)), o2.sh, o2.nd, o2.d60, o2.line, ?_⟩
      have e := e2.trans (e4.trans (e5.trans (e6.trans e7)))
      refine ⟨rfl, _, rfl, ite2 (fun z => ?_) (fun _ => ?_)⟩
      · simp at z
      · exact ⟨_, _, _, rfl, g1.same e, sqT_same e hsh1⟩
    clear g1 hsh1
    rintro σ' H1 ⟨z9, z10, z11, rfl, g1, hsh1⟩
    have oN : OkD 1 15400 (dNums (natI ns)) := (okD_tuple (m := 0) (L := 1923 * ns.length) (by
      have all : ∀ {l : List Nat}, (∀ n ∈ l, n < 10 ^ 12) → OkA 0 (1923 * l.length) ((natI l).map PyData.int) := by
        intro l
        induction l with
        | nil => exact fun _ => okA_nil
        | cons n r ih => exact fun h => (okA_cons (okD_int (Nat.lt_of_lt_of_le (show ((n : Nat) : Int).natAbs < 10 ^ 12 from h n (List.mem_cons_self ..)) (by decide))) (ih fun x hx => h x (List.mem_cons_of_mem _ hx))).mono (Nat.le_refl _) (by rw [List.length_cons]; omega)
      exact all so.lt)).mono (Nat.le_refl _) (by omega)
    refine ⟨WS .none .none, ?_, ?_⟩
    · have cn1 := g1.cn hb cn
      refine ⟨NR H1, ⟨_, rfl, _, rfl, rds (Q := NR H1) (E := fun _ _ _ => False) cn1 fun p H2 e2 hp => ⟨p, rfl, e2, hp⟩⟩, ?_⟩
      rintro _ H2 ⟨p2, rfl, e2, hp2⟩
      rw [← natI_iv] at hp2
      refine ⟨_, _, rfl, dp_nums hp2, oN.sh, oN.nd, oN.d60, oN.line, ?_⟩
      have hs2 := sqT_same e2 hsh1
      rw [← natI_iv] at hs2
      refine ⟨_, rfl, _, _, rfl, dp_nums hs2, oN.sh, oN.nd, oN.d60, oN.line, ?_⟩
      refine ⟨rfl, _, rfl, ite2 (fun z => ?_) (fun _ => ?_)⟩
      · simp at z
      refine ⟨NR H2, ⟨_, rfl, _, rfl, rfl, rfl, rds (Q := NR H2) (E := fun _ _ _ => False) (cn1.same e2) fun p2 H4 e4 hp2 => ⟨p2, rfl, e4, hp2⟩⟩, ?_⟩
      rintro _ H4 ⟨p4, rfl, e4, hp4⟩
      rw [← natI_iv] at hp4
      have e := e2.trans e4
      refine ⟨_, rfl, p4, sh, _, _, rfl, rfl, hp4, sqT_same e4 hs2, ?_⟩
      rw [decide_eq_true rfl]
      exact ⟨_, rfl, iteF ⟨_, _, _, rfl, g1.same e, sqT_same e hsh1⟩⟩
    clear g1 hsh1
    rintro σ' H1 ⟨z9, z10, z11, rfl, g1, hsh1⟩
    have flat3 : ∀ {s1 : Str} {i : Int} {b1 : Bool}, ∀ v ∈ [V.str s1, .int i, .bl b1], flatB v = true ∨ ∃ c, v = .ref c := fun v hv => by
      simp only [List.mem_cons, List.not_mem_nil, or_false] at hv
      rcases hv with rfl | rfl | rfl <;> exact .inl rfl
    have k1 : (Str.ofString " ").length = 1 := by decide +kernel
    have k2 : (Str.ofString " 0").length = 2 := by decide +kernel
    have k3 : (Str.ofString "0").length = 1 := by decide +kernel
    have k4 : (Str.ofString "?").length = 1 := by decide +kernel
    have k5 : (Str.ofString "-1").length = 2 := by decide +kernel
    have k6 : (Str.ofString ",").length = 1 := by decide +kernel
    have lre := TK.replace_len (rowText ns) (Str.ofString " ") (Str.ofString ",")
    rw [k6] at lre
    refine ⟨fun σ' H' => ∃ N0, WS (some (.ref N0)) .none σ' H' ∧ H' N0 = some (.lst ((nineOf (rowText ns)).map V.str)) ∧ N0 ≠ b, ?_, ?_⟩
    · obtain ⟨t1, hb1⟩ := g1.box
      refine ⟨_, rfl, _, _, rfl, rfl, by rw [k1, sizeLine_eq]; omega, ?_⟩
      refine ⟨_, rfl, _, _, rfl, rfl, by rw [k1, sizeLine_eq]; omega, ?_⟩
      refine ⟨_, rfl, _, _, rfl, rfl, by rw [k2, sizeLine_eq]; omega, ?_⟩
      refine ⟨_, rfl, _, _, rfl, rfl, by rw [k3, sizeLine_eq]; omega, ?_⟩
      refine ⟨_, rfl, _, _, rfl, rfl, by rw [k4, sizeLine_eq]; omega, ?_⟩
      refine ⟨_, rfl, _, _, rfl, rfl, by rw [k5, sizeLine_eq]; omega, ?_⟩
      refine ⟨_, rfl, _, rfl, by rw [k6]; omega, ?_⟩
      refine ⟨_, _, rfl, rfl, by rw [k6, sizeLine_eq]; omega, ?_⟩
      refine ⟨(by show 9 ≤ sizeLine; decide), fun N0 hN0 => ?_⟩
      have e2 := same_new (o := HO.lst ((nineOf (rowText ns)).map V.str)) hN0
      exact ⟨N0, ⟨_, _, _, rfl, g1.same e2, sqT_same e2 hsh1⟩, upd_same, fun z => by rw [z, hb1] at hN0; cases hN0⟩
    clear g1 hsh1
    rintro σ' H1 ⟨N0, ⟨z9, z10, z11, rfl, g1, hsh1⟩, hN1, Nb⟩
    obtain ⟨t1, hb1⟩ := g1.box
    have hp1 := g1.sqT hb hp0
    have hq1 := g1.sqT hb hq0
    refine ⟨_, rfl, _, rfl, p, _, rfl, .inr hp1, b, t1, _, rfl, hb1, by rw [List.length_map]; omega, by rw [List.length_map]; omega, fun at0 H2 a0 a1 m2 => ?_⟩
    rw [List.length_map] at a1
    obtain ⟨i, rfl⟩ : ∃ i : Nat, at0 = (i : Int) := ⟨at0.toNat, by omega⟩
    have hi : i < rs.length := by omega
    obtain ⟨ea1, ea2, r0, r60, e0, e6⟩ := ok.at_ hi
    have b1 : (rs.map V.int)[i]? = some (.int (rs.getD i 0)) := by rw [List.getElem?_map, ea1]; rfl
    have b2 : (es.map V.int)[i]? = some (.int (es.getD i 0)) := by rw [List.getElem?_map, ea2]; rfl
    have g2 := g1.mv m2
    have hs2 := m2.sqT hb1 hsh1
    have hN2 := m2.1 _ _ Nb hN1
    have hp2 := m2.sqT hb1 hp1
    have hq2 := m2.sqT hb1 hq1
    let WZ : L2.St → Hp → Prop := fun σ' H' => ∃ (N1 : Addr) (zs : List Str), WS (some (.ref N1)) (some (.int (i : Int))) σ' H' ∧ SqL K H' N1 (zs.map V.str) ∧ (∀ z ∈ zs, NoT rs es z) ∧ zs.length ≤ 20
    refine ⟨WZ, ?_, ?_⟩
    · refine ⟨_, rfl, ?_⟩
      refine ⟨_, rfl, _, rfl, p, _, _, _, rfl, rfl, hp2, atI_nat b1, _, _, rfl, rfl, _, rfl, ite2 (fun h => ?_) (fun h => ?_)⟩
      · have hr1 : (0 : Int) < rs.getD i 0 := by simpa using h
        refine ⟨_, rfl, _, rfl, _, rfl, sh, _, rfl, hs2, fun u H3 e3 hu => ?_⟩
        rw [cut_to (by rw [iv_len]; omega)] at hu
        refine ⟨_, rfl, _, rfl, q, _, _, _, rfl, rfl, sqT_same e3 hq2, atI_nat b2, ?_⟩
        refine ⟨_, rfl, _, rfl, p, _, _, _, rfl, rfl, sqT_same e3 hp2, atI_nat b1, _, _, rfl, rfl, (by show 1 ≤ sizeLine; decide), fun w1 hw1 => ?_⟩
        have e4 := same_new (o := HO.tup [V.int (es.getD i 0 + rs.getD i 0)]) hw1
        refine ⟨u, w1, _, _, rfl, rfl, sqT_same e4 hu, SqT.of upd_same, by rw [List.length_take, iv_len, sizeLine_eq]; show _ + 1 ≤ _; omega, fun y H5 e5 hy => ?_⟩
        have e35 := (e3.trans e4).trans e5
        refine ⟨_, rfl, _, rfl, _, _, rfl, rfl, _, rfl, sh, _, rfl, sqT_same e35 hs2, fun z0 H6 e6' hz0 => ?_⟩
        have cf : cutV (iv ns) (some ((i : Int) + 1)) none = (iv ns).drop (i + 1) := by
          have := cut_from (xs := iv ns) (i := i + 1) (by rw [iv_len]; omega)
          rw [← this]
          rfl
        rw [cf] at hz0
        refine ⟨y, z0, _, _, rfl, rfl, sqT_same e6' hy, hz0, by rw [List.length_append, List.length_take, List.length_drop, iv_len, sizeLine_eq]; show _ + 1 + _ ≤ _; omega, fun zz H7 e7 hzz => ?_⟩
        obtain ⟨vv, hvv⟩ : ∃ vv : Nat, es.getD i 0 + rs.getD i 0 = (vv : Int) := ⟨(es.getD i 0 + rs.getD i 0).toNat, by omega⟩
        have elist : (iv ns).take i ++ [V.int (es.getD i 0 + rs.getD i 0)] ++ (iv ns).drop (i + 1) = iv (ns.set i vv) := by
          rw [hvv, List.set_eq_take_append_cons_drop, if_pos (by omega)]
          unfold iv
          simp [List.map_take, List.map_drop]
        rw [elist] at hzz
        have vlt : vv < 10 ^ 12 := by omega
        have lt2 : ∀ n ∈ ns.set i vv, n < 10 ^ 40 := fun n hn => by
          rcases List.mem_or_eq_of_mem_set hn with h1 | rfl
          · exact lt40 n h1
          · exact Nat.lt_trans vlt (by decide)
        refine ⟨zz, ns.set i vv, rfl, .inr hzz, lt2, by rw [List.length_set]; omega, fun H8 e8 => ?_⟩
        refine ⟨(by show 1 ≤ sizeLine; decide), fun l1' hl1 => ?_⟩
        have e9 := same_new (o := HO.lst [V.str (rowText (ns.set i vv))]) hl1
        have e38 := e35.trans (e6'.trans (e7.trans e8))
        refine ⟨N0, l1', _, _, rfl, rfl, e9 _ _ (e38 _ _ hN2), upd_same, (by show 9 + 1 ≤ sizeLine; decide), fun N1 hN1' => ?_⟩
        have eA := same_new (o := HO.lst ((nineOf (rowText ns)).map V.str ++ [V.str (rowText (ns.set i vv))])) hN1'
        have e := e38.trans (e9.trans eA)
        refine ⟨N1, nineOf (rowText ns) ++ [rowText (ns.set i vv)], ⟨_, _, _, rfl, g2.same e, sqT_same e hs2⟩, SqL.of (by rw [upd_same, List.map_append]; rfl), fun z hz => ?_, (by show 9 + 1 ≤ 20; decide)⟩
        rcases List.mem_append.mp hz with h1 | h1
        · exact nine_ok so z h1
        · rw [List.mem_singleton.mp h1]
          refine far_ok so hi vlt ?_
          unfold canShow
          rw [if_neg (by omega)]
          show (decide ((0 : Int) ≤ (vv : Int)) && decide ((vv : Int) < es.getD i 0 + rs.getD i 0)) = false
          rw [decide_eq_false (p := (vv : Int) < es.getD i 0 + rs.getD i 0) (by omega), Bool.and_false]
      · refine ⟨(by show 0 ≤ sizeLine; decide), fun l1' hl1 => ?_⟩
        have e9 := same_new (o := HO.lst []) hl1
        refine ⟨N0, l1', _, _, rfl, rfl, e9 _ _ hN2, upd_same, (by show 9 + 0 ≤ sizeLine; decide), fun N1 hN1' => ?_⟩
        have eA := same_new (o := HO.lst ((nineOf (rowText ns)).map V.str ++ [])) hN1'
        have e := e9.trans eA
        exact ⟨N1, nineOf (rowText ns), ⟨_, _, _, rfl, g2.same e, sqT_same e hs2⟩, SqL.of (by rw [upd_same, List.append_nil]), nine_ok so, (by show 9 ≤ 20; decide)⟩
    clear hN2 hs2 hp2 hq2 g2 hN1 hb1 hp1 hq1 g1 hsh1 Nb
    rintro σ' H4 ⟨N1, zs, ⟨q9, q10, q11, rfl, g4, hsh4⟩, hN4, nos, zl⟩
    let WY : L2.St → Hp → Prop := fun σ' H' => ∃ (N1 : Addr), WS (some (.ref N1)) (some (.int (i : Int))) σ' H'
    refine ⟨WY, ?_, ?_⟩
    · refine ⟨_, rfl, N1, rfl, ⟨_, hN4⟩, fun D2 hD2 => ?_⟩
      have e6 := same_new (o := HO.lst []) hD2
      have u6 : L2.upd H4 D2 (HO.lst []) D2 = some (HO.lst []) := upd_same
      have hh6 := sqL_same e6 hN4
      refine lc_list (xs := zs.map V.str) (fun i H' => LamX.ExtN (L2.upd H4 D2 (HO.lst [])) H' ∧ LamX.Tabs Ts H') ⟨.refl _, g4.tabs.ext e6⟩ (fun i H' _ z => ext_sqL z.1 hh6) ?_ ?_
      · rintro n y H7 hy ⟨x7, tb7⟩
        obtain ⟨z, hm, rfl⟩ := List.mem_map.mp (List.mem_of_getElem? hy)
        obtain ⟨ws, rfl, ns'⟩ := nos z hm
        obtain ⟨fr, few, fit, w5⟩ := ns'.fits
        refine ⟨rfl, ?_⟩
        refine ⟨tb7, fun H8 x8 tb8 => ?_⟩
        have cn8 := ((g4.same e6).ext (x7.trans x8) tb8).cn hb cn
        refine ⟨_, rfl, _, rfl, c, rs, es, _, rfl, cn8, .str _, (fun z => absurd rfl (z _)), fun x ex => ?_⟩
        cases ex
        refine ⟨ws, rfl, fr, few, fit, w5, fun _ => ?_, fun hl ha => ?_⟩
        · refine fun d HC eC hd => ⟨d, _, rfl, rfl, hd, fun p2 HD eD hp2 => ?_⟩
          refine ⟨(by show 3 ≤ sizeLine; decide), fun w2 hw2 => ?_⟩
          have eE := same_new (o := HO.tup [.str "text", .int 1, .bl true]) hw2
          refine ⟨p2, w2, _, rfl, rfl, sqT_same eE hp2, SqT.of upd_same, flat3, _, rfl, iteF ?_⟩
          have e9B := eC.trans (eD.trans eE)
          exact ⟨(x7.trans x8).trans (ext_of e9B), tb8.ext e9B⟩
        · rcases ns'.bad with h | ⟨i, _, x, hx, h⟩
          · exact absurd hl h
          · rw [ha i x hx] at h
            cases h
      · rintro H7 ⟨x7, tb7⟩
        refine ⟨(by show 0 ≤ sizeLine; decide), fun l2 hl2 => ?_⟩
        have e8 := same_new (o := HO.lst []) hl2
        refine ⟨_, _, .lst (SqL.of (e8 _ _ (x7 _ _ u6 (fun _ z => nomatch z)))) .nil, .lst (SqL.of upd_same) .nil, shaped_nil, shaped_nil, ?_⟩
        refine ⟨_, rfl, ?_⟩
        have ev : PyData.eqv (.list []) (.list []) = true := by simp only [PyData.eqv, PyData.eqvAll]
        rw [ev]
        exact iteF ⟨N1, _, _, _, rfl, ((g4.same e6).ext x7 tb7).same e8, sqT_same e8 (ext_sqT x7 (sqT_same e6 hsh4))⟩
    clear hN4 g4 hsh4
    rintro σ' H4 ⟨N2, q9', q10', q11', rfl, g4, hsh4⟩
    refine ⟨WY, ?_, ?_⟩
    · refine ⟨_, rfl, (by show 1 ≤ sizeLine; decide), fun l1' hl1 => ?_⟩
      have e4 := same_new (o := HO.lst [V.str (rowText ns)]) hl1
      have u4 := upd_same (H := H4) (a := l1') (o := HO.lst [V.str (rowText ns)])
      generalize L2.upd H4 l1' (HO.lst [V.str (rowText ns)]) = H5 at *
      refine ⟨(by show 4 ≤ sizeLine; decide), fun tv htv => ⟨tv, rfl, ⟨_, SqT.of upd_same⟩, fun D2 hD2 => ?_⟩⟩
      have e5 := same_new (o := HO.tup [.non, .int 0, .ref l1', .bl true]) htv
      have u5 : SqT K (L2.upd H5 tv (HO.tup [.non, .int 0, .ref l1', .bl true])) tv [.non, .int 0, .ref l1', .bl true] := SqT.of upd_same
      have u45 := e5 _ _ u4
      generalize L2.upd H5 tv (HO.tup [.non, .int 0, .ref l1', .bl true]) = H6 at *
      have e6 := same_new (o := HO.lst []) hD2
      have u6 : L2.upd H6 D2 (HO.lst []) D2 = some (HO.lst []) := upd_same
      have tv6 := sqT_same e6 u5
      have e46 := (e4.trans e5).trans e6
      refine lc_tup (xs := [.non, .int 0, .ref l1', .bl true]) (fun i H' => LamX.ExtN (L2.upd H6 D2 (HO.lst [])) H' ∧ LamX.Tabs Ts H') ⟨.refl _, g4.tabs.ext e46⟩ (fun i H' _ z => ext_sqT z.1 tv6) ?_ ?_
      · rintro n y H7 hy ⟨x7, tb7⟩
        have hy := List.mem_of_getElem? hy
        refine ⟨rfl, ?_⟩
        refine ⟨tb7, fun H8 x8 tb8 => ?_⟩
        have cn8 := ((g4.same e46).ext (x7.trans x8) tb8).cn hb cn
        have ky : Kn K H8 y ∧ ∀ x, y ≠ .str x := by
          simp only [List.mem_cons, List.not_mem_nil, or_false] at hy
          rcases hy with rfl | rfl | rfl | rfl
          · exact ⟨.non, fun _ z => nomatch z⟩
          · exact ⟨.int 0, fun _ z => nomatch z⟩
          · exact ⟨.seq (.inl (SqL.of (ext_lst (x7.trans x8) (e6 _ _ u45)))), fun _ z => nomatch z⟩
          · exact ⟨.bl true, fun _ z => nomatch z⟩
        refine ⟨_, rfl, _, rfl, c, rs, es, y, rfl, cn8, ky.1, fun _ => ?_, fun x ex => absurd ex (ky.2 x)⟩
        refine fun d HC eC hd => ⟨d, _, rfl, rfl, hd, fun p2 HD eD hp2 => ?_⟩
        refine ⟨(by show 3 ≤ sizeLine; decide), fun w2 hw2 => ?_⟩
        have eE := same_new (o := HO.tup [.str "text", .int 0, .bl true]) hw2
        refine ⟨p2, w2, _, rfl, rfl, sqT_same eE hp2, SqT.of upd_same, flat3, _, rfl, iteF ?_⟩
        have e9B := eC.trans (eD.trans eE)
        exact ⟨(x7.trans x8).trans (ext_of e9B), tb8.ext e9B⟩
      · rintro H7 ⟨x7, tb7⟩
        refine ⟨(by show 0 ≤ sizeLine; decide), fun l2 hl2 => ?_⟩
        have e8 := same_new (o := HO.lst []) hl2
        refine ⟨_, _, .lst (SqL.of (e8 _ _ (x7 _ _ u6 (fun _ z => nomatch z)))) .nil, .lst (SqL.of upd_same) .nil, shaped_nil, shaped_nil, ?_⟩
        refine ⟨_, rfl, ?_⟩
        have ev : PyData.eqv (.list []) (.list []) = true := by simp only [PyData.eqv, PyData.eqvAll]
        rw [ev]
        exact iteF ⟨N2, _, _, _, rfl, ((g4.same e46).ext x7 tb7).same e8, sqT_same e8 (ext_sqT x7 (sqT_same e46 hsh4))⟩
    clear g4 hsh4
    rintro σ' H4 ⟨N3, v9, v10, v11, rfl, g4, hsh4⟩
    refine ⟨_, rfl, _, rfl, (by show 1 ≤ sizeLine; decide), fun w1 hw1 => ?_⟩
    have e5 := same_new (o := HO.tup [V.int 0]) hw1
    refine ⟨sh, w1, _, _, rfl, rfl, sqT_same e5 hsh4, SqT.of upd_same, by rw [iv_len, sizeLine_eq]; show _ + 1 ≤ _; omega, fun y H5 e6 hy => ?_⟩
    have e46 := e5.trans e6
    have lfar : (iv ns ++ [V.int 0]).length ≠ rs.length := by
      rw [List.length_append, iv_len, List.length_singleton]
      omega
    refine ⟨c, rs, es, _, some (iv ns ++ [V.int 0]), rfl, (g4.cn hb cn).same e46, ⟨.seq (.inr hy), fun xs z h => ?_, fun _ => ?_, fun xs i z h _ => ?_⟩, fun xs z h => ?_⟩
    · cases z
      exact absurd h lfar
    · refine fun d H7 e7 hd => ⟨true, DS.m_, fun _ x hx => ?_, fun z => nomatch z⟩
      refine ⟨_, rfl, rfl, rfl, d, _, _, rfl, hd, rfl, ?_⟩
      refine ⟨1, rfl, rfl, ?_⟩
      exact k _ ((g4.same e46).same e7)
    · cases z
      exact absurd h lfar
    · cases z
      exact absurd h lfar
end
end K4
/-! the law's own lines and heads -/
namespace K4
open L2 PySem PySem.Spec PyProof.Rows Kx TL
/-- the look at a text whose first line is not so -/
def hOk (i : Bool) (ms : List (List Str)) (z : Str) : Bool :=
  decide (z = text (ms.map line)) && (!ms.isEmpty && (decide (ms.length ≤ 20) && (ms.all (fun ws => !ws.isEmpty && (decide (ws.length ≤ 1000) && ws.all fun w => decide (32 ∉ tl w) && (decide (10 ∉ tl w) && decide (w.length ≤ 100)))) && decide (badOf i ms = some 1))))
theorem h_of {i : Bool} {ms : List (List Str)} {z : Str} (h : hOk i ms z = true) : ∃ ms, z = text (ms.map line) ∧ Lines ms ∧ badOf i ms = some 1 := by
  unfold hOk at h
  simp only [Bool.and_eq_true, decide_eq_true_eq, Bool.not_eq_true', List.all_eq_true, List.isEmpty_eq_false_iff] at h
  obtain ⟨e, ne, few, all, bad⟩ := h
  exact ⟨ms, e, Lines.of ne (fun ws hw => (all ws hw).1) (fun ws hw w hv => (all ws hw).2.2 w hv) (fun ws hw => (all ws hw).2.1) few, bad⟩
def headsM : List Str := [Str.ofString "", Str.ofString "states", Str.ofString "states 0", Str.ofString "states 9", Str.ofString "States 1\n0", Str.ofString "states 01\n0", Str.ofString "rounds 1\nrests 0"]
def headsC : List Str := [Str.ofString "", Str.ofString "rounds", Str.ofString "rounds ", Str.ofString "Rounds 1\nrests 0", Str.ofString "rounds 1 1 1 1 1\nrests 0 0 0 0 0", Str.ofString "rests 0\nrounds 1", Str.ofString "rounds 61\nrests 0", Str.ofString "rounds -\nrests -"]
abbrev S_ (s : String) : Str := Str.ofString s
theorem headsM_ok : ∀ h ∈ headsM, ∃ ms, h = text (ms.map line) ∧ Lines ms ∧ badOf true ms = some 1 := fun h hh => by
  unfold headsM at hh
  simp only [List.mem_cons, List.not_mem_nil, or_false] at hh
  rcases hh with rfl | rfl | rfl | rfl | rfl | rfl | rfl
  · exact h_of (ms := [[S_ ""]]) (by decide +kernel)
  · exact h_of (ms := [[S_ "states"]]) (by decide +kernel)
  · exact h_of (ms := [[S_ "states", S_ "0"]]) (by decide +kernel)
  · exact h_of (ms := [[S_ "states", S_ "9"]]) (by decide +kernel)
  · exact h_of (ms := [[S_ "States", S_ "1"], [S_ "0"]]) (by decide +kernel)
  · exact h_of (ms := [[S_ "states", S_ "01"], [S_ "0"]]) (by decide +kernel)
  · exact h_of (ms := [[S_ "rounds", S_ "1"], [S_ "rests", S_ "0"]]) (by decide +kernel)
theorem headsC_ok : ∀ h ∈ headsC, ∃ ms, h = text (ms.map line) ∧ Lines ms ∧ badOf false ms = some 1 := fun h hh => by
  unfold headsC at hh
  simp only [List.mem_cons, List.not_mem_nil, or_false] at hh
  rcases hh with rfl | rfl | rfl | rfl | rfl | rfl | rfl | rfl
  · exact h_of (ms := [[S_ ""]]) (by decide +kernel)
  · exact h_of (ms := [[S_ "rounds"]]) (by decide +kernel)
  · exact h_of (ms := [[S_ "rounds", S_ ""]]) (by decide +kernel)
  · exact h_of (ms := [[S_ "Rounds", S_ "1"], [S_ "rests", S_ "0"]]) (by decide +kernel)
  · exact h_of (ms := [[S_ "rounds", S_ "1", S_ "1", S_ "1", S_ "1", S_ "1"], [S_ "rests", S_ "0", S_ "0", S_ "0", S_ "0", S_ "0"]]) (by decide +kernel)
  · exact h_of (ms := [[S_ "rests", S_ "0"], [S_ "rounds", S_ "1"]]) (by decide +kernel)
  · exact h_of (ms := [[S_ "rounds", S_ "61"], [S_ "rests", S_ "0"]]) (by decide +kernel)
  · exact h_of (ms := [[S_ "rounds", S_ "-"], [S_ "rests", S_ "-"]]) (by decide +kernel)
/-- tables as numbers -/
def natT (ts : List (List Int)) : List (List Nat) := ts.map fun t => t.map Int.toNat
theorem natI_toNat {t : List Int} (h : ∀ x ∈ t, 0 ≤ x) : natI (t.map Int.toNat) = t := by
  unfold natI
  rw [List.map_map]
  conv => rhs; rw [← List.map_id t]
  exact List.map_congr_left fun x hx => Int.toNat_of_nonneg (h x hx)
section
variable {n : Nat} {ts : List (List Int)}
theorem natT_back (ok : Mok n ts) : (natT ts).map natI = ts := by
  unfold natT
  rw [List.map_map]
  conv => rhs; rw [← List.map_id ts]
  exact List.map_congr_left fun t ht => natI_toNat fun x hx => (ok.ent t ht x hx).1
theorem tsOk_of (ok : Mok n ts) : TsOk n (natT ts) := by
  refine ⟨ok.n1, ok.n8, by unfold natT; rw [List.length_map]; exact ok.l1, by unfold natT; rw [List.length_map]; exact ok.l4, fun t ht => ?_, fun t ht k hk => ?_⟩
  · obtain ⟨u, hu, rfl⟩ := List.mem_map.mp ht
    rw [List.length_map]
    exact ok.len u hu
  · obtain ⟨u, hu, rfl⟩ := List.mem_map.mp ht
    obtain ⟨x, hx, rfl⟩ := List.mem_map.mp hk
    have := ok.ent u hu x hx
    omega
theorem mLines_of (ok : Mok n ts) : mLines n ts = (mWords n (natT ts)).map line := by
  rw [← mLines_words, natT_back ok]
end
/-- one line alone: no table -/
theorem mBad_one {n : Nat} (n1 : 1 ≤ n) (n8 : n ≤ 8) : mBad [Str.ofString "states" :: nums [n]] = some 2 := by
  rw [mBad_head n1 n8]
  rfl
/-- five tables -/
theorem mBad_five {n : Nat} {t : List Nat} (n1 : 1 ≤ n) (n8 : n ≤ 8) (len : t.length = n) (lt : ∀ k ∈ t, k < n) : mBad ((Str.ofString "states" :: nums [n]) :: List.replicate 5 (nums t)) = some 6 := by
  rw [mBad_head n1 n8, List.findIdx?_eq_none_iff.mpr fun ws hw => ?_]
  · show (if List.replicate 5 (nums t) = [] then some 2 else if 4 < (List.replicate 5 (nums t)).length then some 6 else none) = some 6
    rw [if_neg (by simp), if_pos (by simp)]
  · have : ws = nums t := List.eq_of_mem_replicate (List.mem_of_mem_take hw)
    rw [this, okTab_all len lt]
    rfl
theorem wok_states {n : Nat} (n8 : n ≤ 8) : WOk (Str.ofString "states" :: nums [n]) := wok_named (word_ "states") (by simp) (by simp) fun k hk => by rw [List.mem_singleton.mp hk]; omega
theorem lines_wok {lss : List (List Str)} (ne : lss ≠ []) (h : ∀ ws ∈ lss, WOk ws) (l : lss.length ≤ 20) : Lines lss := Lines.of ne (fun ws hw => (h ws hw).ne) (fun ws hw => (h ws hw).wd) (fun ws hw => by have := (h ws hw).few; omega) l
theorem sum_wok {lss : List (List Str)} (h : ∀ ws ∈ lss, WOk ws) (l : lss.length ≤ 20) : ((lss.map line).map (·.length)).sum + (lss.map line).length * (Str.ofString "\n").length ≤ 16777216 := by
  have h1 := sum_len (ws := lss.map line) (k := 2100) fun z hz => by
    obtain ⟨ws, hw, rfl⟩ := List.mem_map.mp hz
    have w := h ws hw
    have := line_len (ws := ws) (k := 100) fun v hv => (w.wd v hv).2.2
    have := w.few
    omega
  have h2 : (Str.ofString "\n").length = 1 := by decide +kernel
  rw [List.length_map] at *
  rw [h2]
  omega
/-! the five bent texts of counters -/
section
variable {rs es : List Nat}
theorem cBad_two {l2 : List Str} {r : List (List Str)} (r1 : 1 ≤ rs.length) (r4 : rs.length ≤ 4) (ltr : ∀ k ∈ rs, k < 61) (h : (rdL (Str.ofString "rests") 7 l2).length ≠ rs.length) : cBad ((Str.ofString "rounds" :: nums rs) :: l2 :: r) = some 2 := by
  show (if (rdL (Str.ofString "rounds") 61 (Str.ofString "rounds" :: nums rs)).length = 0 ∨ 4 < (rdL (Str.ofString "rounds") 61 (Str.ofString "rounds" :: nums rs)).length then some 1 else if (rdL (Str.ofString "rests") 7 l2).length ≠ (rdL (Str.ofString "rounds") 61 (Str.ofString "rounds" :: nums rs)).length then some 2 else if r ≠ [] then some 3 else none) = some 2
  rw [rdL_all ltr, if_neg (by omega), if_pos h]
theorem cBad_lone (r1 : 1 ≤ rs.length) (r4 : rs.length ≤ 4) (ltr : ∀ k ∈ rs, k < 61) : cBad [Str.ofString "rounds" :: nums rs] = some 2 := by
  show (if (rdL (Str.ofString "rounds") 61 (Str.ofString "rounds" :: nums rs)).length = 0 ∨ 4 < (rdL (Str.ofString "rounds") 61 (Str.ofString "rounds" :: nums rs)).length then some 1 else some 2) = some 2
  rw [rdL_all ltr, if_neg (by omega)]
theorem cBad_more (r1 : 1 ≤ rs.length) (r4 : rs.length ≤ 4) (len : es.length = rs.length) (ltr : ∀ k ∈ rs, k < 61) (lte : ∀ k ∈ es, k < 7) : cBad [Str.ofString "rounds" :: nums rs, Str.ofString "rests" :: nums es, [Str.ofString ""]] = some 3 := by
  show (if (rdL (Str.ofString "rounds") 61 (Str.ofString "rounds" :: nums rs)).length = 0 ∨ 4 < (rdL (Str.ofString "rounds") 61 (Str.ofString "rounds" :: nums rs)).length then some 1 else if (rdL (Str.ofString "rests") 7 (Str.ofString "rests" :: nums es)).length ≠ (rdL (Str.ofString "rounds") 61 (Str.ofString "rounds" :: nums rs)).length then some 2 else if [[Str.ofString ""]] ≠ [] then some 3 else none) = some 3
  rw [rdL_all ltr, rdL_all lte, if_neg (by omega), if_neg (fun z => z len), if_pos (by simp)]
theorem rests_more (len : es.length = rs.length) (lte : ∀ k ∈ es, k < 7) : (rdL (Str.ofString "rests") 7 (Str.ofString "rests" :: nums (es ++ [0]))).length ≠ rs.length := by
  rw [rdL_all fun k hk => by
    rcases List.mem_append.mp hk with h | h
    · exact lte k h
    · rw [List.mem_singleton.mp h]; decide]
  rw [List.length_append, List.length_singleton]
  omega
theorem rests_seven : rdL (Str.ofString "rests") 7 [Str.ofString "rests", Str.ofString "7"] = [] := by decide +kernel
theorem rests_other {ws : List Str} : rdL (Str.ofString "rests") 7 (Str.ofString "rounds" :: ws) = [] := rdL_none fun h => absurd (Option.some.inj h) (by decide +kernel)
end
theorem sign_text {lss : List (List Str)} {B : Nat} (hB : 32 < B) (h : ∀ ws ∈ lss, ∀ w ∈ ws, ∀ c ∈ tl w, c < B) : ∀ c ∈ tl (text (lss.map line)), c < B := fun c hc => by
  unfold text at hc
  rw [join_eq, tl_join, tl_lf] at hc
  rcases joinL_mem hc with h1 | ⟨p, hp, h1⟩
  · rw [List.mem_singleton.mp h1]
    omega
  · obtain ⟨l, hl, rfl⟩ := List.mem_map.mp hp
    obtain ⟨ws, hw, rfl⟩ := List.mem_map.mp hl
    exact sign_line hB (h ws hw) c h1
theorem sign_named {nm : Str} {ns : List Nat} (h : ∀ c ∈ tl nm, c < 128) : ∀ w ∈ nm :: nums ns, ∀ c ∈ tl w, c < 128 := fun w hw c hc => by
  rcases List.mem_cons.mp hw with rfl | hw
  · exact h c hc
  · obtain ⟨n, _, rfl⟩ := List.mem_map.mp hw
    have := sign_num c hc
    omega
theorem Good.sign {i : Bool} {lss : List (List Str)} (g : Good i lss) : ∀ c ∈ tl (text (lss.map line)), c < 128 := by
  refine sign_text (by decide) fun ws hw => ?_
  cases g with
  | m h =>
    rcases List.mem_cons.mp hw with rfl | hw
    · exact sign_named (by decide +kernel)
    · obtain ⟨t, ht, rfl⟩ := List.mem_map.mp hw
      intro w hw c hc
      obtain ⟨n, _, rfl⟩ := List.mem_map.mp hw
      have := sign_num c hc
      omega
  | c r1 r4 len ltr lte =>
    rcases List.mem_cons.mp hw with rfl | hw
    · exact sign_named (by decide +kernel)
    · rw [List.mem_singleton.mp hw]
      exact sign_named (by decide +kernel)
theorem Good.tlen {i : Bool} {lss : List (List Str)} (g : Good i lss) : (text (lss.map line)).length ≤ 12000 := by
  have h1 := text_len (ls := lss.map line) (k := 2100) fun z hz => by
    obtain ⟨ws, hw, rfl⟩ := List.mem_map.mp hz
    have w := g.wok ws hw
    have := line_len (ws := ws) (k := 100) fun v hv => (w.wd v hv).2.2
    have := w.few
    omega
  have := g.len
  rw [List.length_map] at h1
  omega
/-- four hundred zeros -/
theorem zeros_rd {k : Nat} (h : k ≤ 401) : rdB 1 ((List.replicate k (Str.ofString "0")).take 400) = List.replicate (min 400 k) 0 := by
  have e : (List.replicate k (Str.ofString "0")).take 400 = nums (List.replicate (min 400 k) 0) := by
    unfold nums
    rw [List.map_replicate, List.take_replicate, zero_num]
  rw [e]
  exact rdB_all fun x hx => by rw [List.eq_of_mem_replicate hx]; decide
end K4
/-! the law -/
namespace K4
open L2 PySem PySem.Spec PyProof.Rows Kx TL CwR RZ
theorem ix_listK {X : Cx} {K : PySem.W.Frag} (hK : X.K = K := by rfl) : IxR X (rIxL K) := by
  subst hK
  exact ix_list
theorem not_ne {x y : V} (e : x = y) (z : (!decide (x = y)) = true) : False := by simp [e] at z
theorem cut_12 {a b : V} {xs : List V} : cutV (a :: b :: xs) (some 1) (some 2) = [b] := by
  unfold cutV
  rw [show (some (1 : Int)) = some ((1 : Nat) : Int) from rfl, show (some (2 : Int)) = some ((2 : Nat) : Int) from rfl, HT.sIx_nat, HT.sIx_nat, List.length_cons, List.length_cons, Nat.min_eq_left (by omega), Nat.min_eq_left (by omega)]
  rfl
theorem cut_1 {a : V} {xs : List V} : cutV (a :: xs) none (some 1) = [a] := (cut_to (i := 1) (xs := a :: xs) (by simp)).trans rfl
theorem flat3 {s1 : Str} {i : Int} {b1 : Bool} : ∀ v ∈ [V.str s1, .int i, .bl b1], flatB v = true ∨ ∃ c, v = .ref c := fun v hv => by
  simp only [List.mem_cons, List.not_mem_nil, or_false] at hv
  rcases hv with rfl | rfl | rfl <;> exact .inl rfl
theorem text_one {ws : List Str} : text ([ws].map line) = line ws := join_one
/-- lines of words -/
structure LW (lss : List (List Str)) : Prop where
  ne : lss ≠ []
  many : lss.length ≤ 20
  ok : ∀ ws ∈ lss, ws ≠ [] ∧ ws.length ≤ 1000 ∧ ∀ w ∈ ws, Word w
theorem LW.lines {lss : List (List Str)} (h : LW lss) : Lines lss := Lines.of h.ne (fun ws hw => (h.ok ws hw).1) (fun ws hw => (h.ok ws hw).2.2) (fun ws hw => (h.ok ws hw).2.1) h.many
theorem LW.sum {lss : List (List Str)} (h : LW lss) : ((lss.map line).map (·.length)).sum + (lss.map line).length * (Str.ofString "\n").length ≤ 16777216 := sum_ok (fun ws hw w q => ((h.ok ws hw).2.2 w q).2.2) (fun ws hw => (h.ok ws hw).2.1) h.many
theorem WOk.lw {ws : List Str} (h : WOk ws) : ws ≠ [] ∧ ws.length ≤ 1000 ∧ ∀ w ∈ ws, Word w := ⟨h.ne, by have := h.few; omega, h.wd⟩
/-- some lines and the first that is not so -/
def Pr (K : PySem.W.Frag) (H : Hp) (y : V) : Prop := ∃ (q l : Addr) (lss : List (List Str)) (n : Nat), y = .ref q ∧ SqT K H q [.ref l, .int (n : Nat)] ∧ H l = some (.lst ((lss.map line).map V.str)) ∧ LW lss ∧ cBad lss = some n
theorem Pr.same {K : PySem.W.Frag} {H H' : Hp} {y : V} (h : Pr K H y) (e : Same H H') : Pr K H' y := by
  obtain ⟨q, l, lss, n, h1, h2, h3, h4⟩ := h
  exact ⟨q, l, lss, n, h1, sqT_same e h2, e _ _ h3, h4⟩
theorem Pr.ext {K : PySem.W.Frag} {H H' : Hp} {y : V} (h : Pr K H y) (e : LamX.ExtN H H') : Pr K H' y := by
  obtain ⟨q, l, lss, n, h1, h2, h3, h4⟩ := h
  exact ⟨q, l, lss, n, h1, ext_sqT e h2, ext_lst e h3, h4⟩
theorem lead_row {nm nb : Str} {ns : List Nat} (e : nb = nm ++ Str.ofString " ") (h : ns ≠ []) : nb ++ rowText ns = line (nm :: nums ns) := by
  rw [show rowText ns = line (nums ns) from if_neg h]
  exact lead_line e h
theorem nz {k : Nat} : nums (List.replicate k 0) = List.replicate k (Str.ofString "0") := by
  unfold nums
  rw [List.map_replicate, zero_num]
theorem rep_zero {k : Nat} : (List.replicate k [V.str (Str.ofString "0")]).flatten = (nums (List.replicate k 0)).map V.str := by
  rw [nz, List.map_replicate, List.flatten_replicate_singleton]
theorem rep_int {k : Nat} : (List.replicate k [V.int 0]).flatten = (List.replicate k (0 : Int)).map V.int := by
  rw [List.map_replicate, List.flatten_replicate_singleton]
theorem iv_zero {k : Nat} : iv (List.replicate k 0) = (List.replicate k (0 : Int)).map V.int := by
  unfold iv
  rw [List.map_replicate, List.map_replicate]
  rfl
/-- texts of four hundred zeros, and of one more -/
theorem rd_zeros {K : PySem.W.Frag} {a : Ad} {CM m : Addr} {H : Hp} {k : Nat} {Q : VK} {E : XK} {Z : List Str} (hZ : Z = nums (List.replicate k 0)) (mc : McAt K CM H m 1 [[0]]) (hk : k = 400 ∨ k = 401) (h1 : k = 401 → Thrown E H a.cT "at" (.int ((400 : Nat) : Int))) (h2 : k = 400 → ∀ p H', Same H H' → SqT K H' p (iv (List.replicate 400 0)) → Q (.ref p) H') :
    spRdR K a CM [.ref m, .str (line Z)] H Q E := by
  subst hZ
  refine ⟨m, 1, [[0]], _, rfl, mc, .str _, (fun z => absurd rfl (z _)), fun x ex => ?_⟩
  cases ex
  have wd : ∀ w ∈ nums (List.replicate k 0), Word w := words_nums fun n hn => by rw [List.eq_of_mem_replicate hn]; exact Nat.pos_of_ne_zero (by simp)
  have lk : (nums (List.replicate k 0)).length = k := by unfold nums; rw [List.length_map, List.length_replicate]
  have lf := line_fits wd (by omega)
  have rd : rdB 1 ((nums (List.replicate k 0)).take 400) = List.replicate 400 0 := by
    rw [nz, zeros_rd (by omega), Nat.min_eq_left (by omega)]
  refine ⟨nums (List.replicate k 0), rfl, free_of (fun z => by rw [z] at lk; simp at lk; omega) wd, by omega, by rw [sizeLine_eq]; omega, fun z => absurd z no_dash2, fun _ => ⟨fun z => ?_, fun z => ?_⟩⟩
  · rw [show [[(0 : Int)]].length = 1 from rfl, rd, List.length_replicate] at z ⊢
    exact h1 (by omega)
  · rw [show [[(0 : Int)]].length = 1 from rfl, rd, List.length_replicate] at z
    rw [show [[(0 : Int)]].length = 1 from rfl, rd]
    exact h2 (by omega)
theorem mok_one : Mok 1 [[0]] := ⟨by decide, by decide, by decide, by decide, (fun t ht => by rw [List.mem_singleton.mp ht]; rfl), fun t ht x hx => by rw [List.mem_singleton.mp ht] at hx; rw [List.mem_singleton.mp hx]; decide⟩
theorem noFree {names : List (Str × NameKind)} {Z : Str × NameKind → Prop} (h : (names.all fun y => !decide (y.2 = .free)) = true) : ∀ y ∈ names, y.2 = .free → Z y := fun y hy e => by
  have := List.all_eq_true.mp h y hy
  rw [e] at this
  cases this
/-- the script stays -/
theorem script_keeps {K : PySem.W.Frag} {Ts : List (Addr × Str)} {a b : Addr} {xs : List V} {H H1 H' : Hp} (e : Same H H1) (n : H b = none) (g : Go Ts b H1 H') (h : SqL K H a xs) : SqL K H' a xs := by
  rcases h with (h | ⟨z, h⟩) | h
  · exact .inl (.inl (g.keep _ _ (ne_of_none h n) (fun _ z => nomatch z) (e _ _ h)))
  · exact .inl (.inr ⟨z, g.keep _ _ (ne_of_none h n) (fun _ z => nomatch z) (e _ _ h)⟩)
  · exact .inr h
def spLaw (K : PySem.W.Frag) (Ts : List (Addr × Str)) : Sp := fun vs H Q _ => ∃ (a : Addr) (ns : List Int), vs = [.ref a] ∧ SqL K H a (ns.map V.int) ∧ ns.length ≤ 63 ∧ LamX.Tabs Ts H ∧ ∀ H', Q (.bl true) H'
abbrev sgX (a : Addr) (x1 x2 x3 x4 x5 x6 x7 x8 x9 x10 x11 x12 x13 x14 : Option V) : L2.St := [some (.ref a), x1, x2, x3, x4, x5, x6, x7, x8, x9, x10, x11, x12, x13, x14]
/-- what the law calls -/
structure FnL (P : Program) (w : World) (K : PySem.W.Frag) (mg : Str → Option Value) (base : Heap) (a : Ad) (C CM : Addr) (Ts : List (Addr × Str)) : Prop where
  box : Cal P w K mg base CX0 1 "_law_box" ["script", "k"] (spBox K)
  take : Cal P w K mg base CX0 1 "_law_take" ["box", "many"] spTake
  pick : Cal P w K mg base CX0 2 "_law_pick" ["box", "some"] (spPick K)
  mach : Cal P w K mg base CX0 3 "_law_machine" ["box", "most", "kinds"] (spMach K)
  words : Cal P w K mg base CX0 1 "_law_words" ["numbers"] (spWords K)
  mtxt : Cal P w K mg base CX0 3 "machine_text" ["machine"] (spMtext K CM)
  mtxtK : CalN P w K mg base CX0 3 0 "machine_text" ["machine"] ["machine"] kw1 (spMtext K CM)
  ctxt : Cal P w K mg base CX0 3 "counters_text" ["counters"] (spCtext K C)
  ctxtK : CalN P w K mg base CX0 3 0 "counters_text" ["counters"] ["counters"] kw1 (spCtext K C)
  rdM : Cal P w K mg base (L2.CX P w) 7 "read_machine" ["text"] (spRdM K a CM)
  rdC : Cal P w K mg base (L2.CX P w) 7 "read_counters" ["text"] (spRdC K a C)
  rd : Cal P w K mg base (L2.CX P w) 5 "read_row" ["machine", "text"] (spRdR K a CM)
  lines : CalG P w K mg base CX0 11 "_law_lines_right" ["box", "lines", "read", "due", "heads"] (spLines K a C CM Ts)
  rowr : CalG P w K mg base CX0 11 "_law_row_right" ["box", "machine", "tables"] (spRowR K CM Ts)
  shw : CalG P w K mg base CX0 11 "_law_showing_right" ["box", "counters", "rounds", "rests"] (spShowR K C Ts)
section
variable {P : Program} {w : World} {K : PySem.W.Frag} {mg : Str → Option Value} {base : Heap} {f : Addr} {fd : FuncData} {a : Ad} {C CM cW : Addr} {Ts : List (Addr × Str)} {g cc Pt : Addr} {fdg : FuncData}
theorem sc_law : FnScope ["script", "k", "box", "tables", "machine", "kinds", "lines", "heads", "rounds", "rests", "counters", "value", "line", "table", "kind"] ["script"] (defScope s_law) := ⟨rfl, rfl, rfl, by decide +kernel, rfl, by decide +kernel, by decide +kernel⟩
abbrev XW (P : Program) (w : World) (K : PySem.W.Frag) (mg : Str → Option Value) (base : Heap) (f cc : Addr) (A : Around) (outer : List Env) (s : Shared) (H : Hp) (E : XK) : Cx := (cxOf CX0 P w K mg base ["script", "k", "box", "tables", "machine", "kinds", "lines", "heads", "rounds", "rests", "counters", "value", "line", "table", "kind"] "law" (defScope s_law) f (.ref cc) A outer s H E).nox
theorem ok_law (F : FnP K "law" s_law f fd) (hcode : fd.code = .ref cc) (FH : FnP K "_law_reads" s_law_reads g fdg) (gH : mg "_law_reads" = some (.ref g)) (bH : Binds K fdg ["work"] []) (T : Mg mg) (TM : ClsM K mg CM) (TC : ClsC K mg C) (D : Hd K mg a cW) (TB : LamX.TabB base mg cc Pt)
    (mem : (Pt, rdQ) ∈ Ts) (only : ∀ p ∈ Ts, p.1 = Pt → p.2 = rdQ) (M : Mks P w K mg base a C CM) (B : FnL P w K mg base a C CM Ts) : FnG P w K mg base CX0 12 f fd ["script"] (spLaw K Ts) := by
  refine okGc F hcode sc_law (fun vs H Q E h => ?_) (fun A0 o0 s0 H vs Q E0 lone hr h => ?_)
  · obtain ⟨a, ns, rfl, _⟩ := h
    rfl
  · obtain ⟨sc, ns, rfl, hs, hl, ht, k⟩ := h
    have cs : CallR (XW P w K mg base f cc A0 o0 s0 H E0) (.builtin "repr") (rShow K) := call_show lone (r64 hr)
    have hf : HF (XW P w K mg base f cc A0 o0 s0 H E0) a cW Ts g fdg cc Pt s_law := ⟨FH, gH, bH, T, D, TB, rfl, rfl, mem, only⟩
    refine ⟨_, PSs.nox (pss_cons (ps_mid (ps_for PassesOwn.never rfl (pi_range1 (by rfl) T.z_range (pa_cons pe_int pa_nil)) (pg_name (i := 1) sc_law.nd rfl (by first | exact Or.inl rfl | exact Or.inr rfl))
      (pss_cons (ps_set (i := 2) sc_law.nd rfl (by first | exact Or.inl rfl | exact Or.inr rfl) (pe_callC B.box hr pass0 (pa_cons (pv 0) (pa_cons (pv 1) pa_nil))))
      (pss_cons (ps_mid (ps_set (i := 3) sc_law.nd rfl (by first | exact Or.inl rfl | exact Or.inr rfl) (pe_ifExp (pt_cmpR op_gt (pe_callC B.take hr pass0 (pa_cons (pv 2) (pa_cons pe_int pa_nil))) pe_int (nomark _)) (pe_callC B.mach hr pass0 (pa_cons (pv 2) (pa_cons pe_int (pa_cons pe_int pa_nil)))) (pe_op op_rep (pe_lst (pa_cons (pe_tupRg rfl (by rfl) T.z_tuple (prg_1 (by rfl) T.z_range pe_int)) pa_nil)) pe_int))))
      (pss_cons (ps_mid (ps_par (i := 4) (j := 5) (by rfl) sc_law.nd rfl rfl (by decide) rfl rfl (pa_cons (pe_mac (K := K) M TM hr pzN (pa_cons (pv 3) pa_nil)) (pa_cons (pe_op op_add pe_int (pe_callC B.take hr pass0 (pa_cons (pv 2) (pa_cons pe_int pa_nil)))) pa_nil)) (by rfl)))
      (pss_cons (ps_mid (ps_set (i := 6) sc_law.nd rfl (by first | exact Or.inl rfl | exact Or.inr rfl) (pe_op op_cat (pe_lst (pa_cons (pe_op op_add_str pe_str (pe_callTy call_str_int (by rfl) T.z_str bt_str (pa_cons (pe_callB call_len_seq (by rfl) T.z_len PySem.boot_len (pa_cons (pe_ix ix_list (pv 3) pe_int (fun _ _ => rfl)) pa_nil)) pa_nil))) pa_nil)) (pe_lc (own := [("table", 13)]) (by rfl) sc_law.nd (pi_list (pv 3)) (blkOk_by (own := [("table", 13)]) (N := ["script", "k", "box", "tables", "machine", "kinds", "lines", "heads", "rounds", "rests", "counters", "value", "line", "table", "kind"]) (sc := defScope s_law) (by decide +kernel)) (fun _ _ _ _ _ => (pg_name (i := 13) sc_law.nd rfl (by first | exact Or.inl rfl | exact Or.inr rfl))) (fun _ _ _ _ _ => pts_nil) (fun _ _ _ _ _ => (pe_callC B.words hr pass0 (pa_cons (pv 13) pa_nil)))))))
      (pss_cons (ps_mid (ps_if (pt_cmpR op_ne (pe_callB cs (by rfl) T.z_repr (by decide +kernel) (pa_cons (pe_lst (pa_cons (pe_callC B.mtxt hr pass0 (pa_cons (pv 4) pa_nil)) (pa_cons (pe_callN0 B.mtxtK hr pass0 (pk_cons (pv 4) pk_nil)) pa_nil))) pa_nil)) (pe_callB cs (by rfl) T.z_repr (by decide +kernel) (pa_cons (pe_op op_rep (pe_lst (pa_cons (pe_join pe_str (pv 6)) pa_nil)) pe_int) pa_nil)) (nomark _))
        (pss_one (ps_ret pe_bl))
        pss_nil))
      (pss_cons (ps_mid (ps_set (i := 7) sc_law.nd rfl (by first | exact Or.inl rfl | exact Or.inr rfl) (pe_lst (pa_cons pe_str (pa_cons pe_str (pa_cons pe_str (pa_cons pe_str (pa_cons pe_str (pa_cons pe_str (pa_cons pe_str pa_nil))))))))))
      (pss_cons (ps_mid (ps_if (pt_not (pt_val (pe_callG B.lines hr lone pass0 (pa_cons (pv 2) (pa_cons (pv 6) (pa_cons (pe_lamV1 TB rfl mem only rfl (noFree (by decide +kernel))) (pa_cons (pv 4) (pa_cons (pv 7) pa_nil))))))))
        (pss_one (ps_ret pe_bl))
        pss_nil))
      (pss_cons (ps_mid (ps_if (pt_cmpR (op_neSameK (K := K) (r64 hr)) (pe_reads (k := 9) hf hr (fun A1 o1 s1 H1 E1 f1 c1 hr' => (pe_callC B.rdM hr' passL (pa_cons (pe_ix (ix_listK (K := K)) (pv 6) pe_int (fun _ _ => rfl)) pa_nil)))) (pe_tup (pa_cons pe_str (pa_cons pe_int (pa_cons pe_bl pa_nil)))) (nomark _))
        (pss_one (ps_ret pe_bl))
        pss_nil))
      (pss_cons (ps_mid (ps_if (pt_cmpR (op_neSameK (K := K) (r64 hr)) (pe_reads (k := 9) hf hr (fun A1 o1 s1 H1 E1 f1 c1 hr' => (pe_callC B.rdM hr' passL (pa_cons (pe_joinK (K := K) pe_str (pe_op op_cat (pe_slice (sl_listK (K := K)) (pv 6) po_none (po_some pe_int)) (pe_op op_rep (pe_slice (sl_listK (K := K)) (pv 6) (po_some pe_int) (po_some pe_int)) pe_int))) pa_nil)))) (pe_tup (pa_cons pe_str (pa_cons pe_int (pa_cons pe_bl pa_nil)))) (nomark _))
        (pss_one (ps_ret pe_bl))
        pss_nil))
      (pss_cons (ps_mid (ps_set (i := 8) sc_law.nd rfl (by first | exact Or.inl rfl | exact Or.inr rfl) (pe_callTy call_tup (by rfl) T.z_tuple bt_tuple (pa_cons (pe_lc (own := [("kind", 14)]) (by rfl) sc_law.nd (pi_range1 (by rfl) T.z_range (pa_cons (pv 5) pa_nil)) (blkOk_by (own := [("kind", 14)]) (N := ["script", "k", "box", "tables", "machine", "kinds", "lines", "heads", "rounds", "rests", "counters", "value", "line", "table", "kind"]) (sc := defScope s_law) (by decide +kernel)) (fun _ _ _ _ _ => (pg_name (i := 14) sc_law.nd rfl (by first | exact Or.inl rfl | exact Or.inr rfl))) (fun _ _ _ _ _ => pts_nil) (fun _ _ _ _ _ => (pe_callC B.pick hr pass0 (pa_cons (pv 2) (pa_cons (pe_lst (pa_cons pe_int (pa_cons pe_int (pa_cons pe_int (pa_cons pe_int (pa_cons (pe_callC B.take hr pass0 (pa_cons (pv 2) (pa_cons pe_int pa_nil))) pa_nil)))))) pa_nil))))) pa_nil))))
      (pss_cons (ps_mid (ps_set (i := 9) sc_law.nd rfl (by first | exact Or.inl rfl | exact Or.inr rfl) (pe_callTy call_tup (by rfl) T.z_tuple bt_tuple (pa_cons (pe_lc (own := [("kind", 14)]) (by rfl) sc_law.nd (pi_range1 (by rfl) T.z_range (pa_cons (pv 5) pa_nil)) (blkOk_by (own := [("kind", 14)]) (N := ["script", "k", "box", "tables", "machine", "kinds", "lines", "heads", "rounds", "rests", "counters", "value", "line", "table", "kind"]) (sc := defScope s_law) (by decide +kernel)) (fun _ _ _ _ _ => (pg_name (i := 14) sc_law.nd rfl (by first | exact Or.inl rfl | exact Or.inr rfl))) (fun _ _ _ _ _ => pts_nil) (fun _ _ _ _ _ => (pe_callC B.pick hr pass0 (pa_cons (pv 2) (pa_cons (pe_lst (pa_cons pe_int (pa_cons pe_int (pa_cons (pe_callC B.take hr pass0 (pa_cons (pv 2) (pa_cons pe_int pa_nil))) pa_nil)))) pa_nil))))) pa_nil))))
      (pss_cons (ps_mid (ps_asg (pe_tup (pa_cons (pe_cnt2 (K := K) M TC hr pzN (pa_cons (pv 8) (pa_cons (pv 9) pa_nil))) (pa_cons (pe_lst (pa_cons (pe_op op_add_str pe_str (pe_callC B.words hr pass0 (pa_cons (pv 8) pa_nil))) (pa_cons (pe_op op_add_str pe_str (pe_callC B.words hr pass0 (pa_cons (pv 9) pa_nil))) pa_nil))) pa_nil))) (pg_tup rfl (pgs_cons (pg_name (i := 10) sc_law.nd rfl (by first | exact Or.inl rfl | exact Or.inr rfl)) (pgs_cons (pg_name (i := 6) sc_law.nd rfl (by first | exact Or.inl rfl | exact Or.inr rfl)) pgs_nil)))))
      (pss_cons (ps_mid (ps_if (pt_cmpR op_ne (pe_callB cs (by rfl) T.z_repr (by decide +kernel) (pa_cons (pe_lst (pa_cons (pe_callC B.ctxt hr pass0 (pa_cons (pv 10) pa_nil)) (pa_cons (pe_callN0 B.ctxtK hr pass0 (pk_cons (pv 10) pk_nil)) pa_nil))) pa_nil)) (pe_callB cs (by rfl) T.z_repr (by decide +kernel) (pa_cons (pe_op op_rep (pe_lst (pa_cons (pe_join pe_str (pv 6)) pa_nil)) pe_int) pa_nil)) (nomark _))
        (pss_one (ps_ret pe_bl))
        pss_nil))
      (pss_cons (ps_mid (ps_set (i := 7) sc_law.nd rfl (by first | exact Or.inl rfl | exact Or.inr rfl) (pe_lst (pa_cons pe_str (pa_cons pe_str (pa_cons pe_str (pa_cons pe_str (pa_cons pe_str (pa_cons pe_str (pa_cons pe_str (pa_cons pe_str pa_nil)))))))))))
      (pss_cons (ps_mid (ps_if (pt_not (pt_val (pe_callG B.lines hr lone pass0 (pa_cons (pv 2) (pa_cons (pv 6) (pa_cons (pe_lamV1 TB rfl mem only rfl (noFree (by decide +kernel))) (pa_cons (pv 10) (pa_cons (pv 7) pa_nil))))))))
        (pss_one (ps_ret pe_bl))
        pss_nil))
      (pss_cons (ps_mid (ps_for PassesOwn.never rfl (pi_tup (pe_tup (pa_cons (pe_tup (pa_cons (pe_slice sl_list (pv 6) po_none (po_some pe_int)) (pa_cons pe_int pa_nil))) (pa_cons (pe_tup (pa_cons (pe_op op_cat (pv 6) (pe_lst (pa_cons pe_str pa_nil))) (pa_cons pe_int pa_nil))) (pa_cons (pe_tup (pa_cons (pe_op op_cat (pe_slice sl_list (pv 6) po_none (po_some pe_int)) (pe_lst (pa_cons (pe_op op_add_str pe_str (pe_callC B.words hr pass0 (pa_cons (pe_op (op_catS (K := K)) (pv 9) (pe_tup (pa_cons pe_int pa_nil))) pa_nil))) pa_nil))) (pa_cons pe_int pa_nil))) (pa_cons (pe_tup (pa_cons (pe_op op_cat (pe_slice sl_list (pv 6) po_none (po_some pe_int)) (pe_lst (pa_cons pe_str pa_nil))) (pa_cons pe_int pa_nil))) (pa_cons (pe_tup (pa_cons (pe_op op_cat (pe_slice sl_list (pv 6) po_none (po_some pe_int)) (pe_lst (pa_cons (pe_ix ix_list (pv 6) pe_int (fun _ _ => rfl)) pa_nil))) (pa_cons pe_int pa_nil))) pa_nil))))))) (pg_tup rfl (pgs_cons (pg_name (i := 11) sc_law.nd rfl (by first | exact Or.inl rfl | exact Or.inr rfl)) (pgs_cons (pg_name (i := 12) sc_law.nd rfl (by first | exact Or.inl rfl | exact Or.inr rfl)) pgs_nil)))
        (pss_one (ps_if (pt_cmpR (op_neSameK (K := K) (r64 hr)) (pe_reads (k := 9) hf hr (fun A1 o1 s1 H1 E1 f1 c1 hr' => (pe_callC B.rdC hr' passL (pa_cons (pe_joinK (K := K) pe_str (pv 11)) pa_nil)))) (pe_tup (pa_cons pe_str (pa_cons (pv 12) (pa_cons pe_bl pa_nil)))) (nomark _))
        (pss_one (ps_ret pe_bl))
        pss_nil))))
      (pss_one (ps_mid (ps_if (PW.pt (pw_or (pt_not (pt_val (pe_callG B.rowr hr lone pass0 (pa_cons (pv 2) (pa_cons (pv 4) (pa_cons (pv 3) pa_nil)))))) (pw_or1 (pt_not (pt_val (pe_callG B.shw hr lone pass0 (pa_cons (pv 2) (pa_cons (pv 10) (pa_cons (pv 8) (pa_cons (pv 9) pa_nil))))))))))
        (pss_one (ps_ret pe_bl))
        pss_nil)))))))))))))))))))))
      (pss_cons (ps_mid (ps_if (pt_cmpR op_gt (pe_callC B.take hr pass0 (pa_cons (pe_callC B.box hr pass0 (pa_cons (pv 0) (pa_cons pe_int pa_nil))) (pa_cons pe_int pa_nil))) pe_int (nomark _))
        (pss_one (ps_ret pe_bl))
        pss_nil))
      (pss_cons (ps_mid (ps_if (pt_cmpR (op_neNums (r64 hr)) (pe_mid (pe_callC B.rd hr pz (pa_cons (pe_mac (K := K) M TM hr pzN (pa_cons (pe_lst (pa_cons (pe_lst (pa_cons pe_int pa_nil)) pa_nil)) pa_nil)) (pa_cons (pe_join pe_str (pe_op op_rep (pe_lst (pa_cons pe_str pa_nil)) pe_int)) pa_nil)))) (pe_op op_times (pe_tup (pa_cons pe_int pa_nil)) pe_int) (nomark _))
        (pss_one (ps_ret pe_bl))
        pss_nil))
      (pss_one (ps_ret (pe_cmpR (op_eqSame (r64 hr)) (pe_reads (k := 9) hf hr (fun A1 o1 s1 H1 E1 f1 c1 hr' => (pe_callC B.rd hr' passL (pa_cons (pe_mac (K := K) M TM hr' pzN (pa_cons (pe_lst (pa_cons (pe_lst (pa_cons pe_int pa_nil)) pa_nil)) pa_nil)) (pa_cons (pe_joinK (K := K) pe_str (pe_op op_rep (pe_lst (pa_cons pe_str pa_nil)) pe_int)) pa_nil))))) (pe_tup (pa_cons pe_str (pa_cons pe_int (pa_cons pe_bl pa_nil)))) (nomark _))))))), ?_⟩
    refine ⟨fun σ' H' => ∃ x1 x2 x3 x4 x5 x6 x7 x8 x9 x10 x11 x12 x13 x14, σ' = sgX sc x1 x2 x3 x4 x5 x6 x7 x8 x9 x10 x11 x12 x13 x14 ∧ SqL K H' sc (ns.map V.int) ∧ LamX.Tabs Ts H', ?_, ?_⟩
    · refine ⟨3, rfl, by decide, by decide, for_range (lo := 0) (n := 3) (fun i σ' H' => ∃ x1 x2 x3 x4 x5 x6 x7 x8 x9 x10 x11 x12 x13 x14, σ' = sgX sc x1 x2 x3 x4 x5 x6 x7 x8 x9 x10 x11 x12 x13 x14 ∧ SqL K H' sc (ns.map V.int) ∧ LamX.Tabs Ts H') ⟨_, _, _, _, _, _, _, _, _, _, _, _, _, _, rfl, hs, ht⟩ ?_ ?_⟩
      · rintro i σ' H0 hi ⟨x1, x2, x3, x4, x5, x6, x7, x8, x9, x10, x11, x12, x13, x14, rfl, hs0, ht0⟩
        have i0 : (0 : Int) + (i : Int) = (i : Int) := Int.zero_add _
        rw [i0]
        refine ⟨_, rfl, _, rfl, sc, ns, i, rfl, hs0, hl, fun H1 b t1 e1 nb hb1 => ?_⟩
        have ht1 := ht0.ext e1
        have g1 : Go Ts b H1 H1 := .refl hb1 ht1
        refine ⟨fun σ' H' => ∃ (Fa : Addr) (ps : List V) (n : Nat) (ts : List (List Int)), σ' = sgX sc (some (.int (i : Int))) (some (.ref b)) (some (.ref Fa)) x4 x5 x6 x7 x8 x9 x10 x11 x12 x13 x14 ∧ Go Ts b H1 H' ∧ Fa ≠ b ∧ H' Fa = some (.lst ps) ∧ RowsBy (SqT K H') ps ts ∧ Mok n ts, ?_, ?_⟩
        · refine ⟨_, rfl, b, t1, 9, rfl, hb1, by decide, by decide, fun r H2 r0 r9 m2 => ?_⟩
          obtain ⟨t2, hb2⟩ := m2.2
          refine ⟨_, _, rfl, rfl, _, rfl, ite2 (fun _ => ?_) (fun _ => ?_)⟩
          · exact ⟨_, rfl, b, t2, 6, 4, rfl, hb2, by decide, by decide, by decide, by decide, fun Fa H3 ps n ts m3 Fb nF hF rows ok => ⟨Fa, ps, n, ts, rfl, (g1.mv m2).mv m3, Fb, hF, rows, ok⟩⟩
          · refine ⟨8, rfl, RgOk.of_le (by decide) (by decide) (by decide) (by decide), fun q hq => ?_⟩
            rw [show rgV 0 8 = iv (List.range 8) from rgV_iv (n := 8)]
            have e3 := same_new (o := HO.tup (iv (List.range 8))) hq
            have u3 : SqT K (L2.upd H2 q (HO.tup (iv (List.range 8)))) q (iv (List.range 8)) := SqT.of upd_same
            generalize L2.upd H2 q (HO.tup (iv (List.range 8))) = H3 at *
            refine ⟨(by show 1 ≤ sizeLine; decide), fun l hl' => ?_⟩
            have e4 := same_new (o := HO.lst [V.ref q]) hl'
            have u4 := upd_same (H := H3) (a := l) (o := HO.lst [V.ref q])
            generalize L2.upd H3 l (HO.lst [V.ref q]) = H4 at *
            refine ⟨l, 4, _, rfl, rfl, u4, by decide, by decide, (by show 1 * 4 ≤ sizeLine; decide), fun p hp => ?_⟩
            have e5 := same_new (o := HO.lst [V.ref q, V.ref q, V.ref q, V.ref q]) hp
            have pb : p ≠ b := fun z => by rw [z, e4 _ _ (e3 _ _ hb2)] at hp; cases hp
            have sq := sqT_same e5 (sqT_same e4 u3)
            rw [← natI_iv] at sq
            refine ⟨p, [V.ref q, V.ref q, V.ref q, V.ref q], 8, [natI (List.range 8), natI (List.range 8), natI (List.range 8), natI (List.range 8)], rfl, ((g1.mv m2).same (e3.trans e4)).same e5, pb, upd_same, ⟨⟨q, rfl, sq⟩, ⟨q, rfl, sq⟩, ⟨q, rfl, sq⟩, ⟨q, rfl, sq⟩, trivial⟩, by decide, by decide, by decide, by decide, by decide, by decide⟩
        rintro σ' H2 ⟨Fa, ps, n, ts, rfl, g2, Fb, hF2, rows2, ok⟩
        have lps := rows2.length
        have lt1 := ok.l1
        have lt4 := ok.l4
        have n1 := ok.n1
        have n8 := ok.n8
        let Tb : Hp → Prop := fun H' => Go Ts b H1 H' ∧ H' Fa = some (.lst ps) ∧ RowsBy (SqT K H') ps ts
        have tbS : ∀ {H' H'' : Hp}, Tb H' → Same H' H'' → Tb H'' := fun h e => ⟨h.1.same e, e _ _ h.2.1, h.2.2.imp fun _ _ z => sqT_same e z⟩
        have tbM : ∀ {H' H'' : Hp}, Tb H' → Mv b H' H'' → Tb H'' := fun h m => ⟨h.1.mv m, m.1 _ _ Fb h.2.1, h.2.2.imp fun _ _ z => h.1.box.elim fun t q => m.sqT q z⟩
        have tbX : ∀ {H' H'' : Hp}, Tb H' → LamX.ExtN H' H'' → LamX.Tabs Ts H'' → Tb H'' := fun h e t => ⟨h.1.ext e t, ext_lst e h.2.1, h.2.2.imp fun _ _ z => ext_sqT e z⟩
        have tbG : ∀ {H' H'' : Hp}, Tb H' → Go Ts b H' H'' → Tb H'' := fun h g => ⟨h.1.trans g, g.lst Fb h.2.1, h.2.2.imp fun _ _ z => h.1.box.elim fun t q => g.sqT q z⟩
        have tb2 : Tb H2 := ⟨g2, hF2, rows2⟩
        refine ⟨fun σ' H' => ∃ (m : Addr) (kk : Nat), σ' = sgX sc (some (.int (i : Int))) (some (.ref b)) (some (.ref Fa)) (some (.ref m)) (some (.int (kk : Nat))) x6 x7 x8 x9 x10 x11 x12 x13 x14 ∧ Tb H' ∧ McAt K CM H' m n ts ∧ 1 ≤ kk ∧ kk ≤ 4, ?_, ?_⟩
        · refine ⟨_, rfl, fun x dx hx hdx ne => mc_make ok (.inl (SqL.of hF2)) (rows2.imp fun _ _ z => .inr z) hx hdx ne fun H3 e3 mc3 => ?_⟩
          have tb3 := tbS tb2 e3
          obtain ⟨t3, hb3⟩ := tb3.1.box
          refine ⟨_, rfl, b, t3, 4, rfl, hb3, by decide, by decide, fun r H4 r0 r4 m4 => ?_⟩
          obtain ⟨r, rfl⟩ : ∃ k : Nat, r = (k : Int) := ⟨r.toNat, by omega⟩
          refine ⟨_, _, rfl, rfl, _, _, rfl, x, 1 + r, ?_, tbM tb3 m4, m4.mc hb3 mc3, by omega, by omega⟩
          have : (1 : Int) + (r : Int) = ((1 + r : Nat) : Int) := by omega
          rw [← this]
          rfl
        clear tb2 g2 hF2 rows2
        rintro σ' H2 ⟨m, kk, rfl, tb2, mc2, kk1, kk4⟩
        have okN := tsOk_of ok
        have gM : Good true (mWords n (natT ts)) := .m okN
        have lnT : (natT ts).length = ts.length := by unfold natT; rw [List.length_map]
        have mB : mTabs (mWords n (natT ts)) = ts := by rw [mTabs_good okN, natT_back ok]
        have mSt : mStates (mWords n (natT ts)) = n := mStates_good okN
        have lenM : (mWords n (natT ts)).length = ts.length + 1 := by unfold mWords; rw [List.length_cons, List.length_map, lnT]
        obtain ⟨q0, hq0, sq0⟩ : ∃ q0, ps[0]? = some (.ref q0) ∧ ∀ {H' : Hp}, Tb H' → ∃ t0 : List Int, t0.length = n ∧ SqT K H' q0 (t0.map V.int) := by
          obtain ⟨t0, ht0⟩ : ∃ t0, ts[0]? = some t0 := ⟨ts[0], List.getElem?_eq_getElem (by omega)⟩
          obtain ⟨q0, h1, _⟩ := tb2.2.2.at_ ht0
          refine ⟨q0, h1, fun h => ?_⟩
          obtain ⟨q1, h2, h3⟩ := h.2.2.at_ ht0
          rw [h1] at h2
          cases h2
          exact ⟨t0, ok.len _ (List.mem_of_getElem? ht0), h3⟩
        have ls : (Str.ofString "states ").length = 7 := by decide +kernel
        refine ⟨fun σ' H' => ∃ (L : Addr) (y13 : Option V), σ' = sgX sc (some (.int (i : Int))) (some (.ref b)) (some (.ref Fa)) (some (.ref m)) (some (.int (kk : Nat))) (some (.ref L)) x7 x8 x9 x10 x11 x12 y13 x14 ∧ Tb H' ∧ McAt K CM H' m n ts ∧ L ≠ b ∧ H' L = some (.lst (((mWords n (natT ts)).map line).map V.str)), ?_, ?_⟩
        · obtain ⟨t0, l0, s0'⟩ := sq0 tb2
          have ln0 := num_len (n := n) (by omega)
          refine ⟨_, rfl, Fa, ps, 0, _, rfl, rfl, SqL.of tb2.2.1, atI_nat hq0, q0, _, rfl, .inr s0', ?_⟩
          rw [List.length_map, l0]
          refine ⟨_, rfl, log_ok (n := n) (by omega), _, _, rfl, rfl, ?_, ?_⟩
          · rw [ls, sizeLine_eq]
            have : (num n).length ≤ 40 := ln0
            show 7 + (num n).length ≤ _
            omega
          refine ⟨(by show 1 ≤ sizeLine; decide), fun l hl' => ?_⟩
          have e3 := same_new (o := HO.lst [V.str (Str.ofString "states " ++ num n)]) hl'
          have u3 : L2.upd H2 l (HO.lst [V.str (Str.ofString "states " ++ num n)]) l = _ := upd_same
          have tb3 := tbS tb2 e3
          obtain ⟨t3, hb3⟩ := tb3.1.box
          generalize L2.upd H2 l (HO.lst [V.str (Str.ofString "states " ++ num n)]) = H3 at *
          refine ⟨_, rfl, Fa, rfl, ⟨_, SqL.of tb3.2.1⟩, fun D0 hD0 => ?_⟩
          refine lc_list (xs := ps) (Part H3 D0 (((natT ts).map fun t => line (nums t)).map V.str)) (Part.zero hD0) (fun j H' _ pt => SqL.of (pt.2 _ _ tb3.2.1)) ?_ ?_
          · rintro j y H4 hy pt
            have hj : j < ts.length := by rw [← lps]; exact (List.getElem?_eq_some_iff.mp hy).1
            have tj : ts[j]? = some ts[j] := List.getElem?_eq_getElem hj
            obtain ⟨q, h1, h2⟩ := tb3.2.2.at_ tj
            rw [hy] at h1
            cases h1
            have nn := ok.nn (List.getElem_mem hj)
            have lj := ok.len _ (List.getElem_mem hj)
            refine ⟨rfl, yes ((if_pos rfl).mpr ?_)⟩
            refine ⟨_, rfl, q, (ts[j]).map Int.toNat, rfl, .inr (by rw [iv_nat fun x hx => (nn x hx).1]; exact sqT_same pt.2 h2), below (by decide) nn, by rw [List.length_map]; omega, fun H5 e5 => ?_⟩
            have ne : (ts[j]).map Int.toNat ≠ [] := fun z => by
              have := congrArg List.length z
              rw [List.length_map] at this
              simp at this
              rw [this] at lj
              simp at lj
              omega
            rw [show rowText ((ts[j]).map Int.toNat) = line (nums ((ts[j]).map Int.toNat)) from if_neg ne]
            refine pt.step hD0 e5 ?_ ?_
            · unfold natT
              rw [List.getElem?_map, List.getElem?_map, List.getElem?_map, tj]
              rfl
            · rw [List.length_map, List.length_map, lnT, sizeLine_eq]
              omega
          · intro H4 pt
            obtain ⟨hD4, e4⟩ := pt.done (by rw [List.length_map, List.length_map, lnT, lps]; exact Nat.le_refl _)
            refine ⟨l, D0, _, _, rfl, rfl, e4 _ _ u3, hD4, by rw [List.length_map, List.length_map, lnT, sizeLine_eq]; show 1 + _ ≤ _; omega, fun L hL => ?_⟩
            have e5 := same_new (o := HO.lst ([V.str (Str.ofString "states " ++ num n)] ++ ((natT ts).map fun t => line (nums t)).map V.str)) hL
            have hb4 := e4 _ _ hb3
            refine ⟨L, _, rfl, tbS tb3 (e4.trans e5), mc2.same (e3.trans (e4.trans e5)), (fun z => by rw [z, hb4] at hL; cases hL), ?_⟩
            rw [upd_same]
            have : [V.str (Str.ofString "states " ++ num n)] ++ ((natT ts).map fun t => line (nums t)).map V.str = ((mWords n (natT ts)).map line).map V.str := by
              rw [← mLines_words]
              unfold mLines
              rw [List.map_cons, List.map_map, List.map_map]
              show V.str _ :: _ = V.str _ :: _
              refine congrArg _ ?_
              rw [List.map_map]
              refine List.map_congr_left fun t _ => ?_
              show V.str (line (nums t)) = V.str (tLine (natI t))
              rw [tLine_natI]
            rw [this]
        clear tb2 mc2
        rintro σ' H2 ⟨L, y13, rfl, tb2, mc2, Lb, hL2⟩
        let LS : List Str := (mWords n (natT ts)).map line
        have oM2 : OkD 1 300000 (.list [.str (text LS), .str (text LS)]) := (okD_list (okA_cons ((okD_text (fun c hc => Nat.lt_of_lt_of_le (gM.sign c hc) (by decide)) gM.tlen)) (okA_cons (okD_text (fun c hc => Nat.lt_of_lt_of_le (gM.sign c hc) (by decide)) gM.tlen) okA_nil))).mono (Nat.le_refl _) (by decide)
        refine ⟨fun σ' H' => ∃ (y13 : Option V), σ' = sgX sc (some (.int (i : Int))) (some (.ref b)) (some (.ref Fa)) (some (.ref m)) (some (.int (kk : Nat))) (some (.ref L)) x7 x8 x9 x10 x11 x12 y13 x14 ∧ Tb H' ∧ McAt K CM H' m n ts ∧ H' L = some (.lst (LS.map V.str)), ?_, ?_⟩
        · refine ⟨_, rfl, m, n, ts, rfl, mc2, fun H3 e3 => ?_⟩
          refine ⟨_, rfl, rfl, rfl, m, n, ts, rfl, mc2.same e3, fun H4 e4 => ?_⟩
          rw [mLines_of ok]
          refine ⟨(by show 2 ≤ sizeLine; decide), fun l hl' => ?_⟩
          have e5 := same_new (o := HO.lst [.str (text LS), .str (text LS)]) hl'
          refine ⟨_, _, rfl, .lst (SqL.of upd_same) (.cons (.str _) (.cons (.str _) .nil)), oM2.sh, oM2.nd, oM2.d60, oM2.line, ?_⟩
          refine ⟨⟨_, rfl⟩, _, rfl, _, L, LS, rfl, rfl, .inl (SqL.of ((e3.trans (e4.trans e5)) _ _ hL2)), gM.sum, (by show 1 ≤ sizeLine; decide), fun l2 hl2 => ?_⟩
          have e6 := same_new (o := HO.lst [.str (text LS)]) hl2
          refine ⟨l2, 2, _, rfl, rfl, upd_same, by decide, by decide, (by show 1 * 2 ≤ sizeLine; decide), fun l3 hl3 => ?_⟩
          have e7 := same_new (o := HO.lst [.str (text LS), .str (text LS)]) hl3
          refine ⟨_, _, rfl, .lst (SqL.of upd_same) (.cons (.str _) (.cons (.str _) .nil)), oM2.sh, oM2.nd, oM2.d60, oM2.line, ?_⟩
          have e := e3.trans (e4.trans (e5.trans (e6.trans e7)))
          refine ⟨rfl, _, rfl, ite2 (fun z => ?_) (fun _ => ?_)⟩
          · exact (not_ne rfl z).elim
          · exact ⟨_, rfl, tbS tb2 e, mc2.same e, e _ _ hL2⟩
        clear tb2 mc2 hL2
        rintro σ' H2 ⟨y13, rfl, tb2, mc2, hL2⟩
        let St1 : L2.St → Hp → Prop := fun σ' H' => ∃ (y13 : Option V) (hd : Addr), σ' = sgX sc (some (.int (i : Int))) (some (.ref b)) (some (.ref Fa)) (some (.ref m)) (some (.int (kk : Nat))) (some (.ref L)) (some (.ref hd)) x8 x9 x10 x11 x12 y13 x14 ∧ Tb H' ∧ McAt K CM H' m n ts ∧ H' L = some (.lst (LS.map V.str)) ∧ hd ≠ b ∧ H' hd = some (.lst (headsM.map V.str))
        refine ⟨St1, ?_, ?_⟩
        · obtain ⟨t2, hb2⟩ := tb2.1.box
          refine ⟨(by show 7 ≤ sizeLine; decide), fun hd hhd => ?_⟩
          have e3 := same_new (o := HO.lst (headsM.map V.str)) hhd
          exact ⟨_, hd, rfl, tbS tb2 e3, mc2.same e3, e3 _ _ hL2, (fun z => by rw [z, hb2] at hhd; cases hhd), upd_same⟩
        clear tb2 mc2 hL2
        rintro σ' H2 ⟨z13, hd, rfl, tb2, mc2, hL2, hdb, hhd2⟩
        refine ⟨St1, ?_, ?_⟩
        · refine ⟨_, rfl, _, rfl, tb2.1.tabs, fun rf c' pm ctv H3 x3 tb3 nf nf3 hc3 => ?_⟩
          have T3 := tbX tb2 x3 tb3
          have mc3 := ext_mc x3 mc2
          have hL3 := ext_lst x3 hL2
          have hhd3 := ext_lst x3 hhd2
          have e4 := same_new (o := LamO rf (rdOb true pm c' ctv)) nf3
          have T4 := tbS T3 e4
          have mc4 := mc3.same e4
          obtain ⟨t4, hb4⟩ := T4.1.box
          refine ⟨_, rfl, _, rfl, b, L, rf, c', m, hd, t4, true, mWords n (natT ts), pm, ctv, headsM, rfl, hb4, Lb, e4 _ _ hL3, upd_same, e4 _ _ hc3, gM, ?_, hdb, SqL.of (e4 _ _ hhd3), by decide, headsM_ok, T4.1.tabs, fun H5 g5 => ?_⟩
          · show McAt K CM _ m (mStates (mWords n (natT ts))) (mTabs (mWords n (natT ts)))
            rw [mB, mSt]
            exact mc4
          · refine ⟨_, rfl, iteF ?_⟩
            exact ⟨_, hd, rfl, tbG T4 g5, g5.mc hb4 mc4, g5.lst Lb (e4 _ _ hL3), hdb, g5.lst hdb (e4 _ _ hhd3)⟩
        clear tb2 mc2 hL2 hhd2 hdb
        rintro σ' H2 ⟨z13, hd, rfl, tb2, mc2, hL2, hdb, hhd2⟩
        let W0 : List Str := Str.ofString "states" :: nums [n]
        obtain ⟨u0, ur, eu⟩ : ∃ u0 ur, natT ts = u0 :: ur := by
          match h : natT ts with
          | [] => rw [h] at lnT; simp at lnT; omega
          | u0 :: ur => exact ⟨u0, ur, rfl⟩
        have eLS : LS.map V.str = .str (line W0) :: .str (line (nums u0)) :: ((ur.map nums).map line).map V.str := by
          show ((mWords n (natT ts)).map line).map V.str = _
          rw [eu]
          rfl
        have mu0 : u0 ∈ natT ts := by rw [eu]; exact List.mem_cons_self ..
        have w0 : WOk W0 := wok_states n8
        have wu : WOk (nums u0) := gM.wok _ (by show nums u0 ∈ mWords n (natT ts); rw [eu]; exact List.mem_cons_of_mem _ (List.mem_cons_self ..))
        refine ⟨St1, ?_, ?_⟩
        · refine ⟨tb2.1.tabs, fun H3 x3 tb3 => ?_⟩
          have T3 := tbX tb2 x3 tb3
          have mc3 := ext_mc x3 mc2
          have hL3 := ext_lst x3 hL2
          have hhd3 := ext_lst x3 hhd2
          rw [eLS, ← text_one (ws := W0)] at hL3
          refine ⟨_, rfl, L, _, 0, _, rfl, rfl, SqL.of hL3, atI_nat (j := 0) rfl, ?_⟩
          rw [text_one, ← eLS] at hL3
          refine RdI.bad (C := C) (i := true) (lss := [W0]) (lines_wok (by simp) (fun ws hw => by rw [List.mem_singleton.mp hw]; exact w0) (by simp)) (mBad_one n1 n8) ?_
          refine fun d H6 eD hd' => ⟨d, _, rfl, rfl, hd', fun p2 H7 eE hp2 => ?_⟩
          refine ⟨(by show 3 ≤ sizeLine; decide), fun w2 hw2 => ?_⟩
          have eF := same_new (o := HO.tup [.str "text", .int 2, .bl true]) hw2
          refine ⟨p2, w2, _, rfl, rfl, sqT_same eF hp2, SqT.of upd_same, flat3, _, rfl, iteF ?_⟩
          have e := eD.trans (eE.trans eF)
          exact ⟨_, hd, rfl, tbS T3 e, mc3.same e, e _ _ hL3, hdb, e _ _ hhd3⟩
        clear tb2 mc2 hL2 hhd2 hdb
        rintro σ' H2 ⟨z13, hd, rfl, tb2, mc2, hL2, hdb, hhd2⟩
        refine ⟨St1, ?_, ?_⟩
        · refine ⟨tb2.1.tabs, fun H3 x3 tb3 => ?_⟩
          have T3 := tbX tb2 x3 tb3
          have mc3 := ext_mc x3 mc2
          have hL3 := ext_lst x3 hL2
          have hhd3 := ext_lst x3 hhd2
          rw [eLS] at hL3
          refine ⟨⟨_, rfl⟩, _, rfl, 1, rfl, L, _, rfl, SqL.of hL3, fun p hp => ?_⟩
          rw [cut_1]
          have e4 := same_new (o := HO.lst [V.str (line W0)]) hp
          refine ⟨_, rfl, 1, rfl, 2, rfl, L, _, rfl, SqL.of (e4 _ _ hL3), fun q hq => ?_⟩
          rw [cut_12]
          have e5 := same_new (o := HO.lst [V.str (line (nums u0))]) hq
          refine ⟨q, 5, _, rfl, rfl, upd_same, by decide, by decide, (by show 1 * 5 ≤ sizeLine; decide), fun r hr2 => ?_⟩
          have e6 := same_new (o := HO.lst (List.replicate (Int.toNat 5) [V.str (line (nums u0))]).flatten) hr2
          refine ⟨p, r, _, _, rfl, rfl, (e5.trans e6) _ _ upd_same, upd_same, (by show 6 ≤ sizeLine; decide), fun u hu => ?_⟩
          have e7 := same_new (o := HO.lst ([V.str (line W0)] ++ (List.replicate (Int.toNat 5) [V.str (line (nums u0))]).flatten)) hu
          have wk6 : ∀ ws ∈ W0 :: List.replicate 5 (nums u0), WOk ws := fun ws hw => by
            rcases List.mem_cons.mp hw with rfl | hw
            · exact w0
            · rw [List.eq_of_mem_replicate hw]; exact wu
          refine ⟨_, u, (W0 :: List.replicate 5 (nums u0)).map line, rfl, rfl, .inl (SqL.of upd_same), sum_wok wk6 (by simp), ?_⟩
          refine RdI.bad (C := C) (i := true) (lss := W0 :: List.replicate 5 (nums u0)) (lines_wok (by simp) wk6 (by simp)) (mBad_five n1 n8 (okN.len _ mu0) (okN.lt _ mu0)) ?_
          refine fun d H6 eD hd' => ⟨d, _, rfl, rfl, hd', fun p2 H7 eE hp2 => ?_⟩
          refine ⟨(by show 3 ≤ sizeLine; decide), fun w2 hw2 => ?_⟩
          have eF := same_new (o := HO.tup [.str "text", .int 6, .bl true]) hw2
          refine ⟨p2, w2, _, rfl, rfl, sqT_same eF hp2, SqT.of upd_same, flat3, _, rfl, iteF ?_⟩
          have e := e4.trans (e5.trans (e6.trans (e7.trans (eD.trans (eE.trans eF)))))
          rw [← eLS] at hL3
          exact ⟨_, hd, rfl, tbS T3 e, mc3.same e, e _ _ hL3, hdb, e _ _ hhd3⟩
        clear tb2 mc2 hL2 hhd2 hdb
        rintro σ' H2 ⟨z13, hd, rfl, tb2, mc2, hL2, hdb, hhd2⟩
        refine ⟨fun σ' H' => ∃ (p8 : Addr) (rs : List Nat) (y14 : Option V), σ' = sgX sc (some (.int (i : Int))) (some (.ref b)) (some (.ref Fa)) (some (.ref m)) (some (.int (kk : Nat))) (some (.ref L)) (some (.ref hd)) (some (.ref p8)) x9 x10 x11 x12 z13 y14 ∧ Tb H' ∧ McAt K CM H' m n ts ∧ SqT K H' p8 (iv rs) ∧ rs.length = kk ∧ ∀ x ∈ rs, x < 61, ?_, ?_⟩
        · refine ⟨_, rfl, kk, rfl, by omega, by omega, fun D2 hD2 => ?_⟩
          obtain ⟨t2, hb2⟩ := tb2.1.box
          have nb2 : D2 ≠ b := fun z => by rw [z, hb2] at hD2; cases hD2
          refine lc_range (lo := 0) (n := kk) (fun i H' => ∃ ns : List Nat, H' D2 = some (.lst (iv ns)) ∧ Mv b H2 H' ∧ ns.length = i ∧ ∀ x ∈ ns, x < 61) ⟨[], upd_same, (Mv.refl hb2).put hD2 nb2, rfl, fun x hx => by cases hx⟩ ?_ ?_
          · rintro j H8 hj ⟨ns', hn, m8, l8, a8⟩
            obtain ⟨t8, hb8⟩ := m8.2
            refine ⟨rfl, yes ((if_pos rfl).mpr ?_)⟩
            refine ⟨_, rfl, _, rfl, b, t8, _, rfl, hb8, by decide, by decide, fun r H9 r0 r1 m9 => ?_⟩
            obtain ⟨r, rfl⟩ : ∃ k : Nat, r = (k : Int) := ⟨r.toNat, by omega⟩
            obtain ⟨t9, hb9⟩ := m9.2
            refine ⟨(by show 5 ≤ sizeLine; decide), fun l hl' => ?_⟩
            have lb : l ≠ b := fun z => by rw [z, hb9] at hl'; cases hl'
            have eA := same_new (o := HO.lst (iv [0, 1, 2, 60, r])) hl'
            have uA : SqL K (L2.upd H9 l (HO.lst (iv [0, 1, 2, 60, r]))) l (iv [0, 1, 2, 60, r]) := SqL.of upd_same
            refine ⟨b, l, t9, iv [0, 1, 2, 60, r], rfl, eA _ _ hb9, lb, uA, (by show 0 < 5; decide), (by show 5 < 1073741824; decide), fun x HB hx mB => ?_⟩
            obtain ⟨x, hx', rfl⟩ := List.mem_map.mp hx
            have mA := m9.trans ((Mv.refl hb9).same eA |>.trans mB)
            have x61 : x < 61 := by
              simp only [List.mem_cons, List.not_mem_nil, or_false] at hx'
              omega
            refine ⟨iv ns', mA.1 _ _ nb2 hn, by rw [iv_len, sizeLine_eq]; omega, ns' ++ [x], ?_, (m8.trans mA).put hD2 nb2, by rw [List.length_append, l8]; rfl, fun y hy => ?_⟩
            · rw [upd_same]
              unfold iv
              rw [List.map_append, List.map_singleton]
            · rcases List.mem_append.mp hy with h | h
              · exact a8 y h
              · rw [List.mem_singleton.mp h]
                exact x61
          · rintro H8 ⟨ns', hn, m8, l8, a8⟩
            refine ⟨D2, _, rfl, .inl (SqL.of hn), fun q H9 e9 hq => ?_⟩
            have m9 := m8.same e9
            exact ⟨q, ns', _, rfl, tbM tb2 m9, m9.mc hb2 mc2, hq, l8, a8⟩
        clear tb2 mc2 hL2 hhd2
        rintro σ' H2 ⟨p8, rs, z14, rfl, tb2, mc2, hr2, lrs, rlt⟩
        let NR : Hp → Prop := fun H' => Tb H' ∧ McAt K CM H' m n ts ∧ SqT K H' p8 (iv rs)
        refine ⟨fun σ' H' => ∃ (p9 : Addr) (es : List Nat) (y14 : Option V), σ' = sgX sc (some (.int (i : Int))) (some (.ref b)) (some (.ref Fa)) (some (.ref m)) (some (.int (kk : Nat))) (some (.ref L)) (some (.ref hd)) (some (.ref p8)) (some (.ref p9)) x10 x11 x12 z13 y14 ∧ NR H' ∧ SqT K H' p9 (iv es) ∧ es.length = kk ∧ ∀ x ∈ es, x < 7, ?_, ?_⟩
        · refine ⟨_, rfl, kk, rfl, by omega, by omega, fun D2 hD2 => ?_⟩
          obtain ⟨t2, hb2⟩ := tb2.1.box
          have nb2 : D2 ≠ b := fun z => by rw [z, hb2] at hD2; cases hD2
          refine lc_range (lo := 0) (n := kk) (fun i H' => ∃ ns : List Nat, H' D2 = some (.lst (iv ns)) ∧ Mv b H2 H' ∧ ns.length = i ∧ ∀ x ∈ ns, x < 7) ⟨[], upd_same, (Mv.refl hb2).put hD2 nb2, rfl, fun x hx => by cases hx⟩ ?_ ?_
          · rintro j H8 hj ⟨ns', hn, m8, l8, a8⟩
            obtain ⟨t8, hb8⟩ := m8.2
            refine ⟨rfl, yes ((if_pos rfl).mpr ?_)⟩
            refine ⟨_, rfl, _, rfl, b, t8, _, rfl, hb8, by decide, by decide, fun r H9 r0 r1 m9 => ?_⟩
            obtain ⟨r, rfl⟩ : ∃ k : Nat, r = (k : Int) := ⟨r.toNat, by omega⟩
            obtain ⟨t9, hb9⟩ := m9.2
            refine ⟨(by show 3 ≤ sizeLine; decide), fun l hl' => ?_⟩
            have lb : l ≠ b := fun z => by rw [z, hb9] at hl'; cases hl'
            have eA := same_new (o := HO.lst (iv [0, 0, r])) hl'
            have uA : SqL K (L2.upd H9 l (HO.lst (iv [0, 0, r]))) l (iv [0, 0, r]) := SqL.of upd_same
            refine ⟨b, l, t9, iv [0, 0, r], rfl, eA _ _ hb9, lb, uA, (by show 0 < 3; decide), (by show 3 < 1073741824; decide), fun x HB hx mB => ?_⟩
            obtain ⟨x, hx', rfl⟩ := List.mem_map.mp hx
            have mA := m9.trans ((Mv.refl hb9).same eA |>.trans mB)
            have x61 : x < 7 := by
              simp only [List.mem_cons, List.not_mem_nil, or_false] at hx'
              omega
            refine ⟨iv ns', mA.1 _ _ nb2 hn, by rw [iv_len, sizeLine_eq]; omega, ns' ++ [x], ?_, (m8.trans mA).put hD2 nb2, by rw [List.length_append, l8]; rfl, fun y hy => ?_⟩
            · rw [upd_same]
              unfold iv
              rw [List.map_append, List.map_singleton]
            · rcases List.mem_append.mp hy with h | h
              · exact a8 y h
              · rw [List.mem_singleton.mp h]
                exact x61
          · rintro H8 ⟨ns', hn, m8, l8, a8⟩
            refine ⟨D2, _, rfl, .inl (SqL.of hn), fun q H9 e9 hq => ?_⟩
            have m9 := m8.same e9
            exact ⟨q, ns', _, rfl, ⟨tbM tb2 m9, m9.mc hb2 mc2, m9.sqT hb2 hr2⟩, hq, l8, a8⟩
        clear tb2 mc2 hr2
        rintro σ' H2 ⟨p9, es, z14, rfl, ⟨tb2, mc2, hr2⟩, he2, les, elt⟩
        have rne : rs ≠ [] := fun z => by rw [z] at lrs; simp at lrs; omega
        have ene : es ≠ [] := fun z => by rw [z] at les; simp at les; omega
        have gC : Good false (cWords rs es) := .c (by omega) (by omega) (by omega) rlt elt
        have ck : Cok (natI rs) (natI es) := by
          refine ⟨by rw [natI_len]; omega, by rw [natI_len]; omega, by rw [natI_len, natI_len]; omega, fun x hx => ?_, fun x hx => ?_⟩
          · obtain ⟨y, hy, rfl⟩ := List.mem_map.mp hx
            have := rlt y hy
            omega
          · obtain ⟨y, hy, rfl⟩ := List.mem_map.mp hx
            have := elt y hy
            omega
        have r40 : ∀ x ∈ rs, x < 10 ^ 40 := fun x hx => Nat.lt_of_lt_of_le (rlt x hx) (by decide)
        have e40 : ∀ x ∈ es, x < 10 ^ 40 := fun x hx => Nat.lt_of_lt_of_le (elt x hx) (by decide)
        let RW : List Str := Str.ofString "rounds" :: nums rs
        let EW : List Str := Str.ofString "rests" :: nums es
        have eR : Str.ofString "rounds " ++ rowText rs = line RW := lead_row (by decide +kernel) rne
        have eE : Str.ofString "rests " ++ rowText es = line EW := lead_row (by decide +kernel) ene
        have wR : WOk RW := gC.wok RW (List.mem_cons_self ..)
        have wE : WOk EW := gC.wok EW (List.mem_cons_of_mem _ (List.mem_cons_self ..))
        let LC : List Str := (cWords rs es).map line
        have eLC : LC.map V.str = [.str (line RW), .str (line EW)] := rfl
        have l7 : (Str.ofString "rounds ").length = 7 := by decide +kernel
        have l6 : (Str.ofString "rests ").length = 6 := by decide +kernel
        have tR := row_len r40
        have tE := row_len e40
        let NC : Addr → Addr → Hp → Prop := fun c Lc H' => Tb H' ∧ McAt K CM H' m n ts ∧ SqT K H' p8 (iv rs) ∧ SqT K H' p9 (iv es) ∧ CnAt K C H' c (natI rs) (natI es) ∧ H' Lc = some (.lst (LC.map V.str)) ∧ Lc ≠ b
        have ncS : ∀ {c Lc : Addr} {H' H'' : Hp}, NC c Lc H' → Same H' H'' → NC c Lc H'' := fun h e => ⟨tbS h.1 e, h.2.1.same e, sqT_same e h.2.2.1, sqT_same e h.2.2.2.1, h.2.2.2.2.1.same e, e _ _ h.2.2.2.2.2.1, h.2.2.2.2.2.2⟩
        have ncX : ∀ {c Lc : Addr} {H' H'' : Hp}, NC c Lc H' → LamX.ExtN H' H'' → LamX.Tabs Ts H'' → NC c Lc H'' := fun h e t => ⟨tbX h.1 e t, ext_mc e h.2.1, ext_sqT e h.2.2.1, ext_sqT e h.2.2.2.1, ext_cn e h.2.2.2.2.1, ext_lst e h.2.2.2.2.2.1, h.2.2.2.2.2.2⟩
        have ncG : ∀ {c Lc : Addr} {H' H'' : Hp}, NC c Lc H' → Go Ts b H' H'' → NC c Lc H'' := fun h g => by
          obtain ⟨t, hb⟩ := h.1.1.box
          exact ⟨tbG h.1 g, g.mc hb h.2.1, g.sqT hb h.2.2.1, g.sqT hb h.2.2.2.1, g.cn hb h.2.2.2.2.1, g.lst h.2.2.2.2.2.2 h.2.2.2.2.2.1, h.2.2.2.2.2.2⟩
        refine ⟨fun σ' H' => ∃ (c Lc : Addr), σ' = sgX sc (some (.int (i : Int))) (some (.ref b)) (some (.ref Fa)) (some (.ref m)) (some (.int (kk : Nat))) (some (.ref Lc)) (some (.ref hd)) (some (.ref p8)) (some (.ref p9)) (some (.ref c)) x11 x12 z13 z14 ∧ NC c Lc H', ?_, ?_⟩
        · refine ⟨_, rfl, _, rfl, fun x dx hx hdx ne => make_good ck (.seq (.inr (by rw [natI_iv]; exact hr2))) (.inr (.seq (.inr (by rw [natI_iv]; exact he2)))) hx hdx ne fun H3 e3 cn3 => ?_⟩
          have tb3 := tbS tb2 e3
          obtain ⟨t3, hb3⟩ := tb3.1.box
          refine ⟨_, rfl, p8, rs, rfl, .inr (sqT_same e3 hr2), r40, by omega, fun H4 e4 => ⟨_, _, rfl, rfl, by rw [l7, sizeLine_eq]; omega, ?_⟩⟩
          refine ⟨_, rfl, p9, es, rfl, .inr (sqT_same (e3.trans e4) he2), e40, by omega, fun H5 e5 => ⟨_, _, rfl, rfl, by rw [l6, sizeLine_eq]; omega, ?_⟩⟩
          rw [eR, eE]
          refine ⟨(by show 2 ≤ sizeLine; decide), fun l hl' => ?_⟩
          have e6 := same_new (o := HO.lst (LC.map V.str)) hl'
          have lb : l ≠ b := fun z => by rw [z, (e4.trans e5) _ _ hb3] at hl'; cases hl'
          have u6 : L2.upd H5 l (HO.lst (LC.map V.str)) l = some (HO.lst (LC.map V.str)) := upd_same
          rw [eLC] at e6 u6
          refine ⟨(by show 2 ≤ sizeLine; decide), fun p hp => ?_⟩
          have e7 := same_new (o := HO.tup [.ref x, .ref l]) hp
          refine ⟨p, _, rfl, SqT.of upd_same, rfl, ?_⟩
          refine ⟨_, _, rfl, _, _, rfl, rfl, ?_⟩
          have e := e4.trans (e5.trans (e6.trans e7))
          exact ⟨x, l, rfl, tbS tb3 e, mc2.same (e3.trans e), sqT_same (e3.trans e) hr2, sqT_same (e3.trans e) he2, cn3.same e, by rw [eLC]; exact e7 _ _ u6, lb⟩
        clear tb2 mc2 hr2 he2
        rintro σ' H2 ⟨c, Lc, rfl, nc2⟩
        have Lcb : Lc ≠ b := nc2.2.2.2.2.2.2
        have oC2 : OkD 1 300000 (.list [.str (text LC), .str (text LC)]) := (okD_list (okA_cons ((okD_text (fun c hc => Nat.lt_of_lt_of_le (gC.sign c hc) (by decide)) gC.tlen)) (okA_cons (okD_text (fun c hc => Nat.lt_of_lt_of_le (gC.sign c hc) (by decide)) gC.tlen) okA_nil))).mono (Nat.le_refl _) (by decide)
        refine ⟨fun σ' H' => σ' = sgX sc (some (.int (i : Int))) (some (.ref b)) (some (.ref Fa)) (some (.ref m)) (some (.int (kk : Nat))) (some (.ref Lc)) (some (.ref hd)) (some (.ref p8)) (some (.ref p9)) (some (.ref c)) x11 x12 z13 z14 ∧ NC c Lc H', ?_, ?_⟩
        · refine ⟨_, rfl, c, natI rs, natI es, rfl, nc2.2.2.2.2.1, fun H3 e3 => ?_⟩
          refine ⟨_, rfl, rfl, rfl, c, natI rs, natI es, rfl, nc2.2.2.2.2.1.same e3, fun H4 e4 => ?_⟩
          rw [cLines_words rne ene]
          refine ⟨(by show 2 ≤ sizeLine; decide), fun l hl' => ?_⟩
          have e5 := same_new (o := HO.lst [.str (text LC), .str (text LC)]) hl'
          refine ⟨_, _, rfl, .lst (SqL.of upd_same) (.cons (.str _) (.cons (.str _) .nil)), oC2.sh, oC2.nd, oC2.d60, oC2.line, ?_⟩
          refine ⟨⟨_, rfl⟩, _, rfl, _, Lc, LC, rfl, rfl, .inl (SqL.of ((e3.trans (e4.trans e5)) _ _ nc2.2.2.2.2.2.1)), gC.sum, (by show 1 ≤ sizeLine; decide), fun l2 hl2 => ?_⟩
          have e6 := same_new (o := HO.lst [.str (text LC)]) hl2
          refine ⟨l2, 2, _, rfl, rfl, upd_same, by decide, by decide, (by show 1 * 2 ≤ sizeLine; decide), fun l3 hl3 => ?_⟩
          have e7 := same_new (o := HO.lst [.str (text LC), .str (text LC)]) hl3
          refine ⟨_, _, rfl, .lst (SqL.of upd_same) (.cons (.str _) (.cons (.str _) .nil)), oC2.sh, oC2.nd, oC2.d60, oC2.line, ?_⟩
          have e := e3.trans (e4.trans (e5.trans (e6.trans e7)))
          refine ⟨rfl, _, rfl, ite2 (fun z => ?_) (fun _ => ?_)⟩
          · exact (not_ne rfl z).elim
          · exact ⟨rfl, ncS nc2 e⟩
        clear nc2
        rintro σ' H2 ⟨rfl, nc2⟩
        let St2 : L2.St → Hp → Prop := fun σ' H' => ∃ hd : Addr, σ' = sgX sc (some (.int (i : Int))) (some (.ref b)) (some (.ref Fa)) (some (.ref m)) (some (.int (kk : Nat))) (some (.ref Lc)) (some (.ref hd)) (some (.ref p8)) (some (.ref p9)) (some (.ref c)) x11 x12 z13 z14 ∧ NC c Lc H' ∧ hd ≠ b ∧ H' hd = some (.lst (headsC.map V.str))
        refine ⟨St2, ?_, ?_⟩
        · obtain ⟨t2, hb2⟩ := nc2.1.1.box
          refine ⟨(by show 8 ≤ sizeLine; decide), fun hd hhd => ?_⟩
          have e3 := same_new (o := HO.lst (headsC.map V.str)) hhd
          exact ⟨hd, rfl, ncS nc2 e3, (fun z => by rw [z, hb2] at hhd; cases hhd), upd_same⟩
        clear nc2
        rintro σ' H2 ⟨hd2, rfl, nc2, hdb, hhd2⟩
        refine ⟨St2, ?_, ?_⟩
        · refine ⟨_, rfl, _, rfl, nc2.1.1.tabs, fun rf c' pm ctv H3 x3 tb3 nf nf3 hc3 => ?_⟩
          have e4 := same_new (o := LamO rf (rdOb false pm c' ctv)) nf3
          have N4 := ncS (ncX nc2 x3 tb3) e4
          have hhd4 := e4 _ _ (ext_lst x3 hhd2)
          obtain ⟨t4, hb4⟩ := N4.1.1.box
          refine ⟨_, rfl, _, rfl, b, Lc, rf, c', c, hd2, t4, false, cWords rs es, pm, ctv, headsC, rfl, hb4, Lcb, N4.2.2.2.2.2.1, upd_same, e4 _ _ hc3, gC, ?_, hdb, SqL.of hhd4, by decide, headsC_ok, N4.1.1.tabs, fun H5 g5 => ?_⟩
          · show CnAt K C _ c (natI (cRounds (cWords rs es))) (natI (cRests (cWords rs es)))
            rw [cRounds_good rlt, cRests_good elt]
            exact N4.2.2.2.2.1
          · refine ⟨_, rfl, iteF ?_⟩
            exact ⟨hd2, rfl, ncG N4 g5, hdb, g5.lst hdb hhd4⟩
        clear nc2 hhd2 hdb
        rintro σ' H2 ⟨hd3, rfl, nc2, hdb, hhd2⟩
        let St3 : L2.St → Hp → Prop := fun σ' H' => ∃ y11 y12, σ' = sgX sc (some (.int (i : Int))) (some (.ref b)) (some (.ref Fa)) (some (.ref m)) (some (.int (kk : Nat))) (some (.ref Lc)) (some (.ref hd3)) (some (.ref p8)) (some (.ref p9)) (some (.ref c)) y11 y12 z13 z14 ∧ NC c Lc H'
        refine ⟨St3, ?_, ?_⟩
        · have hL2 := nc2.2.2.2.2.2.1
          rw [eLC] at hL2
          have lwR : LW [RW] := ⟨by simp, by simp, fun ws hw => by rw [List.mem_singleton.mp hw]; exact wR.lw⟩
          have lw2 : ∀ {ws : List Str}, (ws ≠ [] ∧ ws.length ≤ 1000 ∧ ∀ w ∈ ws, Word w) → LW [RW, ws] := fun h => ⟨by simp, by simp, fun ws hw => by
            simp only [List.mem_cons, List.not_mem_nil, or_false] at hw
            rcases hw with rfl | rfl
            · exact wR.lw
            · exact h⟩
          have lw3 : LW [RW, EW, [Str.ofString ""]] := ⟨by simp, by simp, fun ws hw => by
            simp only [List.mem_cons, List.not_mem_nil, or_false] at hw
            rcases hw with rfl | rfl | rfl
            · exact wR.lw
            · exact wE.lw
            · exact ⟨by simp, by simp, wd_one (word_ "")⟩⟩
          have lE0 : ∀ k ∈ es ++ [0], k < 10 ^ 40 := fun k hk => by
            rcases List.mem_append.mp hk with h | h
            · exact e40 k h
            · rw [List.mem_singleton.mp h]
              exact Nat.pos_of_ne_zero (by simp)
          have wE0 : WOk (Str.ofString "rests" :: nums (es ++ [0])) := wok_named (word_ "rests") (by simp) (by rw [List.length_append, List.length_singleton]; omega) lE0
          have eE0 : Str.ofString "rests " ++ rowText (es ++ [0]) = line (Str.ofString "rests" :: nums (es ++ [0])) := lead_row (by decide +kernel) (by simp)
          have tE0 := row_len lE0
          rw [List.length_append, List.length_singleton] at tE0
          have e7 : Str.ofString "rests 7" = line [Str.ofString "rests", Str.ofString "7"] := by decide +kernel
          have e0 : Str.ofString "" = line [Str.ofString ""] := by decide +kernel
          have b3 := cBad_more (by omega : 1 ≤ rs.length) (by omega) (by omega : es.length = rs.length) rlt elt
          have FF : Same H2 H2 := Same.refl H2
          refine ⟨_, rfl, 1, rfl, Lc, _, rfl, SqL.of (FF _ _ hL2), fun p1 hp1 => ?_⟩
          rw [cut_1]
          have ee1 := same_new (o := HO.lst [V.str (line RW)]) hp1
          have u_p1 := upd_same (H := H2) (a := p1) (o := HO.lst [V.str (line RW)])
          replace FF := FF.trans ee1
          clear hp1 ee1
          generalize L2.upd H2 p1 (HO.lst [V.str (line RW)]) = G1 at FF u_p1 ⊢
          refine ⟨(by show 2 ≤ sizeLine; decide), fun q1 hq1 => ?_⟩
          have ee2 := same_new (o := HO.tup [V.ref p1, V.int 2]) hq1
          have u_q1 := upd_same (H := G1) (a := q1) (o := HO.tup [V.ref p1, V.int 2])
          replace FF := FF.trans ee2
          replace u_p1 := ee2 _ _ u_p1
          clear hq1 ee2
          generalize L2.upd G1 q1 (HO.tup [V.ref p1, V.int 2]) = G2 at FF u_p1 u_q1 ⊢
          have P1 : Pr K G2 (.ref q1) := ⟨q1, p1, [RW], 2, rfl, SqT.of u_q1, u_p1, lwR, cBad_lone (by omega) (by omega) rlt⟩
          clear u_q1
          clear u_p1
          refine ⟨_, rfl, ?_⟩
          refine ⟨(by show 1 ≤ sizeLine; decide), fun l2 hl2 => ?_⟩
          have ee3 := same_new (o := HO.lst [V.str (Str.ofString "")]) hl2
          have u_l2 := upd_same (H := G2) (a := l2) (o := HO.lst [V.str (Str.ofString "")])
          replace FF := FF.trans ee3
          replace P1 := P1.same ee3
          clear hl2 ee3
          generalize L2.upd G2 l2 (HO.lst [V.str (Str.ofString "")]) = G3 at FF P1 u_l2 ⊢
          refine ⟨Lc, l2, _, _, rfl, rfl, FF _ _ hL2, u_l2, (by show 3 ≤ sizeLine; decide), fun r2 hr2 => ?_⟩
          have ee4 := same_new (o := HO.lst ([V.str (line RW), V.str (line EW)] ++ [V.str (Str.ofString "")])) hr2
          have u_r2 := upd_same (H := G3) (a := r2) (o := HO.lst ([V.str (line RW), V.str (line EW)] ++ [V.str (Str.ofString "")]))
          replace FF := FF.trans ee4
          replace P1 := P1.same ee4
          replace u_l2 := ee4 _ _ u_l2
          clear hr2 ee4
          generalize L2.upd G3 r2 (HO.lst ([V.str (line RW), V.str (line EW)] ++ [V.str (Str.ofString "")])) = G4 at FF P1 u_l2 u_r2 ⊢
          have x2 : [V.str (line RW), V.str (line EW)] ++ [V.str (Str.ofString "")] = ([RW, EW, [Str.ofString ""]].map line).map V.str := by rw [e0]; rfl
          rw [x2] at u_r2
          clear u_l2
          refine ⟨(by show 2 ≤ sizeLine; decide), fun q2 hq2 => ?_⟩
          have ee5 := same_new (o := HO.tup [V.ref r2, V.int 3]) hq2
          have u_q2 := upd_same (H := G4) (a := q2) (o := HO.tup [V.ref r2, V.int 3])
          replace FF := FF.trans ee5
          replace P1 := P1.same ee5
          replace u_r2 := ee5 _ _ u_r2
          clear hq2 ee5
          generalize L2.upd G4 q2 (HO.tup [V.ref r2, V.int 3]) = G5 at FF P1 u_r2 u_q2 ⊢
          have P2 : Pr K G5 (.ref q2) := ⟨q2, r2, [RW, EW, [Str.ofString ""]], 3, rfl, SqT.of u_q2, u_r2, lw3, b3⟩
          clear u_q2
          clear u_r2
          refine ⟨_, rfl, 1, rfl, Lc, _, rfl, SqL.of (FF _ _ hL2), fun p3 hp3 => ?_⟩
          rw [cut_1]
          have ee6 := same_new (o := HO.lst [V.str (line RW)]) hp3
          have u_p3 := upd_same (H := G5) (a := p3) (o := HO.lst [V.str (line RW)])
          replace FF := FF.trans ee6
          replace P1 := P1.same ee6
          replace P2 := P2.same ee6
          clear hp3 ee6
          generalize L2.upd G5 p3 (HO.lst [V.str (line RW)]) = G6 at FF P1 P2 u_p3 ⊢
          refine ⟨_, rfl, ?_⟩
          refine ⟨(by show 1 ≤ sizeLine; decide), fun t3 ht3 => ?_⟩
          have ee7 := same_new (o := HO.tup [V.int 0]) ht3
          have u_t3 := upd_same (H := G6) (a := t3) (o := HO.tup [V.int 0])
          replace FF := FF.trans ee7
          replace P1 := P1.same ee7
          replace P2 := P2.same ee7
          replace u_p3 := ee7 _ _ u_p3
          clear ht3 ee7
          generalize L2.upd G6 t3 (HO.tup [V.int 0]) = G7 at FF P1 P2 u_p3 u_t3 ⊢
          refine ⟨p9, t3, iv es, [.int 0], rfl, rfl, sqT_same FF nc2.2.2.2.1, SqT.of u_t3, (by rw [iv_len, sizeLine_eq]; show _ + 1 ≤ _; omega), fun v3 Ga ea hv3 => ?_⟩
          have hv3b : SqT K Ga v3 (iv (es ++ [0])) := by
            unfold iv at hv3 ⊢
            rw [List.map_append]
            exact hv3
          refine ⟨v3, es ++ [0], rfl, .inr hv3b, lE0, (by rw [List.length_append, List.length_singleton]; omega), fun Gb eb => ⟨_, _, rfl, rfl, (by rw [l6, sizeLine_eq]; omega), ?_⟩⟩
          rw [eE0]
          clear u_t3
          replace FF := FF.trans (ea.trans eb)
          replace P1 := P1.same (ea.trans eb)
          replace P2 := P2.same (ea.trans eb)
          replace u_p3 := (ea.trans eb) _ _ u_p3
          clear hv3 hv3b ea eb
          refine ⟨(by show 1 ≤ sizeLine; decide), fun l3 hl3 => ?_⟩
          have ee8 := same_new (o := HO.lst [V.str (line (Str.ofString "rests" :: nums (es ++ [0])))]) hl3
          have u_l3 := upd_same (H := Gb) (a := l3) (o := HO.lst [V.str (line (Str.ofString "rests" :: nums (es ++ [0])))])
          replace FF := FF.trans ee8
          replace P1 := P1.same ee8
          replace P2 := P2.same ee8
          replace u_p3 := ee8 _ _ u_p3
          clear hl3 ee8
          generalize L2.upd Gb l3 (HO.lst [V.str (line (Str.ofString "rests" :: nums (es ++ [0])))]) = G8 at FF P1 P2 u_p3 u_l3 ⊢
          refine ⟨p3, l3, _, _, rfl, rfl, u_p3, u_l3, (by show 2 ≤ sizeLine; decide), fun r3 hr3 => ?_⟩
          have ee9 := same_new (o := HO.lst ([V.str (line RW)] ++ [V.str (line (Str.ofString "rests" :: nums (es ++ [0])))])) hr3
          have u_r3 := upd_same (H := G8) (a := r3) (o := HO.lst ([V.str (line RW)] ++ [V.str (line (Str.ofString "rests" :: nums (es ++ [0])))]))
          replace FF := FF.trans ee9
          replace P1 := P1.same ee9
          replace P2 := P2.same ee9
          replace u_p3 := ee9 _ _ u_p3
          replace u_l3 := ee9 _ _ u_l3
          clear hr3 ee9
          generalize L2.upd G8 r3 (HO.lst ([V.str (line RW)] ++ [V.str (line (Str.ofString "rests" :: nums (es ++ [0])))])) = G9 at FF P1 P2 u_p3 u_l3 u_r3 ⊢
          clear u_l3
          clear u_p3
          refine ⟨(by show 2 ≤ sizeLine; decide), fun q3 hq3 => ?_⟩
          have ee10 := same_new (o := HO.tup [V.ref r3, V.int 2]) hq3
          have u_q3 := upd_same (H := G9) (a := q3) (o := HO.tup [V.ref r3, V.int 2])
          replace FF := FF.trans ee10
          replace P1 := P1.same ee10
          replace P2 := P2.same ee10
          replace u_r3 := ee10 _ _ u_r3
          clear hq3 ee10
          generalize L2.upd G9 q3 (HO.tup [V.ref r3, V.int 2]) = G10 at FF P1 P2 u_r3 u_q3 ⊢
          have P3 : Pr K G10 (.ref q3) := ⟨q3, r3, [RW, Str.ofString "rests" :: nums (es ++ [0])], 2, rfl, SqT.of u_q3, u_r3, lw2 wE0.lw, cBad_two (by omega) (by omega) rlt (rests_more (by omega) elt)⟩
          clear u_q3
          clear u_r3
          refine ⟨_, rfl, 1, rfl, Lc, _, rfl, SqL.of (FF _ _ hL2), fun p4 hp4 => ?_⟩
          rw [cut_1]
          have ee11 := same_new (o := HO.lst [V.str (line RW)]) hp4
          have u_p4 := upd_same (H := G10) (a := p4) (o := HO.lst [V.str (line RW)])
          replace FF := FF.trans ee11
          replace P1 := P1.same ee11
          replace P2 := P2.same ee11
          replace P3 := P3.same ee11
          clear hp4 ee11
          generalize L2.upd G10 p4 (HO.lst [V.str (line RW)]) = G11 at FF P1 P2 P3 u_p4 ⊢
          refine ⟨(by show 1 ≤ sizeLine; decide), fun l4 hl4 => ?_⟩
          have ee12 := same_new (o := HO.lst [V.str (Str.ofString "rests 7")]) hl4
          have u_l4 := upd_same (H := G11) (a := l4) (o := HO.lst [V.str (Str.ofString "rests 7")])
          replace FF := FF.trans ee12
          replace P1 := P1.same ee12
          replace P2 := P2.same ee12
          replace P3 := P3.same ee12
          replace u_p4 := ee12 _ _ u_p4
          clear hl4 ee12
          generalize L2.upd G11 l4 (HO.lst [V.str (Str.ofString "rests 7")]) = G12 at FF P1 P2 P3 u_p4 u_l4 ⊢
          refine ⟨p4, l4, _, _, rfl, rfl, u_p4, u_l4, (by show 2 ≤ sizeLine; decide), fun r4 hr4 => ?_⟩
          have ee13 := same_new (o := HO.lst ([V.str (line RW)] ++ [V.str (Str.ofString "rests 7")])) hr4
          have u_r4 := upd_same (H := G12) (a := r4) (o := HO.lst ([V.str (line RW)] ++ [V.str (Str.ofString "rests 7")]))
          replace FF := FF.trans ee13
          replace P1 := P1.same ee13
          replace P2 := P2.same ee13
          replace P3 := P3.same ee13
          replace u_p4 := ee13 _ _ u_p4
          replace u_l4 := ee13 _ _ u_l4
          clear hr4 ee13
          generalize L2.upd G12 r4 (HO.lst ([V.str (line RW)] ++ [V.str (Str.ofString "rests 7")])) = G13 at FF P1 P2 P3 u_p4 u_l4 u_r4 ⊢
          have x4 : [V.str (line RW)] ++ [V.str (Str.ofString "rests 7")] = ([RW, [Str.ofString "rests", Str.ofString "7"]].map line).map V.str := by rw [e7]; rfl
          rw [x4] at u_r4
          clear u_l4
          clear u_p4
          refine ⟨(by show 2 ≤ sizeLine; decide), fun q4 hq4 => ?_⟩
          have ee14 := same_new (o := HO.tup [V.ref r4, V.int 2]) hq4
          have u_q4 := upd_same (H := G13) (a := q4) (o := HO.tup [V.ref r4, V.int 2])
          replace FF := FF.trans ee14
          replace P1 := P1.same ee14
          replace P2 := P2.same ee14
          replace P3 := P3.same ee14
          replace u_r4 := ee14 _ _ u_r4
          clear hq4 ee14
          generalize L2.upd G13 q4 (HO.tup [V.ref r4, V.int 2]) = G14 at FF P1 P2 P3 u_r4 u_q4 ⊢
          have P4 : Pr K G14 (.ref q4) := ⟨q4, r4, [RW, [Str.ofString "rests", Str.ofString "7"]], 2, rfl, SqT.of u_q4, u_r4, lw2 ⟨by simp, by simp, wd_app (wd_one (word_ "rests")) (wd_one (word_ "7"))⟩, cBad_two (by omega) (by omega) rlt (by rw [rests_seven]; show 0 ≠ _; omega)⟩
          clear u_q4
          clear u_r4
          refine ⟨_, rfl, 1, rfl, Lc, _, rfl, SqL.of (FF _ _ hL2), fun p5 hp5 => ?_⟩
          rw [cut_1]
          have ee15 := same_new (o := HO.lst [V.str (line RW)]) hp5
          have u_p5 := upd_same (H := G14) (a := p5) (o := HO.lst [V.str (line RW)])
          replace FF := FF.trans ee15
          replace P1 := P1.same ee15
          replace P2 := P2.same ee15
          replace P3 := P3.same ee15
          replace P4 := P4.same ee15
          clear hp5 ee15
          generalize L2.upd G14 p5 (HO.lst [V.str (line RW)]) = G15 at FF P1 P2 P3 P4 u_p5 ⊢
          refine ⟨_, rfl, Lc, _, 0, _, rfl, rfl, SqL.of (FF _ _ hL2), atI_nat (j := 0) rfl, ?_⟩
          refine ⟨(by show 1 ≤ sizeLine; decide), fun l5 hl5 => ?_⟩
          have ee16 := same_new (o := HO.lst [V.str (line RW)]) hl5
          have u_l5 := upd_same (H := G15) (a := l5) (o := HO.lst [V.str (line RW)])
          replace FF := FF.trans ee16
          replace P1 := P1.same ee16
          replace P2 := P2.same ee16
          replace P3 := P3.same ee16
          replace P4 := P4.same ee16
          replace u_p5 := ee16 _ _ u_p5
          clear hl5 ee16
          generalize L2.upd G15 l5 (HO.lst [V.str (line RW)]) = G16 at FF P1 P2 P3 P4 u_p5 u_l5 ⊢
          refine ⟨p5, l5, _, _, rfl, rfl, u_p5, u_l5, (by show 2 ≤ sizeLine; decide), fun r5 hr5 => ?_⟩
          have ee17 := same_new (o := HO.lst ([V.str (line RW)] ++ [V.str (line RW)])) hr5
          have u_r5 := upd_same (H := G16) (a := r5) (o := HO.lst ([V.str (line RW)] ++ [V.str (line RW)]))
          replace FF := FF.trans ee17
          replace P1 := P1.same ee17
          replace P2 := P2.same ee17
          replace P3 := P3.same ee17
          replace P4 := P4.same ee17
          replace u_p5 := ee17 _ _ u_p5
          replace u_l5 := ee17 _ _ u_l5
          clear hr5 ee17
          generalize L2.upd G16 r5 (HO.lst ([V.str (line RW)] ++ [V.str (line RW)])) = G17 at FF P1 P2 P3 P4 u_p5 u_l5 u_r5 ⊢
          clear u_l5
          clear u_p5
          refine ⟨(by show 2 ≤ sizeLine; decide), fun q5 hq5 => ?_⟩
          have ee18 := same_new (o := HO.tup [V.ref r5, V.int 2]) hq5
          have u_q5 := upd_same (H := G17) (a := q5) (o := HO.tup [V.ref r5, V.int 2])
          replace FF := FF.trans ee18
          replace P1 := P1.same ee18
          replace P2 := P2.same ee18
          replace P3 := P3.same ee18
          replace P4 := P4.same ee18
          replace u_r5 := ee18 _ _ u_r5
          clear hq5 ee18
          generalize L2.upd G17 q5 (HO.tup [V.ref r5, V.int 2]) = G18 at FF P1 P2 P3 P4 u_r5 u_q5 ⊢
          have P5 : Pr K G18 (.ref q5) := ⟨q5, r5, [RW, RW], 2, rfl, SqT.of u_q5, u_r5, lw2 wR.lw, cBad_two (by omega) (by omega) rlt (by rw [rests_other]; show 0 ≠ _; omega)⟩
          clear u_q5
          clear u_r5
          refine ⟨(by show 5 ≤ sizeLine; decide), fun tt htt => ?_⟩
          have ee19 := same_new (o := HO.tup [V.ref q1, V.ref q2, V.ref q3, V.ref q4, V.ref q5]) htt
          have u_tt := upd_same (H := G18) (a := tt) (o := HO.tup [V.ref q1, V.ref q2, V.ref q3, V.ref q4, V.ref q5])
          replace FF := FF.trans ee19
          replace P1 := P1.same ee19
          replace P2 := P2.same ee19
          replace P3 := P3.same ee19
          replace P4 := P4.same ee19
          replace P5 := P5.same ee19
          clear htt ee19
          generalize L2.upd G18 tt (HO.tup [V.ref q1, V.ref q2, V.ref q3, V.ref q4, V.ref q5]) = G19 at FF P1 P2 P3 P4 P5 u_tt ⊢
          have nc9 := ncS nc2 FF
          refine ⟨tt, rfl, ⟨_, SqT.of u_tt⟩, ?_⟩
          refine for_tup (xs := [V.ref q1, V.ref q2, V.ref q3, V.ref q4, V.ref q5]) (fun j σ' H' => St3 σ' H' ∧ SqT K H' tt [V.ref q1, V.ref q2, V.ref q3, V.ref q4, V.ref q5] ∧ ∀ y ∈ [V.ref q1, V.ref q2, V.ref q3, V.ref q4, V.ref q5], Pr K H' y) ?_ (fun j σ' H' _ w => w.2.1) ?_ ?_
          · refine ⟨⟨_, _, rfl, nc9⟩, SqT.of u_tt, fun y hy => ?_⟩
            simp only [List.mem_cons, List.not_mem_nil, or_false] at hy
            rcases hy with rfl | rfl | rfl | rfl | rfl
            · exact P1
            · exact P2
            · exact P3
            · exact P4
            · exact P5
          · rintro j u σ' H8 hu ⟨⟨y11, y12, rfl, nc8⟩, sq8, pr8⟩
            obtain ⟨q, l, lss, nn, rfl, hq, hll, lw, bad⟩ := pr8 u (List.mem_of_getElem? hu)
            refine ⟨q, _, rfl, hq, rfl, ?_⟩
            refine ⟨_, _, rfl, _, _, rfl, rfl, ?_⟩
            refine ⟨nc8.1.1.tabs, fun H3 x3 tb3 => ?_⟩
            refine ⟨⟨_, rfl⟩, _, rfl, _, l, lss.map line, rfl, rfl, .inl (SqL.of (ext_lst x3 hll)), lw.sum, ?_⟩
            refine RdI.bad (CM := CM) (i := false) lw.lines bad ?_
            refine fun d H6 eD hd' => ⟨d, _, rfl, rfl, hd', fun p2 H7 eE hp2 => ?_⟩
            refine ⟨_, rfl, (by show 3 ≤ sizeLine; decide), fun w2 hw2 => ?_⟩
            have eF := same_new (o := HO.tup [.str "text", .int (nn : Nat), .bl true]) hw2
            refine ⟨p2, w2, _, rfl, rfl, sqT_same eF hp2, SqT.of upd_same, flat3, _, rfl, iteF ?_⟩
            have e := eD.trans (eE.trans eF)
            exact ⟨⟨_, _, rfl, ncS (ncX nc8 x3 tb3) e⟩, sqT_same e (ext_sqT x3 sq8), fun y hy => ((pr8 y hy).ext x3).same e⟩
          · rintro σ' H8 ⟨h, _⟩
            exact h
        clear nc2 hhd2 hdb
        rintro σ' H2 ⟨y11, y12, rfl, nc2⟩
        obtain ⟨t2, hb2⟩ := nc2.1.1.box
        refine ⟨St3, ?_, ?_⟩
        · refine ⟨_, rfl, _, rfl, _, rfl, b, m, Fa, t2, n, ts, ps, rfl, hb2, nc2.2.1, Fb, nc2.1.2.1, lps, nc2.1.1.tabs, fun H3 g3 => ?_⟩
          have nc3 := ncG nc2 g3
          obtain ⟨t3, hb3⟩ := nc3.1.1.box
          refine ⟨_, rfl, iteF ?_⟩
          refine ⟨_, rfl, _, rfl, _, rfl, _, rfl, b, c, p8, p9, t3, natI rs, natI es, rfl, hb3, nc3.2.2.2.2.1, by rw [natI_iv]; exact nc3.2.2.1, by rw [natI_iv]; exact nc3.2.2.2.1, nc3.1.1.tabs, fun H4 g4 => ?_⟩
          refine ⟨_, rfl, iteF ?_⟩
          exact ⟨_, _, rfl, ncG nc3 g4⟩
        clear nc2 hb2
        rintro σ' H2 ⟨w11, w12, rfl, nc2⟩
        exact ⟨_, _, _, _, _, _, _, _, _, _, _, _, _, _, rfl, script_keeps e1 nb nc2.1.1 hs0, nc2.1.1.tabs⟩
      · rintro σ' H0 ⟨x1, x2, x3, x4, x5, x6, x7, x8, x9, x10, x11, x12, x13, x14, rfl, hs0, ht0⟩
        exact ⟨_, _, _, _, _, _, _, _, _, _, _, _, _, _, rfl, hs0, ht0⟩
    rintro σ' H0 ⟨x1, x2, x3, x4, x5, x6, x7, x8, x9, x10, x11, x12, x13, x14, rfl, hs0, ht0⟩
    let St : L2.St → Hp → Prop := fun σ' H' => (∃ x1 x2 x3 x4 x5 x6 x7 x8 x9 x10 x11 x12 x13 x14, σ' = sgX sc x1 x2 x3 x4 x5 x6 x7 x8 x9 x10 x11 x12 x13 x14) ∧ LamX.Tabs Ts H'
    refine ⟨St, ?_, ?_⟩
    · refine ⟨_, rfl, sc, ns, 5, rfl, hs0, hl, fun H1 b t1 e1 nb hb1 => ?_⟩
      have g1 : Go Ts b H1 H1 := .refl hb1 (ht0.ext e1)
      refine ⟨b, t1, 12, rfl, hb1, by decide, by decide, fun r H2 r0 r12 m2 => ?_⟩
      refine ⟨_, _, rfl, rfl, _, rfl, ite2 (fun _ => k _) (fun _ => ⟨⟨_, _, _, _, _, _, _, _, _, _, _, _, _, _, rfl⟩, (g1.mv m2).tabs⟩)⟩
    rintro σ' H2 ⟨⟨y1, y2, y3, y4, y5, y6, y7, y8, y9, y10, y11, y12, y13, y14, rfl⟩, tb2⟩
    refine ⟨St, ?_, ?_⟩
    · refine ⟨fun v H' => ∃ p, v = .ref p ∧ LamX.Tabs Ts H' ∧ SqT K H' p (iv (List.replicate 400 0)), ?_, ?_⟩
      · refine ⟨(by show 1 ≤ sizeLine; decide), fun l1 hl1 => ?_⟩
        have e1 := same_new (o := HO.lst [V.int 0]) hl1
        refine ⟨(by show 1 ≤ sizeLine; decide), fun l2 hl2 => ?_⟩
        have e2 := same_new (o := HO.lst [V.ref l1]) hl2
        refine fun x dx hx hdx ne => mc_make (xs := [V.ref l1]) (n := 1) (ts := [[0]]) mok_one (.inl (SqL.of upd_same)) ⟨⟨l1, rfl, .inl (SqL.of (e2 _ _ upd_same))⟩, trivial⟩ hx hdx ne fun H3 e3 mc3 => ?_
        refine ⟨⟨_, rfl⟩, (by show 1 ≤ sizeLine; decide), fun l4 hl4 => ?_⟩
        have e4 := same_new (o := HO.lst [V.str (Str.ofString "0")]) hl4
        refine ⟨l4, 400, _, rfl, rfl, upd_same, by decide, by decide, (by show 1 * 400 ≤ sizeLine; decide), fun l5 hl5 => ?_⟩
        have e5 := same_new (o := HO.lst (List.replicate (Int.toNat 400) [V.str (Str.ofString "0")]).flatten) hl5
        obtain ⟨Z, hZ⟩ : ∃ Z, Z = nums (List.replicate 400 0) := ⟨_, rfl⟩
        refine ⟨_, l5, Z, rfl, rfl, .inl ?_, ?_, ?_⟩
        · rw [hZ, ← rep_zero]
          exact SqL.of upd_same
        · rw [hZ, nz]
          decide +kernel
        · show tNil _ _ _
          unfold tNil
          simp only [List.append_nil]
          exact rd_zeros hZ ((mc3.same e4).same e5) (.inl rfl) (fun z => nomatch z) fun _ p H6 e6 hp => ⟨p, rfl, tb2.ext (e1.trans (e2.trans (e3.trans (e4.trans (e5.trans e6))))), hp⟩
      · rintro v H3 ⟨p, rfl, tb3, hp3⟩
        refine ⟨(by show 1 ≤ sizeLine; decide), fun t4 ht4 => ?_⟩
        have e4 := same_new (o := HO.tup [V.int 0]) ht4
        refine ⟨t4, 400, [V.int 0], rfl, rfl, SqT.of upd_same, by simp, by decide, by decide, fun q H5 e5 hq => ?_⟩
        rw [rep_int] at hq
        rw [iv_zero] at hp3
        refine ⟨p, q, _, _, rfl, rfl, sqT_same (e4.trans e5) hp3, hq, ?_⟩
        rw [decide_eq_true rfl]
        exact ⟨_, rfl, iteF ⟨⟨_, _, _, _, _, _, _, _, _, _, _, _, _, _, rfl⟩, tb3.ext (e4.trans e5)⟩⟩
    clear tb2
    rintro σ' H2 ⟨⟨z1, z2, z3, z4, z5, z6, z7, z8, z9, z10, z11, z12, z13, z14, rfl⟩, tb2⟩
    refine ⟨tb2, fun H0 x0 tb0 => ?_⟩
    refine ⟨(by show 1 ≤ sizeLine; decide), fun l1 hl1 => ?_⟩
    have e1 := same_new (o := HO.lst [V.int 0]) hl1
    refine ⟨(by show 1 ≤ sizeLine; decide), fun l2 hl2 => ?_⟩
    have e2 := same_new (o := HO.lst [V.ref l1]) hl2
    refine fun x dx hx hdx ne => mc_make (xs := [V.ref l1]) (n := 1) (ts := [[0]]) mok_one (.inl (SqL.of upd_same)) ⟨⟨l1, rfl, .inl (SqL.of (e2 _ _ upd_same))⟩, trivial⟩ hx hdx ne fun H3 e3 mc3 => ?_
    refine ⟨⟨_, rfl⟩, (by show 1 ≤ sizeLine; decide), fun l4 hl4 => ?_⟩
    have e4 := same_new (o := HO.lst [V.str (Str.ofString "0")]) hl4
    refine ⟨l4, 401, _, rfl, rfl, upd_same, by decide, by decide, (by show 1 * 401 ≤ sizeLine; decide), fun l5 hl5 => ?_⟩
    have e5 := same_new (o := HO.lst (List.replicate (Int.toNat 401) [V.str (Str.ofString "0")]).flatten) hl5
    obtain ⟨Z, hZ⟩ : ∃ Z, Z = nums (List.replicate 401 0) := ⟨_, rfl⟩
    refine ⟨_, l5, Z, rfl, rfl, .inl ?_, ?_, ?_⟩
    · rw [hZ, ← rep_zero]
      exact SqL.of upd_same
    · rw [hZ, nz]
      decide +kernel
    · show tNil _ _ _
      unfold tNil
      simp only [List.append_nil]
      refine rd_zeros hZ ((mc3.same e4).same e5) (.inr rfl) (fun _ => ?_) (fun z => nomatch z)
      refine fun d H6 eD hd' => ⟨d, _, rfl, rfl, hd', fun p2 H7 eE hp2 => ?_⟩
      refine ⟨(by show 3 ≤ sizeLine; decide), fun w2 hw2 => ?_⟩
      have eF := same_new (o := HO.tup [.str "text", .int 400, .bl true]) hw2
      refine ⟨p2, w2, _, rfl, rfl, sqT_same eF hp2, SqT.of upd_same, flat3, ?_⟩
      exact k _
end
end K4
/-! the top, run -/
namespace K4
open PySem PySem.Spec PyProof.Rows L2 Kx
/-! ### Bools that the head's Hook asks -/
/-- a class's line and slots -/
def tailB (C : Addr) (bm : List Value → Bool) (newId : String) (mro : List Value) (sl : List (Option Value)) : Bool := match mro, sl with
  | .ref C' :: r, [_, _, _, _, some (.builtin n), _] => decide (C' = C) && (decide (n = newId) && bm r)
  | _, _ => false
theorem tailB_ok {C : Addr} {bm : List Value → Bool} {newId : String} {mro : List Value} {sl : List (Option Value)} (h : tailB C bm newId mro sl = true) :
    ∃ r a0 a1 a2 a3 a5, mro = .ref C :: r ∧ sl = [a0, a1, a2, a3, some (.builtin newId), a5] ∧ bm r = true := by
  unfold tailB at h
  split at h
  · obtain ⟨h4, h⟩ := He.ba h
    obtain ⟨h5, h6⟩ := He.ba h
    have h4 := of_decide_eq_true h4
    have h5 := of_decide_eq_true h5
    exact ⟨_, _, _, _, _, _, by rw [h4], by rw [h5], h6⟩
  · cases h
/-- the class at C as the text makes it: an own dict, no __del__, behind it the classes bm -/
def shapeB (K : PySem.W.Frag) (C : Addr) (bm : List Value → Bool) (newId : String) : Bool := match K.lookup C with
  | some ⟨.type c, _, .cls cd, sl⟩ => decide (c = "type") && (cd.hasDict && (!cd.hasDel && tailB C bm newId cd.mro sl.toList))
  | _ => false
theorem shapeB_ok {K : PySem.W.Frag} {C : Addr} {bm : List Value → Bool} {newId : String} (h : shapeB K C bm newId = true) :
    ∃ nm q N bs r sn sub ab col dd k0 k1 k2 k3 k5, K.lookup C = some (excClassObj nm q C N bs r true sn sub ab col dd k0 k1 k2 k3 k5 newId) ∧ bm r = true := by
  unfold shapeB at h
  cases e : K.lookup C with
  | none =>
    rw [e] at h
    cases h
  | some o =>
    obtain ⟨oc, od, dt, sl⟩ := o
    rw [e] at h
    cases oc with
    | type c =>
      cases dt with
      | cls cd =>
        obtain ⟨nm, bs, mro, N, q, hdct, sn, sub, ab, col, del⟩ := cd
        have h : (decide (c = "type") && (hdct && (!del && tailB C bm newId mro sl.toList))) = true := h
        obtain ⟨h1, h⟩ := He.ba h
        obtain ⟨h2, h⟩ := He.ba h
        obtain ⟨h3, h⟩ := He.ba h
        obtain ⟨r, a0, a1, a2, a3, a5, h4, h5, h6⟩ := tailB_ok h
        have k1 := of_decide_eq_true h1
        have k3 : del = false := by
          cases del with
          | false => rfl
          | true => cases h3
        have es : sl = #[a0, a1, a2, a3, some (.builtin newId), a5] := by
          have := congrArg List.toArray h5
          simpa using this
        refine ⟨nm, q, N, bs, r, sn, sub, ab, col, od, a0, a1, a2, a3, a5, ?_, h6⟩
        rw [k1, h2, k3, h4, es]
      | _ => cases h
    | _ => cases dt <;> cases h
/-- an own error over an own base over ValueError, of the field f -/
def oexB (K : PySem.W.Frag) (C : Addr) : Bool := shapeB K C PySem.HandSPX.refsVE "ValueError.__new__" && (He.eqO (PySem.W.findIn K (.ref C) "__setattr__") (some (some (.builtin "object.__setattr__"))) && (decide (PySem.W.subIn K (.ref C) (.type "BaseException") = some true) && (decide (PySem.W.typeIn K (.ref C) = some (.type "type")) && PySem.W.keepIn K (.ref C))))
theorem oexB_ok {K : PySem.W.Frag} {C : Addr} (h : oexB K C = true) : OexC K C := by
  obtain ⟨h1, h⟩ := He.ba h
  obtain ⟨h2, h⟩ := He.ba h
  obtain ⟨h3, h⟩ := He.ba h
  obtain ⟨h4, h5⟩ := He.ba h
  exact ⟨shapeB_ok h1, He.eqO_ok h2, of_decide_eq_true h3, of_decide_eq_true h4, h5⟩
def keyB (K : PySem.W.Frag) (C : Addr) : Bool := shapeB K C (fun r => decide (r = keyTail)) "LookupError.__new__" && (He.eqO (PySem.W.findIn K (.ref C) "__setattr__") (some (some (.builtin "object.__setattr__"))) && (decide (PySem.W.subIn K (.ref C) (.type "BaseException") = some true) && (decide (PySem.W.typeIn K (.ref C) = some (.type "type")) && PySem.W.keepIn K (.ref C))))
theorem keyB_ok {K : PySem.W.Frag} {C : Addr} (h : keyB K C = true) : KeyC K C := by
  obtain ⟨h1, h⟩ := He.ba h
  obtain ⟨h2, h⟩ := He.ba h
  obtain ⟨h3, h⟩ := He.ba h
  obtain ⟨h4, h5⟩ := He.ba h
  obtain ⟨nm, q, N, bs, r, sn, sub, ab, col, dd, k0, k1, k2, k3, k5, e, er⟩ := shapeB_ok h1
  have er := of_decide_eq_true er
  subst er
  exact ⟨⟨nm, q, N, bs, sn, sub, ab, col, dd, k0, k1, k2, k3, k5, e⟩, He.eqO_ok h2, of_decide_eq_true h3, of_decide_eq_true h4, h5⟩
def excB (K : PySem.W.Frag) (D : Addr) : Bool := He.eqO (PySem.W.findIn K (.ref D) "__getattribute__") (some (some (.builtin "BaseException.__getattribute__"))) && (He.eqO (PySem.W.findIn K (.ref D) "__getattr__") (some none) && (decide (PySem.W.subIn K (.ref D) (.type "BaseException") = some true) && (PySem.W.hasDictIn K D &&
  (He.eqO (PySem.W.findIn K (.ref D) "__class__") (some (some (.builtin "object.__class__"))) && (He.eqO (PySem.W.specialIn K (.builtin "object.__class__") "__get__") (some (some (.builtin "getset_descriptor.__get__"))) && (decide (PySem.W.takesIn K (.builtin "object.__class__") = some true) && decide (PySem.W.mroIn K D (.type "object") = some true)))))))
theorem excB_ok {K : PySem.W.Frag} {D : Addr} (h : excB K D = true) : ExcC K D := by
  obtain ⟨h1, h⟩ := He.ba h
  obtain ⟨h2, h⟩ := He.ba h
  obtain ⟨h3, h⟩ := He.ba h
  obtain ⟨h4, h⟩ := He.ba h
  obtain ⟨h5, h⟩ := He.ba h
  obtain ⟨h6, h⟩ := He.ba h
  obtain ⟨h7, h8⟩ := He.ba h
  exact ⟨He.eqO_ok h1, He.eqO_ok h2, of_decide_eq_true h3, h4, He.eqO_ok h5, He.eqO_ok h6, of_decide_eq_true h7, of_decide_eq_true h8⟩
theorem excB_xf {K : PySem.W.Frag} {D : Addr} (h : excB K D = true) : XfC K D := by
  have e := excB_ok h
  exact ⟨e.hg, e.hk, e.hs, e.hd⟩
end K4
/-! the end of a law that holds where nothing that guards itself runs around -/
namespace Kx
open L2 PySem PySem.Spec PyProof.Rows
/-- what is followed at the start: the tables, the script where the written part does not hold it -/
def startH (K : PySem.W.Frag) (a : Addr) (vs : List Value) (ns : List Int) (tabs : List Addr) : Hp := fun b =>
  if b ∈ tabs then some (.tbl #[]) else if b = a ∧ K.lookup a = .none then some (.frz { cls := .type "list", data := .seq vs.toArray } (.lst (ns.map V.int))) else .none
section
variable {P : Program} {w : World} {K : PySem.W.Frag} {mg mb : Str → Option Value} {k : Nat} {fa a : Addr} {cs : List (Addr × Addr)} {fd : FuncData} {x : Str} {sp : Sp} {s : Shared} {vs : List Value} {ns : List Int}
theorem lone_end (X : K.In s.heap) (G : s.heap.Ns mainGlobals mg) (Bn : s.heap.Ns builtinsNs mb) (Bi : ∀ y : Str, y ≠ "__name__" → mb y = bootBuiltins y) (lim : s.heap.NoLimit) (gens : s.gens = #[])
    (tE : ∀ p ∈ cs, s.heap.get? p.2 = some { cls := .none, data := .fields #[] }) (tN : ∀ p ∈ cs, K.lookup p.2 = .none) (tC : ∀ p ∈ cs, PySem.W.CodeHd s.heap p.1 p.2)
    (bmod : ∃ (bm : Addr) (ob : Obj), mg "__builtins__" = some (.ref bm) ∧ bm ≠ builtinsNs ∧ s.heap.get? bm = some ob ∧ ob.cls = .type "module" ∧ ob.dict = some builtinsNs ∧ ob.data = .plain)
    (at_ : s.heap.get? a = some { cls := .type "list", data := .seq vs.toArray }) (isI : IntsAre vs ns) (short : ns.length ≤ sizeLine) (room : Room k callerA)
    (F : ∀ base : Heap, K.In base → base.Ns mainGlobals mg → (∀ p ∈ cs, LamX.TabB base mg p.1 p.2) → FnG P w K mg base CX0 k fa fd [x] sp) (bind : ∀ (s' : Shared) (u : Value), BindsTo s' fd ⟨[u], []⟩ [(x, u)])
    (give : ∀ H : Hp, (∀ p ∈ cs, H p.2 = some (.tbl #[])) → SqL K H a (ns.map V.int) → sp [.ref a] H (fun v _ => v = .bl true) fun _ _ _ => False) :
    codeAny (model P w) callerA (.call (.ref fa) ⟨[.ref a], []⟩) (fun r s' => r = .ok (.ret (.bool true)) ∧ OldK s.heap s'.heap ∧ s'.os = s.os ∧ AllBare s'.gens) s := by
  have rel := vals_ints isI
  have len := isI.length
  have tabIs : ∀ b ∈ cs.map (·.2), s.heap.get? b = some { cls := .none, data := .fields #[] } ∧ K.lookup b = .none := fun b hb => by
    obtain ⟨p, hp, rfl⟩ := List.mem_map.mp hb
    exact ⟨tE p hp, tN p hp⟩
  have apart : a ∉ cs.map (·.2) := fun z => by
    have q := (tabIs a z).1
    rw [at_] at q
    injection q with q
    injection q with _ _ q
    cases q
  let H := startH K a vs ns (cs.map (·.2))
  have hT : ∀ b ∈ cs.map (·.2), H b = some (.tbl #[]) := fun b hb => if_pos hb
  have hTs : ∀ p ∈ cs, H p.2 = some (.tbl #[]) := fun p hp => hT _ (List.mem_map_of_mem hp)
  -- what H follows: a table, the script
  have cases_ : ∀ b, (b ∈ cs.map (·.2) ∧ H b = some (.tbl #[])) ∨ (b = a ∧ K.lookup a = .none ∧ H b = some (.frz { cls := .type "list", data := .seq vs.toArray } (.lst (ns.map V.int)))) ∨ H b = .none := fun b => by
    by_cases h1 : b ∈ cs.map (·.2)
    · exact .inl ⟨h1, hT b h1⟩
    · by_cases h2 : b = a ∧ K.lookup a = .none
      · exact .inr (.inl ⟨h2.1, h2.2, (if_neg h1).trans (if_pos h2)⟩)
      · exact .inr (.inr ((if_neg h1).trans (if_neg h2)))
  have known : ∀ {b : Addr} {o : Obj}, K.lookup b = some o → H b = .none := fun {b o} e => by
    rcases cases_ b with ⟨h, _⟩ | ⟨rfl, h, _⟩ | h
    · rw [(tabIs b h).2] at e
      cases e
    · rw [h] at e
      cases e
    · exact h
  have other : ∀ {b : Addr} {o : Obj}, s.heap.get? b = some o → (∀ us n, o.data ≠ .seq us n) → o.data ≠ .fields #[] → H b = .none := fun {b o} e h1 h2 => by
    rcases cases_ b with ⟨h, _⟩ | ⟨rfl, _, _⟩ | h
    · rw [(tabIs b h).1] at e
      cases e
      exact absurd rfl h2
    · rw [at_] at e
      cases e
      exact absurd rfl (h1 _ _)
    · exact h
  have ns_ : ∀ {b : Addr} {m : Str → Option Value}, s.heap.Ns b m → (hidT s.heap H).Ns b m := fun {b m} ⟨o, es, ep, e, d, r⟩ =>
    ⟨o, es, ep, hidT_get e (other e (fun us n z => by rw [d] at z; cases z) fun z => by rw [d] at z; cases z), d, r⟩
  have Xb : K.In (hidT s.heap H) := fun b o e => hidT_get (X b o e) (known e)
  have holds : HOk P w H s.heap := fun b u z => by
    rcases cases_ b with ⟨h, e⟩ | ⟨rfl, _, e⟩ | e
    · obtain rfl : u = .tbl #[] := Option.some.inj (z.symm.trans e)
      exact (tabIs b h).1
    · obtain rfl := Option.some.inj (z.symm.trans e)
      exact ⟨at_, by rw [List.length_map]; exact short, vs, _, rel, at_⟩
    · rw [e] at z
      cases z
  have script : SqL K H a (ns.map V.int) := by
    cases q : K.lookup a with
    | none =>
      refine .inl (.inr ⟨{ cls := .type "list", data := .seq vs.toArray }, ?_⟩)
      exact (if_neg apart).trans (if_pos ⟨rfl, q⟩)
    | some o =>
      have e := X a o q
      rw [at_] at e
      cases e
      exact .inr ⟨_, vs.toArray, _, q, rfl, rfl, rfl, by rw [List.size_toArray, len]; exact short, by simpa using rel⟩
  have tabs : ∀ p ∈ cs, LamX.TabB (hidT s.heap H) mg p.1 p.2 := fun p hp => by
    refine ⟨?_, ?_, fun z => ?_⟩
    · obtain ⟨o, us, file, tf, flags, tg, inF, text, tt, e, c1, c2, c3, more⟩ := tC p hp
      refine ⟨o, us, file, tf, flags, tg, inF, text, tt, hidT_get e (other e (fun vs n z => by rw [c2] at z; cases z) fun z => ?_), c1, c2, c3, more⟩
      rw [c2] at z
      cases z
      simp at c3
    · obtain ⟨bm, ob, b1, b2, b3, b4, b5, b6⟩ := bmod
      have b7 : H bm = .none := other b3 (fun us n z => by rw [b6] at z; cases z) fun z => by rw [b6] at z; cases z
      refine ⟨bm, ob, b1, b2, fun q => ?_, fun q => ?_, hidT_get b3 b7, b4, b5, b6⟩
      · obtain ⟨o, es, ep, e, d, _⟩ := G
        rw [← q, b3] at e
        cases e
        rw [b6] at d
        cases d
      · rw [q, hTs p hp] at b7
        cases b7
    · obtain ⟨o, es, ep, e, d, _⟩ := G
      rw [z, tE p hp] at e
      cases e
      cases d
  have env : Env0 P w K mg (hidT s.heap H) callerA [] s H :=
    { frames := rfl
      mod := ⟨Xb, ns_ G, ⟨mb, ns_ Bn, Bi⟩, let ⟨mc, h1, h2⟩ := lim; ⟨mc, ns_ h1, h2⟩⟩
      bs := fun b o e => of_hidT e
      bsz := Nat.le_of_eq (hidT_size _ _)
      funs := trivial
      frf := fun b hb => absurd (show b ∈ ([] : List Addr) from hb) (by simp)
      hok := holds
      bare := .of_eq gens }
  refine codeAny_mono ((F _ Xb (ns_ G) tabs).run callerA [] s H ⟨[.ref a], []⟩ [.ref a] [.ref a] _ _ room rfl env (bind s (.ref a)) (.cons rfl .nil) (give H hTs script)) fun r s' z => ?_
  match r, z with
  | .error e, z => exact z.elim
  | .ok .next, z => exact z.elim
  | .ok .brk, z => exact z.elim
  | .ok .cont, z => exact z.elim
  | .ok (.ret u), z =>
    obtain ⟨v, H', os, bare, un, ok', r', ev⟩ := z
    subst ev
    obtain rfl : u = .bool true := r'
    have stay : ∀ b o, b ∉ cs.map (·.2) → s.heap.get? b = some o → s'.heap.get? b = some o := fun b o nb e => by
      rcases cases_ b with ⟨h, _⟩ | ⟨_, _, q⟩ | q
      · exact absurd h nb
      · have old := (holds b _ q).1
        rw [e] at old
        cases old
        exact (ok' b _ (un.frzs b _ _ q)).1
      · exact un.keep b o e q (fun m => absurd (show b ∈ ([] : List Addr) from m) (by simp)) (by simp)
    have grown : ∀ b ∈ cs.map (·.2), ∃ more : Array Value, s'.heap.get? b = some { cls := .none, data := .fields more } := fun b hb => by
      obtain ⟨more, q⟩ := un.tbls b #[] (hT b hb)
      exact ⟨_, ok' b _ q⟩
    refine ⟨rfl, ⟨fun b o eb => ?_, fun b o eb => ?_⟩, os, bare⟩
    · by_cases mb : b ∈ cs.map (·.2)
      · rcases List.mem_map.mp mb with ⟨p, hp, rfl⟩
        obtain ⟨more, hm⟩ := grown _ mb
        rw [tE p hp] at eb
        cases eb
        exact .inr (.inl ⟨((tC p hp).tab (tE p hp)).isCodeTable, rfl, #[], more, rfl, by rw [Array.empty_append]; exact hm⟩)
      · exact .inl (stay b o mb eb)
    · by_cases mb : b ∈ cs.map (·.2)
      · obtain ⟨more, hm⟩ := grown b mb
        exact ⟨_, hm⟩
      · exact ⟨o, stay b o mb eb⟩
end
/-- the law's def, told over the head's heap -/
theorem lone_walk {l : PySem.W.OpenLaw} {n k : Nat} {q : Program} {loose : List Str} {XP : (Str → Option Value) → Heap → Prop} {YP : World → Heap → Prop} {d : DefRec} {x : Str} (most : l.most = some n) (short : n ≤ sizeLine) (plain : d.params.defaults = []) (room : Room k callerA)
    (F : ∀ (w : World) (mg : Str → Option Value) (fa : Addr) (h : Heap), YP w h → h.Ns mainGlobals mg → mg d.name = some (.ref fa) → ∃ (K : PySem.W.Frag) (fd : FuncData) (cs : List (Addr × Addr)) (sp : Sp), K.In h ∧
      (∀ p ∈ cs, h.get? p.2 = some { cls := .none, data := .fields #[] }) ∧ (∀ p ∈ cs, K.lookup p.2 = none) ∧ (∀ p ∈ cs, PySem.W.CodeHd h p.1 p.2) ∧ (∀ (s : Shared) (u : Value), BindsTo s fd ⟨[u], []⟩ [(x, u)]) ∧
      (∀ (H : Hp) (a : Addr) (ns : List Int), ns.length ≤ n → (∀ p ∈ cs, H p.2 = some (.tbl #[])) → SqL K H a (ns.map V.int) → sp [.ref a] H (fun v _ => v = .bl true) fun _ _ _ => False) ∧
      ∀ base : Heap, K.In base → base.Ns mainGlobals mg → (∀ p ∈ cs, LamX.TabB base mg p.1 p.2) → FnG l.prog w K mg base CX0 k fa fd [x] sp) : PySem.W.WalkO q loose XP YP l.row.toRowW d [] (fun f vs => PySem.call f vs) := by
  refine Att.attach_callB most plain fun w s₀ s₁ mg mb fa o pm cd doc a vs ns G Y _ _ _ hmg hobj hints hlen _ hg => ?_
  obtain ⟨K, fd, cs, sp, X, tE, tN, tC, hb, give, hF⟩ := F w mg fa _ Y G.T.g hmg
  exact lone_end X G.T.g G.T.b G.T.builtins G.T.nolimit hg tE tN tC G.T.bmain hobj hints (Nat.le_trans hlen short) room hF hb fun H hH hS => give H a ns hlen hH hS
end Kx
/-! what the head tells -/
namespace K4
open PySem PySem.Spec PyProof.Rows L2 Kx RZ
def iniB (K : PySem.W.Frag) (C : Addr) : Bool := He.eqO (PySem.W.findIn K (.ref C) "__init__") (some (some (.ref (He.ma K C "__init__")))) && decide (PySem.W.typeIn K (.ref (He.ma K C "__init__")) = some (.type "function"))
theorem iniB_ok {K : PySem.W.Frag} {C : Addr} (h : iniB K C = true) : PySem.W.findIn K (.ref C) "__init__" = some (some (.ref (He.ma K C "__init__"))) ∧ PySem.W.typeIn K (.ref (He.ma K C "__init__")) = some (.type "function") := by
  obtain ⟨h1, h2⟩ := He.ba h
  exact ⟨He.eqO_ok h1, of_decide_eq_true h2⟩
def isiB (K : PySem.W.Frag) (C : Addr) : Bool := He.eqO (PySem.W.findIn K (.ref C) "__class__") (some (some (.builtin "object.__class__"))) && (He.eqO (PySem.W.specialIn K (.builtin "object.__class__") "__get__") (some (some (.builtin "getset_descriptor.__get__"))) &&
  (decide (PySem.W.takesIn K (.builtin "object.__class__") = some true) && decide (PySem.W.mroIn K C (.type "object") = some true)))
theorem isiB_ok {K : PySem.W.Frag} {C : Addr} (h : isiB K C = true) : SlX.SIsi K C := by
  obtain ⟨h1, h⟩ := He.ba h
  obtain ⟨h2, h⟩ := He.ba h
  obtain ⟨h3, h4⟩ := He.ba h
  exact ⟨He.eqO_ok h1, He.eqO_ok h2, of_decide_eq_true h3, of_decide_eq_true h4⟩
def kitB (K : PySem.W.Frag) (t c : Value) (b : Bool) : Bool := decide (PySem.W.kitOne K t c = some b)
theorem kitB_ok {K : PySem.W.Frag} {t c : Value} {b : Bool} (h : kitB K t c b = true) : PySem.W.kitOne K t c = some b := of_decide_eq_true h
/-- the class's own names -/
def nsOf (K : PySem.W.Frag) (C : Addr) : Addr := match K.lookup C with
  | some ⟨_, _, .cls cd, _⟩ => cd.ns
  | _ => 0
def strE (e : DictEntry) : Bool := match e.key with
  | .str _ _ => true
  | _ => false
def nsB (K : PySem.W.Frag) (N f : Addr) : Bool := match K.lookup N with
  | some ⟨_, _, .dict es _, _⟩ => es.toList.all strE && (decide (nsFind es "__eq__" = some (.ref f)) && decide (nsFind es "__ne__" = none))
  | _ => false
theorem nsB_ok {K : PySem.W.Frag} {N f : Addr} (h : nsB K N f = true) : ∃ (oN : Obj) (es : Array DictEntry) (ep : Nat), K.lookup N = some oN ∧ oN.data = .dict es ep ∧ StrKeys es ∧ nsFind es "__eq__" = some (.ref f) ∧ nsFind es "__ne__" = none := by
  unfold nsB at h
  split at h
  · rename_i oc od es ep sl e
    obtain ⟨h1, h⟩ := He.ba h
    obtain ⟨h2, h3⟩ := He.ba h
    refine ⟨_, es, ep, e, rfl, fun z hz => ?_, of_decide_eq_true h2, of_decide_eq_true h3⟩
    have := List.all_eq_true.mp h1 z (by simpa using hz)
    unfold strE at this
    split at this
    · rename_i n t q
      exact ⟨n, t, q⟩
    · cases this
  · cases h
def eqB (K : PySem.W.Frag) (C f : Addr) : Bool := He.eqO (PySem.W.findIn K (.ref C) "__eq__") (some (some (.ref f))) && (PySem.W.isFn K (.ref f) && (shapeB K C (fun r => decide (r = [.type "object"])) "object.__new__" && (nsB K (nsOf K C) f &&
  (match K.lookup f with
  | some ⟨.type c, _, _, _⟩ => decide (c = "function")
  | _ => false))))
theorem eqB_ok {K : PySem.W.Frag} {C f : Addr} (h : eqB K C f = true) : EqC K C f := by
  obtain ⟨h1, h⟩ := He.ba h
  obtain ⟨h2, h⟩ := He.ba h
  obtain ⟨h3, h⟩ := He.ba h
  obtain ⟨h4, h5⟩ := He.ba h
  obtain ⟨nm, q, N, bs, r, sn, sub, ab, col, dd, k0, k1, k2, k3, k5, e, er⟩ := shapeB_ok h3
  have er := of_decide_eq_true er
  subst er
  have eN : nsOf K C = N := by
    unfold nsOf
    rw [e]
  rw [eN] at h4
  obtain ⟨oN, es, ep, n1, n2, n3, n4, n5⟩ := nsB_ok h4
  have hf : ∃ oF, K.lookup f = some oF ∧ oF.cls = .type "function" := by
    split at h5
    · rename_i c od dt sl e
      exact ⟨_, e, congrArg Value.type (of_decide_eq_true h5)⟩
    · cases h5
  obtain ⟨oF, f1, f2⟩ := hf
  exact ⟨He.eqO_ok h1, h2, nm, q, N, bs, true, sn, sub, ab, col, dd, k0, k1, k2, k3, k5, "object.__new__", oN, oF, es, ep, e, n1, n2, n3, n4, n5, f1, f2⟩
def adOf (K : PySem.W.Frag) : Ad := ⟨He.ga K "BadMachine", He.ga K "BadRow", He.ga K "BadShowing", He.ga K "BadText", He.ga K "Refused"⟩
/-! ### the names, the texts -/
abbrev dLines : He.Defn := ("_law_lines_right", none)
abbrev dRow : He.Defn := ("_law_row_right", none)
abbrev dShow : He.Defn := ("_law_showing_right", none)
abbrev dLaw : He.Defn := ("law", none)
def tZero (K : PySem.W.Frag) : Addr := He.dflAt ("Counters", some "__init__") 0 K
abbrev dF (x : Str) (st : Stmt) : He.DefD := ⟨(x, none), x, x, defArgs st, defBody st, defScope st, [], []⟩
abbrev dM (C m q : Str) (st : Stmt) (ds : List He.Dv) : He.DefD := ⟨(C, some m), m, q, defArgs st, defBody st, defScope st, ds, []⟩
def fn : List He.DefD := [
  dF "is_number" s_is_number,
  dF "is_below" s_is_below,
  dF "is_sequence" s_is_sequence,
  dF "first_not_below" s_first_not_below,
  dF "row_of" s_row_of,
  dF "_are_rests" s_are_rests,
  dF "_can_show" s_can_show,
  dF "check_showing" s_check_showing,
  dF "_is_table" s_is_table,
  dF "check_row" s_check_row,
  dF "_number_text" s_number_text,
  dF "_numbers_text" s_numbers_text,
  dF "machine_text" s_machine_text,
  dF "counters_text" s_counters_text,
  dF "row_text" s_row_text,
  dF "showing_text" s_showing_text,
  dF "_need_text" s_need_text,
  dF "read_below" s_read_below,
  dF "_read_line" s_read_line,
  dF "_read_states" s_read_states,
  dF "read_machine" s_read_machine,
  dF "read_counters" s_read_counters,
  dF "read_row" s_read_row,
  dF "_read_number" s_read_number,
  dF "read_showing" s_read_showing,
  dF "_law_box" s_law_box,
  dF "_law_take" s_law_take,
  dF "_law_pick" s_law_pick,
  dF "_law_turned" s_law_turned,
  dF "_law_machine" s_law_machine,
  dF "_law_reads" s_law_reads,
  dF "_law_words" s_law_words,
  dF "_law_lines_right" s_law_lines_right,
  dF "_law_row_right" s_law_row_right,
  dF "_law_showing_right" s_law_showing_right,
  dF "law" s_law,
  dM "BadMachine" "__init__" "BadMachine.__init__" s_BadMachine_init [],
  dM "BadRow" "__init__" "BadRow.__init__" s_BadRow_init [],
  dM "BadShowing" "__init__" "BadShowing.__init__" s_BadShowing_init [],
  dM "BadText" "__init__" "BadText.__init__" s_BadText_init [],
  dM "Refused" "__init__" "Refused.__init__" s_Refused_init [],
  dM "Counters" "__init__" "Counters.__init__" s_Counters_init [.adr tZero],
  dM "Counters" "__eq__" "Counters.__eq__" s_Counters_eq [],
  dM "Machine" "__init__" "Machine.__init__" s_Machine_init [],
  dM "Machine" "__eq__" "Machine.__eq__" s_Machine_eq []]
def fa : List He.Fa := [
  .glo "is_number", .glo "is_below", .glo "is_sequence", .glo "first_not_below", .glo "row_of", .glo "_are_rests", .glo "_can_show", .glo "check_showing",
  .glo "_is_table", .glo "check_row", .glo "_number_text", .glo "_numbers_text", .glo "machine_text", .glo "counters_text", .glo "row_text", .glo "showing_text",
  .glo "_need_text", .glo "read_below", .glo "_read_line", .glo "_read_states", .glo "read_machine", .glo "read_counters", .glo "read_row", .glo "_read_number",
  .glo "read_showing", .glo "_law_box", .glo "_law_take", .glo "_law_pick", .glo "_law_turned", .glo "_law_machine", .glo "_law_reads", .glo "_law_words",
  .glo "_law_lines_right", .glo "_law_row_right", .glo "_law_showing_right", .glo "law", .glo "WitnessError", .glo "BadMachine", .glo "BadRow", .glo "BadShowing",
  .glo "BadText", .glo "Refused", .glo "Counters", .glo "Machine", .free "ValueError", .free "abs", .free "bool", .free "divmod",
  .free "enumerate", .free "int", .free "isinstance", .free "len", .free "list", .free "range", .free "repr", .free "reversed",
  .free "str", .free "tuple", .free "zip", .int "DEEDS_MOST" 4, .int "STATES_MOST" 8, .int "ROW_MOST" 400, .int "ROUND_MOST" 60, .int "REST_MOST" 6,
  .int "PIECE" 600, .int "PIECE_WORTH" (10 ^ 600), .cls "Counters", .cls "Machine", .mkr "Counters", .mkr "Machine", .noat "Counters" "rounds", .noat "Counters" "rests",
  .noat "Machine" "deeds", .noat "Machine" "states", .noat "Machine" "tables", .noat "BadMachine" "at", .noat "BadRow" "at", .noat "BadShowing" "at", .noat "BadText" "at", .noat "Refused" "at",
  .exm "BadText" "BadText" true, .exm "BadRow" "BadRow" true, .exm "BadShowing" "BadShowing" true]
def tf : List He.Defn := [dLines, dRow, dShow, dLaw]
def bools (K : PySem.W.Frag) : List Bool := [
  oexB K (He.ga K "BadMachine"),
  oexB K (He.ga K "BadRow"),
  oexB K (He.ga K "BadShowing"),
  oexB K (He.ga K "BadText"),
  oexB K (He.ga K "Refused"),
  iniB K (He.ga K "BadMachine"),
  iniB K (He.ga K "BadRow"),
  iniB K (He.ga K "BadShowing"),
  iniB K (He.ga K "BadText"),
  iniB K (He.ga K "Refused"),
  excB K (He.ga K "BadText"),
  excB K (He.ga K "BadRow"),
  excB K (He.ga K "BadShowing"),
  kitB K (.ref (He.ga K "BadText")) (.ref (He.ga K "WitnessError")) true,
  isiB K (He.ga K "Counters"),
  kitB K (.ref (He.ga K "Counters")) (.ref (He.ga K "Counters")) true,
  kitB K (.type "tuple") (.ref (He.ga K "Counters")) false,
  PySem.W.notFirst K (He.ga K "Counters") (.type "tuple"),
  eqB K (He.ga K "Counters") (He.ma K (He.ga K "Counters") "__eq__"),
  isiB K (He.ga K "Machine"),
  kitB K (.ref (He.ga K "Machine")) (.ref (He.ga K "Machine")) true,
  kitB K (.type "tuple") (.ref (He.ga K "Machine")) false,
  PySem.W.notFirst K (He.ga K "Machine") (.type "tuple"),
  eqB K (He.ga K "Machine") (He.ma K (He.ga K "Machine") "__eq__"),
  decide ((He.cT K dLines).2 ≠ (He.cT K dRow).2),
  decide ((He.cT K dLines).2 ≠ (He.cT K dShow).2),
  decide ((He.cT K dLines).2 ≠ (He.cT K dLaw).2),
  decide ((He.cT K dRow).2 ≠ (He.cT K dShow).2),
  decide ((He.cT K dRow).2 ≠ (He.cT K dLaw).2),
  decide ((He.cT K dShow).2 ≠ (He.cT K dLaw).2)]
def ex (K : PySem.W.Frag) : Bool := (bools K).all id
theorem ex_at {K : PySem.W.Frag} (h : ex K = true) (i : Nat) {b : Bool} (e : (bools K)[i]? = some b) : b = true := List.all_eq_true.mp h b (List.mem_of_getElem? e)
/-! ### how arguments are bound -/
theorem vals_getD : ∀ {vs : List V} {us : List Value} (i : Nat), Vals vs us → RelV (vs.getD i .non) (us.getD i .none)
  | [], [], _, _ => rfl
  | _ :: _, _ :: _, 0, .cons h _ => h
  | _ :: _, _ :: _, i + 1, .cons _ h => by
    have := vals_getD i h
    simpa using this
def wk1 : List Value → List Value → List Value := fun _ ws => [ws.getD 0 .none]
def wk2 : List Value → List Value → List Value := fun _ ws => [ws.getD 1 .none, ws.getD 0 .none]
section
variable {K : PySem.W.Frag} {x qual : Str} {params : Arguments} {body : List Stmt} {scope : Scope} {kws : List (Str × V)} {f : Addr} {fd : FuncData} {ps ks : List Str} {n : Nat}
theorem kbn_of {g : List Value → List Value → List Value} {gV : List V → List V → List V} (F : FunD K x qual params body scope [] kws f fd) (rel : ∀ {vs us zs ws}, Vals vs us → Vals zs ws → Vals (gV vs zs) (g us ws))
    (h : ∀ (kV doc pm : Value) (an : Option Addr) (cdv ct : Value) (us ws : List Value), us.length = n → ws.length = ks.length → bindArgs (PySem.W.fnOf x qual params body scope .none kV doc pm an cdv ct) ⟨us, ks.zip ws⟩ = pure (ps.zip (g us ws))) : KBn K fd ps n ks g gV := by
  obtain ⟨oc, od, dV, kV, doc, pm, an, cdv, ct, osl, rfl, lk, hcd, hD, -⟩ := F.ex
  rcases hD with ⟨-, rfl⟩ | ⟨e, -⟩
  · exact ⟨fun s us ws _ l1 l2 => .of_eq (h kV doc pm an cdv ct us ws l1 l2), rel⟩
  · exact absurd rfl e
theorem rel1 {vs : List V} {us : List Value} {zs : List V} {ws : List Value} (_ : Vals vs us) (h : Vals zs ws) : Vals (kw1 vs zs) (wk1 us ws) := .cons (vals_getD 0 h) .nil
theorem rel2 {vs : List V} {us : List Value} {zs : List V} {ws : List Value} (_ : Vals vs us) (h : Vals zs ws) : Vals (kw2 vs zs) (wk2 us ws) := .cons (vals_getD 1 h) (.cons (vals_getD 0 h) .nil)
/-- a def's code object -/
theorem code_of {p : Str × Option Str} {st : Stmt} {z : Str} (F : FnP K z st (He.fAd K p) fd) : fd.code = .ref (He.cT K p).1 := by
  obtain ⟨oc, od, dV, kV, doc, pm, an, cdv, ct, osl, rfl, lk, hcd, -, -⟩ := F.ex
  obtain ⟨c, rfl⟩ := He.codeIn_ref hcd
  show Value.ref c = .ref (He.codeOf K p)
  rw [He.codeOf_eq lk rfl]
end
end K4
/-! the bundles, by what the head tells -/
namespace K4
open PySem PySem.Spec PyProof.Rows L2 Kx RZ
abbrev Says (w : World) (h : Heap) (K : PySem.W.Frag) : Prop := He.SaysX fa fn [] tf ex w h K
section
variable {P : Program} {w : World} {K : PySem.W.Frag} {h : Heap} {mg : Str → Option Value}
theorem mg_of (X : K.In h) (G : h.Ns mainGlobals mg) (c : Says w h K) : Mg mg where
  z_ValueError := He.free_ok X G (c.t.d.fact 44 (f := .free "ValueError") rfl)
  z_abs := He.free_ok X G (c.t.d.fact 45 (f := .free "abs") rfl)
  z_bool := He.free_ok X G (c.t.d.fact 46 (f := .free "bool") rfl)
  z_divmod := He.free_ok X G (c.t.d.fact 47 (f := .free "divmod") rfl)
  z_enumerate := He.free_ok X G (c.t.d.fact 48 (f := .free "enumerate") rfl)
  z_int := He.free_ok X G (c.t.d.fact 49 (f := .free "int") rfl)
  z_isinstance := He.free_ok X G (c.t.d.fact 50 (f := .free "isinstance") rfl)
  z_len := He.free_ok X G (c.t.d.fact 51 (f := .free "len") rfl)
  z_list := He.free_ok X G (c.t.d.fact 52 (f := .free "list") rfl)
  z_range := He.free_ok X G (c.t.d.fact 53 (f := .free "range") rfl)
  z_repr := He.free_ok X G (c.t.d.fact 54 (f := .free "repr") rfl)
  z_reversed := He.free_ok X G (c.t.d.fact 55 (f := .free "reversed") rfl)
  z_str := He.free_ok X G (c.t.d.fact 56 (f := .free "str") rfl)
  z_tuple := He.free_ok X G (c.t.d.fact 57 (f := .free "tuple") rfl)
  z_zip := He.free_ok X G (c.t.d.fact 58 (f := .free "zip") rfl)
  g_DEEDS_MOST := He.int_ok X G (c.t.d.fact 59 (f := .int "DEEDS_MOST" 4) rfl)
  g_STATES_MOST := He.int_ok X G (c.t.d.fact 60 (f := .int "STATES_MOST" 8) rfl)
  g_ROW_MOST := He.int_ok X G (c.t.d.fact 61 (f := .int "ROW_MOST" 400) rfl)
  g_ROUND_MOST := He.int_ok X G (c.t.d.fact 62 (f := .int "ROUND_MOST" 60) rfl)
  g_REST_MOST := He.int_ok X G (c.t.d.fact 63 (f := .int "REST_MOST" 6) rfl)
  g_PIECE := He.int_ok X G (c.t.d.fact 64 (f := .int "PIECE" 600) rfl)
  g_PIECE_WORTH := He.int_ok X G (c.t.d.fact 65 (f := .int "PIECE_WORTH" (10 ^ 600)) rfl)
theorem clsC_of (X : K.In h) (G : h.Ns mainGlobals mg) (c : Says w h K) : ClsC K mg (He.ga K "Counters") where
  at_ := (He.glo_ok X G (c.t.d.fact 42 (f := .glo "Counters") rfl))
  cl := He.cls_ok (c.t.d.fact 66 (f := .cls "Counters") rfl)
  n1 := (He.noat_ok (c.t.d.fact 70 (f := .noat "Counters" "rounds") rfl))
  n2 := (He.noat_ok (c.t.d.fact 71 (f := .noat "Counters" "rests") rfl))
  isi := isiB_ok (ex_at c.more 14 rfl)
  yes := kitB_ok (ex_at c.more 15 rfl)
  notT := kitB_ok (ex_at c.more 16 rfl)
  first := (ex_at c.more 17 rfl)
theorem clsM_of (X : K.In h) (G : h.Ns mainGlobals mg) (c : Says w h K) : ClsM K mg (He.ga K "Machine") where
  at_ := (He.glo_ok X G (c.t.d.fact 43 (f := .glo "Machine") rfl))
  cl := He.cls_ok (c.t.d.fact 67 (f := .cls "Machine") rfl)
  n1 := (He.noat_ok (c.t.d.fact 72 (f := .noat "Machine" "deeds") rfl))
  n2 := (He.noat_ok (c.t.d.fact 73 (f := .noat "Machine" "states") rfl))
  n3 := (He.noat_ok (c.t.d.fact 74 (f := .noat "Machine" "tables") rfl))
  isi := isiB_ok (ex_at c.more 19 rfl)
  yes := kitB_ok (ex_at c.more 20 rfl)
  notT := kitB_ok (ex_at c.more 21 rfl)
  first := (ex_at c.more 22 rfl)
theorem hd_of (X : K.In h) (G : h.Ns mainGlobals mg) (c : Says w h K) : Hd K mg (adOf K) (He.ga K "WitnessError") where
  g_W := (He.glo_ok X G (c.t.d.fact 36 (f := .glo "WitnessError") rfl))
  g_T := (He.glo_ok X G (c.t.d.fact 40 (f := .glo "BadText") rfl))
  x_T := excB_xf (ex_at c.more 10 rfl)
  n_T := (He.noat_ok (c.t.d.fact 78 (f := .noat "BadText" "at") rfl))
  e_T := excB_ok (ex_at c.more 10 rfl)
  k_T := kitB_ok (ex_at c.more 13 rfl)
  m_TT := (He.exm_ok (c.t.d.fact 80 (f := .exm "BadText" "BadText" true) rfl))
theorem hdx_R (X : K.In h) (G : h.Ns mainGlobals mg) (c : Says w h K) : HdX K mg (adOf K).cR "BadRow" where
  g := (He.glo_ok X G (c.t.d.fact 38 (f := .glo "BadRow") rfl))
  x_ := excB_xf (ex_at c.more 11 rfl)
  n_ := (He.noat_ok (c.t.d.fact 76 (f := .noat "BadRow" "at") rfl))
  m_ := (He.exm_ok (c.t.d.fact 81 (f := .exm "BadRow" "BadRow" true) rfl))
theorem hdx_S (X : K.In h) (G : h.Ns mainGlobals mg) (c : Says w h K) : HdX K mg (adOf K).cS "BadShowing" where
  g := (He.glo_ok X G (c.t.d.fact 39 (f := .glo "BadShowing") rfl))
  x_ := excB_xf (ex_at c.more 12 rfl)
  n_ := (He.noat_ok (c.t.d.fact 77 (f := .noat "BadShowing" "at") rfl))
  m_ := (He.exm_ok (c.t.d.fact 82 (f := .exm "BadShowing" "BadShowing" true) rfl))
end
section
variable {P : Program} {w : World} {K : PySem.W.Frag} {mg : Str → Option Value} {base : Heap} {x f qual : Str} {C : Addr} {fd : FuncData}
theorem errN_of (at_ : mg x = some (.ref C)) (cls : EvC K C) (ini : iniB K C = true) (ok : FnOk P w K mg base CX0 1 (He.ma K C "__init__") fd ["self", f] (spKeep K C f)) (b : Binds K fd ["self", f] [])
    (kb : KBn K fd ["self", f] 1 [f] (fun us ws => us ++ ws) (fun vs zs => vs ++ zs)) : ErrN P w K mg base 1 x f C :=
  ⟨at_, cls, _, fd, (iniB_ok ini).1, (iniB_ok ini).2, b, ok, fun s' a ws X l => kb.to s' [.ref a] ws X rfl l⟩
end
theorem sc_BadMachine : FnScope ["self", "at"] ["self", "at"] (defScope s_BadMachine_init) := ⟨rfl, rfl, rfl, by decide +kernel, rfl, by decide +kernel, by decide +kernel⟩
theorem err_BadMachine {P : Program} {w w' : World} {K : PySem.W.Frag} {h base : Heap} {mg : Str → Option Value} (X : K.In h) (G : h.Ns mainGlobals mg) (c : Says w' h K) : ErrN P w K mg base 1 "BadMachine" "at" (He.ga K "BadMachine") := by
  obtain ⟨fd, F⟩ := c.t.d.def_ 36 rfl
  exact errN_of (He.glo_ok X G (c.t.d.fact 37 (f := .glo "BadMachine") rfl)) (EvC.of (oexB_ok (ex_at c.more 0 rfl))) (ex_at c.more 5 rfl) (ok_keep F (oexB_ok (ex_at c.more 0 rfl)) (He.noat_ok (c.t.d.fact 75 (f := .noat "BadMachine" "at") rfl)) sc_BadMachine (by decide) (by decide) (by decide +kernel) (by decide +kernel)) (F.bindsN fun _ _ _ _ _ _ us hl => match us, hl with | [_, _], _ => rfl)
    (kbn_of F (fun r1 r2 => r1.append r2) fun _ _ _ _ _ _ us ws hl hm => match us, ws, hl, hm with | [_], [_], _, _ => rfl)
theorem sc_BadRow : FnScope ["self", "at"] ["self", "at"] (defScope s_BadRow_init) := ⟨rfl, rfl, rfl, by decide +kernel, rfl, by decide +kernel, by decide +kernel⟩
theorem err_BadRow {P : Program} {w w' : World} {K : PySem.W.Frag} {h base : Heap} {mg : Str → Option Value} (X : K.In h) (G : h.Ns mainGlobals mg) (c : Says w' h K) : ErrN P w K mg base 1 "BadRow" "at" (He.ga K "BadRow") := by
  obtain ⟨fd, F⟩ := c.t.d.def_ 37 rfl
  exact errN_of (He.glo_ok X G (c.t.d.fact 38 (f := .glo "BadRow") rfl)) (EvC.of (oexB_ok (ex_at c.more 1 rfl))) (ex_at c.more 6 rfl) (ok_keep F (oexB_ok (ex_at c.more 1 rfl)) (He.noat_ok (c.t.d.fact 76 (f := .noat "BadRow" "at") rfl)) sc_BadRow (by decide) (by decide) (by decide +kernel) (by decide +kernel)) (F.bindsN fun _ _ _ _ _ _ us hl => match us, hl with | [_, _], _ => rfl)
    (kbn_of F (fun r1 r2 => r1.append r2) fun _ _ _ _ _ _ us ws hl hm => match us, ws, hl, hm with | [_], [_], _, _ => rfl)
theorem sc_BadShowing : FnScope ["self", "at"] ["self", "at"] (defScope s_BadShowing_init) := ⟨rfl, rfl, rfl, by decide +kernel, rfl, by decide +kernel, by decide +kernel⟩
theorem err_BadShowing {P : Program} {w w' : World} {K : PySem.W.Frag} {h base : Heap} {mg : Str → Option Value} (X : K.In h) (G : h.Ns mainGlobals mg) (c : Says w' h K) : ErrN P w K mg base 1 "BadShowing" "at" (He.ga K "BadShowing") := by
  obtain ⟨fd, F⟩ := c.t.d.def_ 38 rfl
  exact errN_of (He.glo_ok X G (c.t.d.fact 39 (f := .glo "BadShowing") rfl)) (EvC.of (oexB_ok (ex_at c.more 2 rfl))) (ex_at c.more 7 rfl) (ok_keep F (oexB_ok (ex_at c.more 2 rfl)) (He.noat_ok (c.t.d.fact 77 (f := .noat "BadShowing" "at") rfl)) sc_BadShowing (by decide) (by decide) (by decide +kernel) (by decide +kernel)) (F.bindsN fun _ _ _ _ _ _ us hl => match us, hl with | [_, _], _ => rfl)
    (kbn_of F (fun r1 r2 => r1.append r2) fun _ _ _ _ _ _ us ws hl hm => match us, ws, hl, hm with | [_], [_], _, _ => rfl)
theorem sc_BadText : FnScope ["self", "at"] ["self", "at"] (defScope s_BadText_init) := ⟨rfl, rfl, rfl, by decide +kernel, rfl, by decide +kernel, by decide +kernel⟩
theorem err_BadText {P : Program} {w w' : World} {K : PySem.W.Frag} {h base : Heap} {mg : Str → Option Value} (X : K.In h) (G : h.Ns mainGlobals mg) (c : Says w' h K) : ErrN P w K mg base 1 "BadText" "at" (He.ga K "BadText") := by
  obtain ⟨fd, F⟩ := c.t.d.def_ 39 rfl
  exact errN_of (He.glo_ok X G (c.t.d.fact 40 (f := .glo "BadText") rfl)) (EvC.of (oexB_ok (ex_at c.more 3 rfl))) (ex_at c.more 8 rfl) (ok_keep F (oexB_ok (ex_at c.more 3 rfl)) (He.noat_ok (c.t.d.fact 78 (f := .noat "BadText" "at") rfl)) sc_BadText (by decide) (by decide) (by decide +kernel) (by decide +kernel)) (F.bindsN fun _ _ _ _ _ _ us hl => match us, hl with | [_, _], _ => rfl)
    (kbn_of F (fun r1 r2 => r1.append r2) fun _ _ _ _ _ _ us ws hl hm => match us, ws, hl, hm with | [_], [_], _, _ => rfl)
theorem sc_Refused : FnScope ["self", "at"] ["self", "at"] (defScope s_Refused_init) := ⟨rfl, rfl, rfl, by decide +kernel, rfl, by decide +kernel, by decide +kernel⟩
theorem err_Refused {P : Program} {w w' : World} {K : PySem.W.Frag} {h base : Heap} {mg : Str → Option Value} (X : K.In h) (G : h.Ns mainGlobals mg) (c : Says w' h K) : ErrN P w K mg base 1 "Refused" "at" (He.ga K "Refused") := by
  obtain ⟨fd, F⟩ := c.t.d.def_ 40 rfl
  exact errN_of (He.glo_ok X G (c.t.d.fact 41 (f := .glo "Refused") rfl)) (EvC.of (oexB_ok (ex_at c.more 4 rfl))) (ex_at c.more 9 rfl) (ok_keep F (oexB_ok (ex_at c.more 4 rfl)) (He.noat_ok (c.t.d.fact 79 (f := .noat "Refused" "at") rfl)) sc_Refused (by decide) (by decide) (by decide +kernel) (by decide +kernel)) (F.bindsN fun _ _ _ _ _ _ us hl => match us, hl with | [_, _], _ => rfl)
    (kbn_of F (fun r1 r2 => r1.append r2) fun _ _ _ _ _ _ us ws hl hm => match us, ws, hl, hm with | [_], [_], _, _ => rfl)
theorem er_of {P : Program} {w w' : World} {K : PySem.W.Frag} {h base : Heap} {mg : Str → Option Value} (X : K.In h) (G : h.Ns mainGlobals mg) (c : Says w' h K) : Er P w K mg base (adOf K) where
  BadMachine := err_BadMachine X G c
  BadRow := err_BadRow X G c
  BadShowing := err_BadShowing X G c
  BadText := err_BadText X G c
  Refused := err_Refused X G c
theorem errH_of {P : Program} {w w' : World} {K : PySem.W.Frag} {h base : Heap} {mg : Str → Option Value} (X : K.In h) (G : h.Ns mainGlobals mg) (c : Says w' h K) : ErrH P w K mg base 1 "BadText" "at" (adOf K).cT := by
  obtain ⟨fd, F⟩ := c.t.d.def_ 39 rfl
  exact ⟨(He.glo_ok X G (c.t.d.fact 40 (f := .glo "BadText") rfl)), oexB_ok (ex_at c.more 3 rfl), _, fd, (iniB_ok (ex_at c.more 8 rfl)).1, (iniB_ok (ex_at c.more 8 rfl)).2, F.bindsN fun _ _ _ _ _ _ us hl => match us, hl with | [_, _], _ => rfl, ok_keepH F (oexB_ok (ex_at c.more 3 rfl)) (He.noat_ok (c.t.d.fact 78 (f := .noat "BadText" "at") rfl)) sc_BadText (by decide) (by decide) (by decide +kernel) (by decide +kernel)⟩
section
variable {P : Program} {w : World} {K : PySem.W.Frag} {mg : Str → Option Value} {base : Heap} {x qual : Str} {params : Arguments} {body : List Stmt} {scope : Scope} {f : Addr} {fd : FuncData} {ps ks : List Str} {k n : Nat} {CX : CXT} {sp : Sp}
/-- a def by its name -/
theorem cal_of (at_ : mg x = some (.ref f)) (F : FunD K x qual params body scope [] [] f fd) (ok : FnOk P w K mg base CX k f fd ps sp) (h : ∀ (kV doc pm : Value) (an : Option Addr) (cdv ct : Value) (us : List Value), us.length = ps.length → bindArgs (PySem.W.fnOf x qual params body scope .none kV doc pm an cdv ct) ⟨us, []⟩ = pure (ps.zip us)) :
    Cal P w K mg base CX k x ps sp := ⟨_, _, at_, F.kp, F.bindsN h, ok⟩
theorem calN_of {g : List Value → List Value → List Value} {gV : List V → List V → List V} (at_ : mg x = some (.ref f)) (F : FunD K x qual params body scope [] [] f fd) (ok : FnOk P w K mg base CX k f fd ps sp) (rel : ∀ {vs us zs ws}, Vals vs us → Vals zs ws → Vals (gV vs zs) (g us ws))
    (h : ∀ (kV doc pm : Value) (an : Option Addr) (cdv ct : Value) (us ws : List Value), us.length = n → ws.length = ks.length → bindArgs (PySem.W.fnOf x qual params body scope .none kV doc pm an cdv ct) ⟨us, ks.zip ws⟩ = pure (ps.zip (g us ws))) : CalN P w K mg base CX k n x ps ks gV sp :=
  ⟨_, _, g, at_, F.kp, kbn_of F rel h, ok⟩
end
section
variable {P : Program} {w w' : World} {K : PySem.W.Frag} {h base : Heap} {mg : Str → Option Value}
theorem mks_of (X : K.In h) (G : h.Ns mainGlobals mg) (c : Says w' h K) : Mks P w K mg base (adOf K) (He.ga K "Counters") (He.ga K "Machine") := by
  have T := mg_of X G c
  have TC := clsC_of X G c
  have TM := clsM_of X G c
  have R : Er P w K mg base (adOf K) := er_of X G c
  obtain ⟨fdn, Fn⟩ := c.t.d.def_ 0 (d := dF "is_number" s_is_number) rfl
  have fn : FnOk P w K mg base CX0 1 (He.ga K "is_number") fdn ["value"] (spNumber K) := ok_is_number Fn T
  have cn : Cal P w K mg base CX0 1 "is_number" ["value"] (spNumber K) := cal_of (He.glo_ok X G (c.t.d.fact 0 (f := .glo "is_number") rfl)) Fn fn fun _ _ _ _ _ _ us hl => match us, hl with | [_], _ => rfl
  obtain ⟨fdb, Fb⟩ := c.t.d.def_ 1 (d := dF "is_below" s_is_below) rfl
  have fb : FnOk P w K mg base CX0 2 (He.ga K "is_below") fdb ["value", "limit"] (spBelow K) := ok_is_below Fb T cn
  have cb : Cal P w K mg base CX0 2 "is_below" ["value", "limit"] (spBelow K) := cal_of (He.glo_ok X G (c.t.d.fact 1 (f := .glo "is_below") rfl)) Fb fb fun _ _ _ _ _ _ us hl => match us, hl with | [_, _], _ => rfl
  obtain ⟨fds, Fs⟩ := c.t.d.def_ 2 (d := dF "is_sequence" s_is_sequence) rfl
  have fs : FnOk P w K mg base CX0 1 (He.ga K "is_sequence") fds ["value", "least", "most"] (spSeq K) := ok_is_sequence Fs T
  have cs : Cal P w K mg base CX0 1 "is_sequence" ["value", "least", "most"] (spSeq K) := cal_of (He.glo_ok X G (c.t.d.fact 2 (f := .glo "is_sequence") rfl)) Fs fs fun _ _ _ _ _ _ us hl => match us, hl with | [_, _, _], _ => rfl
  obtain ⟨fdl, Fl⟩ := c.t.d.def_ 3 (d := dF "first_not_below" s_first_not_below) rfl
  have fl : FnOk P w K mg base CX0 3 (He.ga K "first_not_below") fdl ["values", "limit"] (spFnb K) := ok_first_not_below Fl T cb
  have cl : Cal P w K mg base CX0 3 "first_not_below" ["values", "limit"] (spFnb K) := cal_of (He.glo_ok X G (c.t.d.fact 3 (f := .glo "first_not_below") rfl)) Fl fl fun _ _ _ _ _ _ us hl => match us, hl with | [_, _], _ => rfl
  obtain ⟨fde, Fe⟩ := c.t.d.def_ 5 (d := dF "_are_rests" s_are_rests) rfl
  have fe : FnOk P w K mg base CX0 4 (He.ga K "_are_rests") fde ["value", "kinds"] (spRests K) := ok_are_rests Fe T cs cl
  have ce : Cal P w K mg base CX0 4 "_are_rests" ["value", "kinds"] (spRests K) := cal_of (He.glo_ok X G (c.t.d.fact 5 (f := .glo "_are_rests") rfl)) Fe fe fun _ _ _ _ _ _ us hl => match us, hl with | [_, _], _ => rfl
  obtain ⟨fdt, Ft⟩ := c.t.d.def_ 8 (d := dF "_is_table" s_is_table) rfl
  have ft : FnOk P w K mg base CX0 4 (He.ga K "_is_table") fdt ["value", "like"] (spTable K) := ok_is_table Ft T cs cl
  have ct : Cal P w K mg base CX0 4 "_is_table" ["value", "like"] (spTable K) := cal_of (He.glo_ok X G (c.t.d.fact 8 (f := .glo "_is_table") rfl)) Ft ft fun _ _ _ _ _ _ us hl => match us, hl with | [_, _], _ => rfl
  obtain ⟨fdI, FI⟩ := c.t.d.def_ 41 (d := dM "Counters" "__init__" "Counters.__init__" s_Counters_init [.adr tZero]) rfl
  obtain ⟨fdE, FE⟩ := c.t.d.def_ 42 (d := dM "Counters" "__eq__" "Counters.__eq__" s_Counters_eq []) rfl
  obtain ⟨fdM, FM⟩ := c.t.d.def_ 43 (d := dM "Machine" "__init__" "Machine.__init__" s_Machine_init []) rfl
  obtain ⟨fdQ, FQ⟩ := c.t.d.def_ 44 (d := dM "Machine" "__eq__" "Machine.__eq__" s_Machine_eq []) rfl
  have okI : FnOk P w K mg base (L2N.CX P w) 5 (He.ma K (He.ga K "Counters") "__init__") fdI ["self", "rounds", "rests"] (spInit K (adOf K) (He.ga K "Counters")) := ok_init FI T R TC cs cl ce
  have okM : FnOk P w K mg base (L2N.CX P w) 5 (He.ma K (He.ga K "Machine") "__init__") fdM ["self", "tables"] (spMachine K (adOf K) (He.ga K "Machine")) := ok_machine FM T R TM cs ct
  have okE : FnOk P w K mg base CX0 1 (He.ma K (He.ga K "Counters") "__eq__") fdE ["self", "other"] (spEqC K (He.ga K "Counters")) := ok_eqC FE T TC
  have okQ : FnOk P w K mg base CX0 1 (He.ma K (He.ga K "Machine") "__eq__") fdQ ["self", "other"] (spEqM K (He.ga K "Machine")) := ok_eq FQ T TM
  have b1 : Binds K fdI ["self", "rounds", "rests"] [] := by
    obtain ⟨ds, v, b⟩ := FunD.binds1 (ps := ["self", "rounds", "rests"]) FI 3 1 (List.cons_ne_nil _ _) rfl fun _ _ _ _ _ _ _ us its l1 l2 => match us, its, l1, l2 with | [_, _, _], [_], _, _ => ⟨_, rfl, rfl⟩
    cases v
    exact b
  exact {
    cnt := ⟨_, fdI, He.mkr_ok (c.t.d.fact 68 (f := .mkr "Counters") rfl), okI, b1⟩
    mac := ⟨_, fdM, He.mkr_ok (c.t.d.fact 69 (f := .mkr "Machine") rfl), okM, FM.bindsN fun _ _ _ _ _ _ us hl => match us, hl with | [_, _], _ => rfl⟩
    eqC := ⟨_, fdE, eqB_ok (ex_at c.more 18 rfl), FE.bindsN fun _ _ _ _ _ _ us hl => match us, hl with | [_, _], _ => rfl, okE⟩
    eqM := ⟨_, fdQ, eqB_ok (ex_at c.more 23 rfl), FQ.bindsN fun _ _ _ _ _ _ us hl => match us, hl with | [_, _], _ => rfl, okQ⟩ }
/-- what the law calls of the program -/
structure Prg (P : Program) (w : World) (K : PySem.W.Frag) (mg : Str → Option Value) (base : Heap) (a : Ad) (C CM : Addr) : Prop where
  mtxt : Cal P w K mg base CX0 3 "machine_text" ["machine"] (spMtext K CM)
  mtxtK : CalN P w K mg base CX0 3 0 "machine_text" ["machine"] ["machine"] kw1 (spMtext K CM)
  ctxt : Cal P w K mg base CX0 3 "counters_text" ["counters"] (spCtext K C)
  ctxtK : CalN P w K mg base CX0 3 0 "counters_text" ["counters"] ["counters"] kw1 (spCtext K C)
  rdM : Cal P w K mg base (L2.CX P w) 7 "read_machine" ["text"] (spRdM K a CM)
  rdMK : CalN P w K mg base (L2.CX P w) 7 0 "read_machine" ["text"] ["text"] kw1 (spRdM K a CM)
  rdC : Cal P w K mg base (L2.CX P w) 7 "read_counters" ["text"] (spRdC K a C)
  rdCK : CalN P w K mg base (L2.CX P w) 7 0 "read_counters" ["text"] ["text"] kw1 (spRdC K a C)
  rtxt : Cal P w K mg base (L2.CX P w) 6 "row_text" ["machine", "row"] (spRtext K a CM)
  rtxtK : CalN P w K mg base (L2.CX P w) 6 0 "row_text" ["machine", "row"] ["row", "machine"] kw2 (spRtext K a CM)
  rdR : Cal P w K mg base (L2.CX P w) 5 "read_row" ["machine", "text"] (spRdR K a CM)
  rdRK : CalN P w K mg base (L2.CX P w) 5 0 "read_row" ["machine", "text"] ["text", "machine"] kw2 (spRdR K a CM)
  stxt : Cal P w K mg base (L2.CX P w) 6 "showing_text" ["counters", "showing"] (spStext K a C)
  stxtK : CalN P w K mg base (L2.CX P w) 6 0 "showing_text" ["counters", "showing"] ["showing", "counters"] kw2 (spStext K a C)
  rdS : Cal P w K mg base (L2.CX P w) 6 "read_showing" ["counters", "text"] (spRdS K a C)
  rdSK : CalN P w K mg base (L2.CX P w) 6 0 "read_showing" ["counters", "text"] ["text", "counters"] kw2 (spRdS K a C)
theorem prg_of (X : K.In h) (G : h.Ns mainGlobals mg) (c : Says w' h K) : Prg P w K mg base (adOf K) (He.ga K "Counters") (He.ga K "Machine") := by
  have T := mg_of X G c
  have TC := clsC_of X G c
  have TM := clsM_of X G c
  have R : Er P w K mg base (adOf K) := er_of X G c
  have M : Mks P w K mg base (adOf K) (He.ga K "Counters") (He.ga K "Machine") := mks_of X G c
  obtain ⟨fdn, Fn⟩ := c.t.d.def_ 0 (d := dF "is_number" s_is_number) rfl
  have fn : FnOk P w K mg base CX0 1 (He.ga K "is_number") fdn ["value"] (spNumber K) := ok_is_number Fn T
  have cn : Cal P w K mg base CX0 1 "is_number" ["value"] (spNumber K) := cal_of (He.glo_ok X G (c.t.d.fact 0 (f := .glo "is_number") rfl)) Fn fn fun _ _ _ _ _ _ us hl => match us, hl with | [_], _ => rfl
  obtain ⟨fdb, Fb⟩ := c.t.d.def_ 1 (d := dF "is_below" s_is_below) rfl
  have fb : FnOk P w K mg base CX0 2 (He.ga K "is_below") fdb ["value", "limit"] (spBelow K) := ok_is_below Fb T cn
  have cb : Cal P w K mg base CX0 2 "is_below" ["value", "limit"] (spBelow K) := cal_of (He.glo_ok X G (c.t.d.fact 1 (f := .glo "is_below") rfl)) Fb fb fun _ _ _ _ _ _ us hl => match us, hl with | [_, _], _ => rfl
  obtain ⟨fds, Fs⟩ := c.t.d.def_ 2 (d := dF "is_sequence" s_is_sequence) rfl
  have fs : FnOk P w K mg base CX0 1 (He.ga K "is_sequence") fds ["value", "least", "most"] (spSeq K) := ok_is_sequence Fs T
  have cs : Cal P w K mg base CX0 1 "is_sequence" ["value", "least", "most"] (spSeq K) := cal_of (He.glo_ok X G (c.t.d.fact 2 (f := .glo "is_sequence") rfl)) Fs fs fun _ _ _ _ _ _ us hl => match us, hl with | [_, _, _], _ => rfl
  obtain ⟨fdl, Fl⟩ := c.t.d.def_ 3 (d := dF "first_not_below" s_first_not_below) rfl
  have fl : FnOk P w K mg base CX0 3 (He.ga K "first_not_below") fdl ["values", "limit"] (spFnb K) := ok_first_not_below Fl T cb
  have cl : Cal P w K mg base CX0 3 "first_not_below" ["values", "limit"] (spFnb K) := cal_of (He.glo_ok X G (c.t.d.fact 3 (f := .glo "first_not_below") rfl)) Fl fl fun _ _ _ _ _ _ us hl => match us, hl with | [_, _], _ => rfl
  obtain ⟨fdr, Fr⟩ := c.t.d.def_ 4 (d := dF "row_of" s_row_of) rfl
  have fr : FnOk P w K mg base (L2N.CX P w) 4 (He.ga K "row_of") fdr ["value", "deeds"] (spRowOf K (adOf K)) := ok_row_of Fr T R cs cl
  have cr : Cal P w K mg base (L2N.CX P w) 4 "row_of" ["value", "deeds"] (spRowOf K (adOf K)) := cal_of (He.glo_ok X G (c.t.d.fact 4 (f := .glo "row_of") rfl)) Fr fr fun _ _ _ _ _ _ us hl => match us, hl with | [_, _], _ => rfl
  obtain ⟨fdca, Fca⟩ := c.t.d.def_ 6 (d := dF "_can_show" s_can_show) rfl
  have fca : FnOk P w K mg base CX0 3 (He.ga K "_can_show") fdca ["counters", "kind", "value"] (spCanShow K (He.ga K "Counters")) := ok_can_show Fca T TC cn cb
  have cca : Cal P w K mg base CX0 3 "_can_show" ["counters", "kind", "value"] (spCanShow K (He.ga K "Counters")) := cal_of (He.glo_ok X G (c.t.d.fact 6 (f := .glo "_can_show") rfl)) Fca fca fun _ _ _ _ _ _ us hl => match us, hl with | [_, _, _], _ => rfl
  obtain ⟨fdck, Fck⟩ := c.t.d.def_ 7 (d := dF "check_showing" s_check_showing) rfl
  have fck : FnOk P w K mg base (L2N.CX P w) 4 (He.ga K "check_showing") fdck ["counters", "value"] (spCheck K (adOf K) (He.ga K "Counters")) := ok_check Fck T R TC cs cca
  have cck : Cal P w K mg base (L2N.CX P w) 4 "check_showing" ["counters", "value"] (spCheck K (adOf K) (He.ga K "Counters")) := cal_of (He.glo_ok X G (c.t.d.fact 7 (f := .glo "check_showing") rfl)) Fck fck fun _ _ _ _ _ _ us hl => match us, hl with | [_, _], _ => rfl
  obtain ⟨fdcr, Fcr⟩ := c.t.d.def_ 9 (d := dF "check_row" s_check_row) rfl
  have fcr : FnOk P w K mg base (L2N.CX P w) 5 (He.ga K "check_row") fdcr ["machine", "value"] (spRow K (adOf K) (He.ga K "Machine")) := ok_check_row Fcr T TM cr
  have ccr : Cal P w K mg base (L2N.CX P w) 5 "check_row" ["machine", "value"] (spRow K (adOf K) (He.ga K "Machine")) := cal_of (He.glo_ok X G (c.t.d.fact 9 (f := .glo "check_row") rfl)) Fcr fcr fun _ _ _ _ _ _ us hl => match us, hl with | [_, _], _ => rfl
  obtain ⟨fdnt, Fnt⟩ := c.t.d.def_ 10 (d := dF "_number_text" s_number_text) rfl
  have fnt : FnOk P w K mg base CX0 1 (He.ga K "_number_text") fdnt ["number"] spNumText := ok_number_text Fnt T
  have cnt : Cal P w K mg base CX0 1 "_number_text" ["number"] spNumText := cal_of (He.glo_ok X G (c.t.d.fact 10 (f := .glo "_number_text") rfl)) Fnt fnt fun _ _ _ _ _ _ us hl => match us, hl with | [_], _ => rfl
  obtain ⟨fdns, Fns⟩ := c.t.d.def_ 11 (d := dF "_numbers_text" s_numbers_text) rfl
  have fns : FnOk P w K mg base CX0 2 (He.ga K "_numbers_text") fdns ["numbers"] (spNums K) := ok_numbers_text Fns T cnt
  have cns : Cal P w K mg base CX0 2 "_numbers_text" ["numbers"] (spNums K) := cal_of (He.glo_ok X G (c.t.d.fact 11 (f := .glo "_numbers_text") rfl)) Fns fns fun _ _ _ _ _ _ us hl => match us, hl with | [_], _ => rfl
  obtain ⟨fdmt, Fmt⟩ := c.t.d.def_ 12 (d := dF "machine_text" s_machine_text) rfl
  have fmt : FnOk P w K mg base CX0 3 (He.ga K "machine_text") fdmt ["machine"] (spMtext K (He.ga K "Machine")) := ok_machine_text Fmt T TM cnt cns
  have cmt : Cal P w K mg base CX0 3 "machine_text" ["machine"] (spMtext K (He.ga K "Machine")) := cal_of (He.glo_ok X G (c.t.d.fact 12 (f := .glo "machine_text") rfl)) Fmt fmt fun _ _ _ _ _ _ us hl => match us, hl with | [_], _ => rfl
  obtain ⟨fdct, Fct⟩ := c.t.d.def_ 13 (d := dF "counters_text" s_counters_text) rfl
  have fct : FnOk P w K mg base CX0 3 (He.ga K "counters_text") fdct ["counters"] (spCtext K (He.ga K "Counters")) := ok_counters_text Fct T TC cns
  have cct : Cal P w K mg base CX0 3 "counters_text" ["counters"] (spCtext K (He.ga K "Counters")) := cal_of (He.glo_ok X G (c.t.d.fact 13 (f := .glo "counters_text") rfl)) Fct fct fun _ _ _ _ _ _ us hl => match us, hl with | [_], _ => rfl
  obtain ⟨fdrt, Frt⟩ := c.t.d.def_ 14 (d := dF "row_text" s_row_text) rfl
  have frt : FnOk P w K mg base (L2N.CX P w) 6 (He.ga K "row_text") fdrt ["machine", "row"] (spRtext K (adOf K) (He.ga K "Machine")) := ok_row_text Frt T ccr cns
  have crt : Cal P w K mg base (L2N.CX P w) 6 "row_text" ["machine", "row"] (spRtext K (adOf K) (He.ga K "Machine")) := cal_of (He.glo_ok X G (c.t.d.fact 14 (f := .glo "row_text") rfl)) Frt frt fun _ _ _ _ _ _ us hl => match us, hl with | [_, _], _ => rfl
  obtain ⟨fdst, Fst⟩ := c.t.d.def_ 15 (d := dF "showing_text" s_showing_text) rfl
  have fst : FnOk P w K mg base (L2N.CX P w) 6 (He.ga K "showing_text") fdst ["counters", "showing"] (spStext K (adOf K) (He.ga K "Counters")) := ok_showing_text Fst T cck cns
  have cst : Cal P w K mg base (L2N.CX P w) 6 "showing_text" ["counters", "showing"] (spStext K (adOf K) (He.ga K "Counters")) := cal_of (He.glo_ok X G (c.t.d.fact 15 (f := .glo "showing_text") rfl)) Fst fst fun _ _ _ _ _ _ us hl => match us, hl with | [_, _], _ => rfl
  obtain ⟨fdnx, Fnx⟩ := c.t.d.def_ 16 (d := dF "_need_text" s_need_text) rfl
  have fnx : FnOk P w K mg base (L2N.CX P w) 4 (He.ga K "_need_text") fdnx ["text"] (spText K (adOf K)) := ok_need_text Fnx T R
  have cnx : Cal P w K mg base (L2N.CX P w) 4 "_need_text" ["text"] (spText K (adOf K)) := cal_of (He.glo_ok X G (c.t.d.fact 16 (f := .glo "_need_text") rfl)) Fnx fnx fun _ _ _ _ _ _ us hl => match us, hl with | [_], _ => rfl
  obtain ⟨fdrb, Frb⟩ := c.t.d.def_ 17 (d := dF "read_below" s_read_below) rfl
  have frb : FnOk P w K mg base CX0 1 (He.ga K "read_below") fdrb ["words", "limit"] (spRdB K) := ok_read_below Frb T
  have crb : Cal P w K mg base CX0 1 "read_below" ["words", "limit"] (spRdB K) := cal_of (He.glo_ok X G (c.t.d.fact 17 (f := .glo "read_below") rfl)) Frb frb fun _ _ _ _ _ _ us hl => match us, hl with | [_, _], _ => rfl
  obtain ⟨fdrl, Frl⟩ := c.t.d.def_ 18 (d := dF "_read_line" s_read_line) rfl
  have frl : FnOk P w K mg base CX0 2 (He.ga K "_read_line") fdrl ["line", "name", "limit"] (spRdL K) := ok_read_line Frl T crb
  have crl : Cal P w K mg base CX0 2 "_read_line" ["line", "name", "limit"] (spRdL K) := cal_of (He.glo_ok X G (c.t.d.fact 18 (f := .glo "_read_line") rfl)) Frl frl fun _ _ _ _ _ _ us hl => match us, hl with | [_, _, _], _ => rfl
  obtain ⟨fdrs, Frs⟩ := c.t.d.def_ 19 (d := dF "_read_states" s_read_states) rfl
  have frs : FnOk P w K mg base (L2N.CX P w) 3 (He.ga K "_read_states") fdrs ["line"] (spRdStates (adOf K)) := ok_read_states Frs T R crl
  have crs : Cal P w K mg base (L2N.CX P w) 3 "_read_states" ["line"] (spRdStates (adOf K)) := cal_of (He.glo_ok X G (c.t.d.fact 19 (f := .glo "_read_states") rfl)) Frs frs fun _ _ _ _ _ _ us hl => match us, hl with | [_], _ => rfl
  obtain ⟨fdrm, Frm⟩ := c.t.d.def_ 20 (d := dF "read_machine" s_read_machine) rfl
  have frm : FnOk P w K mg base (L2N.CX P w) 7 (He.ga K "read_machine") fdrm ["text"] (spRdM K (adOf K) (He.ga K "Machine")) := ok_read_machine Frm T TM R M cnx crb crs
  have crm : Cal P w K mg base (L2N.CX P w) 7 "read_machine" ["text"] (spRdM K (adOf K) (He.ga K "Machine")) := cal_of (He.glo_ok X G (c.t.d.fact 20 (f := .glo "read_machine") rfl)) Frm frm fun _ _ _ _ _ _ us hl => match us, hl with | [_], _ => rfl
  obtain ⟨fdrc, Frc⟩ := c.t.d.def_ 21 (d := dF "read_counters" s_read_counters) rfl
  have frc : FnOk P w K mg base (L2N.CX P w) 7 (He.ga K "read_counters") fdrc ["text"] (spRdC K (adOf K) (He.ga K "Counters")) := ok_read_counters Frc T TC R M cnx crl cs
  have crc : Cal P w K mg base (L2N.CX P w) 7 "read_counters" ["text"] (spRdC K (adOf K) (He.ga K "Counters")) := cal_of (He.glo_ok X G (c.t.d.fact 21 (f := .glo "read_counters") rfl)) Frc frc fun _ _ _ _ _ _ us hl => match us, hl with | [_], _ => rfl
  obtain ⟨fdrr, Frr⟩ := c.t.d.def_ 22 (d := dF "read_row" s_read_row) rfl
  have frr : FnOk P w K mg base (L2N.CX P w) 5 (He.ga K "read_row") fdrr ["machine", "text"] (spRdR K (adOf K) (He.ga K "Machine")) := ok_read_row Frr T R TM cnx crb
  have crr : Cal P w K mg base (L2N.CX P w) 5 "read_row" ["machine", "text"] (spRdR K (adOf K) (He.ga K "Machine")) := cal_of (He.glo_ok X G (c.t.d.fact 22 (f := .glo "read_row") rfl)) Frr frr fun _ _ _ _ _ _ us hl => match us, hl with | [_, _], _ => rfl
  obtain ⟨fdrn, Frn⟩ := c.t.d.def_ 23 (d := dF "_read_number" s_read_number) rfl
  have frn : FnOk P w K mg base CX0 1 (He.ga K "_read_number") fdrn ["word"] spRdN := ok_read_number Frn T
  have crn : Cal P w K mg base CX0 1 "_read_number" ["word"] spRdN := cal_of (He.glo_ok X G (c.t.d.fact 23 (f := .glo "_read_number") rfl)) Frn frn fun _ _ _ _ _ _ us hl => match us, hl with | [_], _ => rfl
  obtain ⟨fdrg, Frg⟩ := c.t.d.def_ 24 (d := dF "read_showing" s_read_showing) rfl
  have frg : FnOk P w K mg base (L2.CX P w) 6 (He.ga K "read_showing") fdrg ["counters", "text"] (spRdS K (adOf K) (He.ga K "Counters")) := ok_read_showing Frg T R (errH_of X G c) (He.exm_ok (c.t.d.fact 82 (f := .exm "BadShowing" "BadShowing" true) rfl)) cnx crn cck
  have crg : Cal P w K mg base (L2.CX P w) 6 "read_showing" ["counters", "text"] (spRdS K (adOf K) (He.ga K "Counters")) := cal_of (He.glo_ok X G (c.t.d.fact 24 (f := .glo "read_showing") rfl)) Frg frg fun _ _ _ _ _ _ us hl => match us, hl with | [_, _], _ => rfl
  exact {
    mtxt := cmt
    mtxtK := calN_of (g := wk1) (He.glo_ok X G (c.t.d.fact 12 (f := .glo "machine_text") rfl)) Fmt fmt rel1 fun _ _ _ _ _ _ us ws hl hm => match us, ws, hl, hm with | [], [_], _, _ => rfl
    ctxt := cct
    ctxtK := calN_of (g := wk1) (He.glo_ok X G (c.t.d.fact 13 (f := .glo "counters_text") rfl)) Fct fct rel1 fun _ _ _ _ _ _ us ws hl hm => match us, ws, hl, hm with | [], [_], _, _ => rfl
    rdM := crm.toL2
    rdMK := CalN.toL2 (calN_of (g := wk1) (He.glo_ok X G (c.t.d.fact 20 (f := .glo "read_machine") rfl)) Frm frm rel1 fun _ _ _ _ _ _ us ws hl hm => match us, ws, hl, hm with | [], [_], _, _ => rfl)
    rdC := crc.toL2
    rdCK := CalN.toL2 (calN_of (g := wk1) (He.glo_ok X G (c.t.d.fact 21 (f := .glo "read_counters") rfl)) Frc frc rel1 fun _ _ _ _ _ _ us ws hl hm => match us, ws, hl, hm with | [], [_], _, _ => rfl)
    rtxt := crt.toL2
    rtxtK := CalN.toL2 (calN_of (g := wk2) (He.glo_ok X G (c.t.d.fact 14 (f := .glo "row_text") rfl)) Frt frt rel2 fun _ _ _ _ _ _ us ws hl hm => match us, ws, hl, hm with | [], [_, _], _, _ => rfl)
    rdR := crr.toL2
    rdRK := CalN.toL2 (calN_of (g := wk2) (He.glo_ok X G (c.t.d.fact 22 (f := .glo "read_row") rfl)) Frr frr rel2 fun _ _ _ _ _ _ us ws hl hm => match us, ws, hl, hm with | [], [_, _], _, _ => rfl)
    stxt := cst.toL2
    stxtK := CalN.toL2 (calN_of (g := wk2) (He.glo_ok X G (c.t.d.fact 15 (f := .glo "showing_text") rfl)) Fst fst rel2 fun _ _ _ _ _ _ us ws hl hm => match us, ws, hl, hm with | [], [_, _], _, _ => rfl)
    rdS := crg
    rdSK := calN_of (g := wk2) (He.glo_ok X G (c.t.d.fact 24 (f := .glo "read_showing") rfl)) Frg frg rel2 fun _ _ _ _ _ _ us ws hl hm => match us, ws, hl, hm with | [], [_, _], _, _ => rfl }
end
end K4
/-! the end -/
namespace K4
open PySem PySem.Spec PyProof.Rows L2 Kx RZ
abbrev Rw : PySem.W.OpenRow := PySem.W.OpenLaw.row PySem.Challenge.rw_onewitness_k04_texts_of_machines_counter
abbrev hk : PySem.W.Hook := He.hookX 5 fa fn [] tf ex
def ob (s : PySem.W.SharedT) : He.AlX := He.obsX 5 fa fn [] tf ex (HandSHeadRun.getT s)
theorem ob_eq (s : PySem.W.SharedT) : ob s = hk.obs s.abs := He.obsX_eq (HandSHeadRun.getT_eq s)
def others1 : List Str := ["WitnessError", "BadMachine", "BadRow", "BadShowing", "BadText", "Refused", "DEEDS_MOST", "STATES_MOST", "ROW_MOST", "is_number", "is_below", "is_sequence", "first_not_below", "row_of", "ROUND_MOST", "REST_MOST", "Counters", "_are_rests", "_can_show", "check_showing", "Machine", "_is_table", "check_row", "PIECE", "PIECE_WORTH", "_number_text", "_numbers_text", "machine_text", "counters_text", "row_text"]
def others2 : List Str := ["showing_text", "_need_text", "read_below", "_read_line", "_read_states", "read_machine", "read_counters", "read_row", "_read_number", "read_showing", "_law_box", "_law_take", "_law_pick", "_law_turned", "_law_machine", "_law_reads", "_law_words", "_law_lines_right", "_law_row_right", "_law_showing_right"]
abbrev others : List Str := others1 ++ others2
theorem top_runs (w : World) : HandSHeadRun.RunEq Rw (PySem.W.view Rw.prog [56]) hk ob 8000 others w := by
  intro os
  kernel_rfl
end K4
/-! the end -/
namespace K4
open PySem PySem.Spec PyProof.Rows L2 Kx RZ
/-- the lambdas' tables and their names -/
def tabsOf (K : PySem.W.Frag) : List (Addr × Str) := [((He.cT K dLines).2, (Str.ofString "_law_lines_right" ++ ".<locals>.") ++ "<lambda>"), ((He.cT K dRow).2, (Str.ofString "_law_row_right" ++ ".<locals>.") ++ "<lambda>"), ((He.cT K dShow).2, (Str.ofString "_law_showing_right" ++ ".<locals>.") ++ "<lambda>"), ((He.cT K dLaw).2, (Str.ofString "law" ++ ".<locals>.") ++ "<lambda>")]
theorem ref_same {m : Option Value} {a b : Addr} (h : m = some (.ref a)) (h' : m = some (.ref b)) : a = b := by
  rw [h] at h'
  injection h' with h'
  injection h'
theorem law_told {P : Program} {w : World} {K : PySem.W.Frag} {h : Heap} {mg : Str → Option Value} (X : K.In h) (G : h.Ns mainGlobals mg) (c : Says w h K) :
    ∃ fd : FuncData, (∀ (s : Shared) (u : Value), BindsTo s fd ⟨[u], []⟩ [("script", u)]) ∧ ∀ base : Heap, K.In base → base.Ns mainGlobals mg → (∀ p ∈ tf.map (He.cT K), LamX.TabB base mg p.1 p.2) → FnG P w K mg base CX0 12 (He.ga K "law") fd ["script"] (spLaw K (tabsOf K)) := by
  obtain ⟨fdlb, Flb⟩ := c.t.d.def_ 25 (d := dF "_law_box" s_law_box) rfl
  obtain ⟨fdlt, Flt⟩ := c.t.d.def_ 26 (d := dF "_law_take" s_law_take) rfl
  obtain ⟨fdlp, Flp⟩ := c.t.d.def_ 27 (d := dF "_law_pick" s_law_pick) rfl
  obtain ⟨fdlu, Flu⟩ := c.t.d.def_ 28 (d := dF "_law_turned" s_law_turned) rfl
  obtain ⟨fdlm, Flm⟩ := c.t.d.def_ 29 (d := dF "_law_machine" s_law_machine) rfl
  obtain ⟨fdH, FH⟩ := c.t.d.def_ 30 (d := dF "_law_reads" s_law_reads) rfl
  obtain ⟨fdlw, Flw⟩ := c.t.d.def_ 31 (d := dF "_law_words" s_law_words) rfl
  obtain ⟨fdLL, FLL⟩ := c.t.d.def_ 32 (d := dF "_law_lines_right" s_law_lines_right) rfl
  obtain ⟨fdLR, FLR⟩ := c.t.d.def_ 33 (d := dF "_law_row_right" s_law_row_right) rfl
  obtain ⟨fdLS, FLS⟩ := c.t.d.def_ 34 (d := dF "_law_showing_right" s_law_showing_right) rfl
  obtain ⟨fdL, FL⟩ := c.t.d.def_ 35 (d := dF "law" s_law) rfl
  have bL := FunD.bindsA (ps := ["script"]) FL fun _ _ _ _ _ _ us hl => match us, hl with | [_], _ => rfl
  refine ⟨fdL, fun s u => bL s [u] rfl, fun base _ _ TB => ?_⟩
  have T := mg_of X G c
  have TC := clsC_of X G c
  have TM := clsM_of X G c
  have D := hd_of X G c
  have DR := hdx_R X G c
  have DS := hdx_S X G c
  have B : Prg P w K mg base (adOf K) (He.ga K "Counters") (He.ga K "Machine") := prg_of X G c
  have M : Mks P w K mg base (adOf K) (He.ga K "Counters") (He.ga K "Machine") := mks_of X G c
  have gH := (He.glo_ok X G (c.t.d.fact 30 (f := .glo "_law_reads") rfl))
  have bH : Binds K fdH ["work"] [] := FH.bindsN fun _ _ _ _ _ _ us hl => match us, hl with | [_], _ => rfl
  have a_dLines_dRow : (He.cT K dLines).2 ≠ (He.cT K dRow).2 := of_decide_eq_true (ex_at c.more 24 rfl)
  have a_dLines_dShow : (He.cT K dLines).2 ≠ (He.cT K dShow).2 := of_decide_eq_true (ex_at c.more 25 rfl)
  have a_dLines_dLaw : (He.cT K dLines).2 ≠ (He.cT K dLaw).2 := of_decide_eq_true (ex_at c.more 26 rfl)
  have a_dRow_dShow : (He.cT K dRow).2 ≠ (He.cT K dShow).2 := of_decide_eq_true (ex_at c.more 27 rfl)
  have a_dRow_dLaw : (He.cT K dRow).2 ≠ (He.cT K dLaw).2 := of_decide_eq_true (ex_at c.more 28 rfl)
  have a_dShow_dLaw : (He.cT K dShow).2 ≠ (He.cT K dLaw).2 := of_decide_eq_true (ex_at c.more 29 rfl)
  have t_dLines : LamX.TabB base mg (He.cT K dLines).1 (He.cT K dLines).2 := TB _ (List.mem_cons_self ..)
  have m_dLines : ((He.cT K dLines).2, (Str.ofString "_law_lines_right" ++ ".<locals>.") ++ "<lambda>") ∈ tabsOf K := List.mem_cons_self ..
  have o_dLines : ∀ p ∈ tabsOf K, p.1 = (He.cT K dLines).2 → p.2 = (Str.ofString "_law_lines_right" ++ ".<locals>.") ++ "<lambda>" := fun p hp e => by
    rcases List.mem_cons.mp hp with rfl | hp
    · rfl
    rcases List.mem_cons.mp hp with rfl | hp
    · exact absurd e.symm a_dLines_dRow
    rcases List.mem_cons.mp hp with rfl | hp
    · exact absurd e.symm a_dLines_dShow
    rcases List.mem_singleton.mp hp with rfl
    exact absurd e.symm a_dLines_dLaw
  have t_dRow : LamX.TabB base mg (He.cT K dRow).1 (He.cT K dRow).2 := TB _ (List.mem_cons_of_mem _ (List.mem_cons_self ..))
  have m_dRow : ((He.cT K dRow).2, (Str.ofString "_law_row_right" ++ ".<locals>.") ++ "<lambda>") ∈ tabsOf K := List.mem_cons_of_mem _ (List.mem_cons_self ..)
  have o_dRow : ∀ p ∈ tabsOf K, p.1 = (He.cT K dRow).2 → p.2 = (Str.ofString "_law_row_right" ++ ".<locals>.") ++ "<lambda>" := fun p hp e => by
    rcases List.mem_cons.mp hp with rfl | hp
    · exact absurd e a_dLines_dRow
    rcases List.mem_cons.mp hp with rfl | hp
    · rfl
    rcases List.mem_cons.mp hp with rfl | hp
    · exact absurd e.symm a_dRow_dShow
    rcases List.mem_singleton.mp hp with rfl
    exact absurd e.symm a_dRow_dLaw
  have t_dShow : LamX.TabB base mg (He.cT K dShow).1 (He.cT K dShow).2 := TB _ (List.mem_cons_of_mem _ (List.mem_cons_of_mem _ (List.mem_cons_self ..)))
  have m_dShow : ((He.cT K dShow).2, (Str.ofString "_law_showing_right" ++ ".<locals>.") ++ "<lambda>") ∈ tabsOf K := List.mem_cons_of_mem _ (List.mem_cons_of_mem _ (List.mem_cons_self ..))
  have o_dShow : ∀ p ∈ tabsOf K, p.1 = (He.cT K dShow).2 → p.2 = (Str.ofString "_law_showing_right" ++ ".<locals>.") ++ "<lambda>" := fun p hp e => by
    rcases List.mem_cons.mp hp with rfl | hp
    · exact absurd e a_dLines_dShow
    rcases List.mem_cons.mp hp with rfl | hp
    · exact absurd e a_dRow_dShow
    rcases List.mem_cons.mp hp with rfl | hp
    · rfl
    rcases List.mem_singleton.mp hp with rfl
    exact absurd e.symm a_dShow_dLaw
  have t_dLaw : LamX.TabB base mg (He.cT K dLaw).1 (He.cT K dLaw).2 := TB _ (List.mem_cons_of_mem _ (List.mem_cons_of_mem _ (List.mem_cons_of_mem _ (List.mem_cons_self ..))))
  have m_dLaw : ((He.cT K dLaw).2, (Str.ofString "law" ++ ".<locals>.") ++ "<lambda>") ∈ tabsOf K := List.mem_cons_of_mem _ (List.mem_cons_of_mem _ (List.mem_cons_of_mem _ (List.mem_cons_self ..)))
  have o_dLaw : ∀ p ∈ tabsOf K, p.1 = (He.cT K dLaw).2 → p.2 = (Str.ofString "law" ++ ".<locals>.") ++ "<lambda>" := fun p hp e => by
    rcases List.mem_cons.mp hp with rfl | hp
    · exact absurd e a_dLines_dLaw
    rcases List.mem_cons.mp hp with rfl | hp
    · exact absurd e a_dRow_dLaw
    rcases List.mem_cons.mp hp with rfl | hp
    · exact absurd e a_dShow_dLaw
    rcases List.mem_singleton.mp hp with rfl
    rfl
  have cB : Cal P w K mg base CX0 1 "_law_box" ["script", "k"] (spBox K) := cal_of (He.glo_ok X G (c.t.d.fact 25 (f := .glo "_law_box") rfl)) Flb (ok_box Flb T) fun _ _ _ _ _ _ us hl => match us, hl with | [_, _], _ => rfl
  have cT : Cal P w K mg base CX0 1 "_law_take" ["box", "many"] spTake := cal_of (He.glo_ok X G (c.t.d.fact 26 (f := .glo "_law_take") rfl)) Flt (ok_take Flt T) fun _ _ _ _ _ _ us hl => match us, hl with | [_, _], _ => rfl
  have cP : Cal P w K mg base CX0 2 "_law_pick" ["box", "some"] (spPick K) := cal_of (He.glo_ok X G (c.t.d.fact 27 (f := .glo "_law_pick") rfl)) Flp (ok_pick Flp T cT) fun _ _ _ _ _ _ us hl => match us, hl with | [_, _], _ => rfl
  have cU : Cal P w K mg base CX0 2 "_law_turned" ["box", "states"] (spTurned K) := cal_of (He.glo_ok X G (c.t.d.fact 28 (f := .glo "_law_turned") rfl)) Flu (ok_turned Flu T cT) fun _ _ _ _ _ _ us hl => match us, hl with | [_, _], _ => rfl
  have cM : Cal P w K mg base CX0 3 "_law_machine" ["box", "most", "kinds"] (spMach K) := cal_of (He.glo_ok X G (c.t.d.fact 29 (f := .glo "_law_machine") rfl)) Flm (ok_mach Flm T cT cU) fun _ _ _ _ _ _ us hl => match us, hl with | [_, _, _], _ => rfl
  have cW : Cal P w K mg base CX0 1 "_law_words" ["numbers"] (spWords K) := cal_of (He.glo_ok X G (c.t.d.fact 31 (f := .glo "_law_words") rfl)) Flw (ok_words Flw T) fun _ _ _ _ _ _ us hl => match us, hl with | [_], _ => rfl
  have okL : FnG P w K mg base CX0 11 (He.ga K "_law_lines_right") fdLL ["box", "lines", "read", "due", "heads"] (spLines K (adOf K) (He.ga K "Counters") (He.ga K "Machine") (tabsOf K)) := ok_lines FLL (code_of (p := dLines) (z := "_law_lines_right") (st := s_law_lines_right) FLL) FH gH bH T D t_dLines m_dLines o_dLines M ⟨B.rdMK, B.rdCK⟩ cT cP
  have okR : FnG P w K mg base CX0 11 (He.ga K "_law_row_right") fdLR ["box", "machine", "tables"] (spRowR K (He.ga K "Machine") (tabsOf K)) := ok_rowr FLR (code_of (p := dRow) (z := "_law_row_right") (st := s_law_row_right) FLR) FH gH bH T D DR t_dRow m_dRow o_dRow ⟨cT, cP, cW, B.rtxt, B.rtxtK, B.rdR, B.rdRK⟩
  have okS : FnG P w K mg base CX0 11 (He.ga K "_law_showing_right") fdLS ["box", "counters", "rounds", "rests"] (spShowR K (He.ga K "Counters") (tabsOf K)) := ok_show FLS (code_of (p := dShow) (z := "_law_showing_right") (st := s_law_showing_right) FLS) FH gH bH T D DS t_dShow m_dShow o_dShow ⟨cT, cW, B.stxt, B.stxtK, B.rdS, B.rdSK⟩
  refine ok_law FL (code_of (p := dLaw) (z := "law") (st := s_law) FL) FH gH bH T TM TC D t_dLaw m_dLaw o_dLaw M ?_
  exact {
    box := cB
    take := cT
    pick := cP
    mach := cM
    words := cW
    mtxt := B.mtxt
    mtxtK := B.mtxtK
    ctxt := B.ctxt
    ctxtK := B.ctxtK
    rdM := B.rdM
    rdC := B.rdC
    rd := B.rdR
    lines := ⟨_, _, (He.glo_ok X G (c.t.d.fact 32 (f := .glo "_law_lines_right") rfl)), FLL.kp, FLL.bindsN fun _ _ _ _ _ _ us hl => match us, hl with | [_, _, _, _, _], _ => rfl, okL⟩
    rowr := ⟨_, _, (He.glo_ok X G (c.t.d.fact 33 (f := .glo "_law_row_right") rfl)), FLR.kp, FLR.bindsN fun _ _ _ _ _ _ us hl => match us, hl with | [_, _, _], _ => rfl, okR⟩
    shw := ⟨_, _, (He.glo_ok X G (c.t.d.fact 34 (f := .glo "_law_showing_right") rfl)), FLS.kp, FLS.bindsN fun _ _ _ _ _ _ us hl => match us, hl with | [_, _, _, _], _ => rfl, okS⟩ }
end K4
open PyProof.Rows PySem PySem.W PySem.Calls
theorem PySem.Challenge.cw_onewitness_k04_texts_of_machines_counter_holds : PySem.Challenge.rw_onewitness_k04_texts_of_machines_counter.Holds := by
  w_on; o_law
  refine HandSHeadRun.head_any (r := K4.Rw) (q := view K4.Rw.prog [56]) (H := K4.hk) (ob := K4.ob) (M := 8000) (loose := K4.others) (d := HandSHeadRun.topDef K4.Rw.prog 56) (kwd := []) K4.ob_eq
    (by kernel_rfl) (fun s => by kernel_rfl) K4.top_runs (by kernel_rfl) (by kernel_rfl) (by kernel_rfl) (by rfl) (by first | assumption | decide +kernel) (by decide +kernel) ⟨rfl, rfl, rfl, rfl, rfl, by decide +kernel⟩ ?hw ?hc
  case hw => w_witness2
  case hc =>
    refine Kx.lone_walk (l := PySem.Challenge.rw_onewitness_k04_texts_of_machines_counter) (n := 63) (k := 12) (x := "script") rfl (by decide) (by kernel_rfl) ⟨rfl, by decide, by decide⟩ ?F
    intro w mg fa h Y G hmg
    obtain ⟨K, X, c⟩ := Y
    have en : (HandSHeadRun.topDef K4.Rw.prog 56).name = ("law" : PySem.Str) := by kernel_rfl
    rw [en] at hmg
    have at_ := He.glo_ok X G (c.t.d.fact 35 (f := .glo "law") rfl)
    have ea := K4.ref_same hmg at_
    subst ea
    obtain ⟨fd, b, F⟩ := K4.law_told (P := (PySem.Challenge.rw_onewitness_k04_texts_of_machines_counter).prog) X G c
    refine ⟨K, fd, K4.tf.map (He.cT K), K4.spLaw K (K4.tabsOf K), X, fun p hp => ?_, fun p hp => ?_, fun p hp => ?_, b, fun H a ns l hT hS => ⟨a, ns, rfl, hS, l, fun p hp => ?_, fun _ => rfl⟩, F⟩
    · obtain ⟨q, hq, rfl⟩ := List.mem_map.mp hp
      exact c.empty q hq
    · obtain ⟨q, hq, rfl⟩ := List.mem_map.mp hp
      exact c.out q hq
    · obtain ⟨q, hq, rfl⟩ := List.mem_map.mp hp
      exact PySem.W.codeHd_of_K X (c.hd q hq)
    · rcases List.mem_cons.mp hp with rfl | hp
      · exact LamX.TabS.nil (hT _ (List.mem_cons_self ..))
      rcases List.mem_cons.mp hp with rfl | hp
      · exact LamX.TabS.nil (hT _ (List.mem_cons_of_mem _ (List.mem_cons_self ..)))
      rcases List.mem_cons.mp hp with rfl | hp
      · exact LamX.TabS.nil (hT _ (List.mem_cons_of_mem _ (List.mem_cons_of_mem _ (List.mem_cons_self ..))))
      rewrite [List.mem_singleton.mp hp]
      exact LamX.TabS.nil (hT _ (List.mem_cons_of_mem _ (List.mem_cons_of_mem _ (List.mem_cons_of_mem _ (List.mem_cons_self ..)))))
