import PyProof.Rows.All
import Wide.All
import OpenK.AllK
import Wide.FinOn
import HandS.ForMost
import KE.GoesMore
import PyProof.EnumMake
import HandS.ForExc
import HandS.More
import HandS.Defaults
import HandS.IsInst
import HandS.TupAny
import HandS.TupMul
import HandS.Lambda
import HandS.ExcInit
import HandS.ExcField
import PyProof.ExcAttrAll.LookupError
import HandS.MakeKwOnly
import HandS.OwnEq
import HandS.ExcIs
import KE.KExcIs
import PyProof.NeKinds
import PyProof.EqKinds
import PyProof.StrOps2
import HandS.ExcCtx
import HandS.ExcInitHot
import HandS.HotCalls
import KE.KTryMore
import HandS.HeadHook4
import HandS.Flow
import HandS.MakeKw
import HandS.Zip
import HandS.SetFor
import PyProof.InstNe
import HandS.List
import HandS.SlotsOwn
import PyProof.TupleOfSeq
import HandS.ExcValue
import PyProof.Rows.RegStrFacts
import HandS.Text
import HandS.Style
import HandS.Head0
import HandS.Head1
import HandS.Head2
import HandS.HeadEnd
import HandS.HeadHook1
import HandS.HeadHook2
import HandS.HeadHook3
import HandS.EndTab
import HandS.HeadWalk
import KE.KStateDown
import PySem.Challenge.RW_onewitness_k00_errors_and_what_they_keep
set_option Elab.async false
set_option linter.all false
set_option maxRecDepth 100000
set_option maxHeartbeats 0
/-! enumerate(t), t a tuple; for i, x in enumerate(xs), xs a list or a tuple. -/
namespace Kx
open PySem PySem.AutoSeq1
/-- the record of a new enumerate over the iterator at j -/
abbrev enumRec (j : Addr) : Obj := { cls := .type "enumerate", data := .fields #[.none, .bool false, .ref j, rawInt 0, .none, .none] }
abbrev tupIter (t : Addr) : Obj := { cls := .type "tuple_iterator", data := .fields #[.ref t, .int 0 0] }
theorem makes_enum (t : Addr) (o : Obj) (items : Array Value) (n : Nat) (hc : o.cls = .type "tuple") (hd : o.data = .seq items n) :
    Meets (Builtin.«enumerate.__new__» ⟨[.type "enumerate", .ref t], []⟩) (fun _ R s => s.heap.get? t = some o ∧
      R (.ok (.ret (.ref (s.heap.push (tupIter t)).objs.size))) { s with heap := (s.heap.push (tupIter t)).push (enumRec s.heap.objs.size) }) := by
  refine .of_wp fun prog w A R s hs => ?_
  obtain ⟨oc, od, odt, os⟩ := o
  have hc' : oc = .type "tuple" := hc
  have hd' : odt = .seq items n := hd
  subst hc' hd'
  obtain ⟨hp, gs, dr, tk, sy⟩ := s
  obtain ⟨ht, hR⟩ := hs
  have subE := sub_enumerate
  have isT : (Shared.heap ⟨hp, gs, dr, tk, sy⟩).IsTuple t items := ⟨_, ht, rfl, n, rfl⟩
  wp_walk using wpAny_loadPart' ht
  refine wpAny_stack_any fun _ => wpAny_pure ?_
  split
  case h_1 c _ _ _ _ _ =>
    cases hq : (c == Value.type "enumerate") <;> (wp_walk using wpAny_loadPart' ht, wpAny_pyIter_tuple isT; exact ⟨_, rfl, hR⟩)
  case h_2 => wp_walk using wpAny_loadPart' ht, wpAny_pyIter_tuple isT; exact ⟨_, rfl, hR⟩
theorem call_enum {prog : Program} {w : World} {A : Around} {E : Value → Shared → Prop} {s : Shared} {t : Addr} {items : Array Value} {Q : Value → Shared → Prop} (hT : s.heap.IsTuple t items)
    (hQ : ∀ g : Heap, IsEnum g (s.heap.objs.size + 1) s.heap.objs.size 0 .none → g.IsTupleIter s.heap.objs.size t 0 → (∀ b o, s.heap.get? b = some o → g.get? b = some o) → Q (.ref (s.heap.objs.size + 1)) { s with heap := g }) :
    wpAny (model prog w) A (call (.type "enumerate") [.ref t]) Q E s := by
  obtain ⟨o, ho, hc, len, hd⟩ := hT
  have two : (s.heap.push (tupIter t)).objs.size = s.heap.objs.size + 1 := Heap.size_push ..
  have atE : ((s.heap.push (tupIter t)).push (enumRec s.heap.objs.size)).get? (s.heap.objs.size + 1) = some (enumRec s.heap.objs.size) := by
    rw [← two]; exact Heap.get?_push_size _ rfl
  have old : ∀ b u, s.heap.get? b = some u → ((s.heap.push (tupIter t)).push (enumRec s.heap.objs.size)).get? b = some u := fun b u z => Heap.get?_push_of_some _ (Heap.get?_push_of_some _ z)
  have it : ((s.heap.push (tupIter t)).push (enumRec s.heap.objs.size)).IsTupleIter s.heap.objs.size t 0 := ⟨_, Heap.get?_push_of_some _ (Heap.get?_push_size _ rfl), rfl, rfl⟩
  refine callType_new F.called_enumerate (by decide) (F.typeCall_enumerate_1 _) (F.newCall_enumerate_1 _) (fun q => F.args_object_init_2 q _) F.entry_enumerate_new (makes_enum t o items len hc hd) ⟨ho, ?_⟩
  show _ ∧ _
  rw [two]
  exact ⟨⟨_, atE, rfl⟩, hQ _ atE it old⟩
end Kx
namespace Kx
open L2 PySem PySem.Spec PyProof.Rows
/-- item i of the tuple at a, with its number, in a new pair -/
def ItPair (K : PySem.W.Frag) (a : Addr) : It where
  go := fun i H => ∃ (xs : List V) (x : V), SqT K H a xs ∧ xs[i]? = some x
  yld := fun i H v H' => ∃ (p : Addr) (x : V), v = .ref p ∧ H p = none ∧ H' = upd H p (.tup [.int (i : Nat), x]) ∧ ∀ xs, SqT K H a xs → xs[i]? = some x
  stop := fun i H => ∃ xs : List V, SqT K H a xs ∧ xs.length ≤ i
theorem one_of {b e j : Addr} (h : b ∈ [e, j]) : b = e ∨ b = j := by simpa using h
theorem turn_pair {P : Program} {w : World} {K : PySem.W.Frag} {es : List Expr} {k0 : Nat} {tp : Pos} (a e j : Addr) (aj : a ≠ j) (ae : a ≠ e) :
    Turn P w K (.Tuple es k0 tp) (ItPair K a) [e, j] e (fun i h => (∃ z, IsEnum h e j ((i : Nat) : Int) z) ∧ h.IsTupleIter j a i ∧ e ≠ j) where
  mem := List.mem_cons_self
  obj := by
    rintro i h ⟨⟨z, hz⟩, ⟨o, ho, _, hd⟩, _⟩ b hb
    rcases one_of hb with q | q <;> rw [q]
    · exact ⟨_, hz, fun _ y => nomatch y⟩
    · exact ⟨o, ho, fun _ y => by rw [hd] at y; cases y⟩
  keep := by
    rintro i h h' ⟨⟨z, hz⟩, hj, ne⟩ k
    exact ⟨⟨z, k e List.mem_cons_self _ hz⟩, hj.at fun o y => k j (by simp) o y, ne⟩
  item := by
    rintro X rfl rfl rfl calm i pins s σ H E I far ⟨⟨z, hz⟩, hj, ne⟩ ⟨xs, x, hx, hi⟩
    obtain ⟨vs, rel, isT, _⟩ := I.tuple hx
    obtain ⟨v, hv, rv⟩ := rel.get hi
    have lt : i < vs.toArray.size := by simpa using (List.getElem?_eq_some_iff.mp hv).1
    have D := Draws.tuple (prog := X.prog) (w := X.w) (A := X.A.in1) (I.ok.hd calm) j a aj vs.toArray
    have e_out : e ∉ [j, a] := by
      simp only [List.mem_cons, List.not_mem_nil, or_false, not_or]
      exact ⟨ne, fun y => ae y.symm⟩
    refine wpAny_pyNext_enum_itemD D hz ⟨hj, isT⟩ lt ne e_out fun y g tk hy out hj' pair _ rest => ?_
    obtain rfl : y = v := by
      have : vs.toArray[i]? = some v := by simpa using hv
      exact Option.some.inj (hy.symm.trans this)
    refine ⟨_, rfl, wpAny_letOwnedTupleGo_enum (s := { s with heap := g, toks := tk + 1 }) out fun g' back but => ?_⟩
    have sz : e < s.heap.objs.size := Heap.lt_size hz
    have szj : j < s.heap.objs.size := let ⟨_, y, _⟩ := hj; Heap.lt_size y
    have pair' : g'.get? s.heap.objs.size = some { cls := .type "tuple", data := .seq #[.int i tk, y] } := (but.2 _ (Nat.ne_of_gt sz)).trans pair
    have laid : ObjOk X.prog X.w (upd H s.heap.objs.size (.tup [.int (i : Nat), x])) g' s.heap.objs.size (.tup [.int (i : Nat), x]) := ⟨(by decide : 2 ≤ sizeLine), [.int i tk, y], .cons ⟨tk, rfl⟩ (.cons rv .nil), _, pair', rfl, _, rfl⟩
    have kept : ∀ b o, b ∉ [e, j] → s.heap.get? b = some o → g'.get? b = some o := fun b o out y => by
      have n1 : b ≠ e := fun q => out (by rw [q]; exact List.mem_cons_self)
      have n2 : b ≠ j := fun q => out (by rw [q]; simp)
      exact (but.2 b n1).trans (rest b o n1 n2 y)
    have J := I.turnedNew (ch := [e, j]) kept far (Nat.le_refl _) laid (t' := tk + 1)
    have num : ((i + 1 : Nat) : Int) = (i : Int) + 1 := by omega
    refine ⟨.ref s.heap.objs.size, _, J, rfl, ⟨_, x, rfl, I.hok.fresh (Nat.le_refl _), rfl, fun ys hys => by rw [I.tuple_inj hys hx]; exact hi⟩, ⟨⟨y, by rw [num]; exact back⟩, hj'.1.at fun o q => (but.2 j ne.symm).trans q, ne⟩, fun b hb => ?_⟩
    have small : b < s.heap.objs.size := by
      rcases one_of hb with q | q <;> rw [q]
      · exact sz
      · exact szj
    rw [upd_ne (Nat.ne_of_lt small)]
    exact (far b hb).1
  done := by
    rintro X rfl rfl rfl calm i pins s σ H E I far ⟨⟨z, hz⟩, hj, ne⟩ ⟨xs, hx, hi⟩
    obtain ⟨vs, rel, isT, _⟩ := I.tuple hx
    obtain ⟨g0, g1, _, g3, g4, g5⟩ := far j (by simp)
    have none_ : vs.toArray[i]? = none := by
      have := rel.length
      simp
      omega
    unfold pyNext
    refine wpAny_bind (wpAny_attempt (wpAny_callSpecial?_slot (s := s) (name := Str.ofString "__next__") ⟨_, hz, rfl⟩ F.slot_enumerate_next (wpAny_call_entry F.slot_enumerate_next ⟨_, hz, rfl⟩ F.entry_enumerate_next ?_ (F.args_enumerate_next_1 _))))
    show wpAny _ _ (field (.ref e) 2 >>= _) _ _ s
    refine wpAny_bind (wpAny_field hz rfl (x := .ref j) rfl (wpAny_bind (wpAny_nextOf_tuple_end (I.ok.hd calm) hj isT none_ fun g x kept stop => ?_)))
    obtain ⟨o, ho, hc⟩ := stop
    exact wpAny_bind (wpAny_isInstance (T := "StopIteration") (b := true) ⟨o, ho, hc⟩ isSubtype_stop (wpAny_pure ⟨rfl, I.turned (t' := s.toks) (fun b o hb y => kept b o hb y) g0 g1 g3 g4 g5⟩))
  self := by
    rintro A i s Q E ⟨⟨z, hz⟩, _⟩ h
    exact wpAny_pyIter_enum hz h
/-- a list or a tuple -/
def Sq (K : PySem.W.Frag) (H : Hp) (a : Addr) (xs : List V) : Prop := SqL K H a xs ∨ SqT K H a xs
def iPairs (K : PySem.W.Frag) (ta : TA) : TI := fun σ H R => ta σ H fun vs H1 => ∃ (a : Addr) (xs : List V), vs = [.ref a] ∧ ((SqL K H1 a xs ∧ R (Ite K a) H1) ∨ (SqT K H1 a xs ∧ R (ItPair K a) H1))
theorem pi_pairs {X : Cx} {e : Expr} {ta : TA} {p pos tp : Pos} {es : List Expr} {k0 : Nat} (hg : Gl X "enumerate") (hm : X.mg "enumerate" = none) (ha : PA X [e] ta) (hs : starEach [e] X.env = [(false, eval e X.env)] := by rfl) :
    PI X (.Tuple es k0 tp) (.Call (.Name "enumerate" p) [e] [] pos) (iPairs X.K ta) := by
  refine ⟨fun pins s σ H R I h => Call_ (ld_blt I hg hm boot_enumerate (PyProof.Rows.callWith_type1 (thn (ha.run pos pins s σ H _ I h) fun us t ⟨vs, H1, J, rel, a, xs, ev, how⟩ => ?_) hs rfl))⟩
  subst ev
  obtain ⟨u, rfl, ru⟩ := vals1 rel
  obtain rfl := (show u = Value.ref a from ru)
  have far : ∀ b ∈ [t.heap.objs.size + 1, t.heap.objs.size], FpOk X pins H1 b := fun b hb => by
    have ge : t.heap.objs.size ≤ b := by
      rcases one_of hb with q | q <;> rw [q]
      · exact Nat.le_succ _
      · exact Nat.le_refl _
    exact J.fpOk ge (J.hok.fresh ge)
  rcases how with ⟨hx, q⟩ | ⟨hx, q⟩
  · obtain ⟨_, _, isL, _⟩ := J.list hx
    refine call_enumerate_list isL.isList fun g hz hj _ k => wpAny_pyIter_enum hz ?_
    exact ⟨_, _, _, _, H1, rfl, J.kept (t' := t.toks) k, turn_enum a _ _, ⟨⟨.none, hz⟩, hj, Nat.succ_ne_self _⟩, far, q⟩
  · obtain ⟨_, _, isT, _⟩ := J.tuple hx
    have lt := isT.lt
    refine call_enum isT fun g hz hj k => wpAny_pyIter_enum hz ?_
    exact ⟨_, _, _, _, H1, rfl, J.kept (t' := t.toks) k, turn_pair a _ _ (Nat.ne_of_lt lt) (Nat.ne_of_lt (Nat.lt_succ_of_lt lt)), ⟨⟨.none, hz⟩, hj, Nat.succ_ne_self _⟩, far, q⟩
end Kx
/-! A try with several clauses «except C as n»: each clause stores what was caught at its own place. -/
namespace Kx
open PySem PyProof.Rows L2 PySem.Spec

/-- an error that came down to this frame and whose flight is over; `old` is the state without it -/
structure Down (X : Cx) (pins : List (Addr × Obj)) (σ : L2.St) (H : Hp) (x : Addr) (cls : Value) (d : Option Addr) (G : Heap) (old now : Shared) : Prop where
  was : Inv X pins σ H old
  low : ∀ b o, old.heap.get? b = some o → b ∉ frs X.stack → G.get? b = some o
  up : old.heap.UpToSlots now.heap
  fly : HandSPX.FlyingZ G (X.env :: X.outer) x (Zc cls d) now.heap
  fresh : H x = none
  sys : now.os = old.os
  bare : AllBare now.gens
section
variable {X : Cx} {pins : List (Addr × Obj)} {σ : L2.St} {H : Hp} {x : Addr} {cls : Value} {d : Option Addr} {G : Heap} {old now : Shared}
theorem Down.inv (D : Down X pins σ H x cls d G old now) : Inv X pins σ H now := D.was.landed D.low D.fly.1 D.up D.sys D.bare
/-- the record, and that it is no frame -/
theorem Down.rec_ (D : Down X pins σ H x cls d G old now) (hf : X.env.frame = some X.env.locals) :
    ∃ (ob : Obj) (vs : Array Value), now.heap.get? x = some ob ∧ Zc cls d ob ∧ ob.data = .fields vs ∧ x ≠ X.env.locals ∧ x ∉ X.fs := by
  obtain ⟨ob, vs, h1, h2, h3⟩ := D.fly.there
  have out : x ∉ frs (X.env :: X.outer) := by
    intro hm
    obtain ⟨_, ob2, h4, h5⟩ := D.fly.2.2.1.mem hm
    rw [h1] at h4
    cases h4
    exact h5 _ h3
  refine ⟨ob, vs, h1, h2, h3, fun z => out ?_, fun hm => out ?_⟩
  · exact List.mem_filterMap.mpr ⟨_, List.mem_cons_self, by rw [hf, z]⟩
  · obtain ⟨e1, h6, h7⟩ := List.mem_filterMap.mp hm
    exact List.mem_filterMap.mpr ⟨e1, List.mem_cons_of_mem _ h6, h7⟩
/-- within a suite -/
theorem Down.held (D : Down X pins σ H x cls d G old now) (hf : X.env.frame = some X.env.locals) :
    ∃ ob : Obj, now.heap.get? x = some ob ∧ Zc cls d ob ∧ (∃ vs, ob.data = .fields vs) ∧ Inv (X.suite x ((x, ob) :: (X.pn ++ pins))) [] σ H now := by
  obtain ⟨ob, vs, h1, h2, h3, h4, h5⟩ := D.rec_ hf
  exact ⟨ob, h1, h2, ⟨vs, h3⟩, D.inv.suite h1 h3 D.fresh h4 h5⟩
/-- no clause takes it: it goes on -/
theorem Down.goes {pos : Pos} {E : Ends} {W : WX} (D : Down X pins σ H x cls d G old now) (hs : X.stack = X.env :: X.outer) (hf : X.env.frame = some X.env.locals) (tk : Takes X W) (hw : W cls d σ H) :
    wpAny (model X.prog X.w) X.A (handleBy (.ref x) X.env []) (SP X pins E) X.xe now := by
  obtain ⟨_, _, _, ob, vs, T, _, _, h1, _, h3, h4, _⟩ := D.fly
  have away : wpAny (model X.prog X.w) X.A (setFlight (.ref x) X.env.frame) (fun _ s => wpAny (model X.prog X.w) X.A (throw (.ref x) : Sem Flow) (SP X pins E) X.xe s) X.xe now := by
    rw [hf]
    refine HandSPX.setFlight_upZ D.fly fun h' held up' => wpAny_throw (tk _ _ ⟨x, G, old, pins, σ, H, cls, d, rfl, D.was, D.low, D.up.trans up', ?_, D.fresh, D.sys, D.bare, hw⟩)
    rw [hs]
    exact .inr (.inr held)
  refine wpAny_handleBy_nil (wpAny_bind (wpAny_field h1 h3 h4 ?_))
  have some_ : ¬ ((Value.ref T == Value.none) = true) := by simp
  rw [if_neg some_]
  first
    | exact wpAny_bind away
    | exact wpAny_bind (wpAny_pure (wpAny_bind away))
end
/-- one clause: the class it names, the place of its name, its suite's reading -/
abbrev Clause : Type := Value × Nat × (Addr → Value → Option Addr → TS)
/-- behind a suite the name at i is gone -/
def bare (E : Ends) (i : Nat) : Ends where
  nx := fun σ H => E.nx (σ.set i none) H
  rt := E.rt
  bk := fun σ H => E.bk (σ.set i none) H
  ct := fun σ H => E.ct (σ.set i none) H
/-- what is asked of an error that the body lets out -/
def asks (K : PySem.W.Frag) (W : WX) (E : Ends) : List Clause → WX
  | [] => W
  | k :: r => fun cls d σ H => ∃ y, PySem.W.exmOne K cls k.1 = some y ∧ (y = true → ∀ x, H x = none → k.2.2 x cls d (bare E k.2.1) (σ.set k.2.1 (some (.ref x))) H) ∧ (y = false → asks K W E r cls d σ H)
inductive Clauses (X : Cx) : List ExceptHandler → List Clause → Prop
  | nil : Clauses X [] []
  | cons {nm n : Str} {i : Nat} {c : Value} {t : Addr → Value → Option Addr → TS} {st : Stmt} {more : List Stmt} {p1 p2 : Pos} {hs : List ExceptHandler} {ks : List Clause} (nd : X.N.Nodup) (at_ : X.N[i]? = some n) (loc : X.env.kindOf n = some .local) (cl : Names X nm c)
      (su : ∀ (x : Addr) (ob : Obj) (cls : Value) (d : Option Addr) (pn : List (Addr × Obj)), Zc cls d ob → (∃ vs, ob.data = .fields vs) → PSs (X.suite x ((x, ob) :: pn)) (st :: more) (t x cls d)) (rest : Clauses X hs ks) :
      Clauses X (.ExceptHandler (some (.Name nm p1)) (some n) (st :: more) p2 :: hs) ((c, i, t) :: ks)
section
variable {X : Cx} {pins : List (Addr × Obj)} {σ : L2.St} {H : Hp} {x : Addr} {cls : Value} {d : Option Addr} {G : Heap} {old now : Shared} {E : Ends} {W : WX}
theorem name_there {nm : Str} {c : Value} {p1 : Pos} {ob : Obj} {Q E' : Value → Shared → Prop} (cl : Names X nm c) (J : Inv (X.suite x ((x, ob) :: (X.pn ++ pins))) [] σ H now) (q : Q c now) :
    wpAny (model X.prog X.w) (X.A.mark (some (.ref x))) (eval (.Name nm p1) X.env) Q E' now := by
  obtain ⟨g, db, m | ⟨m, b, nn⟩⟩ := cl
  · exact ld_glob J g m q db
  · exact ld_blt J g m b q nn db
theorem Down.clauses (D : Down X pins σ H x cls d G old now) (hs : X.stack = X.env :: X.outer) (hf : X.env.frame = some X.env.locals) (tk : Takes X W) {hds : List ExceptHandler} {ks : List Clause} (C : Clauses X hds ks) (w : asks X.K W E ks cls d σ H) :
    wpAny (model X.prog X.w) X.A (handleBy (.ref x) X.env hds) (SP X pins E) X.xe now := by
  induction C with
  | nil => exact D.goes (pos := ⟨0, 0, 0, 0⟩) hs hf tk w
  | @cons nm n i c t st more p1 p2 hs' ks' nd at_ loc cl su rest ih =>
    obtain ⟨y, hy, yes, no⟩ := w
    obtain ⟨ob, h1, h2, h3, J⟩ := D.held hf
    refine wpAny_handleBy_cons (codeAny_handlers_test (name_there cl J ?_)) (fun z => nomatch z)
    have ty : PySem.W.Looks (model X.prog X.w) now.heap (typeOf (.ref x)) cls := fun _ _ _ _ k q => wpAny_typeOf_ref (k _ _ h1) (by rw [h2.1]; exact q)
    refine (PySem.W.exm_one D.inv.kIn ty hy).here ?_
    cases y with
    | false => exact ih (no rfl)
    | true =>
      refine codeAny_handlers_suite_as (HandSPX.lands_againZ D.fly fun h' fl up' => ?_)
      have D' : Down X pins σ H x cls d G old { now with heap := h' } := ⟨D.was, D.low, D.up.trans up', fl, D.fresh, D.sys, D.bare⟩
      obtain ⟨ob', _, g2, g3, J'⟩ := D'.held hf
      refine store_ok (X := X.suite x ((x, ob') :: (X.pn ++ pins))) (v := .ref x) J' nd at_ (.inl loc) rfl (fun s2 J2 => ?_) (.inr loc)
      refine wpAny_mono ((su x ob' cls d (X.pn ++ pins) g2 g3).run [] s2 _ H _ J2 (yes rfl x D.fresh)) (fun f s3 hf3 => ?_) (fun _ _ z => z.elim)
      have gone : ∀ {σ3 : L2.St} {H3 : Hp} {R : Shared → Prop}, Inv (X.suite x ((x, ob') :: (X.pn ++ pins))) [] σ3 H3 s3 → (∀ s4, Inv X pins (σ3.set i none) H3 s4 → R s4) →
          wpAny (model X.prog X.w) X.A (do bindName X.env n .none; unbindBehindTheSuite X.env n p2) (fun _ s4 => R s4) X.xe s3 := fun J3 q => gone_ok (J3.unsuite D.was.ok) nd at_ loc q
      match f, hf3 with
      | .next, ⟨_, _, J3, q⟩ => exact gone J3 fun _ J4 => ⟨_, _, J4, q⟩
      | .brk, ⟨_, _, J3, q⟩ => exact gone J3 fun _ J4 => ⟨_, _, J4, q⟩
      | .cont, ⟨_, _, J3, q⟩ => exact gone J3 fun _ J4 => ⟨_, _, J4, q⟩
      | .ret _, ⟨_, _, _, J3, r, q⟩ => exact gone J3 fun _ J4 => ⟨_, _, _, J4, r, q⟩
end
/-- try: body / except C as n: .. / except D as m: .. -/
theorem ps_tries {X : Cx} {body : List Stmt} {hd : ExceptHandler} {hds : List ExceptHandler} {ks : List Clause} {pos : Pos} {tb : WX → TS} {W : WX} (hs : X.stack = X.env :: X.outer) (hf : X.env.frame = some X.env.locals) (tk : Takes X W)
    (hb : ∀ (U : WX) (pn : List (Addr × Obj)) (xe : Value → Shared → Prop), Takes (X.tr pn xe) U → PassesOwn (model X.prog X.w) X.A X.env xe → PSs (X.tr pn xe) body (tb U)) (C : Clauses X (hd :: hds) ks) :
    PS X (.Try body (hd :: hds) [] [] pos) (fun E σ H => tb (asks X.K W E ks) E σ H) := by
  refine ⟨fun pins s σ H E I h => wpAny_Try_except ?_⟩
  have top : X.A.frames = some (X.env :: X.outer) := by rw [I.ok.frames, hs]
  have inner := hb (asks X.K W E ks) (X.pn ++ pins) (fun e s1 => wpAny (model X.prog X.w) X.A (noteFrame e X.env) (fun _ s2 => wpAny (model X.prog X.w) X.A (setFlight e none)
    (fun _ s3 => wpAny (model X.prog X.w) X.A (handleBy e X.env (hd :: hds)) (SP X pins E) X.xe s3) X.xe s2) X.xe s1) ?_ PassesOwn.looking
  · refine wpAny_mono (inner.run [] s σ H E (I.toTry _) h) (fun f s1 q => ?_) (fun _ _ z => z)
    match f, q with
    | .next, ⟨_, _, J, q⟩ => exact wpAny_execs_nil ⟨_, _, J.ofTry I.ok, q⟩
    | .brk, ⟨_, _, J, q⟩ => exact ⟨_, _, J.ofTry I.ok, q⟩
    | .cont, ⟨_, _, J, q⟩ => exact ⟨_, _, J.ofTry I.ok, q⟩
    | .ret _, ⟨_, _, _, J, r, q⟩ => exact ⟨_, _, _, J.ofTry I.ok, r, q⟩
  · rintro u s1 ⟨x, G, old, _, σ1, H1, cls, d, rfl, J, low, up, sky, fr, sys, bare, w⟩
    rw [show (X.tr (X.pn ++ pins) _).stack = X.env :: X.outer from hs] at sky
    refine Sky.land Zc.steady top hf sky fun h' fl up' => ?_
    exact Down.clauses (now := { s1 with heap := h' }) ⟨J.ofTry I.ok, low, up.trans up', fl, fr, sys, bare⟩ hs hf tk C w
end Kx
/-! Sequences, values of any known kind, calls by a bundle of facts. -/
namespace Kx
open L2 PySem PySem.Spec PyProof.Rows
section
variable {K : PySem.W.Frag} {H H' : Hp} {a b : Addr} {xs ys : List V} {o : HO}
theorem rd_same (e : Same H H') {u : HO} (h : Rd H a u) : Rd H' a u := h.elim (fun q => .inl (e _ _ q)) fun ⟨z, q⟩ => .inr ⟨z, e _ _ q⟩
theorem sqL_same (e : Same H H') (h : SqL K H a xs) : SqL K H' a xs := h.elim (fun q => .inl (rd_same e q)) .inr
theorem sqT_same (e : Same H H') (h : SqT K H a xs) : SqT K H' a xs := h.elim (fun q => .inl (rd_same e q)) .inr
theorem Sq.same (e : Same H H') (h : Sq K H a xs) : Sq K H' a xs := h.elim (fun q => .inl (sqL_same e q)) fun q => .inr (sqT_same e q)
theorem rd_upd (ne : a ≠ b) {u : HO} (h : Rd H a u) : Rd (upd H b o) a u := h.elim (fun q => .inl (by rw [upd_ne ne]; exact q)) fun ⟨z, q⟩ => .inr ⟨z, by rw [upd_ne ne]; exact q⟩
theorem sqL_upd (ne : a ≠ b) (h : SqL K H a xs) : SqL K (upd H b o) a xs := h.elim (fun q => .inl (rd_upd ne q)) .inr
theorem sqT_upd (ne : a ≠ b) (h : SqT K H a xs) : SqT K (upd H b o) a xs := h.elim (fun q => .inl (rd_upd ne q)) .inr
theorem Sq.upd (ne : a ≠ b) (h : Sq K H a xs) : Sq K (L2.upd H b o) a xs := h.elim (fun q => .inl (sqL_upd ne q)) fun q => .inr (sqT_upd ne q)
theorem same_new (h : H b = none) : Same H (upd H b o) := fun c u q => by
  rw [upd_ne (ne_of_none q h)]
  exact q
end
/-! ### loops over a list or a tuple -/
/-- the end of a loop's word: W by a word of the turn -/
theorem for_by {J : It} {n : Nat} {g : TG} {tb : TS} {D : Ends} {σ : L2.St} {H : Hp} (Pv : Nat → L2.St → Hp → Prop) (h0 : Pv 0 σ H)
    (go : ∀ i σ H, i < n → Pv i σ H → J.go i H ∧ ∀ x H', J.yld i H x H' → g x σ H' fun σ2 H2 => tb { D with nx := Pv (i + 1), ct := Pv (i + 1), bk := D.nx } σ2 H2)
    (stop : ∀ σ H, Pv n σ H → J.stop n H ∧ D.nx σ H) :
    ∃ W : Nat → Nat → L2.St → Hp → Prop, (∃ m, W 0 m σ H) ∧ ∀ i m σ H, W i m σ H → (J.stop i H ∧ D.nx σ H) ∨ (J.go i H ∧ ∃ N : L2.St → Hp → Prop, (∀ σ' H', N σ' H' → ∃ m', m' < m ∧ W (i + 1) m' σ' H') ∧ ∀ x H', J.yld i H x H' → g x σ H' fun σ2 H2 => tb { D with nx := N, ct := N, bk := D.nx } σ2 H2) := by
  refine ⟨fun i m σ H => m = n - i ∧ i ≤ n ∧ Pv i σ H, ⟨n, rfl, Nat.zero_le n, h0⟩, ?_⟩
  rintro i m σ H ⟨rfl, le, p⟩
  rcases Nat.lt_or_eq_of_le le with lt | rfl
  · obtain ⟨g1, g2⟩ := go i σ H lt p
    exact .inr ⟨g1, Pv (i + 1), fun σ' H' p' => ⟨n - (i + 1), by omega, rfl, lt, p'⟩, g2⟩
  · exact .inl (stop σ H p)
abbrev forR (g : TG) (tb : TS) (D : Ends) (σ : L2.St) : It → Hp → Prop := fun J H => ∃ W : Nat → Nat → L2.St → Hp → Prop, (∃ m, W 0 m σ H) ∧ ∀ i m σ H, W i m σ H →
  (J.stop i H ∧ D.nx σ H) ∨ (J.go i H ∧ ∃ N : L2.St → Hp → Prop, (∀ σ' H', N σ' H' → ∃ m', m' < m ∧ W (i + 1) m' σ' H') ∧ ∀ x H', J.yld i H x H' → g x σ H' fun σ2 H2 => tb { D with nx := N, ct := N, bk := D.nx } σ2 H2)
/-- for i, x in enumerate(xs) -/
theorem for_pairs {K : PySem.W.Frag} {a : Addr} {xs : List V} {g : TG} {tb : TS} {D : Ends} {σ : L2.St} {H : Hp} (hx : Sq K H a xs) (Pv : Nat → L2.St → Hp → Prop) (h0 : Pv 0 σ H) (hs : ∀ i σ' H', Pv i σ' H' → Same H H')
    (turn : ∀ (i : Nat) (x : V) (p : Addr) σ' H', xs[i]? = some x → Pv i σ' H' → H' p = none → g (.ref p) σ' (upd H' p (.tup [.int (i : Int), x])) fun σ2 H2 => tb { D with nx := Pv (i + 1), ct := Pv (i + 1), bk := D.nx } σ2 H2)
    (hd : ∀ σ' H', Pv xs.length σ' H' → D.nx σ' H') : (SqL K H a xs ∧ forR g tb D σ (Ite K a) H) ∨ (SqT K H a xs ∧ forR g tb D σ (ItPair K a) H) := by
  refine hx.imp (fun q => ⟨q, for_by (n := xs.length) Pv h0 ?_ ?_⟩) fun q => ⟨q, for_by (n := xs.length) Pv h0 ?_ ?_⟩
  · intro i σ' H' lt p
    have q' := sqL_same (hs i σ' H' p) q
    refine ⟨⟨xs, xs[i], q', List.getElem?_eq_getElem lt⟩, ?_⟩
    rintro v H2 ⟨pr, x, rfl, hn, rfl, hx⟩
    exact turn i x pr σ' H' (hx xs q') p hn
  · exact fun σ' H' p => ⟨⟨xs, sqL_same (hs _ σ' H' p) q, Nat.le_refl _⟩, hd σ' H' p⟩
  · intro i σ' H' lt p
    have q' := sqT_same (hs i σ' H' p) q
    refine ⟨⟨xs, xs[i], q', List.getElem?_eq_getElem lt⟩, ?_⟩
    rintro v H2 ⟨pr, x, rfl, hn, rfl, hx⟩
    exact turn i x pr σ' H' (hx xs q') p hn
  · exact fun σ' H' p => ⟨⟨xs, sqT_same (hs _ σ' H' p) q, Nat.le_refl _⟩, hd σ' H' p⟩
/-- for x in xs, xs a list or a tuple -/
def iAny (K : PySem.W.Frag) (tl : TE) : TI := fun σ H R => tl σ H fun x H1 => ∃ (a : Addr) (xs : List V), x = .ref a ∧ ((SqL K H1 a xs ∧ R (Itl K a) H1) ∨ (SqT K H1 a xs ∧ R (Itt K a) H1))
theorem pi_any {X : Cx} {tg e : Expr} {te : TE} (he : PE X e te) : PI X tg e (iAny X.K te) := by
  refine ⟨fun pins s σ H R I h => thn (he.run pins s σ H _ I h) fun u t ⟨x, H1, J, rx, a, xs, ex, how⟩ => ?_⟩
  subst ex
  obtain rfl := (show u = Value.ref a from rx)
  have far : ∀ b ∈ [t.heap.objs.size], FpOk X pins H1 b := fun b hb => by
    obtain rfl := (show b = t.heap.objs.size by simpa using hb)
    exact J.fpOk (Nat.le_refl _) (J.hok.fresh (Nat.le_refl _))
  have kept : ∀ (o : Obj) (b : Addr) (v : Obj), t.heap.get? b = some v → (t.heap.push o).get? b = some v := fun o b v z => Heap.get?_push_of_some _ z
  have new : ∀ (o : Obj), o.isFreed = false → (t.heap.push o).get? t.heap.objs.size = some o := fun o z => Heap.get?_push_size _ z
  rcases how with ⟨hx, q⟩ | ⟨hx, q⟩
  · obtain ⟨_, _, isL, _⟩ := J.list hx
    exact wpAny_pyIter_list isL.isList ⟨_, _, _, _, H1, rfl, J.kept (t' := t.toks) (kept _), turn_list a _, ⟨_, new _ rfl, rfl, rfl⟩, far, q⟩
  · obtain ⟨_, vs, isT, _⟩ := J.tuple hx
    exact wpAny_pyIter_tuple isT ⟨_, _, _, _, H1, rfl, J.kept (t' := t.toks) (kept _), turn_tuple a _, ⟨_, new _ rfl, rfl, rfl⟩, far, q⟩
theorem for_any {K : PySem.W.Frag} {a : Addr} {xs : List V} {g : TG} {tb : TS} {D : Ends} {σ : L2.St} {H : Hp} (hx : Sq K H a xs) (Pv : Nat → L2.St → Hp → Prop) (h0 : Pv 0 σ H)
    (hl : ∀ i σ' H', Pv i σ' H' → SqL K H a xs → SqL K H' a xs) (ht : ∀ i σ' H', Pv i σ' H' → SqT K H a xs → SqT K H' a xs)
    (turn : ∀ (i : Nat) (x : V) σ' H', xs[i]? = some x → Pv i σ' H' → g x σ' H' fun σ2 H2 => tb { D with nx := Pv (i + 1), ct := Pv (i + 1), bk := D.nx } σ2 H2)
    (hd : ∀ σ' H', Pv xs.length σ' H' → D.nx σ' H') : (SqL K H a xs ∧ forR g tb D σ (Itl K a) H) ∨ (SqT K H a xs ∧ forR g tb D σ (Itt K a) H) := by
  refine hx.imp (fun q => ⟨q, for_by (n := xs.length) Pv h0 ?_ ?_⟩) fun q => ⟨q, for_by (n := xs.length) Pv h0 ?_ ?_⟩
  · intro i σ' H' lt p
    have q' := hl i σ' H' p q
    refine ⟨⟨xs, xs[i], q', List.getElem?_eq_getElem lt⟩, ?_⟩
    rintro v H2 ⟨rfl, hv⟩
    exact turn i v σ' _ (hv xs q') p
  · exact fun σ' H' p => ⟨⟨xs, hl _ σ' H' p q, Nat.le_refl _⟩, hd σ' H' p⟩
  · intro i σ' H' lt p
    have q' := ht i σ' H' p q
    refine ⟨⟨xs, xs[i], q', List.getElem?_eq_getElem lt⟩, ?_⟩
    rintro v H2 ⟨rfl, hv⟩
    exact turn i v σ' _ (hv xs q') p
  · exact fun σ' H' p => ⟨⟨xs, ht _ σ' H' p q, Nat.le_refl _⟩, hd σ' H' p⟩
/-! ### values of a known kind -/
/-- v is no object, or a list, or a tuple -/
inductive Kn (K : PySem.W.Frag) (H : Hp) : V → Prop
  | non : Kn K H .non
  | bl (b : Bool) : Kn K H (.bl b)
  | int (i : Int) : Kn K H (.int i)
  | str (x : Str) : Kn K H (.str x)
  | seq {a : Addr} {xs : List V} (h : Sq K H a xs) : Kn K H (.ref a)
theorem Kn.same {K : PySem.W.Frag} {H H' : Hp} {v : V} (e : Same H H') (h : Kn K H v) : Kn K H' v := by
  cases h with
  | non => exact .non
  | bl b => exact .bl b
  | int i => exact .int i
  | str x => exact .str x
  | seq q => exact .seq (q.same e)
theorem tyx_list {K : PySem.W.Frag} {H : Hp} {a : Addr} {xs : List V} (h : SqL K H a xs) : TyX K H (.ref a) (.type "list") := by
  rcases h with (q | ⟨o, q⟩) | q
  · exact .base (.lst q)
  · exact .base (.frz q)
  · obtain ⟨_, _, _, q, r, _⟩ := q
    exact .kList q r
theorem tyx_tuple {K : PySem.W.Frag} {H : Hp} {a : Addr} {xs : List V} (h : SqT K H a xs) : TyX K H (.ref a) (.type "tuple") := by
  rcases h with (q | ⟨o, q⟩) | q
  · exact .base (.tup q)
  · exact .fTuple q
  · obtain ⟨_, _, _, q, r, _⟩ := q
    exact .kTuple q r
/-! ### a def that is known: its name, where it stands, what it takes, what it promises -/
structure Cal (P : Program) (w : World) (K : PySem.W.Frag) (mg : Str → Option Value) (base : Heap) (CX : CXT) (k : Nat) (x : Str) (ps : List Str) (sp : Sp) : Prop where
  ex : ∃ (f : Addr) (fd : FuncData), mg x = some (.ref f) ∧ PySem.W.keepIn K (.ref f) = true ∧ Binds K fd ps [] ∧ FnOk P w K mg base CX k f fd ps sp
section
variable {X : Cx} {CX : CXT} {k j : Nat} {x : Str} {ps : List Str} {sp : Sp} {e : Expr} {es : List Expr} {t : TA} {E : XK} {p pos : Pos}
theorem pe_callC (c : Cal X.prog X.w X.K X.mg X.base CX k x ps sp) (hr : Room j X.A) (hx : Passes CX X E) (ha : PA X (e :: es) t) (hk : k ≤ j := by decide) (hg : Gl X x := by rfl) (hdb : (x == ("__debug__" : Str)) = false := by decide)
    (he : starEach (e :: es) X.env = (false, eval e X.env) :: starEach es X.env := by rfl) (hpl : (backTo pos (starEach es X.env)).any (·.1) = false := by rfl) : PE X (.Call (.Name x p) (e :: es) [] pos) (tCall sp [] E t) := by
  obtain ⟨f, fd, h1, h2, h3, h4⟩ := c.ex
  exact pe_call h4 (hr.mono hk) hg h1 h2 h3 .nil hx ha hdb he hpl
end
end Kx
/-! defs that show a container as a text: their promise holds where no built-in that guards itself runs around. repr of data. -/
namespace Kx
open L2 PySem PySem.Spec PyProof.Rows
/-- nothing that guards itself runs around -/
abbrev Lone (A : Around) : Prop := A.guards = some []
structure FnG (P : Program) (w : World) (K : PySem.W.Frag) (mg : Str → Option Value) (base : Heap) (CX : CXT) (k : Nat) (f : Addr) (fd : FuncData) (ps : List Str) (sp : Sp) : Prop where
  len : ∀ vs H Q E, sp vs H Q E → List.length vs = ps.length
  run : ∀ (A : Around) (outer : List Env) (s : Shared) (H : Hp) (args : Args) (us : List Value) (vs : List V) (Q : VK) (E : XK), Room k A → Lone A → Env0 P w K mg base A outer s H → BindsTo s fd args (ps.zip us) → Vals vs us → sp vs H Q E → codeAny (model P w) A (.call (.ref f) args) (CR CX outer P w H s Q E) s
theorem FnG.of {P : Program} {w : World} {K : PySem.W.Frag} {mg : Str → Option Value} {base : Heap} {CX : CXT} {k : Nat} {f : Addr} {fd : FuncData} {ps : List Str} {sp : Sp} (F : FnOk P w K mg base CX k f fd ps sp) : FnG P w K mg base CX k f fd ps sp :=
  ⟨F.len, fun A outer s H args us vs Q E hr _ he hb hv hs => F.run A outer s H args us vs Q E hr he hb hv hs⟩
section
variable {P : Program} {w : World} {K : PySem.W.Frag} {mg : Str → Option Value} {base : Heap} {f : Addr} {fd : FuncData} {x qual : Str} {params : Arguments} {body : List Stmt} {scope : Scope} {dvs : List V} {kws : List (Str × V)}
/-- a def's body: what stands around is alone -/
theorem okG {CX : CXT} {N ps : List Str} {k : Nat} {sp : Sp} (F : FunD K x qual params body scope dvs kws f fd) (S : FnScope N ps scope) (len : ∀ vs H Q E, sp vs H Q E → vs.length = ps.length)
    (hbody : ∀ (cdv : Value) (A : Around) (outer : List Env) (s : Shared) (H : Hp) (vs : List V) (Q : VK) (E : XK), Lone A → PySem.W.codeIn K cdv qual = true → Room k (A.deeper (envOfC qual scope s.heap.objs.size f cdv)) → sp vs H Q E →
      ∃ t, PSs (cxOf CX P w K mg base N qual scope f cdv A outer s H E) body t ∧ t { nx := fun _ H' => Q .non H', rt := Q } (start N vs) H) : FnG P w K mg base CX (k + 1) f fd ps sp := by
  obtain ⟨oc, od, dV, kV, doc, pm, an, cdv, ct, osl, rfl, lk, hcd, -, -⟩ := F.ex
  exact ⟨len, fun A outer s H args us vs Q E hr lone e0 hb hv hs => LamX.run_ofS lk hcd S hr e0 hb hv (len _ _ _ _ hs) fun hr' => hbody cdv A outer s H vs Q E lone hcd hr' hs⟩
end
structure CalG (P : Program) (w : World) (K : PySem.W.Frag) (mg : Str → Option Value) (base : Heap) (CX : CXT) (k : Nat) (x : Str) (ps : List Str) (sp : Sp) : Prop where
  ex : ∃ (f : Addr) (fd : FuncData), mg x = some (.ref f) ∧ PySem.W.keepIn K (.ref f) = true ∧ Binds K fd ps [] ∧ FnG P w K mg base CX k f fd ps sp
section
variable {X : Cx} {CX : CXT} {k j : Nat} {x : Str} {ps : List Str} {sp : Sp} {e : Expr} {es : List Expr} {t : TA} {E : XK} {p pos : Pos}
theorem pe_callG (c : CalG X.prog X.w X.K X.mg X.base CX k x ps sp) (hr : Room j X.A) (lone : Lone X.A) (hx : Passes CX X E) (ha : PA X (e :: es) t) (hk : k ≤ j := by decide) (hg : Gl X x := by rfl) (hdb : (x == ("__debug__" : Str)) = false := by decide)
    (he : starEach (e :: es) X.env = (false, eval e X.env) :: starEach es X.env := by rfl) (hnp : (backTo pos (starEach es X.env)).any (·.1) = false := by rfl) :
    PE X (.Call (.Name x p) (e :: es) [] pos) (tCall sp [] E t) := by
  obtain ⟨f, fd, at_, keep, binds, F⟩ := c.ex
  refine ⟨fun pins s σ H Q I h => wpAny_Call_Name_kw (ld_glob I hg at_ ?_ hdb)⟩
  refine PySem.W.callWith_K (h₀ := X.base) I.ok.mod.kin keep (thn (ha.run pos pins s σ H _ I h) fun us s1 ⟨vs, H1, J, rel, q⟩ => ⟨J.kIn, ?_⟩) he hnp
  have q : sp (vs ++ []) H1 Q E := q
  rw [List.append_nil] at q
  have n : (us ++ []).length = ps.length := by
    rw [List.append_nil, ← rel.length]
    exact F.len _ _ _ _ q
  have b := binds s1 us J.kIn n
  rw [List.append_nil] at b
  refine wpAny_call (codeAny_mono (F.run X.A X.stack s1 H1 ⟨us, []⟩ us vs Q E (hr.mono hk) lone J.env0 b rel q) fun r s2 z => ?_)
  match r, z with
  | .error _, z => exact hx pins σ H1 s1 _ s2 J z
  | .ok (.ret _), z => exact J.after z
  | .ok .next, z => exact z.elim
  | .ok .brk, z => exact z.elim
  | .ok .cont, z => exact z.elim
end
/-! ### repr of data -/
/-- the text that shows v -/
def rShow (K : PySem.W.Frag) : List V → Hp → VK → Prop := fun vs H Q => ∃ (v : V) (d : PyData), vs = [v] ∧ Dp K H v d ∧ d.showable = true ∧ d.hasDict = false ∧ d.depth ≤ 60 ∧ d.shown.length ≤ sizeLine ∧ Q (.str d.shown) H
theorem call_show {X : Cx} (lone : Lone X.A) (hu : X.A.units + 64 < cLine) : CallR X (.builtin "repr") (rShow X.K) := by
  intro pins s σ H vs us Q I rel h
  obtain ⟨v, d, rfl, data, sh, nd, dep, fit, q⟩ := h
  obtain ⟨u, rfl, ru⟩ := vals1 rel
  obtain ⟨as, reads⟩ := Dp.reads I d v u data ru
  have fin : ∀ (h' : Heap) (z : Tok) (tk : Nat), (∀ b o, s.heap.get? b = some o → h'.get? b = some o) → EP X pins σ Q (.str d.shown z) { s with heap := h', toks := tk } := fun h' z tk keep => ⟨.str d.shown, H, I.kept keep, ⟨z, rfl⟩, q⟩
  cases data with
  | lst hs ha =>
    cases (show u = Value.ref _ from ru)
    exact repr_of_reads' reads sh (PyData.noDict_hsm nd) lone (by omega) (fun _ _ z => z) fin fit
  | tup hs ha =>
    cases (show u = Value.ref _ from ru)
    exact repr_of_reads' reads sh (PyData.noDict_hsm nd) lone (by omega) (fun _ _ z => z) fin fit
  | non =>
    cases (show u = Value.none from ru)
    exact PySem.P.repr_of_none (fin s.heap _ _ fun _ _ z => z)
  | bl b =>
    cases (show u = Value.bool b from ru)
    exact PySem.P.repr_of_bool (fin s.heap _ _ fun _ _ z => z)
  | int i =>
    obtain ⟨z, rfl⟩ := (show ∃ z, u = Value.int i z from ru)
    exact PySem.P.repr_of_int (of_decide_eq_true sh) (fin s.heap _ _ fun _ _ z => z)
  | str y =>
    obtain ⟨z, rfl⟩ := (show ∃ z, u = Value.str y z from ru)
    exact PySem.P.repr_of_str (fin s.heap _ _ fun _ _ z => z) fit
end Kx
/-! own errors of one field, over an own base over ValueError: «self.f = f» alone. -/
namespace Kx
open L2 PySem PySem.Spec PyProof.Rows
/-- __init__ keeps the one thing in f -/
def spKeep (K : PySem.W.Frag) (C : Addr) (f : Str) : Sp := fun vs H Q _ => ∃ (a : Addr) (v : V), vs = [.ref a, v] ∧ H a = some (exo a C none) ∧
  ∀ dx, H dx = none → dx ≠ a → Q .non (upd (upd H dx (exd dx [(f, v)])) a (exo a C (some dx)))
/-- what the module holds of such a class: at C, its __init__ at fI -/
structure ErrC (P : Program) (w : World) (K : PySem.W.Frag) (mg : Str → Option Value) (base : Heap) (k : Nat) (x f : Str) (C : Addr) : Prop where
  at_ : mg x = some (.ref C)
  cls : OexC K C
  no : PySem.W.findIn K (.ref C) f = some none
  ini : ∃ (fI : Addr) (fd : FuncData), PySem.W.findIn K (.ref C) "__init__" = some (some (.ref fI)) ∧ PySem.W.typeIn K (.ref fI) = some (.type "function") ∧ Binds K fd ["self", f] [] ∧ FnOk P w K mg base CX0 k fI fd ["self", f] (spKeep K C f)
theorem heap_made {fs : List (Str × V)} {H : Hp} {a d : Addr} {u v z : HO} (ha : H a = none) (hne : d ≠ a) : upd (del (upd (upd (upd H a u) d v) a z) a) d (.xd fs) = upd H d (.xd fs) := by
  funext b
  by_cases e1 : b = d
  · rw [e1, upd_same, upd_same]
  · rw [upd_ne e1, upd_ne e1]
    by_cases e2 : b = a
    · rw [e2, del_same, ha]
    · rw [del_ne e2, upd_ne e2, upd_ne e1, upd_ne e2]
/-- raise C(e): what is asked behind e -/
theorem thrown {K : PySem.W.Frag} {C : Addr} {f : Str} {v : V} {H : Hp} {R : XK} (h : ∀ d, H d = none → R (.ref C) (some d) (upd H d (.xd [(f, v)]))) :
    [v].length ≤ 1000 ∧ ∀ a, H a = none → spKeep K C f (.ref a :: ([v] ++ [])) (upd H a (exo a C none))
      (fun y H2 => y = .non ∧ ∃ (d : Addr) (fs : List (Str × V)), H2 a = some (exo a C (some d)) ∧ H2 d = some (exd d fs) ∧ H d = none ∧ R (.ref C) (some d) (upd (del H2 a) d (.xd fs))) (fun _ _ _ => False) := by
  refine ⟨Nat.succ_le_of_lt (by simp), fun a ha => ⟨a, v, rfl, upd_same, fun d hd ne => ⟨rfl, d, [(f, v)], upd_same, ?_, ?_, ?_⟩⟩⟩
  · rw [upd_ne ne, upd_same]
  · rwa [upd_ne ne] at hd
  · rw [heap_made ha ne]
    rw [upd_ne ne] at hd
    exact h d hd
section
variable {X : Cx} {k j : Nat} {x f : Str} {C : Addr} {e : Expr} {ta : TA} {W : WX} {p pos p2 : Pos}
theorem ps_throw (T : ErrC X.prog X.w X.K X.mg X.base k x f C) (hc : X.calm = true) (hr : Room j X.A) (tk : Takes X W) (ha : PA X [e] ta) (hk : k + 1 ≤ j := by decide) (hg : Gl X x := by rfl) (hdb : (x == ("__debug__" : Str)) = false := by decide)
    (he : starEach (e :: []) X.env = (false, eval e X.env) :: starEach [] X.env := by rfl) (hpl : (backTo pos (starEach [] X.env)).any (·.1) = false := by rfl) :
    PS X (.Raise (some (.Call (.Name x p) [e] [] pos)) none p2) (fun _ σ H => tMkO C (spKeep X.K C f) [] ta σ H fun cls d H' => W cls d σ H') := by
  obtain ⟨fI, fd, h1, h2, h3, h4⟩ := T.ini
  exact ps_raise (pos := p2) hc tk (pmk_oex (p := p) (pos := pos) (es := []) T.cls h1 h2 h4 (hr.mono hk) h3 .nil pass0 hg T.at_ ha hdb he hpl)
end
/-! ### the init itself -/
theorem ok_keep {P : Program} {w : World} {K : PySem.W.Frag} {mg : Str → Option Value} {base : Heap} {C fI : Addr} {fd : FuncData} {f qual : Str} {params : Arguments} {scope : Scope} {p1 p2 p3 p4 : Pos}
    (F : FunD K "__init__" qual params [.Assign [.Attribute (.Name "self" p1) f p2] (.Name f p3) p4] scope [] [] fI fd) (T : OexC K C) (no : PySem.W.findIn K (.ref C) f = some none)
    (sc : FnScope ["self", f] ["self", f] scope) (hd : (f == ("__debug__" : Str)) = false) (hcd : (f == ("__classdict__" : Str)) = false) (l0 : scope.names.lookup ("self" : Str) = some .local) (l1 : scope.names.lookup f = some .local) :
    FnOk P w K mg base CX0 1 fI fd ["self", f] (spKeep K C f) := by
  refine F.ok sc (fun vs H Q E h => ?_) (fun cdv A outer s H vs Q E hr h => ?_)
  · obtain ⟨a, v, rfl, _⟩ := h
    rfl
  · obtain ⟨a, v, rfl, ha, k⟩ := h
    refine ⟨_, pss_one (ps_ost (pe_var (i := 0) rfl (.inl l0)) (pe_var (i := 1) rfl (.inl l1) hd hcd)), ?_⟩
    exact ⟨_, rfl, _, rfl, a, C, rfl, T, no, .inl ⟨ha, fun dx n1 n2 => k dx n1 n2⟩⟩
end Kx
/-! own errors right over KeyError (made by LookupError's maker), with an own __init__. -/
namespace Kx
open PySem PySem.W PySem.Calls PyProof.Rows PySem.HandSPX
abbrev keyTail : List Value := [.type "KeyError", .type "LookupError", .type "Exception", .type "BaseException", .type "object"]
abbrev keyObj (nm q : Str) (C N : Addr) (bs : List Value) (sn : List Str) (sub : List Value) (ab : Bool) (col : Option Bool) (dd : Option Addr) (k0 k1 k2 k3 k5 : Option Value) : Obj :=
  excClassObj nm q C N bs keyTail true sn sub ab col dd k0 k1 k2 k3 k5 "LookupError.__new__"
theorem in_tail {C : Addr} {n : String} {b : Bool} (h : keyTail.contains (.type n) = b) : (Value.ref C :: keyTail).contains (.type n) = b := by
  rw [List.contains_cons, h]
  rfl
section
variable {h : Heap} {g : Array GenState} {d : Drawn} {t : Nat} {os : OsState} {prog : Program} {w : World} {A : Around} {R : Result → Shared → Prop} {E : Value → Shared → Prop}
variable {nm q : Str} {C N : Addr} {bs : List Value} {sn : List Str} {sub : List Value} {ab : Bool} {col : Option Bool} {dd : Option Addr} {k0 k1 k2 k3 k5 : Option Value} {more : List Value}
theorem key_check {M : Model} {Q : Unit → Shared → Prop} (stands : h.get? C = some (keyObj nm q C N bs sn sub ab col dd k0 k1 k2 k3 k5)) (done : Q () ⟨h, g, d, t, os⟩) :
    wpAny M A (checkBuiltinCall "LookupError.__new__" ⟨.ref C :: more, []⟩) Q E ⟨h, g, d, t, os⟩ := by
  have isB : (Value.ref C :: keyTail).contains (.type "LookupError") = true := in_tail (by decide +kernel)
  have short := PySem.F.excBase_LookupError.noStar
  simp only [checkBuiltinCall, PySem.F.excBase_LookupError.newKind, PySem.F.excBase_LookupError.newSplit, PySem.F.excBase_LookupError.newRow]
  repeat (first
    | refine wpAny_loadPart_at stands ?_
    | (refine wpAny_isSubtype_exc stands ?_; rw [isB])
    | refine wpAny_staticBase_exc stands ?_
    | refine wpAny_madeBy_exc stands ?_
    | simp only [bne_self_eq_false, Bool.false_eq_true, if_false]
    | wp_step)
  exact done
theorem key_new (stands : h.get? C = some (keyObj nm q C N bs sn sub ab col dd k0 k1 k2 k3 k5)) (fits : more.length ≤ sizeLine)
    (done : R (.ok (.ret (.ref (h.objs.size + 1)))) ⟨(h.push (kdv_tup more)).push (excO C h.objs.size), g, d, t, os⟩) : codeAny (model prog w) A (.builtin "LookupError.__new__" ⟨.ref C :: more, []⟩) R ⟨h, g, d, t, os⟩ := by
  have ends := PySem.F.excBase_LookupError.ends
  have isB : (Value.ref C :: keyTail).contains (.type "LookupError") = true := in_tail (by decide +kernel)
  have noA : (Value.ref C :: keyTail).contains (.type "AttributeError") = false := in_tail (by decide +kernel)
  have noN : (Value.ref C :: keyTail).contains (.type "NameError") = false := in_tail (by decide +kernel)
  refine codeAny_builtinAt PySem.F.excBase_LookupError.entry ?_
  unfold Builtin.«BaseException.__new__»; refine PySem.wpAt_bind ?_
  show PySem.wpAt _ _ _ (stack >>= _) _ _ _
  refine PySem.wpAt_bind (PySem.wpAt_stack fun _ _ => PySem.wpAt_of_wpAny ?_)
  wp_walk
  refine PySem.wpAt_of_wpAny ?_
  rw [PySem.F.excBase_LookupError.owner]
  repeat (first
    | with_reducible refine wpAny_madeHere_exc PySem.F.excBase_LookupError.canon stands ?_
    | with_reducible refine wpAny_loadPart_at stands ?_
    | (with_reducible refine wpAny_isSubtype_exc stands ?_; first | rw [isB] | rw [noA] | rw [noN])
    | wp_step)
  show R _ _
  rw [Heap.size_push]
  exact done
theorem key_call {fI : Addr} (stands : h.get? C = some (keyObj nm q C N bs sn sub ab col dd k0 k1 k2 k3 k5)) (hi : Looks (model prog w) h (typeLookup (.ref C) "__init__") (some (.ref fI)))
    (hb : ∀ self, Looks (model prog w) h (bindSpecial (.ref fI) self) (.ref fI, [self])) (fits : more.length ≤ sizeLine)
    (done : codeAny (model prog w) (A.under (.builtin "type.__call__" ⟨.ref C :: more, []⟩)) (.call (.ref fI) ⟨.ref (h.objs.size + 1) :: more, []⟩) (InitBack (h.objs.size + 1) R) ⟨(h.push (kdv_tup more)).push (excO C h.objs.size), g, d, t, os⟩) :
    codeAny (model prog w) A (.call (.ref C) ⟨more, []⟩) R ⟨h, g, d, t, os⟩ := by
  have l1 := tc_lookup
  have l2 := tc_bind (.ref C)
  have isTy : (⟨h, g, d, t, os⟩ : Shared).TypeIs (.ref C) "type" := ⟨_, stands, rfl⟩
  have all : ∀ b o, h.get? b = some o → ((h.push (kdv_tup more)).push (excO C h.objs.size)).get? b = some o := fun b o z => Heap.get?_push_of_some _ (Heap.get?_push_of_some _ z)
  refine codeAny_of_tree ?_
  show wpAny _ _ (callAny (.ref C) _) _ _ _; repeat (any_goals (first | assumption | with_reducible refine wpAny_loadPart_at stands ?_ | wp_step))
  refine ⟨rfl, ?_⟩
  refine codeAny_call_builtin_at (Code.quiet_builtin _ (by decide +kernel)) entry_typeCall (wpAny_check_type_call_sub stands ?_)
  repeat (first | with_reducible refine wpAny_loadPart_at stands ?_ | with_reducible refine wpAny_madeBy_exc stands ?_ | wp_step)
  refine codeAny_call_builtin_code (Code.quiet_builtin _ PySem.F.excBase_LookupError.quiet) (key_check stands (key_new stands fits ?_))
  show wpAny _ _ _ _ _ _
  have hC1 := all _ _ stands
  have made : ((h.push (kdv_tup more)).push (excO C h.objs.size)).get? (h.objs.size + 1) = some (excO C h.objs.size) := by heap_get
  have own : (Value.ref C :: keyTail).contains (.ref C) = true := by simp
  have i1 := hi.keeps all
  have b1 := (hb (.ref (h.objs.size + 1))).keeps all
  unfold isInstance
  repeat (first | with_reducible refine wpAny_loadPart_at made ?_ | wp_step)
  show wpAny _ _ (isSubtype (.ref C) (.ref C)) _ _ ⟨(h.push (kdv_tup more)).push (excO C h.objs.size), g, d, t, os⟩
  refine wpAny_isSubtype_exc hC1 ?_
  rw [own]
  repeat wp_step
  show wpAny _ _ (typeLookup (.ref C) _) _ _ _; refine i1.at (wpAny_holding (wpAny_bind (b1.at (wpAny_bind (wpAny_call (codeAny_mono done fun r s' z => ?_))))))
  match r, z with
  | .error _, z => exact z
  | .ok .next, z => exact z.elim
  | .ok .brk, z => exact z.elim
  | .ok .cont, z => exact z.elim
  | .ok (.ret _), ⟨e1, z⟩ =>
    subst e1
    first | (wp_walk; exact z) | exact wpAny_pure (wpAny_pure z)
end
/-! ### x.name = v on such an error that has no dict yet -/
theorem key_passes (self : Value) : refuseLoop self "__setattr__" keyTail = pure () := by kernel_rfl
/-- what the written part holds of such a class -/
structure KeyC (K : Frag) (C : Addr) : Prop where
  cls : ∃ nm q N bs sn sub ab col dd k0 k1 k2 k3 k5, K.lookup C = some (keyObj nm q C N bs sn sub ab col dd k0 k1 k2 k3 k5)
  sa : findIn K (.ref C) "__setattr__" = some (some (.builtin "object.__setattr__"))
  exC : subIn K (.ref C) (.type "BaseException") = some true
  tyC : typeIn K (.ref C) = some (.type "type")
  kC : keepIn K (.ref C) = true
section
open Builtin.ObjectAttr Builtin
variable {mem : Heap} {g : Array GenState} {d : Drawn} {t : Nat} {os : OsState} {prog : Program} {w : World} {A : Around} {R : Result → Shared → Prop} {E : Value → Shared → Prop}
theorem key_osa {K : Frag} {name : Str} {tk : Tok} {v : Value} {x C : Addr} {fv : Array Value} (T : KeyC K C) (X : K.In mem) (hx : mem.get? x = some { cls := .ref C, data := .fields fv }) (no : findIn K (.ref C) name = some none)
    (done : ∀ (h' : Heap) (tk' : Nat) (dx : Addr), (∀ b o, b ≠ x → mem.get? b = some o → h'.get? b = some o) → mem.objs.size ≤ dx → dx ≠ x → h'.get? x = some { cls := .ref C, dict := some dx, data := .fields fv } → h'.Ns1 dx (fun y => if y = name then some v else none) → R (.ok (.ret .none)) ⟨h', g, d, tk', os⟩) : codeAny (model prog w) A (.call (.builtin "object.__setattr__") ⟨[.ref x, .str name tk, v], []⟩) R ⟨mem, g, d, t, os⟩ := by
  obtain ⟨nm, q, N, bs, sn, sub, ab, col, dd, k0, k1, k2, k3, k5, stands⟩ := T.cls
  have cd : clsIn K C = some { name := nm, bases := bs, mro := .ref C :: keyTail, ns := N, qualname := q, hasDict := true, slotNames := sn, subclasses := sub, abstract := ab, collection := col, hasDel := false } := by
    unfold clsIn
    rw [stands]
  have I : InstAt mem x { cls := .ref C, data := .fields fv } C none := ⟨hx, rfl, rfl, trivial⟩
  have SF := PySem.F.store_object -- the store
  have obj : (Value.ref C :: keyTail).contains (.type "object") = true := in_tail (by decide +kernel)
  have apart : x ≠ mem.objs.size := Nat.ne_of_lt (Heap.lt_size hx)
  have sub' : Looks (model prog w) mem (isInstance (.ref x) (.type "object")) true := I.type.andThen (looks_mroIn X (by
    unfold mroIn
    rw [cd, Option.bind_some]
    show (if (Value.ref C :: keyTail).isEmpty = true then none else some ((Value.ref C :: keyTail).contains (.type "object"))) = some true
    rw [obj]
    rfl))
  refine codeAny_call_builtin SF.slot.plain SF.entry (@check_slot (model prog w) _ _ ⟨mem, g, d, t, os⟩ "object.__setattr__" "object" "__setattr__" (.ref x) [.str name tk, v] [] _ SF.kind SF.split sub' (SF.args (.ref x) (.str name tk) v) ?_)
  have mro : Looks (model prog w) mem (mroOf (.ref C)) (.ref C :: keyTail) := (looks_clsIn X cd).andThen .now
  have taker : Looks (model prog w) mem (storeTaker? none) none := .now
  have data : Looks (model prog w) mem (classData C) _ := looks_clsIn X cd
  rw [osa_eq, refuse_eq]
  refine wpAny_bind (wpAny_bind (I.type.at (wpAny_bind (mro.at ?_))))
  rw [refuseLoop_ref, key_passes]
  refine wpAny_pure (wpAny_bind (I.type.at (wpAny_bind ((looks_findIn X no).at (wpAny_bind (taker.at ?_))))))
  show wpAny _ _ (storeInOwnDict (.ref x) (.ref C) (.str name tk) name v false) _ _ _; unfold storeInOwnDict ownDictForStores
  repeat (first
    | with_reducible refine store_in_new ?_ ?_
    | with_reducible refine wpAny_loadPart_at hx ?_
    | with_reducible refine data.at ?_
    | wp_step)
  · exact ⟨_, #[], _, (Heap.get?_update_ne _ _ _ _ apart.symm).trans (Heap.get?_push_at rfl rfl), rfl, fun e he => absurd he (by simp), fun _ => rfl⟩
  · intro h' tk' ns but
    have here := Heap.get?_push_of_some { cls := .type "dict", data := .dict #[] } hx
    refine done h' tk' mem.objs.size (fun b o ne ho => ?_) (Nat.le_refl _) apart.symm ((but.2 x apart).trans (Heap.get?_update_self _ here rfl)) ns
    exact (but.2 b (Nat.ne_of_lt (Heap.lt_size ho))).trans ((Heap.get?_update_ne _ _ _ _ ne).trans (Heap.get?_push_of_some _ ho))
end
end Kx
/-! NoState and NoDeed: raised with their one thing. -/
namespace PySem
namespace LowZ
open PySem.HandSPX PySem.W PySem.Calls PyProof.Rows
theorem one_fits (v : Value) : [v].length ≤ sizeLine := by
  rw [sizeLine_eq]
  exact (by decide : 1 ≤ 16777216)
theorem ld_here {M : Model} {s : Shared} {name : Str} {scope : Scope} {L a : Addr} {cd : Value} {m : Str → Option Value} {x : Str} {pos : Pos} {v : Value} {Q : Value → Shared → Prop} {A : Around} {E : Value → Shared → Prop} (hn : s.heap.Ns L m) (hv : m x = some v) (h : Q v s)
    (hk : scope.kind = .function := by rfl) (hl : (envOfC name scope L a cd).kindOf x = some .local := by rfl) (hd : (x == ("__debug__" : Str)) = false := by decide) : wpAny M A (eval (.Name x pos) (envOfC name scope L a cd)) Q E s := wpAny_Name (wpAny_loadName_local hk hl hn hv h) hd
end LowZ
end PySem

namespace Kx
namespace KS
open PySem PySem.W PySem.Calls PyProof.Rows PySem.HandSPX PySem.LowZ
/-! __init__(self, state): self.state = state -/
def tArgs (p1 p2 : Pos) : Arguments := { posonlyargs := [], args := [{ arg := "self", annotation := none, pos := p1 }, { arg := "state", annotation := none, pos := p2 }], vararg := none, kwonlyargs := [], kw_defaults := [], kwarg := none, defaults := [] }
def tBody (q1 q2 q3 q4 : Pos) : List Stmt := [.Assign [.Attribute (.Name "self" q1) "state" q2] (.Name "state" q3) q4]
def tScope : Scope := { kind := .function, names := [(Str.ofString "self", .local), (Str.ofString "state", .local)], isGenerator := false, isCoroutine := false, more := [] }
structure Txt (K : Frag) (C fI : Addr) (qual : Str) : Prop where
  key : KeyC K C
  no : findIn K (.ref C) "state" = some none
  ini : findIn K (.ref C) "__init__" = some (some (.ref fI))
  tyI : typeIn K (.ref fI) = some (.type "function")
  fn : ∃ (oc : Value) (od : Option Addr) (dV kV doc pm : Value) (an : Option Addr) (cdv ct : Value) (osl : Array (Option Value)) (p1 p2 q1 q2 q3 q4 : Pos),
    K.lookup fI = some ⟨oc, od, .func (fnOf "__init__" qual (tArgs p1 p2) (tBody q1 q2 q3 q4) tScope dV kV doc pm an cdv ct), osl⟩ ∧ codeIn K cdv qual = true ∧ dV = .none
/-- what a made one is -/
structure Made (h h' : Heap) (e C d : Addr) (v : Value) : Prop where
  keep : ∀ b o, h.get? b = some o → h'.get? b = some o
  new : h.objs.size ≤ e
  obj : ∃ oe vs, h'.get? e = some oe ∧ oe.cls = .ref C ∧ oe.dict = some d ∧ oe.data = .fields vs ∧ vs[1]? = some .none
  dbig : h.objs.size ≤ d
  dne : d ≠ e
  ns : h'.Ns1 d (fun y => if y = "state" then some v else none)
section
variable {prog : Program} {w : World} {A : Around} {R : Result → Shared → Prop} {s : Shared} {K : Frag} {C fI : Addr} {qual : Str}
theorem inits (T : Txt K C fI qual) {x t0 : Addr} {v : Value} (X : K.In s.heap) (lim : s.heap.NoLimit) (hx : s.heap.get? x = some (excO C t0)) (room : A.depth < recursionLimit)
    (done : ∀ (h' : Heap) (tk : Nat) (dx : Addr), (∀ b o, b ≠ x → s.heap.get? b = some o → h'.get? b = some o) → h'.get? x = some { cls := .ref C, dict := some dx, data := .fields #[.ref t0, .none, .none, .none, .bool false, .none] } → s.heap.objs.size ≤ dx → dx ≠ x →
      h'.Ns1 dx (fun y => if y = "state" then some v else none) → R (.ok (.ret .none)) { s with heap := h', toks := tk }) :
    codeAny (model prog w) A (.call (.ref fI) ⟨[.ref x, v], []⟩) R s := by
  obtain ⟨oc, od, dV, kV, doc, pm, an, cdv, ct, osl, p1, p2, q1, q2, q3, q4, lk, hcd, rfl⟩ := T.fn
  refine Att.call_fn (binds := [("self", .ref x), ("state", v)]) X lim lk hcd room (BindsTo.of_eq (by first | rfl | with_unfolding_all rfl)) (by first | rfl | decide | with_unfolding_all rfl) (fun s1 IC => ?_) rfl rfl rfl
  obtain ⟨h1, tk1, rfl⟩ := IC.toInCall.same
  have keep : ∀ b o, s.heap.get? b = some o → h1.get? b = some o := IC.toInCall.keep
  have ns := IC.toInCall.ns
  show wpAny _ _ (execs _ _) _ _ _
  refine wpAny_execs_cons (plainObj_wpAny_Assign_Attribute ?_)
  refine ld_here (v := v) ns (by first | rfl | with_unfolding_all rfl | kernel_rfl) (ld_here (v := .ref x) ns (by first | rfl | with_unfolding_all rfl | kernel_rfl) ?_)
  refine set_plain (X.keeps keep) (ox := excO C t0) (od := none) ⟨keep _ _ hx, rfl, rfl, trivial⟩ T.key.sa ?_
  refine key_osa T.key (X.keeps keep) (keep _ _ hx) T.no (fun h3 tk3 dx k3 dn dne hx3 hn3 => ?_)
  show wpAny _ _ (execs _ _) _ _ _
  have z : s.heap.objs.size < h1.objs.size := ns.lt
  exact wpAny_execs_nil (done h3 tk3 dx (fun b o hb e => k3 b o hb (keep b o e)) hx3 (Nat.le_of_lt (Nat.lt_of_lt_of_le z dn)) dne hn3)
theorem makes (T : Txt K C fI qual) {v : Value} (X : K.In s.heap) (lim : s.heap.NoLimit) (room : A.depth + 1 < recursionLimit)
    (done : ∀ h' tk e d, Made s.heap h' e C d v → R (.ok (.ret (.ref e))) { s with heap := h', toks := tk }) : codeAny (model prog w) A (.call (.ref C) ⟨[v], []⟩) R s := by
  obtain ⟨nm, q, N, bs, sn, sub, ab, col, dd, k0, k1, k2, k3, k5, hC⟩ := T.key.cls
  obtain ⟨hp, gs, dr, tk, os⟩ := s
  have keep : ∀ b o, hp.get? b = some o → ((hp.push (kdv_tup [v])).push (excO C hp.objs.size)).get? b = some o := fun b o e => Heap.get?_push_of_some _ (Heap.get?_push_of_some _ e)
  have here : ((hp.push (kdv_tup [v])).push (excO C hp.objs.size)).get? (hp.objs.size + 1) = some (excO C hp.objs.size) := by heap_get
  refine key_call (X _ _ hC) (looks_findIn X T.ini) (fun self => bind_fn X self T.tyI) (one_fits v) ?_
  refine inits (s := ⟨(hp.push (kdv_tup [v])).push (excO C hp.objs.size), gs, dr, tk, os⟩) T (X.keeps keep) (lim.keeps keep) here ?_ fun h' tk' dx k' hx dn dne hns => ?_
  · show A.depth + 1 < recursionLimit
    exact room
  · have old : ∀ b o, hp.get? b = some o → h'.get? b = some o := fun b o e => k' b o (Nat.ne_of_lt (Nat.lt_succ_of_lt (Heap.lt_size e))) (keep b o e)
    have z : hp.objs.size + 1 + 1 ≤ dx := by
      have q := dn
      simp only [Heap.size_push] at q
      exact q
    exact ⟨rfl, done h' tk' (hp.objs.size + 1) dx ⟨old, Nat.le_succ _, ⟨_, _, hx, rfl, rfl, rfl, rfl⟩, Nat.le_trans (Nat.le_trans (Nat.le_succ _) (Nat.le_succ _)) z, dne, hns⟩⟩
end
end KS
end Kx
namespace Kx
namespace KS
open L2 PySem PySem.Spec PyProof.Rows
theorem rel_one {v : V} {v' : Value} (r : RelV v v') (y : Str) : RelO (List.lookup y [(("state" : Str), v)]) (if y = "state" then some v' else none) := by
  rw [lookup_put]
  by_cases h : y = "state"
  · rw [if_pos h, if_pos h]
    exact r
  · rw [if_neg h, if_neg h]
    trivial
section
variable {X : Cx} {C fI : Addr} {qual x : Str}
/-- C(e) -/
def tMk (C : Addr) (ta : TA) : L2.St → Hp → XK → Prop := fun σ H Q => ta σ H fun vs H1 => ∃ v, vs = [v] ∧ ∀ d, H1 d = none → Q (.ref C) (some d) (upd H1 d (.xd [(("state" : Str), v)]))
theorem pmk {a : Expr} {ta : TA} {p pos : Pos} {k : Nat} (T : Txt X.K C fI qual) (at_ : X.mg x = some (.ref C)) (hr : Room k X.A) (ha : PA X [a] ta) (hg : Gl X x) (hdb : (x == ("__debug__" : Str)) = false)
    (he : starEach (a :: []) X.env = (false, eval a X.env) :: starEach [] X.env) (hpl : (backTo pos (starEach [] X.env)).any (·.1) = false) : PMk X (.Call (.Name x p) [a] [] pos) (tMk C ta) := by
  intro pins s σ H Q I h
  refine wpAny_Call_Name_kw (ld_glob I hg at_ ?_ hdb)
  refine PySem.W.callWith_K (h₀ := X.base) I.ok.mod.kin T.key.kC (thn (ha.run pos pins s σ H _ I h) fun us s1 hh => ?_) he hpl
  obtain ⟨vs, H1, I1, r1, v, ev, q1⟩ := hh
  subst ev
  refine ⟨I1.kIn, ?_⟩
  obtain ⟨v', rfl, rv⟩ := vals1 r1
  show wpAny _ _ (call (.ref C) [v']) _ _ _
  have lim := I1.nolimit
  obtain ⟨hp, gs, dr, tk, os⟩ := s1
  refine wpAny_call (makes T I1.kIn lim (by have := hr.dp; omega) fun h' tk' e d M => ?_)
  show MkP X pins σ Q (.ref e) ⟨h', gs, dr, tk', os⟩
  obtain ⟨oe, fv, hoe, hc, hd, hdat, h1⟩ := M.obj
  have hns := M.ns
  obtain ⟨G, g1, g2⟩ := restrict h' fun b => decide (b ≠ e)
  have gk : ∀ b, b ≠ e → G.get? b = h'.get? b := fun b hb => g1 b (decide_eq_true hb)
  have ge : G.get? e = none := g2 e (by simp)
  have old : ∀ b o, hp.get? b = some o → G.get? b = some o := fun b o q => (gk b (Nat.ne_of_lt (Nat.lt_of_lt_of_le (Heap.lt_size q) M.new))).trans (M.keep b o q)
  have ob : ObjOk X.prog X.w (upd H1 d (.xd [(("state" : Str), v)])) G d (.xd [(("state" : Str), v)]) := ⟨_, hns.at (fun o q => (gk d M.dne).trans q), fun y => rel_one rv y⟩
  have J : Inv X pins σ (upd H1 d (.xd [(("state" : Str), v)])) ⟨G, gs, dr, tk', os⟩ := I1.laid (t' := tk') old M.dbig ob
  refine ⟨e, oe, fv, ⟨G, gs, dr, tk', os⟩, _, .ref C, some d, rfl, J, fun b o q => ?_, ge, hoe, ⟨hc, hd⟩, hdat, h1, ?_, rfl, I1.bare, raises_own T.key.exC T.key.tyC, q1 d (I1.hok.fresh M.dbig)⟩
  · by_cases hb : b = e
    · have q' : G.get? b = some o := q
      rw [hb, ge] at q'
      cases q'
    · exact (gk b hb).symm.trans q
  · rw [upd_ne (Ne.symm M.dne)]
    exact I1.hok.fresh M.new
/-- raise C(e) -/
theorem ps_throw {a : Expr} {ta : TA} {W : WX} {p pos p2 : Pos} {k : Nat} (T : Txt X.K C fI qual) (at_ : X.mg x = some (.ref C)) (hc : X.calm = true) (hr : Room k X.A) (tk : Takes X W) (ha : PA X [a] ta) (hg : Gl X x := by rfl) (hdb : (x == ("__debug__" : Str)) = false := by decide)
    (he : starEach (a :: []) X.env = (false, eval a X.env) :: starEach [] X.env := by rfl) (hpl : (backTo pos (starEach [] X.env)).any (·.1) = false := by rfl) :
    PS X (.Raise (some (.Call (.Name x p) [a] [] pos)) none p2) (fun _ σ H => tMk C ta σ H fun cls d H' => W cls d σ H') := ps_raise hc tk (pmk T at_ hr ha hg hdb he hpl)
end
end KS
end Kx

namespace Kx
namespace KD
open PySem PySem.W PySem.Calls PyProof.Rows PySem.HandSPX PySem.LowZ
/-! __init__(self, deed): self.deed = deed -/
def tArgs (p1 p2 : Pos) : Arguments := { posonlyargs := [], args := [{ arg := "self", annotation := none, pos := p1 }, { arg := "deed", annotation := none, pos := p2 }], vararg := none, kwonlyargs := [], kw_defaults := [], kwarg := none, defaults := [] }
def tBody (q1 q2 q3 q4 : Pos) : List Stmt := [.Assign [.Attribute (.Name "self" q1) "deed" q2] (.Name "deed" q3) q4]
def tScope : Scope := { kind := .function, names := [(Str.ofString "self", .local), (Str.ofString "deed", .local)], isGenerator := false, isCoroutine := false, more := [] }
structure Txt (K : Frag) (C fI : Addr) (qual : Str) : Prop where
  key : KeyC K C
  no : findIn K (.ref C) "deed" = some none
  ini : findIn K (.ref C) "__init__" = some (some (.ref fI))
  tyI : typeIn K (.ref fI) = some (.type "function")
  fn : ∃ (oc : Value) (od : Option Addr) (dV kV doc pm : Value) (an : Option Addr) (cdv ct : Value) (osl : Array (Option Value)) (p1 p2 q1 q2 q3 q4 : Pos),
    K.lookup fI = some ⟨oc, od, .func (fnOf "__init__" qual (tArgs p1 p2) (tBody q1 q2 q3 q4) tScope dV kV doc pm an cdv ct), osl⟩ ∧ codeIn K cdv qual = true ∧ dV = .none
/-- what a made one is -/
structure Made (h h' : Heap) (e C d : Addr) (v : Value) : Prop where
  keep : ∀ b o, h.get? b = some o → h'.get? b = some o
  new : h.objs.size ≤ e
  obj : ∃ oe vs, h'.get? e = some oe ∧ oe.cls = .ref C ∧ oe.dict = some d ∧ oe.data = .fields vs ∧ vs[1]? = some .none
  dbig : h.objs.size ≤ d
  dne : d ≠ e
  ns : h'.Ns1 d (fun y => if y = "deed" then some v else none)
section
variable {prog : Program} {w : World} {A : Around} {R : Result → Shared → Prop} {s : Shared} {K : Frag} {C fI : Addr} {qual : Str}
theorem inits (T : Txt K C fI qual) {x t0 : Addr} {v : Value} (X : K.In s.heap) (lim : s.heap.NoLimit) (hx : s.heap.get? x = some (excO C t0)) (room : A.depth < recursionLimit)
    (done : ∀ (h' : Heap) (tk : Nat) (dx : Addr), (∀ b o, b ≠ x → s.heap.get? b = some o → h'.get? b = some o) → h'.get? x = some { cls := .ref C, dict := some dx, data := .fields #[.ref t0, .none, .none, .none, .bool false, .none] } → s.heap.objs.size ≤ dx → dx ≠ x →
      h'.Ns1 dx (fun y => if y = "deed" then some v else none) → R (.ok (.ret .none)) { s with heap := h', toks := tk }) :
    codeAny (model prog w) A (.call (.ref fI) ⟨[.ref x, v], []⟩) R s := by
  obtain ⟨oc, od, dV, kV, doc, pm, an, cdv, ct, osl, p1, p2, q1, q2, q3, q4, lk, hcd, rfl⟩ := T.fn
  refine Att.call_fn (binds := [("self", .ref x), ("deed", v)]) X lim lk hcd room (BindsTo.of_eq (by first | rfl | with_unfolding_all rfl)) (by first | rfl | decide | with_unfolding_all rfl) (fun s1 IC => ?_) rfl rfl rfl
  obtain ⟨h1, tk1, rfl⟩ := IC.toInCall.same
  have keep : ∀ b o, s.heap.get? b = some o → h1.get? b = some o := IC.toInCall.keep
  have ns := IC.toInCall.ns
  show wpAny _ _ (execs _ _) _ _ _
  refine wpAny_execs_cons (plainObj_wpAny_Assign_Attribute ?_)
  refine ld_here (v := v) ns (by first | rfl | with_unfolding_all rfl | kernel_rfl) (ld_here (v := .ref x) ns (by first | rfl | with_unfolding_all rfl | kernel_rfl) ?_)
  refine set_plain (X.keeps keep) (ox := excO C t0) (od := none) ⟨keep _ _ hx, rfl, rfl, trivial⟩ T.key.sa ?_
  refine key_osa T.key (X.keeps keep) (keep _ _ hx) T.no (fun h3 tk3 dx k3 dn dne hx3 hn3 => ?_)
  show wpAny _ _ (execs _ _) _ _ _
  have z : s.heap.objs.size < h1.objs.size := ns.lt
  exact wpAny_execs_nil (done h3 tk3 dx (fun b o hb e => k3 b o hb (keep b o e)) hx3 (Nat.le_of_lt (Nat.lt_of_lt_of_le z dn)) dne hn3)
theorem makes (T : Txt K C fI qual) {v : Value} (X : K.In s.heap) (lim : s.heap.NoLimit) (room : A.depth + 1 < recursionLimit)
    (done : ∀ h' tk e d, Made s.heap h' e C d v → R (.ok (.ret (.ref e))) { s with heap := h', toks := tk }) : codeAny (model prog w) A (.call (.ref C) ⟨[v], []⟩) R s := by
  obtain ⟨nm, q, N, bs, sn, sub, ab, col, dd, k0, k1, k2, k3, k5, hC⟩ := T.key.cls
  obtain ⟨hp, gs, dr, tk, os⟩ := s
  have keep : ∀ b o, hp.get? b = some o → ((hp.push (kdv_tup [v])).push (excO C hp.objs.size)).get? b = some o := fun b o e => Heap.get?_push_of_some _ (Heap.get?_push_of_some _ e)
  have here : ((hp.push (kdv_tup [v])).push (excO C hp.objs.size)).get? (hp.objs.size + 1) = some (excO C hp.objs.size) := by heap_get
  refine key_call (X _ _ hC) (looks_findIn X T.ini) (fun self => bind_fn X self T.tyI) (one_fits v) ?_
  refine inits (s := ⟨(hp.push (kdv_tup [v])).push (excO C hp.objs.size), gs, dr, tk, os⟩) T (X.keeps keep) (lim.keeps keep) here ?_ fun h' tk' dx k' hx dn dne hns => ?_
  · show A.depth + 1 < recursionLimit
    exact room
  · have old : ∀ b o, hp.get? b = some o → h'.get? b = some o := fun b o e => k' b o (Nat.ne_of_lt (Nat.lt_succ_of_lt (Heap.lt_size e))) (keep b o e)
    have z : hp.objs.size + 1 + 1 ≤ dx := by
      have q := dn
      simp only [Heap.size_push] at q
      exact q
    exact ⟨rfl, done h' tk' (hp.objs.size + 1) dx ⟨old, Nat.le_succ _, ⟨_, _, hx, rfl, rfl, rfl, rfl⟩, Nat.le_trans (Nat.le_trans (Nat.le_succ _) (Nat.le_succ _)) z, dne, hns⟩⟩
end
end KD
end Kx
namespace Kx
namespace KD
open L2 PySem PySem.Spec PyProof.Rows
theorem rel_one {v : V} {v' : Value} (r : RelV v v') (y : Str) : RelO (List.lookup y [(("deed" : Str), v)]) (if y = "deed" then some v' else none) := by
  rw [lookup_put]
  by_cases h : y = "deed"
  · rw [if_pos h, if_pos h]
    exact r
  · rw [if_neg h, if_neg h]
    trivial
section
variable {X : Cx} {C fI : Addr} {qual x : Str}
/-- C(e) -/
def tMk (C : Addr) (ta : TA) : L2.St → Hp → XK → Prop := fun σ H Q => ta σ H fun vs H1 => ∃ v, vs = [v] ∧ ∀ d, H1 d = none → Q (.ref C) (some d) (upd H1 d (.xd [(("deed" : Str), v)]))
theorem pmk {a : Expr} {ta : TA} {p pos : Pos} {k : Nat} (T : Txt X.K C fI qual) (at_ : X.mg x = some (.ref C)) (hr : Room k X.A) (ha : PA X [a] ta) (hg : Gl X x) (hdb : (x == ("__debug__" : Str)) = false)
    (he : starEach (a :: []) X.env = (false, eval a X.env) :: starEach [] X.env) (hpl : (backTo pos (starEach [] X.env)).any (·.1) = false) : PMk X (.Call (.Name x p) [a] [] pos) (tMk C ta) := by
  intro pins s σ H Q I h
  refine wpAny_Call_Name_kw (ld_glob I hg at_ ?_ hdb)
  refine PySem.W.callWith_K (h₀ := X.base) I.ok.mod.kin T.key.kC (thn (ha.run pos pins s σ H _ I h) fun us s1 hh => ?_) he hpl
  obtain ⟨vs, H1, I1, r1, v, ev, q1⟩ := hh
  subst ev
  refine ⟨I1.kIn, ?_⟩
  obtain ⟨v', rfl, rv⟩ := vals1 r1
  show wpAny _ _ (call (.ref C) [v']) _ _ _
  have lim := I1.nolimit
  obtain ⟨hp, gs, dr, tk, os⟩ := s1
  refine wpAny_call (makes T I1.kIn lim (by have := hr.dp; omega) fun h' tk' e d M => ?_)
  show MkP X pins σ Q (.ref e) ⟨h', gs, dr, tk', os⟩
  obtain ⟨oe, fv, hoe, hc, hd, hdat, h1⟩ := M.obj
  have hns := M.ns
  obtain ⟨G, g1, g2⟩ := restrict h' fun b => decide (b ≠ e)
  have gk : ∀ b, b ≠ e → G.get? b = h'.get? b := fun b hb => g1 b (decide_eq_true hb)
  have ge : G.get? e = none := g2 e (by simp)
  have old : ∀ b o, hp.get? b = some o → G.get? b = some o := fun b o q => (gk b (Nat.ne_of_lt (Nat.lt_of_lt_of_le (Heap.lt_size q) M.new))).trans (M.keep b o q)
  have ob : ObjOk X.prog X.w (upd H1 d (.xd [(("deed" : Str), v)])) G d (.xd [(("deed" : Str), v)]) := ⟨_, hns.at (fun o q => (gk d M.dne).trans q), fun y => rel_one rv y⟩
  have J : Inv X pins σ (upd H1 d (.xd [(("deed" : Str), v)])) ⟨G, gs, dr, tk', os⟩ := I1.laid (t' := tk') old M.dbig ob
  refine ⟨e, oe, fv, ⟨G, gs, dr, tk', os⟩, _, .ref C, some d, rfl, J, fun b o q => ?_, ge, hoe, ⟨hc, hd⟩, hdat, h1, ?_, rfl, I1.bare, raises_own T.key.exC T.key.tyC, q1 d (I1.hok.fresh M.dbig)⟩
  · by_cases hb : b = e
    · have q' : G.get? b = some o := q
      rw [hb, ge] at q'
      cases q'
    · exact (gk b hb).symm.trans q
  · rw [upd_ne (Ne.symm M.dne)]
    exact I1.hok.fresh M.new
/-- raise C(e) -/
theorem ps_throw {a : Expr} {ta : TA} {W : WX} {p pos p2 : Pos} {k : Nat} (T : Txt X.K C fI qual) (at_ : X.mg x = some (.ref C)) (hc : X.calm = true) (hr : Room k X.A) (tk : Takes X W) (ha : PA X [a] ta) (hg : Gl X x := by rfl) (hdb : (x == ("__debug__" : Str)) = false := by decide)
    (he : starEach (a :: []) X.env = (false, eval a X.env) :: starEach [] X.env := by rfl) (hpl : (backTo pos (starEach [] X.env)).any (·.1) = false := by rfl) :
    PS X (.Raise (some (.Call (.Name x p) [a] [] pos)) none p2) (fun _ σ H => tMk C ta σ H fun cls d H' => W cls d σ H') := ps_raise hc tk (pmk T at_ hr ha hg hdb he hpl)
end
end KD
end Kx
/-! tuples of the same things compared; isinstance of a caught error that has a field; "0" times a number; calls with keywords alone. -/
namespace Kx
open L2 PySem PySem.Spec PyProof.Rows
/-- two tuples that hold, place by place, the same flat thing or the same object -/
def rSame (K : PySem.W.Frag) (b : Bool) : R2 := fun x y H Q => ∃ (p q : Addr) (xs : List V), x = .ref p ∧ y = .ref q ∧ SqT K H p xs ∧ SqT K H q xs ∧ (∀ v ∈ xs, flatB v = true ∨ ∃ c, v = .ref c) ∧ Q (.bl b) H
theorem same_at {A : Around} {s : Shared} : ∀ {xs : List V} {us ws : List Value}, (∀ v ∈ xs, flatB v = true ∨ ∃ c, v = .ref c) → Vals xs us → Vals xs ws → ∀ j (h1 : j < us.length) (h2 : j < ws.length), SeqAt.EqAt A s us[j] ws[j] true
  | [], _, _, _, .nil, .nil, _, h1, _ => absurd h1 (Nat.not_lt_zero _)
  | x :: xs, _, _, f, .cons r1 k1, .cons r2 k2, 0, _, _ => by
    rcases f x List.mem_cons_self with h | ⟨c, rfl⟩
    · exact eqAt_same r1 r2 h
    · cases r1
      cases r2
      exact SeqAt.EqAt.same _
  | x :: xs, _, _, f, .cons r1 k1, .cons r2 k2, j + 1, h1, h2 => same_at (fun v hv => f v (List.mem_cons_of_mem _ hv)) k1 k2 j (Nat.lt_of_succ_lt_succ h1) (Nat.lt_of_succ_lt_succ h2)
theorem all_range (n : Nat) : ((List.range n).all fun _ => true) = true := List.all_eq_true.mpr fun _ _ => rfl
section
variable {X : Cx}
theorem op_eqSame (hu : X.A.units + 64 < cLine) : OpR X (compareOp .Eq) (rSame X.K true) := by
  intro pins st σ H x y v u Q I rx ry h
  obtain ⟨p, q, xs, rfl, rfl, h1, h2, f, k⟩ := h
  cases rx
  cases ry
  obtain ⟨us, r1, t1, _⟩ := I.tuple h1
  obtain ⟨ws, r2, t2, _⟩ := I.tuple h2
  have e : us.toArray.size = ws.toArray.size := by simp only [List.size_toArray]; rw [← r1.length, ← r2.length]
  refine SeqAt.RcAt.tuples (e := fun _ => true) t1 t2 (by omega) (fun j a1 a2 => ?_) _ _ _ _ ?_
  · simpa using same_at f r1 r2 j (by simpa using a1) (by simpa using a2)
  · rw [all_range, e, beq_self_eq_true]
    exact ⟨.bl true, H, I, rfl, k⟩
theorem op_neSame (hu : X.A.units + 64 < cLine) : OpR X (compareOp .NotEq) (rSame X.K false) := by
  intro pins st σ H x y v u Q I rx ry h
  obtain ⟨p, q, xs, rfl, rfl, h1, h2, f, k⟩ := h
  cases rx
  cases ry
  obtain ⟨us, r1, t1, _⟩ := I.tuple h1
  obtain ⟨ws, r2, t2, _⟩ := I.tuple h2
  have e : us.toArray.size = ws.toArray.size := by simp only [List.size_toArray]; rw [← r1.length, ← r2.length]
  refine SeqAt.RcNeAt.tuples (e := fun _ => true) t1 t2 (by omega) (fun j a1 a2 => ?_) _ _ _ _ ?_
  · simpa using same_at f r1 r2 j (by simpa using a1) (by simpa using a2)
  · rw [all_range, e, beq_self_eq_true]
    exact ⟨.bl false, H, I, rfl, k⟩
/-- isinstance(e, c), e the error that the suite holds, its own dict at d -/
theorem call_isEd {a D d : Addr} {oe : Obj} {pn : List (Addr × Obj)} (C : ExcC X.K D) (hz : Zc (.ref D) (some d) oe) (hf : ∃ vs, oe.data = .fields vs) :
    CallR (X.suite a ((a, oe) :: pn)) (.builtin "isinstance") (fun xs H Q => (∃ fs, H d = some (.xd fs)) ∧ rIsE X.K D a xs H Q) := by
  rintro pins s σ H xs us Q I r h
  obtain ⟨⟨fs, hd⟩, c, cv, b, rfl, hcv, e, q⟩ := h
  cases r with
  | cons rx rr =>
    cases rr with
    | cons rt rr =>
      cases rr
      cases rx
      have ec := hcv _ rt
      subst ec
      obtain ⟨hget, -⟩ := I.pin (a, oe) (List.mem_append.mpr (.inl List.mem_cons_self))
      obtain ⟨vs, hv⟩ := hf
      obtain ⟨mA, hns, _⟩ := (show ObjOk X.prog X.w H s.heap d (.xd fs) from I.hok d _ hd)
      obtain ⟨od, ho, _⟩ := lookIn_ns hns
      have J : PySem.W.InstAt s.heap a oe D (some od) := by
        obtain ⟨oc, od', oda, osl⟩ := oe
        obtain ⟨h1, h2⟩ := hz
        dsimp only at h1 h2 hv
        subst h1 h2 hv
        exact ⟨hget, rfl, rfl, ho⟩
      have cl : (PySem.W.clsIn X.K D).isSome = true := by
        obtain ⟨cd, hc, _⟩ := PySem.W.any_some C.hd
        rw [hc]
        rfl
      exact PySem.W.kia_one (PySem.W.kitx_exc cl C.hg C.hk C.hs C.ha C.hn C.ht C.hm) I.kIn J e (fun z => nomatch z) fun tk => ⟨.bl b, H, I.kept (t' := tk) fun _ _ z => z, rfl, q⟩
/-! ### "0" * k -/
def noughts : Nat → Str
  | 1 => "0"
  | 2 => "00"
  | 3 => "000"
  | _ => "0000"
theorem op_noughts : OpR X (binaryOp .Mult) (fun x y H Q => ∃ k : Nat, x = .str "0" ∧ y = .int (k : Int) ∧ 1 ≤ k ∧ k ≤ 4 ∧ Q (.str (noughts k)) H) := by
  intro pins st σ H x y v u Q I rx ry h
  obtain ⟨k, rfl, rfl, k1, k4, q⟩ := h
  obtain ⟨t, rfl⟩ := (show ∃ t, v = Value.str "0" t from rx)
  obtain ⟨t2, rfl⟩ := (show ∃ t, u = Value.int (k : Int) t from ry)
  have cases_ : k = 1 ∨ k = 2 ∨ k = 3 ∨ k = 4 := by omega
  have fin : ∀ (z : Str) (tk tk2 : Nat), z = noughts k → EP X pins σ Q (.str z tk) { st with toks := tk2 } := fun z tk tk2 e => by
    subst e
    exact ⟨.str (noughts k), H, I.kept (t' := tk2) fun _ _ z => z, ⟨tk, rfl⟩, q⟩
  refine P.mul_str ?_ ?_ ?_ ?_
  · rcases cases_ with rfl | rfl | rfl | rfl <;> decide +kernel
  · rcases cases_ with rfl | rfl | rfl | rfl <;> decide +kernel
  · rcases cases_ with rfl | rfl | rfl | rfl <;> decide +kernel
  · rcases cases_ with rfl | rfl | rfl | rfl
    · rw [if_neg (by decide), if_pos (by decide +kernel)]
      exact ⟨.str (noughts 1), H, I, ⟨t, rfl⟩, q⟩
    · rw [if_neg (by decide), if_neg (by decide +kernel)]
      exact ⟨by decide +kernel, fin _ _ _ (by decide +kernel)⟩
    · rw [if_neg (by decide), if_neg (by decide +kernel)]
      exact ⟨by decide +kernel, fin _ _ _ (by decide +kernel)⟩
    · rw [if_neg (by decide), if_neg (by decide +kernel)]
      exact ⟨by decide +kernel, fin _ _ _ (by decide +kernel)⟩
end
/-! ### calls with keywords -/
structure CalN (P : Program) (w : World) (K : PySem.W.Frag) (mg : Str → Option Value) (base : Heap) (CX : CXT) (k n : Nat) (x : Str) (ps ks : List Str) (gV : List V → List V → List V) (sp : Sp) : Prop where
  ex : ∃ (f : Addr) (fd : FuncData) (g : List Value → List Value → List Value), mg x = some (.ref f) ∧ PySem.W.keepIn K (.ref f) = true ∧ KBn K fd ps n ks g gV ∧ FnOk P w K mg base CX k f fd ps sp
section
variable {X : Cx} {CX : CXT} {k j n : Nat} {x : Str} {ps ks : List Str} {gV : List V → List V → List V} {sp : Sp} {e : Expr} {es : List Expr} {kws : List Keyword} {t tk : TA} {E : XK} {p pos : Pos}
theorem pe_callN0 (c : CalN X.prog X.w X.K X.mg X.base CX k 0 x ps ks gV sp) (hr : Room j X.A) (hx : Passes CX X E) (hkw : PK X kws tk) (hk : k ≤ j := by decide) (hg : Gl X x := by rfl)
    (hal : (backToKw pos (keywordEach kws X.env)).all (·.1.isSome) = true := by rfl) (hky : (backToKw pos (keywordEach kws X.env)).filterMap (·.1) = ks := by rfl) (hdb : (x == ("__debug__" : Str)) = false := by decide)
    (hnp : ((backTo pos (starEach [] X.env)).any (·.1) || (backToKw pos (keywordEach kws X.env)).any (·.1.isNone)) = false := by rfl) :
    PE X (.Call (.Name x p) [] kws pos) (tCallN 0 ks.length sp gV E tNil tk) := by
  obtain ⟨f, fd, g, h1, h2, h3, h4⟩ := c.ex
  refine ⟨fun pins s σ H Q I h => wpAny_Call_Name_kw (ld_glob I hg h1 ?_ hdb)⟩
  refine PySem.W.callWith_KW0 (h₀ := X.base) I.ok.mod.kin h2 hal ?_ hnp
  refine thn (hkw.run pos pins s σ H _ I h) fun ws s2 ⟨zs, H2, I2, rz, _, l2, q2⟩ => ⟨I2.kIn, ?_⟩
  rw [hky]
  exact run_fnN (us := []) (vs := []) h4 (hr.mono hk) h3 hx I2 .nil rz rfl l2 q2
theorem pe_callNn (c : CalN X.prog X.w X.K X.mg X.base CX k n x ps ks gV sp) (hr : Room j X.A) (hx : Passes CX X E) (ha : PA X (e :: es) t) (hkw : PK X kws tk) (hk : k ≤ j := by decide) (hg : Gl X x := by rfl)
    (hal : (backToKw pos (keywordEach kws X.env)).all (·.1.isSome) = true := by rfl) (hky : (backToKw pos (keywordEach kws X.env)).filterMap (·.1) = ks := by rfl) (hdb : (x == ("__debug__" : Str)) = false := by decide)
    (he : starEach (e :: es) X.env = (false, eval e X.env) :: starEach es X.env := by rfl)
    (hnp : ((backTo pos (starEach (e :: es) X.env)).any (·.1) || (backToKw pos (keywordEach kws X.env)).any (·.1.isNone)) = false := by rfl) : PE X (.Call (.Name x p) (e :: es) kws pos) (tCallN n ks.length sp gV E t tk) := by
  obtain ⟨f, fd, g, h1, h2, h3, h4⟩ := c.ex
  exact pe_callN h4 (hr.mono hk) hg h1 h2 h3 hx ha hkw hal hky hdb he hnp
end
end Kx
/-! exceptions held as values: their class asked, their fields read. -/
namespace Kx
open L2 PySem PySem.Spec PyProof.Rows
/-- an exception stands at a: its class C, its dict at d -/
def IsEv (a C d : Addr) (h : Heap) : Prop := ∃ (ob : Obj) (ws : Array Value), h.get? a = some ob ∧ Zc (.ref C) (some d) ob ∧ ob.data = .fields ws
structure EvAt (H : Hp) (a C d : Addr) (fs : List (Str × V)) : Prop where
  ob : ∃ φ : Heap → Prop, H a = some (.ext φ) ∧ ∀ h, φ h → IsEv a C d h
  di : H d = some (.xd fs) ∨ H d = some (exd d fs)
theorem EvAt.same {H H' : Hp} {a C d : Addr} {fs : List (Str × V)} (e : Same H H') (h : EvAt H a C d fs) : EvAt H' a C d fs := by
  obtain ⟨⟨φ, h1, h2⟩, h3⟩ := h
  exact ⟨⟨φ, e _ _ h1, h2⟩, h3.imp (e _ _) (e _ _)⟩
theorem exo_ev {H : Hp} {a C d : Addr} {fs : List (Str × V)} (h1 : H a = some (exo a C (some d))) (h2 : H d = some (exd d fs)) : EvAt H a C d fs :=
  ⟨⟨_, h1, fun h ⟨t, q⟩ => ⟨_, _, q, ⟨rfl, rfl⟩, rfl⟩⟩, .inr h2⟩
section
variable {X : Cx} {pins : List (Addr × Obj)} {σ : L2.St} {H : Hp} {s : Shared} {a C d : Addr} {fs : List (Str × V)}
theorem EvAt.there (E : EvAt H a C d fs) (I : Inv X pins σ H s) : IsEv a C d s.heap ∧ ∃ mA, s.heap.Ns1 d mA ∧ ∀ f, RelO (fs.lookup f) (mA f) := by
  obtain ⟨⟨φ, h1, h2⟩, h3⟩ := E
  refine ⟨h2 _ (show ObjOk X.prog X.w H s.heap a (.ext φ) from I.hok a _ h1).1, ?_⟩
  rcases h3 with h3 | h3
  · obtain ⟨mA, z, r⟩ := (show ObjOk X.prog X.w H s.heap d (.xd fs) from I.hok d _ h3)
    exact ⟨mA, z, r⟩
  · exact exd_at I.hok h3
end
/-- isinstance(e, c) of such a value -/
def rIsV (K : PySem.W.Frag) : List V → Hp → VK → Prop := fun xs H Q => ∃ (a D d : Addr) (fs : List (Str × V)) (c : V) (cv : Value) (b : Bool), xs = [.ref a, c] ∧ EvAt H a D d fs ∧ ExcC K D ∧ (∀ u, RelV c u → u = cv) ∧ PySem.W.kitOne K (.ref D) cv = some b ∧ Q (.bl b) H
theorem call_isV {X : Cx} : CallR X (.builtin "isinstance") (rIsV X.K) := by
  rintro pins s σ H xs us Q I r ⟨a, D, d, fs, c, cv, b, rfl, E, C, hcv, e, q⟩
  obtain ⟨⟨ob, ws, h1, h2, h3⟩, mA, hns, _⟩ := E.there I
  cases r with
  | cons rx rr =>
    cases rr with
    | cons rt rr =>
      cases rr
      cases rx
      obtain rfl := hcv _ rt
      obtain ⟨od, ho, _⟩ := lookIn_ns hns
      have J : PySem.W.InstAt s.heap a ob D (some od) := by
        obtain ⟨c1, c2, c3, c4⟩ := ob
        obtain ⟨z1, z2⟩ := h2
        dsimp only at z1 z2 h3
        subst z1 z2 h3
        exact ⟨h1, rfl, rfl, ho⟩
      have cl : (PySem.W.clsIn X.K D).isSome = true := by
        obtain ⟨cd, hc, _⟩ := PySem.W.any_some C.hd
        rw [hc]
        rfl
      exact PySem.W.kia_one (PySem.W.kitx_exc cl C.hg C.hk C.hs C.ha C.hn C.ht C.hm) I.kIn J e (fun z => nomatch z) fun tk => ⟨.bl b, H, I.kept (t' := tk) fun _ _ z => z, rfl, q⟩
/-- e.f of such a value -/
def tEv (K : PySem.W.Frag) (f : Str) (te : TE) : TE := fun σ H Q => te σ H fun x H1 => ∃ (a D d : Addr) (fs : List (Str × V)) (v : V), x = .ref a ∧ EvAt H1 a D d fs ∧ XfC K D ∧ PySem.W.findIn K (.ref D) f = some none ∧ fs.lookup f = some v ∧ Q v H1
theorem pe_ev {X : Cx} {e : Expr} {te : TE} {pos : Pos} {n : Str} (he : PE X e te) (hb : attributeBase e n X.env (eval e X.env) = eval e X.env := by rfl) : PE X (.Attribute e n pos) (tEv X.K n te) := by
  refine ⟨fun pins s σ H Q I h => attr_of hb (thn (he.run pins s σ H _ I h) fun u s1 hh => ?_)⟩
  obtain ⟨x, H1, I1, rx, a, D, d, fs, v, rfl, E, T, no, l, q⟩ := hh
  obtain rfl := (show u = Value.ref a from rx)
  obtain ⟨⟨ob, ws, h1, h2, h3⟩, mA, hns, hr⟩ := E.there I1
  obtain ⟨od, hod, hlk⟩ := lookIn_ns hns
  obtain ⟨u, hu, ru⟩ := RelO.some_of (v := v) (o := mA n) (l ▸ hr n)
  have J : PySem.W.InstAt s1.heap a ob D (some od) := ⟨h1, h2.1, by unfold PySem.W.notCls; rw [h3] <;> rfl, by rw [h2.2]; exact hod⟩
  exact HandSPX.exc_get I1.kIn J T.ga T.gg T.exC (PySem.W.findObj_own T.hdC no rfl (by rw [hlk, hu])) (handed_of ru) ⟨v, H1, I1.tok _, ru, q⟩
end Kx
/-! own exceptions are made: by place, by name. -/
namespace Kx
open PySem PySem.W PySem.Calls PyProof.Rows PySem.HandSPX
/-- what the written part holds of such a class -/
structure EvC (K : Frag) (C : Addr) : Prop where
  cls : ∃ (B newId initId : String) (up : List Value) (nm q : Str) (N : Addr) (bs bm : List Value) (sn : List Str) (sub : List Value) (ab : Bool) (col : Option Bool) (dd : Option Addr) (k0 k1 k2 k3 k5 : Option Value),
    ExcBaseFacts B newId initId up ∧ K.lookup C = some (excClassObj nm q C N bs bm true sn sub ab col dd k0 k1 k2 k3 k5 newId) ∧ (Value.ref C :: bm).contains (.type B) = true ∧ (Value.ref C :: bm).contains (.type "AttributeError") = false ∧ (Value.ref C :: bm).contains (.type "NameError") = false
  exC : subIn K (.ref C) (.type "BaseException") = some true
  tyC : typeIn K (.ref C) = some (.type "type")
  kC : keepIn K (.ref C) = true
section
variable {h : Heap} {g : Array GenState} {d : Drawn} {t : Nat} {os : OsState} {prog : Program} {w : World} {A : Around} {R : Result → Shared → Prop} {E : Value → Shared → Prop}
variable {B newId initId : String} {up : List Value} {nm q : Str} {C N : Addr} {bs bm : List Value} {sn : List Str} {sub : List Value} {ab : Bool} {col : Option Bool} {dd : Option Addr} {k0 k1 k2 k3 k5 : Option Value} {more : List Value} {kw : List (Str × Value)}
theorem ev_check {M : Model} {Q : Unit → Shared → Prop} (F : ExcBaseFacts B newId initId up) (stands : h.get? C = some (excClassObj nm q C N bs bm true sn sub ab col dd k0 k1 k2 k3 k5 newId)) (isB : (Value.ref C :: bm).contains (.type B) = true) (done : Q () ⟨h, g, d, t, os⟩) :
    wpAny M A (checkBuiltinCall newId ⟨.ref C :: more, kw⟩) Q E ⟨h, g, d, t, os⟩ := by
  have short := F.noStar
  simp only [checkBuiltinCall, F.newSplit, F.newKind, F.newRow]
  repeat (first
    | refine wpAny_loadPart_at stands ?_
    | (refine wpAny_isSubtype_exc stands ?_; rw [isB])
    | refine wpAny_staticBase_exc stands ?_
    | refine wpAny_madeBy_exc stands ?_
    | simp only [bne_self_eq_false, Bool.false_eq_true, if_false]
    | wp_step)
  exact done
theorem ev_new (F : ExcBaseFacts B newId initId up) (stands : h.get? C = some (excClassObj nm q C N bs bm true sn sub ab col dd k0 k1 k2 k3 k5 newId)) (isB : (Value.ref C :: bm).contains (.type B) = true) (noA : (Value.ref C :: bm).contains (.type "AttributeError") = false) (noN : (Value.ref C :: bm).contains (.type "NameError") = false)
    (fits : more.length ≤ sizeLine) (done : R (.ok (.ret (.ref (h.objs.size + 1)))) ⟨(h.push (kdv_tup more)).push (excO C h.objs.size), g, d, t, os⟩) : codeAny (model prog w) A (.builtin newId ⟨.ref C :: more, kw⟩) R ⟨h, g, d, t, os⟩ := by
  have ends := F.ends
  refine codeAny_builtinAt F.entry ?_; unfold Builtin.«BaseException.__new__»; refine PySem.wpAt_bind ?_
  show PySem.wpAt _ _ _ (stack >>= _) _ _ _
  refine PySem.wpAt_bind (PySem.wpAt_stack fun _ _ => PySem.wpAt_of_wpAny ?_)
  wp_walk
  refine PySem.wpAt_of_wpAny ?_
  rw [F.owner]
  repeat (first
    | with_reducible refine wpAny_madeHere_exc F.canon stands ?_
    | with_reducible refine wpAny_loadPart_at stands ?_
    | (with_reducible refine wpAny_isSubtype_exc stands ?_; first | rw [isB] | rw [noA] | rw [noN])
    | wp_step)
  show R _ _
  rw [Heap.size_push]
  exact done
theorem ev_called {fI : Addr} (F : ExcBaseFacts B newId initId up) (stands : h.get? C = some (excClassObj nm q C N bs bm true sn sub ab col dd k0 k1 k2 k3 k5 newId)) (isB : (Value.ref C :: bm).contains (.type B) = true) (noA : (Value.ref C :: bm).contains (.type "AttributeError") = false) (noN : (Value.ref C :: bm).contains (.type "NameError") = false)
    (hi : Looks (model prog w) h (typeLookup (.ref C) "__init__") (some (.ref fI))) (hb : ∀ self, Looks (model prog w) h (bindSpecial (.ref fI) self) (.ref fI, [self])) (fits : more.length ≤ sizeLine)
    (done : codeAny (model prog w) (A.under (.builtin "type.__call__" ⟨.ref C :: more, kw⟩)) (.call (.ref fI) ⟨.ref (h.objs.size + 1) :: more, kw⟩) (InitBack (h.objs.size + 1) R) ⟨(h.push (kdv_tup more)).push (excO C h.objs.size), g, d, t, os⟩) :
    codeAny (model prog w) A (.call (.ref C) ⟨more, kw⟩) R ⟨h, g, d, t, os⟩ := by
  have l1 := tc_lookup
  have l2 := tc_bind (.ref C)
  have isTy : (⟨h, g, d, t, os⟩ : Shared).TypeIs (.ref C) "type" := ⟨_, stands, rfl⟩
  have all : ∀ b o, h.get? b = some o → ((h.push (kdv_tup more)).push (excO C h.objs.size)).get? b = some o := fun b o z => Heap.get?_push_of_some _ (Heap.get?_push_of_some _ z)
  refine codeAny_of_tree ?_
  show wpAny _ _ (callAny (.ref C) _) _ _ _; repeat (any_goals (first | assumption | with_reducible refine wpAny_loadPart_at stands ?_ | wp_step))
  refine ⟨rfl, ?_⟩
  refine codeAny_call_builtin_at (Code.quiet_builtin _ (by decide +kernel)) entry_typeCall (wpAny_check_type_call_sub stands ?_)
  repeat (first | with_reducible refine wpAny_loadPart_at stands ?_ | with_reducible refine wpAny_madeBy_exc stands ?_ | wp_step)
  refine codeAny_call_builtin_code (Code.quiet_builtin _ F.quiet) (ev_check F stands isB (ev_new F stands isB noA noN fits ?_))
  show wpAny _ _ _ _ _ _
  have hC1 := all _ _ stands
  have made : ((h.push (kdv_tup more)).push (excO C h.objs.size)).get? (h.objs.size + 1) = some (excO C h.objs.size) := by heap_get
  have own : (Value.ref C :: bm).contains (.ref C) = true := by simp
  have i1 := hi.keeps all
  have b1 := (hb (.ref (h.objs.size + 1))).keeps all
  unfold isInstance
  repeat (first | with_reducible refine wpAny_loadPart_at made ?_ | wp_step)
  show wpAny _ _ (isSubtype (.ref C) (.ref C)) _ _ ⟨(h.push (kdv_tup more)).push (excO C h.objs.size), g, d, t, os⟩
  refine wpAny_isSubtype_exc hC1 ?_
  rw [own]
  repeat wp_step
  show wpAny _ _ (typeLookup (.ref C) _) _ _ _; refine i1.at (wpAny_holding (wpAny_bind (b1.at (wpAny_bind (wpAny_call (codeAny_mono done fun r s' z => ?_))))))
  match r, z with
  | .error _, z => exact z
  | .ok .next, z => exact z.elim
  | .ok .brk, z => exact z.elim
  | .ok .cont, z => exact z.elim
  | .ok (.ret _), ⟨e1, z⟩ =>
    subst e1
    first | (wp_walk; exact z) | exact wpAny_pure (wpAny_pure z)
end
end Kx
/-! own exceptions as values; raised, their context None. -/
namespace Kx
open L2 PySem PySem.Spec PyProof.Rows
theorem EvC.of {K : PySem.W.Frag} {C : Addr} (T : OexC K C) : EvC K C := by
  obtain ⟨nm, q, N, bs, bm, sn, sub, ab, col, dd, v0, v1, v2, v3, v5, hC, hbm⟩ := T.cls
  have has := fun Y => PySem.HandSPX.refsVE_contains Y bm hbm
  refine ⟨⟨_, _, _, _, nm, q, N, bs, bm, sn, sub, ab, col, dd, v0, v1, v2, v3, v5, F.excBase_ValueError, hC, ?_, ?_, ?_⟩, T.exC, T.tyC, T.kC⟩
  · rw [List.contains_cons, has, F.excBase_ValueError.hasB, Bool.or_true]
  · rw [List.contains_cons, has, F.excBase_ValueError.noAttr]
    rfl
  · rw [List.contains_cons, has, F.excBase_ValueError.noName]
    rfl
theorem EvC.ofKey {K : PySem.W.Frag} {C : Addr} (T : KeyC K C) : EvC K C := by
  obtain ⟨nm, q, N, bs, sn, sub, ab, col, dd, k0, k1, k2, k3, k5, hC⟩ := T.cls
  exact ⟨⟨_, _, _, _, nm, q, N, bs, keyTail, sn, sub, ab, col, dd, k0, k1, k2, k3, k5, F.excBase_LookupError, hC, in_tail (by decide +kernel), in_tail (by decide +kernel), in_tail (by decide +kernel)⟩, T.exC, T.tyC, T.kC⟩
/-- what a made one leaves: the state at the init's start, the init's end -/
def Born (X : Cx) (pins : List (Addr × Obj)) (σ : L2.St) (H : Hp) (C : Addr) (G : Addr → Hp → Prop) (s : Shared) (u : Value) (s' : Shared) : Prop :=
  ∃ (a : Addr) (h2 : Heap), u = .ref a ∧ s.heap.objs.size ≤ a ∧ H a = none ∧ (∀ b o, s.heap.get? b = some o → h2.get? b = some o) ∧ Inv X pins σ (upd H a (exo a C none)) { s with heap := h2 } ∧
    ∃ v, CE X.stack X.prog X.w (upd H a (exo a C none)) { s with heap := h2 } (fun y H2 => y = .non ∧ G a H2) v s'
section
variable {X : Cx} {pins : List (Addr × Obj)} {σ : L2.St} {H : Hp} {s : Shared} {C fI : Addr} {fd : FuncData} {ps ks : List Str} {sp : Sp} {k : Nat} {G : Addr → Hp → Prop}
theorem ev_run {us ws us2 : List Value} {vs2 : List V} (T : EvC X.K C) (iC : PySem.W.findIn X.K (.ref C) "__init__" = some (some (.ref fI))) (tI : PySem.W.typeIn X.K (.ref fI) = some (.type "function")) (F1 : FnOk X.prog X.w X.K X.mg X.base CX0 k fI fd ps sp) (hr : Room (k + 1) X.A) (I : Inv X pins σ H s)
    (hb : ∀ (s' : Shared) (a : Addr), X.K.In s'.heap → BindsTo s' fd ⟨.ref a :: us, ks.zip ws⟩ (ps.zip (.ref a :: us2))) (rel : Vals vs2 us2) (fits : us.length ≤ sizeLine)
    (h : ∀ a, H a = none → sp (.ref a :: vs2) (upd H a (exo a C none)) (fun y H2 => y = .non ∧ G a H2) (fun _ _ _ => False)) :
    wpAny (model X.prog X.w) X.A (call (.ref C) us (ks.zip ws)) (Born X pins σ H C G s) X.xe s := by
  obtain ⟨B, newId, initId, up, nm, q, N, bs, bm, sn, sub, ab, col, dd, k0, k1, k2, k3, k5, F, hC, isB, noA, noN⟩ := T.cls
  obtain ⟨hp, g, dr, tk, os⟩ := (s : Shared)
  have more : hp.objs.size ≤ hp.objs.size + 1 := Nat.le_succ _
  have hn : H (hp.objs.size + 1) = none := I.hok.fresh more
  have all : ∀ b o, hp.get? b = some o → ((hp.push (PySem.W.kdv_tup us)).push (PySem.HandSPX.excO C hp.objs.size)).get? b = some o := fun b o z => Heap.get?_push_of_some _ (Heap.get?_push_of_some _ z)
  have here : ((hp.push (PySem.W.kdv_tup us)).push (PySem.HandSPX.excO C hp.objs.size)).get? (hp.objs.size + 1) = some (PySem.HandSPX.excO C hp.objs.size) := by heap_get
  have J : Inv X pins σ (upd H (hp.objs.size + 1) (exo (hp.objs.size + 1) C none)) ⟨(hp.push (PySem.W.kdv_tup us)).push (PySem.HandSPX.excO C hp.objs.size), g, dr, tk, os⟩ :=
    I.laid (t' := tk) all more (exo_ok here)
  refine wpAny_call (ev_called F (I.kIn _ _ hC) isB noA noN (PySem.W.looks_findIn I.kIn iC) (fun self => PySem.W.bind_fn I.kIn self tI) fits
    (codeAny_mono (F1.run _ X.stack _ _ ⟨Value.ref (hp.objs.size + 1) :: us, ks.zip ws⟩ (Value.ref (hp.objs.size + 1) :: us2) _ _ (fun _ _ _ => False) (hr.make C us (ks.zip ws)) (J.env0.make C us (ks.zip ws)) (hb _ _ J.kIn) (show Vals (V.ref (hp.objs.size + 1) :: vs2) (Value.ref (hp.objs.size + 1) :: us2) from .cons rfl rel) (h _ hn)) fun r s' z => ?_))
  match r, z with
  | .error _, z => exact z.elim
  | .ok .next, z => exact z.elim
  | .ok .brk, z => exact z.elim
  | .ok .cont, z => exact z.elim
  | .ok (.ret u), z =>
    have rv : u = Value.none := by
      obtain ⟨v, H2, _, _, _, _, r, e, _⟩ := z
      subst e
      exact r
    exact ⟨rv, _, _, rfl, more, hn, all, J, _, z⟩
theorem Born.value {Q : VK} {u : Value} {s' : Shared} (b : Born X pins σ H C (fun a H2 => Q (.ref a) H2) s u s') : EP X pins σ Q u s' := by
  obtain ⟨a, h2, rfl, _, _, _, J, v, ce⟩ := b
  obtain ⟨y, H2, J2, _, _, q⟩ := J.after ce
  exact ⟨.ref a, H2, J2, rfl, q⟩
theorem Born.raised {Q : XK} {u : Value} {s' : Shared} (T : EvC X.K C) (I : Inv X pins σ H s)
    (b : Born X pins σ H C (fun a H2 => ∃ (d : Addr) (fs : List (Str × V)), H2 a = some (exo a C (some d)) ∧ H2 d = some (exd d fs) ∧ H d = none ∧ Q (.ref C) (some d) (upd (del H2 a) d (.xd fs))) s u s') : L2N.MkP X pins σ Q u s' := by
  obtain ⟨a, h2, rfl, ha, hn, all, J, v, ce⟩ := b
  obtain ⟨y, H2, os2, bare2, un2, hok2, rv, ev, d, fs, ea, ed, hd1, q⟩ := ce
  obtain ⟨hp, gz, dr, tk, os⟩ := s
  obtain ⟨h3, g3, d3, t3, os3⟩ := s'
  obtain ⟨t0, G, J2, kG, ge, hoe, na⟩ := mk_end0 (d2 := d3) (t2 := t3) I ha all un2 hok2 os2 bare2 ea ed hd1
  refine ⟨a, _, _, ⟨G, g3, d3, t3, os3⟩, _, .ref C, some d, rfl, J2, kG, ge, hoe, ⟨rfl, rfl, fun ws hw => ?_⟩, rfl, rfl, na, rfl, bare2, raises_own T.exC T.tyC, q⟩
  cases hw
  rfl
end
/-- C(e, ..): what the init is asked -/
def tBorn (C : Addr) (sp : Sp) (ta : TA) (P : Hp → Addr → Hp → (V → Hp → Prop) → Prop) : TE := fun σ H Q => ta σ H fun vs H1 => vs.length ≤ 1000 ∧ ∀ a, H1 a = none → sp (.ref a :: vs) (upd H1 a (exo a C none)) (fun y H2 => y = .non ∧ P H1 a H2 Q) (fun _ _ _ => False)
/-- C(e, ..) as a value -/
def tMkV (C : Addr) (sp : Sp) (ta : TA) : TE := fun σ H Q => ta σ H fun vs H1 => vs.length ≤ 1000 ∧ ∀ a, H1 a = none → sp (.ref a :: vs) (upd H1 a (exo a C none)) (fun y H2 => y = .non ∧ Q (.ref a) H2) (fun _ _ _ => False)
/-- C(k = e, ..) as a value -/
def tMkVK (C : Addr) (m : Nat) (sp : Sp) (gV : List V → List V) (tk : TA) : TE := fun σ H Q => tk σ H fun zs H1 => zs.length = m ∧ ∀ a, H1 a = none → sp (.ref a :: gV zs) (upd H1 a (exo a C none)) (fun y H2 => y = .non ∧ Q (.ref a) H2) (fun _ _ _ => False)
/-- C(e, ..), to be raised -/
def tMkN (C : Addr) (sp : Sp) (ta : TA) : L2.St → Hp → XK → Prop := fun σ H Q => ta σ H fun vs H1 => vs.length ≤ 1000 ∧ ∀ a, H1 a = none → sp (.ref a :: vs) (upd H1 a (exo a C none))
  (fun y H2 => y = .non ∧ ∃ (d : Addr) (fs : List (Str × V)), H2 a = some (exo a C (some d)) ∧ H2 d = some (exd d fs) ∧ H1 d = none ∧ Q (.ref C) (some d) (upd (del H2 a) d (.xd fs))) (fun _ _ _ => False)
section
variable {X : Cx} {C fI : Addr} {fd : FuncData} {ps ks : List Str} {sp : Sp} {k : Nat} {x : Str} {e : Expr} {es : List Expr} {kws : List Keyword} {ta tk : TA} {p pos : Pos}
theorem fits_of {vs : List V} {us : List Value} (r : Vals vs us) (h : vs.length ≤ 1000) : us.length ≤ sizeLine := by
  rw [← Paired.length r, sizeLine_eq]
  omega
theorem binds_all (hb : Binds X.K fd ps []) {us : List Value} (n : us.length + 1 = ps.length) (s' : Shared) (a : Addr) (z : X.K.In s'.heap) : BindsTo s' fd ⟨.ref a :: us, ([] : List Str).zip ([] : List Value)⟩ (ps.zip (.ref a :: us)) := by
  have b := hb s' (.ref a :: us) z (by rw [List.append_nil]; exact n)
  rw [List.append_nil] at b
  exact b
theorem pe_mkV (T : EvC X.K C) (iC : PySem.W.findIn X.K (.ref C) "__init__" = some (some (.ref fI))) (tI : PySem.W.typeIn X.K (.ref fI) = some (.type "function")) (F1 : FnOk X.prog X.w X.K X.mg X.base CX0 k fI fd ps sp) (hr : Room (k + 1) X.A) (hb : Binds X.K fd ps []) (hm : X.mg x = some (.ref C)) (ha : PA X (e :: es) ta) (hg : Gl X x := by rfl)
    (hdb : (x == ("__debug__" : Str)) = false := by decide) (he : starEach (e :: es) X.env = (false, eval e X.env) :: starEach es X.env := by rfl) (hpl : (backTo pos (starEach es X.env)).any (·.1) = false := by rfl) : PE X (.Call (.Name x p) (e :: es) [] pos) (tMkV C sp ta) := by
  refine ⟨fun pins s σ H Q I h => wpAny_Call_Name_kw (ld_glob I hg hm ?_ hdb)⟩
  refine PySem.W.callWith_K (h₀ := X.base) I.ok.mod.kin T.kC (thn (ha.run pos pins s σ H _ I h) fun us s1 ⟨vs, H1, I1, r1, hz, q⟩ => ⟨I1.kIn, ?_⟩) he hpl
  have n : us.length + 1 = ps.length := by
    have l1 := F1.len _ _ _ _ (q s1.heap.objs.size (I1.hok.fresh (Nat.le_refl _)))
    have l2 := Paired.length r1
    rw [List.length_cons] at l1
    omega
  exact wpAny_mono (ev_run (ks := []) (ws := []) (G := fun a H2 => Q (.ref a) H2) T iC tI F1 hr I1 (binds_all hb n) r1 (fits_of r1 hz) q) (fun _ _ z => z.value) fun _ _ z => z
theorem pe_mkVK {g : List Value → List Value} {gV : List V → List V} (T : EvC X.K C) (iC : PySem.W.findIn X.K (.ref C) "__init__" = some (some (.ref fI))) (tI : PySem.W.typeIn X.K (.ref fI) = some (.type "function")) (F1 : FnOk X.prog X.w X.K X.mg X.base CX0 k fI fd ps sp) (hr : Room (k + 1) X.A)
    (hb : ∀ (s' : Shared) (a : Addr) (ws : List Value), X.K.In s'.heap → ws.length = ks.length → BindsTo s' fd ⟨[.ref a], ks.zip ws⟩ (ps.zip (.ref a :: g ws))) (rel : ∀ {zs : List V} {ws : List Value}, Vals zs ws → Vals (gV zs) (g ws)) (hm : X.mg x = some (.ref C)) (hkw : PK X kws tk) (hg : Gl X x := by rfl)
    (hal : (backToKw pos (keywordEach kws X.env)).all (·.1.isSome) = true := by rfl) (hky : (backToKw pos (keywordEach kws X.env)).filterMap (·.1) = ks := by rfl) (hdb : (x == ("__debug__" : Str)) = false := by decide)
    (hnp : ((backTo pos (starEach [] X.env)).any (·.1) || (backToKw pos (keywordEach kws X.env)).any (·.1.isNone)) = false := by rfl) : PE X (.Call (.Name x p) [] kws pos) (tMkVK C ks.length sp gV tk) := by
  refine ⟨fun pins s σ H Q I h => wpAny_Call_Name_kw (ld_glob I hg hm ?_ hdb)⟩
  refine PySem.W.callWith_KW0 (h₀ := X.base) I.ok.mod.kin T.kC hal ?_ hnp
  refine thn (hkw.run pos pins s σ H _ I h) fun ws s2 ⟨zs, H2, I2, rz, l2, q⟩ => ⟨I2.kIn, ?_⟩
  rw [hky]
  exact wpAny_mono (ev_run (us := []) (G := fun a H3 => Q (.ref a) H3) T iC tI F1 hr I2 (fun s' a z => hb s' a ws z (rz.length.symm.trans l2)) (rel rz) (Nat.zero_le _) q) (fun _ _ z => z.value) fun _ _ z => z
theorem pmkN (T : EvC X.K C) (iC : PySem.W.findIn X.K (.ref C) "__init__" = some (some (.ref fI))) (tI : PySem.W.typeIn X.K (.ref fI) = some (.type "function")) (F1 : FnOk X.prog X.w X.K X.mg X.base CX0 k fI fd ps sp) (hr : Room (k + 1) X.A) (hb : Binds X.K fd ps []) (hm : X.mg x = some (.ref C)) (ha : PA X (e :: es) ta) (hg : Gl X x := by rfl)
    (hdb : (x == ("__debug__" : Str)) = false := by decide) (he : starEach (e :: es) X.env = (false, eval e X.env) :: starEach es X.env := by rfl) (hpl : (backTo pos (starEach es X.env)).any (·.1) = false := by rfl) : L2N.PMk X (.Call (.Name x p) (e :: es) [] pos) (tMkN C sp ta) := by
  intro pins s σ H Q I h
  refine wpAny_Call_Name_kw (ld_glob (X := X) I hg hm ?_ hdb)
  refine PySem.W.callWith_K (h₀ := X.base) I.ok.mod.kin T.kC (thn (ha.run pos pins s σ H _ I h) fun us s1 ⟨vs, H1, I1, r1, hz, q⟩ => ⟨I1.kIn, ?_⟩) he hpl
  have n : us.length + 1 = ps.length := by
    have l1 := F1.len _ _ _ _ (q s1.heap.objs.size (I1.hok.fresh (Nat.le_refl _)))
    have l2 := Paired.length r1
    rw [List.length_cons] at l1
    omega
  exact wpAny_mono (ev_run (ks := []) (ws := []) T iC tI F1 hr I1 (binds_all hb n) r1 (fits_of r1 hz) q) (fun _ _ z => z.raised T I1) fun _ _ z => z
end
end Kx
/-! own errors raised, their context None: of one field, over ValueError or KeyError; of three. -/
namespace Kx
open L2 PySem PySem.Spec PyProof.Rows
/-! ### self.f = v on an error over KeyError -/
section
variable {X : Cx} {pins : List (Addr × Obj)} {σ : L2.St} {H : Hp} {s : Shared} {a C dx : Addr} {f : Str} {y : V}
theorem inv_dict {h' : Heap} {t1 : Addr} {tk : Nat} {u : Value} (I : Inv X pins σ H s) (ha : H a = some (exo a C none)) (k : ∀ b o, b ≠ a → s.heap.get? b = some o → h'.get? b = some o) (dn : s.heap.objs.size ≤ dx) (dne : dx ≠ a)
    (hx : h'.get? a = some { cls := .ref C, dict := some dx, data := .fields #[.ref t1, .none, .none, .none, .bool false, .none] }) (hn : h'.Ns1 dx (fun z => if z = f then some u else none)) (ry : RelV y u) :
    H dx = none ∧ Inv X pins σ (upd (upd H dx (exd dx [(f, y)])) a (exo a C (some dx))) { s with heap := h', toks := tk } := by
  have free : H dx = none := I.hok.fresh dn
  have nd : ∀ {b : Addr} {o : Obj}, s.heap.get? b = some o → b ≠ dx := fun q => Nat.ne_of_lt (Nat.lt_of_lt_of_le (Heap.lt_size q) dn)
  have na : ∀ {b : Addr}, H b = none → b ≠ a := fun {b} n => by
    rintro rfl
    rw [ha] at n
    exact nomatch n
  have step : Un X.fs [] H (upd (upd H dx (exd dx [(f, y)])) a (exo a C (some dx))) s.heap h' := {
    keep := fun b ob q n _ _ => k b ob (na n) q
    slot := fun b ob q n _ _ => ⟨ob.slots, k b ob (na n) q⟩
    free := fun b ob q n _ => by rw [upd_ne (na n), upd_ne (nd q)]; exact n
    there := fun b o q _ => (Decidable.em (b = a)).elim (fun e => ⟨_, e ▸ hx⟩) fun e => ⟨o, k b o e q⟩
    tups := fun b xs q => by rw [upd_ne (at_ne ha q exo_tup), upd_ne (ne_of_none q free)]; exact q
    frzs := fun b o v q => by rw [upd_ne (at_ne ha q exo_frz), upd_ne (ne_of_none q free)]; exact q
    tbls := fun b ps q => ⟨#[], by rw [upd_ne (at_ne ha q exo_tbl), upd_ne (ne_of_none q free), q, Array.append_empty]⟩ }
  refine ⟨free, I.un (t' := tk) step fun b o q => ?_⟩
  by_cases ea : b = a
  · subst ea
    rw [upd_same] at q
    obtain rfl := Option.some.inj q
    exact exo_ok hx
  rw [upd_ne ea] at q
  by_cases ed : b = dx
  · subst ed
    rw [upd_same] at q
    obtain rfl := Option.some.inj q
    exact exd_ok hn (relO_put (fs := []) ry fun _ => True.intro)
  rw [upd_ne ed] at q
  refine (I.hok b o q).stay (fun c v hc z => k c v (hc.elim (fun e => e ▸ ea) fun hc => at_ne ha hc exo_own) z) (fun c hc => ?_) fun c xs hc => ?_
  · rw [upd_ne (at_ne ha hc exo_own), upd_ne (ne_of_none hc free)]
    exact hc
  · rw [upd_ne (at_ne ha hc exo_tup), upd_ne (ne_of_none hc free)]
    exact hc
end
/-- self.f = e -/
def tOstK (K : PySem.W.Frag) (f : Str) (to te : TE) : TS := fun D σ H => te σ H fun y H1 => to σ H1 fun x H2 => ∃ a C : Addr, x = .ref a ∧ KeyC K C ∧ PySem.W.findIn K (.ref C) f = some none ∧ H2 a = some (exo a C none) ∧
  ∀ dx, H2 dx = none → dx ≠ a → D.nx σ (upd (upd H2 dx (exd dx [(f, y)])) a (exo a C (some dx)))
theorem ps_ostK {X : Cx} {o e : Expr} {to te : TE} {f : Str} {p' pos : Pos} (ho : PE X o to) (he : PE X e te) (hs : swapsWith e (some (.Attribute o f p')) pos.line X.env = pure false := by rfl) : PS X (.Assign [.Attribute o f p'] e pos) (tOstK X.K f to te) := by
  refine ⟨fun pins s σ H D I h => plainObj_wpAny_Assign_Attribute (thn (he.run pins s σ H _ I h) fun v s1 ⟨y, H1, I1, r1, q1⟩ => thn (ho.run pins s1 σ H1 _ I1 q1) fun u s2 ⟨x, H2, I2, r2, a, C, ex, T, no, ha, q⟩ => ?_) hs⟩
  subst ex
  obtain rfl := (show u = Value.ref a from r2)
  obtain ⟨t1, hob⟩ := exo_at I2.hok ha
  obtain ⟨hp, gz, dr, tk, os⟩ := s2
  refine PySem.W.set_plain I2.kIn (ox := { cls := .ref C, dict := none, data := .fields #[.ref t1, .none, .none, .none, .bool false, .none] }) (od := none) ⟨hob, rfl, rfl, trivial⟩ T.sa (key_osa T I2.kIn hob no fun h' tk' dx k dn dne hx hn => ?_)
  obtain ⟨free, J⟩ := inv_dict (tk := tk') I2 ha k dn dne hx hn r1
  exact ⟨σ, _, J, q dx free dne⟩
theorem ok_keepK {P : Program} {w : World} {K : PySem.W.Frag} {mg : Str → Option Value} {base : Heap} {C fI : Addr} {fd : FuncData} {f qual : Str} {params : Arguments} {scope : Scope} {p1 p2 p3 p4 : Pos}
    (F : FunD K "__init__" qual params [.Assign [.Attribute (.Name "self" p1) f p2] (.Name f p3) p4] scope [] [] fI fd) (T : KeyC K C) (no : PySem.W.findIn K (.ref C) f = some none)
    (sc : FnScope ["self", f] ["self", f] scope) (hd : (f == ("__debug__" : Str)) = false) (hcd : (f == ("__classdict__" : Str)) = false) (l0 : scope.names.lookup ("self" : Str) = some .local) (l1 : scope.names.lookup f = some .local) :
    FnOk P w K mg base CX0 1 fI fd ["self", f] (spKeep K C f) := by
  refine F.ok sc (fun vs H Q E h => ?_) (fun cdv A outer s H vs Q E hr h => ?_)
  · obtain ⟨a, v, rfl, _⟩ := h
    rfl
  · obtain ⟨a, v, rfl, ha, k⟩ := h
    exact ⟨_, pss_one (ps_ostK (pe_var (i := 0) rfl (.inl l0)) (pe_var (i := 1) rfl (.inl l1) hd hcd)), _, rfl, _, rfl, a, C, rfl, T, no, ha, fun dx n1 n2 => k dx n1 n2⟩
/-! ### what the module holds of an error of one field, of whatever base -/
structure ErrN (P : Program) (w : World) (K : PySem.W.Frag) (mg : Str → Option Value) (base : Heap) (k : Nat) (x f : Str) (C : Addr) : Prop where
  at_ : mg x = some (.ref C)
  cls : EvC K C
  ini : ∃ (fI : Addr) (fd : FuncData), PySem.W.findIn K (.ref C) "__init__" = some (some (.ref fI)) ∧ PySem.W.typeIn K (.ref fI) = some (.type "function") ∧ Binds K fd ["self", f] [] ∧ FnOk P w K mg base CX0 k fI fd ["self", f] (spKeep K C f) ∧
    ∀ (s' : Shared) (a : Addr) (ws : List Value), K.In s'.heap → ws.length = 1 → BindsTo s' fd ⟨[.ref a], ([f] : List Str).zip ws⟩ ((["self", f] : List Str).zip (.ref a :: ws))
section
variable {X : Cx} {k j : Nat} {x f : Str} {C : Addr} {e : Expr} {ta : TA} {W : WX} {p pos p2 : Pos}
theorem psN (T : ErrN X.prog X.w X.K X.mg X.base k x f C) (hc : X.calm = true) (hr : Room j X.A) (tk : L2N.Takes X W) (ha : PA X [e] ta) (hk : k + 1 ≤ j := by decide) (hg : Gl X x := by rfl) (hdb : (x == ("__debug__" : Str)) = false := by decide)
    (he : starEach (e :: []) X.env = (false, eval e X.env) :: starEach [] X.env := by rfl) (hpl : (backTo pos (starEach [] X.env)).any (·.1) = false := by rfl) :
    PS X (.Raise (some (.Call (.Name x p) [e] [] pos)) none p2) (fun _ σ H => tMkN C (spKeep X.K C f) ta σ H fun cls d H' => W cls d σ H') := by
  obtain ⟨fI, fd, h1, h2, h3, h4, _⟩ := T.ini
  exact L2N.ps_raise hc tk (pmkN T.cls h1 h2 h4 (hr.mono hk) h3 T.at_ ha hg hdb he hpl)
/-- C(e) as a value -/
theorem peV (T : ErrN X.prog X.w X.K X.mg X.base k x f C) (hr : Room j X.A) (ha : PA X [e] ta) (hk : k + 1 ≤ j := by decide) (hg : Gl X x := by rfl) (hdb : (x == ("__debug__" : Str)) = false := by decide)
    (he : starEach (e :: []) X.env = (false, eval e X.env) :: starEach [] X.env := by rfl) (hpl : (backTo pos (starEach [] X.env)).any (·.1) = false := by rfl) : PE X (.Call (.Name x p) [e] [] pos) (tMkV C (spKeep X.K C f) ta) := by
  obtain ⟨fI, fd, h1, h2, h3, h4, _⟩ := T.ini
  exact pe_mkV T.cls h1 h2 h4 (hr.mono hk) h3 T.at_ ha hg hdb he hpl
/-- C(f = e) as a value -/
theorem peVK {kws : List Keyword} {tk : TA} (T : ErrN X.prog X.w X.K X.mg X.base k x f C) (hr : Room j X.A) (hkw : PK X kws tk) (hk : k + 1 ≤ j := by decide) (hg : Gl X x := by rfl)
    (hal : (backToKw pos (keywordEach kws X.env)).all (·.1.isSome) = true := by rfl) (hky : (backToKw pos (keywordEach kws X.env)).filterMap (·.1) = [f] := by rfl) (hdb : (x == ("__debug__" : Str)) = false := by decide)
    (hnp : ((backTo pos (starEach [] X.env)).any (·.1) || (backToKw pos (keywordEach kws X.env)).any (·.1.isNone)) = false := by rfl) : PE X (.Call (.Name x p) [] kws pos) (tMkVK C 1 (spKeep X.K C f) id tk) := by
  obtain ⟨fI, fd, h1, h2, h3, h4, h5⟩ := T.ini
  exact pe_mkVK (g := id) (gV := id) (ks := [f]) T.cls h1 h2 h4 (hr.mono hk) h5 (fun r => r) T.at_ hkw hg hal hky hdb hnp
end
/-- a made value: what stands there -/
theorem made {K : PySem.W.Frag} {C : Addr} {f : Str} {v : V} {H : Hp} {Q : VK} (h : ∀ a d H', Same H H' → EvAt H' a C d [(f, v)] → Q (.ref a) H') :
    [v].length ≤ 1000 ∧ ∀ a, H a = none → spKeep K C f (.ref a :: [v]) (upd H a (exo a C none)) (fun y H2 => y = .non ∧ Q (.ref a) H2) (fun _ _ _ => False) := by
  refine ⟨Nat.succ_le_of_lt (by simp), fun a ha => ⟨a, v, rfl, upd_same, fun d hd ne => ⟨rfl, ?_⟩⟩⟩
  rw [upd_ne ne] at hd
  refine h a d _ (fun b o q => ?_) (exo_ev upd_same (by rw [upd_ne ne, upd_same]))
  have e1 := ne_of_none q ha
  rw [upd_ne e1, upd_ne (ne_of_none q hd), upd_ne e1]
  exact q
theorem madeK {K : PySem.W.Frag} {C : Addr} {f : Str} {v : V} {H : Hp} {Q : VK} (h : ∀ a d H', Same H H' → EvAt H' a C d [(f, v)] → Q (.ref a) H') :
    [v].length = 1 ∧ ∀ a, H a = none → spKeep K C f (.ref a :: id [v]) (upd H a (exo a C none)) (fun y H2 => y = .non ∧ Q (.ref a) H2) (fun _ _ _ => False) := ⟨rfl, (made h).2⟩
/-- raised -/
theorem thrownN {K : PySem.W.Frag} {C : Addr} {f : Str} {v : V} {H : Hp} {R : XK} (h : ∀ d, H d = none → R (.ref C) (some d) (upd H d (.xd [(f, v)]))) :
    [v].length ≤ 1000 ∧ ∀ a, H a = none → spKeep K C f (.ref a :: [v]) (upd H a (exo a C none))
      (fun y H2 => y = .non ∧ ∃ (d : Addr) (fs : List (Str × V)), H2 a = some (exo a C (some d)) ∧ H2 d = some (exd d fs) ∧ H d = none ∧ R (.ref C) (some d) (upd (del H2 a) d (.xd fs))) (fun _ _ _ => False) := thrown h
end Kx
/-! an own error of three fields. -/
namespace Kx
open L2 PySem PySem.Spec PyProof.Rows
def spKeep3 (K : PySem.W.Frag) (C : Addr) (f g h : Str) : Sp := fun vs H Q _ => ∃ (a : Addr) (x y z : V), vs = [.ref a, x, y, z] ∧ H a = some (exo a C none) ∧
  ∀ d H2, H d = none → d ≠ a → (∀ b, b ≠ a → b ≠ d → H2 b = H b) → H2 a = some (exo a C (some d)) → H2 d = some (exd d [(h, z), (g, y), (f, x)]) → Q .non H2
theorem ok_keep3 {P : Program} {w : World} {K : PySem.W.Frag} {mg : Str → Option Value} {base : Heap} {C fI : Addr} {fd : FuncData} {f g h qual : Str} {params : Arguments} {scope : Scope} {p1 p2 p3 p4 q1 q2 q3 q4 r1 r2 r3 r4 : Pos}
    (F : FunD K "__init__" qual params [.Assign [.Attribute (.Name "self" p1) f p2] (.Name f p3) p4, .Assign [.Attribute (.Name "self" q1) g q2] (.Name g q3) q4, .Assign [.Attribute (.Name "self" r1) h r2] (.Name h r3) r4] scope [] [] fI fd)
    (T : OexC K C) (nf : PySem.W.findIn K (.ref C) f = some none) (ng : PySem.W.findIn K (.ref C) g = some none) (nh : PySem.W.findIn K (.ref C) h = some none)
    (sc : FnScope ["self", f, g, h] ["self", f, g, h] scope) (df : (f == ("__debug__" : Str)) = false) (cf : (f == ("__classdict__" : Str)) = false) (dg : (g == ("__debug__" : Str)) = false) (cg : (g == ("__classdict__" : Str)) = false) (dh : (h == ("__debug__" : Str)) = false) (ch : (h == ("__classdict__" : Str)) = false)
    (l0 : scope.names.lookup ("self" : Str) = some .local) (lf : scope.names.lookup f = some .local) (lg : scope.names.lookup g = some .local) (lh : scope.names.lookup h = some .local) : FnOk P w K mg base CX0 1 fI fd ["self", f, g, h] (spKeep3 K C f g h) := by
  refine F.ok sc (fun vs H Q E z => ?_) (fun cdv A outer s H vs Q E hr z => ?_)
  · obtain ⟨a, x, y, z, rfl, _⟩ := z
    rfl
  · obtain ⟨a, x, y, z, rfl, ha, k⟩ := z
    refine ⟨_, pss_cons (ps_ost (pe_var (i := 0) rfl (.inl l0)) (pe_var (i := 1) rfl (.inl lf) df cf)) (pss_cons (ps_ost (pe_var (i := 0) rfl (.inl l0)) (pe_var (i := 2) rfl (.inl lg) dg cg)) (pss_one (ps_ost (pe_var (i := 0) rfl (.inl l0)) (pe_var (i := 3) rfl (.inl lh) dh ch)))), ?_⟩
    refine ⟨_, rfl, _, rfl, a, C, rfl, T, nf, .inl ⟨ha, fun d n1 n2 => ?_⟩⟩
    have a1 : upd (upd H d (exd d [(f, x)])) a (exo a C (some d)) a = some (exo a C (some d)) := upd_same
    have d1 : upd (upd H d (exd d [(f, x)])) a (exo a C (some d)) d = some (exd d [(f, x)]) := by rw [upd_ne n2, upd_same]
    refine ⟨_, rfl, _, rfl, a, C, rfl, T, ng, .inr ⟨d, _, a1, d1, by simp, ?_⟩⟩
    have a2 : upd (upd (upd H d (exd d [(f, x)])) a (exo a C (some d))) d (exd d [(g, y), (f, x)]) a = some (exo a C (some d)) := by rw [upd_ne (Ne.symm n2)]; exact a1
    refine ⟨_, rfl, _, rfl, a, C, rfl, T, nh, .inr ⟨d, _, a2, upd_same, by simp, ?_⟩⟩
    exact k d _ n1 n2 (fun b e1 e2 => by rw [upd_ne e2, upd_ne e2, upd_ne e1, upd_ne e2]) (by rw [upd_ne (Ne.symm n2)]; exact a2) upd_same
structure ErrF (P : Program) (w : World) (K : PySem.W.Frag) (mg : Str → Option Value) (base : Heap) (k : Nat) (x f g h : Str) (C : Addr) : Prop where
  at_ : mg x = some (.ref C)
  cls : OexC K C
  ini : ∃ (fI : Addr) (fd : FuncData), PySem.W.findIn K (.ref C) "__init__" = some (some (.ref fI)) ∧ PySem.W.typeIn K (.ref fI) = some (.type "function") ∧ Binds K fd ["self", f, g, h] [] ∧ FnOk P w K mg base CX0 k fI fd ["self", f, g, h] (spKeep3 K C f g h) ∧
    ∀ (s' : Shared) (a : Addr) (ws : List Value), K.In s'.heap → ws.length = 3 → BindsTo s' fd ⟨[.ref a], ([h, f, g] : List Str).zip ws⟩ ((["self", f, g, h] : List Str).zip (.ref a :: [ws.getD 1 .none, ws.getD 2 .none, ws.getD 0 .none]))
theorem made3 {K : PySem.W.Frag} {C : Addr} {f g h : Str} {x y z : V} {H : Hp} {Q : VK} (q : ∀ a d H', Same H H' → EvAt H' a C d [(h, z), (g, y), (f, x)] → Q (.ref a) H') :
    [x, y, z].length ≤ 1000 ∧ ∀ a, H a = none → spKeep3 K C f g h (.ref a :: [x, y, z]) (upd H a (exo a C none)) (fun u H2 => u = .non ∧ Q (.ref a) H2) (fun _ _ _ => False) := by
  refine ⟨by simp, fun a ha => ⟨a, x, y, z, rfl, upd_same, fun d H2 hd ne keep h1 h2 => ⟨rfl, q a d H2 (fun b o e => ?_) (exo_ev h1 h2)⟩⟩⟩
  rw [upd_ne ne] at hd
  have e1 := ne_of_none e ha
  rw [keep b e1 (ne_of_none e hd), upd_ne e1]
  exact e
theorem made3K {K : PySem.W.Frag} {C : Addr} {f g h : Str} {x y z : V} {H : Hp} {Q : VK} (q : ∀ a d H', Same H H' → EvAt H' a C d [(h, z), (g, y), (f, x)] → Q (.ref a) H') :
    [z, x, y].length = 3 ∧ ∀ a, H a = none → spKeep3 K C f g h (.ref a :: [[z, x, y].getD 1 .non, [z, x, y].getD 2 .non, [z, x, y].getD 0 .non]) (upd H a (exo a C none)) (fun u H2 => u = .non ∧ Q (.ref a) H2) (fun _ _ _ => False) := ⟨rfl, (made3 q).2⟩
theorem thrown3 {K : PySem.W.Frag} {C : Addr} {f g h : Str} {x y z : V} {H : Hp} {R : XK} (q : ∀ d, H d = none → R (.ref C) (some d) (upd H d (.xd [(h, z), (g, y), (f, x)]))) :
    [x, y, z].length ≤ 1000 ∧ ∀ a, H a = none → spKeep3 K C f g h (.ref a :: [x, y, z]) (upd H a (exo a C none))
      (fun u H2 => u = .non ∧ ∃ (d : Addr) (fs : List (Str × V)), H2 a = some (exo a C (some d)) ∧ H2 d = some (exd d fs) ∧ H d = none ∧ R (.ref C) (some d) (upd (del H2 a) d (.xd fs))) (fun _ _ _ => False) := by
  refine ⟨by simp, fun a ha => ⟨a, x, y, z, rfl, upd_same, fun d H2 hd ne keep h1 h2 => ⟨rfl, d, _, h1, h2, ?_, ?_⟩⟩⟩
  · rwa [upd_ne ne] at hd
  · have hd : H d = none := by rwa [upd_ne ne] at hd
    have e : upd (del H2 a) d (.xd [(h, z), (g, y), (f, x)]) = upd H d (.xd [(h, z), (g, y), (f, x)]) := by
      funext b
      by_cases e1 : b = d
      · rw [e1, upd_same, upd_same]
      · rw [upd_ne e1, upd_ne e1]
        by_cases e2 : b = a
        · rw [e2, del_same, ha]
        · rw [del_ne e2, keep b e2 e1, upd_ne e2]
    rw [e]
    exact q d hd
section
variable {X : Cx} {k j : Nat} {x f g h : Str} {C : Addr} {e : Expr} {es : List Expr} {ta : TA} {W : WX} {p pos p2 : Pos}
theorem psF (T : ErrF X.prog X.w X.K X.mg X.base k x f g h C) (hc : X.calm = true) (hr : Room j X.A) (tk : L2N.Takes X W) (ha : PA X (e :: es) ta) (hk : k + 1 ≤ j := by decide) (hg : Gl X x := by rfl) (hdb : (x == ("__debug__" : Str)) = false := by decide)
    (hz : starEach (e :: es) X.env = (false, eval e X.env) :: starEach es X.env := by rfl) (hpl : (backTo pos (starEach es X.env)).any (·.1) = false := by rfl) :
    PS X (.Raise (some (.Call (.Name x p) (e :: es) [] pos)) none p2) (fun _ σ H => tMkN C (spKeep3 X.K C f g h) ta σ H fun cls d H' => W cls d σ H') := by
  obtain ⟨fI, fd, h1, h2, h3, h4, _⟩ := T.ini
  exact L2N.ps_raise hc tk (pmkN (.of T.cls) h1 h2 h4 (hr.mono hk) h3 T.at_ ha hg hdb hz hpl)
theorem peF (T : ErrF X.prog X.w X.K X.mg X.base k x f g h C) (hr : Room j X.A) (ha : PA X (e :: es) ta) (hk : k + 1 ≤ j := by decide) (hg : Gl X x := by rfl) (hdb : (x == ("__debug__" : Str)) = false := by decide)
    (he : starEach (e :: es) X.env = (false, eval e X.env) :: starEach es X.env := by rfl) (hpl : (backTo pos (starEach es X.env)).any (·.1) = false := by rfl) : PE X (.Call (.Name x p) (e :: es) [] pos) (tMkV C (spKeep3 X.K C f g h) ta) := by
  obtain ⟨fI, fd, h1, h2, h3, h4, _⟩ := T.ini
  exact pe_mkV (.of T.cls) h1 h2 h4 (hr.mono hk) h3 T.at_ ha hg hdb he hpl
theorem vals_get {zs : List V} {ws : List Value} (r : Vals zs ws) (i : Nat) : RelV (zs.getD i .non) (ws.getD i .none) := by
  induction r generalizing i with
  | nil => exact rfl
  | cons h _ ih => cases i with
    | zero => exact h
    | succ i => exact ih i
/-- C(h = .., f = .., g = ..) as a value -/
theorem peFK {kws : List Keyword} {tk : TA} (T : ErrF X.prog X.w X.K X.mg X.base k x f g h C) (hr : Room j X.A) (hkw : PK X kws tk) (hk : k + 1 ≤ j := by decide) (hg : Gl X x := by rfl)
    (hal : (backToKw pos (keywordEach kws X.env)).all (·.1.isSome) = true := by rfl) (hky : (backToKw pos (keywordEach kws X.env)).filterMap (·.1) = [h, f, g] := by rfl) (hdb : (x == ("__debug__" : Str)) = false := by decide)
    (hnp : ((backTo pos (starEach [] X.env)).any (·.1) || (backToKw pos (keywordEach kws X.env)).any (·.1.isNone)) = false := by rfl) : PE X (.Call (.Name x p) [] kws pos) (tMkVK C 3 (spKeep3 X.K C f g h) (fun zs => [zs.getD 1 .non, zs.getD 2 .non, zs.getD 0 .non]) tk) := by
  obtain ⟨fI, fd, h1, h2, h3, h4, h5⟩ := T.ini
  exact pe_mkVK (g := fun ws => [ws.getD 1 .none, ws.getD 2 .none, ws.getD 0 .none]) (gV := fun zs => [zs.getD 1 .non, zs.getD 2 .non, zs.getD 0 .non]) (ks := [h, f, g]) (.of T.cls) h1 h2 h4 (hr.mono hk) h5 (fun r => .cons (vals_get r 1) (.cons (vals_get r 2) (.cons (vals_get r 0) .nil))) T.at_ hkw hg hal hky hdb hnp
end
end Kx
/-! lambdas held as values, called where they were made; their errors' context None. -/
namespace Kx
open L2 PySem PySem.Spec PyProof.Rows LamX
/-- the function object at f is ob -/
abbrev LamO (f : Addr) (ob : Obj) : HO := .ext fun h => h.get? f = some ob
theorem lamO_ok {P : Program} {w : World} {H : Hp} {h : Heap} {f : Addr} {ob : Obj} (e : h.get? f = some ob) : ObjOk P w H h f (LamO f ob) := ⟨e, ⟨ob, e⟩, fun h1 h2 z k => k _ z⟩
abbrev lamOb (X : Cx) (params : Arguments) (body : Expr) (scope : Scope) (pm : Value) (c' : Addr) (ctv : Value) : Obj := PySem.W.kla_obj "<lambda>" (X.env.qual ++ "<lambda>") params body scope (cloFrom X.env.cells scope.names []) pm c' ctv
/-- lambda: body, as a value -/
def tLamV (X : Cx) (T : List (Addr × Str)) (params : Arguments) (body : Expr) (scope : Scope) : TE := fun σ H Q => Tabs T H ∧ ∀ (f c' : Addr) (pm ctv : Value) (H1 : Hp), ExtN H H1 → Tabs T H1 → H f = none → H1 f = none → H1 c' = some (CodeO c' (X.env.qual ++ "<lambda>")) →
  Q (.ref f) (upd H1 f (LamO f (lamOb X params body scope pm c' ctv)))
section
variable {X : Cx}
theorem pe_lamV {T : List (Addr × Str)} {c P : Addr} {params : Arguments} {body : Expr} {scope : Scope} {pos : Pos} (TB : TabB X.base X.mg c P) (code : X.env.code = .ref c) (mem : (P, X.env.qual ++ "<lambda>") ∈ T) (only : ∀ p ∈ T, p.1 = P → p.2 = X.env.qual ++ "<lambda>")
    (hdef : defaultsOf params X.env = ([], [])) (L : LamS X.env.scope scope) : PE X (.Lambda params body scope pos) (tLamV X T params body scope) := by
  refine ⟨fun pins s σ H Q I asked => ?_⟩
  obtain ⟨hT, h⟩ := asked
  obtain ⟨ps, hP, trip, among⟩ := hT _ mem
  have free := L.has I.ok
  have here : s.heap.get? P = some { cls := .none, data := .fields ps } := I.hok P _ hP
  refine PySem.W.kla_eval hdef ?_; cases hc : codeAmong pos ps.toList with
  | some cv =>
    obtain ⟨c', rfl, old⟩ := among pos cv hc
    refine PySem.W.kla_makeFunctionHit (mg := X.mg) (c := c) (P := P) (ps := ps) (closure_ok free) I.ok.glob (I.mod.glob.keeps I.bk) code (TB.code.keeps I.bk) here trip hc (TB.bm.keeps I.bk) fun ctv h' tk all wide => ?_
    have J : Inv X pins σ H { s with heap := h', toks := tk } := I.kept all
    have J2 := J.laid (t' := tk) (a := h'.objs.size) (o := LamO h'.objs.size (lamOb X params body scope ((X.mg "__name__").getD .none) c' ctv)) (h' := h'.push (lamOb X params body scope ((X.mg "__name__").getD .none) c' ctv)) (fun b o e => Heap.get?_push_of_some _ e) (Nat.le_refl _) (lamO_ok (Heap.get?_push_size _ rfl))
    exact ⟨V.ref h'.objs.size, _, J2, rfl, h h'.objs.size c' _ ctv H (ExtN.refl H) hT (I.hok.fresh wide) (I.hok.fresh wide) old⟩
  | none =>
    refine PySem.W.kla_makeFunction (mg := X.mg) (c := c) (P := P) (ps := ps) (closure_ok free) I.ok.glob (I.mod.glob.keeps I.bk) code (TB.code.keeps I.bk) here trip hc TB.gP (TB.bm.keeps I.bk) fun c' ctv h' tk all ge lt rec_ tb => ?_
    obtain ⟨c2, oc, vs, t, e2, hoc, hd, hv⟩ := rec_
    cases e2
    have wide : s.heap.objs.size ≤ h'.objs.size := Nat.le_trans ge (Nat.le_of_lt lt)
    have nC : H c' = none := I.hok.fresh ge
    have J := inv_table (t' := tk) (more := #[rawInt pos.line, rawInt pos.col, .ref c']) I hP all tb ge ⟨oc, vs, t, hoc, hd, hv⟩
    have J2 := J.laid (t' := tk) (a := h'.objs.size) (o := LamO h'.objs.size (lamOb X params body scope ((X.mg "__name__").getD .none) c' ctv)) (h' := h'.push (lamOb X params body scope ((X.mg "__name__").getD .none) c' ctv)) (fun b o e => Heap.get?_push_of_some _ e) (Nat.le_refl _) (lamO_ok (Heap.get?_push_size _ rfl))
    have ext : ExtN H (upd (upd H P (.tbl (ps ++ #[rawInt pos.line, rawInt pos.col, .ref c']))) c' (CodeO c' (X.env.qual ++ "<lambda>"))) := fun b o e n => by
      have ne : b ≠ P := fun z => n ps (Option.some.inj (e.symm.trans (z ▸ hP)))
      rw [upd_ne (ne_of_none e nC), upd_ne ne]
      exact e
    have eL : (ps ++ #[rawInt pos.line, rawInt pos.col, Value.ref c']).toList = ps.toList ++ [rawInt pos.line, rawInt pos.col, Value.ref c'] := by simp
    refine ⟨V.ref h'.objs.size, _, J2, rfl, h h'.objs.size c' _ ctv _ ext (fun p hp => ?_) (I.hok.fresh wide) (J.hok.fresh (Nat.le_refl _)) upd_same⟩
    by_cases hb : p.1 = P
    · rw [only p hp hb, hb]
      refine ⟨_, (upd_ne (ne_of_none hP nC)).trans upd_same, eL ▸ PySem.TriplesOk_snoc _ _ _ _ trip, fun p' cv hcv => ?_⟩
      rw [eL] at hcv
      rcases among_app _ trip hcv with z | z
      · obtain ⟨c0, e1, e2⟩ := among p' cv z
        exact ⟨c0, e1, ext _ _ e2 codeO_ne⟩
      · exact ⟨c', z, upd_same⟩
    · obtain ⟨qs, a1, a2, a3⟩ := hT p hp
      refine ⟨qs, ((upd_ne (ne_of_none a1 nC)).trans (upd_ne hb)).trans a1, a2, fun p' cv hcv => ?_⟩
      obtain ⟨c0, e1, e2⟩ := (a3 p' cv hcv)
      exact ⟨c0, e1, ext _ _ e2 codeO_ne⟩
/-- the context of a lambda's body: errors' context None -/
abbrev lamCxN (X : Cx) (A : Around) (outer : List Env) (s : Shared) (H : Hp) (E : XK) (scope : Scope) (f c' : Addr) : Cx :=
  { lamCx X A outer s H E scope f c' with xe := fun e s' => wpAny (model X.prog X.w) (A.deeper (lamEnv X scope s.heap.objs.size f c')) (leaving (lamEnv X scope s.heap.objs.size f c') e) (fun _ s'' => L2N.CX X.prog X.w outer H s E e s'') (fun e' s'' => L2N.CX X.prog X.w outer H s E e' s'') s' }
/-- g() with g one of several lambdas -/
theorem pe_lamGo {ι : Type} {e : Expr} {te : TE} {pos : Pos} {k : Nat} {E : XK} (ps : ι → Arguments) (bs : ι → Expr) (ss : ι → Scope) (tb : ι → TE) (he : PE X e te) (hr : Room (k + 1) X.A) (hL : ∀ i, LamS X.env.scope (ss i)) (hx : Passes (L2N.CX X.prog X.w) X E)
    (hbind : ∀ i (q : Str) (cl : List (Str × Addr)) (pm cv ctv : Value), bindArgs (PySem.W.kla_fn "<lambda>" q (ps i) (bs i) (ss i) cl pm cv ctv) ⟨[], []⟩ = pure [])
    (hbody : ∀ i (A : Around) (outer : List Env) (s : Shared) (H : Hp) (f c' : Addr), Room k (A.deeper (lamEnv X (ss i) s.heap.objs.size f c')) → PE (lamCxN X A outer s H E (ss i) f c') (bs i) (tb i))
    (hc : eval (.Call e [] [] pos) X.env = (do callWith pos (← eval e X.env) [] (backTo pos (starEach [] X.env)) (backToKw pos (keywordEach [] X.env))) := by rfl) :
    PE X (.Call e [] [] pos) (fun σ H Q => te σ H fun v H1 => ∃ (i : ι) (f c' : Addr) (pm ctv : Value), v = .ref f ∧ H1 f = some (LamO f (lamOb X (ps i) (bs i) (ss i) pm c' ctv)) ∧ H1 c' = some (CodeO c' (X.env.qual ++ "<lambda>")) ∧ tb i σ H1 Q) := by
  refine ⟨fun pins s σ H Q I asked => ?_⟩
  rw [hc]
  refine wpAny_bind (thn (he.run pins s σ H _ I asked) fun u s1 ⟨v, H1, J, rv, i, f, c', pm, ctv, ev, hf, hco, q⟩ => ?_)
  subst ev
  obtain rfl := (show u = Value.ref f from rv)
  have here : s1.heap.get? f = some (lamOb X (ps i) (bs i) (ss i) pm c' ctv) := (show ObjOk X.prog X.w H1 s1.heap f (LamO f _) from J.hok f _ hf).1
  refine PySem.W.callWith_F0 ⟨_, _, _, _, here⟩ ?_
  obtain ⟨⟨oc, vs, t, hoc, hdc, hvc⟩, -, -⟩ := (show ObjOk X.prog X.w H1 s1.heap c' (CodeO c' (X.env.qual ++ "<lambda>")) from J.hok c' _ hco)
  have L := hL i
  have rc : codeAny (model X.prog X.w) X.A (.call (.ref f) ⟨[], []⟩) (CR (L2N.CX X.prog X.w) X.stack X.prog X.w H1 s1 Q E) s1 := by
    refine PySem.W.kla_callFunE hr.depth here rfl L.co L.gen rfl ⟨c', oc, vs, t, rfl, hoc, hdc, hvc⟩ ?_
    rw [hbind]
    refine wpAny_pure (wpAny_newFunctionEnv (fun y hy => (L.own y hy).2) (fun y hy => absurd hy (by simp)) (fun h1 ns but => ⟨J.nolimit.fresh _ but, ?_⟩) L.kind)
    show codeAny _ _ (.expr (bs i) (lamEnv X (ss i) s1.heap.objs.size f c')) _ _
    have kp : ∀ b o, s1.heap.get? b = some o → h1.get? b = some o := fun b o z => but.extBut b o (Nat.ne_of_lt (Heap.lt_size z)) (Heap.get?_push_of_some _ z)
    have K0 : Inv (lamCx X X.A X.stack s1 H1 E (ss i) f c') [] σ H1 { s1 with heap := h1, toks := s1.toks + ([] : List (Str × Value)).length } := lam_start2 J L J.env0 hr.hd Un.refl ns kp
    have K1 : Inv (lamCxN X X.A X.stack s1 H1 E (ss i) f c') [] σ H1 { s1 with heap := h1, toks := s1.toks + ([] : List (Str × Value)).length } :=
      ⟨⟨K0.ok.mod, K0.ok.kind, K0.ok.glob, K0.ok.blt, K0.ok.above, K0.ok.inj, K0.ok.has, K0.ok.cab, K0.ok.hd, K0.ok.frames, K0.ok.stk, K0.ok.exf, K0.ok.bs, K0.ok.bsz, K0.ok.noex, K0.ok.exfs, K0.ok.funs, K0.ok.frf⟩, K0.os, K0.bare, K0.base, K0.loc, K0.cell, K0.free, K0.freeC, K0.pin, K0.hok, K0.len⟩
    refine PySem.W.kla_codeExpr (wpAny_mono ((hbody i _ _ s1 H1 f c' (hr.deeper _)).run [] _ _ H1 Q K1 q) (fun v s2 z => ?_) fun _ _ z => z)
    obtain ⟨y, H2, K2, ry, q2⟩ := z
    exact ⟨y, H2, K2.os, K2.bare, K2.base, K2.hok, ry, q2⟩
  refine wpAny_call (codeAny_mono rc fun r s2 z => ?_)
  match r, z with
  | .error _, z => exact hx pins σ H1 s1 _ s2 J z
  | .ok (.ret _), z => exact J.after z
  | .ok .next, z => exact z.elim
  | .ok .brk, z => exact z.elim
  | .ok .cont, z => exact z.elim
end
end Kx
/-! where an error is handled: lists walked, tuples unpacked, a def that gets the error. -/
namespace Kx.Hot
open PySem PySem.Spec PyProof.Rows HotX
section
variable {prog : Program} {w : World} {A : Around} {E : Value → Shared → Prop} {s : Shared} {z l : Addr} {i : Nat} {xs : Array Value}
theorem hot_ne {x : Addr} {oz : Obj} {a b : Value} (hot : HotAt A x s.heap) (h : s.heap.get? z = some oz) (d : oz.data = .fields #[a, b]) : x ≠ z := by
  obtain ⟨_, o, vs, h1, d1, c1⟩ := hot
  rintro rfl
  rw [h1] at h
  cases h
  rw [d1] at d
  cases d
  cases c1
/-- the end of a list's walk -/
theorem list_end {x : Addr} {Q : Option Value → Shared → Prop} (hot : HotAt A x s.heap) (st : s.heap.IsListIter z l i) (isL : s.heap.IsList l xs) (out : xs[i]? = none) (q : ∀ h', Heap.ExtBut z s.heap h' → Q none { s with heap := h' }) : wpAny (model prog w) A (pyNext (.ref z)) Q E s := by
  obtain ⟨oz, hz, cz, dz⟩ := id st
  obtain ⟨ol, hl, _, nl, dl⟩ := isL
  have ne := hot_ne hot hz dz
  obtain ⟨hh, o1, v1, e1, d1, c1⟩ := hot
  unfold pyNext; refine wpAny_bind (wpAny_attempt (wpAny_callSpecial?_slot (name := Str.ofString "__next__") st.typeIs slot_listiter_next (wpAny_call_entry slot_listiter_next st.typeIs entry_listiter_next ?_ (args_listiter_next _))))
  show wpAny _ _ (field (.ref z) 0 >>= _) _ _ s; refine wpAny_bind (wpAny_field hz dz (x := .ref l) rfl ?_)
  show wpAny _ _ (if (Value.ref l == Value.none) = true then _ else _) _ _ s; rw [if_neg (show ¬ ((Value.ref l == Value.none) = true) from Bool.false_ne_true)]
  show wpAny _ _ (field (.ref z) 1 >>= _) _ _ s; refine wpAny_bind (wpAny_field hz dz (x := .int i 0) rfl ?_)
  show wpAny _ _ (seqItems? (.ref l) >>= _) _ _ s; refine wpAny_bind (wpAny_seqItems hl dl ?_)
  simp only [Int.toNat_natCast, out]
  refine wpAny_bind (wpAny_rule (wpAny_bind (wpAny_setField hz dz (by simp) ?_)))
  show wpAny _ _ (newExc (.type "StopIteration") [] >>= _) _ _ _; refine wpAny_bind ?_
  simp only [newExc, newTuple]; refine wpAny_bind (wpAny_newObj_type ?_ (by size_fits))
  refine wpAny_bind (m := firstArgMember _ _) (wpAny_of_eq (a := Value.none) (by first | rfl | (simp only [firstArgMember]; rfl)) ?_); refine wpAny_newObj_type ?_ (by size_fits)
  have e2 : ∀ b o, b ≠ z → s.heap.get? b = some o → (s.heap.update z (Obj.mapFields (·.setIfInBounds 0 Value.none))).get? b = some o := fun b o nb h => by
    rw [Heap.get?_update_other _ _ (Ne.symm nb)]
    exact h
  refine raiseNew_hot ⟨hh, o1, v1, Heap.get?_push_of_some _ (Heap.get?_push_of_some _ (e2 _ _ ne e1)), d1, c1⟩ (Nat.ne_of_lt (Heap.lt_size (Heap.get?_push_of_some _ (e2 _ _ ne e1)))) (Heap.get?_push_size _ rfl) rfl (by first | (simp; done) | (simp; omega) | (simp only [Array.size_append]; simp; omega)) ?_
  refine wpAny_bind (wpAny_isInstance (b := true) (T := "StopIteration") ⟨_, Heap.get?_update_self _ (Heap.get?_push_size _ rfl) rfl, rfl⟩ isSubtype_stop ?_)
  refine wpAny_pure (q _ fun b o nb h => ?_)
  rw [Heap.get?_update_other _ _ (Nat.ne_of_gt (Heap.lt_size (Heap.get?_push_of_some _ (e2 _ _ nb h))))]
  exact Heap.get?_push_of_some _ (Heap.get?_push_of_some _ (e2 _ _ nb h))
/-- the end of a tuple's walk -/
theorem tup_end {x : Addr} {Q : Option Value → Shared → Prop} (hot : HotAt A x s.heap) (st : IsTupIter s.heap z l i) (isT : IsTup s.heap l xs) (out : xs[i]? = none) (q : ∀ h', Heap.ExtBut z s.heap h' → Q none { s with heap := h' }) : wpAny (model prog w) A (pyNext (.ref z)) Q E s := by
  obtain ⟨oz, hz, cz, dz⟩ := id st
  obtain ⟨ol, hl, _, nl, dl⟩ := isT
  have ne := hot_ne hot hz dz
  obtain ⟨hh, o1, v1, e1, d1, c1⟩ := hot
  unfold pyNext; refine wpAny_bind (wpAny_attempt (wpAny_callSpecial?_slot (name := Str.ofString "__next__") st.typeIs slot_tupleiter_next (wpAny_call_entry slot_tupleiter_next st.typeIs entry_tupleiter_next ?_ (args_tupleiter_next _))))
  show wpAny _ _ (field (.ref z) 0 >>= _) _ _ s; refine wpAny_bind (wpAny_field hz dz (x := .ref l) rfl ?_)
  show wpAny _ _ (if (Value.ref l == Value.none) = true then _ else _) _ _ s; rw [if_neg (show ¬ ((Value.ref l == Value.none) = true) from Bool.false_ne_true)]
  show wpAny _ _ (field (.ref z) 1 >>= _) _ _ s; refine wpAny_bind (wpAny_field hz dz (x := .int i 0) rfl ?_)
  show wpAny _ _ (seqItems? (.ref l) >>= _) _ _ s; refine wpAny_bind (wpAny_seqItems hl dl ?_)
  simp only [Int.toNat_natCast, out]
  refine wpAny_bind (wpAny_rule (wpAny_bind (wpAny_setField hz dz (by simp) ?_)))
  show wpAny _ _ (newExc (.type "StopIteration") [] >>= _) _ _ _; refine wpAny_bind ?_
  simp only [newExc, newTuple]; refine wpAny_bind (wpAny_newObj_type ?_ (by size_fits))
  refine wpAny_bind (m := firstArgMember _ _) (wpAny_of_eq (a := Value.none) (by first | rfl | (simp only [firstArgMember]; rfl)) ?_); refine wpAny_newObj_type ?_ (by size_fits)
  have e2 : ∀ b o, b ≠ z → s.heap.get? b = some o → (s.heap.update z (Obj.mapFields (·.setIfInBounds 0 Value.none))).get? b = some o := fun b o nb h => by
    rw [Heap.get?_update_other _ _ (Ne.symm nb)]
    exact h
  refine raiseNew_hot ⟨hh, o1, v1, Heap.get?_push_of_some _ (Heap.get?_push_of_some _ (e2 _ _ ne e1)), d1, c1⟩ (Nat.ne_of_lt (Heap.lt_size (Heap.get?_push_of_some _ (e2 _ _ ne e1)))) (Heap.get?_push_size _ rfl) rfl (by first | (simp; done) | (simp; omega) | (simp only [Array.size_append]; simp; omega)) ?_
  refine wpAny_bind (wpAny_isInstance (b := true) (T := "StopIteration") ⟨_, Heap.get?_update_self _ (Heap.get?_push_size _ rfl) rfl, rfl⟩ isSubtype_stop ?_)
  refine wpAny_pure (q _ fun b o nb h => ?_)
  rw [Heap.get?_update_other _ _ (Nat.ne_of_gt (Heap.lt_size (Heap.get?_push_of_some _ (e2 _ _ nb h))))]
  exact Heap.get?_push_of_some _ (Heap.get?_push_of_some _ (e2 _ _ nb h))
/-- (a, b, ..) = a tuple -/
theorem tup_stored {x : Addr} {env : Env} {es : List Expr} {k} {pos : Pos} {Q : Unit → Shared → Prop} (hot : HotAt A x s.heap) (isT : IsTup s.heap l xs) (n : (assignEach es env).length = xs.size) (star : (assignEach es env).findIdx? (·.1) = none)
    (go : ∀ h', Heap.ExtBut s.heap.objs.size s.heap h' → wpAny (model prog w) A (assignInOrder ((assignEach es env).map (·.2)) xs.toList) Q E { s with heap := h' }) : wpAny (model prog w) A (assign (.Tuple es k pos) env (.ref l)) Q E s := by
  rw [assign_Tuple]; refine wpAny_bind (wpAny_standAt ?_)
  unfold unpack
  rw [n, star]; refine wpAny_bind (wpAny_holding ?_)
  have apart : l ≠ s.heap.objs.size := by obtain ⟨o, h, _⟩ := isT; exact Nat.ne_of_lt (Heap.lt_size h)
  obtain ⟨hh, o1, v1, e1, d1, c1⟩ := hot
  have ax : x ≠ s.heap.objs.size := Nat.ne_of_lt (Heap.lt_size e1)
  unfold unpackItems; refine wpAny_bind ?_
  unfold notIterableAtAll; refine wpAny_bind (wpAny_specialOf isT.typeIs slot_tuple_iter.lookup ?_)
  refine wpAny_pure ?_; simp only [Bool.false_eq_true, if_false]
  refine wpAny_bind (wpAny_holding (iter_tuple isT ?_)); refine wpAny_bind (wpAny_holding (draw_tuple apart xs.size 0 _ _ ⟨_, Heap.get?_push_size _ rfl, rfl, rfl⟩ (isT.push _) (by omega) fun h1 st1 but1 => ?_))
  have whole : List.take xs.size (List.drop 0 xs.toList) = xs.toList := by rw [List.drop_zero]; exact List.take_of_length_le (by simp)
  rw [whole]; rw [if_neg (by simp)]
  have isT1 : IsTup h1 l xs := (isT.push _).extBut but1.extBut apart
  have hot1 : HotAt A x h1 := ⟨hh, o1, v1, (but1.2 x ax).trans (Heap.get?_push_of_some _ e1), d1, c1⟩
  refine wpAny_bind (wpAny_holding (tup_end hot1 st1 isT1 (by simp) fun h2 ext2 => ?_)); simp only [Option.isSome_none, Bool.false_eq_true, if_false]
  exact wpAny_pure (go h2 fun b o nb e => ext2 b o nb (but1.extBut b o nb (Heap.get?_push_of_some _ e)))
end
end Kx.Hot
/-! A try with several clauses, of one class or of five; the context of what is caught is None. -/
namespace Kx.N
open PySem PyProof.Rows L2 PySem.Spec

section
variable {M : Model} {K : PySem.W.Frag}
open PySem.W PySem.Calls
/-- a tuple of five classes is asked -/
theorem exm5 {a1 a2 a3 a4 a5 cls : Value} {tp x : Addr} {y : Bool} {h : Heap} (inK : K.In h) (ty : Looks M h (typeOf (.ref x)) cls) (here : h.get? tp = some { cls := .type "tuple", data := .seq [a1, a2, a3, a4, a5].toArray }) (hx : exmAny K cls [a1, a2, a3, a4, a5] = some y) :
    Looks M h (excMatches (.ref x) (.ref tp)) y := by
  intro A Q E s k0 q
  obtain ⟨hh, gz, d, tk, os⟩ := s
  have k : ∀ b o, h.get? b = some o → hh.get? b = some o := k0
  have isT : Looks M h (isInstance (.ref tp) (.type "tuple")) true := ((Looks.ld here).andThen .now).andThen (Looks.of_pure isSubtype_tuple_tuple)
  obtain ⟨b1, r1, o1, hx, z1⟩ := exmAny_cons hx
  obtain ⟨b2, r2, o2, hx, z2⟩ := exmAny_cons hx
  obtain ⟨b3, r3, o3, hx, z3⟩ := exmAny_cons hx
  obtain ⟨b4, r4, o4, hx, z4⟩ := exmAny_cons hx
  obtain ⟨b5, r5, o5, hx, z5⟩ := exmAny_cons hx
  obtain rfl : false = r5 := Option.some.inj hx
  have both : ∀ {c : Value} {v : Bool}, exmOne K cls c = some v → Looks M hh (isExcClass c) true ∧ Looks M hh (isSubtype cls c) v := fun o => ⟨(exm_cls (M := M) inK o).1.keeps k, (exm_cls (M := M) inK o).2.keeps k⟩
  obtain ⟨u1, w1⟩ := both o1
  obtain ⟨u2, w2⟩ := both o2
  obtain ⟨u3, w3⟩ := both o3
  obtain ⟨u4, w4⟩ := both o4
  obtain ⟨u5, w5⟩ := both o5
  have ty := ty.keeps k
  have isT := isT.keeps k
  have at_ := k _ _ here
  subst z1 z2 z3 z4 z5
  unfold excMatches; refine wpAny_bind (isT.at ?_)
  dsimp only; rw [if_pos rfl]
  first
    | exact wpAny_bind (wpAny_seqItems at_ rfl (by dsimp only [Option.getD_some, Option.getD]; cases b1 <;> cases b2 <;> cases b3 <;> cases b4 <;> cases b5 <;> ((repeat (first | simp only [List.forIn_cons, List.forIn_nil, Bool.not_true, Bool.false_eq_true, if_false, if_true] | lk)); exact q)))
    | exact wpAny_bind (wpAny_bind (wpAny_seqItems at_ rfl (wpAny_pure (by dsimp only [Option.getD_some, Option.getD]; cases b1 <;> cases b2 <;> cases b3 <;> cases b4 <;> cases b5 <;> ((repeat (first | simp only [List.forIn_cons, List.forIn_nil, Bool.not_true, Bool.false_eq_true, if_false, if_true] | lk)); exact q)))))
theorem exm_single {cls c : Value} {y : Bool} (h : exmAny K cls [c] = some y) : exmOne K cls c = some y := by
  obtain ⟨b, r, o, hx, z⟩ := exmAny_cons h
  obtain rfl : false = r := Option.some.inj hx
  rw [z, Bool.or_false]
  exact o
end
theorem fly_keeps {G : Heap} {l : List Env} {x : Addr} {Z : Obj → Prop} {h h' : Heap} (f : HandSPX.FlyingZ G l x Z h) (k : ∀ b o, h.get? b = some o → h'.get? b = some o) : HandSPX.FlyingZ G l x Z h' := by
  obtain ⟨f1, f2, f3, ob, ws, T, ot, ts, e1, e2, e3, e4, e5, e6, e7, e8, e9⟩ := f
  exact ⟨fun b o q => k b o (f1 b o q), f2, f3.of_keeps fun b o q _ => ⟨o, k b o q, rfl⟩, ob, ws, T, ot, ts, k _ _ e1, e2, e3, e4, e5, e6, k _ _ e7, e8, e9⟩
/-- an error that came down to this frame and whose flight is over; `old` is the state without it -/
structure Down (X : Cx) (pins : List (Addr × Obj)) (σ : L2.St) (H : Hp) (x : Addr) (cls : Value) (d : Option Addr) (G : Heap) (old now : Shared) : Prop where
  was : Inv X pins σ H old
  low : ∀ b o, old.heap.get? b = some o → b ∉ frs X.stack → G.get? b = some o
  up : old.heap.UpToSlots now.heap
  fly : HandSPX.FlyingZ G (X.env :: X.outer) x (L2N.Zn cls d) now.heap
  fresh : H x = none
  sys : now.os = old.os
  bare : AllBare now.gens
section
variable {X : Cx} {pins : List (Addr × Obj)} {σ : L2.St} {H : Hp} {x : Addr} {cls : Value} {d : Option Addr} {G : Heap} {old now : Shared}
theorem Down.inv (D : Down X pins σ H x cls d G old now) : Inv X pins σ H now := D.was.landed D.low D.fly.1 D.up D.sys D.bare
/-- the record, and that it is no frame -/
theorem Down.rec_ (D : Down X pins σ H x cls d G old now) (hf : X.env.frame = some X.env.locals) :
    ∃ (ob : Obj) (vs : Array Value), now.heap.get? x = some ob ∧ L2N.Zn cls d ob ∧ ob.data = .fields vs ∧ x ≠ X.env.locals ∧ x ∉ X.fs := by
  obtain ⟨ob, vs, h1, h2, h3⟩ := D.fly.there
  have out : x ∉ frs (X.env :: X.outer) := by
    intro hm
    obtain ⟨_, ob2, h4, h5⟩ := D.fly.2.2.1.mem hm
    rw [h1] at h4
    cases h4
    exact h5 _ h3
  refine ⟨ob, vs, h1, h2, h3, fun z => out ?_, fun hm => out ?_⟩
  · exact List.mem_filterMap.mpr ⟨_, List.mem_cons_self, by rw [hf, z]⟩
  · obtain ⟨e1, h6, h7⟩ := List.mem_filterMap.mp hm
    exact List.mem_filterMap.mpr ⟨e1, List.mem_cons_of_mem _ h6, h7⟩
/-- within a suite -/
theorem Down.held (D : Down X pins σ H x cls d G old now) (hf : X.env.frame = some X.env.locals) :
    ∃ ob : Obj, now.heap.get? x = some ob ∧ L2N.Zn cls d ob ∧ (∃ vs, ob.data = .fields vs) ∧ Inv (X.suite x ((x, ob) :: (X.pn ++ pins))) [] σ H now := by
  obtain ⟨ob, vs, h1, h2, h3, h4, h5⟩ := D.rec_ hf
  exact ⟨ob, h1, h2, ⟨vs, h3⟩, D.inv.suite h1 h3 D.fresh h4 h5⟩
/-- no clause takes it: it goes on -/
theorem Down.goes {pos : Pos} {E : Ends} {W : WX} (D : Down X pins σ H x cls d G old now) (hs : X.stack = X.env :: X.outer) (hf : X.env.frame = some X.env.locals) (tk : L2N.Takes X W) (hw : W cls d σ H) :
    wpAny (model X.prog X.w) X.A (handleBy (.ref x) X.env []) (SP X pins E) X.xe now := by
  obtain ⟨_, _, _, ob, vs, T, _, _, h1, _, h3, h4, _⟩ := D.fly
  have away : wpAny (model X.prog X.w) X.A (setFlight (.ref x) X.env.frame) (fun _ s => wpAny (model X.prog X.w) X.A (throw (.ref x) : Sem Flow) (SP X pins E) X.xe s) X.xe now := by
    rw [hf]
    refine HandSPX.setFlight_upZ D.fly fun h' held up' => wpAny_throw (tk _ _ ⟨x, G, old, pins, σ, H, cls, d, rfl, D.was, D.low, D.up.trans up', ?_, D.fresh, D.sys, D.bare, hw⟩)
    rw [hs]
    exact .inr (.inr held)
  refine wpAny_handleBy_nil (wpAny_bind (wpAny_field h1 h3 h4 ?_))
  have some_ : ¬ ((Value.ref T == Value.none) = true) := by simp
  rw [if_neg some_]
  first
    | exact wpAny_bind away
    | exact wpAny_bind (wpAny_pure (wpAny_bind away))
end
/-- one clause: the class it names, the place of its name, its suite's reading -/
abbrev Clause : Type := List Value × Nat × (Addr → Value → Option Addr → TS)
/-- behind a suite the name at i is gone -/
def bare (E : Ends) (i : Nat) : Ends where
  nx := fun σ H => E.nx (σ.set i none) H
  rt := E.rt
  bk := fun σ H => E.bk (σ.set i none) H
  ct := fun σ H => E.ct (σ.set i none) H
/-- what is asked of an error that the body lets out -/
def asks (K : PySem.W.Frag) (W : WX) (E : Ends) : List Clause → WX
  | [] => W
  | k :: r => fun cls d σ H => ∃ y, PySem.W.exmAny K cls k.1 = some y ∧ (y = true → ∀ x, H x = none → k.2.2 x cls d (bare E k.2.1) (σ.set k.2.1 (some (.ref x))) H) ∧ (y = false → asks K W E r cls d σ H)
inductive Clauses (X : Cx) : List ExceptHandler → List Clause → Prop
  | nil : Clauses X [] []
  | cons {nm n : Str} {i : Nat} {c : Value} {t : Addr → Value → Option Addr → TS} {st : Stmt} {more : List Stmt} {p1 p2 : Pos} {hs : List ExceptHandler} {ks : List Clause} (nd : X.N.Nodup) (at_ : X.N[i]? = some n) (loc : X.env.kindOf n = some .local) (cl : Names X nm c)
      (su : ∀ (x : Addr) (ob : Obj) (cls : Value) (d : Option Addr) (pn : List (Addr × Obj)), L2N.Zn cls d ob → (∃ vs, ob.data = .fields vs) → PSs (X.suite x ((x, ob) :: pn)) (st :: more) (t x cls d)) (rest : Clauses X hs ks) :
      Clauses X (.ExceptHandler (some (.Name nm p1)) (some n) (st :: more) p2 :: hs) (([c], i, t) :: ks)
  | five {m1 m2 m3 m4 m5 n : Str} {i kk : Nat} {c1 c2 c3 c4 c5 : Value} {t : Addr → Value → Option Addr → TS} {st : Stmt} {more : List Stmt} {p1 p2 p3 p4 p5 p6 p7 : Pos} {hs : List ExceptHandler} {ks : List Clause} (nd : X.N.Nodup) (at_ : X.N[i]? = some n) (loc : X.env.kindOf n = some .local)
      (l1 : Names X m1 c1) (l2 : Names X m2 c2) (l3 : Names X m3 c3) (l4 : Names X m4 c4) (l5 : Names X m5 c5)
      (su : ∀ (x : Addr) (ob : Obj) (cls : Value) (d : Option Addr) (pn : List (Addr × Obj)), L2N.Zn cls d ob → (∃ vs, ob.data = .fields vs) → PSs (X.suite x ((x, ob) :: pn)) (st :: more) (t x cls d)) (rest : Clauses X hs ks) :
      Clauses X (.ExceptHandler (some (.Tuple [.Name m1 p1, .Name m2 p2, .Name m3 p3, .Name m4 p4, .Name m5 p5] kk p6)) (some n) (st :: more) p7 :: hs) (([c1, c2, c3, c4, c5], i, t) :: ks)
section
variable {X : Cx} {pins : List (Addr × Obj)} {σ : L2.St} {H : Hp} {x : Addr} {cls : Value} {d : Option Addr} {G : Heap} {old now : Shared} {E : Ends} {W : WX}
theorem name_there {nm : Str} {c : Value} {p1 : Pos} {ob : Obj} {Q E' : Value → Shared → Prop} (cl : Names X nm c) (J : Inv (X.suite x ((x, ob) :: (X.pn ++ pins))) [] σ H now) (q : Q c now) :
    wpAny (model X.prog X.w) (X.A.mark (some (.ref x))) (eval (.Name nm p1) X.env) Q E' now := by
  obtain ⟨g, db, m | ⟨m, b, nn⟩⟩ := cl
  · exact ld_glob J g m q db
  · exact ld_blt J g m b q nn db
theorem Down.clauses (D : Down X pins σ H x cls d G old now) (hs : X.stack = X.env :: X.outer) (hf : X.env.frame = some X.env.locals) (tk : L2N.Takes X W) {hds : List ExceptHandler} {ks : List Clause} (C : Clauses X hds ks) (w : asks X.K W E ks cls d σ H) :
    wpAny (model X.prog X.w) X.A (handleBy (.ref x) X.env hds) (SP X pins E) X.xe now := by
  induction C generalizing now with
  | nil => exact D.goes (pos := ⟨0, 0, 0, 0⟩) hs hf tk w
  | @cons nm n i c t st more p1 p2 hs' ks' nd at_ loc cl su rest ih =>
    obtain ⟨y, hy, yes, no⟩ := w
    obtain ⟨ob, h1, h2, h3, J⟩ := D.held hf
    refine wpAny_handleBy_cons (codeAny_handlers_test (name_there cl J ?_)) (fun z => nomatch z)
    have ty : PySem.W.Looks (model X.prog X.w) now.heap (typeOf (.ref x)) cls := fun _ _ _ _ k q => wpAny_typeOf_ref (k _ _ h1) (by rw [h2.1]; exact q)
    refine (PySem.W.exm_one D.inv.kIn ty (exm_single hy)).here ?_
    cases y with
    | false => exact ih D (no rfl)
    | true =>
      refine codeAny_handlers_suite_as (HandSPX.lands_againZ D.fly fun h' fl up' => ?_)
      have D' : Down X pins σ H x cls d G old { now with heap := h' } := ⟨D.was, D.low, D.up.trans up', fl, D.fresh, D.sys, D.bare⟩
      obtain ⟨ob', _, g2, g3, J'⟩ := D'.held hf
      refine store_ok (X := X.suite x ((x, ob') :: (X.pn ++ pins))) (v := .ref x) J' nd at_ (.inl loc) rfl (fun s2 J2 => ?_) (.inr loc)
      refine wpAny_mono ((su x ob' cls d (X.pn ++ pins) g2 g3).run [] s2 _ H _ J2 (yes rfl x D.fresh)) (fun f s3 hf3 => ?_) (fun _ _ z => z.elim)
      have gone : ∀ {σ3 : L2.St} {H3 : Hp} {R : Shared → Prop}, Inv (X.suite x ((x, ob') :: (X.pn ++ pins))) [] σ3 H3 s3 → (∀ s4, Inv X pins (σ3.set i none) H3 s4 → R s4) →
          wpAny (model X.prog X.w) X.A (do bindName X.env n .none; unbindBehindTheSuite X.env n p2) (fun _ s4 => R s4) X.xe s3 := fun J3 q => gone_ok (J3.unsuite D.was.ok) nd at_ loc q
      match f, hf3 with
      | .next, ⟨_, _, J3, q⟩ => exact gone J3 fun _ J4 => ⟨_, _, J4, q⟩
      | .brk, ⟨_, _, J3, q⟩ => exact gone J3 fun _ J4 => ⟨_, _, J4, q⟩
      | .cont, ⟨_, _, J3, q⟩ => exact gone J3 fun _ J4 => ⟨_, _, J4, q⟩
      | .ret _, ⟨_, _, _, J3, r, q⟩ => exact gone J3 fun _ J4 => ⟨_, _, _, J4, r, q⟩
  | @five m1 m2 m3 m4 m5 n i kk c1 c2 c3 c4 c5 t st more p1 p2 p3 p4 p5 p6 p7 hs' ks' nd at_ loc l1 l2 l3 l4 l5 su rest ih =>
    obtain ⟨y, hy, yes, no⟩ := w
    obtain ⟨ob, h1, h2, h3, J⟩ := D.held hf
    refine wpAny_handleBy_cons (codeAny_handlers_test ?_) (fun z => nomatch z)
    refine wpAny_Tuple (wpAny_items_cons (name_there l1 J (wpAny_items_cons (name_there l2 J (wpAny_items_cons (name_there l3 J (wpAny_items_cons (name_there l4 J (wpAny_items_cons (name_there l5 J (wpAny_items_nil ⟨by size_fits, ?_⟩)))))))))))
    have kp : ∀ b o, now.heap.get? b = some o → (now.heap.push { cls := .type "tuple", data := .seq [c1, c2, c3, c4, c5].toArray }).get? b = some o := fun _ _ z => Heap.get?_push_of_some _ z
    have ty : PySem.W.Looks (model X.prog X.w) (now.heap.push { cls := .type "tuple", data := .seq [c1, c2, c3, c4, c5].toArray }) (typeOf (.ref x)) cls := fun _ _ _ _ k q => wpAny_typeOf_ref (k _ _ (kp _ _ h1)) (by rw [h2.1]; exact q)
    refine (exm5 (D.inv.kIn.keeps kp) ty (Heap.get?_push_size now.heap rfl) hy).here ?_
    have D5 : Down X pins σ H x cls d G old { now with heap := now.heap.push { cls := .type "tuple", data := .seq [c1, c2, c3, c4, c5].toArray } } := ⟨D.was, D.low, D.up.trans (Heap.UpToSlots.of_keeps kp), fly_keeps D.fly kp, D.fresh, D.sys, D.bare⟩
    cases y with
    | false => exact ih D5 (no rfl)
    | true =>
      refine codeAny_handlers_suite_as (HandSPX.lands_againZ D5.fly fun h' fl up' => ?_)
      have D' : Down X pins σ H x cls d G old { now with heap := h' } := ⟨D.was, D.low, D5.up.trans up', fl, D.fresh, D.sys, D.bare⟩
      obtain ⟨ob', _, g2, g3, J'⟩ := D'.held hf
      refine store_ok (X := X.suite x ((x, ob') :: (X.pn ++ pins))) (v := .ref x) J' nd at_ (.inl loc) rfl (fun s2 J2 => ?_) (.inr loc)
      refine wpAny_mono ((su x ob' cls d (X.pn ++ pins) g2 g3).run [] s2 _ H _ J2 (yes rfl x D.fresh)) (fun f s3 hf3 => ?_) (fun _ _ z => z.elim)
      have gone : ∀ {σ3 : L2.St} {H3 : Hp} {R : Shared → Prop}, Inv (X.suite x ((x, ob') :: (X.pn ++ pins))) [] σ3 H3 s3 → (∀ s4, Inv X pins (σ3.set i none) H3 s4 → R s4) →
          wpAny (model X.prog X.w) X.A (do bindName X.env n .none; unbindBehindTheSuite X.env n p7) (fun _ s4 => R s4) X.xe s3 := fun J3 q => gone_ok (J3.unsuite D.was.ok) nd at_ loc q
      match f, hf3 with
      | .next, ⟨_, _, J3, q⟩ => exact gone J3 fun _ J4 => ⟨_, _, J4, q⟩
      | .brk, ⟨_, _, J3, q⟩ => exact gone J3 fun _ J4 => ⟨_, _, J4, q⟩
      | .cont, ⟨_, _, J3, q⟩ => exact gone J3 fun _ J4 => ⟨_, _, J4, q⟩
      | .ret _, ⟨_, _, _, J3, r, q⟩ => exact gone J3 fun _ J4 => ⟨_, _, _, J4, r, q⟩
end
/-- try: body / except C as n: .. / except D as m: .. -/
theorem ps_tries {X : Cx} {body : List Stmt} {hd : ExceptHandler} {hds : List ExceptHandler} {ks : List Clause} {pos : Pos} {tb : WX → TS} {W : WX} (hs : X.stack = X.env :: X.outer) (hf : X.env.frame = some X.env.locals) (tk : L2N.Takes X W)
    (hb : ∀ (U : WX) (pn : List (Addr × Obj)) (xe : Value → Shared → Prop), L2N.Takes (X.tr pn xe) U → PassesOwn (model X.prog X.w) X.A X.env xe → PSs (X.tr pn xe) body (tb U)) (C : Clauses X (hd :: hds) ks) :
    PS X (.Try body (hd :: hds) [] [] pos) (fun E σ H => tb (asks X.K W E ks) E σ H) := by
  refine ⟨fun pins s σ H E I h => wpAny_Try_except ?_⟩
  have top : X.A.frames = some (X.env :: X.outer) := by rw [I.ok.frames, hs]
  have inner := hb (asks X.K W E ks) (X.pn ++ pins) (fun e s1 => wpAny (model X.prog X.w) X.A (noteFrame e X.env) (fun _ s2 => wpAny (model X.prog X.w) X.A (setFlight e none)
    (fun _ s3 => wpAny (model X.prog X.w) X.A (handleBy e X.env (hd :: hds)) (SP X pins E) X.xe s3) X.xe s2) X.xe s1) ?_ PassesOwn.looking
  · refine wpAny_mono (inner.run [] s σ H E (I.toTry _) h) (fun f s1 q => ?_) (fun _ _ z => z)
    match f, q with
    | .next, ⟨_, _, J, q⟩ => exact wpAny_execs_nil ⟨_, _, J.ofTry I.ok, q⟩
    | .brk, ⟨_, _, J, q⟩ => exact ⟨_, _, J.ofTry I.ok, q⟩
    | .cont, ⟨_, _, J, q⟩ => exact ⟨_, _, J.ofTry I.ok, q⟩
    | .ret _, ⟨_, _, _, J, r, q⟩ => exact ⟨_, _, _, J.ofTry I.ok, r, q⟩
  · rintro u s1 ⟨x, G, old, _, σ1, H1, cls, d, rfl, J, low, up, sky, fr, sys, bare, w⟩
    rw [show (X.tr (X.pn ++ pins) _).stack = X.env :: X.outer from hs] at sky
    refine L2N.Sky.land L2N.Zn.steady top hf sky fun h' fl up' => ?_
    exact Down.clauses (now := { s1 with heap := h' }) ⟨J.ofTry I.ok, low, up.trans up', fl, fr, sys, bare⟩ hs hf tk C w
end Kx.N
namespace Kx.Hot
open L2 L2H PySem PySem.Spec PyProof.Rows HotX
/-- a list walked where an error is handled -/
theorem turnL {P : Program} {w : World} {K : PySem.W.Frag} {tg : Expr} (a z : Addr) : TurnH P w K tg (Itl K a) [z] z (fun i h => h.IsListIter z a i) where
  mem := List.mem_singleton.mpr rfl
  obj := fun i h st b hb => by
    obtain rfl := List.mem_singleton.mp hb
    obtain ⟨o, e, c, d⟩ := st
    exact ⟨o, e, fun v q => by rw [d] at q; cases q⟩
  keep := fun i h h' st k => st.at fun o e => k z (List.mem_singleton.mpr rfl) o e
  item := fun X hP hw hK hc i pins s σ H E I hf st hg => by
    subst hP hw hK
    obtain ⟨xs, x, hq, hx⟩ := hg
    obtain ⟨us, rv, isL, _⟩ := I.list hq
    obtain ⟨u, hu, rz⟩ := rv.get hx
    obtain ⟨f0, f1, f2, f3, f4, f5⟩ := hf z (List.mem_singleton.mpr rfl)
    refine wpAny_pyNext_list_item st isL.isList (x := u) (by simpa using hu) fun h' st' but => ?_
    have J : Inv X pins σ H { s with heap := h' } := I.turned (t' := s.toks) (fun b o hb e => (but.2 b hb).trans e) f0 f1 f3 f4 f5
    obtain ⟨o, e, c, d⟩ := id st'
    exact ⟨u, rfl, go_of (s := { s with heap := h' }) e c d (by decide) ⟨x, H, J, rz, ⟨rfl, fun ys hy => (I.list_inj hy hq) ▸ hx⟩, st', fun b hb => (hf b hb).1⟩⟩
  done := fun X hP hw hK hc i pins s σ H E I hf st hg => by
    subst hP hw hK
    obtain ⟨xs, hq, hx⟩ := hg
    obtain ⟨us, rv, isL, _⟩ := I.list hq
    obtain ⟨f0, f1, f2, f3, f4, f5⟩ := hf z (List.mem_singleton.mpr rfl)
    have n := rv.length
    obtain ⟨x1, hot⟩ := hc.at I
    exact list_end hot st isL.isList (by simp; omega) fun h' eb => ⟨rfl, I.turned (t' := s.toks) (fun b o hb e => eb b o hb e) f0 f1 f3 f4 f5⟩
  self := fun _ _ _ _ _ st q => wpAny_pyIter_listiter st q
section
variable {X : Cx} {tg e : Expr} {te : TE}
theorem pi_listH (he : PE X e te) : PIH X tg e (iList X.K te) := by
  refine ⟨fun pins s σ H R I h => thn (he.run pins s σ H _ I h) fun u t ⟨x, H1, J, rx, a, ex, ⟨xs, hx⟩, q⟩ => ?_⟩
  subst ex
  obtain rfl := (show u = Value.ref a from rx)
  obtain ⟨_, _, isL, _⟩ := J.list hx
  refine wpAny_pyIter_list isL.isList ⟨_, [t.heap.objs.size], _, _, H1, rfl, J.kept (t' := t.toks) fun b v z => Heap.get?_push_of_some _ z, turnL a _, ⟨_, Heap.get?_push_size _ rfl, rfl, rfl⟩, fun b hb => ?_, q⟩
  obtain rfl := List.mem_singleton.mp hb
  exact J.fpOk (Nat.le_refl _) (J.hok.fresh (Nat.le_refl _))
theorem pg_tupH {es : List Expr} {k : Nat} {t : TGs} {n : Nat} {pos : Pos} (hc : HotC X) (h : PGs X es t) (hn : (assignEach es X.env).length = n := by rfl) (hst : (assignEach es X.env).findIdx? (·.1) = none := by rfl) : PG X (.Tuple es k pos) (gTup X.K n t) := by
  refine ⟨fun pins s σ H v u Q I r asked => ?_⟩
  obtain ⟨a, xs, rfl, hq, hl, hw⟩ := asked
  cases r
  obtain ⟨us, rv, isT, _⟩ := I.tuple hq
  obtain ⟨x1, hot⟩ := hc.at I
  refine tup_stored hot isT (by simp [hn, ← hl, rv.length]) hst fun h' but => ?_
  exact h.run pins _ σ H xs _ Q (I.kept (t' := s.toks) fun b o e => but b o (Nat.ne_of_lt (Heap.lt_size e)) e) (by simpa using rv) hw
end
/-! ### a def that gets the error that is handled -/
/-- what such a def promises of the error p -/
structure FnE (P : Program) (w : World) (K : PySem.W.Frag) (mg : Str → Option Value) (base : Heap) (k : Nat) (f : Addr) (fd : FuncData) (ps : List Str) (sp : Addr × Obj → Sp) : Prop where
  len : ∀ p vs H Q E, sp p vs H Q E → vs.length = ps.length
  run : ∀ (A : Around) (outer : List Env) (s : Shared) (H : Hp) (args : Args) (us : List Value) (vs : List V) (Q : VK) (p : Addr × Obj), RoomH k A → Hot1 A p → PinOk outer H s p → Env0 P w K mg base A outer s H → BindsTo s fd args (ps.zip us) → Vals vs us → sp p vs H Q (fun _ _ _ => False) →
    codeAny (model P w) A (.call (.ref f) args) (CR CX0 outer P w H s Q (fun _ _ _ => False)) s
theorem FnE.of {P : Program} {w : World} {K : PySem.W.Frag} {mg : Str → Option Value} {base : Heap} {k : Nat} {f : Addr} {fd : FuncData} {x qual : Str} {params : Arguments} {body : List Stmt} {scope : Scope} {N ps : List Str} {sp : Addr × Obj → Sp} (F : FunD K x qual params body scope [] [] f fd) (S : FnScope N ps scope)
    (len : ∀ p vs H Q E, sp p vs H Q E → vs.length = ps.length)
    (hbody : ∀ (cdv : Value) (A : Around) (outer : List Env) (s : Shared) (H : Hp) (vs : List V) (Q : VK) (p : Addr × Obj), Hot1 A p → RoomH k (A.deeper (envOfC qual scope s.heap.objs.size f cdv)) → sp p vs H Q (fun _ _ _ => False) →
      ∃ t, PSs (cxH CX0 P w K mg base N qual scope f cdv A outer s H (fun _ _ _ => False) p) body t ∧ t { nx := fun _ H' => Q .non H', rt := Q } (L2.start N vs) H) : FnE P w K mg base (k + 1) f fd ps sp := by
  obtain ⟨oc, od, dV, kV, doc, pm, an, cdv, ct, osl, rfl, lk, hcd, -, -⟩ := F.ex
  refine ⟨len, fun A outer s H args us vs Q p hr hot pin e0 hb rel asked => ?_⟩
  have n := len _ _ _ _ _ asked
  have inK : K.In s.heap := e0.mod.kin.keeps fun b o e => (e0.bs b o e).1
  have wide : s.heap.NoLimit := e0.mod.nolimit.keeps fun b o e => (e0.bs b o e).1
  have kinds : ∀ y ∈ ps.zip us, scope.names.lookup y.1 = some .local ∨ (scope.names.lookup y.1 = some .cell ∧ ((cellsFrom (s.heap.objs.size + 1) scope.names []).lookup y.1).isSome = true) := by
    rintro ⟨m, v⟩ hy
    exact (S.par m (List.of_mem_zip hy).1).imp id fun q => ⟨q, PySem.W.cellsFrom_some _ _ _ (.inl q)⟩
  refine codeAny_call_function hr.depth (inK _ _ lk) rfl S.co S.gen rfl (PySem.W.codeRec_of inK hcd) (hb _ _ _ _ ?_)
  refine wpAny_newFunctionEnv_cells S.kind kinds fun env here s1 x => ?_
  subst here
  refine ⟨wide.keeps x.toInCall.keep, codeAny_func ?_⟩
  obtain ⟨t, ht, go⟩ := hbody cdv A outer s H vs Q p hot (hr.deeper _) asked
  have I : Inv (cxH CX0 P w K mg base N qual scope f cdv A outer s H (fun _ _ _ => False) p) [] (L2.start N vs) H s1 := inv_startH S pin e0 n rel x
  refine wpAny_mono (ht.run [] s1 (L2.start N vs) H _ I go) (fun fl s' z => ?_) fun _ _ z => z
  match fl, z with
  | .ret u, ⟨v, σ', H', J, rv, q⟩ => exact ⟨v, H', J.os, J.bare, J.base, J.hok, rv, q⟩
  | .next, ⟨σ', H', J, q⟩ => exact ⟨.non, H', J.os, J.bare, J.base, J.hok, rfl, q⟩
  | .brk, ⟨_, _, _, q⟩ => exact q.elim
  | .cont, ⟨_, _, _, q⟩ => exact q.elim
structure CalE (P : Program) (w : World) (K : PySem.W.Frag) (mg : Str → Option Value) (base : Heap) (k : Nat) (x : Str) (ps : List Str) (sp : Addr × Obj → Sp) : Prop where
  ex : ∃ (f : Addr) (fd : FuncData), mg x = some (.ref f) ∧ PySem.W.keepIn K (.ref f) = true ∧ Binds K fd ps [] ∧ FnE P w K mg base k f fd ps sp
/-- f(e) in the suite that holds the error -/
theorem pe_callE {X : Cx} {k j : Nat} {x : Str} {ps : List Str} {sp : Addr × Obj → Sp} {e : Expr} {es : List Expr} {t : TA} {p pos : Pos} {a : Addr} {ob : Obj} {cls : Value} {d : Option Addr} {pn : List (Addr × Obj)} (c : CalE X.prog X.w X.K X.mg X.base k x ps sp) (hr : Room j X.A) (hz : L2N.Zn cls d ob) (hf : ∃ vs, ob.data = .fields vs)
    (ha : PA (X.suite a ((a, ob) :: pn)) (e :: es) t) (hk : k ≤ j := by decide) (hg : Gl X x := by rfl) (hdb : (x == ("__debug__" : Str)) = false := by decide)
    (hz2 : starEach (e :: es) X.env = (false, eval e X.env) :: starEach es X.env := by rfl) (hpl : (backTo pos (starEach es X.env)).any (·.1) = false := by rfl) :
    PE (X.suite a ((a, ob) :: pn)) (.Call (.Name x p) (e :: es) [] pos) (fun σ H Q => t σ H fun vs H1 => sp (a, ob) vs H1 Q (fun _ _ _ => False)) := by
  obtain ⟨f, fd, c1, c2, c3, F⟩ := c.ex
  refine ⟨fun pins s σ H Q I h => wpAny_Call_Name_kw (ld_glob (X := X.suite a ((a, ob) :: pn)) I hg c1 ?_ hdb)⟩
  refine PySem.W.callWith_K (h₀ := X.base) I.ok.mod.kin c2 (thn (ha.run pos pins s σ H _ I h) fun us s1 ⟨vs, H1, J, rel, q⟩ => ⟨J.kIn, ?_⟩) hz2 hpl
  obtain ⟨g0, n0, nL, nF, nc⟩ := J.pin (a, ob) (List.mem_append_left _ List.mem_cons_self)
  have pin : PinOk X.stack H1 s1 (a, ob) := ⟨g0, n0, fun m => (List.mem_cons.mp (J.stkSub a m)).elim nL nF, nc⟩
  have hot : Hot1 (X.suite a ((a, ob) :: pn)).A (a, ob) := ⟨rfl, hf.elim fun vs z => ⟨vs, z, hz.2.2 vs z⟩⟩
  have n : (us ++ []).length = ps.length := by rw [List.append_nil, ← rel.length]; exact F.len _ _ _ _ _ q
  have b := c3 s1 us J.kIn n
  rw [List.append_nil] at b
  have room : RoomH k (X.suite a ((a, ob) :: pn)).A := ⟨(hr.mono hk).dp, (hr.mono hk).un⟩
  refine wpAny_call (codeAny_mono (F.run _ X.stack s1 H1 ⟨us, []⟩ us vs Q (a, ob) room hot pin J.env0 b rel q) fun r s2 z => ?_)
  match r, z with
  | .error _, z => exact z.elim
  | .ok (.ret _), z => exact J.after z
  | .ok .next, z => exact z.elim
  | .ok .brk, z => exact z.elim
  | .ok .cont, z => exact z.elim
/-- isinstance(e, c), e the error that a def got -/
theorem call_isH {X : Cx} {a D d : Addr} {ob : Obj} (C : ExcC X.K D) (hp : (a, ob) ∈ X.pn) (hz : Zc (.ref D) (some d) ob) (hf : ∃ vs, ob.data = .fields vs) :
    CallR X (.builtin "isinstance") (fun xs H Q => (∃ fs, H d = some (.xd fs)) ∧ rIsE X.K D a xs H Q) := by
  rintro pins s σ H xs us Q I r ⟨⟨fs, hd⟩, c, cv, b, rfl, hcv, e, q⟩
  cases r with
  | cons rx rr =>
    cases rr with
    | cons rt rr =>
      cases rr
      cases rx
      obtain rfl := hcv _ rt
      obtain ⟨g0, -⟩ := I.pin (a, ob) (List.mem_append_left _ hp)
      obtain ⟨vs, hv⟩ := hf
      obtain ⟨mA, hns, _⟩ := (show ObjOk X.prog X.w H s.heap d (.xd fs) from I.hok d _ hd)
      obtain ⟨od, hod, _⟩ := lookIn_ns hns
      have J : PySem.W.InstAt s.heap a ob D (some od) := by
        obtain ⟨c1, c2, c3, c4⟩ := ob
        obtain ⟨z1, z2⟩ := hz
        dsimp only at z1 z2 hv
        subst z1 z2 hv
        exact ⟨g0, rfl, rfl, hod⟩
      have cl : (PySem.W.clsIn X.K D).isSome = true := by
        obtain ⟨cd, hc, _⟩ := PySem.W.any_some C.hd
        rw [hc]
        rfl
      exact PySem.W.kia_one (PySem.W.kitx_exc cl C.hg C.hk C.hs C.ha C.hn C.ht C.hm) I.kIn J e (fun z => nomatch z) fun tk => ⟨.bl b, H, I.kept (t' := tk) fun _ _ z => z, rfl, q⟩
end Kx.Hot
/-! the text by places -/
namespace K0
open L2 PySem PySem.Spec PyProof.Rows Kx
def top (i : Nat) : Stmt := PySem.Challenge.pw_onewitness_k00_errors_and_what_they_keep.main.body.getD i (.Pass ⟨0, 0, 0, 0⟩)
abbrev s_BadMachine_init : Stmt := inClass (top 2) 0
abbrev s_BadRow_init : Stmt := inClass (top 3) 0
abbrev s_BadShowing_init : Stmt := inClass (top 4) 0
abbrev s_BadText_init : Stmt := inClass (top 5) 0
abbrev s_Refused_init : Stmt := inClass (top 6) 0
abbrev s_TooGreat_init : Stmt := inClass (top 7) 0
abbrev s_Forgets_init : Stmt := inClass (top 8) 0
abbrev s_NoState_init : Stmt := inClass (top 9) 0
abbrev s_NoDeed_init : Stmt := inClass (top 10) 0
abbrev s_is_number : Stmt := top 15
abbrev s_is_below : Stmt := top 16
abbrev s_is_sequence : Stmt := top 17
abbrev s_first_not_below : Stmt := top 18
abbrev s_row_of : Stmt := top 19
abbrev s_Counters_init : Stmt := inClass (top 23) 0
abbrev s_Counters_eq : Stmt := inClass (top 23) 1
abbrev s_are_rests : Stmt := top 24
abbrev s_is_finite : Stmt := top 25
abbrev s_can_show : Stmt := top 26
abbrev s_check_showing : Stmt := top 27
abbrev s_sizes : Stmt := top 28
abbrev s_showings_many : Stmt := top 29
abbrev s_all_showings : Stmt := top 30
abbrev s_Machine_init : Stmt := inClass (top 32) 0
abbrev s_Machine_eq : Stmt := inClass (top 32) 1
abbrev s_is_table : Stmt := top 33
abbrev s_need_state : Stmt := top 34
abbrev s_need_deed : Stmt := top 35
abbrev s_check_row : Stmt := top 36
abbrev s_in_coming_order : Stmt := top 37
abbrev s_reached : Stmt := top 38
abbrev s_forgotten : Stmt := top 39
abbrev s_need_exchanges : Stmt := top 40
abbrev s_need_text : Stmt := top 42
abbrev s_read_below : Stmt := top 43
abbrev s_read_row : Stmt := top 44
abbrev s_law_box : Stmt := top 46
abbrev s_law_take : Stmt := top 47
abbrev s_law_pick : Stmt := top 48
abbrev s_law_value : Stmt := top 49
abbrev s_law_bases : Stmt := top 50
abbrev s_law_kept_right : Stmt := top 51
abbrev s_law_ask : Stmt := top 52
abbrev s_law_raised : Stmt := top 53
abbrev s_law : Stmt := top 54
abbrev FnP (K : PySem.W.Frag) (x : Str) (st : Stmt) (f : Addr) (fd : FuncData) : Prop := FunD K x x (defArgs st) (defBody st) (defScope st) [] [] f fd
/-- the built-in names that the module leaves alone, its numbers -/
structure Mg (mg : Str → Option Value) : Prop where
  z_KeyError : mg "KeyError" = none
  z_ValueError : mg "ValueError" = none
  z_abs : mg "abs" = none
  z_bool : mg "bool" = none
  z_enumerate : mg "enumerate" = none
  z_int : mg "int" = none
  z_isinstance : mg "isinstance" = none
  z_len : mg "len" = none
  z_list : mg "list" = none
  z_range : mg "range" = none
  z_repr : mg "repr" = none
  z_sorted : mg "sorted" = none
  z_str : mg "str" = none
  z_tuple : mg "tuple" = none
  z_zip : mg "zip" = none
  g_DEEDS_MOST : ∃ t, mg "DEEDS_MOST" = some (.int 4 t)
  g_STATES_MOST : ∃ t, mg "STATES_MOST" = some (.int 8 t)
  g_ROW_MOST : ∃ t, mg "ROW_MOST" = some (.int 400 t)
  g_ROUND_MOST : ∃ t, mg "ROUND_MOST" = some (.int 60 t)
  g_REST_MOST : ∃ t, mg "REST_MOST" = some (.int 6 t)
theorem pe_constI {X : Cx} {x : Str} {i : Int} {pos : Pos} (h : ∃ t, X.mg x = some (.int i t)) (hg : Gl X x := by rfl) (hd : (x == ("__debug__" : Str)) = false := by decide) : PE X (.Name x pos) (tC (.int i)) := by
  obtain ⟨t, ht⟩ := h
  exact pe_glob hg ht ⟨t, rfl⟩ hd
theorem pe_ty {X : Cx} {x : Str} {n : String} {pos : Pos} (hm : X.mg x = none) (hv : bootBuiltins x = some (.type n)) (hg : Gl X x := by rfl) (hn : x ≠ "__name__" := by decide) (hd : (x == ("__debug__" : Str)) = false := by decide) : PE X (.Name x pos) (tC (.ty n)) :=
  pe_bltn hg hm hv rfl hn hd
theorem bt_int : bootBuiltins "int" = some (.type "int") := by decide +kernel
theorem bt_bool : bootBuiltins "bool" = some (.type "bool") := by decide +kernel
theorem bt_list : bootBuiltins "list" = some (.type "list") := by decide +kernel
theorem bt_tuple : bootBuiltins "tuple" = some (.type "tuple") := by decide +kernel
end K0
/-! t.count(k): a tuple known to have no attributes of its own; tuple(xs) makes such a one. -/
namespace Kx
open L2 PySem PySem.Spec PyProof.Rows
/-- a tuple without attributes -/
def TupD (H : Hp) (a : Addr) (xs : List V) : Prop := ∃ o : Obj, H a = some (.frz o (.tup xs)) ∧ o.dict = none
def SqD (K : PySem.W.Frag) (H : Hp) (a : Addr) (xs : List V) : Prop := SqL K H a xs ∨ TupD H a xs
section
variable {K : PySem.W.Frag} {H H' : Hp} {a : Addr} {xs : List V}
theorem TupD.sqT (h : TupD H a xs) : SqT K H a xs := h.elim fun o h => .inl (.inr ⟨o, h.1⟩)
theorem TupD.same (e : Same H H') (h : TupD H a xs) : TupD H' a xs := h.elim fun o h => ⟨o, e _ _ h.1, h.2⟩
theorem SqD.sq (h : SqD K H a xs) : Sq K H a xs := h.imp id TupD.sqT
theorem SqD.same (e : Same H H') (h : SqD K H a xs) : SqD K H' a xs := h.imp (sqL_same e) (TupD.same e)
end
section
variable {X : Cx}
/-- tuple(xs) -/
theorem call_tupD : CallR X (.type "tuple") (fun xs H Q => ∃ p ys, xs = [.ref p] ∧ SqD X.K H p ys ∧ ∀ q H', Same H H' → TupD H' q ys → Q (.ref q) H') := by
  intro pins st σ H xs us Q I r h
  obtain ⟨p, ys, rfl, h, q⟩ := h
  rcases h with hq | hq
  · obtain ⟨u, rfl, rx⟩ := vals1 r
    obtain rfl : u = .ref p := rx
    obtain ⟨its, rv, pl, fits⟩ := I.list hq
    have len := rv.length
    refine call_tuple_list pl.isList (fun mem kp => ?_) (by simp only [List.size_toArray]; omega)
    have J : Inv X pins σ H { st with heap := mem } := I.kept (t' := st.toks) kp
    have here := Heap.get?_push_size (h := mem) (o := { cls := .type "tuple", data := .seq its.toArray }) rfl
    have J2 : Inv X pins σ (upd H mem.objs.size (.frz { cls := .type "tuple", data := .seq its.toArray } (.tup ys))) { st with heap := mem.push { cls := .type "tuple", data := .seq its.toArray } } :=
      J.laid (t' := st.toks) (fun b o e => Heap.get?_push_of_some _ e) (Nat.le_refl _) ⟨here, fits, its, rv, IsTup.new _ _⟩
    exact ⟨.ref mem.objs.size, _, J2, rfl, q _ _ (same_new (J.hok.fresh (Nat.le_refl _))) ⟨_, upd_same, rfl⟩⟩
  · exact call_tuple_of pins st σ H _ us Q I r ⟨p, ys, rfl, .inr ⟨hq.sqT, q p H (Same.refl H) hq⟩⟩
/-- t.count(k) -/
def tCount (to : TE) (t : TA) : TE := fun σ H Q => to σ H fun x H1 => ∃ (p : Addr) (ns : List Int), x = .ref p ∧ TupD H1 p (ns.map V.int) ∧ t σ H1 fun ks H2 => ∃ k : Int, ks = [.int k] ∧ Same H1 H2 ∧ Q (.int (ns.count k : Nat)) H2
theorem pe_count {o e : Expr} {to : TE} {t : TA} {apos cpos : Pos} (ho : PE X o to) (ha : PA X [e] t)
    (hbase : attributeBase o "count" X.env (eval o X.env) = eval o X.env := by rfl)
    (hfew : ((backTo cpos (starEach [e] X.env)).all (fun x => !x.1) && (backToKw cpos (keywordEach [] X.env)).all (fun x => x.1.isSome) && decide ([e].length + ([] : List Keyword).length + (if ([] : List Keyword).isEmpty then 0 else 1) < 30)) = true := by rfl)
    (hline : (apos.endLine == cpos.line) = true := by exact rfl)
    (hs : starEach [e] X.env = (false, eval e X.env) :: starEach [] X.env := by rfl) (hplain : (backTo cpos (starEach [] X.env)).any (·.1) = false := by rfl) :
    PE X (.Call (.Attribute o "count" apos) [e] [] cpos) (tCount to t) := by
  refine ⟨fun pins st σ H Q I h => ?_⟩
  refine wpAny_Call_method_late hbase hfew hline rfl (thn (ho.run pins st σ H _ I h) fun v s1 ⟨x, H1, I1, r1, p, ns, ex, ⟨o, hp, od⟩, q1⟩ => ?_)
  subst ex
  obtain rfl : v = .ref p := r1
  obtain ⟨at_, _, its, rv, ⟨ot, ot1, ot2, _⟩⟩ := (show ObjOk X.prog X.w H1 s1.heap p (.frz o (.tup (ns.map V.int))) from I1.hok p _ hp)
  rw [at_] at ot1
  cases ot1
  refine ⟨"tuple", "tuple.count", PySem.F.plainAttrs_tuple, PySem.F.slot_tuple_count, PySem.F.type_tuple_count, ⟨o, at_, ot2⟩, fun a ea => ?_, ?_⟩
  · cases ea
    exact ⟨o, at_, od⟩
  have arg := ha.run cpos pins s1 σ H1 _ I1 q1
  rw [hs] at arg ⊢
  have plain : (false || (backTo cpos (starEach [] X.env)).any (·.1)) = false := by rw [hplain] <;> rfl
  refine Calls.callWith_builtin plain (Calls.evalArgs_plain ?_)
  refine thn arg fun us s2 ⟨ks, H2, I2, r2, k, ek, sm, q2⟩ => ?_
  subst ek
  obtain ⟨u, rfl, ru⟩ := r2.one
  obtain ⟨tk, rfl⟩ := ru
  obtain ⟨o2, hp2, od2⟩ := TupD.same sm (show TupD H1 p (ns.map V.int) from ⟨o, hp, od⟩)
  obtain ⟨at2, _, its2, rv2, ⟨ot2', ot3, ot4, n2, ot5⟩⟩ := (show ObjOk X.prog X.w H2 s2.heap p (.frz o2 (.tup (ns.map V.int))) from I2.hok p _ hp2)
  rw [at2] at ot3
  cases ot3
  obtain ⟨cls, dct, data, slo⟩ := o2
  simp only at ot4 ot5
  subst ot4 ot5
  have hi := ints_of_vals rv2
  refine call_meets PySem.F.slot_tuple_count ⟨_, at2, rfl⟩ PySem.F.entry_tuple_count (PySem.F.args_tuple_count_2 _ _)
    (SeqAt.tuple_countAt p its2.toArray n2 dct slo (.int k tk) (eqk k)) ⟨at2, fun y hy => (eqk_gives hi y (by simpa using hy)).at _ _, ?_⟩
  have ec : its2.toArray.toList.countP (eqk k) = ns.count k := eqk_count hi
  refine ⟨.int (ns.count k : Nat), H2, I2.tok _, ⟨s2.toks, ?_⟩, q2⟩
  rw [ec]
end
end Kx
/-! a tuple, that is not empty, times 0, 1, more -/
namespace Kx
open L2 PySem PySem.Spec PyProof.Rows
theorem times_one (t : Addr) (its : Array Value) (n : Nat) (dct : Option Addr) (slo : Array (Option Value)) (tk : Tok) :
    Meets (Builtin.«tuple.__mul__» ⟨[.ref t, .int 1 tk], []⟩) (fun _ R s => s.heap.get? t = some { cls := .type "tuple", dict := dct, data := .seq its n, slots := slo } ∧ R (.ok (.ret (.ref t))) s) :=
  .of_wp fun prog wo A R s h => by
    obtain ⟨mem, g, d, k, os⟩ := s
    obtain ⟨here, h⟩ := h
    have idx := AutoSeq1.idx_int
    have yes : (its.isEmpty || (1 : Int) == 1) = true := by rw [Bool.or_eq_true]; exact .inr rfl
    wp_walk using wpAny_loadPart' here
    repeat (first
      | (refine wpAny_ite_false (by decide) ?_; wp_walk using wpAny_loadPart' here)
      | (refine wpAny_ite_true (decide_eq_true yes) ?_; wp_walk using wpAny_loadPart' here))
    exact ⟨_, rfl, h⟩
theorem times_nought (t : Addr) (its : Array Value) (n : Nat) (dct : Option Addr) (slo : Array (Option Value)) (tk : Tok) (some_ : its.isEmpty = false) :
    Meets (Builtin.«tuple.__mul__» ⟨[.ref t, .int 0 tk], []⟩) (fun _ R s => s.heap.get? t = some { cls := .type "tuple", dict := dct, data := .seq its n, slots := slo } ∧ R (.ok (.ret (.ref s.heap.objs.size))) { s with heap := s.heap.push { cls := .type "tuple", data := .seq #[] } }) :=
  .of_wp fun prog wo A R s h => by
    obtain ⟨mem, g, d, k, os⟩ := s
    obtain ⟨here, h⟩ := h
    have idx := AutoSeq1.idx_int
    have no : (its.isEmpty || (0 : Int) == 1) = false := by rw [some_]; rfl
    have yes : (decide ((0 : Int) ≤ 0) || its.isEmpty) = true := rfl
    wp_walk using wpAny_loadPart' here
    repeat (first
      | (refine wpAny_ite_false (by decide) ?_; wp_walk using wpAny_loadPart' here)
      | (refine wpAny_ite_false (decide_eq_false (by rw [no]; exact Bool.false_ne_true)) ?_; wp_walk using wpAny_loadPart' here)
      | (refine wpAny_ite_true (decide_eq_true yes) ?_; wp_walk using wpAny_loadPart' here))
    exact ⟨_, rfl, h⟩
/-- t * k, t not empty -/
def rTimes (K : PySem.W.Frag) : R2 := fun x y H Q => ∃ (t : Addr) (k : Nat) (xs : List V), x = .ref t ∧ y = .int (k : Int) ∧ SqT K H t xs ∧ xs ≠ [] ∧ k ≤ 1000 ∧ xs.length ≤ 1000 ∧
  ∀ p H', Same H H' → SqT K H' p (List.replicate k xs).flatten → Q (.ref p) H'
theorem op_times {X : Cx} : OpR X (binaryOp .Mult) (rTimes X.K) := by
  intro pins st σ H x y v u Q I rx ry h
  obtain ⟨t, k, xs, rfl, rfl, hT, ne, hk, hz, q⟩ := h
  match k with
  | k + 2 =>
    refine op_repT pins st σ H _ _ v u Q I rx ry ⟨t, _, xs, rfl, rfl, hT, ne, by omega, by omega, hz, fun p hp => ?_⟩
    exact q p _ (same_new hp) (SqT.of upd_same)
  | 1 =>
    cases rx
    obtain ⟨tk, rfl⟩ := ry
    obtain ⟨its, r, ⟨⟨cls, dct, data, slo⟩, ho, hc, n, hd⟩, hs⟩ := I.tuple hT
    simp only at hc hd
    subst hc hd
    refine wpAny_binaryOp_repeat_ref (T := "tuple") (U := "int") (by decide) ⟨_, ho, rfl⟩ (fun s' => typeIs_int s' 1 tk) noFill_tuple_mul F.fills_int_mul F.slot_int_rmul repeat_tuple F.slot_int_index.lookup
      (call_meets F.slot_int_rmul (typeIs_int st 1 tk) F.entry_int_rmul (F.args_int_rmul_2 _ _) (int_rmul_tuple 1 tk t its.toArray n dct slo)
        ⟨ho, rfl, ⟨_, ho, rfl⟩, call_meets F.slot_tuple_mul ⟨_, ho, rfl⟩ F.entry_tuple_mul (F.args_tuple_mul_2 _ _) (times_one t its.toArray n dct slo tk) ⟨ho, ?_⟩⟩)
    have e : (List.replicate 1 xs).flatten = xs := by simp
    rw [e] at q
    exact ⟨.ref t, H, I, rfl, q t H (Same.refl H) hT⟩
  | 0 =>
    cases rx
    obtain ⟨tk, rfl⟩ := ry
    obtain ⟨its, r, ⟨⟨cls, dct, data, slo⟩, ho, hc, n, hd⟩, hs⟩ := I.tuple hT
    simp only at hc hd
    subst hc hd
    have full : its.toArray.isEmpty = false := by
      cases its with
      | nil =>
        cases r
        exact absurd rfl ne
      | cons a b => rfl
    refine wpAny_binaryOp_repeat_ref (T := "tuple") (U := "int") (by decide) ⟨_, ho, rfl⟩ (fun s' => typeIs_int s' 0 tk) noFill_tuple_mul F.fills_int_mul F.slot_int_rmul repeat_tuple F.slot_int_index.lookup
      (call_meets F.slot_int_rmul (typeIs_int st 0 tk) F.entry_int_rmul (F.args_int_rmul_2 _ _) (int_rmul_tuple 0 tk t its.toArray n dct slo)
        ⟨ho, rfl, ⟨_, ho, rfl⟩, call_meets F.slot_tuple_mul ⟨_, ho, rfl⟩ F.entry_tuple_mul (F.args_tuple_mul_2 _ _) (times_nought t its.toArray n dct slo tk full) ⟨ho, ?_⟩⟩)
    refine ⟨.ref st.heap.objs.size, _, I.laid (t' := st.toks) (o := .tup []) (fun b ob q => Heap.get?_push_of_some _ q) (Nat.le_refl _) ?_, rfl, q _ _ (same_new (I.hok.fresh (Nat.le_refl _))) (SqT.of upd_same)⟩
    exact ⟨Nat.zero_le _, _, .nil, IsTup.new _ _⟩
end Kx
/-! an own ==, and the != that comes of it: both answers. -/
namespace Kx
open L2 PySem PySem.Spec PyProof.Rows
/-- x == y (x != y), x an instance of the class at C, y another one or a tuple: what its own == promises, by k the answer -/
def rOwnAsk (K : PySem.W.Frag) (C : Addr) (sp : Sp) (E : XK) (neg : Bool) : R2 := fun x y H Q => ∃ (a b dx : Addr) (fs : List (Str × V)), x = .ref a ∧ y = .ref b ∧ H a = some (.ins C dx fs) ∧
  ((∃ (dy : Addr) (gs : List (Str × V)), H b = some (.ins C dy gs)) ∨ (neg = false ∧ (∃ ys, SqT K H b ys) ∧ PySem.W.notFirst K C (.type "tuple") = true)) ∧
  sp [x, y] H (fun v H' => ∃ k, v = .bl k ∧ Q (.bl (neg != k)) H') E
/-- what ==, != ask of the class at C, whose own == is at f -/
structure EqC (K : PySem.W.Frag) (C f : Addr) : Prop where
  eq : PySem.W.findIn K (.ref C) "__eq__" = some (some (.ref f))
  isFn : PySem.W.isFn K (.ref f) = true
  ne : ∃ (nm q : Str) (N : Addr) (bs : List Value) (hdct : Bool) (sn : List Str) (sub : List Value) (ab : Bool) (col : Option Bool) (dd : Option Addr) (k0 k1 k2 k3 k5 : Option Value) (newId : String) (oN oF : Obj) (es : Array DictEntry) (ep : Nat),
    K.lookup C = some (excClassObj nm q C N bs [.type "object"] hdct sn sub ab col dd k0 k1 k2 k3 k5 newId) ∧ K.lookup N = some oN ∧ oN.data = .dict es ep ∧ StrKeys es ∧ nsFind es "__eq__" = some (.ref f) ∧ nsFind es "__ne__" = none ∧ K.lookup f = some oF ∧ oF.cls = .type "function"
section
variable {X : Cx} {CX : CXT} {C f : Addr} {fd : FuncData} {ps : List Str} {n : Nat} {sp : Sp} {E : XK}
theorem own_eq (F : FnOk X.prog X.w X.K X.mg X.base CX n f fd ps sp) (T : EqC X.K C f) (hb : Binds X.K fd ps []) (hr : Room n X.A) (hx : Passes CX X E) : OpR X (compareOp .Eq) (rOwnAsk X.K C sp E false) := by
  intro pins st σ H x y v u Q I rx ry h
  obtain ⟨a, b, dx, fs, rfl, rfl, ha, hy, q⟩ := h
  obtain rfl : v = .ref a := rx
  obtain rfl : u = .ref b := ry
  obtain ⟨m1, J, _⟩ := ins_get I.hok ha
  obtain ⟨od, J, _⟩ := J.look
  obtain ⟨m, hF⟩ := I.fr
  have go : wpAny (model X.prog X.w) X.A (call (.ref f) [.ref a, .ref b]) (PySem.W.CmpBack (EP X pins σ Q)) X.xe st := by
    have hl := F.len _ _ _ _ q
    have both : Vals [V.ref a, V.ref b] [.ref a, .ref b] := .cons rfl (.cons rfl .nil)
    refine wpAny_call (codeAny_mono (F.run X.A X.stack st H ⟨[.ref a, .ref b], []⟩ [.ref a, .ref b] [.ref a, .ref b] _ E hr I.env0 (by
      have := hb st [.ref a, .ref b] I.kIn (by simpa using hl)
      simpa using this) both q) fun r s' z => ?_)
    match r, z with
    | .error e, z => exact hx pins σ H st e s' I z
    | .ok (.ret w), z =>
      obtain ⟨z', H', I', rz, k, ez, qz⟩ := I.after z
      subst ez
      cases rz
      refine (show EP X pins σ Q (.bool k) s' from ⟨.bl k, H', I', rfl, ?_⟩)
      have e : (false != k) = k := by cases k <;> rfl
      rw [e] at qz
      exact qz
    | .ok .next, z => exact z.elim
    | .ok .brk, z => exact z.elim
    | .ok .cont, z => exact z.elim
  show wpAny (model X.prog X.w) X.A (richCompare .Eq (.ref a) (.ref b)) (EP X pins σ Q) X.xe st
  rcases hy with ⟨dy, gs, hb'⟩ | ⟨_, ⟨ys, hT⟩, nf⟩
  · obtain ⟨m2, J2, _⟩ := ins_get I.hok hb'
    obtain ⟨od2, J2, _⟩ := J2.look
    exact PySem.W.cmp_K (op := .Eq) (tb := .ref C) hr.units0 hF I.ok.mod.kin J J2.type (by simp [PySem.W.notFirst]) T.eq T.isFn go
  · obtain ⟨its, _, ⟨o, ho, hc, _⟩, _⟩ := I.tuple hT
    exact PySem.W.cmp_K (op := .Eq) (tb := .type "tuple") hr.units0 hF I.ok.mod.kin J (fun A' Q' E' s' kp q' => wpAny_typeOf_ref (kp _ _ ho) (by rw [hc]; exact q')) nf T.eq T.isFn go
theorem own_ne (F : FnOk X.prog X.w X.K X.mg X.base CX n f fd ps sp) (T : EqC X.K C f) (hb : Binds X.K fd ps []) (hr : Room (n + 1) X.A) (hx : Passes CX X E) : OpR X (compareOp .NotEq) (rOwnAsk X.K C sp E true) := by
  intro pins st σ H x y v u Q I rx ry h
  obtain ⟨a, b, dx, fs, rfl, rfl, ha, hy, q⟩ := h
  obtain rfl : v = .ref a := rx
  obtain rfl : u = .ref b := ry
  obtain ⟨dy, gs, hb'⟩ : ∃ (dy : Addr) (gs : List (Str × V)), H b = some (.ins C dy gs) := hy.elim id fun z => nomatch z.1
  obtain ⟨m1, J, _⟩ := ins_get I.hok ha
  obtain ⟨m2, J2, _⟩ := ins_get I.hok hb'
  obtain ⟨od, J, _⟩ := J.look
  obtain ⟨od2, J2, _⟩ := J2.look
  obtain ⟨nm, qn, N, bs, hdct, sn, sub, ab, col, dd, k0, k1, k2, k3, k5, newId, oN, oF, es, ep, hC, hN, dN, sk, e1, e2, hF, cF⟩ := T.ne
  have O : st.heap.OwnEqNoNe a C f "object" [.type "object"] := ⟨_, oF, nm, qn, N, bs, hdct, sn, sub, ab, col, dd, k0, k1, k2, k3, k5, newId, fun y => nsFind es y, _, J.at_, J.cls, I.kIn _ _ hC, ⟨oN, es, ep, I.kIn _ _ hN, dN, sk, fun _ => rfl⟩, e1, I.kIn _ _ hF, cF, PySem.F.cmp_object.mro, PySem.F.cmp_object.eq.lookup, e2⟩
  obtain ⟨hp, g, d, t, os⟩ := st
  refine compareOp_ne_ownEq PySem.F.cmp_object O J2.at_ J2.cls (by have := hr.un; omega) ?_
  have hl := F.len _ _ _ _ q
  have both : Vals [V.ref a, V.ref b] [.ref a, .ref b] := .cons rfl (.cons rfl .nil)
  refine wpAny_call (codeAny_mono (F.run X.A.in1 X.stack _ H ⟨[.ref a, .ref b], []⟩ [.ref a, .ref b] [.ref a, .ref b] _ E hr.in1 I.env0.in1 (by
    have := hb ⟨hp, g, d, t, os⟩ [.ref a, .ref b] I.kIn (by simpa using hl)
    simpa using this) both q) fun r s' z => ?_)
  match r, z with
  | .error e, z => exact hx pins σ H _ e s' I z
  | .ok (.ret w), z =>
    obtain ⟨z', H', I', rz, k, ez, qz⟩ := I.after z
    subst ez
    cases rz
    refine ⟨k, rfl, .bl (!k), H', I', rfl, ?_⟩
    have e : (true != k) = !k := by cases k <;> rfl
    rw [e] at qz
    exact qz
  | .ok .next, z => exact z.elim
  | .ok .brk, z => exact z.elim
  | .ok .cont, z => exact z.elim
end
end Kx
/-! tuples of whole numbers, and tuples of such: as data, ==, != -/
namespace Kx
open L2 PySem PySem.Spec PyProof.Rows
abbrev dNums (ns : List Int) : PyData := .tuple (ns.map PyData.int)
abbrev dRows (rs : List (List Int)) : PyData := .tuple (rs.map dNums)
theorem dpAll_nums {K : PySem.W.Frag} {H : Hp} : ∀ (ns : List Int), DpAll K H (ns.map V.int) (ns.map PyData.int)
  | [] => .nil
  | n :: ns => .cons (.int n) (dpAll_nums ns)
theorem dp_nums {K : PySem.W.Frag} {H : Hp} {a : Addr} {ns : List Int} (h : SqT K H a (ns.map V.int)) : Dp K H (.ref a) (dNums ns) := .tup h (dpAll_nums ns)
theorem lay_nums : ∀ (ns : List Int), PyData.canLayAll0 (ns.map PyData.int) = true
  | [] => by simp only [List.map_nil, PyData.canLayAll0]
  | n :: ns => by simp only [List.map_cons, PyData.canLayAll0, PyData.canLay0, lay_nums ns, Bool.and_self]
theorem deep_nums : ∀ (ns : List Int), PyData.depthAll (ns.map PyData.int) = 0
  | [] => by simp only [List.map_nil, PyData.depthAll]
  | n :: ns => by simp only [List.map_cons, PyData.depthAll, PyData.depth, deep_nums ns, Nat.max_self]
theorem shaped_nums (ns : List Int) : SeqAt.shaped (dNums ns) = true := by
  unfold SeqAt.shaped
  simp only [PyData.canLay0, PyData.depth, lay_nums, deep_nums]
  decide
theorem eqv_nums : ∀ (xs ys : List Int), PyData.eqvAll (xs.map PyData.int) (ys.map PyData.int) = decide (xs = ys)
  | [], ys => by cases ys <;> simp [PyData.eqvAll]
  | n :: ns, [] => by simp [PyData.eqvAll]
  | x :: xs, y :: ys => by
    simp only [List.map_cons, PyData.eqvAll, PyData.eqv, eqv_nums xs ys]
    rw [Bool.eq_iff_iff]
    simp
theorem lay_rows : ∀ (rs : List (List Int)), PyData.canLayAll0 (rs.map dNums) = true
  | [] => by simp only [List.map_nil, PyData.canLayAll0]
  | n :: ns => by simp only [List.map_cons, PyData.canLayAll0, PyData.canLay0, lay_nums, lay_rows ns, Bool.and_self]
theorem deep_rows : ∀ (rs : List (List Int)), PyData.depthAll (rs.map dNums) ≤ 1
  | [] => by simp only [List.map_nil, PyData.depthAll]; decide
  | n :: ns => by
    have := deep_rows ns
    simp only [List.map_cons, PyData.depthAll, PyData.depth, deep_nums]
    omega
theorem shaped_rows (rs : List (List Int)) : SeqAt.shaped (dRows rs) = true := by
  unfold SeqAt.shaped
  have := deep_rows rs
  simp only [PyData.canLay0, PyData.depth, lay_rows, Bool.true_and]
  exact decide_eq_true (show _ ≤ 64 by omega)
theorem eqv_rows : ∀ (xs ys : List (List Int)), PyData.eqvAll (xs.map dNums) (ys.map dNums) = decide (xs = ys)
  | [], ys => by cases ys <;> simp [PyData.eqvAll]
  | n :: ns, [] => by simp [PyData.eqvAll]
  | x :: xs, y :: ys => by
    simp only [List.map_cons, PyData.eqvAll, PyData.eqv, eqv_nums x y, eqv_rows xs ys]
    rw [Bool.eq_iff_iff]
    simp
/-- t == u, t != u: tuples of whole numbers -/
def rNumsEq (K : PySem.W.Frag) (neg : Bool) : R2 := fun x y H Q => ∃ (a b : Addr) (xs ys : List Int), x = .ref a ∧ y = .ref b ∧ SqT K H a (xs.map V.int) ∧ SqT K H b (ys.map V.int) ∧ Q (.bl (neg != decide (xs = ys))) H
theorem op_eqNums {X : Cx} (hu : X.A.units + 64 < cLine) : OpR X (compareOp .Eq) (rNumsEq X.K false) := by
  intro pins st σ H x y v u Q I rx ry h
  obtain ⟨a, b, xs, ys, rfl, rfl, h1, h2, q⟩ := h
  refine op_eqD hu pins st σ H _ _ v u Q I rx ry ⟨_, _, dp_nums h1, dp_nums h2, shaped_nums xs, shaped_nums ys, ?_⟩
  simp only [PyData.eqv, eqv_nums]
  rwa [Bool.false_bne] at q
theorem op_neNums {X : Cx} (hu : X.A.units + 64 < cLine) : OpR X (compareOp .NotEq) (rNumsEq X.K true) := by
  intro pins st σ H x y v u Q I rx ry h
  obtain ⟨a, b, xs, ys, rfl, rfl, h1, h2, q⟩ := h
  refine op_neD hu pins st σ H _ _ v u Q I rx ry ⟨_, _, dp_nums h1, dp_nums h2, shaped_nums xs, shaped_nums ys, ?_⟩
  simp only [PyData.eqv, eqv_nums]
  rwa [Bool.true_bne] at q
end Kx
/-! numbers, sequences, rows -/
namespace K0
open PySem PySem.Spec PyProof.Rows L2 Kx
def isNum : V → Bool
  | .int i => decide (0 ≤ i)
  | _ => false
def isBel (l : Int) : V → Bool
  | .int i => decide (0 ≤ i) && decide (i < l)
  | _ => false
/-- what a value of known kind is as a sequence: its items, none where it is none -/
inductive Long (K : PySem.W.Frag) (H : Hp) : V → Option (List V) → Prop
  | seq {a : Addr} {xs : List V} (h : Sq K H a xs) : Long K H (.ref a) (some xs)
  | non : Long K H .non none
  | bl (b : Bool) : Long K H (.bl b) none
  | int (i : Int) : Long K H (.int i) none
  | str (x : Str) : Long K H (.str x) none
def inLen (l m : Int) : Option (List V) → Bool
  | some xs => decide (l ≤ (xs.length : Int)) && decide ((xs.length : Int) ≤ m)
  | none => false
theorem Long.same {K : PySem.W.Frag} {H H' : Hp} {v : V} {o : Option (List V)} (e : Same H H') (h : Long K H v o) : Long K H' v o := by
  cases h with
  | seq q => exact .seq (q.same e)
  | non => exact .non
  | bl b => exact .bl b
  | int i => exact .int i
  | str x => exact .str x
theorem Kn.long {K : PySem.W.Frag} {H : Hp} {v : V} (h : Kn K H v) : ∃ o, Long K H v o := by
  cases h with
  | seq q => exact ⟨_, .seq q⟩
  | non => exact ⟨_, .non⟩
  | bl b => exact ⟨_, .bl b⟩
  | int i => exact ⟨_, .int i⟩
  | str x => exact ⟨_, .str x⟩
theorem Long.kn {K : PySem.W.Frag} {H : Hp} {v : V} {o : Option (List V)} (h : Long K H v o) : Kn K H v := by
  cases h with
  | seq q => exact .seq q
  | non => exact .non
  | bl b => exact .bl b
  | int i => exact .int i
  | str x => exact .str x
/-- the first item that is not below l -/
def fnb (l : Int) : List V → Option Nat
  | [] => none
  | x :: xs => if isBel l x = true then (fnb l xs).map (· + 1) else some 0
def optV : Option Nat → V
  | some n => .int n
  | none => .non
/-- none: a row of deeds below n; else where it is wrong -/
def rowAt (n : Int) : Option (List V) → Option Int
  | some xs => if xs.length ≤ 400 then (fnb n xs).map (fun (i : Nat) => (i : Int)) else some (-1)
  | none => some (-1)
/-- every item is of a known kind, where the sequence is no longer than m -/
def Kns (K : PySem.W.Frag) (H : Hp) (o : Option (List V)) (m : Nat) : Prop := ∀ xs, o = some xs → xs.length ≤ m → ∀ x ∈ xs, Kn K H x
theorem Kns.same {K : PySem.W.Frag} {H H' : Hp} {o : Option (List V)} {m : Nat} (e : Same H H') (h : Kns K H o m) : Kns K H' o m := fun xs q l x hx => (h xs q l x hx).same e
/-- an error C of the one field f is raised -/
def Thrown (E : XK) (H : Hp) (C : Addr) (f : Str) (v : V) : Prop := ∀ d H', Same H H' → H' d = some (.xd [(f, v)]) → E (.ref C) (some d) H'
theorem Thrown.same {E : XK} {H H' : Hp} {C : Addr} {f : Str} {v : V} (e : Same H H') (h : Thrown E H C f v) : Thrown E H' C f v := fun d H2 e2 q => h d H2 (e.trans e2) q
theorem Thrown.at_ {E : XK} {H : Hp} {C : Addr} {f : Str} {v : V} (h : Thrown E H C f v) : ∀ d, H d = none → E (.ref C) (some d) (upd H d (.xd [(f, v)])) := fun d q => h d _ (same_new q) upd_same
theorem fnb_none {l : Int} : ∀ {xs : List V}, fnb l xs = none ↔ ∀ x ∈ xs, isBel l x = true
  | [] => by simp [fnb]
  | x :: xs => by
    unfold fnb
    by_cases h : isBel l x = true
    · rw [if_pos h, Option.map_eq_none_iff, fnb_none]
      exact ⟨fun q y hy => (List.mem_cons.mp hy).elim (fun e => e ▸ h) (q y), fun q y hy => q y (List.mem_cons_of_mem _ hy)⟩
    · rw [if_neg h]
      exact ⟨fun q => (nomatch q), fun q => absurd (q x (List.mem_cons_self ..)) h⟩
theorem fnb_some {l : Int} : ∀ {xs : List V} {i : Nat}, (∀ j x, j < i → xs[j]? = some x → isBel l x = true) → (∃ x, xs[i]? = some x ∧ isBel l x = false) → fnb l xs = some i
  | [], i, _, h => by obtain ⟨x, h, _⟩ := h; simp at h
  | x :: xs, 0, _, h => by
    obtain ⟨y, h1, h2⟩ := h
    have e : x = y := by simpa using h1
    unfold fnb
    rw [e, if_neg (by rw [h2]; exact Bool.false_ne_true)]
  | x :: xs, i + 1, hl, h => by
    unfold fnb
    rw [if_pos (hl 0 x (Nat.succ_pos i) rfl), fnb_some (i := i) (fun j y hj hy => hl (j + 1) y (Nat.succ_lt_succ hj) (by simpa using hy)) (by simpa using h)]
    rfl
/-- the errors' classes -/
structure Ad where
  cM : Addr
  cR : Addr
  cS : Addr
  cT : Addr
  cF : Addr
  cG : Addr
  cO : Addr
  cN : Addr
  cD : Addr
/-- what the module holds of its errors -/
structure Er (P : Program) (w : World) (K : PySem.W.Frag) (mg : Str → Option Value) (base : Heap) (a : Ad) : Prop where
  BadMachine : ErrN P w K mg base 1 "BadMachine" "at" a.cM
  BadRow : ErrN P w K mg base 1 "BadRow" "at" a.cR
  BadShowing : ErrN P w K mg base 1 "BadShowing" "at" a.cS
  BadText : ErrN P w K mg base 1 "BadText" "at" a.cT
  Refused : ErrN P w K mg base 1 "Refused" "at" a.cF
  TooGreat : ErrN P w K mg base 1 "TooGreat" "most" a.cG
  Forgets : ErrF P w K mg base 1 "Forgets" "deed" "one" "other" a.cO
  NoState : ErrN P w K mg base 1 "NoState" "state" a.cN
  NoDeed : ErrN P w K mg base 1 "NoDeed" "deed" a.cD
def spNumber (K : PySem.W.Frag) : Sp := fun vs H Q _ => ∃ v, vs = [v] ∧ Kn K H v ∧ Q (.bl (isNum v)) H
def spBelow (K : PySem.W.Frag) : Sp := fun vs H Q _ => ∃ v l, vs = [v, .int l] ∧ Kn K H v ∧ Q (.bl (isBel l v)) H
def spSeq (K : PySem.W.Frag) : Sp := fun vs H Q _ => ∃ v l m o, vs = [v, .int l, .int m] ∧ Long K H v o ∧ ∀ H', Same H H' → Q (.bl (inLen l m o)) H'
def spFnb (K : PySem.W.Frag) : Sp := fun vs H Q _ => ∃ a xs l, vs = [.ref a, .int l] ∧ Sq K H a xs ∧ (∀ x ∈ xs, Kn K H x) ∧ ∀ H', Same H H' → Q (optV (fnb l xs)) H'
def spRowOf (K : PySem.W.Frag) (a : Ad) : Sp := fun vs H Q E => ∃ v o n, vs = [v, .int n] ∧ Long K H v o ∧ Kns K H o 400 ∧ (∀ i, rowAt n o = some i → Thrown E H a.cR "at" (.int i)) ∧
  (rowAt n o = none → ∃ b xs, v = .ref b ∧ o = some xs ∧ SqD K H b xs ∧ ∀ p H', Same H H' → TupD H' p xs → Q (.ref p) H')
/-- the type's name of such a value, where it is no int -/
theorem kn_ty {K : PySem.W.Frag} {H : Hp} {v : V} (h : Kn K H v) : (∃ i, v = .int i) ∨ ∃ n : String, TyX K H v (.type n) ∧ (n = "NoneType" ∨ n = "bool" ∨ n = "str" ∨ n = "list" ∨ n = "tuple") ∧ isNum v = false ∧ ∀ l, isBel l v = false := by
  cases h with
  | int i => exact .inl ⟨i, rfl⟩
  | non => exact .inr ⟨_, .base .non, by simp, rfl, fun _ => rfl⟩
  | bl b => exact .inr ⟨_, .base (.bl b), by simp, rfl, fun _ => rfl⟩
  | str x => exact .inr ⟨_, .base (.str x), by simp, rfl, fun _ => rfl⟩
  | seq q =>
    rcases q with q | q
    · exact .inr ⟨_, tyx_list q, by simp, rfl, fun _ => rfl⟩
    · exact .inr ⟨_, tyx_tuple q, by simp, rfl, fun _ => rfl⟩
theorem kit_int {K : PySem.W.Frag} {n : String} (h : n = "NoneType" ∨ n = "bool" ∨ n = "str" ∨ n = "list" ∨ n = "tuple") : ∃ b, PySem.W.kitOne K (.type n) (.type "int") = some b ∧ (b = true → PySem.W.kitOne K (.type n) (.type "bool") = some true) := by
  rcases h with rfl | rfl | rfl | rfl | rfl
  · exact ⟨false, kit_ty (by decide +kernel), fun z => nomatch z⟩
  · exact ⟨true, kit_ty (by decide +kernel), fun _ => kit_ty (by decide +kernel)⟩
  · exact ⟨false, kit_ty (by decide +kernel), fun z => nomatch z⟩
  · exact ⟨false, kit_ty (by decide +kernel), fun z => nomatch z⟩
  · exact ⟨false, kit_ty (by decide +kernel), fun z => nomatch z⟩
section
variable {P : Program} {w : World} {K : PySem.W.Frag} {mg : Str → Option Value} {base : Heap} {f : Addr} {fd : FuncData} {a : Ad}
theorem scis_number : FnScope ["value"] ["value"] (defScope s_is_number) := ⟨rfl, rfl, rfl, by decide +kernel, rfl, by decide +kernel, by decide +kernel⟩
theorem ok_is_number (F : FnP K "is_number" s_is_number f fd) (T : Mg mg) : FnOk P w K mg base CX0 1 f fd ["value"] (spNumber K) := by
  refine F.ok scis_number (fun vs H Q E h => ?_) (fun cdv A outer s H vs Q E hr h => ?_)
  · obtain ⟨v, rfl, _⟩ := h
    rfl
  · obtain ⟨v, rfl, hv, k⟩ := h
    refine ⟨_, PSs.nox (pss_one (ps_ret (pe_and (pe_callB call_isi (by rfl) T.z_isinstance (by decide +kernel) (pa_cons (pv 0) (pa_cons (pe_ty T.z_int bt_int) pa_nil))) (pe_and (pe_not (pe_callB call_isi (by rfl) T.z_isinstance (by decide +kernel) (pa_cons (pv 0) (pa_cons (pe_ty T.z_bool bt_bool) pa_nil)))) (pe_one (pe_cmpR op_ge (pv 0) pe_int (nomark _))))))), ?_⟩
    rcases kn_ty hv with ⟨i, rfl⟩ | ⟨n, ht, hn, e, _⟩
    · refine ⟨_, rfl, _, .ty "int", _, _, true, rfl, .ty _, .base (.int i), kit_ty (by decide +kernel), true, rfl, iteT ?_⟩
      refine ⟨_, rfl, _, .ty "bool", _, _, false, rfl, .ty _, .base (.int i), kit_ty (by decide +kernel), false, rfl, true, rfl, iteT ⟨_, rfl, _, _, rfl, rfl, ?_⟩⟩
      exact k
    · obtain ⟨b, hb, hb2⟩ := kit_int (K := K) hn
      rw [e] at k
      refine ⟨_, rfl, _, .ty "int", _, _, b, rfl, .ty _, ht, hb, b, rfl, ?_⟩
      cases b with
      | false => exact iteF k
      | true => exact iteT ⟨_, rfl, _, .ty "bool", _, _, true, rfl, .ty _, ht, hb2 rfl, true, rfl, false, rfl, iteF k⟩
theorem sc_is_below : FnScope ["value", "limit"] ["value", "limit"] (defScope s_is_below) := ⟨rfl, rfl, rfl, by decide +kernel, rfl, by decide +kernel, by decide +kernel⟩
theorem ok_is_below (F : FnP K "is_below" s_is_below f fd) (T : Mg mg) (c_is_number : Cal P w K mg base CX0 1 "is_number" ["value"] (spNumber K)) : FnOk P w K mg base CX0 2 f fd ["value", "limit"] (spBelow K) := by
  refine F.ok sc_is_below (fun vs H Q E h => ?_) (fun cdv A outer s H vs Q E hr h => ?_)
  · obtain ⟨v, l, rfl, _⟩ := h
    rfl
  · obtain ⟨v, l, rfl, hv, k⟩ := h
    refine ⟨_, PSs.nox (pss_one (ps_ret (pe_and (pe_callC c_is_number hr pass0 (pa_cons (pv 0) pa_nil)) (pe_one (pe_cmpR op_lt (pv 0) (pv 1) (nomark _)))))), ?_⟩
    refine ⟨_, rfl, v, rfl, hv, isNum v, rfl, ?_⟩
    cases e : isNum v with
    | false =>
      refine iteF ?_
      have e2 : isBel l v = false := by
        cases v <;> first | rfl | (have e' : decide _ = false := e; show (decide _ && decide _) = false; rw [e']; rfl)
      rw [e2] at k
      exact k
    | true =>
      refine iteT ?_
      obtain ⟨i, rfl⟩ : ∃ i, v = .int i := by
        cases v with
        | int i => exact ⟨i, rfl⟩
        | _ => cases e
      refine ⟨_, rfl, _, rfl, _, _, rfl, rfl, ?_⟩
      have e2 : isBel l (.int i) = decide (i < l) := by
        show (decide _ && decide _) = _
        rw [show decide (0 ≤ i) = true from e]
        rfl
      rw [e2] at k
      exact k
theorem sc_is_sequence : FnScope ["value", "least", "most"] ["value", "least", "most"] (defScope s_is_sequence) := ⟨rfl, rfl, rfl, by decide +kernel, rfl, by decide +kernel, by decide +kernel⟩
theorem kit_seq {K : PySem.W.Frag} {n : String} {b : Bool} (h1 : n = "list" ∨ n = "tuple" → b = true) (h2 : n = "NoneType" ∨ n = "bool" ∨ n = "str" ∨ n = "int" → b = false) (hn : (n = "list" ∨ n = "tuple") ∨ n = "NoneType" ∨ n = "bool" ∨ n = "str" ∨ n = "int") :
    PySem.W.kitAny K (.type n) [.type "list", .type "tuple"] = some b := by
  rcases hn with hn | hn
  · obtain rfl := h1 hn
    rcases hn with rfl | rfl
    · exact kitAny_cons (b := true) (kit_ty (by decide +kernel)) (fun z => nomatch z) (fun _ => rfl)
    · exact kitAny_cons (b := false) (kit_ty (by decide +kernel)) (fun _ => kitAny_cons (b := true) (kit_ty (by decide +kernel)) (fun z => nomatch z) (fun _ => rfl)) (fun z => nomatch z)
  · obtain rfl := h2 hn
    rcases hn with rfl | rfl | rfl | rfl
    · exact kitAny_cons (b := false) (kit_ty (by decide +kernel)) (fun _ => kitAny_cons (b := false) (kit_ty (by decide +kernel)) (fun _ => kitAny_nil) (fun z => nomatch z)) (fun z => nomatch z)
    · exact kitAny_cons (b := false) (kit_ty (by decide +kernel)) (fun _ => kitAny_cons (b := false) (kit_ty (by decide +kernel)) (fun _ => kitAny_nil) (fun z => nomatch z)) (fun z => nomatch z)
    · exact kitAny_cons (b := false) (kit_ty (by decide +kernel)) (fun _ => kitAny_cons (b := false) (kit_ty (by decide +kernel)) (fun _ => kitAny_nil) (fun z => nomatch z)) (fun z => nomatch z)
    · exact kitAny_cons (b := false) (kit_ty (by decide +kernel)) (fun _ => kitAny_cons (b := false) (kit_ty (by decide +kernel)) (fun _ => kitAny_nil) (fun z => nomatch z)) (fun z => nomatch z)
theorem long_ty {H : Hp} {v : V} {o : Option (List V)} (h : Long K H v o) : ∃ n : String, TyX K H v (.type n) ∧ PySem.W.kitAny K (.type n) [.type "list", .type "tuple"] = some o.isSome := by
  cases h with
  | non => exact ⟨_, .base .non, kit_seq (by simp) (by simp) (by simp)⟩
  | bl b => exact ⟨_, .base (.bl b), kit_seq (by simp) (by simp) (by simp)⟩
  | int i => exact ⟨_, .base (.int i), kit_seq (by simp) (by simp) (by simp)⟩
  | str x => exact ⟨_, .base (.str x), kit_seq (by simp) (by simp) (by simp)⟩
  | seq q =>
    rcases q with q | q
    · exact ⟨_, tyx_list q, kit_seq (by simp) (by simp) (by simp)⟩
    · exact ⟨_, tyx_tuple q, kit_seq (by simp) (by simp) (by simp)⟩
theorem ok_is_sequence (F : FnP K "is_sequence" s_is_sequence f fd) (T : Mg mg) : FnOk P w K mg base CX0 1 f fd ["value", "least", "most"] (spSeq K) := by
  refine F.ok sc_is_sequence (fun vs H Q E h => ?_) (fun cdv A outer s H vs Q E hr h => ?_)
  · obtain ⟨v, l, m, o, rfl, _⟩ := h
    rfl
  · obtain ⟨v, l, m, o, rfl, hv, k⟩ := h
    refine ⟨_, PSs.nox (pss_one (ps_ret (pe_and (pe_callB call_isiT (by rfl) T.z_isinstance (by decide +kernel) (pa_cons (pv 0) (pa_cons (pe_tup (pa_cons (pe_ty T.z_list bt_list) (pa_cons (pe_ty T.z_tuple bt_tuple) pa_nil))) pa_nil))) (pe_one (pe_chain op_le op_le (pv 1) (pe_callB call_len_seq (by rfl) T.z_len PySem.boot_len (pa_cons (pv 0) pa_nil)) (pv 2)))))), ?_⟩
    refine ⟨_, rfl, (by show 2 ≤ sizeLine; decide), fun p hp => ?_⟩
    have e := same_new (o := HO.tup [.ty "list", .ty "tuple"]) hp
    obtain ⟨n, ht, hk⟩ := long_ty (hv.same e)
    refine ⟨v, p, _, .type n, _, o.isSome, rfl, upd_same, .cons (.ty _) (.cons (.ty _) .nil), ht, hk, _, rfl, ?_⟩
    cases o with
    | none => exact iteF (k _ e)
    | some xs =>
      refine iteT ?_
      cases hv with
      | seq q =>
        have q' := q.same e
        refine ⟨_, rfl, _, rfl, _, _, rfl, q', _, _, rfl, rfl, decide (l ≤ (xs.length : Int)), rfl, ?_⟩
        refine ite2 (fun h1 => ?_) (fun h1 => ?_)
        · refine ⟨_, rfl, _, _, rfl, rfl, ?_⟩
          have k2 := k _ e
          rw [show inLen l m (some xs) = decide ((xs.length : Int) ≤ m) from by show (decide _ && _) = _; rw [h1]; rfl] at k2
          exact k2
        · have k2 := k _ e
          rw [show inLen l m (some xs) = false from by show (decide _ && _) = _; rw [Bool.eq_false_iff.mpr h1]; rfl] at k2
          exact k2
end
end K0
namespace K0
open PySem PySem.Spec PyProof.Rows L2 Kx
section
variable {P : Program} {w : World} {K : PySem.W.Frag} {mg : Str → Option Value} {base : Heap} {f : Addr} {fd : FuncData} {a : Ad}
theorem passC {X : Cx} {W : WX} {E : XK} (tk : L2N.Takes X W) (h : ∀ cls d σ H, E cls d H → W cls d σ H) : Passes (L2N.CX X.prog X.w) X E := L2N.passes_call tk h
theorem inLen_some {l m : Int} {xs : List V} : inLen l m (some xs) = (decide (l ≤ (xs.length : Int)) && decide ((xs.length : Int) ≤ m)) := rfl
theorem optV_non {o : Option Nat} : decide (optV o = V.non) = o.isNone := by
  cases o with
  | none => rfl
  | some n => exact decide_eq_false (fun z => nomatch z)
theorem sc_first_not_below : FnScope ["values", "limit", "at", "value"] ["values", "limit"] (defScope s_first_not_below) := ⟨rfl, rfl, rfl, by decide +kernel, rfl, by decide +kernel, by decide +kernel⟩
theorem ok_first_not_below (F : FnP K "first_not_below" s_first_not_below f fd) (T : Mg mg) (c_is_below : Cal P w K mg base CX0 2 "is_below" ["value", "limit"] (spBelow K)) : FnOk P w K mg base CX0 3 f fd ["values", "limit"] (spFnb K) := by
  refine F.ok sc_first_not_below (fun vs H Q E h => ?_) (fun cdv A outer s H vs Q E hr h => ?_)
  · obtain ⟨a, xs, l, rfl, _⟩ := h
    rfl
  · obtain ⟨a, xs, l, rfl, hx, hk, k⟩ := h
    refine ⟨_, PSs.nox (pss_cons (ps_for PassesOwn.never rfl (pi_pairs (by rfl) T.z_enumerate (pa_cons (pv 0) pa_nil)) (pg_tup rfl (pgs_cons (pg_name (i := 2) sc_first_not_below.nd rfl (by first | exact Or.inl rfl | exact Or.inr rfl)) (pgs_cons (pg_name (i := 3) sc_first_not_below.nd rfl (by first | exact Or.inl rfl | exact Or.inr rfl)) pgs_nil)))
        (pss_one (ps_if (pt_not (pt_val (pe_callC c_is_below hr pass0 (pa_cons (pv 3) (pa_cons (pv 1) pa_nil)))))
          (pss_one (ps_ret (pv 2)))
          pss_nil)))
      (pss_one (ps_ret pe_non))), ?_⟩
    refine ⟨_, rfl, a, xs, rfl, for_pairs hx (fun i σ' H' => ∃ x y, σ' = [some (.ref a), some (.int l), x, y] ∧ Same H H' ∧ ∀ j z, j < i → xs[j]? = some z → isBel l z = true) ⟨_, _, rfl, Same.refl H, fun j z hj => absurd hj (Nat.not_lt_zero j)⟩ (fun i σ' H' q => q.elim fun _ q => q.elim fun _ q => q.2.1) ?_ ?_⟩
    · rintro i x p σ' H' hx' ⟨_, _, rfl, e, hl⟩ hp
      refine ⟨p, _, rfl, SqT.of upd_same, rfl, ?_⟩
      refine ⟨_, _, rfl, _, _, rfl, rfl, ?_⟩
      refine ⟨x, rfl, _, rfl, x, l, rfl, ((hk x (List.mem_of_getElem? hx')).same e).same (same_new hp), isBel l x, rfl, ?_⟩
      cases eb : isBel l x with
      | true =>
        refine iteF ⟨_, _, rfl, e.trans (same_new hp), fun j z hj hz => ?_⟩
        rcases Nat.lt_or_eq_of_le (Nat.le_of_lt_succ hj) with h | rfl
        · exact hl j z h hz
        · rw [hx'] at hz
          cases hz
          exact eb
      | false =>
        refine iteT ⟨_, rfl, ?_⟩
        rw [fnb_some (i := i) hl ⟨x, hx', eb⟩] at k
        exact k _ (e.trans (same_new hp))
    · rintro σ' H' ⟨_, _, rfl, e, hl⟩
      have := k _ e
      rw [fnb_none.mpr fun x hx => by
        obtain ⟨j, hj⟩ := List.getElem?_of_mem (hx : x ∈ xs)
        exact hl j x (List.getElem?_eq_some_iff.mp hj).1 hj] at this
      exact this
theorem sc_row_of : FnScope ["value", "deeds", "at"] ["value", "deeds"] (defScope s_row_of) := ⟨rfl, rfl, rfl, by decide +kernel, rfl, by decide +kernel, by decide +kernel⟩
theorem ok_row_of (F : FnP K "row_of" s_row_of f fd) (T : Mg mg) (R : Er P w K mg base a) (c_is_sequence : Cal P w K mg base CX0 1 "is_sequence" ["value", "least", "most"] (spSeq K)) (c_first_not_below : Cal P w K mg base CX0 3 "first_not_below" ["values", "limit"] (spFnb K)) :
    FnOk P w K mg base (L2N.CX P w) 4 f fd ["value", "deeds"] (spRowOf K a) := by
  refine F.ok sc_row_of (fun vs H Q E h => ?_) (fun cdv A outer s H vs Q E hr h => ?_)
  · obtain ⟨v, o, n, rfl, _⟩ := h
    rfl
  · obtain ⟨v, o, n, rfl, hv, hk, bad, good⟩ := h
    refine ⟨_, (pss_cons (ps_if (pt_not (pt_val (pe_callC c_is_sequence hr pass0 (pa_cons (pv 0) (pa_cons pe_int (pa_cons (pe_constI T.g_ROW_MOST) pa_nil))))))
        (pss_one (psN R.BadRow rfl hr (L2N.takes_of rfl rfl rfl rfl) (pa_cons (pe_un un_neg pe_int) pa_nil)))
        pss_nil)
      (pss_cons (ps_set (i := 2) sc_row_of.nd rfl (by first | exact Or.inl rfl | exact Or.inr rfl) (pe_callC c_first_not_below hr pass0 (pa_cons (pv 0) (pa_cons (pv 1) pa_nil))))
      (pss_cons (ps_if (pt_cmpR op_notN (pv 2) pe_non (nomark _))
        (pss_one (psN R.BadRow rfl hr (L2N.takes_of rfl rfl rfl rfl) (pa_cons (pv 2) pa_nil)))
        pss_nil)
      (pss_one (ps_ret (pe_callTy call_tupD (by rfl) T.z_tuple (by decide +kernel) (pa_cons (pv 0) pa_nil))))))), ?_⟩
    refine ⟨_, rfl, _, 0, 400, o, rfl, hv, fun H1 e1 => ⟨inLen 0 400 o, rfl, ?_⟩⟩
    cases ei : inLen 0 400 o with
    | false =>
      have far : rowAt n o = some (-1) := by
        cases o with
        | none => rfl
        | some xs =>
          refine if_neg fun z => ?_
          rw [inLen_some, decide_eq_true (by omega), decide_eq_true (by omega)] at ei
          cases ei
      exact iteT ⟨1, rfl, thrownN ((bad _ far).same e1).at_⟩
    | true =>
      refine iteF ?_
      cases o with
      | none => cases ei
      | some xs =>
      cases hv with
      | @seq b _ hv =>
      have hl : xs.length ≤ 400 := by
        have z := ei
        rw [inLen_some, Bool.and_eq_true] at z
        have := of_decide_eq_true z.2
        omega
      have ra : rowAt n (some xs) = (fnb n xs).map (fun (i : Nat) => (i : Int)) := if_pos hl
      rw [ra] at bad good
      refine ⟨_, rfl, _, rfl, b, xs, n, rfl, hv.same e1, fun x hx => (hk _ rfl hl x hx).same e1, fun H2 e2 => ?_⟩
      have e3 := e1.trans e2
      refine ⟨optV (fnb n xs), rfl, rfl, ?_⟩
      cases ef : fnb n xs with
      | some i =>
        rw [ef] at bad
        refine ⟨true, rfl, iteT ?_⟩
        exact ⟨_, rfl, thrownN ((bad _ rfl).same e3).at_⟩
      | none =>
        rw [ef] at good
        obtain ⟨b', xs', q1, q2, hd, good⟩ := good rfl
        cases q1
        cases q2
        refine ⟨false, rfl, iteF ?_⟩
        exact ⟨_, rfl, b, xs, rfl, hd.same e3, fun p H4 e4 hp => good p H4 (e3.trans e4) hp⟩
end
end K0
/-! comprehensions whose list is known ahead, item by item -/
namespace Kx
open L2 PySem PySem.Spec PyProof.Rows
/-- i items of out are made, at D -/
def Part (H1 : Hp) (D : Addr) (out : List V) (i : Nat) (H : Hp) : Prop := H D = some (.lst (out.take i)) ∧ Same H1 H
section
variable {H1 H H' : Hp} {D : Addr} {out : List V} {i : Nat} {y : V}
theorem Part.zero (hD : H1 D = none) : Part H1 D out 0 (upd H1 D (.lst [])) := ⟨upd_same, same_new hD⟩
theorem Part.step (p : Part H1 D out i H) (hD : H1 D = none) (e : Same H H') (hy : out[i]? = some y) (fits : out.length ≤ sizeLine) :
    ∃ acc, H' D = some (.lst acc) ∧ acc.length < sizeLine ∧ Part H1 D out (i + 1) (upd H' D (.lst (acc ++ [y]))) := by
  have lt := (List.getElem?_eq_some_iff.mp hy).1
  refine ⟨_, e _ _ p.1, by rw [List.length_take]; omega, ?_, fun b o hb => ?_⟩
  · rw [upd_same, List.take_add_one, hy] <;> rfl
  · rw [upd_ne (ne_of_none hb hD)]
    exact e _ _ (p.2 _ _ hb)
theorem Part.done {n : Nat} (p : Part H1 D out n H) (h : out.length ≤ n) : H D = some (.lst out) ∧ Same H1 H := by
  have q := p.1
  rw [List.take_of_length_le h] at q
  exact ⟨q, p.2⟩
end
theorem yes {σ : L2.St} {H : Hp} {Q : Bool → Hp → Prop} (h : Q true H) : tYes σ H Q := h
/-- a comprehension's W by a word of the turn -/
theorem lc_by {J : It} {n : Nat} {g : TG} {tt : TT} {te : TE} {vs : List Nat} {σ : L2.St} {Q : VK} {D : Addr} {H0 : Hp} (Pv : Nat → Hp → Prop) (h0 : Pv 0 H0)
    (go : ∀ i H, i < n → Pv i H → J.go i H ∧ ∀ x H', J.yld i H x H' → g x (wipe σ vs) H' fun σ2 H2 => wipe σ2 vs = wipe σ vs ∧ tt σ2 H2 fun b H3 =>
      if b = true then te σ2 H3 fun y H4 => ∃ acc, H4 D = some (.lst acc) ∧ acc.length < sizeLine ∧ Pv (i + 1) (upd H4 D (.lst (acc ++ [y]))) else Pv (i + 1) H3)
    (stop : ∀ H, Pv n H → J.stop n H ∧ Q (.ref D) H) :
    ∃ W : Nat → Nat → Hp → Prop, (∃ m, W 0 m H0) ∧ ∀ i m H, W i m H → (J.stop i H ∧ Q (.ref D) H) ∨ (J.go i H ∧ ∃ Nx : Hp → Prop, (∀ H', Nx H' → ∃ m', m' < m ∧ W (i + 1) m' H') ∧ ∀ x H', J.yld i H x H' → g x (wipe σ vs) H' fun σ2 H2 => wipe σ2 vs = wipe σ vs ∧ tt σ2 H2 fun b H3 =>
      if b = true then te σ2 H3 (fun y H4 => ∃ acc, H4 D = some (.lst acc) ∧ acc.length < sizeLine ∧ Nx (upd H4 D (.lst (acc ++ [y])))) else Nx H3) := by
  refine ⟨fun i m H => m = n - i ∧ i ≤ n ∧ Pv i H, ⟨n, rfl, Nat.zero_le n, h0⟩, ?_⟩
  rintro i m H ⟨rfl, le, p⟩
  rcases Nat.lt_or_eq_of_le le with lt | rfl
  · obtain ⟨g1, g2⟩ := go i H lt p
    exact .inr ⟨g1, Pv (i + 1), fun H' p' => ⟨n - (i + 1), by omega, rfl, lt, p'⟩, g2⟩
  · exact .inl (stop H p)
/-- the same for any body of the turn -/
theorem turns {J : It} {n : Nat} {Z : Hp → Prop} {H0 : Hp} {B : (Hp → Prop) → V → Hp → Prop} (Pv : Nat → Hp → Prop) (h0 : Pv 0 H0) (go : ∀ i H, i < n → Pv i H → J.go i H ∧ ∀ x H', J.yld i H x H' → B (Pv (i + 1)) x H') (stop : ∀ H, Pv n H → J.stop n H ∧ Z H) :
    ∃ W : Nat → Nat → Hp → Prop, (∃ m, W 0 m H0) ∧ ∀ i m H, W i m H → (J.stop i H ∧ Z H) ∨ (J.go i H ∧ ∃ Nx : Hp → Prop, (∀ H', Nx H' → ∃ m', m' < m ∧ W (i + 1) m' H') ∧ ∀ x H', J.yld i H x H' → B Nx x H') := by
  refine ⟨fun i m H => m = n - i ∧ i ≤ n ∧ Pv i H, ⟨n, rfl, Nat.zero_le n, h0⟩, ?_⟩
  rintro i m H ⟨rfl, le, p⟩
  rcases Nat.lt_or_eq_of_le le with lt | rfl
  · obtain ⟨g1, g2⟩ := go i H lt p
    exact .inr ⟨g1, Pv (i + 1), fun H' p' => ⟨n - (i + 1), by omega, rfl, lt, p'⟩, g2⟩
  · exact .inl (stop H p)
/-- t + u, any tuples -/
def rCatS (K : PySem.W.Frag) : R2 := fun x y H Q => ∃ (a b : Addr) (xs ys : List V), x = .ref a ∧ y = .ref b ∧ SqT K H a xs ∧ SqT K H b ys ∧ xs.length + ys.length ≤ sizeLine ∧ ∀ p H', Same H H' → SqT K H' p (xs ++ ys) → Q (.ref p) H'
theorem op_catS {X : Cx} {K : PySem.W.Frag} (hK : X.K = K := by rfl) : OpR X (binaryOp .Add) (rCatS K) := by
  subst hK
  intro pins st σ H x y v u Q I rx ry h
  obtain ⟨a, b, xs, ys, rfl, rfl, h1, h2, fits, key⟩ := h
  refine op_catA pins st σ H _ _ v u Q I rx ry ⟨a, b, xs, ys, rfl, rfl, h1, h2, fits, fun e => ?_, fun _ e => ?_, fun _ _ p hp => key p _ (same_new hp) (SqT.of upd_same)⟩
  · subst e
    exact key b H (Same.refl H) h2
  · subst e
    exact key a H (Same.refl H) (by rw [List.append_nil]; exact h1)
end Kx
/-! machines are made, compared -/
namespace K0
open PySem PySem.Spec PyProof.Rows L2 Kx
theorem r64 {k : Nat} {A : Around} (r : Room k A) : A.units + 64 < cLine := by have := r.un; omega
theorem fnb_ints {l : Int} : ∀ {xs : List V}, fnb l xs = none → ∃ ns : List Int, xs = ns.map V.int ∧ ∀ n ∈ ns, 0 ≤ n ∧ n < l
  | [], _ => ⟨[], rfl, fun _ h => nomatch h⟩
  | x :: xs, h => by
    have h' := fnb_none.mp h
    obtain ⟨ns, rfl, hn⟩ := fnb_ints (xs := xs) (fnb_none.mpr fun y hy => h' y (List.mem_cons_of_mem _ hy))
    have hx := h' x (List.mem_cons_self ..)
    cases x with
    | int i =>
      have hx : (decide (0 ≤ i) && decide (i < l)) = true := hx
      rw [Bool.and_eq_true] at hx
      refine ⟨i :: ns, rfl, fun n hn' => (List.mem_cons.mp hn').elim (fun e => ?_) (hn n)⟩
      subst e
      exact ⟨of_decide_eq_true hx.1, of_decide_eq_true hx.2⟩
    | _ => exact absurd hx Bool.false_ne_true
theorem fnb_of {l : Int} {ns : List Int} (h : ∀ n ∈ ns, 0 ≤ n ∧ n < l) : fnb l (ns.map V.int) = none := fnb_none.mpr fun x hx => by
  obtain ⟨n, hn, rfl⟩ := List.mem_map.mp hx
  show (decide (0 ≤ n) && decide (n < l)) = true
  rw [decide_eq_true (h n hn).1, decide_eq_true (h n hn).2]
  rfl
theorem tup_of {K : PySem.W.Frag} {H : Hp} {a : Addr} {xs : List V} {Q : VK} (q : Sq K H a xs) (key : ∀ p H', Same H H' → SqT K H' p xs → Q (.ref p) H') : (SqL K H a xs ∧ ∀ l, H l = none → Q (.ref l) (upd H l (.tup xs))) ∨ (SqT K H a xs ∧ Q (.ref a) H) :=
  q.imp (fun q => ⟨q, fun l hl => key l _ (same_new hl) (SqT.of upd_same)⟩) fun q => ⟨q, key a H (Same.refl H) q⟩
theorem call_tup {X : Cx} : CallR X (.type "tuple") (fun xs H Q => ∃ p ys, xs = [.ref p] ∧ Sq X.K H p ys ∧ ∀ q H', Same H H' → SqT X.K H' q ys → Q (.ref q) H') := fun pins s σ H vs us Q I r ⟨p, ys, e, q, key⟩ =>
  call_tuple_of pins s σ H vs us Q I r ⟨p, ys, e, tup_of q key⟩
theorem rd_ins {H : Hp} {x a C dx : Addr} {fs gs : List (Str × V)} {u : HO} (hx : H x = some (.ins C dx fs)) (n1 : ∀ C dx fs, u ≠ .ins C dx fs) (q : Rd H a u) : Rd (upd H x (.ins C dx gs)) a u :=
  q.elim (fun q => .inl (by rw [upd_ne (ne_of q hx (n1 _ _ _))]; exact q)) fun ⟨z, q⟩ => .inr ⟨z, by rw [upd_ne (ne_of q hx (fun z => nomatch z))]; exact q⟩
theorem sqL_ins {K : PySem.W.Frag} {H : Hp} {x a C dx : Addr} {fs gs : List (Str × V)} {xs : List V} (hx : H x = some (.ins C dx fs)) (h : SqL K H a xs) : SqL K (upd H x (.ins C dx gs)) a xs := h.imp (rd_ins hx fun _ _ _ z => nomatch z) id
theorem sqT_ins {K : PySem.W.Frag} {H : Hp} {x a C dx : Addr} {fs gs : List (Str × V)} {xs : List V} (hx : H x = some (.ins C dx fs)) (h : SqT K H a xs) : SqT K (upd H x (.ins C dx gs)) a xs := h.imp (rd_ins hx fun _ _ _ z => nomatch z) id
theorem sq_ins {K : PySem.W.Frag} {H : Hp} {x a C dx : Addr} {fs gs : List (Str × V)} {xs : List V} (hx : H x = some (.ins C dx fs)) (h : Sq K H a xs) : Sq K (upd H x (.ins C dx gs)) a xs := h.imp (sqL_ins hx) (sqT_ins hx)
theorem tru_sq {K : PySem.W.Frag} {H : Hp} {b : Addr} {xs : List V} (h : Sq K H b xs) : TruV K (.ref b) H (!xs.isEmpty) := h.elim (fun h => .inl ⟨xs, h, rfl⟩) fun h => .inr (.inl ⟨xs, h, rfl⟩)
theorem sqT_lst {K : PySem.W.Frag} {H : Hp} {D : Addr} {u u' : List V} {q : Addr} {xs : List V} (hD : H D = some (.lst u)) (h : SqT K H q xs) : SqT K (upd H D (.lst u')) q xs := by
  refine h.imp (fun h => ?_) id
  rcases h with h | ⟨z, h⟩
  · exact .inl (by rw [upd_ne (ne_of h hD (fun z => nomatch z))]; exact h)
  · exact .inr ⟨z, by rw [upd_ne (ne_of h hD (fun z => nomatch z))]; exact h⟩
/-- tables that a machine may have: n states -/
structure Mok (n : Nat) (ts : List (List Int)) : Prop where
  l1 : 1 ≤ ts.length
  l4 : ts.length ≤ 4
  n1 : 1 ≤ n
  n8 : n ≤ 8
  len : ∀ t ∈ ts, t.length = n
  ent : ∀ t ∈ ts, ∀ x ∈ t, 0 ≤ x ∧ x < (n : Int)
/-- rows stand at these places -/
def RowsBy (R : Addr → List V → Prop) : List V → List (List Int) → Prop
  | [], [] => True
  | v :: vs, t :: ts => (∃ q, v = .ref q ∧ R q (t.map V.int)) ∧ RowsBy R vs ts
  | _, _ => False
theorem RowsBy.imp {R S : Addr → List V → Prop} (e : ∀ q xs, R q xs → S q xs) : ∀ {vs : List V} {ts : List (List Int)}, RowsBy R vs ts → RowsBy S vs ts
  | [], [], _ => trivial
  | _ :: _, _ :: _, ⟨⟨q, h1, h2⟩, h⟩ => ⟨⟨q, h1, e _ _ h2⟩, RowsBy.imp e h⟩
  | [], _ :: _, h => h.elim
  | _ :: _, [], h => h.elim
theorem RowsBy.length {R : Addr → List V → Prop} : ∀ {vs : List V} {ts : List (List Int)}, RowsBy R vs ts → vs.length = ts.length
  | [], [], _ => rfl
  | _ :: _, _ :: _, ⟨_, h⟩ => congrArg Nat.succ (RowsBy.length h)
  | [], _ :: _, h => h.elim
  | _ :: _, [], h => h.elim
theorem RowsBy.at_ {R : Addr → List V → Prop} : ∀ {vs : List V} {ts : List (List Int)} {i : Nat} {t : List Int}, RowsBy R vs ts → ts[i]? = some t → ∃ q, vs[i]? = some (.ref q) ∧ R q (t.map V.int)
  | _ :: _, _ :: _, 0, t, ⟨⟨q, h1, h2⟩, _⟩, e => by
    simp at e
    subst e
    exact ⟨q, by simp [h1], h2⟩
  | _ :: _, _ :: _, i + 1, t, ⟨_, h⟩, e => by
    obtain ⟨q, h1, h2⟩ := RowsBy.at_ (i := i) h (by simpa using e)
    exact ⟨q, by simpa using h1, h2⟩
  | [], [], _, _, _, e => by simp at e
  | [], _ :: _, _, _, h, _ => h.elim
  | _ :: _, [], _, _, h, _ => h.elim
theorem RowsBy.snoc {R : Addr → List V → Prop} {q : Addr} {t : List Int} (hq : R q (t.map V.int)) : ∀ {vs : List V} {ts : List (List Int)}, RowsBy R vs ts → RowsBy R (vs ++ [.ref q]) (ts ++ [t])
  | [], [], _ => ⟨⟨q, rfl, hq⟩, trivial⟩
  | _ :: _, _ :: _, ⟨h1, h⟩ => ⟨h1, RowsBy.snoc hq h⟩
  | [], _ :: _, h => h.elim
  | _ :: _, [], h => h.elim
structure McAt (K : PySem.W.Frag) (CM : Addr) (H : Hp) (m : Addr) (n : Nat) (ts : List (List Int)) : Prop where
  ok : Mok n ts
  ex : ∃ dx t ps, H m = some (.ins CM dx [("deeds", .int (ts.length : Int)), ("states", .int (n : Int)), ("tables", .ref t)]) ∧ SqT K H t ps ∧ RowsBy (SqT K H) ps ts
theorem McAt.same {K : PySem.W.Frag} {CM : Addr} {H H' : Hp} {m : Addr} {n : Nat} {ts : List (List Int)} (e : Same H H') (h : McAt K CM H m n ts) : McAt K CM H' m n ts := by
  obtain ⟨ok, dx, t, ps, h1, h2, h3⟩ := h
  exact ⟨ok, dx, t, ps, e _ _ h1, sqT_same e h2, h3.imp fun _ _ q => sqT_same e q⟩
structure ClsM (K : PySem.W.Frag) (mg : Str → Option Value) (CM : Addr) : Prop where
  at_ : mg "Machine" = some (.ref CM)
  cl : Cls K CM
  n1 : NoAttr K CM "deeds"
  n2 : NoAttr K CM "states"
  n3 : NoAttr K CM "tables"
  isi : SlX.SIsi K CM
  yes : PySem.W.kitOne K (.ref CM) (.ref CM) = some true
  notT : PySem.W.kitOne K (.type "tuple") (.ref CM) = some false
  first : PySem.W.notFirst K CM (.type "tuple") = true
/-- a table of n states -/
def isTab (n : Nat) : Option (List V) → Bool
  | some ys => inLen 1 8 (some ys) && (decide (ys.length = n) && (fnb ys.length ys).isNone)
  | none => false
theorem isTab_some {n : Nat} {ys : List V} : isTab n (some ys) = (inLen 1 8 (some ys) && (decide (ys.length = n) && (fnb ys.length ys).isNone)) := rfl
def spTable (K : PySem.W.Frag) : Sp := fun vs H Q _ => ∃ (v like : V) (o : Option (List V)) (n : Nat), vs = [v, like] ∧ Long K H v o ∧ Kns K H o 8 ∧ (inLen 1 8 o = true → ∃ c zs, like = .ref c ∧ Sq K H c zs ∧ zs.length = n) ∧ ∀ H', Same H H' → Q (.bl (isTab n o)) H'
/-- the first that is no table -/
def badTab (n : Nat) : List (Option (List V)) → Option Nat
  | [] => none
  | o :: os => if isTab n o = true then (badTab n os).map (· + 1) else some 0
theorem badTab_none {n : Nat} : ∀ {os : List (Option (List V))}, badTab n os = none ↔ ∀ o ∈ os, isTab n o = true
  | [] => by simp [badTab]
  | o :: os => by
    unfold badTab
    by_cases h : isTab n o = true
    · rw [if_pos h, Option.map_eq_none_iff, badTab_none]
      exact ⟨fun q y hy => (List.mem_cons.mp hy).elim (fun e => e ▸ h) (q y), fun q y hy => q y (List.mem_cons_of_mem _ hy)⟩
    · rw [if_neg h]
      exact ⟨fun q => (nomatch q), fun q => absurd (q o (List.mem_cons_self ..)) h⟩
theorem badTab_some {n : Nat} : ∀ {os : List (Option (List V))} {i : Nat}, (∀ j o, j < i → os[j]? = some o → isTab n o = true) → (∃ o, os[i]? = some o ∧ isTab n o = false) → badTab n os = some i
  | [], i, _, h => by obtain ⟨x, h, _⟩ := h; simp at h
  | x :: xs, 0, _, h => by
    obtain ⟨y, h1, h2⟩ := h
    have e : x = y := by simpa using h1
    unfold badTab
    rw [e, if_neg (by rw [h2]; exact Bool.false_ne_true)]
  | x :: xs, i + 1, hl, h => by
    unfold badTab
    rw [if_pos (hl 0 x (Nat.succ_pos i) rfl), badTab_some (i := i) (fun j y hj hy => hl (j + 1) y (Nat.succ_lt_succ hj) (by simpa using hy)) (by simpa using h)]
    rfl
/-- what the items are as sequences -/
def Items (K : PySem.W.Frag) (H : Hp) : List V → List (Option (List V)) → Prop
  | [], [] => True
  | v :: vs, o :: os => (Long K H v o ∧ Kns K H o 8) ∧ Items K H vs os
  | _, _ => False
theorem Items.at_ {K : PySem.W.Frag} {H : Hp} : ∀ {vs : List V} {os : List (Option (List V))} {i : Nat} {v : V}, Items K H vs os → vs[i]? = some v → ∃ o, os[i]? = some o ∧ Long K H v o ∧ Kns K H o 8
  | _ :: _, _ :: _, 0, v, ⟨h1, _⟩, e => by
    simp at e
    subst e
    exact ⟨_, rfl, h1⟩
  | _ :: _, _ :: _, i + 1, v, ⟨_, h⟩, e => by
    obtain ⟨o, h1, h2⟩ := Items.at_ (i := i) h (by simpa using e)
    exact ⟨o, by simpa using h1, h2⟩
  | [], [], _, _, _, e => by simp at e
  | [], _ :: _, _, _, h, _ => h.elim
  | _ :: _, [], _, _, h, _ => h.elim
/-- the number of the first's items -/
def lenAt (os : List (Option (List V))) : Nat := match os[0]? with
  | some (some ys) => ys.length
  | _ => 0
theorem tabs_of {K : PySem.W.Frag} {H : Hp} {n : Nat} : ∀ {vs : List V} {os : List (Option (List V))}, Items K H vs os → (∀ o ∈ os, isTab n o = true) → ∃ ts : List (List Int), os = ts.map (fun t => some (t.map V.int)) ∧ RowsBy (Sq K H) vs ts ∧ (∀ t ∈ ts, t.length = n) ∧ ∀ t ∈ ts, ∀ x ∈ t, 0 ≤ x ∧ x < (n : Int)
  | [], [], _, _ => ⟨[], rfl, trivial, (fun t h => nomatch h), (fun t h => nomatch h)⟩
  | v :: vs, o :: os, ⟨⟨h1, _⟩, h⟩, all => by
    obtain ⟨ts, e, r, l, b⟩ := tabs_of h fun o ho => all o (List.mem_cons_of_mem _ ho)
    have z := all o (List.mem_cons_self ..)
    cases h1 with
    | @seq a ys q =>
      rw [isTab_some, Bool.and_eq_true, Bool.and_eq_true] at z
      have len := of_decide_eq_true z.2.1
      obtain ⟨ns, en, hn⟩ := fnb_ints (Option.isNone_iff_eq_none.mp z.2.2)
      subst en
      refine ⟨ns :: ts, by rw [e]; rfl, ⟨⟨a, rfl, q⟩, r⟩, fun t ht => ?_, fun t ht => ?_⟩
      · rcases List.mem_cons.mp ht with rfl | ht
        · rw [← len, List.length_map]
        · exact l t ht
      · rcases List.mem_cons.mp ht with rfl | ht
        · intro x hx
          have := hn x hx
          rw [len] at this
          exact this
        · exact b t ht
    | _ => cases z
  | [], _ :: _, h, _ => h.elim
  | _ :: _, [], h, _ => h.elim
section
variable {P : Program} {w : World} {K : PySem.W.Frag} {mg : Str → Option Value} {base : Heap} {f : Addr} {fd : FuncData} {a : Ad} {CM : Addr}
theorem sc_is_table : FnScope ["value", "like"] ["value", "like"] (defScope s_is_table) := ⟨rfl, rfl, rfl, by decide +kernel, rfl, by decide +kernel, by decide +kernel⟩
theorem ok_is_table (F : FnP K "_is_table" s_is_table f fd) (T : Mg mg) (c_is_sequence : Cal P w K mg base CX0 1 "is_sequence" ["value", "least", "most"] (spSeq K)) (c_first_not_below : Cal P w K mg base CX0 3 "first_not_below" ["values", "limit"] (spFnb K)) : FnOk P w K mg base CX0 4 f fd ["value", "like"] (spTable K) := by
  refine F.ok sc_is_table (fun vs H Q E h => ?_) (fun cdv A outer s H vs Q E hr h => ?_)
  · obtain ⟨v, like, o, n, rfl, _⟩ := h
    rfl
  · obtain ⟨v, like, o, n, rfl, hv, hk, hl, k⟩ := h
    refine ⟨_, PSs.nox (pss_cons (ps_if (pt_not (pt_val (pe_callC c_is_sequence hr pass0 (pa_cons (pv 0) (pa_cons pe_int (pa_cons (pe_constI T.g_STATES_MOST) pa_nil))))))
        (pss_one (ps_ret pe_bl))
        pss_nil)
      (pss_one (ps_ret (pe_and (pe_cmpR op_eq (pe_callB call_len_seq (by rfl) T.z_len PySem.boot_len (pa_cons (pv 0) pa_nil)) (pe_callB call_len_seq (by rfl) T.z_len PySem.boot_len (pa_cons (pv 1) pa_nil)) (nomark _)) (pe_one (pe_cmpR op_isN (pe_callC c_first_not_below hr pass0 (pa_cons (pv 0) (pa_cons (pe_callB call_len_seq (by rfl) T.z_len PySem.boot_len (pa_cons (pv 0) pa_nil)) pa_nil))) pe_non (nomark _))))))), ?_⟩
    refine ⟨_, rfl, v, 1, 8, o, rfl, hv, fun H1 e1 => ⟨inLen 1 8 o, rfl, ?_⟩⟩
    cases i1 : inLen 1 8 o with
    | false =>
      have z : isTab n o = false := by
        cases o with
        | none => rfl
        | some ys => rw [isTab_some, i1] <;> rfl
      rw [z] at k
      exact iteT (k H1 e1)
    | true =>
      refine iteF ?_
      obtain ⟨c, zs, rfl, hc, hn⟩ := hl i1
      cases hv with
      | @seq b ys hb =>
        rw [isTab_some, i1] at k
        have l8 : ys.length ≤ 8 := by
          rw [inLen_some, Bool.and_eq_true] at i1
          have := of_decide_eq_true i1.2
          omega
        refine ⟨_, rfl, b, ys, rfl, hb.same e1, _, rfl, c, zs, rfl, hc.same e1, rfl, ?_⟩
        have ed : decide (V.int (ys.length : Int) = V.int (zs.length : Int)) = decide (ys.length = n) := by
          rw [hn, Bool.eq_iff_iff, decide_eq_true_eq, decide_eq_true_eq]
          exact ⟨fun z => by injection z with z; omega, fun z => by rw [z]⟩
        rw [ed]
        refine ⟨_, rfl, ?_⟩
        cases en : decide (ys.length = n) with
        | false =>
          rw [en] at k
          exact iteF (k H1 e1)
        | true =>
          rw [en] at k
          refine iteT ?_
          refine ⟨_, rfl, _, rfl, b, ys, rfl, hb.same e1, b, ys, _, rfl, hb.same e1, fun x hx => (hk _ rfl l8 x hx).same e1, fun H2 e2 => ⟨rfl, ?_⟩⟩
          have k2 := k _ (e1.trans e2)
          rw [← optV_non] at k2
          exact k2
      | _ => cases i1
end
end K0
/-! machines are made, compared -/
namespace K0
open L2 PySem PySem.Spec PyProof.Rows Kx
def spMachine (K : PySem.W.Frag) (a : Ad) (CM : Addr) : Sp := fun vs H Q E => ∃ (x dx : Addr) (v : V) (o : Option (List V)), vs = [.ref x, v] ∧ H x = some (.ins CM dx []) ∧ Long K H v o ∧ (inLen 1 4 o = false → Thrown E H a.cM "at" (.int (-1))) ∧
  ∀ xs, o = some xs → inLen 1 4 o = true → ∃ os, Items K H xs os ∧ (∀ i, badTab (lenAt os) os = some i → Thrown E H a.cM "at" (.int (i : Int))) ∧
    (badTab (lenAt os) os = none → ∀ n ts, Mok n ts → os = ts.map (fun t => some (t.map V.int)) → ∀ H', (∀ b o, b ≠ x → H b = some o → H' b = some o) → McAt K CM H' x n ts → Q .non H')
/-- tuple(xs) in a comprehension -/
theorem call_tupK {X : Cx} {K : PySem.W.Frag} (hK : X.K = K := by rfl) : CallR X (.type "tuple") (fun xs H Q => ∃ p ys, xs = [.ref p] ∧ Sq K H p ys ∧ ∀ q H', Same H H' → SqT K H' q ys → Q (.ref q) H') := by
  subst hK
  exact call_tup
theorem Items.length {K : PySem.W.Frag} {H : Hp} : ∀ {vs : List V} {os : List (Option (List V))}, Items K H vs os → vs.length = os.length
  | [], [], _ => rfl
  | _ :: _, _ :: _, ⟨_, h⟩ => congrArg Nat.succ (Items.length h)
  | [], _ :: _, h => h.elim
  | _ :: _, [], h => h.elim
theorem ints_map {xs ys : List (List Int)} (h : xs.map (fun t => some (t.map V.int)) = ys.map (fun t => some (t.map V.int))) : xs = ys := by
  have inj : ∀ {a b : List Int}, a.map V.int = b.map V.int → a = b := fun {a b} h => by
    have := congrArg (List.map fun v => match v with | V.int i => i | _ => 0) h
    simpa [Function.comp_def] using this
  induction xs generalizing ys with
  | nil => cases ys with
    | nil => rfl
    | cons _ _ => cases h
  | cons x xs ih => cases ys with
    | nil => cases h
    | cons y ys =>
      rw [List.map_cons, List.map_cons] at h
      injection h with h1 h2
      rw [inj (Option.some.inj h1), ih h2]
section
variable {P : Program} {w : World} {K : PySem.W.Frag} {mg : Str → Option Value} {base : Heap} {f : Addr} {fd : FuncData} {a : Ad} {CM : Addr}
theorem sc_machine : FnScope ["self", "tables", "at", "table"] ["self", "tables"] (defScope s_Machine_init) := ⟨rfl, rfl, rfl, by decide +kernel, rfl, by decide +kernel, by decide +kernel⟩
theorem ok_machine (F : FunD K "__init__" "Machine.__init__" (defArgs s_Machine_init) (defBody s_Machine_init) (defScope s_Machine_init) [] [] f fd) (T : Mg mg) (R : Er P w K mg base a) (TM : ClsM K mg CM)
    (c_is_sequence : Cal P w K mg base CX0 1 "is_sequence" ["value", "least", "most"] (spSeq K)) (c__is_table : Cal P w K mg base CX0 4 "_is_table" ["value", "like"] (spTable K)) : FnOk P w K mg base (L2N.CX P w) 5 f fd ["self", "tables"] (spMachine K a CM) := by
  refine F.ok sc_machine (fun vs H Q E h => ?_) (fun cdv A outer s H vs Q E hr h => ?_)
  · obtain ⟨x, dx, v, o, rfl, _⟩ := h
    rfl
  · obtain ⟨x, dx, v, o, rfl, hx, hv, far, near⟩ := h
    refine ⟨_, (pss_cons (ps_if (pt_not (pt_val (pe_callC c_is_sequence hr pass0 (pa_cons (pv 1) (pa_cons pe_int (pa_cons (pe_constI T.g_DEEDS_MOST) pa_nil))))))
        (pss_one (psN R.BadMachine rfl hr (L2N.takes_of rfl rfl rfl rfl) (pa_cons (pe_un un_neg pe_int) pa_nil)))
        pss_nil)
      (pss_cons (ps_for (passes_of rfl) rfl (pi_pairs (by rfl) T.z_enumerate (pa_cons (pv 1) pa_nil)) (pg_tup rfl (pgs_cons (pg_name (i := 2) sc_machine.nd rfl (by first | exact Or.inl rfl | exact Or.inr rfl)) (pgs_cons (pg_name (i := 3) sc_machine.nd rfl (by first | exact Or.inl rfl | exact Or.inr rfl)) pgs_nil)))
        (pss_one (ps_if (pt_not (pt_val (pe_callC c__is_table hr pass0 (pa_cons (pv 3) (pa_cons (pe_ix ix_seq (pv 1) pe_int (fun _ _ => rfl)) pa_nil)))))
          (pss_one (psN R.BadMachine rfl hr (L2N.takes_of rfl rfl rfl rfl) (pa_cons (pv 2) pa_nil)))
          pss_nil)))
      (PSs.nox (pss_cons (ps_fld (pv 0) (pe_callB call_len_seq (by rfl) T.z_len PySem.boot_len (pa_cons (pv 1) pa_nil)) rfl)
      (pss_cons (ps_fld (pv 0) (pe_callB call_len_seq (by rfl) T.z_len PySem.boot_len (pa_cons (pe_ix ix_seq (pv 1) pe_int (fun _ _ => rfl)) pa_nil)) rfl)
      (pss_one (ps_fld (pv 0) (pe_callTy call_tup (by rfl) T.z_tuple (by decide +kernel) (pa_cons (pe_lc (own := [("table", 3)]) (by rfl) sc_machine.nd (pi_any (pv 1)) (blkOk_by (own := [("table", 3)]) (N := ["self", "tables", "at", "table"]) (sc := defScope s_Machine_init) (by decide +kernel))
        (fun _ _ _ _ _ => pg_name (i := 3) sc_machine.nd rfl (by first | exact Or.inl rfl | exact Or.inr rfl)) (fun _ _ _ _ _ => pts_nil) (fun _ _ _ _ _ => pe_callTy (call_tupK (K := K)) (by rfl) T.z_tuple bt_tuple (pa_cons (pv 3) pa_nil))) pa_nil)) rfl))))))), ?_⟩
    refine ⟨_, rfl, v, 1, 4, o, rfl, hv, fun H1 e1 => ⟨inLen 1 4 o, rfl, ?_⟩⟩
    cases i1 : inLen 1 4 o with
    | false => exact iteT ⟨1, rfl, thrownN ((far i1).same e1).at_⟩
    | true =>
      refine iteF ?_
      cases hv with
      | @seq b xs hb =>
        obtain ⟨os, it, bad, good⟩ := near xs rfl i1
        have len := it.length
        have l4 : 1 ≤ xs.length ∧ xs.length ≤ 4 := by
          have z := i1
          rw [inLen_some, Bool.and_eq_true] at z
          have := of_decide_eq_true z.1
          have := of_decide_eq_true z.2
          omega
        obtain ⟨x0, hx0⟩ : ∃ x0, xs[0]? = some x0 := ⟨xs[0], List.getElem?_eq_getElem (by omega)⟩
        obtain ⟨o0, ho0, long0, kns0⟩ := it.at_ hx0
        have ix0 : ∀ {H' : Hp} {Q : VK}, Same H H' → Q x0 H' → rIx K (.ref b) (.int 0) H' Q := fun e q => by
          rcases hb.same e with z | z
          · exact .inl ⟨b, xs, 0, x0, rfl, rfl, z, atI_nat hx0, q⟩
          · exact .inr (.inl ⟨b, xs, 0, x0, rfl, rfl, z, atI_nat hx0, q⟩)
        refine ⟨_, rfl, b, xs, rfl, for_pairs (hb.same e1) (fun i σ' H' => ∃ y z, σ' = [some (.ref x), some (.ref b), y, z] ∧ Same H H' ∧ Same H1 H' ∧ ∀ j o, j < i → os[j]? = some o → isTab (lenAt os) o = true) ⟨_, _, rfl, e1, Same.refl _, fun j z hj => absurd hj (Nat.not_lt_zero j)⟩ (fun i σ' H' q => q.elim fun _ q => q.elim fun _ q => q.2.2.1) ?_ ?_⟩
        · rintro i y t σ' H' hy ⟨_, _, rfl, e, e', hs⟩ ht
          refine ⟨t, _, rfl, SqT.of upd_same, rfl, ?_⟩
          refine ⟨_, _, rfl, _, _, rfl, rfl, ?_⟩
          have e2 := e.trans (same_new (o := HO.tup [.int (i : Int), y]) ht)
          obtain ⟨oi, hoi, longi, knsi⟩ := it.at_ hy
          refine ⟨_, rfl, _, rfl, ix0 e2 ?_⟩
          refine ⟨y, x0, oi, lenAt os, rfl, longi.same e2, knsi.same e2, fun z => ?_, fun H3 e3 => ⟨isTab (lenAt os) oi, rfl, ?_⟩⟩
          · have z0 : isTab (lenAt os) o0 = true ∨ (i = 0 ∧ oi = o0) := by
              rcases Nat.eq_zero_or_pos i with h | h
              · subst h
                rw [ho0] at hoi
                exact .inr ⟨rfl, (Option.some.inj hoi).symm⟩
              · exact .inl (hs 0 o0 h ho0)
            have some0 : ∃ zs, o0 = some zs := by
              rcases z0 with h | ⟨_, h⟩
              · cases o0 with
                | none => cases h
                | some zs => exact ⟨zs, rfl⟩
              · subst h
                cases oi with
                | none => cases z
                | some zs => exact ⟨zs, rfl⟩
            obtain ⟨zs, rfl⟩ := some0
            cases long0 with
            | @seq c _ hc => exact ⟨c, zs, rfl, hc.same e2, by unfold lenAt; rw [ho0]⟩
          · cases eb : isTab (lenAt os) oi with
            | false => exact iteT ⟨_, rfl, thrownN ((bad i (badTab_some hs ⟨oi, hoi, eb⟩)).same (e2.trans e3)).at_⟩
            | true =>
              refine iteF ⟨_, _, rfl, e2.trans e3, (e'.trans (same_new ht)).trans e3, fun j z hj hz => ?_⟩
              rcases Nat.lt_or_eq_of_le (Nat.le_of_lt_succ hj) with h | rfl
              · exact hs j z h hz
              · rw [hoi] at hz
                cases hz
                exact eb
        · rintro σ' H' ⟨_, _, rfl, e, e', hs⟩
          have allT : ∀ o ∈ os, isTab (lenAt os) o = true := fun o ho => by
            obtain ⟨j, hj⟩ := List.getElem?_of_mem ho
            exact hs j o (by rw [len]; exact (List.getElem?_eq_some_iff.mp hj).1) hj
          obtain ⟨ts, eo, rows, tl, tb⟩ := tabs_of it allT
          have lts : ts.length = xs.length := by rw [len, eo, List.length_map]
          obtain ⟨t0, ht0⟩ : ∃ t0, ts[0]? = some t0 := ⟨ts[0], List.getElem?_eq_getElem (by omega)⟩
          have mt0 := List.mem_of_getElem? ht0
          have n0 : lenAt os = t0.length := (tl t0 mt0).symm
          have mok : Mok (lenAt os) ts := by
            have z := allT o0 (List.mem_of_getElem? ho0)
            refine ⟨by omega, by omega, ?_, ?_, tl, tb⟩
            · cases o0 with
              | none => cases z
              | some ys =>
                rw [isTab_some, Bool.and_eq_true, Bool.and_eq_true, inLen_some, Bool.and_eq_true] at z
                have := of_decide_eq_true z.1.1
                have := of_decide_eq_true z.2.1
                omega
            · cases o0 with
              | none => cases z
              | some ys =>
                rw [isTab_some, Bool.and_eq_true, Bool.and_eq_true, inLen_some, Bool.and_eq_true] at z
                have := of_decide_eq_true z.1.2
                have := of_decide_eq_true z.2.1
                omega
          have good := good (badTab_none.mpr allT) _ ts mok eo
          obtain ⟨c0, hc0, sc0⟩ := rows.at_ ht0
          rw [hx0] at hc0
          obtain rfl := Option.some.inj hc0
          have hx1 := e _ _ hx
          have hb1 := hb.same e
          refine ⟨_, rfl, b, xs, rfl, hb1, _, rfl, x, CM, dx, _, rfl, hx1, TM.cl, TM.n1, (by decide), ?_⟩
          generalize hH2 : upd H' x (.ins CM dx (putF "deeds" (.int (xs.length : Int)) [])) = H2
          have hx2 : H2 x = some (.ins CM dx [("deeds", .int (xs.length : Int))]) := by rw [← hH2]; exact upd_same
          have sq2 : ∀ {p : Addr} {zs : List V}, Sq K H p zs → Sq K H2 p zs := fun z => by rw [← hH2]; exact sq_ins hx1 (z.same e)
          have hb2 : Sq K H2 b xs := sq2 hb
          have keep2 : ∀ c o, c ≠ x → H c = some o → H2 c = some o := fun c o ne hc => by rw [← hH2, upd_ne ne]; exact e _ _ hc
          have ix2 : ∀ {Q : VK}, Q (.ref c0) H2 → rIx K (.ref b) (.int 0) H2 Q := fun q => by
            rcases hb2 with z | z
            · exact .inl ⟨b, xs, 0, _, rfl, rfl, z, atI_nat hx0, q⟩
            · exact .inr (.inl ⟨b, xs, 0, _, rfl, rfl, z, atI_nat hx0, q⟩)
          refine ⟨_, rfl, ix2 ?_⟩
          refine ⟨c0, _, rfl, sq2 sc0, _, rfl, x, CM, dx, _, rfl, hx2, TM.cl, TM.n2, (Nat.lt_of_succ_lt (by show 2 < 1000; decide)), ?_⟩
          rw [List.length_map, ← n0]
          generalize hH3 : upd H2 x (.ins CM dx (putF "states" (.int (lenAt os : Int)) [("deeds", .int (xs.length : Int))])) = H3
          have hx3 : H3 x = some (.ins CM dx [("deeds", .int (xs.length : Int)), ("states", .int (lenAt os : Int))]) := by rw [← hH3]; exact upd_same
          have sq3 : ∀ {p : Addr} {zs : List V}, Sq K H p zs → Sq K H3 p zs := fun z => by rw [← hH3]; exact sq_ins hx2 (sq2 z)
          have hb3 : Sq K H3 b xs := sq3 hb
          have keep3 : ∀ c o, c ≠ x → H c = some o → H3 c = some o := fun c o ne hc => by rw [← hH3, upd_ne ne]; exact keep2 _ _ ne hc
          have inp3 : RowsBy (Sq K H3) xs ts := rows.imp fun _ _ q => sq3 q
          have last : ∀ (H4 : Hp) (D : Addr) (ps : List V), Same H3 H4 → H4 D = some (.lst ps) → RowsBy (SqT K H4) ps ts → ∀ t H5, Same H4 H5 → SqT K H5 t ps → Q .non (upd H5 x (.ins CM dx [("deeds", .int (xs.length : Int)), ("states", .int (lenAt os : Int)), ("tables", .ref t)])) := fun H4 D ps e4 hD rw4 t H5 e5 ht => by
            have hx5 := e5 _ _ (e4 _ _ hx3)
            refine good _ (fun c o ne hc => by rw [upd_ne ne]; exact e5 _ _ (e4 _ _ (keep3 _ _ ne hc))) ⟨mok, dx, t, ps, by rw [upd_same, lts], sqT_ins hx5 ht, rw4.imp fun _ _ q => sqT_ins hx5 (sqT_same e5 q)⟩
          have go : ∀ (D : Addr), H3 D = .none → ∀ i y H4, xs[i]? = some y → (∃ ps, RowsBy (SqT K H4) ps (ts.take i) ∧ H4 D = some (.lst ps) ∧ Same H3 H4) → ∃ q ys, y = .ref q ∧ Sq K H4 q ys ∧ ∀ q' H5, Same H4 H5 → SqT K H5 q' ys →
              ∃ acc, H5 D = some (.lst acc) ∧ acc.length < sizeLine ∧ ∃ ps, RowsBy (SqT K (L2.upd H5 D (.lst (acc ++ [.ref q'])))) ps (ts.take (i + 1)) ∧ L2.upd H5 D (.lst (acc ++ [.ref q'])) D = some (.lst ps) ∧ Same H3 (L2.upd H5 D (.lst (acc ++ [.ref q']))) := fun D hD i y H4 hy ⟨ps, rw4, hD4, e4⟩ => by
            have hi : i < ts.length := by rw [lts]; exact (List.getElem?_eq_some_iff.mp hy).1
            have ht : ts[i]? = some ts[i] := List.getElem?_eq_getElem hi
            obtain ⟨q, hq, sq⟩ := inp3.at_ ht
            rw [hy] at hq
            refine ⟨q, _, Option.some.inj hq, sq.same e4, fun q' H5 e5 ht5 => ?_⟩
            have hD5 := e5 _ _ hD4
            have lps := rw4.length
            rw [List.length_take] at lps
            refine ⟨ps, hD5, by rw [sizeLine_eq]; omega, ps ++ [.ref q'], ?_, upd_same, fun c o hc => ?_⟩
            · rw [List.take_add_one, ht]
              exact RowsBy.snoc (sqT_lst hD5 ht5) (rw4.imp fun _ _ z => sqT_lst hD5 (sqT_same e5 z))
            · rw [upd_ne (ne_of_none hc hD)]
              exact e5 _ _ (e4 _ _ hc)
          have fin : ∀ (D : Addr) H4, (∃ ps, RowsBy (SqT K H4) ps (ts.take xs.length) ∧ H4 D = some (.lst ps) ∧ Same H3 H4) → ∃ ps, H4 D = some (.lst ps) ∧ RowsBy (SqT K H4) ps ts ∧ Same H3 H4 := fun D H4 ⟨ps, h1, h2, h3⟩ => by
            rw [← lts, List.take_length] at h1
            exact ⟨ps, h2, h1, h3⟩
          have zero : ∀ (D : Addr), H3 D = .none → ∃ ps, RowsBy (SqT K (L2.upd H3 D (.lst []))) ps (ts.take 0) ∧ L2.upd H3 D (.lst []) D = some (.lst ps) ∧ Same H3 (L2.upd H3 D (.lst [])) := fun D hD => ⟨[], trivial, upd_same, same_new hD⟩
          refine ⟨_, rfl, b, xs, rfl, ?_⟩
          rcases hb3 with hb3 | hb3
          · refine .inl ⟨hb3, fun D hD => lc_list (xs := xs) (fun i H4 => ∃ ps, RowsBy (SqT K H4) ps (ts.take i) ∧ H4 D = some (.lst ps) ∧ Same H3 H4) (zero D hD) (fun i H4 _ p => p.elim fun _ p => sqL_same p.2.2 hb3) (fun i y H4 hy p => ⟨rfl, yes ((if_pos rfl).mpr ?_)⟩) fun H4 p => ?_⟩
            · obtain ⟨q, ys, rfl, sq, k⟩ := go D hD i y H4 hy p
              exact ⟨_, rfl, q, ys, rfl, sq, k⟩
            · obtain ⟨ps, h1, h2, h3⟩ := fin D H4 p
              exact ⟨D, _, rfl, .inl (SqL.of h1), fun t H5 e5 ht => ⟨_, rfl, x, CM, dx, _, rfl, e5 _ _ (h3 _ _ hx3), TM.cl, TM.n3, (Nat.lt_of_succ_lt (by show 3 < 1000; decide)), last H4 D ps h3 h1 h2 t H5 e5 ht⟩⟩
          · refine .inr ⟨hb3, fun D hD => lc_tup (xs := xs) (fun i H4 => ∃ ps, RowsBy (SqT K H4) ps (ts.take i) ∧ H4 D = some (.lst ps) ∧ Same H3 H4) (zero D hD) (fun i H4 _ p => p.elim fun _ p => sqT_same p.2.2 hb3) (fun i y H4 hy p => ⟨rfl, yes ((if_pos rfl).mpr ?_)⟩) fun H4 p => ?_⟩
            · obtain ⟨q, ys, rfl, sq, k⟩ := go D hD i y H4 hy p
              exact ⟨_, rfl, q, ys, rfl, sq, k⟩
            · obtain ⟨ps, h1, h2, h3⟩ := fin D H4 p
              exact ⟨D, _, rfl, .inl (SqL.of h1), fun t H5 e5 ht => ⟨_, rfl, x, CM, dx, _, rfl, e5 _ _ (h3 _ _ hx3), TM.cl, TM.n3, (Nat.lt_of_succ_lt (by show 3 < 1000; decide)), last H4 D ps h3 h1 h2 t H5 e5 ht⟩⟩
      | _ => cases i1
end
end K0
/-! machines compared; states, deeds, rows -/
namespace K0
open L2 PySem PySem.Spec PyProof.Rows Kx
def spState (K : PySem.W.Frag) (a : Ad) (CM : Addr) : Sp := fun vs H Q E => ∃ m n ts v, vs = [.ref m, v] ∧ McAt K CM H m n ts ∧ Kn K H v ∧ (isBel n v = false → Thrown E H a.cN "state" v) ∧ (isBel n v = true → Q v H)
def spDeed (K : PySem.W.Frag) (a : Ad) (CM : Addr) : Sp := fun vs H Q E => ∃ m n ts v, vs = [.ref m, v] ∧ McAt K CM H m n ts ∧ Kn K H v ∧ (isBel ts.length v = false → Thrown E H a.cD "deed" v) ∧ (isBel ts.length v = true → Q v H)
def spRow (K : PySem.W.Frag) (a : Ad) (CM : Addr) : Sp := fun vs H Q E => ∃ m n ts v o, vs = [.ref m, v] ∧ McAt K CM H m n ts ∧ Long K H v o ∧ Kns K H o 400 ∧ (∀ i, rowAt ts.length o = some i → Thrown E H a.cR "at" (.int i)) ∧
  (rowAt ts.length o = none → ∃ b xs, v = .ref b ∧ o = some xs ∧ SqD K H b xs ∧ ∀ p H', Same H H' → TupD H' p xs → Q (.ref p) H')
/-- where a row leads a state -/
def ledTo (ts : List (List Int)) : Int → List Int → Int
  | s, [] => s
  | s, d :: ds => ledTo ts ((ts.getD d.toNat []).getD s.toNat 0) ds
theorem ledTo_snoc {ts : List (List Int)} {d : Int} : ∀ {s : Int} {row : List Int}, ledTo ts s (row ++ [d]) = (ts.getD d.toNat []).getD (ledTo ts s row).toNat 0
  | s, [] => rfl
  | s, e :: row => ledTo_snoc (s := (ts.getD e.toNat []).getD s.toNat 0) (row := row)
theorem Mok.next {n : Nat} {ts : List (List Int)} (ok : Mok n ts) {d s : Int} (d0 : 0 ≤ d) (d1 : d < ts.length) (s0 : 0 ≤ s) (s1 : s < n) :
    ∃ t x, ts[d.toNat]? = some t ∧ t[s.toNat]? = some x ∧ (ts.getD d.toNat []).getD s.toNat 0 = x ∧ 0 ≤ x ∧ x < n := by
  have hd : d.toNat < ts.length := by omega
  have ht : ts[d.toNat]? = some ts[d.toNat] := List.getElem?_eq_getElem hd
  have mt := List.mem_of_getElem? ht
  have lt := ok.len _ mt
  have hs : s.toNat < (ts[d.toNat]).length := by omega
  have hx : (ts[d.toNat])[s.toNat]? = some (ts[d.toNat])[s.toNat] := List.getElem?_eq_getElem hs
  refine ⟨_, _, ht, hx, ?_, ok.ent _ mt _ (List.mem_of_getElem? hx)⟩
  rw [List.getD_eq_getElem?_getD, List.getD_eq_getElem?_getD, ht, Option.getD_some, hx, Option.getD_some]
section
variable {P : Program} {w : World} {K : PySem.W.Frag} {mg : Str → Option Value} {base : Heap} {f : Addr} {fd : FuncData} {a : Ad} {CM : Addr}
theorem ty_mc {H : Hp} {m : Addr} {n : Nat} {ts : List (List Int)} (TM : ClsM K mg CM) (h : McAt K CM H m n ts) : TyX K H (.ref m) (.ref CM) := by
  obtain ⟨_, dx, t, ps, e, _⟩ := h
  exact .base (.ins e TM.cl TM.isi.ca TM.isi.cn TM.isi.ct TM.isi.cm)
theorem sc_need_state : FnScope ["machine", "state"] ["machine", "state"] (defScope s_need_state) := ⟨rfl, rfl, rfl, by decide +kernel, rfl, by decide +kernel, by decide +kernel⟩
theorem ok_need_state (F : FnP K "need_state" s_need_state f fd) (T : Mg mg) (R : Er P w K mg base a) (TM : ClsM K mg CM) (c_is_below : Cal P w K mg base CX0 2 "is_below" ["value", "limit"] (spBelow K)) : FnOk P w K mg base (L2N.CX P w) 3 f fd ["machine", "state"] (spState K a CM) := by
  refine F.ok sc_need_state (fun vs H Q E h => ?_) (fun cdv A outer s H vs Q E hr h => ?_)
  · obtain ⟨m, n, ts, v, rfl, _⟩ := h
    rfl
  · obtain ⟨m, n, ts, v, rfl, ⟨ok, dx, t, ps, h1, h2, h3⟩, hv, bad, good⟩ := h
    refine ⟨_, (pss_cons (ps_if (pt_not (pt_val (pe_callC c_is_below hr pass0 (pa_cons (pv 1) (pa_cons (pe_fld (pv 0) rfl) pa_nil)))))
        (pss_one (psN R.NoState rfl hr (L2N.takes_of rfl rfl rfl rfl) (pa_cons (pv 1) pa_nil)))
        pss_nil)
      (pss_one (ps_ret (pv 1)))), ?_⟩
    refine ⟨v, rfl, _, rfl, m, CM, dx, _, _, rfl, h1, TM.cl, TM.n2, rfl, v, _, rfl, hv, isBel n v, rfl, ?_⟩
    cases eb : isBel n v with
    | false => exact iteT ⟨v, rfl, thrownN (bad eb).at_⟩
    | true => exact iteF ⟨v, rfl, good eb⟩
theorem sc_need_deed : FnScope ["machine", "deed"] ["machine", "deed"] (defScope s_need_deed) := ⟨rfl, rfl, rfl, by decide +kernel, rfl, by decide +kernel, by decide +kernel⟩
theorem ok_need_deed (F : FnP K "need_deed" s_need_deed f fd) (T : Mg mg) (R : Er P w K mg base a) (TM : ClsM K mg CM) (c_is_below : Cal P w K mg base CX0 2 "is_below" ["value", "limit"] (spBelow K)) : FnOk P w K mg base (L2N.CX P w) 3 f fd ["machine", "deed"] (spDeed K a CM) := by
  refine F.ok sc_need_deed (fun vs H Q E h => ?_) (fun cdv A outer s H vs Q E hr h => ?_)
  · obtain ⟨m, n, ts, v, rfl, _⟩ := h
    rfl
  · obtain ⟨m, n, ts, v, rfl, ⟨ok, dx, t, ps, h1, h2, h3⟩, hv, bad, good⟩ := h
    refine ⟨_, (pss_cons (ps_if (pt_not (pt_val (pe_callC c_is_below hr pass0 (pa_cons (pv 1) (pa_cons (pe_fld (pv 0) rfl) pa_nil)))))
        (pss_one (psN R.NoDeed rfl hr (L2N.takes_of rfl rfl rfl rfl) (pa_cons (pv 1) pa_nil)))
        pss_nil)
      (pss_one (ps_ret (pv 1)))), ?_⟩
    refine ⟨v, rfl, _, rfl, m, CM, dx, _, _, rfl, h1, TM.cl, TM.n1, rfl, v, _, rfl, hv, isBel ts.length v, rfl, ?_⟩
    cases eb : isBel ts.length v with
    | false => exact iteT ⟨v, rfl, thrownN (bad eb).at_⟩
    | true => exact iteF ⟨v, rfl, good eb⟩
theorem sc_check_row : FnScope ["machine", "value"] ["machine", "value"] (defScope s_check_row) := ⟨rfl, rfl, rfl, by decide +kernel, rfl, by decide +kernel, by decide +kernel⟩
theorem ok_check_row (F : FnP K "check_row" s_check_row f fd) (T : Mg mg) (TM : ClsM K mg CM) (c_row_of : Cal P w K mg base (L2N.CX P w) 4 "row_of" ["value", "deeds"] (spRowOf K a)) : FnOk P w K mg base (L2N.CX P w) 5 f fd ["machine", "value"] (spRow K a CM) := by
  refine F.ok sc_check_row (fun vs H Q E h => ?_) (fun cdv A outer s H vs Q E hr h => ?_)
  · obtain ⟨m, n, ts, v, o, rfl, _⟩ := h
    rfl
  · obtain ⟨m, n, ts, v, o, rfl, ⟨ok, dx, t, ps, h1, h2, h3⟩, hv, hk, bad, good⟩ := h
    refine ⟨_, (pss_one (ps_ret (pe_callC c_row_of hr (L2N.passes_call (L2N.takes_of rfl rfl rfl rfl) (fun _ _ _ _ z => z)) (pa_cons (pv 1) (pa_cons (pe_fld (pv 0) rfl) pa_nil))))), ?_⟩
    exact ⟨v, rfl, _, rfl, m, CM, dx, _, _, rfl, h1, TM.cl, TM.n1, rfl, v, o, _, rfl, hv, hk, bad, good⟩
end
end K0
/-! what is reached -/
namespace K0
open L2 PySem PySem.Spec PyProof.Rows Kx
/-- a row of deeds below l -/
def RowOk (l : Nat) (row : List Int) : Prop := ∀ d ∈ row, 0 ≤ d ∧ d < (l : Int)
theorem Mok.led_in {n : Nat} {ts : List (List Int)} (ok : Mok n ts) : ∀ {s : Int} {row : List Int}, 0 ≤ s → s < n → RowOk ts.length row → 0 ≤ ledTo ts s row ∧ ledTo ts s row < n
  | s, [], h0, h1, _ => ⟨h0, h1⟩
  | s, d :: row, h0, h1, hr => by
    obtain ⟨d0, d1⟩ := hr d (List.mem_cons_self ..)
    obtain ⟨t, x, _, _, e, x0, x1⟩ := ok.next d0 d1 h0 h1
    show 0 ≤ ledTo ts ((ts.getD d.toNat []).getD s.toNat 0) row ∧ ledTo ts ((ts.getD d.toNat []).getD s.toNat 0) row < n
    rw [e]
    exact Mok.led_in ok x0 x1 fun z hz => hr z (List.mem_cons_of_mem _ hz)
theorem isBel_iff {l i : Int} : isBel l (.int i) = true ↔ 0 ≤ i ∧ i < l := by
  show (decide (0 ≤ i) && decide (i < l)) = true ↔ _
  rw [Bool.and_eq_true, decide_eq_true_eq, decide_eq_true_eq]
theorem isBel_int {l : Int} {v : V} (h : isBel l v = true) : ∃ i, v = .int i ∧ 0 ≤ i ∧ i < l := by
  cases v with
  | int i => exact ⟨i, rfl, isBel_iff.mp h⟩
  | _ => cases h
def Rch (ts : List (List Int)) (s x : Int) : Prop := ∃ row, RowOk ts.length row ∧ x = ledTo ts s row
def nx (ts : List (List Int)) (d : Nat) (x : Int) : Int := (ts.getD d []).getD x.toNat 0
theorem Rch.refl {ts : List (List Int)} {s : Int} : Rch ts s s := ⟨[], (fun d h => nomatch h), rfl⟩
theorem Rch.step {ts : List (List Int)} {s x : Int} {d : Nat} (h : Rch ts s x) (hd : d < ts.length) : Rch ts s (nx ts d x) := by
  obtain ⟨row, h1, rfl⟩ := h
  refine ⟨row ++ [(d : Int)], fun z hz => ?_, ?_⟩
  · rcases List.mem_append.mp hz with hz | hz
    · exact h1 z hz
    · rw [List.mem_singleton.mp hz]
      omega
  · rw [ledTo_snoc, Int.toNat_natCast]
    rfl
theorem closed_all {ts : List (List Int)} {F : List Int} (cl : ∀ x ∈ F, ∀ d, d < ts.length → nx ts d x ∈ F) : ∀ {row : List Int} {s : Int}, s ∈ F → RowOk ts.length row → ledTo ts s row ∈ F
  | [], s, h, _ => h
  | d :: row, s, h, hr => by
    have hd := hr d (List.mem_cons_self ..)
    have := cl s h d.toNat (by omega)
    exact closed_all cl (row := row) this fun z hz => hr z (List.mem_cons_of_mem _ hz)
theorem len_le : ∀ {n : Nat} {F : List Int}, F.Nodup → (∀ x ∈ F, 0 ≤ x ∧ x < (n : Int)) → F.length ≤ n
  | 0, F, _, h => by
    cases F with
    | nil => exact Nat.le_refl _
    | cons x F => have := h x (List.mem_cons_self ..); omega
  | n + 1, F, nd, h => by
    by_cases hm : (n : Int) ∈ F
    · have e := List.length_erase_of_mem hm
      have := len_le (n := n) (nd.erase (n : Int)) fun x hx => by
        have h1 := (nd.mem_erase_iff).mp hx
        have h2 := h x h1.2
        have h3 : x ≠ (n : Int) := h1.1
        omega
      omega
    · have := len_le (n := n) nd fun x hx => by
        have h2 := h x hx
        have h3 : x ≠ (n : Int) := fun z => hm (z ▸ hx)
        omega
      omega
theorem Mok.rch {n : Nat} {ts : List (List Int)} (ok : Mok n ts) {s x : Int} (h0 : 0 ≤ s) (h1 : s < n) (h : Rch ts s x) : 0 ≤ x ∧ x < n := by
  obtain ⟨row, h2, rfl⟩ := h
  exact ok.led_in h0 h1 h2
/-- what is found, k of it looked at -/
structure Fnd (ts : List (List Int)) (s : Int) (F : List Int) (k : Nat) : Prop where
  nd : F.Nodup
  rch : ∀ x ∈ F, Rch ts s x
  st : s ∈ F
  le : k ≤ F.length
  done : ∀ i x, i < k → F[i]? = some x → ∀ d, d < ts.length → nx ts d x ∈ F
theorem Fnd.more {ts : List (List Int)} {s y : Int} {F : List Int} {k : Nat} (h : Fnd ts s F k) (hy : Rch ts s y) (no : y ∉ F) : Fnd ts s (F ++ [y]) k where
  nd := List.nodup_append.mpr ⟨h.nd, by simp, fun a ha b hb e => no (by rw [← List.mem_singleton.mp hb, ← e]; exact ha)⟩
  rch := fun x hx => (List.mem_append.mp hx).elim (h.rch x) fun hx => by rw [List.mem_singleton.mp hx]; exact hy
  st := List.mem_append_left _ h.st
  le := by rw [List.length_append]; have := h.le; omega
  done := fun i x hi hx d hd => List.mem_append_left _ (h.done i x hi (by rw [List.getElem?_append_left (by have := h.le; omega)] at hx; exact hx) d hd)
theorem Fnd.all {ts : List (List Int)} {s : Int} {F : List Int} (h : Fnd ts s F F.length) (x : Int) : x ∈ F ↔ Rch ts s x := by
  refine ⟨h.rch x, fun ⟨row, h1, e⟩ => ?_⟩
  rw [e]
  refine closed_all (fun y hy d hd => ?_) h.st h1
  obtain ⟨i, hi⟩ := List.getElem?_of_mem hy
  exact h.done i y (List.getElem?_eq_some_iff.mp hi).1 hi d hd
theorem lt_of_le {L : List Int} (h : L.Pairwise (· ≤ ·)) (nd : L.Nodup) : L.Pairwise (· < ·) := (h.and nd).imp fun ⟨a, b⟩ => Int.lt_iff_le_and_ne.mpr ⟨a, b⟩
theorem inV_nums {xs : List Int} {k : Int} : inV (.int k) (xs.map V.int) = decide (k ∈ xs) := by
  induction xs with
  | nil => rfl
  | cons x xs ih =>
    have e : inV (.int k) ((x :: xs).map V.int) = (eqV (.int x) (.int k) || inV (.int k) (xs.map V.int)) := rfl
    rw [e, ih, Bool.eq_iff_iff]
    have e2 : eqV (.int x) (.int k) = true ↔ x = k := by
      show decide _ = true ↔ _
      simp
    rw [Bool.or_eq_true, e2, decide_eq_true_eq, decide_eq_true_eq, List.mem_cons]
    exact ⟨fun h => h.imp Eq.symm id, fun h => h.imp Eq.symm id⟩
theorem flat_nums {xs : List Int} : (xs.map V.int).all flatV = true := List.all_eq_true.mpr fun x hx => by
  obtain ⟨i, _, rfl⟩ := List.mem_map.mp hx
  rfl
def spReached (K : PySem.W.Frag) (a : Ad) (CM : Addr) : Sp := fun vs H Q E => ∃ m n ts v, vs = [.ref m, v] ∧ McAt K CM H m n ts ∧ Kn K H v ∧ (isBel n v = false → Thrown E H a.cN "state" v) ∧
  (isBel n v = true → ∃ s, v = .int s ∧ ∀ (p : Addr) (L : List Int) H', Same H H' → L.Pairwise (· < ·) → (∀ x, x ∈ L ↔ Rch ts s x) → SqT K H' p (L.map V.int) → Q (.ref p) H')
end K0
/-! sorted(t), t a tuple of whole numbers -/
namespace Kx
open L2 PySem PySem.Spec PyProof.Rows
def rSortTup (K : PySem.W.Frag) : List V → Hp → VK → Prop := fun vs H Q => ∃ (a : Addr) (ns : List Int), vs = [V.ref a] ∧ SqT K H a (ns.map V.int) ∧ ns.length < 64 ∧
  ∀ (L : List Int) (p : Addr), L.Perm ns → L.Pairwise (· ≤ ·) → H p = none → Q (.ref p) (upd H p (.lst (L.map V.int)))
theorem cr_sortTup {X : Cx} : CallR X (.builtin "sorted") (rSortTup X.K) := by
  rintro pins s σ H vs us Q I r ⟨a, ns, rfl, hs, few, q⟩
  obtain ⟨us, rv, ⟨ob, here, cl, n, hd⟩, _⟩ := I.tuple hs
  rw [Vals.ref1 r]
  have hi := rv.ints
  have few' : us.length < 64 := by rw [hi.length]; exact few
  refine Calls.call_function_entry kind_sorted plain_sorted entry_sorted (args_sorted1 _) ?_; unfold Builtin.«sorted»; refine wpAny_bind (m := checkCount "sorted" 1 1 _) (wpAny_pure ?_)
  refine wpAny_bind (wpAny_collect_seq a (.inr rfl) here cl hd (fun h' all => ?_) (by rw [List.size_toArray]; exact small64 few'))
  rw [List.toList_toArray]; refine wpAny_bind (wpAny_newList ?_)
  have new : (h'.push (seqObj "list" us.toArray 0)).get? h'.objs.size = some (seqObj "list" us.toArray 0) := Heap.get?_push_size _ rfl
  refine wpAny_bind (wpAny_holding (wpAny_call_entry slot_list_sort ⟨_, new, rfl⟩ entry_list_sort (list_sort_tree new hi few' fun out L a1 a2 a3 => ⟨_, rfl, ?_⟩) (args_list_sort _)))
  refine wpAny_pure ⟨_, rfl, (?_ : EP X pins σ Q _ _)⟩
  obtain ⟨ep, last⟩ := sortedHeap_at (vs := us) (out := out) new
  have none_ : s.heap.get? h'.objs.size = none := by
    cases e : s.heap.get? h'.objs.size with
    | none => rfl
    | some o => exact absurd (Heap.lt_size (all _ _ e)) (Nat.lt_irrefl _)
  have free : H h'.objs.size = none := I.hok.gone none_
  have fits : (L.map V.int).length ≤ sizeLine := by rw [List.length_map, a2.length_eq]; exact small64 few
  refine ⟨.ref h'.objs.size, upd H h'.objs.size (.lst (L.map V.int)), I.laidN (t' := s.toks) (fun b o e => ?_) none_ free ⟨fits, out.toList, ep, vals_of_ints a1, last⟩, rfl, q L _ a2 a3 free⟩
  have e2 := all b o e
  rw [sortedHeap_old (Nat.ne_of_lt (Heap.lt_size e2)) (Heap.lt_size (Heap.get?_push_of_some _ e2))]
  exact Heap.get?_push_of_some _ e2
end Kx
/-! what comes; the one machine that forgets -/
namespace K0
open L2 PySem PySem.Spec PyProof.Rows Kx
def spComing (K : PySem.W.Frag) (a : Ad) (CM : Addr) : Sp := fun vs H Q E => ∃ m n ts v, vs = [.ref m, v] ∧ McAt K CM H m n ts ∧ Kn K H v ∧ (isBel n v = false → Thrown E H a.cN "state" v) ∧
  (isBel n v = true → ∃ s, v = .int s ∧ ∀ (p : Addr) (L : List Int) H', Same H H' → L.Nodup → L.length ≤ n → (∀ x, x ∈ L ↔ Rch ts s x) → SqT K H' p (L.map V.int) → Q (.ref p) H')
section
variable {P : Program} {w : World} {K : PySem.W.Frag} {mg : Str → Option Value} {base : Heap} {f : Addr} {fd : FuncData} {a : Ad} {CM : Addr}
theorem sc_coming : FnScope ["machine", "first", "found", "at", "table", "state"] ["machine", "first"] (defScope s_in_coming_order) := ⟨rfl, rfl, rfl, by decide +kernel, rfl, by decide +kernel, by decide +kernel⟩
theorem ok_coming (F : FnP K "in_coming_order" s_in_coming_order f fd) (T : Mg mg) (TM : ClsM K mg CM) (c_state : Cal P w K mg base (L2N.CX P w) 3 "need_state" ["machine", "state"] (spState K a CM)) : FnOk P w K mg base (L2N.CX P w) 5 f fd ["machine", "first"] (spComing K a CM) := by
  refine F.ok sc_coming (fun vs H Q E h => ?_) (fun cdv A outer s H vs Q E hr h => ?_)
  · obtain ⟨m, n, ts, v, rfl, _⟩ := h
    rfl
  · obtain ⟨m, n, ts, v, rfl, hm, hv, bad, good⟩ := h
    obtain ⟨ok, dx, t, ps, h1, h2, h3⟩ := id hm
    refine ⟨_, (pss_cons (ps_set (i := 2) sc_coming.nd rfl (by first | exact Or.inl rfl | exact Or.inr rfl) (pe_lst (pa_cons (pe_callC c_state hr (L2N.passes_call (L2N.takes_of rfl rfl rfl rfl) (fun _ _ _ _ z => z)) (pa_cons (pv 0) (pa_cons (pv 1) pa_nil))) pa_nil)))
      (PSs.nox (pss_cons (ps_set (i := 3) sc_coming.nd rfl (by first | exact Or.inl rfl | exact Or.inr rfl) pe_int)
      (pss_cons (ps_while PassesOwn.never (pt_cmpR op_lt (pv 3) (pe_callB call_len_seq (by rfl) T.z_len PySem.boot_len (pa_cons (pv 2) pa_nil)) (nomark _))
        (pss_cons (ps_for PassesOwn.never rfl (pi_tup (pe_fld (pv 0) rfl)) (pg_name (i := 4) sc_coming.nd rfl (by first | exact Or.inl rfl | exact Or.inr rfl))
          (pss_cons (ps_set (i := 5) sc_coming.nd rfl (by first | exact Or.inl rfl | exact Or.inr rfl) (pe_ix ix_tup (pv 4) (pe_ix ix_list (pv 2) (pv 3) (fun _ _ => rfl)) (fun _ _ => rfl)))
          (pss_one (ps_if (pt_cmpR op_notIn_seq (pv 5) (pv 2) (by rfl))
            (pss_one (ps_expr (pe_bm PySem.F.plainAttrs_list PySem.F.slot_list_append PySem.F.type_list_append mt_append (pv 2) (pa_cons (pv 5) pa_nil))))
            pss_nil))))
        (pss_one (ps_aug (i := 3) sc_coming.nd rfl (.inl rfl) pe_int ip_add))))
      (pss_one (ps_ret (pe_callTy call_tup (by rfl) T.z_tuple (by decide +kernel) (pa_cons (pv 2) pa_nil)))))))), ?_⟩
    refine ⟨_, rfl, v, rfl, m, n, ts, v, rfl, hm, hv, bad, fun eb => ?_⟩
    obtain ⟨s0, rfl, fin⟩ := good eb
    obtain ⟨s1, s2⟩ := isBel_iff.mp eb
    refine ⟨by show 1 ≤ sizeLine; decide, fun Fa hFa => ?_⟩
    refine ⟨fun k σ' H' => ∃ (j : Nat) (L : List Int) (y z : Option V), k = n - j ∧ σ' = [some (.ref m), some (.int s0), some (.ref Fa), some (.int (j : Int)), y, z] ∧ Fnd ts s0 L j ∧ H' Fa = some (.lst (L.map V.int)) ∧ Same H H', ⟨n, 0, [s0], _, _, rfl, rfl, ⟨by simp, fun x hx => by rw [List.mem_singleton.mp hx]; exact .refl, by simp, Nat.zero_le _, fun i x h => absurd h (Nat.not_lt_zero i)⟩, upd_same, same_new hFa⟩, ?_⟩
    rintro k σ' H' ⟨j, L, y, z, rfl, rfl, fnd, hL, e⟩
    have lenL := len_le fnd.nd fun x hx => ok.rch s1 s2 (fnd.rch x hx)
    refine ⟨_, rfl, _, rfl, Fa, _, rfl, .inl (SqL.of hL), _, _, rfl, rfl, _, rfl, ite2 (fun lt => ?_) (fun ge => ?_)⟩
    · rw [List.length_map] at lt
      have lt := of_decide_eq_true lt
      have hj : j < L.length := by omega
      have ex : L[j]? = some L[j] := List.getElem?_eq_getElem hj
      have hx := ok.rch s1 s2 (fnd.rch _ (List.mem_of_getElem? ex))
      refine ⟨fun σ2 H2 => ∃ (L2 : List Int) (y z : Option V), σ2 = [some (.ref m), some (.int s0), some (.ref Fa), some (.int ((j + 1 : Nat) : Int)), y, z] ∧ Fnd ts s0 L2 (j + 1) ∧ H2 Fa = some (.lst (L2.map V.int)) ∧ Same H H2, ?_, ?_⟩
      · rintro σ2 H2 ⟨L2, y, z, r1, r2, r3, r4⟩
        exact ⟨n - (j + 1), by omega, j + 1, L2, y, z, rfl, r1, r2, r3, r4⟩
      · refine ⟨_, rfl, m, CM, dx, _, _, rfl, e _ _ h1, TM.cl, TM.n3, rfl, t, rfl, ⟨ps, sqT_same e h2⟩, ?_⟩
        refine for_tup (xs := ps) (fun i σ2 H2 => ∃ (G : List Int) (y z : Option V), σ2 = [some (.ref m), some (.int s0), some (.ref Fa), some (.int (j : Int)), y, z] ∧ Fnd ts s0 (L ++ G) j ∧ (∀ d, d < i → nx ts d L[j] ∈ L ++ G) ∧ H2 Fa = some (.lst ((L ++ G).map V.int)) ∧ Same H H2) ⟨[], _, _, rfl, by rw [List.append_nil]; exact fnd, fun d hd => absurd hd (Nat.not_lt_zero d), by rw [List.append_nil]; exact hL, e⟩ (fun i σ2 H2 _ q => by
          obtain ⟨_, _, _, _, _, _, _, e2⟩ := q
          exact sqT_same e2 h2) ?_ ?_
        · rintro i q σ2 H2 hq ⟨G, y2, z2, rfl, fnd2, cl2, hL2, e2⟩
          have hi : i < ts.length := by rw [← h3.length]; exact (List.getElem?_eq_some_iff.mp hq).1
          obtain ⟨tt, x', t1, t2, t3, x0, x1⟩ := ok.next (d := (i : Int)) (by omega) (by omega) hx.1 hx.2
          rw [Int.toNat_natCast] at t1 t3
          obtain ⟨qa, hqa, sq⟩ := h3.at_ t1
          rw [hq] at hqa
          obtain rfl := Option.some.inj hqa
          have en : nx ts i L[j] = x' := t3
          have rx : Rch ts s0 x' := by
            rw [← en]
            exact (fnd.rch _ (List.mem_of_getElem? ex)).step hi
          have a1 : atI ((L ++ G).map V.int) (j : Int) = some (V.int L[j]) := atI_nat (by rw [List.getElem?_map, List.getElem?_append_left hj, ex]; rfl)
          have a2 : atI (tt.map V.int) L[j] = some (V.int x') := by
            have := atI_nat (xs := tt.map V.int) (j := L[j].toNat) (v := .int x') (by rw [List.getElem?_map, t2]; rfl)
            rwa [Int.toNat_of_nonneg hx.1] at this
          have lenG := len_le fnd2.nd fun x hx => ok.rch s1 s2 (fnd2.rch x hx)
          have n8 := ok.n8
          refine ⟨_, rfl, _, rfl, _, rfl, Fa, _, _, _, rfl, rfl, SqL.of hL2, a1, qa, _, _, _, rfl, rfl, sqT_same e2 sq, a2, ?_⟩
          refine ⟨_, rfl, _, rfl, Fa, _, rfl, .inl (SqL.of hL2), rfl, flat_nums, _, rfl, ?_⟩
          rw [if_pos rfl, inV_nums]
          refine ite2 (fun no => ?_) (fun yes => ?_)
          · have no : x' ∉ L ++ G := by simpa using no
            refine ⟨_, rfl, .inl ⟨rfl, _, SqL.of hL2⟩, _, rfl, Fa, _, _, rfl, rfl, hL2, by rw [List.length_map, sizeLine_eq]; omega, G ++ [x'], _, _, rfl, ?_, ?_, ?_, ?_⟩
            · rw [← List.append_assoc]
              exact fnd2.more rx no
            · intro d hd
              rw [← List.append_assoc]
              rcases Nat.lt_or_eq_of_le (Nat.le_of_lt_succ hd) with h | rfl
              · exact List.mem_append_left _ (cl2 d h)
              · rw [en]
                simp
            · rw [upd_same, ← List.append_assoc, List.map_append (l₁ := L ++ G)]
              rfl
            · intro c o hc
              rw [upd_ne (ne_of_none hc hFa)]
              exact e2 _ _ hc
          · have yes : x' ∈ L ++ G := Decidable.not_not.mp (by simpa [-List.mem_append] using yes)
            refine ⟨G, _, _, rfl, fnd2, fun d hd => ?_, hL2, e2⟩
            rcases Nat.lt_or_eq_of_le (Nat.le_of_lt_succ hd) with h | rfl
            · exact cl2 d h
            · rw [en]
              exact yes
        · rintro σ2 H2 ⟨G, y2, z2, rfl, fnd2, cl2, hL2, e2⟩
          refine ⟨_, rfl, _, _, rfl, rfl, L ++ G, y2, z2, ?_, ⟨fnd2.nd, fnd2.rch, fnd2.st, by rw [List.length_append]; omega, fun i x hi hx' d hd => ?_⟩, hL2, e2⟩
          · rfl
          · rcases Nat.lt_or_eq_of_le (Nat.le_of_lt_succ hi) with h | rfl
            · exact fnd2.done i x h hx' d hd
            · rw [List.getElem?_append_left hj, ex] at hx'
              cases hx'
              exact cl2 d (by rw [h3.length]; exact hd)
    · rw [List.length_map] at ge
      have ge : ¬ ((j : Int) < (L.length : Int)) := of_decide_eq_false (by simpa using ge)
      have ej : j = L.length := by have := fnd.le; omega
      subst ej
      exact ⟨_, rfl, Fa, _, rfl, .inl (SqL.of hL), fun q H3 e3 hq => fin q L H3 (e.trans e3) fnd.nd lenL (fun x => fnd.all x) hq⟩
theorem sc_reached : FnScope ["machine", "first"] ["machine", "first"] (defScope s_reached) := ⟨rfl, rfl, rfl, by decide +kernel, rfl, by decide +kernel, by decide +kernel⟩
theorem ok_reached (F : FnP K "reached" s_reached f fd) (T : Mg mg) (c_coming : Cal P w K mg base (L2N.CX P w) 5 "in_coming_order" ["machine", "first"] (spComing K a CM)) : FnOk P w K mg base (L2N.CX P w) 6 f fd ["machine", "first"] (spReached K a CM) := by
  refine F.ok sc_reached (fun vs H Q E h => ?_) (fun cdv A outer s H vs Q E hr h => ?_)
  · obtain ⟨m, n, ts, v, rfl, _⟩ := h
    rfl
  · obtain ⟨m, n, ts, v, rfl, hm, hv, bad, good⟩ := h
    refine ⟨_, (pss_one (ps_ret (pe_callTy call_tup (by rfl) T.z_tuple (by decide +kernel) (pa_cons (pe_callB cr_sortTup (by rfl) T.z_sorted (by decide +kernel) (pa_cons (pe_callC c_coming hr (L2N.passes_call (L2N.takes_of rfl rfl rfl rfl) (fun _ _ _ _ z => z)) (pa_cons (pv 0) (pa_cons (pv 1) pa_nil))) pa_nil)) pa_nil)))), ?_⟩
    refine ⟨_, rfl, v, rfl, m, n, ts, v, rfl, hm, hv, bad, fun eb => ?_⟩
    obtain ⟨s0, rfl, fin⟩ := good eb
    refine ⟨s0, rfl, fun t L H1 e1 nd len mem ht => ?_⟩
    have n8 := hm.ok.n8
    refine ⟨t, L, rfl, ht, by omega, fun L' p perm srt hp => ⟨p, _, rfl, .inl (SqL.of upd_same), fun q H3 e3 hq => ?_⟩⟩
    have e4 : Same H H3 := fun c o hc => e3 _ _ (by rw [upd_ne (ne_of_none (e1 _ _ hc) hp)]; exact e1 _ _ hc)
    exact fin q L' H3 e4 (lt_of_le srt (perm.nodup_iff.mpr nd)) (fun x => by rw [perm.mem_iff]; exact mem x) hq
end
end K0
/-! the one machine that forgets -/
namespace K0
open L2 PySem PySem.Spec PyProof.Rows Kx
def tsX : List (List Int) := [[1, 0, 2], [0, 0, 1]]
theorem rchX {x : Int} : Rch tsX 0 x ↔ x = 0 ∨ x = 1 := by
  refine ⟨fun ⟨row, h1, e⟩ => ?_, fun h => ?_⟩
  · have := closed_all (ts := tsX) (F := [0, 1]) (fun y hy d hd => by
      rcases List.mem_cons.mp hy with rfl | hy
      · match d, hd with
        | 0, _ => decide
        | 1, _ => decide
      · obtain rfl := List.mem_singleton.mp hy
        match d, hd with
        | 0, _ => decide
        | 1, _ => decide) (row := row) (s := 0) (by decide) h1
    rw [e]
    simpa using this
  · rcases h with rfl | rfl
    · exact .refl
    · exact ⟨[0], fun d hd => by rw [List.mem_singleton.mp hd]; decide, by decide⟩
theorem comeX {L : List Int} (h : L.Pairwise (· < ·)) (m : ∀ x, x ∈ L ↔ Rch tsX 0 x) : L = [0, 1] := by
  have m : ∀ x, x ∈ L ↔ (x = 0 ∨ x = 1) := fun x => (m x).trans rchX
  match L, h, m with
  | [], _, m => exact absurd ((m 0).mpr (.inl rfl)) (by simp)
  | x :: xs, h, m =>
    obtain ⟨h1, h2⟩ := List.pairwise_cons.mp h
    have ex : x = 0 := by
      rcases (m x).mp (by simp) with e | e
      · exact e
      · have := (m 0).mpr (.inl rfl)
        rcases List.mem_cons.mp this with z | z
        · omega
        · have := h1 _ z
          omega
    subst ex
    have one : (1 : Int) ∈ xs := (List.mem_cons.mp ((m 1).mpr (.inr rfl))).resolve_left (by decide)
    match xs, h1, h2, m, one with
    | y :: ys, h1, h2, m, one =>
      have ey : y = 1 := by
        have a1 := h1 y (by simp)
        rcases (m y).mp (by simp) with e | e
        · omega
        · exact e
      subst ey
      match ys, h1, h2, m with
      | [], _, _, _ => rfl
      | z :: zs, h1, h2, m =>
        have a1 := (List.pairwise_cons.mp h2).1 z (by simp)
        rcases (m z).mp (by simp) with e | e <;> omega
theorem mokX : Mok 3 tsX := ⟨by decide, by decide, by decide, by decide, by decide, by decide⟩
def spForgot (K : PySem.W.Frag) (CM : Addr) : Sp := fun vs H Q _ => ∃ m, vs = [.ref m, .int 0] ∧ McAt K CM H m 3 tsX ∧ ∀ p H', Same H H' → SqT K H' p [.int 1, .int 0, .int 1] → Q (.ref p) H'
def spExch (K : PySem.W.Frag) (a : Ad) (CM : Addr) : Sp := fun vs H Q E => ∃ m, vs = [.ref m, .int 0] ∧ McAt K CM H m 3 tsX ∧ ∀ d H', Same H H' → H' d = some (.xd [("other", .int 1), ("one", .int 0), ("deed", .int 1)]) → E (.ref a.cO) (some d) H'
section
variable {P : Program} {w : World} {K : PySem.W.Frag} {mg : Str → Option Value} {base : Heap} {f : Addr} {fd : FuncData} {a : Ad} {CM : Addr}
theorem tabX {H : Hp} {m : Addr} (h : McAt K CM H m 3 tsX) : ∃ dx t q0 q1, H m = some (.ins CM dx [("deeds", .int 2), ("states", .int 3), ("tables", .ref t)]) ∧ SqT K H t [.ref q0, .ref q1] ∧ SqT K H q0 [.int 1, .int 0, .int 2] ∧ SqT K H q1 [.int 0, .int 0, .int 1] := by
  obtain ⟨ok, dx, t, ps, h1, h2, h3⟩ := h
  match ps, h2, h3 with
  | [v, u], h2, h3 =>
    obtain ⟨q0, e0, s0⟩ := h3.at_ (i := 0) (t := [1, 0, 2]) rfl
    obtain ⟨q1, e1, s1⟩ := h3.at_ (i := 1) (t := [0, 0, 1]) rfl
    cases e0
    cases e1
    exact ⟨dx, t, q0, q1, h1, h2, s0, s1⟩
  | [], _, h3 => exact absurd h3.length (by decide)
  | [_], _, h3 => exact absurd h3.length (by show ¬ 1 = 2; decide)
  | _ :: _ :: _ :: _, _, h3 => exact absurd h3.length (by simp [tsX])
theorem sc_forgotten : FnScope ["machine", "first", "come", "deed", "table", "one", "other"] ["machine", "first"] (defScope s_forgotten) := ⟨rfl, rfl, rfl, by decide +kernel, rfl, by decide +kernel, by decide +kernel⟩
theorem ok_forgotten (F : FnP K "forgotten" s_forgotten f fd) (T : Mg mg) (TM : ClsM K mg CM) (c_reached : Cal P w K mg base (L2N.CX P w) 6 "reached" ["machine", "first"] (spReached K a CM)) : FnOk P w K mg base (L2N.CX P w) 7 f fd ["machine", "first"] (spForgot K CM) := by
  refine F.ok sc_forgotten (fun vs H Q E h => ?_) (fun cdv A outer s H vs Q E hr h => ?_)
  · obtain ⟨m, rfl, _⟩ := h
    rfl
  · obtain ⟨m, rfl, hm, good⟩ := h
    obtain ⟨dx, t, q0, q1, h1, ht, s0, s1⟩ := tabX hm
    refine ⟨_, (pss_cons (ps_set (i := 2) sc_forgotten.nd rfl (by first | exact Or.inl rfl | exact Or.inr rfl) (pe_callC c_reached hr (L2N.passes_call (L2N.takes_of rfl rfl rfl rfl) (fun _ _ _ _ z => z)) (pa_cons (pv 0) (pa_cons (pv 1) pa_nil))))
      (PSs.nox (pss_cons (ps_for PassesOwn.never rfl (pi_pairs (by rfl) T.z_enumerate (pa_cons (pe_fld (pv 0) rfl) pa_nil)) (pg_tup rfl (pgs_cons (pg_name (i := 3) sc_forgotten.nd rfl (by first | exact Or.inl rfl | exact Or.inr rfl)) (pgs_cons (pg_name (i := 4) sc_forgotten.nd rfl (by first | exact Or.inl rfl | exact Or.inr rfl)) pgs_nil)))
        (pss_one (ps_for PassesOwn.never rfl (pi_tup (pv 2)) (pg_name (i := 5) sc_forgotten.nd rfl (by first | exact Or.inl rfl | exact Or.inr rfl))
          (pss_one (ps_for PassesOwn.never rfl (pi_tup (pv 2)) (pg_name (i := 6) sc_forgotten.nd rfl (by first | exact Or.inl rfl | exact Or.inr rfl))
            (pss_one (ps_if (PW.pt (pw_and (pt_cmpR op_lt (pv 5) (pv 6) (nomark _)) (pw_and1 (pt_cmpR op_eq (pe_ix ix_tup (pv 4) (pv 5) (fun _ _ => rfl)) (pe_ix ix_tup (pv 4) (pv 6) (fun _ _ => rfl)) (nomark _)))))
              (pss_one (ps_ret (pe_tup (pa_cons (pv 3) (pa_cons (pv 5) (pa_cons (pv 6) pa_nil))))))
              pss_nil)))))))
      (pss_one (ps_ret pe_non))))), ?_⟩
    refine ⟨_, rfl, _, rfl, m, 3, tsX, .int 0, rfl, hm, .int 0, fun z => (nomatch z), fun _ => ⟨0, rfl, fun p L H1 e1 srt mem hp => ?_⟩⟩
    obtain rfl := comeX srt mem
    have fin : ∀ {H'' : Hp}, Same H H'' → (3 ≤ sizeLine ∧ ∀ p, H'' p = none → Q (.ref p) (upd H'' p (.tup [.int 1, .int 0, .int 1]))) := fun e => ⟨by show 3 ≤ sizeLine; decide, fun p hp => good p _ (e.trans (same_new hp)) (SqT.of upd_same)⟩
    have le2 : ¬ 2 ≤ 1 := by decide
    refine ⟨_, rfl, m, CM, dx, _, _, rfl, e1 _ _ h1, TM.cl, TM.n3, rfl, t, [.ref q0, .ref q1], rfl, for_pairs (.inr (sqT_same e1 ht)) (fun i σ' H' => i ≤ 1 ∧ Same H H' ∧ Same H1 H' ∧ ∃ x3 x4 x5 x6, σ' = [some (.ref m), some (.int 0), some (.ref p), x3, x4, x5, x6]) ⟨by decide, e1, .refl _, _, _, _, _, rfl⟩ (fun i σ' H' q => q.2.2.1) ?_ ?_⟩
    · rintro i y c σ' H' hy ⟨i1, e, ep, x3, x4, x5, x6, rfl⟩ hc
      refine ⟨c, _, rfl, SqT.of upd_same, rfl, ?_⟩
      refine ⟨_, _, rfl, _, _, rfl, rfl, ?_⟩
      have e2 := e.trans (same_new (o := HO.tup [.int (i : Int), y]) hc)
      have ep2 := ep.trans (same_new (o := HO.tup [.int (i : Int), y]) hc)
      have hp2 := sqT_same ep2 hp
      obtain ⟨G, hG⟩ : ∃ G, upd H' c (.tup [.int (i : Int), y]) = G := ⟨_, rfl⟩
      rw [hG] at e2 ep2 hp2 ⊢
      have i01 : i = 0 ∨ i = 1 := by omega
      rcases i01 with rfl | rfl
      · obtain rfl : V.ref q0 = y := Option.some.inj hy
        have hq := sqT_same e2 s0
        refine ⟨_, rfl, p, rfl, ⟨_, hp2⟩, for_tup (xs := [V.int 0, .int 1]) (fun j σ2 H2 => G = H2 ∧ ∃ x5 x6, σ2 = [some (.ref m), some (.int 0), some (.ref p), some (.int 0), some (.ref q0), x5, x6]) ⟨rfl, _, _, rfl⟩ (fun j σ2 H2 _ q => q.1 ▸ hp2) ?_ ?_⟩
        · rintro j z σ2 H2 hz ⟨rfl, x5, x6, rfl⟩
          refine ⟨_, rfl, p, rfl, ⟨_, hp2⟩, for_tup (xs := [V.int 0, .int 1]) (fun k σ3 H3 => G = H3 ∧ ∃ x6, σ3 = [some (.ref m), some (.int 0), some (.ref p), some (.int 0), some (.ref q0), some z, x6]) ⟨rfl, _, rfl⟩ (fun j σ2 H2 _ q => q.1 ▸ hp2) ?_ ?_⟩
          · rintro k u σ3 H3 hu ⟨rfl, x6, rfl⟩
            have zs : z = .int 0 ∨ z = .int 1 := by
              match j, hz with
              | 0, hz => exact .inl (Option.some.inj hz).symm
              | 1, hz => exact .inr (Option.some.inj hz).symm
              | j + 2, hz => cases hz
            have us : u = .int 0 ∨ u = .int 1 := by
              match k, hu with
              | 0, hu => exact .inl (Option.some.inj hu).symm
              | 1, hu => exact .inr (Option.some.inj hu).symm
              | k + 2, hu => cases hu
            rcases zs with rfl | rfl <;> rcases us with rfl | rfl
            · exact ⟨_, rfl, _, rfl, _, _, rfl, rfl, _, rfl, iteF ⟨rfl, _, rfl⟩⟩
            · refine ⟨_, rfl, _, rfl, _, _, rfl, rfl, _, rfl, iteT ⟨_, rfl, _, rfl, q0, _, _, _, rfl, rfl, hq, rfl, _, rfl, _, rfl, q0, _, _, _, rfl, rfl, hq, rfl, rfl, _, rfl, iteF ⟨rfl, _, rfl⟩⟩⟩
            · exact ⟨_, rfl, _, rfl, _, _, rfl, rfl, _, rfl, iteF ⟨rfl, _, rfl⟩⟩
            · exact ⟨_, rfl, _, rfl, _, _, rfl, rfl, _, rfl, iteF ⟨rfl, _, rfl⟩⟩
          · rintro σ3 H3 ⟨rfl, x6, rfl⟩
            exact ⟨rfl, _, _, rfl⟩
        · rintro σ2 H2 ⟨rfl, x5, x6, rfl⟩
          exact ⟨Nat.le_refl _, e2, ep2, _, _, _, _, rfl⟩
      · obtain rfl : V.ref q1 = y := Option.some.inj hy
        have hq := sqT_same e2 s1
        refine ⟨_, rfl, p, rfl, ⟨_, hp2⟩, for_tup (xs := [V.int 0, .int 1]) (fun j σ2 H2 => j = 0 ∧ G = H2 ∧ ∃ x5 x6, σ2 = [some (.ref m), some (.int 0), some (.ref p), some (.int 1), some (.ref q1), x5, x6]) ⟨rfl, rfl, _, _, rfl⟩ (fun j σ2 H2 _ q => q.2.1 ▸ hp2) ?_ ?_⟩
        · rintro j z σ2 H2 hz ⟨rfl, rfl, x5, x6, rfl⟩
          obtain rfl : V.int 0 = z := Option.some.inj hz
          refine ⟨_, rfl, p, rfl, ⟨_, hp2⟩, for_tup (xs := [V.int 0, .int 1]) (fun k σ3 H3 => k ≤ 1 ∧ G = H3 ∧ ∃ x6, σ3 = [some (.ref m), some (.int 0), some (.ref p), some (.int 1), some (.ref q1), some (.int 0), x6]) ⟨by decide, rfl, _, rfl⟩ (fun j σ2 H2 _ q => q.2.1 ▸ hp2) ?_ ?_⟩
          · rintro k u σ3 H3 hu ⟨k1, rfl, x6, rfl⟩
            have k01 : k = 0 ∨ k = 1 := by omega
            rcases k01 with rfl | rfl
            · obtain rfl : V.int 0 = u := Option.some.inj hu
              exact ⟨_, rfl, _, rfl, _, _, rfl, rfl, _, rfl, iteF ⟨Nat.le_refl _, rfl, _, rfl⟩⟩
            · obtain rfl : V.int 1 = u := Option.some.inj hu
              exact ⟨_, rfl, _, rfl, _, _, rfl, rfl, _, rfl, iteT ⟨_, rfl, _, rfl, q1, _, _, _, rfl, rfl, hq, rfl, _, rfl, _, rfl, q1, _, _, _, rfl, rfl, hq, rfl, rfl, _, rfl, iteT ⟨_, rfl, _, rfl, _, rfl, fin e2⟩⟩⟩
          · rintro σ3 H3 ⟨k1, _⟩
            exact absurd k1 le2
        · rintro σ2 H2 ⟨j0, _⟩
          exact absurd j0 (by show ¬ 2 = 0; decide)
    · rintro σ' H' ⟨i1, _⟩
      exact absurd i1 le2
end
end K0
/-! how long the texts of data are; a word between two statements; parts of lists -/
namespace Kx
open L2 PySem PySem.Spec PyProof.Rows
/-- behind a statement a word of one's own -/
theorem ps_mid {X : Cx} {st : Stmt} {t : TS} (h : PS X st t) : PS X st fun E σ H => ∃ N : L2.St → Hp → Prop, t { E with nx := N } σ H ∧ ∀ σ' H', N σ' H' → E.nx σ' H' := by
  refine ⟨fun pins s σ H E I ⟨N, q, k⟩ => wpAny_mono (h.run pins s σ H { E with nx := N } I q) (fun f s' z => ?_) fun _ _ z => z⟩
  match f, z with
  | .next, ⟨σ', H', J, n⟩ => exact ⟨σ', H', J, k σ' H' n⟩
  | .brk, z => exact z
  | .cont, z => exact z
  | .ret _, z => exact z
theorem ends_nx {E : Ends} {N : L2.St → Hp → Prop} : ({ E with nx := N } : Ends).nx = N := rfl
section
variable {xs : List V} {i : Nat}
theorem cut_to (h : i ≤ xs.length) : cutV xs none (some (i : Int)) = xs.take i := by
  unfold cutV
  rw [HT.sIx_none, HT.sIx_nat, List.drop_zero, Nat.sub_zero, Nat.min_eq_left h]
theorem cut_from (h : i ≤ xs.length) : cutV xs (some (i : Int)) none = xs.drop i := by
  unfold cutV
  rw [HT.sIx_none, HT.sIx_nat, Nat.min_eq_left h]
  exact List.take_of_length_le (by rw [List.length_drop]; exact Nat.le_refl _)
end
/-- d shows, within m levels, as a text of at most L signs -/
structure OkD (m L : Nat) (d : PyData) : Prop where
  sh : d.showable = true
  nd : d.hasDict = false
  deep : d.depth ≤ m
  fit : d.shown.length ≤ L
structure OkA (m L : Nat) (ds : List PyData) : Prop where
  sh : PyData.showableAll ds = true
  nd : PyData.hasDictAll ds = false
  deep : PyData.depthAll ds ≤ m
  fit : piled (PyData.shownAll ds) ≤ L
theorem OkD.mono {m n L M : Nat} {d : PyData} (h : OkD m L d) (h1 : m ≤ n) (h2 : L ≤ M) : OkD n M d := ⟨h.sh, h.nd, Nat.le_trans h.deep h1, Nat.le_trans h.fit h2⟩
theorem OkA.mono {m n L M : Nat} {d : List PyData} (h : OkA m L d) (h1 : m ≤ n) (h2 : L ≤ M) : OkA n M d := ⟨h.sh, h.nd, Nat.le_trans h.deep h1, Nat.le_trans h.fit h2⟩
theorem okD_int {i : Int} (h : i.natAbs < 2 ^ 200) : OkD 0 1921 (.int i) := by
  have lg : i.natAbs.log2 < 1920 := by
    by_cases z : i.natAbs = 0
    · rw [z]
      decide
    · exact (Nat.log2_lt z).mpr (Nat.lt_of_lt_of_le h (Nat.pow_le_pow_right (by decide) (by decide)))
  refine ⟨?_, by simp only [PyData.hasDict], by simp only [PyData.depth]; exact Nat.le_refl _, ?_⟩
  · simp only [PyData.showable]
    exact decide_eq_true lg
  · simp only [PyData.shown]
    exact int_text_len_1921 lg
theorem okD_small {i : Int} (h : -1000000 ≤ i ∧ i ≤ 1000000) : OkD 0 1921 (.int i) := okD_int (Nat.lt_of_lt_of_le (show i.natAbs < 2 ^ 20 by omega) (Nat.pow_le_pow_right (by decide) (by decide)))
theorem okD_non : OkD 0 4 .none := ⟨rfl, by simp only [PyData.hasDict], by simp only [PyData.depth]; exact Nat.le_refl _, by decide +kernel⟩
theorem okD_bl (b : Bool) : OkD 0 5 (.bool b) := ⟨rfl, by simp only [PyData.hasDict], by simp only [PyData.depth]; exact Nat.le_refl _, by cases b <;> decide +kernel⟩
theorem okD_str {z : Str} {L : Nat} (h : (reprText z).length ≤ L) : OkD 0 L (.str z) := ⟨rfl, by simp only [PyData.hasDict], by simp only [PyData.depth]; exact Nat.le_refl _, by simp only [PyData.shown]; exact h⟩
theorem okA_nil {m : Nat} : OkA m 0 [] := ⟨by simp only [PyData.showableAll], by simp only [PyData.hasDictAll], by simp only [PyData.depthAll]; exact Nat.zero_le _, by simp only [PyData.shownAll]; exact Nat.le_refl _⟩
theorem okA_cons {m L M : Nat} {d : PyData} {ds : List PyData} (h : OkD m L d) (k : OkA m M ds) : OkA m (L + 2 + M) (d :: ds) := by
  refine ⟨?_, ?_, ?_, ?_⟩
  · simp only [PyData.showableAll, h.sh, k.sh, Bool.and_self]
  · simp only [PyData.hasDictAll, h.nd, k.nd, Bool.or_self]
  · simp only [PyData.depthAll]
    exact Nat.max_le.mpr ⟨h.deep, k.deep⟩
  · simp only [PyData.shownAll]
    rw [piled_cons]
    have := h.fit
    have := k.fit
    omega
theorem textFrom_most : ∀ (ts : List Str) (k : Nat) (acc : Str), (textFrom k acc ts).length ≤ acc.length + piled ts
  | [], k, acc => Nat.le_refl _
  | t :: r, k, acc => by
    have ih := textFrom_most r (k + 1) (acc ++ (if k > 0 then ", " else "" : String) ++ t)
    rw [strLen_append, strLen_append] at ih
    have e : (((if k > 0 then ", " else "" : String) : Str)).length ≤ 2 := by split <;> decide
    rw [piled_cons]
    change (textFrom (k + 1) _ r).length ≤ _
    omega
theorem okD_list {m L : Nat} {ds : List PyData} (h : OkA m L ds) : OkD (m + 1) (L + 4) (.list ds) := by
  refine ⟨by simp only [PyData.showable]; exact h.sh, by simp only [PyData.hasDict]; exact h.nd, by simp only [PyData.depth]; exact Nat.succ_le_succ h.deep, ?_⟩
  simp only [PyData.shown]
  unfold listText
  have := textFrom_most (PyData.shownAll ds) 0 "["
  have e1 : (("[" : String) : Str).length = 1 := rfl
  have e2 : (("]" : String) : Str).length = 1 := rfl
  have := h.fit
  rw [strLen_append, e2]
  have e3 : (Str.ofString "[").length = 1 := rfl
  omega
theorem okD_tuple {m L : Nat} {ds : List PyData} (h : OkA m L ds) : OkD (m + 1) (L + 4) (.tuple ds) := by
  refine ⟨by simp only [PyData.showable]; exact h.sh, by simp only [PyData.hasDict]; exact h.nd, by simp only [PyData.depth]; exact Nat.succ_le_succ h.deep, ?_⟩
  simp only [PyData.shown]
  unfold tupleText
  have e1 : (("(" : String) : Str).length = 1 := rfl
  have e3 : (((if (PyData.shownAll ds).length == 1 then ",)" else ")" : String) : Str)).length ≤ 2 := by split <;> decide
  have := h.fit
  simp only [strLen_append, e1]
  by_cases z : PyData.shownAll ds = []
  · have e4 : (Str.join ", " (PyData.shownAll ds)).length = 0 := by rw [z]; rfl
    omega
  · have := join_length_add _ z
    omega
theorem okA_ints : ∀ {ns : List Int}, (∀ n ∈ ns, -1000000 ≤ n ∧ n ≤ 1000000) → OkA 0 (1923 * ns.length) (ns.map PyData.int)
  | [], _ => okA_nil
  | n :: ns, h => (okA_cons (okD_small (h n List.mem_cons_self)) (okA_ints fun x hx => h x (List.mem_cons_of_mem _ hx))).mono (Nat.le_refl _) (by rw [List.length_cons]; omega)
theorem okD_nums {ns : List Int} (h : ∀ n ∈ ns, -1000000 ≤ n ∧ n ≤ 1000000) (l : ns.length ≤ 8) : OkD 1 15400 (dNums ns) := (okD_tuple (okA_ints h)).mono (Nat.le_refl _) (by omega)
theorem okA_rows : ∀ {rs : List (List Int)}, (∀ r ∈ rs, r.length ≤ 8 ∧ ∀ n ∈ r, -1000000 ≤ n ∧ n ≤ 1000000) → OkA 1 (15402 * rs.length) (rs.map dNums)
  | [], _ => okA_nil
  | r :: rs, h => (okA_cons (okD_nums (h r List.mem_cons_self).2 (h r List.mem_cons_self).1) (okA_rows fun x hx => h x (List.mem_cons_of_mem _ hx))).mono (Nat.le_refl _) (by rw [List.length_cons]; omega)
theorem okD_rows {rs : List (List Int)} (h : ∀ r ∈ rs, r.length ≤ 8 ∧ ∀ n ∈ r, -1000000 ≤ n ∧ n ≤ 1000000) (l : rs.length ≤ 1000) : OkD 2 15402004 (dRows rs) := (okD_tuple (okA_rows h)).mono (Nat.le_refl _) (by omega)
end Kx
/-! what forgets is told; a row of words -/
namespace K0
open L2 PySem PySem.Spec PyProof.Rows Kx
theorem bt_str : bootBuiltins "str" = some (.type "str") := by decide +kernel
def txt : Nat → Str
  | 1 => "0 2"
  | 2 => "0 0 2"
  | _ => "0 0 0 2"
def wds (k : Nat) : List V := List.replicate k (V.str "0") ++ [V.str "2"]
def spText (K : PySem.W.Frag) : Sp := fun vs H Q _ => ∃ x : Str, vs = [.str x] ∧ Q (.str x) H
def spBelowW (K : PySem.W.Frag) : Sp := fun vs H Q _ => ∃ w k, vs = [.ref w, .int 2] ∧ k ≤ 3 ∧ SqL K H w (wds k) ∧ ∀ p H', Same H H' → H' p = some (.lst (List.replicate k (V.int 0))) → Q (.ref p) H'
def spReadRow (K : PySem.W.Frag) (a : Ad) (CM : Addr) : Sp := fun vs H _ E => ∃ m k, vs = [.ref m, .str (txt k)] ∧ (k = 1 ∨ k = 2 ∨ k = 3) ∧ McAt K CM H m 3 tsX ∧ Thrown E H a.cT "at" (.int (k : Nat))
section
variable {P : Program} {w : World} {K : PySem.W.Frag} {mg : Str → Option Value} {base : Heap} {f : Addr} {fd : FuncData} {a : Ad} {CM : Addr}
theorem sc_exch : FnScope ["machine", "first", "found", "deed", "one", "other"] ["machine", "first"] (defScope s_need_exchanges) := ⟨rfl, rfl, rfl, by decide +kernel, rfl, by decide +kernel, by decide +kernel⟩
theorem ok_exch (F : FnP K "need_exchanges" s_need_exchanges f fd) (T : Mg mg) (R : Er P w K mg base a) (c_forgotten : Cal P w K mg base (L2N.CX P w) 7 "forgotten" ["machine", "first"] (spForgot K CM)) : FnOk P w K mg base (L2N.CX P w) 8 f fd ["machine", "first"] (spExch K a CM) := by
  refine F.ok sc_exch (fun vs H Q E h => ?_) (fun cdv A outer s H vs Q E hr h => ?_)
  · obtain ⟨m, rfl, _⟩ := h
    rfl
  · obtain ⟨m, rfl, hm, bad⟩ := h
    refine ⟨_, (pss_cons (ps_set (i := 2) sc_exch.nd rfl (by first | exact Or.inl rfl | exact Or.inr rfl) (pe_callC c_forgotten hr (L2N.passes_call (E := E) (L2N.takes_of rfl rfl rfl rfl) (fun _ _ _ _ z => z)) (pa_cons (pv 0) (pa_cons (pv 1) pa_nil))))
      (pss_cons (ps_if (pt_cmpR op_notN (pv 2) pe_non (nomark _))
        (pss_cons (ps_asg (pv 2) (pg_tup rfl (pgs_cons (pg_name (i := 3) sc_exch.nd rfl (by first | exact Or.inl rfl | exact Or.inr rfl)) (pgs_cons (pg_name (i := 4) sc_exch.nd rfl (by first | exact Or.inl rfl | exact Or.inr rfl)) (pgs_cons (pg_name (i := 5) sc_exch.nd rfl (by first | exact Or.inl rfl | exact Or.inr rfl)) pgs_nil)))))
        (pss_one (psF R.Forgets rfl hr (L2N.takes_of rfl rfl rfl rfl) (pa_cons (pv 3) (pa_cons (pv 4) (pa_cons (pv 5) pa_nil))))))
        pss_nil)
      (pss_one (ps_ret (pv 0))))), ?_⟩
    refine ⟨_, rfl, _, rfl, m, rfl, hm, fun p H1 e1 hp => ?_⟩
    refine ⟨_, rfl, rfl, true, rfl, iteT ?_⟩
    refine ⟨_, rfl, p, _, rfl, hp, rfl, ?_⟩
    refine ⟨_, _, rfl, _, _, rfl, _, _, rfl, rfl, ?_⟩
    exact ⟨_, rfl, _, rfl, _, rfl, thrown3 fun d hd => bad d _ (e1.trans (same_new hd)) upd_same⟩
theorem sc_need_text : FnScope ["text"] ["text"] (defScope s_need_text) := ⟨rfl, rfl, rfl, by decide +kernel, rfl, by decide +kernel, by decide +kernel⟩
theorem ok_need_text (F : FnP K "_need_text" s_need_text f fd) (T : Mg mg) (R : Er P w K mg base a) : FnOk P w K mg base (L2N.CX P w) 4 f fd ["text"] (spText K) := by
  refine F.ok sc_need_text (fun vs H Q E h => ?_) (fun cdv A outer s H vs Q E hr h => ?_)
  · obtain ⟨x, rfl, _⟩ := h
    rfl
  · obtain ⟨x, rfl, k⟩ := h
    refine ⟨_, (pss_cons (ps_if (pt_not (pt_val (pe_callB call_isi (by rfl) T.z_isinstance (by decide +kernel) (pa_cons (pv 0) (pa_cons (pe_ty T.z_str bt_str) pa_nil)))))
        (pss_one (psN R.BadText rfl hr (L2N.takes_of rfl rfl rfl rfl) (pa_cons pe_int pa_nil)))
        pss_nil)
      (pss_one (ps_ret (pv 0)))), ?_⟩
    exact ⟨_, rfl, _, .ty "str", _, _, true, rfl, .ty _, .base (.str x), kit_ty (by decide +kernel), true, rfl, iteF ⟨_, rfl, k⟩⟩
theorem sc_read_below : FnScope ["words", "limit", "right", "numbers", "word", "number"] ["words", "limit"] (defScope s_read_below) := ⟨rfl, rfl, rfl, by decide +kernel, rfl, by decide +kernel, by decide +kernel⟩
theorem ok_read_below (F : FnP K "read_below" s_read_below f fd) (T : Mg mg) : FnOk P w K mg base CX0 1 f fd ["words", "limit"] (spBelowW K) := by
  refine F.ok sc_read_below (fun vs H Q E h => ?_) (fun cdv A outer s H vs Q E hr h => ?_)
  · obtain ⟨x, k, rfl, _⟩ := h
    rfl
  · obtain ⟨x, k, rfl, k3, hx, q⟩ := h
    refine ⟨_, PSs.nox (pss_cons (ps_setLc (i := 2) (own := [("number", 5)]) (by rfl) sc_read_below.nd rfl rfl (sw_true rfl rfl rfl (by decide +kernel)) (pi_range1 (by rfl) T.z_range (pa_cons (pv 1) pa_nil)) (blkOk_by (own := [("number", 5)]) (N := ["words", "limit", "right", "numbers", "word", "number"]) (sc := defScope s_read_below) (by decide +kernel))
        (fun _ _ _ _ _ => pg_name (i := 5) sc_read_below.nd rfl (by first | exact Or.inl rfl | exact Or.inr rfl)) (fun _ _ _ _ _ => pts_nil) (fun _ _ _ _ _ => pe_callTy call_str_int (by rfl) T.z_str bt_str (pa_cons (pv 5) pa_nil)))
      (pss_cons (ps_set (i := 3) sc_read_below.nd rfl (by first | exact Or.inl rfl | exact Or.inr rfl) (pe_lst pa_nil))
      (pss_cons (ps_for PassesOwn.never rfl (pi_list (pv 0)) (pg_name (i := 4) sc_read_below.nd rfl (by first | exact Or.inl rfl | exact Or.inr rfl))
        (pss_cons (ps_if (pt_cmpR op_notIn_seq (pv 4) (pv 2) (by rfl))
          (pss_one (ps_ret (pv 3)))
          pss_nil)
        (pss_one (ps_expr (pe_bm PySem.F.plainAttrs_list PySem.F.slot_list_append PySem.F.type_list_append mt_append (pv 3) (pa_cons (pe_bm PySem.F.plainAttrs_list PySem.F.slot_list_index PySem.F.type_list_index mt_index (pv 2) (pa_cons (pv 4) pa_nil)) pa_nil))))))
      (pss_one (ps_ret (pv 3)))))), ?_⟩
    refine ⟨_, rfl, _, rfl, by decide, by decide, fun D hD => lc_range (lo := 0) (n := 2) (Part H D [V.str "0", V.str "1"]) (Part.zero hD) ?_ ?_⟩
    · intro i H2 hi pt
      refine ⟨rfl, yes ((if_pos rfl).mpr ?_)⟩
      have i01 : i = 0 ∨ i = 1 := by have : i < 2 := hi; omega
      rcases i01 with rfl | rfl
      · exact ⟨_, rfl, _, rfl, by decide +kernel, pt.step hD (Same.refl H2) (y := .str (toString ((0 : Int) + ((0 : Nat) : Int)))) (by decide +kernel) (by show 2 ≤ sizeLine; decide)⟩
      · exact ⟨_, rfl, _, rfl, by decide +kernel, pt.step hD (Same.refl H2) (y := .str (toString ((0 : Int) + ((1 : Nat) : Int)))) (by decide +kernel) (by show 2 ≤ sizeLine; decide)⟩
    · intro H1 pt
      obtain ⟨hR, e1⟩ := pt.done (by show 2 ≤ 2; decide)
      refine ⟨by show 0 ≤ sizeLine; decide, fun N hN => ?_⟩
      have neD : D ≠ N := ne_of_none hR hN
      refine ⟨_, rfl, x, rfl, ⟨_, sqL_same (e1.trans (same_new hN)) hx⟩, for_list (xs := wds k) (fun i σ' H' => i ≤ k ∧ (∃ y z, σ' = [some (.ref x), some (.int 2), some (.ref D), some (.ref N), y, z]) ∧ Same H1 H' ∧ H' N = some (.lst (List.replicate i (V.int 0)))) ⟨Nat.zero_le _, ⟨_, _, rfl⟩, same_new hN, upd_same⟩
        (fun i σ' H' _ q => sqL_same (e1.trans q.2.2.1) hx) ?_ ?_⟩
      · rintro i y σ' H' hy ⟨ik, ⟨y0, z0, rfl⟩, e, hn⟩
        have hR' := e _ _ hR
        rcases Nat.lt_or_eq_of_le ik with lt | rfl
        · have ey : y = .str "0" := by
            unfold wds at hy
            rw [List.getElem?_append_left (by rw [List.length_replicate]; exact lt), List.getElem?_replicate, if_pos lt] at hy
            exact (Option.some.inj hy).symm
          subst ey
          refine ⟨_, rfl, _, rfl, D, _, rfl, .inl (SqL.of hR'), rfl, rfl, false, rfl, iteF ?_⟩
          refine ⟨_, rfl, .inl ⟨rfl, _, SqL.of hn⟩, _, rfl, .inl ⟨rfl, _, SqL.of hR'⟩, _, rfl, D, _, _, 0, _, rfl, rfl, SqL.of hR', rfl, rfl, rfl, rfl, fun m z' hm => absurd hm (Nat.not_lt_zero m), N, _, _, rfl, rfl, hn, by rw [List.length_replicate, sizeLine_eq]; omega, lt, ⟨_, _, rfl⟩, fun b o hb => ?_, ?_⟩
          · rw [upd_ne (ne_of_none hb hN)]
            exact e _ _ hb
          · rw [upd_same]
            exact congrArg (fun l => some (HO.lst l)) (List.replicate_succ' ▸ rfl)
        · have ey : y = .str "2" := by
            unfold wds at hy
            rw [List.getElem?_append_right (by rw [List.length_replicate]; exact Nat.le_refl _), List.length_replicate, Nat.sub_self] at hy
            exact (Option.some.inj hy).symm
          subst ey
          refine ⟨_, rfl, _, rfl, D, _, rfl, .inl (SqL.of hR'), rfl, rfl, true, rfl, iteT ⟨_, rfl, ?_⟩⟩
          exact q N _ (e1.trans e) hn
      · rintro σ' H' ⟨ik, _⟩
        unfold wds at ik
        rw [List.length_append, List.length_replicate] at ik
        exact absurd ik (by simp)
theorem split_txt {k : Nat} (h : k = 1 ∨ k = 2 ∨ k = 3) : ((Txt.split (txt k) " ").map V.str) = wds k := by
  rcases h with rfl | rfl | rfl <;> decide +kernel
theorem cut_wds {k : Nat} (h : k = 1 ∨ k = 2 ∨ k = 3) : cutV (wds k) none (some 400) = wds k := by
  rcases h with rfl | rfl | rfl <;> rfl
theorem sc_read_row : FnScope ["machine", "text", "words", "row"] ["machine", "text"] (defScope s_read_row) := ⟨rfl, rfl, rfl, by decide +kernel, rfl, by decide +kernel, by decide +kernel⟩
theorem ok_read_row (F : FnP K "read_row" s_read_row f fd) (T : Mg mg) (R : Er P w K mg base a) (TM : ClsM K mg CM) (c_text : Cal P w K mg base (L2N.CX P w) 4 "_need_text" ["text"] (spText K)) (c_below : Cal P w K mg base CX0 1 "read_below" ["words", "limit"] (spBelowW K)) :
    FnOk P w K mg base (L2N.CX P w) 5 f fd ["machine", "text"] (spReadRow K a CM) := by
  refine F.ok sc_read_row (fun vs H Q E h => ?_) (fun cdv A outer s H vs Q E hr h => ?_)
  · obtain ⟨m, k, rfl, _⟩ := h
    rfl
  · obtain ⟨m, k, rfl, hk, hm, bad⟩ := h
    obtain ⟨dx, t, q0, q1, h1, -, -, -⟩ := tabX hm
    refine ⟨_, (pss_cons (ps_if (pt_cmpR op_eq (pe_callC c_text hr (L2N.passes_call (E := E) (L2N.takes_of rfl rfl rfl rfl) (fun _ _ _ _ z => z)) (pa_cons (pv 1) pa_nil)) pe_str (nomark _))
        (pss_one (ps_ret (pe_tup pa_nil)))
        pss_nil)
      (pss_cons (ps_set (i := 2) sc_read_row.nd rfl (by first | exact Or.inl rfl | exact Or.inr rfl) (pe_split (pv 1) pe_str))
      (pss_cons (ps_set (i := 3) sc_read_row.nd rfl (by first | exact Or.inl rfl | exact Or.inr rfl) (pe_callC c_below hr pass0 (pa_cons (pe_slice sl_list (pv 2) po_none (po_some (pe_constI T.g_ROW_MOST))) (pa_cons (pe_fld (pv 0) rfl) pa_nil))))
      (pss_cons (ps_if (pt_cmpR op_lt (pe_callB call_len_seq (by rfl) T.z_len PySem.boot_len (pa_cons (pv 3) pa_nil)) (pe_callB call_len_seq (by rfl) T.z_len PySem.boot_len (pa_cons (pv 2) pa_nil)) (nomark _))
        (pss_one (psN R.BadText rfl hr (L2N.takes_of rfl rfl rfl rfl) (pa_cons (pe_callB call_len_seq (by rfl) T.z_len PySem.boot_len (pa_cons (pv 3) pa_nil)) pa_nil)))
        pss_nil)
      (pss_one (ps_ret (pe_callTy call_tup (by rfl) T.z_tuple (by decide +kernel) (pa_cons (pv 3) pa_nil)))))))), ?_⟩
    have no : txt k ≠ ("-" : Str) := by rcases hk with rfl | rfl | rfl <;> decide +kernel
    have few : (txt k).length + 2 ≤ sizeLine := by rcases hk with rfl | rfl | rfl <;> decide +kernel
    refine ⟨_, rfl, _, rfl, rfl, _, rfl, ?_⟩
    refine ite2 (fun z => absurd (V.str.inj (of_decide_eq_true z)) no) (fun _ => ?_)
    refine ⟨_, rfl, ⟨_, rfl⟩, _, _, rfl, rfl, by decide +kernel, few, fun W hW => ?_⟩
    rw [split_txt hk]
    have hW1 := upd_same (H := H) (a := W) (o := HO.lst (wds k))
    have e1 := same_new (o := HO.lst (wds k)) hW
    refine ⟨_, rfl, 400, rfl, W, wds k, rfl, SqL.of hW1, fun V2 hV => ?_⟩
    rw [cut_wds hk]
    have e2 := same_new (o := HO.lst (wds k)) hV
    refine ⟨_, rfl, m, CM, dx, _, _, rfl, e2 _ _ (e1 _ _ h1), TM.cl, TM.n1, rfl, V2, k, rfl, by omega, SqL.of upd_same, fun N H3 e3 hN => ?_⟩
    refine ⟨_, rfl, N, _, rfl, .inl (SqL.of hN), _, rfl, W, _, rfl, .inl (SqL.of (e3 _ _ (e2 _ _ hW1))), _, _, rfl, rfl, _, rfl, ?_⟩
    have lt : decide (((List.replicate k (V.int 0)).length : Int) < ((wds k).length : Int)) = true := by
      rw [decide_eq_true_eq, wds, List.length_append, List.length_replicate, List.length_replicate]
      simp only [List.length_cons, List.length_nil]
      omega
    rw [lt]
    refine iteT ⟨_, rfl, N, _, rfl, .inl (SqL.of hN), ?_⟩
    rw [List.length_replicate]
    exact thrownN (bad.same ((e1.trans e2).trans e3)).at_
end
end K0
/-! the law's draws -/
namespace K0
open PySem PySem.Spec PyProof.Rows L2 Kx RZ
/-- a source of draws -/
def bx (t : Int × Int × Int) : HO := .lst [.int t.1, .int t.2.1, .int t.2.2]
/-- from H to H' only the source at b has moved, things were made -/
def Mv (b : Addr) (H H' : Hp) : Prop := (∀ c o, c ≠ b → H c = some o → H' c = some o) ∧ ∃ t, H' b = some (bx t)
theorem Mv.refl {b : Addr} {H : Hp} {t : Int × Int × Int} (h : H b = some (bx t)) : Mv b H H := ⟨fun _ _ _ h => h, t, h⟩
theorem Mv.trans {b : Addr} {H H1 H2 : Hp} (h : Mv b H H1) (g : Mv b H1 H2) : Mv b H H2 := ⟨fun c o ne q => g.1 c o ne (h.1 c o ne q), g.2⟩
theorem Mv.same {b : Addr} {H H1 H2 : Hp} (h : Mv b H H1) (g : Same H1 H2) : Mv b H H2 := ⟨fun c o ne q => g c o (h.1 c o ne q), h.2.elim fun t q => ⟨t, g _ _ q⟩⟩
theorem Mv.upd {b : Addr} {H : Hp} (t : Int × Int × Int) : Mv b H (L2.upd H b (bx t)) := ⟨fun c o ne q => by rw [upd_ne ne]; exact q, t, upd_same⟩
section
variable {K : PySem.W.Frag} {b a : Addr} {H H' : Hp} {t : Int × Int × Int} {xs : List V}
theorem Mv.rd {u : HO} (m : Mv b H H') (hb : H b = some (bx t)) (n1 : ∀ ys, u ≠ .lst ys) (h : Rd H a u) : Rd H' a u := by
  rcases h with h | ⟨z, h⟩
  · exact .inl (m.1 _ _ (ne_of h hb (n1 _)) h)
  · exact .inr ⟨z, m.1 _ _ (ne_of h hb (fun z => nomatch z)) h⟩
theorem Mv.sqT (m : Mv b H H') (hb : H b = some (bx t)) (h : SqT K H a xs) : SqT K H' a xs := h.imp (m.rd hb fun _ z => nomatch z) id
theorem Mv.sqL (m : Mv b H H') (ne : a ≠ b) (h : SqL K H a xs) : SqL K H' a xs := h.imp (fun h => h.elim (fun h => .inl (m.1 _ _ ne h)) fun ⟨z, h⟩ => .inr ⟨z, m.1 _ _ ne h⟩) id
theorem Mv.tupD (m : Mv b H H') (hb : H b = some (bx t)) (h : TupD H a xs) : TupD H' a xs := h.elim fun o h => ⟨o, m.1 _ _ (ne_of h.1 hb (fun z => nomatch z)) h.1, h.2⟩
theorem Mv.mc {C c : Addr} {n : Nat} {ts : List (List Int)} (m : Mv b H H') (hb : H b = some (bx t)) (h : McAt K C H c n ts) : McAt K C H' c n ts := by
  obtain ⟨ok, dx, p, ps, h1, h2, h3⟩ := h
  exact ⟨ok, dx, p, ps, m.1 _ _ (ne_of h1 hb (fun z => nomatch z)) h1, m.sqT hb h2, h3.imp fun _ _ q => m.sqT hb q⟩
end
def spTake : Sp := fun vs H Q _ => ∃ (b : Addr) (t : Int × Int × Int) (many : Int), vs = [.ref b, .int many] ∧ H b = some (bx t) ∧ 0 < many ∧ many < 1073741824 ∧
  ∀ (r : Int) (H' : Hp), 0 ≤ r → r < many → Mv b H H' → Q (.int r) H'
def spPick (K : PySem.W.Frag) : Sp := fun vs H Q _ => ∃ (b a : Addr) (t : Int × Int × Int) (xs : List V), vs = [.ref b, .ref a] ∧ H b = some (bx t) ∧ a ≠ b ∧ SqL K H a xs ∧ 0 < xs.length ∧ xs.length < 1073741824 ∧
  ∀ (v : V) (H' : Hp), v ∈ xs → Mv b H H' → Q v H'
def spBox (K : PySem.W.Frag) : Sp := fun vs H Q _ => ∃ (a : Addr) (ns : List Int) (k : Nat), vs = [.ref a, .int (k : Int)] ∧ SqL K H a (ns.map V.int) ∧ ns.length ≤ 63 ∧
  ∀ (H' : Hp) (b : Addr) (t : Int × Int × Int), Same H H' → H b = none → H' b = some (bx t) → Q (.ref b) H'
section
variable {P : Program} {w : World} {K : PySem.W.Frag} {mg : Str → Option Value} {base : Heap} {f : Addr} {fd : FuncData} {a : Ad} {C CM : Addr}
theorem sc_law_take : FnScope ["box", "many", "digit", "raw"] ["box", "many"] (defScope s_law_take) := ⟨rfl, rfl, rfl, by decide +kernel, rfl, by decide +kernel, by decide +kernel⟩
theorem ok_take (F : FnP K "_law_take" s_law_take f fd) (T : Mg mg) : FnOk P w K mg base CX0 1 f fd ["box", "many"] spTake := by
  refine F.ok sc_law_take (fun vs H Q E h => ?_) (fun cdv A outer s H vs Q E hr h => ?_)
  · obtain ⟨b, t, many, rfl, _⟩ := h
    rfl
  · obtain ⟨b, ⟨x, y, z⟩, many, rfl, hb, h0, h1, k⟩ := h
    refine ⟨_, PSs.nox (pss_cons (ps_if (pt_cmpR op_gt (pe_ix ix_list (pv 0) pe_int (fun _ _ => rfl)) pe_int (nomark _))
        (pss_cons (ps_set (i := 2) sc_law_take.nd rfl (by first | exact Or.inl rfl | exact Or.inr rfl) (pe_op op_mod (pe_callTy call_int1 (by rfl) T.z_int (by decide +kernel) (pa_cons (pe_ix ix_list (pv 0) pe_int (fun _ _ => rfl)) pa_nil)) (pv 1)))
        (pss_cons (ps_asg (pe_op op_fdivN (pe_ix ix_list (pv 0) pe_int (fun _ _ => rfl)) (pv 1)) (pg_sub (pv 0) pe_int set_list))
        (pss_one (ps_ret (pv 2)))))
        pss_nil)
      (pss_cons (ps_asg (pe_op op_add (pe_ix ix_list (pv 0) pe_int (fun _ _ => rfl)) pe_int) (pg_sub (pv 0) pe_int set_list))
      (pss_cons (ps_set (i := 3) sc_law_take.nd rfl (by first | exact Or.inl rfl | exact Or.inr rfl) (pe_op op_mod (pe_callTy call_int1 (by rfl) T.z_int (by decide +kernel) (pa_cons (pe_op op_add (pe_op op_mul (pe_op op_add (pe_ix ix_list (pv 0) pe_int (fun _ _ => rfl)) (pe_op op_mul pe_int (pe_ix ix_list (pv 0) pe_int (fun _ _ => rfl)))) pe_int) pe_int) pa_nil)) pe_int))
      (pss_cons (ps_asg (pe_op op_add (pe_op op_mod (pe_callTy call_int1 (by rfl) T.z_int (by decide +kernel) (pa_cons (pe_op op_add (pe_op op_mul (pv 3) pe_int) pe_int) pa_nil)) pe_int) pe_int) (pg_sub (pv 0) pe_int set_list))
      (pss_one (ps_ret (pe_op op_mod (pe_callTy call_int1 (by rfl) T.z_int (by decide +kernel) (pa_cons (pe_op op_fdiv (pe_op op_add (pe_op op_mul (pv 3) pe_int) (pe_ix ix_list (pv 0) pe_int (fun _ _ => rfl))) pe_int) pa_nil)) (pv 1)))))))), ?_⟩
    refine ⟨_, rfl, b, _, 0, _, rfl, rfl, SqL.of hb, rfl, _, _, rfl, rfl, _, rfl, ?_⟩
    refine ite2 (fun hx => ?_) (fun hx => ?_)
    · refine ⟨_, rfl, b, _, 0, _, rfl, rfl, SqL.of hb, rfl, .inl ⟨_, rfl, _, rfl, _, _, rfl, rfl, h0, ?_⟩⟩
      refine ⟨_, rfl, b, _, 0, _, rfl, rfl, SqL.of hb, rfl, _, rfl, _, _, rfl, rfl, ⟨by omega, by omega⟩, ?_⟩
      refine ⟨_, rfl, b, _, 0, 0, rfl, rfl, hb, rfl, ?_⟩
      exact ⟨_, rfl, k _ _ (Int.emod_nonneg _ (by omega)) (Int.emod_lt_of_pos _ h0) (Mv.upd (x.fdiv many, y, z))⟩
    · refine ⟨_, rfl, b, _, 2, _, rfl, rfl, SqL.of hb, rfl, _, _, rfl, rfl, ?_⟩
      refine ⟨_, rfl, b, _, 2, 2, rfl, rfl, hb, rfl, ?_⟩
      have e1 : L2.upd H b (.lst (([V.int x, V.int y, V.int z] : List V).set 2 (V.int (z + 1)))) b = some (.lst [V.int x, V.int y, V.int (z + 1)]) := upd_same
      refine ⟨_, rfl, b, _, 1, _, rfl, rfl, SqL.of e1, rfl, ?_⟩
      refine ⟨_, rfl, b, _, 2, _, rfl, rfl, SqL.of e1, rfl, _, _, rfl, rfl, .inl ⟨by decide, by decide⟩, _, _, rfl, rfl, _, _, rfl, rfl, .inr ⟨by decide, by decide⟩, _, _, rfl, rfl, ?_⟩
      refine .inl ⟨_, rfl, _, _, rfl, rfl, (by show (0 : Int) < 2147483423; decide), ?_⟩
      generalize hraw : ((y + 66029 * (z + 1)) * 55249 + 67) % 2147483423 = raw
      refine ⟨_, rfl, _, _, rfl, rfl, .inr ⟨by decide, by decide⟩, _, _, rfl, rfl, .inl ⟨_, rfl, _, _, rfl, rfl, (by show (0 : Int) < 2147483477; decide), _, _, rfl, rfl, ?_⟩⟩
      refine ⟨_, rfl, b, _, 1, 1, rfl, rfl, e1, rfl, ?_⟩
      rw [upd_upd]
      refine ⟨_, rfl, _, _, rfl, rfl, .inr ⟨by decide, by decide⟩, ?_⟩
      refine ⟨_, rfl, b, _, 1, _, rfl, rfl, SqL.of upd_same, rfl, _, _, rfl, rfl, _, _, rfl, rfl, ⟨by decide, by decide⟩, .inl ⟨_, rfl, _, rfl, _, _, rfl, rfl, h0, ?_⟩⟩
      exact k _ _ (Int.emod_nonneg _ (by omega)) (Int.emod_lt_of_pos _ h0) (Mv.upd (x, _, z + 1))
theorem sc_law_pick : FnScope ["box", "some"] ["box", "some"] (defScope s_law_pick) := ⟨rfl, rfl, rfl, by decide +kernel, rfl, by decide +kernel, by decide +kernel⟩
theorem ok_pick (F : FnP K "_law_pick" s_law_pick f fd) (T : Mg mg) (c__law_take : Cal P w K mg base CX0 1 "_law_take" ["box", "many"] spTake) : FnOk P w K mg base CX0 2 f fd ["box", "some"] (spPick K) := by
  refine F.ok sc_law_pick (fun vs H Q E h => ?_) (fun cdv A outer s H vs Q E hr h => ?_)
  · obtain ⟨b, a, t, xs, rfl, _⟩ := h
    rfl
  · obtain ⟨b, a, t, xs, rfl, hb, ne, hs, h0, h1, k⟩ := h
    refine ⟨_, PSs.nox (pss_one (ps_ret (pe_ix ix_list (pv 1) (pe_callC c__law_take hr pass0 (pa_cons (pv 0) (pa_cons (pe_callB call_len_seq (by rfl) T.z_len PySem.boot_len (pa_cons (pv 1) pa_nil)) pa_nil))) (fun _ _ => rfl)))), ?_⟩
    refine ⟨_, rfl, _, rfl, _, rfl, a, xs, rfl, .inl hs, b, t, _, rfl, hb, by omega, by omega, fun r H' r0 r1 m => ?_⟩
    obtain ⟨i, rfl⟩ : ∃ i : Nat, r = (i : Int) := ⟨r.toNat, by omega⟩
    have hx : xs[i]? = some xs[i] := List.getElem?_eq_getElem (by omega)
    exact ⟨a, xs, _, _, rfl, rfl, m.sqL ne hs, atI_nat hx, k _ H' (List.mem_of_getElem? hx) m⟩
theorem sc_law_box : FnScope ["script", "k", "cell"] ["script", "k"] (defScope s_law_box) := ⟨rfl, rfl, rfl, by decide +kernel, rfl, by decide +kernel, by decide +kernel⟩
theorem ok_box (F : FnP K "_law_box" s_law_box f fd) (T : Mg mg) : FnOk P w K mg base CX0 1 f fd ["script", "k"] (spBox K) := by
  refine F.ok sc_law_box (fun vs H Q E h => ?_) (fun cdv A outer s H vs Q E hr h => ?_)
  · obtain ⟨a, ns, kk, rfl, _⟩ := h
    rfl
  · obtain ⟨a, ns, kk, rfl, hs, hl, k⟩ := h
    refine ⟨_, PSs.nox (pss_cons (ps_set (i := 2) sc_law_box.nd rfl (by first | exact Or.inl rfl | exact Or.inr rfl) (pe_op op_add (pe_op op_mul pe_int (pv 1)) pe_int))
      (pss_cons (ps_if (pt_cmpR op_lt (pv 1) (pe_callB call_len_seq (by rfl) T.z_len PySem.boot_len (pa_cons (pv 0) pa_nil)) (nomark _))
        (pss_one (ps_set (i := 2) sc_law_box.nd rfl (by first | exact Or.inl rfl | exact Or.inr rfl) (pe_callB call_abs (by rfl) T.z_abs (by decide +kernel) (pa_cons (pe_ix ix_list (pv 0) (pv 1) (fun _ _ => rfl)) pa_nil))))
        (pss_one (ps_if (pt_cmpR op_gt (pe_callB call_len_seq (by rfl) T.z_len PySem.boot_len (pa_cons (pv 0) pa_nil)) pe_int (nomark _))
          (pss_one (ps_set (i := 2) sc_law_box.nd rfl (by first | exact Or.inl rfl | exact Or.inr rfl) (pe_op op_add (pv 2) (pe_op op_mul (pe_op op_mod (pe_callTy call_int1 (by rfl) T.z_int (by decide +kernel) (pa_cons (pe_callB call_abs (by rfl) T.z_abs (by decide +kernel) (pa_cons (pe_ix ix_list (pv 0) (pe_op op_mod (pe_callTy call_int1 (by rfl) T.z_int (by decide +kernel) (pa_cons (pv 1) pa_nil)) (pe_callB call_len_seq (by rfl) T.z_len PySem.boot_len (pa_cons (pv 0) pa_nil))) (fun _ _ => rfl)) pa_nil)) pa_nil)) pe_int) pe_int))))
          pss_nil)))
      (pss_one (ps_ret (pe_lst (pa_cons (pe_ix ix_list (pe_lst (pa_cons pe_int (pa_cons (pv 2) pa_nil))) (pe_callTy call_int1 (by rfl) T.z_int (by decide +kernel) (pa_cons (pe_cmpR op_ge (pv 2) (pe_op op_pow pe_int pe_int) (nomark _)) pa_nil)) (fun _ _ => rfl)) (pa_cons (pe_op op_add (pe_op op_mod (pe_callTy call_int1 (by rfl) T.z_int (by decide +kernel) (pa_cons (pe_op op_add (pe_op op_mul (pe_op op_mod (pe_callTy call_int1 (by rfl) T.z_int (by decide +kernel) (pa_cons (pv 2) pa_nil)) pe_int) pe_int) (pe_op op_mul pe_int (pv 1))) pa_nil)) pe_int) pe_int) (pa_cons pe_int pa_nil)))))))), ?_⟩
    refine ⟨_, rfl, _, _, rfl, rfl, .inl ⟨by decide, by decide⟩, _, _, rfl, rfl, ?_⟩
    refine ⟨_, rfl, _, rfl, a, _, rfl, .inl hs, _, _, rfl, rfl, _, rfl, ?_⟩
    rw [List.length_map]
    have tail : ∀ c : Int, ∀ b : Bool, ∃ v, atI [V.int 0, V.int c] (if b = true then 1 else 0) = some (V.int v) := fun c b => by cases b <;> exact ⟨_, rfl⟩
    refine ite2 (fun h1 => ?_) (fun h1 => ?_)
    · have hk : kk < ns.length := by simpa using h1
      have hx : (ns.map V.int)[kk]? = some (V.int ns[kk]) := by rw [List.getElem?_map, List.getElem?_eq_getElem hk]; rfl
      refine ⟨_, rfl, _, rfl, a, _, _, _, rfl, rfl, hs, atI_nat hx, _, rfl, ?_⟩
      refine ⟨_, rfl, (by show 2 ≤ sizeLine; decide), fun l hl0 => ?_⟩
      refine ⟨_, rfl, _, _, rfl, rfl, ⟨by decide, by decide, by decide⟩, _, _, rfl, rfl, .inr ⟨_, rfl, l, _, _, _, rfl, rfl, SqL.of upd_same, (tail _ _).choose_spec, ?_⟩⟩
      refine ⟨_, rfl, .inl ⟨_, rfl, _, _, rfl, rfl, (by show (0 : Int) < 2147483477; decide), _, _, rfl, rfl, .inr ⟨by decide, by decide⟩, ?_⟩⟩
      refine ⟨_, rfl, _, _, rfl, rfl, .inl ⟨by decide, by decide⟩, _, _, rfl, rfl, .inl ⟨_, rfl, _, _, rfl, rfl, (by show (0 : Int) < 2147483477; decide), _, _, rfl, rfl, ?_⟩⟩
      refine ⟨(by show 3 ≤ sizeLine; decide), fun p hp => ?_⟩
      exact k _ p (_, _, 0) ((same_new hl0).trans (same_new hp)) ((same_new hl0).free hp) upd_same
    · refine ⟨_, rfl, a, _, rfl, .inl hs, _, _, rfl, rfl, _, rfl, ?_⟩
      rw [List.length_map]
      refine ite2 (fun h2 => ?_) (fun h2 => ?_)
      · have hk : 0 < ns.length := by simpa using h2
        have hm : (kk : Int) % (ns.length : Int) = ((kk % ns.length : Nat) : Int) := rfl
        have lt : kk % ns.length < ns.length := Nat.mod_lt _ hk
        have hx : (ns.map V.int)[kk % ns.length]? = some (V.int ns[kk % ns.length]) := by rw [List.getElem?_map, List.getElem?_eq_getElem lt]; rfl
        refine ⟨_, rfl, _, rfl, _, rfl, .inl ⟨_, rfl, _, rfl, a, _, rfl, .inl hs, _, _, rfl, rfl, ?_, ?_⟩⟩
        · rw [List.length_map]
          omega
        · have hat : atI (ns.map V.int) ((kk : Int) % (((ns.map V.int).length : Nat) : Int)) = some (V.int ns[kk % ns.length]) := by
            rw [List.length_map, hm]
            exact atI_nat hx
          refine ⟨a, _, _, _, rfl, rfl, hs, hat, _, rfl, .inl ⟨_, rfl, _, _, rfl, rfl, (by show (0 : Int) < 2147483477; decide), _, _, rfl, rfl, .inr ⟨by decide, by decide⟩, _, _, rfl, rfl, ?_⟩⟩
          refine ⟨_, rfl, (by show 2 ≤ sizeLine; decide), fun l hl0 => ?_⟩
          refine ⟨_, rfl, _, _, rfl, rfl, ⟨by decide, by decide, by decide⟩, _, _, rfl, rfl, .inr ⟨_, rfl, l, _, _, _, rfl, rfl, SqL.of upd_same, (tail _ _).choose_spec, ?_⟩⟩
          refine ⟨_, rfl, .inl ⟨_, rfl, _, _, rfl, rfl, (by show (0 : Int) < 2147483477; decide), _, _, rfl, rfl, .inr ⟨by decide, by decide⟩, ?_⟩⟩
          refine ⟨_, rfl, _, _, rfl, rfl, .inl ⟨by decide, by decide⟩, _, _, rfl, rfl, .inl ⟨_, rfl, _, _, rfl, rfl, (by show (0 : Int) < 2147483477; decide), _, _, rfl, rfl, ?_⟩⟩
          refine ⟨(by show 3 ≤ sizeLine; decide), fun p hp => ?_⟩
          exact k _ p (_, _, 0) ((same_new hl0).trans (same_new hp)) ((same_new hl0).free hp) upd_same
      · generalize (9533 * (kk : Int) + 463) = c
        refine ⟨_, rfl, (by show 2 ≤ sizeLine; decide), fun l hl0 => ?_⟩
        refine ⟨_, rfl, _, _, rfl, rfl, ⟨by decide, by decide, by decide⟩, _, _, rfl, rfl, .inr ⟨_, rfl, l, _, _, _, rfl, rfl, SqL.of upd_same, (tail _ _).choose_spec, ?_⟩⟩
        refine ⟨_, rfl, .inl ⟨_, rfl, _, _, rfl, rfl, (by show (0 : Int) < 2147483477; decide), _, _, rfl, rfl, .inr ⟨by decide, by decide⟩, ?_⟩⟩
        refine ⟨_, rfl, _, _, rfl, rfl, .inl ⟨by decide, by decide⟩, _, _, rfl, rfl, .inl ⟨_, rfl, _, _, rfl, rfl, (by show (0 : Int) < 2147483477; decide), _, _, rfl, rfl, ?_⟩⟩
        refine ⟨(by show 3 ≤ sizeLine; decide), fun p hp => ?_⟩
        exact k _ p (_, _, 0) ((same_new hl0).trans (same_new hp)) ((same_new hl0).free hp) upd_same
end
end K0
/-! isinstance of an error, told alike of a value and of the one that is handled. -/
namespace Kx
open L2 PySem PySem.Spec PyProof.Rows
def rIs2 (K : PySem.W.Frag) (x D : Addr) (Live : Hp → Prop) : List V → Hp → VK → Prop := fun xs H Q => ∃ (c : V) (cv : Value) (b : Bool), xs = [.ref x, c] ∧ Live H ∧ (∀ u, RelV c u → u = cv) ∧ PySem.W.kitOne K (.ref D) cv = some b ∧ Q (.bl b) H
theorem call_isV2 {X : Cx} {x D : Addr} (C : ExcC X.K D) : CallR X (.builtin "isinstance") (rIs2 X.K x D fun H => ∃ d fs, EvAt H x D d fs) := by
  rintro pins s σ H xs us Q I r ⟨c, cv, b, rfl, ⟨d, fs, ev⟩, hc, k, q⟩
  exact call_isV pins s σ H _ us Q I r ⟨x, D, d, fs, c, cv, b, rfl, ev, C, hc, k, q⟩
theorem call_isH2 {X : Cx} {x D d : Addr} {ob : Obj} (C : ExcC X.K D) (hp : (x, ob) ∈ X.pn) (hz : Zc (.ref D) (some d) ob) (hf : ∃ vs, ob.data = .fields vs) : CallR X (.builtin "isinstance") (rIs2 X.K x D fun H => ∃ fs, H d = some (.xd fs)) := by
  rintro pins s σ H xs us Q I r ⟨c, cv, b, rfl, live, hc, k, q⟩
  exact Hot.call_isH C hp hz hf pins s σ H _ us Q I r ⟨live, c, cv, b, rfl, hc, k, q⟩
/-- pairs of a name and a Bool stand there -/
def Prs (K : PySem.W.Frag) (H : Hp) : List V → List (Str × Bool) → Prop
  | [], [] => True
  | v :: vs, (n, b) :: l => (∃ p, v = .ref p ∧ H p = some (.tup [.str n, .bl b])) ∧ Prs K H vs l
  | _, _ => False
theorem Prs.same {K : PySem.W.Frag} {H H' : Hp} (e : ∀ b xs, H b = some (.tup xs) → H' b = some (.tup xs)) : ∀ {vs : List V} {l : List (Str × Bool)}, Prs K H vs l → Prs K H' vs l
  | [], [], _ => trivial
  | _ :: _, (_, _) :: _, ⟨⟨p, h1, h2⟩, k⟩ => ⟨⟨p, h1, e _ _ h2⟩, k.same e⟩
  | [], _ :: _, h => h.elim
  | _ :: _, [], h => h.elim
theorem Prs.new {K : PySem.W.Frag} {H : Hp} {p : Addr} {o : HO} (hp : H p = none) {vs : List V} {l : List (Str × Bool)} (h : Prs K H vs l) : Prs K (upd H p o) vs l := h.same fun b xs q => by rw [upd_ne (ne_of_none q hp)]; exact q
theorem Prs.snoc {K : PySem.W.Frag} {H : Hp} {p : Addr} {n : Str} {b : Bool} (hq : H p = some (.tup [.str n, .bl b])) : ∀ {vs : List V} {l : List (Str × Bool)}, Prs K H vs l → Prs K H (vs ++ [.ref p]) (l ++ [(n, b)])
  | [], [], _ => ⟨⟨p, rfl, hq⟩, trivial⟩
  | _ :: _, (_, _) :: _, ⟨h, k⟩ => ⟨h, k.snoc hq⟩
  | [], _ :: _, h => h.elim
  | _ :: _, [], h => h.elim
theorem Prs.at_ {K : PySem.W.Frag} {H : Hp} : ∀ {vs : List V} {l : List (Str × Bool)} {i : Nat} {v : V}, Prs K H vs l → vs[i]? = some v → ∃ p n b, v = .ref p ∧ l[i]? = some (n, b) ∧ H p = some (.tup [.str n, .bl b])
  | _ :: _, (n, b) :: _, 0, _, ⟨⟨p, h1, h2⟩, _⟩, e => ⟨p, n, b, (Option.some.inj e).symm.trans h1, rfl, h2⟩
  | _ :: _, (_, _) :: _, i + 1, _, ⟨_, k⟩, e => by
    obtain ⟨p, n, b, a1, a2, a3⟩ := k.at_ (i := i) (by simpa using e)
    exact ⟨p, n, b, a1, by simpa using a2, a3⟩
  | [], [], _, _, _, e => by simp at e
  | [], _ :: _, _, _, h, _ => h.elim
  | _ :: _, [], _, _, h, _ => h.elim
theorem Prs.length {K : PySem.W.Frag} {H : Hp} : ∀ {vs : List V} {l : List (Str × Bool)}, Prs K H vs l → vs.length = l.length
  | [], [], _ => rfl
  | _ :: _, (_, _) :: _, ⟨_, k⟩ => congrArg Nat.succ k.length
  | [], _ :: _, h => h.elim
  | _ :: _, [], h => h.elim
/-- the names whose Bool is true -/
def sel (l : List (Str × Bool)) : List Str := (l.filter (·.2)).map (·.1)
theorem sel_snoc {l : List (Str × Bool)} {n : Str} {b : Bool} : sel (l ++ [(n, b)]) = if b = true then sel l ++ [n] else sel l := by
  unfold sel
  cases b <;> simp
theorem sel_le {l : List (Str × Bool)} : (sel l).length ≤ l.length := by
  unfold sel
  rw [List.length_map]
  exact List.length_filter_le _ _
end Kx
/-! drawn values -/
namespace K0
open PySem PySem.Spec PyProof.Rows L2 Kx RZ
def near (i : Int) : Prop := -1000000000 ≤ i ∧ i ≤ 1000000000
/-- a drawn value and what it shows -/
inductive Val (K : PySem.W.Frag) (b : Addr) (H : Hp) : V → PyData → Prop
  | non : Val K b H .non .none
  | bl (z : Bool) : Val K b H (.bl z) (.bool z)
  | int {i : Int} (h : near i) : Val K b H (.int i) (.int i)
  | str {x : Str} (h : x = "" ∨ x = "abc") : Val K b H (.str x) (.str x)
  | tup {p : Addr} {i : Int} (h : near i) (hp : H p = some (.tup [.int i, .non])) : Val K b H (.ref p) (.tuple [.int i, .none])
  | lst {p q : Addr} {i : Int} (h : near i) (np : p ≠ b) (nq : q ≠ b) (hp : H p = some (.lst [.int 1, .ref q])) (hq : H q = some (.lst [.int i])) : Val K b H (.ref p) (.list [.int 1, .list [.int i]])
theorem okD_near {i : Int} (h : near i) : OkD 0 1921 (.int i) := okD_int (Nat.lt_of_lt_of_le (show i.natAbs < 2 ^ 30 by have := h.1; have := h.2; omega) (Nat.pow_le_pow_right (by decide) (by decide)))
section
variable {K : PySem.W.Frag} {b : Addr} {H H' : Hp} {v : V} {d : PyData} {t : Int × Int × Int}
theorem Val.mv (m : Mv b H H') (hb : H b = some (bx t)) (h : Val K b H v d) : Val K b H' v d := by
  cases h with
  | non => exact .non
  | bl z => exact .bl z
  | int h => exact .int h
  | str h => exact .str h
  | tup h hp => exact .tup h (m.1 _ _ (ne_of hp hb (fun z => nomatch z)) hp)
  | lst h np nq hp hq => exact .lst h np nq (m.1 _ _ np hp) (m.1 _ _ nq hq)
theorem Val.same (e : Same H H') (h : Val K b H v d) : Val K b H' v d := by
  cases h with
  | non => exact .non
  | bl z => exact .bl z
  | int h => exact .int h
  | str h => exact .str h
  | tup h hp => exact .tup h (e _ _ hp)
  | lst h np nq hp hq => exact .lst h np nq (e _ _ hp) (e _ _ hq)
theorem Val.ok (h : Val K b H v d) : OkD 2 6000 d := by
  cases h with
  | non => exact okD_non.mono (by decide) (by decide)
  | bl z => exact (okD_bl z).mono (by decide) (by decide)
  | int h => exact (okD_near h).mono (by decide) (by decide)
  | str h =>
    rcases h with rfl | rfl
    · exact (okD_str (z := "") (L := 20) (by decide +kernel)).mono (by decide) (by decide)
    · exact (okD_str (z := "abc") (L := 20) (by decide +kernel)).mono (by decide) (by decide)
  | tup h hp => exact (okD_tuple (okA_cons (okD_near h) (okA_cons (okD_non.mono (Nat.le_refl _) (Nat.le_refl _)) okA_nil))).mono (by decide) (by decide)
  | lst h np nq hp hq => exact (okD_list (m := 1) (L := 3850 + 1923) (okA_cons ((okD_small (i := 1) ⟨by decide, by decide⟩).mono (by decide) (by decide) : OkD 1 3840 _) ((okA_cons ((okD_list (okA_cons (okD_near h) okA_nil)).mono (by decide) (by decide) : OkD 1 1927 _) okA_nil).mono (by decide) (by decide) : OkA 1 1929 _) |>.mono (Nat.le_refl _) (by decide))).mono (by decide) (by decide)
theorem Val.dp (h : Val K b H v d) : Dp K H v d := by
  cases h with
  | non => exact .non
  | bl z => exact .bl z
  | int h => exact .int _
  | str h => exact .str _
  | tup h hp => exact .tup (SqT.of hp) (.cons (.int _) (.cons .non .nil))
  | lst h np nq hp hq => exact .lst (SqL.of hp) (.cons (.int _) (.cons (.lst (SqL.of hq) (.cons (.int _) .nil)) .nil))
end
def spValue (K : PySem.W.Frag) : Sp := fun vs H Q _ => ∃ (b : Addr) (t : Int × Int × Int), vs = [.ref b] ∧ H b = some (bx t) ∧ ∀ (v : V) (d : PyData) (H' : Hp), Mv b H H' → Val K b H' v d → Q v H'
section
variable {P : Program} {w : World} {K : PySem.W.Frag} {mg : Str → Option Value} {base : Heap} {f : Addr} {fd : FuncData} {a : Ad}
theorem sc_law_value : FnScope ["box", "number"] ["box"] (defScope s_law_value) := ⟨rfl, rfl, rfl, by decide +kernel, rfl, by decide +kernel, by decide +kernel⟩
theorem ok_value (F : FnP K "_law_value" s_law_value f fd) (T : Mg mg) (c__law_take : Cal P w K mg base CX0 1 "_law_take" ["box", "many"] spTake) (c__law_pick : Cal P w K mg base CX0 2 "_law_pick" ["box", "some"] (spPick K)) : FnOk P w K mg base CX0 3 f fd ["box"] (spValue K) := by
  refine F.ok sc_law_value (fun vs H Q E h => ?_) (fun cdv A outer s H vs Q E hr h => ?_)
  · obtain ⟨b, t, rfl, _⟩ := h
    rfl
  · obtain ⟨b, t, rfl, hb, k⟩ := h
    refine ⟨_, PSs.nox (pss_cons (ps_set (i := 1) sc_law_value.nd rfl (by first | exact Or.inl rfl | exact Or.inr rfl) (pe_op op_sub (pe_callC c__law_take hr pass0 (pa_cons (pv 0) (pa_cons (pe_op op_pow pe_int pe_int) pa_nil))) (pe_op op_mul pe_int (pe_op op_pow pe_int pe_int))))
      (pss_one (ps_ret (pe_callC c__law_pick hr pass0 (pa_cons (pv 0) (pa_cons (pe_lst (pa_cons (pv 1) (pa_cons (pe_op op_sub pe_int (pv 1)) (pa_cons pe_non (pa_cons pe_bl (pa_cons pe_str (pa_cons pe_str (pa_cons (pe_tup (pa_cons (pv 1) (pa_cons pe_non pa_nil))) (pa_cons (pe_lst (pa_cons pe_int (pa_cons (pe_lst (pa_cons (pv 1) pa_nil)) pa_nil))) (pa_cons pe_int pa_nil)))))))))) pa_nil)))))), ?_⟩
    refine ⟨_, rfl, _, _, rfl, rfl, ⟨by decide, by decide, by decide⟩, b, t, _, rfl, hb, by decide, by decide, fun r H1 r0 r1 m => ?_⟩
    refine ⟨_, _, rfl, rfl, ⟨by decide, by decide, by decide⟩, _, _, rfl, rfl, .inl ⟨by decide, by decide⟩, _, _, rfl, rfl, ?_⟩
    have r2 : r < 1000000000 := r1
    obtain ⟨i, hi⟩ : ∃ i : Int, r - 5 * 10 ^ Int.toNat 8 = i := ⟨_, rfl⟩
    have hi2 : r - 500000000 = i := hi
    have nr : near i := ⟨by omega, by omega⟩
    have nr' : near (0 - i) := ⟨by omega, by omega⟩
    rw [show ((fun (i j : Int) => V.int (i - j)) r (5 * 10 ^ Int.toNat 8)) = V.int i from congrArg V.int hi]
    obtain ⟨t1, hb1⟩ := m.2
    refine ⟨_, rfl, _, rfl, _, rfl, _, _, rfl, rfl, _, rfl, by show 2 ≤ sizeLine; decide, fun p hp => ?_⟩
    have bp : upd H1 p (.tup [.int i, .non]) b = some (bx t1) := by rw [upd_ne (ne_of_none hb1 hp)]; exact hb1
    refine ⟨_, rfl, by show 1 ≤ sizeLine; decide, fun q hq => ?_⟩
    have bq : upd (upd H1 p (.tup [.int i, .non])) q (.lst [.int i]) b = some (bx t1) := by rw [upd_ne (ne_of_none bp hq)]; exact bp
    refine ⟨by show 2 ≤ sizeLine; decide, fun l hl => ?_⟩
    have bl : upd (upd (upd H1 p (.tup [.int i, .non])) q (.lst [.int i])) l (.lst [.int 1, .ref q]) b = some (bx t1) := by rw [upd_ne (ne_of_none bq hl)]; exact bq
    refine ⟨by show 9 ≤ sizeLine; decide, fun z hz => ?_⟩
    have nz : z ≠ b := fun e => by rw [e, bl] at hz; cases hz
    refine ⟨b, z, t1, _, rfl, by rw [upd_ne (Ne.symm nz)]; exact bl, nz, SqL.of upd_same, by show 0 < 9; decide, by show 9 < 1073741824; decide, fun v H2 hv m2 => ?_⟩
    have bz : upd (upd (upd (upd H1 p (.tup [.int i, .non])) q (.lst [.int i])) l (.lst [.int 1, .ref q])) z (.lst [.int i, .int (0 - i), .non, .bl true, .str "", .str "abc", .ref p, .ref l, .int 0]) b = some (bx t1) := by rw [upd_ne (Ne.symm nz)]; exact bl
    have all : Mv b H (upd (upd (upd (upd H1 p (.tup [.int i, .non])) q (.lst [.int i])) l (.lst [.int 1, .ref q])) z (.lst [.int i, .int (0 - i), .non, .bl true, .str "", .str "abc", .ref p, .ref l, .int 0])) := m.same ((((same_new hp).trans (same_new hq)).trans (same_new hl)).trans (same_new hz))
    have go : ∀ {v : V} {d : PyData}, Val K b (upd (upd (upd (upd H1 p (.tup [.int i, .non])) q (.lst [.int i])) l (.lst [.int 1, .ref q])) z (.lst [.int i, .int (0 - i), .non, .bl true, .str "", .str "abc", .ref p, .ref l, .int 0])) v d → Q v H2 := fun w => k _ _ _ (all.trans m2) (w.mv m2 bz)
    rcases List.mem_cons.mp hv with rfl | hv
    · exact go (.int nr)
    rcases List.mem_cons.mp hv with rfl | hv
    · exact go (.int nr')
    rcases List.mem_cons.mp hv with rfl | hv
    · exact go .non
    rcases List.mem_cons.mp hv with rfl | hv
    · exact go (.bl true)
    rcases List.mem_cons.mp hv with rfl | hv
    · exact go (.str (.inl rfl))
    rcases List.mem_cons.mp hv with rfl | hv
    · exact go (.str (.inr rfl))
    have t2 := upd_same (H := H1) (a := p) (o := HO.tup [.int i, .non])
    rcases List.mem_cons.mp hv with rfl | hv
    · exact go (.tup nr (same_new hz _ _ (same_new hl _ _ (same_new hq _ _ t2))))
    rcases List.mem_cons.mp hv with rfl | hv
    · exact go (.lst nr (fun e => by rw [e, bq] at hl; cases hl) (fun e => by rw [e, bp] at hq; cases hq) (same_new hz _ _ upd_same) (same_new hz _ _ (same_new hl _ _ upd_same)))
    obtain rfl := List.mem_singleton.mp hv
    exact go (.int (i := 0) ⟨by decide, by decide⟩)
end
end K0
/-! the classes of an error, told by name -/
namespace K0
open PySem PySem.Spec PyProof.Rows L2 Kx RZ
theorem bt_KeyError : bootBuiltins "KeyError" = some (.type "KeyError") := by decide +kernel
theorem bt_ValueError : bootBuiltins "ValueError" = some (.type "ValueError") := by decide +kernel
/-- an error's class D: its classes' names -/
structure Kind (K : PySem.W.Frag) (a : Ad) (cW D : Addr) (names : List Str) : Prop where
  exc : ExcC K D
  xf : XfC K D
  bs : ∃ b1 b2 b3 b4 b5 b6 b7 b8 b9 b10 b11 b12 : Bool, PySem.W.kitOne K (.ref D) (.ref a.cM) = some b1 ∧ PySem.W.kitOne K (.ref D) (.ref a.cR) = some b2 ∧ PySem.W.kitOne K (.ref D) (.ref a.cS) = some b3 ∧ PySem.W.kitOne K (.ref D) (.ref a.cT) = some b4 ∧ PySem.W.kitOne K (.ref D) (.ref a.cO) = some b5 ∧ PySem.W.kitOne K (.ref D) (.ref a.cF) = some b6 ∧ PySem.W.kitOne K (.ref D) (.ref a.cG) = some b7 ∧ PySem.W.kitOne K (.ref D) (.ref a.cD) = some b8 ∧ PySem.W.kitOne K (.ref D) (.ref a.cN) = some b9 ∧ PySem.W.kitOne K (.ref D) (.ref cW) = some b10 ∧ PySem.W.kitOne K (.ref D) (.type "KeyError") = some b11 ∧ PySem.W.kitOne K (.ref D) (.type "ValueError") = some b12 ∧ names = sel [("BadMachine", b1), ("BadRow", b2), ("BadShowing", b3), ("BadText", b4), ("Forgets", b5), ("Refused", b6), ("TooGreat", b7), ("NoDeed", b8), ("NoState", b9), ("WitnessError", b10), ("KeyError", b11), ("ValueError", b12)]
def spBases (K : PySem.W.Frag) (a : Ad) (cW : Addr) : Sp := fun vs H Q _ => ∃ (x D d : Addr) (fs : List (Str × V)) (names : List Str), vs = [.ref x] ∧ EvAt H x D d fs ∧ Kind K a cW D names ∧ ∀ p H', Same H H' → H' p = some (.lst (names.map V.str)) → Q (.ref p) H'
def spBasesE (K : PySem.W.Frag) (a : Ad) (cW : Addr) : Addr × Obj → Sp := fun p vs H Q _ => ∃ (D d : Addr) (fs : List (Str × V)) (names : List Str), vs = [.ref p.1] ∧ Zc (.ref D) (some d) p.2 ∧ (∃ ws, p.2.data = .fields ws) ∧ H d = some (.xd fs) ∧ Kind K a cW D names ∧
  ∀ q H', Same H H' → H' q = some (.lst (names.map V.str)) → Q (.ref q) H'
section
variable {P : Program} {w : World} {K : PySem.W.Frag} {mg : Str → Option Value} {base : Heap} {f : Addr} {fd : FuncData} {a : Ad} {cW : Addr}
theorem sc_bases : FnScope ["error", "found", "name", "is_one"] ["error"] (defScope s_law_bases) := ⟨rfl, rfl, rfl, by decide +kernel, rfl, by decide +kernel, by decide +kernel⟩
theorem ok_bases (F : FnP K "_law_bases" s_law_bases f fd) (T : Mg mg) (R : Er P w K mg base a) (gW : mg "WitnessError" = some (.ref cW)) : FnOk P w K mg base CX0 1 f fd ["error"] (spBases K a cW) := by
  refine F.ok sc_bases (fun vs H Q E h => ?_) (fun cdv A outer s H vs Q E hr h => ?_)
  · obtain ⟨x, D, d, fs, names, rfl, _⟩ := h
    rfl
  · obtain ⟨x, D, d, fs, names, rfl, ev, kd, good⟩ := h
    refine ⟨_, PSs.nox (pss_cons (ps_set (i := 1) sc_bases.nd rfl (by first | exact Or.inl rfl | exact Or.inr rfl) (pe_lst pa_nil))
      (pss_cons (ps_for PassesOwn.never rfl (pi_list (pe_lst (pa_cons (pe_tup (pa_cons pe_str (pa_cons (pe_callB (call_isV2 (x := x) kd.exc) (by rfl) T.z_isinstance (by decide +kernel) (pa_cons (pv 0) (pa_cons (pe_glob (v := V.ref a.cM) rfl R.BadMachine.at_ rfl) pa_nil))) pa_nil))) (pa_cons (pe_tup (pa_cons pe_str (pa_cons (pe_callB (call_isV2 (x := x) kd.exc) (by rfl) T.z_isinstance (by decide +kernel) (pa_cons (pv 0) (pa_cons (pe_glob (v := V.ref a.cR) rfl R.BadRow.at_ rfl) pa_nil))) pa_nil))) (pa_cons (pe_tup (pa_cons pe_str (pa_cons (pe_callB (call_isV2 (x := x) kd.exc) (by rfl) T.z_isinstance (by decide +kernel) (pa_cons (pv 0) (pa_cons (pe_glob (v := V.ref a.cS) rfl R.BadShowing.at_ rfl) pa_nil))) pa_nil))) (pa_cons (pe_tup (pa_cons pe_str (pa_cons (pe_callB (call_isV2 (x := x) kd.exc) (by rfl) T.z_isinstance (by decide +kernel) (pa_cons (pv 0) (pa_cons (pe_glob (v := V.ref a.cT) rfl R.BadText.at_ rfl) pa_nil))) pa_nil))) (pa_cons (pe_tup (pa_cons pe_str (pa_cons (pe_callB (call_isV2 (x := x) kd.exc) (by rfl) T.z_isinstance (by decide +kernel) (pa_cons (pv 0) (pa_cons (pe_glob (v := V.ref a.cO) rfl R.Forgets.at_ rfl) pa_nil))) pa_nil))) (pa_cons (pe_tup (pa_cons pe_str (pa_cons (pe_callB (call_isV2 (x := x) kd.exc) (by rfl) T.z_isinstance (by decide +kernel) (pa_cons (pv 0) (pa_cons (pe_glob (v := V.ref a.cF) rfl R.Refused.at_ rfl) pa_nil))) pa_nil))) (pa_cons (pe_tup (pa_cons pe_str (pa_cons (pe_callB (call_isV2 (x := x) kd.exc) (by rfl) T.z_isinstance (by decide +kernel) (pa_cons (pv 0) (pa_cons (pe_glob (v := V.ref a.cG) rfl R.TooGreat.at_ rfl) pa_nil))) pa_nil))) (pa_cons (pe_tup (pa_cons pe_str (pa_cons (pe_callB (call_isV2 (x := x) kd.exc) (by rfl) T.z_isinstance (by decide +kernel) (pa_cons (pv 0) (pa_cons (pe_glob (v := V.ref a.cD) rfl R.NoDeed.at_ rfl) pa_nil))) pa_nil))) (pa_cons (pe_tup (pa_cons pe_str (pa_cons (pe_callB (call_isV2 (x := x) kd.exc) (by rfl) T.z_isinstance (by decide +kernel) (pa_cons (pv 0) (pa_cons (pe_glob (v := V.ref a.cN) rfl R.NoState.at_ rfl) pa_nil))) pa_nil))) (pa_cons (pe_tup (pa_cons pe_str (pa_cons (pe_callB (call_isV2 (x := x) kd.exc) (by rfl) T.z_isinstance (by decide +kernel) (pa_cons (pv 0) (pa_cons (pe_glob (v := V.ref cW) rfl gW rfl) pa_nil))) pa_nil))) (pa_cons (pe_tup (pa_cons pe_str (pa_cons (pe_callB (call_isV2 (x := x) kd.exc) (by rfl) T.z_isinstance (by decide +kernel) (pa_cons (pv 0) (pa_cons (pe_ty T.z_KeyError bt_KeyError) pa_nil))) pa_nil))) (pa_cons (pe_tup (pa_cons pe_str (pa_cons (pe_callB (call_isV2 (x := x) kd.exc) (by rfl) T.z_isinstance (by decide +kernel) (pa_cons (pv 0) (pa_cons (pe_ty T.z_ValueError bt_ValueError) pa_nil))) pa_nil))) pa_nil)))))))))))))) (pg_tup rfl (pgs_cons (pg_name (i := 2) sc_bases.nd rfl (by first | exact Or.inl rfl | exact Or.inr rfl)) (pgs_cons (pg_name (i := 3) sc_bases.nd rfl (by first | exact Or.inl rfl | exact Or.inr rfl)) pgs_nil)))
        (pss_one (ps_if (pt_val (pv 3))
          (pss_one (ps_expr (pe_bm PySem.F.plainAttrs_list PySem.F.slot_list_append PySem.F.type_list_append mt_append (pv 1) (pa_cons (pv 2) pa_nil))))
          pss_nil)))
      (pss_one (ps_ret (pv 1))))), ?_⟩
    obtain ⟨b1, b2, b3, b4, b5, b6, b7, b8, b9, b10, b11, b12, k1, k2, k3, k4, k5, k6, k7, k8, k9, k10, k11, k12, rfl⟩ := kd.bs
    refine ⟨by show 0 ≤ sizeLine; decide, fun F hF => ?_⟩
    have e0 := same_new (o := HO.lst []) hF
    have f0 := upd_same (H := H) (a := F) (o := HO.lst [])
    have t0 : Prs K (upd H F (.lst [])) [] [] := trivial
    generalize upd H F (.lst []) = G0 at e0 f0 t0 ⊢
    refine ⟨_, rfl, _, (.ref a.cM), b1, rfl, ⟨_, _, ev.same e0⟩, fun u r => r, k1, by show 2 ≤ sizeLine; decide, fun p1 h1 => ?_⟩
    have e1 := e0.trans (same_new (o := HO.tup [.str "BadMachine", .bl b1]) h1)
    have f1 := same_new (o := HO.tup [.str "BadMachine", .bl b1]) h1 _ _ f0
    have t1 := (t0.new (o := HO.tup [.str "BadMachine", .bl b1]) h1).snoc (upd_same (H := G0) (a := p1) (o := HO.tup [.str "BadMachine", .bl b1]))
    generalize upd G0 p1 (.tup [.str "BadMachine", .bl b1]) = G1 at e1 f1 t1 ⊢
    refine ⟨_, rfl, _, (.ref a.cR), b2, rfl, ⟨_, _, ev.same e1⟩, fun u r => r, k2, by show 2 ≤ sizeLine; decide, fun p2 h2 => ?_⟩
    have e2 := e1.trans (same_new (o := HO.tup [.str "BadRow", .bl b2]) h2)
    have f2 := same_new (o := HO.tup [.str "BadRow", .bl b2]) h2 _ _ f1
    have t2 := (t1.new (o := HO.tup [.str "BadRow", .bl b2]) h2).snoc (upd_same (H := G1) (a := p2) (o := HO.tup [.str "BadRow", .bl b2]))
    generalize upd G1 p2 (.tup [.str "BadRow", .bl b2]) = G2 at e2 f2 t2 ⊢
    refine ⟨_, rfl, _, (.ref a.cS), b3, rfl, ⟨_, _, ev.same e2⟩, fun u r => r, k3, by show 2 ≤ sizeLine; decide, fun p3 h3 => ?_⟩
    have e3 := e2.trans (same_new (o := HO.tup [.str "BadShowing", .bl b3]) h3)
    have f3 := same_new (o := HO.tup [.str "BadShowing", .bl b3]) h3 _ _ f2
    have t3 := (t2.new (o := HO.tup [.str "BadShowing", .bl b3]) h3).snoc (upd_same (H := G2) (a := p3) (o := HO.tup [.str "BadShowing", .bl b3]))
    generalize upd G2 p3 (.tup [.str "BadShowing", .bl b3]) = G3 at e3 f3 t3 ⊢
    refine ⟨_, rfl, _, (.ref a.cT), b4, rfl, ⟨_, _, ev.same e3⟩, fun u r => r, k4, by show 2 ≤ sizeLine; decide, fun p4 h4 => ?_⟩
    have e4 := e3.trans (same_new (o := HO.tup [.str "BadText", .bl b4]) h4)
    have f4 := same_new (o := HO.tup [.str "BadText", .bl b4]) h4 _ _ f3
    have t4 := (t3.new (o := HO.tup [.str "BadText", .bl b4]) h4).snoc (upd_same (H := G3) (a := p4) (o := HO.tup [.str "BadText", .bl b4]))
    generalize upd G3 p4 (.tup [.str "BadText", .bl b4]) = G4 at e4 f4 t4 ⊢
    refine ⟨_, rfl, _, (.ref a.cO), b5, rfl, ⟨_, _, ev.same e4⟩, fun u r => r, k5, by show 2 ≤ sizeLine; decide, fun p5 h5 => ?_⟩
    have e5 := e4.trans (same_new (o := HO.tup [.str "Forgets", .bl b5]) h5)
    have f5 := same_new (o := HO.tup [.str "Forgets", .bl b5]) h5 _ _ f4
    have t5 := (t4.new (o := HO.tup [.str "Forgets", .bl b5]) h5).snoc (upd_same (H := G4) (a := p5) (o := HO.tup [.str "Forgets", .bl b5]))
    generalize upd G4 p5 (.tup [.str "Forgets", .bl b5]) = G5 at e5 f5 t5 ⊢
    refine ⟨_, rfl, _, (.ref a.cF), b6, rfl, ⟨_, _, ev.same e5⟩, fun u r => r, k6, by show 2 ≤ sizeLine; decide, fun p6 h6 => ?_⟩
    have e6 := e5.trans (same_new (o := HO.tup [.str "Refused", .bl b6]) h6)
    have f6 := same_new (o := HO.tup [.str "Refused", .bl b6]) h6 _ _ f5
    have t6 := (t5.new (o := HO.tup [.str "Refused", .bl b6]) h6).snoc (upd_same (H := G5) (a := p6) (o := HO.tup [.str "Refused", .bl b6]))
    generalize upd G5 p6 (.tup [.str "Refused", .bl b6]) = G6 at e6 f6 t6 ⊢
    refine ⟨_, rfl, _, (.ref a.cG), b7, rfl, ⟨_, _, ev.same e6⟩, fun u r => r, k7, by show 2 ≤ sizeLine; decide, fun p7 h7 => ?_⟩
    have e7 := e6.trans (same_new (o := HO.tup [.str "TooGreat", .bl b7]) h7)
    have f7 := same_new (o := HO.tup [.str "TooGreat", .bl b7]) h7 _ _ f6
    have t7 := (t6.new (o := HO.tup [.str "TooGreat", .bl b7]) h7).snoc (upd_same (H := G6) (a := p7) (o := HO.tup [.str "TooGreat", .bl b7]))
    generalize upd G6 p7 (.tup [.str "TooGreat", .bl b7]) = G7 at e7 f7 t7 ⊢
    refine ⟨_, rfl, _, (.ref a.cD), b8, rfl, ⟨_, _, ev.same e7⟩, fun u r => r, k8, by show 2 ≤ sizeLine; decide, fun p8 h8 => ?_⟩
    have e8 := e7.trans (same_new (o := HO.tup [.str "NoDeed", .bl b8]) h8)
    have f8 := same_new (o := HO.tup [.str "NoDeed", .bl b8]) h8 _ _ f7
    have t8 := (t7.new (o := HO.tup [.str "NoDeed", .bl b8]) h8).snoc (upd_same (H := G7) (a := p8) (o := HO.tup [.str "NoDeed", .bl b8]))
    generalize upd G7 p8 (.tup [.str "NoDeed", .bl b8]) = G8 at e8 f8 t8 ⊢
    refine ⟨_, rfl, _, (.ref a.cN), b9, rfl, ⟨_, _, ev.same e8⟩, fun u r => r, k9, by show 2 ≤ sizeLine; decide, fun p9 h9 => ?_⟩
    have e9 := e8.trans (same_new (o := HO.tup [.str "NoState", .bl b9]) h9)
    have f9 := same_new (o := HO.tup [.str "NoState", .bl b9]) h9 _ _ f8
    have t9 := (t8.new (o := HO.tup [.str "NoState", .bl b9]) h9).snoc (upd_same (H := G8) (a := p9) (o := HO.tup [.str "NoState", .bl b9]))
    generalize upd G8 p9 (.tup [.str "NoState", .bl b9]) = G9 at e9 f9 t9 ⊢
    refine ⟨_, rfl, _, (.ref cW), b10, rfl, ⟨_, _, ev.same e9⟩, fun u r => r, k10, by show 2 ≤ sizeLine; decide, fun p10 h10 => ?_⟩
    have e10 := e9.trans (same_new (o := HO.tup [.str "WitnessError", .bl b10]) h10)
    have f10 := same_new (o := HO.tup [.str "WitnessError", .bl b10]) h10 _ _ f9
    have t10 := (t9.new (o := HO.tup [.str "WitnessError", .bl b10]) h10).snoc (upd_same (H := G9) (a := p10) (o := HO.tup [.str "WitnessError", .bl b10]))
    generalize upd G9 p10 (.tup [.str "WitnessError", .bl b10]) = G10 at e10 f10 t10 ⊢
    refine ⟨_, rfl, _, (.type "KeyError"), b11, rfl, ⟨_, _, ev.same e10⟩, fun u r => r, k11, by show 2 ≤ sizeLine; decide, fun p11 h11 => ?_⟩
    have e11 := e10.trans (same_new (o := HO.tup [.str "KeyError", .bl b11]) h11)
    have f11 := same_new (o := HO.tup [.str "KeyError", .bl b11]) h11 _ _ f10
    have t11 := (t10.new (o := HO.tup [.str "KeyError", .bl b11]) h11).snoc (upd_same (H := G10) (a := p11) (o := HO.tup [.str "KeyError", .bl b11]))
    generalize upd G10 p11 (.tup [.str "KeyError", .bl b11]) = G11 at e11 f11 t11 ⊢
    refine ⟨_, rfl, _, (.type "ValueError"), b12, rfl, ⟨_, _, ev.same e11⟩, fun u r => r, k12, by show 2 ≤ sizeLine; decide, fun p12 h12 => ?_⟩
    have e12 := e11.trans (same_new (o := HO.tup [.str "ValueError", .bl b12]) h12)
    have f12 := same_new (o := HO.tup [.str "ValueError", .bl b12]) h12 _ _ f11
    have t12 := (t11.new (o := HO.tup [.str "ValueError", .bl b12]) h12).snoc (upd_same (H := G11) (a := p12) (o := HO.tup [.str "ValueError", .bl b12]))
    generalize upd G11 p12 (.tup [.str "ValueError", .bl b12]) = G12 at e12 f12 t12 ⊢
    refine ⟨by show 12 ≤ sizeLine; decide, fun L hL => ?_⟩
    have e := e12.trans (same_new (o := HO.lst [V.ref p1, V.ref p2, V.ref p3, V.ref p4, V.ref p5, V.ref p6, V.ref p7, V.ref p8, V.ref p9, V.ref p10, V.ref p11, V.ref p12]) hL)
    have f := same_new (o := HO.lst [V.ref p1, V.ref p2, V.ref p3, V.ref p4, V.ref p5, V.ref p6, V.ref p7, V.ref p8, V.ref p9, V.ref p10, V.ref p11, V.ref p12]) hL _ _ f12
    have tt := t12.new (o := HO.lst [V.ref p1, V.ref p2, V.ref p3, V.ref p4, V.ref p5, V.ref p6, V.ref p7, V.ref p8, V.ref p9, V.ref p10, V.ref p11, V.ref p12]) hL
    have hLL := upd_same (H := G12) (a := L) (o := HO.lst [V.ref p1, V.ref p2, V.ref p3, V.ref p4, V.ref p5, V.ref p6, V.ref p7, V.ref p8, V.ref p9, V.ref p10, V.ref p11, V.ref p12])
    have nLF : L ≠ F := fun z => by rw [z, f12] at hL; cases hL
    have tt : Prs K _ [V.ref p1, V.ref p2, V.ref p3, V.ref p4, V.ref p5, V.ref p6, V.ref p7, V.ref p8, V.ref p9, V.ref p10, V.ref p11, V.ref p12] [("BadMachine", b1), ("BadRow", b2), ("BadShowing", b3), ("BadText", b4), ("Forgets", b5), ("Refused", b6), ("TooGreat", b7), ("NoDeed", b8), ("NoState", b9), ("WitnessError", b10), ("KeyError", b11), ("ValueError", b12)] := tt
    have l0 : ([("BadMachine", b1), ("BadRow", b2), ("BadShowing", b3), ("BadText", b4), ("Forgets", b5), ("Refused", b6), ("TooGreat", b7), ("NoDeed", b8), ("NoState", b9), ("WitnessError", b10), ("KeyError", b11), ("ValueError", b12)] : List (Str × Bool)).length ≤ 1000 := by show 12 ≤ 1000; decide
    generalize ([("BadMachine", b1), ("BadRow", b2), ("BadShowing", b3), ("BadText", b4), ("Forgets", b5), ("Refused", b6), ("TooGreat", b7), ("NoDeed", b8), ("NoState", b9), ("WitnessError", b10), ("KeyError", b11), ("ValueError", b12)] : List (Str × Bool)) = l at tt good l0
    have len := tt.length
    generalize ([V.ref p1, V.ref p2, V.ref p3, V.ref p4, V.ref p5, V.ref p6, V.ref p7, V.ref p8, V.ref p9, V.ref p10, V.ref p11, V.ref p12] : List V) = xs at e f tt hLL len ⊢
    refine ⟨L, rfl, ⟨_, SqL.of hLL⟩, for_list (xs := xs) (fun i σ' H' => (∃ y z, σ' = [some (.ref x), some (.ref F), y, z]) ∧ (∀ b o, b ≠ F → upd G12 L (.lst xs) b = some o → H' b = some o) ∧ H' F = some (.lst ((sel (l.take i)).map V.str))) ⟨⟨_, _, rfl⟩, fun _ _ _ h => h, f⟩ (fun i σ' H' _ q => SqL.of (q.2.1 _ _ nLF hLL)) ?_ ?_⟩
    · rintro i y σ' H' hy ⟨⟨y0, z0, rfl⟩, kp, hf'⟩
      obtain ⟨pp, n, b, rfl, hl, hp⟩ := tt.at_ hy
      have npF : pp ≠ F := fun z => by rw [z, f] at hp; cases hp
      refine ⟨pp, _, rfl, SqT.of (kp _ _ npF hp), rfl, ?_⟩
      refine ⟨_, _, rfl, _, _, rfl, rfl, ?_⟩
      have tk : l.take (i + 1) = l.take i ++ [(n, b)] := by rw [List.take_succ, hl]; rfl
      refine ⟨_, rfl, b, rfl, ?_⟩
      cases b with
      | true =>
        refine iteT ⟨_, rfl, .inl ⟨rfl, _, SqL.of hf'⟩, _, rfl, F, _, _, rfl, rfl, hf', ?_, ⟨_, _, rfl⟩, fun b o nb hb => by rw [upd_ne nb]; exact kp b o nb hb, ?_⟩
        · have z1 := sel_le (l := l.take i)
          have z2 : (l.take i).length ≤ l.length := by rw [List.length_take]; exact Nat.min_le_right _ _
          rw [List.length_map, sizeLine_eq]
          omega
        · rw [upd_same, tk, sel_snoc, if_pos rfl, List.map_append]
          rfl
      | false => exact iteF ⟨⟨_, _, rfl⟩, kp, by rw [tk, sel_snoc, if_neg Bool.false_ne_true]; exact hf'⟩
    · rintro σ' H' ⟨⟨y0, z0, rfl⟩, kp, hf'⟩
      rw [len, List.take_length] at hf'
      exact ⟨_, rfl, good F H' (fun b o hb => kp _ _ (ne_of_none hb hF) (e _ _ hb)) hf'⟩

theorem ok_basesE (F : FnP K "_law_bases" s_law_bases f fd) (T : Mg mg) (R : Er P w K mg base a) (gW : mg "WitnessError" = some (.ref cW)) : Hot.FnE P w K mg base 1 f fd ["error"] (spBasesE K a cW) := by
  refine Hot.FnE.of F sc_bases (fun p vs H Q E h => ?_) (fun cdv A outer s H vs Q p hot hr h => ?_)
  · obtain ⟨D, d, fs, names, rfl, _⟩ := h
    rfl
  · obtain ⟨D, d, fs, names, rfl, hz, hf, hd, kd, good⟩ := h
    have hc : L2H.HotC (L2H.cxH CX0 P w K mg base ["error", "found", "name", "is_one"] "_law_bases" (defScope s_law_bases) f cdv A outer s H (fun _ _ _ => False) p) := ⟨p, hot, List.mem_singleton.mpr rfl⟩
    have ci : CallR (L2H.cxH CX0 P w K mg base ["error", "found", "name", "is_one"] "_law_bases" (defScope s_law_bases) f cdv A outer s H (fun _ _ _ => False) p).nox (.builtin "isinstance") (rIs2 K p.1 D fun H => ∃ fs, H d = some (.xd fs)) := call_isH2 kd.exc (List.mem_singleton.mpr rfl) hz hf
    refine ⟨_, PSs.nox (pss_cons (ps_set (i := 1) sc_bases.nd rfl (by first | exact Or.inl rfl | exact Or.inr rfl) (pe_lst pa_nil))
      (pss_cons (L2H.ps_forH PassesOwn.never hc (Hot.pi_listH (pe_lst (pa_cons (pe_tup (pa_cons pe_str (pa_cons (pe_callB (ci) (by rfl) T.z_isinstance (by decide +kernel) (pa_cons (pv 0) (pa_cons (pe_glob (v := V.ref a.cM) rfl R.BadMachine.at_ rfl) pa_nil))) pa_nil))) (pa_cons (pe_tup (pa_cons pe_str (pa_cons (pe_callB (ci) (by rfl) T.z_isinstance (by decide +kernel) (pa_cons (pv 0) (pa_cons (pe_glob (v := V.ref a.cR) rfl R.BadRow.at_ rfl) pa_nil))) pa_nil))) (pa_cons (pe_tup (pa_cons pe_str (pa_cons (pe_callB (ci) (by rfl) T.z_isinstance (by decide +kernel) (pa_cons (pv 0) (pa_cons (pe_glob (v := V.ref a.cS) rfl R.BadShowing.at_ rfl) pa_nil))) pa_nil))) (pa_cons (pe_tup (pa_cons pe_str (pa_cons (pe_callB (ci) (by rfl) T.z_isinstance (by decide +kernel) (pa_cons (pv 0) (pa_cons (pe_glob (v := V.ref a.cT) rfl R.BadText.at_ rfl) pa_nil))) pa_nil))) (pa_cons (pe_tup (pa_cons pe_str (pa_cons (pe_callB (ci) (by rfl) T.z_isinstance (by decide +kernel) (pa_cons (pv 0) (pa_cons (pe_glob (v := V.ref a.cO) rfl R.Forgets.at_ rfl) pa_nil))) pa_nil))) (pa_cons (pe_tup (pa_cons pe_str (pa_cons (pe_callB (ci) (by rfl) T.z_isinstance (by decide +kernel) (pa_cons (pv 0) (pa_cons (pe_glob (v := V.ref a.cF) rfl R.Refused.at_ rfl) pa_nil))) pa_nil))) (pa_cons (pe_tup (pa_cons pe_str (pa_cons (pe_callB (ci) (by rfl) T.z_isinstance (by decide +kernel) (pa_cons (pv 0) (pa_cons (pe_glob (v := V.ref a.cG) rfl R.TooGreat.at_ rfl) pa_nil))) pa_nil))) (pa_cons (pe_tup (pa_cons pe_str (pa_cons (pe_callB (ci) (by rfl) T.z_isinstance (by decide +kernel) (pa_cons (pv 0) (pa_cons (pe_glob (v := V.ref a.cD) rfl R.NoDeed.at_ rfl) pa_nil))) pa_nil))) (pa_cons (pe_tup (pa_cons pe_str (pa_cons (pe_callB (ci) (by rfl) T.z_isinstance (by decide +kernel) (pa_cons (pv 0) (pa_cons (pe_glob (v := V.ref a.cN) rfl R.NoState.at_ rfl) pa_nil))) pa_nil))) (pa_cons (pe_tup (pa_cons pe_str (pa_cons (pe_callB (ci) (by rfl) T.z_isinstance (by decide +kernel) (pa_cons (pv 0) (pa_cons (pe_glob (v := V.ref cW) rfl gW rfl) pa_nil))) pa_nil))) (pa_cons (pe_tup (pa_cons pe_str (pa_cons (pe_callB (ci) (by rfl) T.z_isinstance (by decide +kernel) (pa_cons (pv 0) (pa_cons (pe_ty T.z_KeyError bt_KeyError) pa_nil))) pa_nil))) (pa_cons (pe_tup (pa_cons pe_str (pa_cons (pe_callB (ci) (by rfl) T.z_isinstance (by decide +kernel) (pa_cons (pv 0) (pa_cons (pe_ty T.z_ValueError bt_ValueError) pa_nil))) pa_nil))) pa_nil)))))))))))))) (Hot.pg_tupH hc (pgs_cons (pg_name (i := 2) sc_bases.nd rfl (by first | exact Or.inl rfl | exact Or.inr rfl)) (pgs_cons (pg_name (i := 3) sc_bases.nd rfl (by first | exact Or.inl rfl | exact Or.inr rfl)) pgs_nil)))
        (pss_one (ps_if (pt_val (pv 3))
          (pss_one (ps_expr (pe_bm PySem.F.plainAttrs_list PySem.F.slot_list_append PySem.F.type_list_append mt_append (pv 1) (pa_cons (pv 2) pa_nil))))
          pss_nil)))
      (pss_one (ps_ret (pv 1))))), ?_⟩
    obtain ⟨b1, b2, b3, b4, b5, b6, b7, b8, b9, b10, b11, b12, k1, k2, k3, k4, k5, k6, k7, k8, k9, k10, k11, k12, rfl⟩ := kd.bs
    refine ⟨by show 0 ≤ sizeLine; decide, fun F hF => ?_⟩
    have e0 := same_new (o := HO.lst []) hF
    have f0 := upd_same (H := H) (a := F) (o := HO.lst [])
    have t0 : Prs K (upd H F (.lst [])) [] [] := trivial
    generalize upd H F (.lst []) = G0 at e0 f0 t0 ⊢
    refine ⟨_, rfl, _, (.ref a.cM), b1, rfl, ⟨_, e0 _ _ hd⟩, fun u r => r, k1, by show 2 ≤ sizeLine; decide, fun p1 h1 => ?_⟩
    have e1 := e0.trans (same_new (o := HO.tup [.str "BadMachine", .bl b1]) h1)
    have f1 := same_new (o := HO.tup [.str "BadMachine", .bl b1]) h1 _ _ f0
    have t1 := (t0.new (o := HO.tup [.str "BadMachine", .bl b1]) h1).snoc (upd_same (H := G0) (a := p1) (o := HO.tup [.str "BadMachine", .bl b1]))
    generalize upd G0 p1 (.tup [.str "BadMachine", .bl b1]) = G1 at e1 f1 t1 ⊢
    refine ⟨_, rfl, _, (.ref a.cR), b2, rfl, ⟨_, e1 _ _ hd⟩, fun u r => r, k2, by show 2 ≤ sizeLine; decide, fun p2 h2 => ?_⟩
    have e2 := e1.trans (same_new (o := HO.tup [.str "BadRow", .bl b2]) h2)
    have f2 := same_new (o := HO.tup [.str "BadRow", .bl b2]) h2 _ _ f1
    have t2 := (t1.new (o := HO.tup [.str "BadRow", .bl b2]) h2).snoc (upd_same (H := G1) (a := p2) (o := HO.tup [.str "BadRow", .bl b2]))
    generalize upd G1 p2 (.tup [.str "BadRow", .bl b2]) = G2 at e2 f2 t2 ⊢
    refine ⟨_, rfl, _, (.ref a.cS), b3, rfl, ⟨_, e2 _ _ hd⟩, fun u r => r, k3, by show 2 ≤ sizeLine; decide, fun p3 h3 => ?_⟩
    have e3 := e2.trans (same_new (o := HO.tup [.str "BadShowing", .bl b3]) h3)
    have f3 := same_new (o := HO.tup [.str "BadShowing", .bl b3]) h3 _ _ f2
    have t3 := (t2.new (o := HO.tup [.str "BadShowing", .bl b3]) h3).snoc (upd_same (H := G2) (a := p3) (o := HO.tup [.str "BadShowing", .bl b3]))
    generalize upd G2 p3 (.tup [.str "BadShowing", .bl b3]) = G3 at e3 f3 t3 ⊢
    refine ⟨_, rfl, _, (.ref a.cT), b4, rfl, ⟨_, e3 _ _ hd⟩, fun u r => r, k4, by show 2 ≤ sizeLine; decide, fun p4 h4 => ?_⟩
    have e4 := e3.trans (same_new (o := HO.tup [.str "BadText", .bl b4]) h4)
    have f4 := same_new (o := HO.tup [.str "BadText", .bl b4]) h4 _ _ f3
    have t4 := (t3.new (o := HO.tup [.str "BadText", .bl b4]) h4).snoc (upd_same (H := G3) (a := p4) (o := HO.tup [.str "BadText", .bl b4]))
    generalize upd G3 p4 (.tup [.str "BadText", .bl b4]) = G4 at e4 f4 t4 ⊢
    refine ⟨_, rfl, _, (.ref a.cO), b5, rfl, ⟨_, e4 _ _ hd⟩, fun u r => r, k5, by show 2 ≤ sizeLine; decide, fun p5 h5 => ?_⟩
    have e5 := e4.trans (same_new (o := HO.tup [.str "Forgets", .bl b5]) h5)
    have f5 := same_new (o := HO.tup [.str "Forgets", .bl b5]) h5 _ _ f4
    have t5 := (t4.new (o := HO.tup [.str "Forgets", .bl b5]) h5).snoc (upd_same (H := G4) (a := p5) (o := HO.tup [.str "Forgets", .bl b5]))
    generalize upd G4 p5 (.tup [.str "Forgets", .bl b5]) = G5 at e5 f5 t5 ⊢
    refine ⟨_, rfl, _, (.ref a.cF), b6, rfl, ⟨_, e5 _ _ hd⟩, fun u r => r, k6, by show 2 ≤ sizeLine; decide, fun p6 h6 => ?_⟩
    have e6 := e5.trans (same_new (o := HO.tup [.str "Refused", .bl b6]) h6)
    have f6 := same_new (o := HO.tup [.str "Refused", .bl b6]) h6 _ _ f5
    have t6 := (t5.new (o := HO.tup [.str "Refused", .bl b6]) h6).snoc (upd_same (H := G5) (a := p6) (o := HO.tup [.str "Refused", .bl b6]))
    generalize upd G5 p6 (.tup [.str "Refused", .bl b6]) = G6 at e6 f6 t6 ⊢
    refine ⟨_, rfl, _, (.ref a.cG), b7, rfl, ⟨_, e6 _ _ hd⟩, fun u r => r, k7, by show 2 ≤ sizeLine; decide, fun p7 h7 => ?_⟩
    have e7 := e6.trans (same_new (o := HO.tup [.str "TooGreat", .bl b7]) h7)
    have f7 := same_new (o := HO.tup [.str "TooGreat", .bl b7]) h7 _ _ f6
    have t7 := (t6.new (o := HO.tup [.str "TooGreat", .bl b7]) h7).snoc (upd_same (H := G6) (a := p7) (o := HO.tup [.str "TooGreat", .bl b7]))
    generalize upd G6 p7 (.tup [.str "TooGreat", .bl b7]) = G7 at e7 f7 t7 ⊢
    refine ⟨_, rfl, _, (.ref a.cD), b8, rfl, ⟨_, e7 _ _ hd⟩, fun u r => r, k8, by show 2 ≤ sizeLine; decide, fun p8 h8 => ?_⟩
    have e8 := e7.trans (same_new (o := HO.tup [.str "NoDeed", .bl b8]) h8)
    have f8 := same_new (o := HO.tup [.str "NoDeed", .bl b8]) h8 _ _ f7
    have t8 := (t7.new (o := HO.tup [.str "NoDeed", .bl b8]) h8).snoc (upd_same (H := G7) (a := p8) (o := HO.tup [.str "NoDeed", .bl b8]))
    generalize upd G7 p8 (.tup [.str "NoDeed", .bl b8]) = G8 at e8 f8 t8 ⊢
    refine ⟨_, rfl, _, (.ref a.cN), b9, rfl, ⟨_, e8 _ _ hd⟩, fun u r => r, k9, by show 2 ≤ sizeLine; decide, fun p9 h9 => ?_⟩
    have e9 := e8.trans (same_new (o := HO.tup [.str "NoState", .bl b9]) h9)
    have f9 := same_new (o := HO.tup [.str "NoState", .bl b9]) h9 _ _ f8
    have t9 := (t8.new (o := HO.tup [.str "NoState", .bl b9]) h9).snoc (upd_same (H := G8) (a := p9) (o := HO.tup [.str "NoState", .bl b9]))
    generalize upd G8 p9 (.tup [.str "NoState", .bl b9]) = G9 at e9 f9 t9 ⊢
    refine ⟨_, rfl, _, (.ref cW), b10, rfl, ⟨_, e9 _ _ hd⟩, fun u r => r, k10, by show 2 ≤ sizeLine; decide, fun p10 h10 => ?_⟩
    have e10 := e9.trans (same_new (o := HO.tup [.str "WitnessError", .bl b10]) h10)
    have f10 := same_new (o := HO.tup [.str "WitnessError", .bl b10]) h10 _ _ f9
    have t10 := (t9.new (o := HO.tup [.str "WitnessError", .bl b10]) h10).snoc (upd_same (H := G9) (a := p10) (o := HO.tup [.str "WitnessError", .bl b10]))
    generalize upd G9 p10 (.tup [.str "WitnessError", .bl b10]) = G10 at e10 f10 t10 ⊢
    refine ⟨_, rfl, _, (.type "KeyError"), b11, rfl, ⟨_, e10 _ _ hd⟩, fun u r => r, k11, by show 2 ≤ sizeLine; decide, fun p11 h11 => ?_⟩
    have e11 := e10.trans (same_new (o := HO.tup [.str "KeyError", .bl b11]) h11)
    have f11 := same_new (o := HO.tup [.str "KeyError", .bl b11]) h11 _ _ f10
    have t11 := (t10.new (o := HO.tup [.str "KeyError", .bl b11]) h11).snoc (upd_same (H := G10) (a := p11) (o := HO.tup [.str "KeyError", .bl b11]))
    generalize upd G10 p11 (.tup [.str "KeyError", .bl b11]) = G11 at e11 f11 t11 ⊢
    refine ⟨_, rfl, _, (.type "ValueError"), b12, rfl, ⟨_, e11 _ _ hd⟩, fun u r => r, k12, by show 2 ≤ sizeLine; decide, fun p12 h12 => ?_⟩
    have e12 := e11.trans (same_new (o := HO.tup [.str "ValueError", .bl b12]) h12)
    have f12 := same_new (o := HO.tup [.str "ValueError", .bl b12]) h12 _ _ f11
    have t12 := (t11.new (o := HO.tup [.str "ValueError", .bl b12]) h12).snoc (upd_same (H := G11) (a := p12) (o := HO.tup [.str "ValueError", .bl b12]))
    generalize upd G11 p12 (.tup [.str "ValueError", .bl b12]) = G12 at e12 f12 t12 ⊢
    refine ⟨by show 12 ≤ sizeLine; decide, fun L hL => ?_⟩
    have e := e12.trans (same_new (o := HO.lst [V.ref p1, V.ref p2, V.ref p3, V.ref p4, V.ref p5, V.ref p6, V.ref p7, V.ref p8, V.ref p9, V.ref p10, V.ref p11, V.ref p12]) hL)
    have f := same_new (o := HO.lst [V.ref p1, V.ref p2, V.ref p3, V.ref p4, V.ref p5, V.ref p6, V.ref p7, V.ref p8, V.ref p9, V.ref p10, V.ref p11, V.ref p12]) hL _ _ f12
    have tt := t12.new (o := HO.lst [V.ref p1, V.ref p2, V.ref p3, V.ref p4, V.ref p5, V.ref p6, V.ref p7, V.ref p8, V.ref p9, V.ref p10, V.ref p11, V.ref p12]) hL
    have hLL := upd_same (H := G12) (a := L) (o := HO.lst [V.ref p1, V.ref p2, V.ref p3, V.ref p4, V.ref p5, V.ref p6, V.ref p7, V.ref p8, V.ref p9, V.ref p10, V.ref p11, V.ref p12])
    have nLF : L ≠ F := fun z => by rw [z, f12] at hL; cases hL
    have tt : Prs K _ [V.ref p1, V.ref p2, V.ref p3, V.ref p4, V.ref p5, V.ref p6, V.ref p7, V.ref p8, V.ref p9, V.ref p10, V.ref p11, V.ref p12] [("BadMachine", b1), ("BadRow", b2), ("BadShowing", b3), ("BadText", b4), ("Forgets", b5), ("Refused", b6), ("TooGreat", b7), ("NoDeed", b8), ("NoState", b9), ("WitnessError", b10), ("KeyError", b11), ("ValueError", b12)] := tt
    have l0 : ([("BadMachine", b1), ("BadRow", b2), ("BadShowing", b3), ("BadText", b4), ("Forgets", b5), ("Refused", b6), ("TooGreat", b7), ("NoDeed", b8), ("NoState", b9), ("WitnessError", b10), ("KeyError", b11), ("ValueError", b12)] : List (Str × Bool)).length ≤ 1000 := by show 12 ≤ 1000; decide
    generalize ([("BadMachine", b1), ("BadRow", b2), ("BadShowing", b3), ("BadText", b4), ("Forgets", b5), ("Refused", b6), ("TooGreat", b7), ("NoDeed", b8), ("NoState", b9), ("WitnessError", b10), ("KeyError", b11), ("ValueError", b12)] : List (Str × Bool)) = l at tt good l0
    have len := tt.length
    generalize ([V.ref p1, V.ref p2, V.ref p3, V.ref p4, V.ref p5, V.ref p6, V.ref p7, V.ref p8, V.ref p9, V.ref p10, V.ref p11, V.ref p12] : List V) = xs at e f tt hLL len ⊢
    refine ⟨L, rfl, ⟨_, SqL.of hLL⟩, for_list (xs := xs) (fun i σ' H' => (∃ y z, σ' = [some (.ref p.1), some (.ref F), y, z]) ∧ (∀ b o, b ≠ F → upd G12 L (.lst xs) b = some o → H' b = some o) ∧ H' F = some (.lst ((sel (l.take i)).map V.str))) ⟨⟨_, _, rfl⟩, fun _ _ _ h => h, f⟩ (fun i σ' H' _ q => SqL.of (q.2.1 _ _ nLF hLL)) ?_ ?_⟩
    · rintro i y σ' H' hy ⟨⟨y0, z0, rfl⟩, kp, hf'⟩
      obtain ⟨pp, n, b, rfl, hl, hp⟩ := tt.at_ hy
      have npF : pp ≠ F := fun z => by rw [z, f] at hp; cases hp
      refine ⟨pp, _, rfl, SqT.of (kp _ _ npF hp), rfl, ?_⟩
      refine ⟨_, _, rfl, _, _, rfl, rfl, ?_⟩
      have tk : l.take (i + 1) = l.take i ++ [(n, b)] := by rw [List.take_succ, hl]; rfl
      refine ⟨_, rfl, b, rfl, ?_⟩
      cases b with
      | true =>
        refine iteT ⟨_, rfl, .inl ⟨rfl, _, SqL.of hf'⟩, _, rfl, F, _, _, rfl, rfl, hf', ?_, ⟨_, _, rfl⟩, fun b o nb hb => by rw [upd_ne nb]; exact kp b o nb hb, ?_⟩
        · have z1 := sel_le (l := l.take i)
          have z2 : (l.take i).length ≤ l.length := by rw [List.length_take]; exact Nat.min_le_right _ _
          rw [List.length_map, sizeLine_eq]
          omega
        · rw [upd_same, tk, sel_snoc, if_pos rfl, List.map_append]
          rfl
      | false => exact iteF ⟨⟨_, _, rfl⟩, kp, by rw [tk, sel_snoc, if_neg Bool.false_ne_true]; exact hf'⟩
    · rintro σ' H' ⟨⟨y0, z0, rfl⟩, kp, hf'⟩
      rw [len, List.take_length] at hf'
      exact ⟨_, rfl, good F H' (fun b o hb => kp _ _ (ne_of_none hb hF) (e _ _ hb)) hf'⟩

end
end K0
/-! where only tables move; a body whose code object is known -/
namespace Kx
open L2 PySem PySem.Spec PyProof.Rows
section
variable {P : Program} {w : World} {K : PySem.W.Frag} {mg : Str → Option Value} {base : Heap} {x qual : Str} {params : Arguments} {body : List Stmt} {scope : Scope} {dvs : List V} {kws : List (Str × V)} {f c : Addr} {fd : FuncData}
/-- a def's body, its code object known -/
theorem okGc {CX : CXT} {N ps : List Str} {k : Nat} {sp : Sp} (F : FunD K x qual params body scope dvs kws f fd) (hc : fd.code = .ref c) (S : FnScope N ps scope) (len : ∀ vs H Q E, sp vs H Q E → vs.length = ps.length)
    (hbody : ∀ (A : Around) (outer : List Env) (s : Shared) (H : Hp) (vs : List V) (Q : VK) (E : XK), Lone A → Room k (A.deeper (envOfC qual scope s.heap.objs.size f (.ref c))) → sp vs H Q E →
      ∃ t, PSs (cxOf CX P w K mg base N qual scope f (.ref c) A outer s H E) body t ∧ t { nx := fun _ H' => Q .non H', rt := Q } (start N vs) H) : FnG P w K mg base CX (k + 1) f fd ps sp := by
  obtain ⟨oc, od, dV, kV, doc, pm, an, cdv, ct, osl, rfl, lk, hcd, -, -⟩ := F.ex
  have hc : cdv = .ref c := hc
  subst hc
  exact ⟨len, fun A outer s H args us vs Q E hr lone e0 hb hv hs => LamX.run_ofS lk hcd S hr e0 hb hv (len _ _ _ _ hs) fun hr' => hbody A outer s H vs Q E lone hr' hs⟩
end
/-! ### where only tables move -/
section
variable {K : PySem.W.Frag} {H H' : Hp} {a : Addr} {xs : List V}
theorem ext_rd (e : LamX.ExtN H H') {u : HO} (n : ∀ ps, u ≠ .tbl ps) (h : Rd H a u) : Rd H' a u := h.elim (fun q => .inl (e _ _ q n)) fun ⟨z, q⟩ => .inr ⟨z, e _ _ q fun _ z => nomatch z⟩
theorem ext_sqT (e : LamX.ExtN H H') (h : SqT K H a xs) : SqT K H' a xs := h.imp (ext_rd e fun _ z => nomatch z) id
theorem ext_sqL (e : LamX.ExtN H H') (h : SqL K H a xs) : SqL K H' a xs := h.imp (ext_rd e fun _ z => nomatch z) id
theorem ext_sq (e : LamX.ExtN H H') (h : Sq K H a xs) : Sq K H' a xs := h.imp (ext_sqL e) (ext_sqT e)
theorem ext_of (e : Same H H') : LamX.ExtN H H' := fun b o q _ => e b o q
theorem ext_kn {v : V} (e : LamX.ExtN H H') (h : Kn K H v) : Kn K H' v := by
  cases h with
  | non => exact .non
  | bl b => exact .bl b
  | int i => exact .int i
  | str x => exact .str x
  | seq q => exact .seq (ext_sq e q)
theorem tabs_same {T : List (Addr × Str)} (t : LamX.Tabs T H) (e : Same H H') : LamX.Tabs T H' := t.ext e
/-- t == u, t != u: tuples of rows -/
def rRowsEq (K : PySem.W.Frag) (neg : Bool) : R2 := fun x y H Q => ∃ (xs ys : List (List Int)), Dp K H x (dRows xs) ∧ Dp K H y (dRows ys) ∧ Q (.bl (neg != decide (xs = ys))) H
theorem op_eqRows {X : Cx} (hu : X.A.units + 64 < cLine) : OpR X (compareOp .Eq) (rRowsEq X.K false) := by
  intro pins st σ H x y v u Q I rx ry ⟨xs, ys, h1, h2, q⟩
  refine op_eqD hu pins st σ H _ _ v u Q I rx ry ⟨_, _, h1, h2, shaped_rows xs, shaped_rows ys, ?_⟩
  simp only [PyData.eqv, eqv_rows]
  rwa [Bool.false_bne] at q
theorem op_neRows {X : Cx} (hu : X.A.units + 64 < cLine) : OpR X (compareOp .NotEq) (rRowsEq X.K true) := by
  intro pins st σ H x y v u Q I rx ry ⟨xs, ys, h1, h2, q⟩
  refine op_neD hu pins st σ H _ _ v u Q I rx ry ⟨_, _, h1, h2, shaped_rows xs, shaped_rows ys, ?_⟩
  simp only [PyData.eqv, eqv_rows]
  rwa [Bool.true_bne] at q
end
end Kx
/-! counters are made, compared -/
namespace K0
open PySem PySem.Spec PyProof.Rows L2 Kx
/-- rounds and rests that counters may have -/
structure Cok (rs es : List Int) : Prop where
  l1 : 1 ≤ rs.length
  l4 : rs.length ≤ 4
  le : es.length = rs.length
  r : ∀ x ∈ rs, 0 ≤ x ∧ x ≤ 60
  e : ∀ x ∈ es, 0 ≤ x ∧ x ≤ 6
structure CnAt (K : PySem.W.Frag) (C : Addr) (H : Hp) (c : Addr) (rs es : List Int) : Prop where
  ok : Cok rs es
  ex : ∃ dx p q, H c = some (.ins C dx [("rounds", .ref p), ("rests", .ref q)]) ∧ SqT K H p (rs.map V.int) ∧ SqT K H q (es.map V.int)
theorem CnAt.same {K : PySem.W.Frag} {C : Addr} {H H' : Hp} {c : Addr} {rs es : List Int} (e : Same H H') (h : CnAt K C H c rs es) : CnAt K C H' c rs es := by
  obtain ⟨ok, dx, p, q, h1, h2, h3⟩ := h
  exact ⟨ok, dx, p, q, e _ _ h1, sqT_same e h2, sqT_same e h3⟩
/-- what the module holds of such a class -/
structure ClsC (K : PySem.W.Frag) (mg : Str → Option Value) (C : Addr) : Prop where
  at_ : mg "Counters" = some (.ref C)
  cl : Cls K C
  n1 : NoAttr K C "rounds"
  n2 : NoAttr K C "rests"
  isi : SlX.SIsi K C
  yes : PySem.W.kitOne K (.ref C) (.ref C) = some true
  notT : PySem.W.kitOne K (.type "tuple") (.ref C) = some false
  first : PySem.W.notFirst K C (.type "tuple") = true
def roundsOk : Option (List V) → Bool
  | some xs => inLen 1 4 (some xs) && (fnb 61 xs).isNone
  | none => false
theorem roundsOk_some {xs : List V} : roundsOk (some xs) = (inLen 1 4 (some xs) && (fnb 61 xs).isNone) := rfl
def restsOk (k : Nat) : Option (List V) → Bool
  | some ys => ys.isEmpty || (decide (ys.length = k) && (fnb 7 ys).isNone)
  | none => false
theorem restsOk_some {k : Nat} {ys : List V} : restsOk k (some ys) = (ys.isEmpty || (decide (ys.length = k) && (fnb 7 ys).isNone)) := rfl
def spRests (K : PySem.W.Frag) : Sp := fun vs H Q _ => ∃ (v : V) (k : Nat) (o : Option (List V)), vs = [v, .int (k : Int)] ∧ k ≤ 4 ∧ Long K H v o ∧ Kns K H o 4 ∧ ∀ H', Same H H' → Q (.bl (restsOk k o)) H'
def spInit (K : PySem.W.Frag) (a : Ad) (C : Addr) : Sp := fun vs H Q E => ∃ (x dx : Addr) (v1 v2 : V) (o1 o2 : Option (List V)), vs = [.ref x, v1, v2] ∧ H x = some (.ins C dx []) ∧ Long K H v1 o1 ∧ Kns K H o1 4 ∧ Long K H v2 o2 ∧ Kns K H o2 4 ∧
  (roundsOk o1 = false → Thrown E H a.cF "at" v1) ∧ (∀ xs, o1 = some xs → roundsOk o1 = true → restsOk xs.length o2 = false → Thrown E H a.cF "at" v2) ∧
  (∀ rs es, Cok rs es → o1 = some (rs.map V.int) → (o2 = some [] ∧ es = List.replicate rs.length 0 ∨ o2 = some (es.map V.int)) → ∀ H', (∀ b o, b ≠ x → H b = some o → H' b = some o) → CnAt K C H' x rs es → Q .non H')
theorem restsOk_true {k : Nat} {o : Option (List V)} (h : restsOk k o = true) : o = some [] ∨ ∃ es : List Int, o = some (es.map V.int) ∧ es.length = k ∧ ∀ x ∈ es, 0 ≤ x ∧ x ≤ 6 := by
  cases o with
  | none => cases h
  | some ys =>
    rw [restsOk_some, Bool.or_eq_true, Bool.and_eq_true] at h
    rcases h with h | ⟨h1, h2⟩
    · rw [List.isEmpty_iff.mp h]
      exact .inl rfl
    · obtain ⟨es, rfl, he⟩ := fnb_ints (Option.isNone_iff_eq_none.mp h2)
      refine .inr ⟨es, rfl, ?_, fun x hx => ⟨(he x hx).1, by have := (he x hx).2; omega⟩⟩
      have := of_decide_eq_true h1
      rwa [List.length_map] at this
section
variable {P : Program} {w : World} {K : PySem.W.Frag} {mg : Str → Option Value} {base : Heap} {f : Addr} {fd : FuncData} {a : Ad} {C : Addr}
theorem sc__are_rests : FnScope ["value", "kinds"] ["value", "kinds"] (defScope s_are_rests) := ⟨rfl, rfl, rfl, by decide +kernel, rfl, by decide +kernel, by decide +kernel⟩
theorem optV_isN {o : Option Nat} : decide (optV o = V.non) = o.isNone := optV_non
theorem inLen_00 {xs : List V} : inLen 0 0 (some xs) = xs.isEmpty := by
  cases xs with
  | nil => rfl
  | cons x xs =>
    rw [inLen_some, decide_eq_true (by omega), decide_eq_false (by simp only [List.length_cons]; omega)]
    rfl
theorem inLen_kk {k : Nat} {xs : List V} : inLen (k : Int) (k : Int) (some xs) = decide (xs.length = k) := by
  rw [inLen_some, Bool.eq_iff_iff, Bool.and_eq_true, decide_eq_true_eq, decide_eq_true_eq, decide_eq_true_eq]
  omega
theorem ok_are_rests (F : FnP K "_are_rests" s_are_rests f fd) (T : Mg mg) (c_is_sequence : Cal P w K mg base CX0 1 "is_sequence" ["value", "least", "most"] (spSeq K)) (c_first_not_below : Cal P w K mg base CX0 3 "first_not_below" ["values", "limit"] (spFnb K)) :
    FnOk P w K mg base CX0 4 f fd ["value", "kinds"] (spRests K) := by
  refine F.ok sc__are_rests (fun vs H Q E h => ?_) (fun cdv A outer s H vs Q E hr h => ?_)
  · obtain ⟨v, k, o, rfl, _⟩ := h
    rfl
  · obtain ⟨v, k, o, rfl, hk, hv, kn, q⟩ := h
    refine ⟨_, PSs.nox (pss_cons (ps_if (pt_val (pe_callC c_is_sequence hr pass0 (pa_cons (pv 0) (pa_cons pe_int (pa_cons pe_int pa_nil)))))
        (pss_one (ps_ret pe_bl))
        pss_nil)
      (pss_one (ps_ret (pe_and (pe_callC c_is_sequence hr pass0 (pa_cons (pv 0) (pa_cons (pv 1) (pa_cons (pv 1) pa_nil)))) (pe_one (pe_cmpR op_isN (pe_callC c_first_not_below hr pass0 (pa_cons (pv 0) (pa_cons (pe_op op_add (pe_constI T.g_REST_MOST) pe_int) pa_nil))) pe_non (nomark _))))))), ?_⟩
    refine ⟨v, rfl, v, 0, 0, o, rfl, hv, fun H1 e1 => ⟨inLen 0 0 o, rfl, ?_⟩⟩
    cases o with
    | none =>
      refine iteF ?_
      exact ⟨v, rfl, _, rfl, _, rfl, v, _, _, none, rfl, hv.same e1, fun H2 e2 => ⟨_, rfl, iteF (q _ (e1.trans e2))⟩⟩
    | some xs =>
      rw [inLen_00]
      cases hz : xs.isEmpty with
      | true =>
        refine iteT ?_
        have e : restsOk k (some xs) = true := by rw [restsOk_some, hz] <;> rfl
        rw [e] at q
        exact q _ e1
      | false =>
        refine iteF ?_
        have e : restsOk k (some xs) = (decide (xs.length = k) && (fnb 7 xs).isNone) := by rw [restsOk_some, hz] <;> rfl
        rw [e] at q
        refine ⟨v, rfl, _, rfl, _, rfl, v, _, _, some xs, rfl, hv.same e1, fun H2 e2 => ⟨_, rfl, ?_⟩⟩
        rw [inLen_kk]
        cases hl : decide (xs.length = k) with
        | false =>
          rw [hl] at q
          exact iteF (q _ (e1.trans e2))
        | true =>
          rw [hl] at q
          refine iteT ?_
          have e12 := e1.trans e2
          cases hv with
          | seq qs =>
            refine ⟨_, rfl, _, _, rfl, rfl, _, xs, 7, rfl, qs.same e12, fun x hx => (kn _ rfl (by have := of_decide_eq_true hl; omega) x hx).same e12, fun H3 e3 => ⟨rfl, ?_⟩⟩
            have q3 := q _ (e12.trans e3)
            rw [← optV_non] at q3
            exact q3
theorem sc_init : FnScope ["self", "rounds", "rests"] ["self", "rounds", "rests"] (defScope s_Counters_init) := ⟨rfl, rfl, rfl, by decide +kernel, rfl, by decide +kernel, by decide +kernel⟩
theorem ok_init {dvs : List V} (F : FunD K "__init__" "Counters.__init__" (defArgs s_Counters_init) (defBody s_Counters_init) (defScope s_Counters_init) dvs [] f fd) (T : Mg mg) (R : Er P w K mg base a) (TC : ClsC K mg C)
    (c_is_sequence : Cal P w K mg base CX0 1 "is_sequence" ["value", "least", "most"] (spSeq K)) (c_first_not_below : Cal P w K mg base CX0 3 "first_not_below" ["values", "limit"] (spFnb K))
    (c__are_rests : Cal P w K mg base CX0 4 "_are_rests" ["value", "kinds"] (spRests K)) : FnOk P w K mg base (L2N.CX P w) 5 f fd ["self", "rounds", "rests"] (spInit K a C) := by
  refine F.ok sc_init (fun vs H Q E h => ?_) (fun cdv A outer s H vs Q E hr h => ?_)
  · obtain ⟨x, dx, v1, v2, o1, o2, rfl, _⟩ := h
    rfl
  · obtain ⟨x, dx, v1, v2, o1, o2, rfl, hx, h1, k1, h2, k2, bad1, bad2, good⟩ := h
    refine ⟨_, (pss_cons (ps_if (PW.pt (pw_or (pt_not (pt_val (pe_callC c_is_sequence hr pass0 (pa_cons (pv 1) (pa_cons pe_int (pa_cons (pe_constI T.g_DEEDS_MOST) pa_nil)))))) (pw_or1 (pt_cmpR op_notN (pe_callC c_first_not_below hr pass0 (pa_cons (pv 1) (pa_cons (pe_op op_add (pe_constI T.g_ROUND_MOST) pe_int) pa_nil))) pe_non (nomark _)))))
        (pss_one (psN R.Refused rfl hr (L2N.takes_of rfl rfl rfl rfl) (pa_cons (pv 1) pa_nil)))
        pss_nil)
      (pss_cons (ps_if (pt_not (pt_val (pe_callC c__are_rests hr pass0 (pa_cons (pv 2) (pa_cons (pe_callB call_len_seq (by rfl) T.z_len PySem.boot_len (pa_cons (pv 1) pa_nil)) pa_nil)))))
        (pss_one (psN R.Refused rfl hr (L2N.takes_of rfl rfl rfl rfl) (pa_cons (pv 2) pa_nil)))
        pss_nil)
      (PSs.nox (pss_cons (ps_fld (pv 0) (pe_callTy call_tup (by rfl) T.z_tuple (by decide +kernel) (pa_cons (pv 1) pa_nil)) rfl)
      (pss_one (ps_fld (pv 0) (pe_ifExp (pt_truth (pv 2) (by intro _; rfl)) (pe_callTy call_tup (by rfl) T.z_tuple (by decide +kernel) (pa_cons (pv 2) pa_nil)) (pe_op op_times (pe_tup (pa_cons pe_int pa_nil)) (pe_callB call_len_seq (by rfl) T.z_len PySem.boot_len (pa_cons (pv 1) pa_nil)))) rfl)))))), ?_⟩
    refine ⟨v1, rfl, v1, 1, 4, o1, rfl, h1, fun H1 e1 => ⟨inLen 1 4 o1, rfl, ?_⟩⟩
    cases i1 : inLen 1 4 o1 with
    | false =>
      have r1 : roundsOk o1 = false := by
        cases o1 with
        | none => rfl
        | some xs => rw [roundsOk_some, i1] <;> rfl
      exact iteT ⟨v1, rfl, thrownN ((bad1 r1).same e1).at_⟩
    | true =>
      refine iteF ?_
      cases h1 with
      | seq q1 =>
        rename_i b1 xs
        have len : 1 ≤ xs.length ∧ xs.length ≤ 4 := by
          have z := i1
          rw [inLen_some, Bool.and_eq_true] at z
          have := of_decide_eq_true z.1
          have := of_decide_eq_true z.2
          omega
        refine ⟨_, rfl, _, _, rfl, rfl, b1, xs, 61, rfl, q1.same e1, fun x hx => (k1 _ rfl len.2 x hx).same e1, fun H2 e2 => ⟨rfl, !(fnb 61 xs).isNone, ?_, ?_⟩⟩
        · rw [← optV_non]
        · have e12 := e1.trans e2
          cases ef : (fnb 61 xs).isNone with
          | false =>
            have r1 : roundsOk (some xs) = false := by rw [roundsOk_some, i1, ef] <;> rfl
            exact iteT ⟨_, rfl, thrownN ((bad1 r1).same e12).at_⟩
          | true =>
            have r1 : roundsOk (some xs) = true := by rw [roundsOk_some, i1, ef] <;> rfl
            refine iteF ?_
            refine ⟨v2, rfl, _, rfl, _, xs, rfl, q1.same e12, v2, xs.length, o2, rfl, len.2, h2.same e12, fun ys q l x hx => (k2 ys q l x hx).same e12, fun H3 e3 => ⟨restsOk xs.length o2, rfl, ?_⟩⟩
            have e13 := e12.trans e3
            cases r2 : restsOk xs.length o2 with
            | false => exact iteT ⟨v2, rfl, thrownN ((bad2 xs rfl r1 r2).same e13).at_⟩
            | true =>
              refine iteF ?_
              obtain ⟨rs, rfl, hrs⟩ := fnb_ints (Option.isNone_iff_eq_none.mp ef)
              have q1' := q1.same e13
              have hx' := e13 _ _ hx
              have fin : ∀ (p q : Addr) (es : List Int) (Hz : Hp), Cok rs es → (o2 = some [] ∧ es = List.replicate rs.length 0 ∨ o2 = some (es.map V.int)) → (∀ b o, b ≠ x → H b = some o → Hz b = some o) → SqT K Hz p (rs.map V.int) → SqT K Hz q (es.map V.int) → Hz x = some (.ins C dx [("rounds", .ref p), ("rests", .ref q)]) → Q .non Hz := fun p q es Hz ok2 ho keep hp hq hz =>
                good rs es ok2 rfl ho Hz keep ⟨ok2, dx, p, q, hz, hp, hq⟩
              refine ⟨_, rfl, b1, _, rfl, q1', fun p H4 e4 hp => ?_⟩
              have e14 := e13.trans e4
              refine ⟨_, rfl, x, C, dx, _, rfl, e14 _ _ hx, TC.cl, TC.n1, (by decide), ?_⟩
              have hx4 := e14 _ _ hx
              generalize eH : upd H4 x (.ins C dx (putF "rounds" (.ref p) [])) = H5
              have hx5 : H5 x = some (.ins C dx [("rounds", .ref p)]) := by rw [← eH]; exact upd_same
              have q15 : Sq K H5 b1 (rs.map V.int) := by rw [← eH]; exact sq_ins hx4 (q1.same e14)
              have p5 : SqT K H5 p (rs.map V.int) := by rw [← eH]; exact sqT_ins hx4 hp
              have keep5 : ∀ b o, b ≠ x → H b = some o → H5 b = some o := fun b o ne hb => by rw [← eH, upd_ne ne]; exact e14 _ _ hb
              obtain ⟨b2, ys, rfl, rfl, q2⟩ : ∃ b2 ys, v2 = .ref b2 ∧ o2 = some ys ∧ Sq K H b2 ys := by
                cases h2 with
                | seq q => exact ⟨_, _, rfl, rfl, q⟩
                | _ => cases r2
              have q25 : Sq K H5 b2 ys := by rw [← eH]; exact sq_ins hx4 (q2.same e14)
              have last : ∀ (q : Addr) (es : List Int) (H7 : Hp), Same H5 H7 → SqT K H7 q (es.map V.int) → Cok rs es → (some ys = some [] ∧ es = List.replicate rs.length 0 ∨ some ys = some (es.map V.int)) → Q .non (upd H7 x (.ins C dx (putF "rests" (.ref q) [("rounds", .ref p)]))) := fun q es H7 e7 hq ok2 ho =>
                fin p q es _ ok2 ho (fun b o ne hb => by rw [upd_ne ne]; exact e7 _ _ (keep5 b o ne hb)) (sqT_ins (e7 _ _ hx5) (sqT_same e7 p5)) (sqT_ins (e7 _ _ hx5) hq) upd_same
              have lrs : 1 ≤ rs.length ∧ rs.length ≤ 4 := by rw [List.length_map] at len; exact len
              have brs : ∀ n ∈ rs, 0 ≤ n ∧ n ≤ 60 := fun n hn => ⟨(hrs n hn).1, by have := (hrs n hn).2; omega⟩
              refine ⟨_, rfl, _, tru_sq q25, ?_⟩
              rcases restsOk_true r2 with e | ⟨es, e, le, be⟩
              · cases e
                refine iteF ⟨(by show 1 ≤ sizeLine; decide), fun t ht => ?_⟩
                have e6 := same_new (o := HO.tup [.int 0]) ht
                refine ⟨_, rfl, b1, _, rfl, q15.same e6, ?_⟩
                refine ⟨t, rs.length, [.int 0], rfl, by rw [List.length_map], SqT.of upd_same, (by simp), by omega, (by decide), fun q H7 e7 hq => ?_⟩
                have e57 := e6.trans e7
                refine ⟨_, rfl, x, C, dx, _, rfl, e57 _ _ hx5, TC.cl, TC.n2, (Nat.lt_of_succ_lt (by show 2 < 1000; decide)), ?_⟩
                refine last q (List.replicate rs.length 0) H7 e57 ?_ ⟨lrs.1, lrs.2, List.length_replicate, brs, fun n hn => by rw [List.eq_of_mem_replicate hn]; decide⟩ (.inl ⟨rfl, rfl⟩)
                have e8 : (List.replicate rs.length [V.int 0]).flatten = (List.replicate rs.length (0 : Int)).map V.int := by rw [List.map_replicate, List.flatten_replicate_singleton]
                rw [e8] at hq
                exact hq
              · cases e
                have ne : (!(es.map V.int).isEmpty) = true := by
                  cases es with
                  | nil => simp at le; omega
                  | cons _ _ => rfl
                rw [ne]
                refine iteT ⟨_, rfl, b2, _, rfl, q25, fun q H7 e7 hq => ?_⟩
                refine ⟨_, rfl, x, C, dx, _, rfl, e7 _ _ hx5, TC.cl, TC.n2, (Nat.lt_of_succ_lt (by show 2 < 1000; decide)), ?_⟩
                rw [List.length_map] at le
                exact last q es H7 e7 hq ⟨lrs.1, lrs.2, le, brs, be⟩ (.inr rfl)
      | non => cases i1
      | bl _ => cases i1
      | int _ => cases i1
      | str _ => cases i1
/-- own ==: of other counters, of a tuple -/
def spEqC (K : PySem.W.Frag) (C : Addr) : Sp := fun vs H Q _ => ∃ c rs es d, vs = [.ref c, .ref d] ∧ CnAt K C H c rs es ∧
  ((∃ rs' es', CnAt K C H d rs' es' ∧ ∀ H', Same H H' → Q (.bl (decide (rs = rs' ∧ es = es'))) H') ∨ ((∃ xs, SqT K H d xs) ∧ ∀ H', Same H H' → Q (.bl false) H'))
theorem ty_cn {H : Hp} {c : Addr} {rs es : List Int} (TC : ClsC K mg C) (h : CnAt K C H c rs es) : TyX K H (.ref c) (.ref C) := by
  obtain ⟨_, dx, p, q, e, _⟩ := h
  exact .base (.ins e TC.cl TC.isi.ca TC.isi.cn TC.isi.ct TC.isi.cm)
theorem sc_eq : FnScope ["self", "other"] ["self", "other"] (defScope s_Counters_eq) := ⟨rfl, rfl, rfl, by decide +kernel, rfl, by decide +kernel, by decide +kernel⟩
theorem ok_eq (F : FunD K "__eq__" "Counters.__eq__" (defArgs s_Counters_eq) (defBody s_Counters_eq) (defScope s_Counters_eq) [] [] f fd) (T : Mg mg) (TC : ClsC K mg C) : FnOk P w K mg base CX0 1 f fd ["self", "other"] (spEqC K C) := by
  refine F.ok sc_eq (fun vs H Q E h => ?_) (fun cdv A outer s H vs Q E hr h => ?_)
  · obtain ⟨c, rs, es, d, rfl, _⟩ := h
    rfl
  · obtain ⟨c, rs, es, d, rfl, hc, how⟩ := h
    refine ⟨_, PSs.nox (pss_one (ps_ret (pe_and (pe_callB call_isi (by rfl) T.z_isinstance (by decide +kernel) (pa_cons (pv 1) (pa_cons (pe_glob (v := V.ref C) rfl TC.at_ rfl) pa_nil))) (pe_and (pe_cmpR (op_eqNums (r64 hr)) (pe_fld (pv 0) rfl) (pe_fld (pv 1) rfl) (nomark _)) (pe_one (pe_cmpR (op_eqNums (r64 hr)) (pe_fld (pv 0) rfl) (pe_fld (pv 1) rfl) (nomark _))))))), ?_⟩
    rcases how with ⟨rs', es', hd, k⟩ | ⟨⟨xs, hd⟩, k⟩
    · refine ⟨_, rfl, _, .ref C, _, _, true, rfl, .own C, ty_cn TC hd, TC.yes, true, rfl, iteT ?_⟩
      obtain ⟨_, dx, p, q, c1, c2, c3⟩ := hc
      obtain ⟨_, dx', p', q', d1, d2, d3⟩ := hd
      refine ⟨_, rfl, c, C, dx, _, _, rfl, c1, TC.cl, TC.n1, rfl, _, rfl, d, C, dx', _, _, rfl, d1, TC.cl, TC.n1, rfl, p, p', rs, rs', rfl, rfl, c2, d2, _, rfl, ?_⟩
      have k := k H (Same.refl H)
      refine ite2 (fun h => ?_) (fun h => ?_)
      · have e : rs = rs' := by simpa using h
        refine ⟨_, rfl, c, C, dx, _, _, rfl, c1, TC.cl, TC.n2, rfl, _, rfl, d, C, dx', _, _, rfl, d1, TC.cl, TC.n2, rfl, q, q', es, es', rfl, rfl, c3, d3, ?_⟩
        have e2 : (false != decide (es = es')) = decide (rs = rs' ∧ es = es') := by rw [Bool.false_bne, Bool.eq_iff_iff]; simp [e]
        rw [← e2] at k
        exact k
      · have e : ¬ rs = rs' := by simpa using h
        have e2 : decide (rs = rs' ∧ es = es') = false := decide_eq_false fun z => e z.1
        rw [e2] at k
        exact k
    · exact ⟨_, rfl, _, .ref C, _, _, false, rfl, .own C, tyx_tuple hd, TC.notT, false, rfl, iteF (k H (Same.refl H))⟩
end
end K0
/-! what counters show -/
namespace K0
open PySem PySem.Spec PyProof.Rows L2 Kx
def spFinite (K : PySem.W.Frag) (C : Addr) : Sp := fun vs H Q _ => ∃ c rs es, vs = [.ref c] ∧ CnAt K C H c rs es ∧ Q (.bl (decide ((0 : Int) ∉ rs))) H
def canShow (r e : Int) (v : V) : Bool := if r = 0 then isNum v else isBel (e + r) v
def spCanShow (K : PySem.W.Frag) (C : Addr) : Sp := fun vs H Q _ => ∃ c rs es, ∃ i : Nat, ∃ v r e, vs = [.ref c, .int (i : Int), v] ∧ CnAt K C H c rs es ∧ Kn K H v ∧ rs[i]? = some r ∧ es[i]? = some e ∧ Q (.bl (canShow r e v)) H
theorem Cok.at_ {rs es : List Int} (h : Cok rs es) {i : Nat} (hi : i < rs.length) : rs[i]? = some (rs.getD i 0) ∧ es[i]? = some (es.getD i 0) ∧ 0 ≤ rs.getD i 0 ∧ rs.getD i 0 ≤ 60 ∧ 0 ≤ es.getD i 0 ∧ es.getD i 0 ≤ 6 := by
  have he : i < es.length := by rw [h.le]; exact hi
  have a1 : rs[i]? = some (rs.getD i 0) := by rw [List.getD_eq_getElem?_getD, List.getElem?_eq_getElem hi] <;> rfl
  have a2 : es[i]? = some (es.getD i 0) := by rw [List.getD_eq_getElem?_getD, List.getElem?_eq_getElem he] <;> rfl
  have b1 := h.r _ (List.mem_of_getElem? a1)
  have b2 := h.e _ (List.mem_of_getElem? a2)
  exact ⟨a1, a2, b1.1, b1.2, b2.1, b2.2⟩
section
variable {K : PySem.W.Frag} {C c : Addr} {H : Hp} {rs es : List Int}
theorem op_notIn_nums {xs : List Int} {k : Int} : (!inV (.int k) (xs.map V.int)) = decide (k ∉ xs) := by
  induction xs with
  | nil => rfl
  | cons x xs ih =>
    have e : inV (.int k) ((x :: xs).map V.int) = ((x == k) || inV (.int k) (xs.map V.int)) := rfl
    rw [e, Bool.not_or, ih, Bool.eq_iff_iff, Bool.and_eq_true, decide_eq_true_eq, decide_eq_true_eq, List.mem_cons, not_or, Bool.not_eq_true', beq_eq_false_iff_ne]
    exact ⟨fun ⟨h1, h2⟩ => ⟨fun z => h1 z.symm, h2⟩, fun ⟨h1, h2⟩ => ⟨fun z => h1 z.symm, h2⟩⟩
end
section
variable {P : Program} {w : World} {K : PySem.W.Frag} {mg : Str → Option Value} {base : Heap} {f : Addr} {fd : FuncData} {a : Ad} {C CM : Addr}
theorem sc_is_finite : FnScope ["counters"] ["counters"] (defScope s_is_finite) := ⟨rfl, rfl, rfl, by decide +kernel, rfl, by decide +kernel, by decide +kernel⟩
theorem ok_is_finite (F : FnP K "is_finite" s_is_finite f fd) (T : Mg mg) (TC : ClsC K mg C) : FnOk P w K mg base CX0 1 f fd ["counters"] (spFinite K C) := by
  refine F.ok sc_is_finite (fun vs H Q E h => ?_) (fun cdv A outer s H vs Q E hr h => ?_)
  · obtain ⟨c, rs, es, rfl, _⟩ := h
    rfl
  · obtain ⟨c, rs, es, rfl, ⟨ok, dx, p, q, h1, h2, h3⟩, k⟩ := h
    refine ⟨_, PSs.nox (pss_one (ps_ret (pe_cmpR op_notIn_seq pe_int (pe_fld (pv 0) rfl) (by rfl)))), ?_⟩
    refine ⟨_, rfl, c, C, dx, _, _, rfl, h1, TC.cl, TC.n1, rfl, p, _, rfl, .inr h2, rfl, ?_, ?_⟩
    · rw [List.all_map]
      exact List.all_eq_true.mpr fun x _ => rfl
    · rw [← op_notIn_nums] at k
      exact k
end
end K0
/-! showings of any value, the showing one deed later -/
namespace K0
open PySem PySem.Spec PyProof.Rows L2 Kx
/-- all items can be shown -/
def AllShow (rs es : List Int) (xs : List V) : Prop := ∀ j x, xs[j]? = some x → canShow (rs.getD j 0) (es.getD j 0) x = true
/-- item i is the first that can't be shown -/
def FirstWrong (rs es : List Int) (xs : List V) (i : Nat) : Prop := (∀ j x, j < i → xs[j]? = some x → canShow (rs.getD j 0) (es.getD j 0) x = true) ∧ ∃ x, xs[i]? = some x ∧ canShow (rs.getD i 0) (es.getD i 0) x = false
/-- what is asked of a value that is to be a showing -/
structure ShowArg (K : PySem.W.Frag) (a : Ad) (H : Hp) (E : XK) (rs es : List Int) (v : V) (o : Option (List V)) : Prop where
  long : Long K H v o
  kn : ∀ xs, o = some xs → xs.length = rs.length → ∀ x ∈ xs, Kn K H x
  far : (o = none ∨ ∃ xs, o = some xs ∧ xs.length ≠ rs.length) → Thrown E H a.cS "at" (.int (-1))
  near : ∀ xs i, o = some xs → xs.length = rs.length → FirstWrong rs es xs i → Thrown E H a.cS "at" (.int (i : Int))
def spCheck (K : PySem.W.Frag) (a : Ad) (C : Addr) : Sp := fun vs H Q E => ∃ c rs es v o, vs = [.ref c, v] ∧ CnAt K C H c rs es ∧ ShowArg K a H E rs es v o ∧
  ∀ xs, o = some xs → xs.length = rs.length → AllShow rs es xs → ∀ p H', Same H H' → SqT K H' p xs → Q (.ref p) H'
theorem canShow_int {r e : Int} {v : V} (h : canShow r e v = true) : ∃ n, v = .int n ∧ 0 ≤ n := by
  unfold canShow at h
  by_cases z : r = 0
  · rw [if_pos z] at h
    cases v with
    | int n => exact ⟨n, rfl, of_decide_eq_true h⟩
    | _ => cases h
  · rw [if_neg z] at h
    cases v with
    | int n =>
      have h : (decide (0 ≤ n) && decide (n < e + r)) = true := h
      rw [Bool.and_eq_true] at h
      exact ⟨n, rfl, of_decide_eq_true h.1⟩
    | _ => cases h
theorem all_ints : ∀ {xs : List V}, (∀ (j : Nat) (x : V), xs[j]? = some x → ∃ n, x = V.int n ∧ 0 ≤ n) → ∃ ns : List Int, xs = ns.map V.int ∧ ∀ n ∈ ns, 0 ≤ n
  | [], _ => ⟨[], rfl, fun _ h => nomatch h⟩
  | x :: xs, h => by
    obtain ⟨n, rfl, hn⟩ := h 0 x rfl
    obtain ⟨ns, rfl, hns⟩ := all_ints (xs := xs) fun j y hy => h (j + 1) y (by simpa using hy)
    exact ⟨n :: ns, rfl, fun m hm => (List.mem_cons.mp hm).elim (fun e => e ▸ hn) (hns m)⟩
section
variable {P : Program} {w : World} {K : PySem.W.Frag} {mg : Str → Option Value} {base : Heap} {f : Addr} {fd : FuncData} {a : Ad} {C CM : Addr}
theorem sc_can_show : FnScope ["counters", "kind", "value", "turn"] ["counters", "kind", "value"] (defScope s_can_show) := ⟨rfl, rfl, rfl, by decide +kernel, rfl, by decide +kernel, by decide +kernel⟩
theorem ok_can_show (F : FnP K "_can_show" s_can_show f fd) (T : Mg mg) (TC : ClsC K mg C) (c_is_number : Cal P w K mg base CX0 1 "is_number" ["value"] (spNumber K)) (c_is_below : Cal P w K mg base CX0 2 "is_below" ["value", "limit"] (spBelow K)) :
    FnOk P w K mg base CX0 3 f fd ["counters", "kind", "value"] (spCanShow K C) := by
  refine F.ok sc_can_show (fun vs H Q E h => ?_) (fun cdv A outer s H vs Q E hr h => ?_)
  · obtain ⟨c, rs, es, i, v, r, e, rfl, _⟩ := h
    rfl
  · obtain ⟨c, rs, es, i, v, r, e, rfl, ⟨ok, dx, p, q, h1, h2, h3⟩, hv, hr', he, k⟩ := h
    refine ⟨_, PSs.nox (pss_cons (ps_set (i := 3) sc_can_show.nd rfl (by first | exact Or.inl rfl | exact Or.inr rfl) (pe_ix ix_tup (pe_fld (pv 0) rfl) (pv 1) (fun _ _ => rfl)))
      (pss_cons (ps_if (pt_cmpR op_eq (pv 3) pe_int (nomark _))
        (pss_one (ps_ret (pe_callC c_is_number hr pass0 (pa_cons (pv 2) pa_nil))))
        pss_nil)
      (pss_one (ps_ret (pe_callC c_is_below hr pass0 (pa_cons (pv 2) (pa_cons (pe_op op_add (pe_ix ix_tup (pe_fld (pv 0) rfl) (pv 1) (fun _ _ => rfl)) (pv 3)) pa_nil))))))), ?_⟩
    have hr2 : (rs.map V.int)[i]? = some (.int r) := by rw [List.getElem?_map, hr']; rfl
    have he2 : (es.map V.int)[i]? = some (.int e) := by rw [List.getElem?_map, he]; rfl
    refine ⟨_, rfl, c, C, dx, _, _, rfl, h1, TC.cl, TC.n1, rfl, _, rfl, p, _, _, _, rfl, rfl, h2, atI_nat hr2, ?_⟩
    refine ⟨_, rfl, rfl, _, rfl, ?_⟩
    refine ite2 (fun h => ?_) (fun h => ?_)
    · have z : canShow r e v = isNum v := if_pos (by simpa using h)
      rw [z] at k
      exact ⟨v, rfl, v, rfl, hv, k⟩
    · have z : canShow r e v = isBel (e + r) v := if_neg (by simpa using h)
      rw [z] at k
      exact ⟨v, rfl, _, rfl, c, C, dx, _, _, rfl, h1, TC.cl, TC.n2, rfl, _, rfl, q, _, _, _, rfl, rfl, h3, atI_nat he2, _, rfl, _, _, rfl, rfl, v, _, rfl, hv, k⟩
theorem sc_check : FnScope ["counters", "value", "kinds", "kind", "item"] ["counters", "value"] (defScope s_check_showing) := ⟨rfl, rfl, rfl, by decide +kernel, rfl, by decide +kernel, by decide +kernel⟩
theorem ok_check (F : FnP K "check_showing" s_check_showing f fd) (T : Mg mg) (R : Er P w K mg base a) (TC : ClsC K mg C) (c_is_sequence : Cal P w K mg base CX0 1 "is_sequence" ["value", "least", "most"] (spSeq K))
    (c__can_show : Cal P w K mg base CX0 3 "_can_show" ["counters", "kind", "value"] (spCanShow K C)) : FnOk P w K mg base (L2N.CX P w) 4 f fd ["counters", "value"] (spCheck K a C) := by
  refine F.ok sc_check (fun vs H Q E h => ?_) (fun cdv A outer s H vs Q E hr h => ?_)
  · obtain ⟨c, rs, es, v, o, rfl, _⟩ := h
    rfl
  · obtain ⟨c, rs, es, v, o, rfl, hc, sa, good⟩ := h
    obtain ⟨ok, dx, p, q, h1, h2, h3⟩ := id hc
    refine ⟨_, (pss_cons (ps_set (i := 2) sc_check.nd rfl (by first | exact Or.inl rfl | exact Or.inr rfl) (pe_callB call_len_seq (by rfl) T.z_len PySem.boot_len (pa_cons (pe_fld (pv 0) rfl) pa_nil)))
      (pss_cons (ps_if (pt_not (pt_val (pe_callC c_is_sequence hr pass0 (pa_cons (pv 1) (pa_cons (pv 2) (pa_cons (pv 2) pa_nil))))))
        (pss_one (psN R.BadShowing rfl hr (L2N.takes_of rfl rfl rfl rfl) (pa_cons (pe_un un_neg pe_int) pa_nil)))
        pss_nil)
      (pss_cons (ps_for (passes_of rfl) rfl (pi_pairs (by rfl) T.z_enumerate (pa_cons (pv 1) pa_nil)) (pg_tup rfl (pgs_cons (pg_name (i := 3) sc_check.nd rfl (by first | exact Or.inl rfl | exact Or.inr rfl)) (pgs_cons (pg_name (i := 4) sc_check.nd rfl (by first | exact Or.inl rfl | exact Or.inr rfl)) pgs_nil)))
        (pss_one (ps_if (pt_not (pt_val (pe_callC c__can_show hr pass0 (pa_cons (pv 0) (pa_cons (pv 3) (pa_cons (pv 4) pa_nil))))))
          (pss_one (psN R.BadShowing rfl hr (L2N.takes_of rfl rfl rfl rfl) (pa_cons (pv 3) pa_nil)))
          pss_nil)))
      (pss_one (ps_ret (pe_callTy call_tup (by rfl) T.z_tuple (by decide +kernel) (pa_cons (pv 1) pa_nil))))))), ?_⟩
    refine ⟨_, rfl, c, C, dx, _, _, rfl, h1, TC.cl, TC.n1, rfl, p, _, rfl, .inr h2, ?_⟩
    rw [List.length_map]
    refine ⟨v, rfl, _, rfl, _, rfl, v, _, _, o, rfl, sa.long, fun H1 e1 => ⟨inLen rs.length rs.length o, rfl, ?_⟩⟩
    cases ei : inLen rs.length rs.length o with
    | false =>
      refine iteT ⟨1, rfl, thrownN ((sa.far ?_).same e1).at_⟩
      cases o with
      | none => exact .inl rfl
      | some xs =>
        rw [inLen_kk] at ei
        exact .inr ⟨xs, rfl, of_decide_eq_false ei⟩
    | true =>
      refine iteF ?_
      obtain ⟨long, kn, far, near⟩ := sa
      cases long with
      | seq hx =>
        rename_i b xs
        rw [inLen_kk] at ei
        have hl := of_decide_eq_true ei
        refine ⟨_, rfl, b, xs, rfl, for_pairs (hx.same e1) (fun i σ' H' => ∃ x y, σ' = [some (.ref c), some (.ref b), some (.int rs.length), x, y] ∧ Same H H' ∧ Same H1 H' ∧ ∀ j z, j < i → xs[j]? = some z → canShow (rs.getD j 0) (es.getD j 0) z = true) ⟨_, _, rfl, e1, Same.refl _, fun j z hj => absurd hj (Nat.not_lt_zero j)⟩ (fun i σ' H' q => q.elim fun _ q => q.elim fun _ q => q.2.2.1) ?_ ?_⟩
        · rintro i x t σ' H' hx' ⟨_, _, rfl, e, e', hs⟩ ht
          have hi : i < rs.length := by have := (List.getElem?_eq_some_iff.mp hx').1; omega
          obtain ⟨a1, a2, _⟩ := ok.at_ hi
          refine ⟨t, _, rfl, SqT.of upd_same, rfl, ?_⟩
          refine ⟨_, _, rfl, _, _, rfl, rfl, ?_⟩
          have e2 := e.trans (same_new (o := HO.tup [.int (i : Int), x]) ht)
          refine ⟨_, rfl, _, rfl, x, rfl, c, rs, es, i, x, _, _, rfl, hc.same e2, (kn xs rfl hl x (List.mem_of_getElem? hx')).same e2, a1, a2, _, rfl, ?_⟩
          cases eb : canShow (rs.getD i 0) (es.getD i 0) x with
          | false => exact iteT ⟨_, rfl, thrownN ((near xs i rfl hl ⟨hs, x, hx', eb⟩).same e2).at_⟩
          | true =>
            refine iteF ⟨_, _, rfl, e2, e'.trans (same_new ht), fun j z hj hz => ?_⟩
            rcases Nat.lt_or_eq_of_le (Nat.le_of_lt_succ hj) with h | rfl
            · exact hs j z h hz
            · rw [hx'] at hz
              cases hz
              exact eb
        · rintro σ' H' ⟨_, _, rfl, e, e', hs⟩
          exact ⟨_, rfl, b, xs, rfl, hx.same e, fun t H4 e4 ht => good xs rfl hl (fun j z hz => hs j z (List.getElem?_eq_some_iff.mp hz).1 hz) t H4 (e.trans e4) ht⟩
      | non => cases ei
      | bl _ => cases ei
      | int _ => cases ei
      | str _ => cases ei
end
end K0
/-! one deed later; how many showings -/
namespace K0
open PySem PySem.Spec PyProof.Rows L2 Kx RZ
def sizesOf (rs es : List Int) : List Int := List.zipWith (· + ·) rs es
def prodOf (xs : List Int) : Int := xs.foldl (· * ·) 1
def spSizes (K : PySem.W.Frag) (a : Ad) (C : Addr) : Sp := fun vs H Q E => ∃ c rs es, vs = [.ref c] ∧ CnAt K C H c rs es ∧ (0 ∈ rs → Thrown E H a.cF "at" (.ref c)) ∧
  (0 ∉ rs → ∀ p H', H p = none → Same H H' → H' p = some (.lst ((sizesOf rs es).map V.int)) → Q (.ref p) H')
def spMany (K : PySem.W.Frag) (a : Ad) (C : Addr) : Sp := fun vs H Q E => ∃ c rs es, vs = [.ref c] ∧ CnAt K C H c rs es ∧ (0 ∈ rs → Thrown E H a.cF "at" (.ref c)) ∧
  (0 ∉ rs → ∀ H', Same H H' → Q (.int (prodOf (sizesOf rs es))) H')
theorem ixN_here {n i : Nat} (h : i < n) : ixN n (i : Int) = some i := by
  unfold ixN
  rw [if_pos (by omega), if_pos (by omega), Int.toNat_natCast]
theorem isBel_some {l : Nat} {v : V} (h : isBel l v = true) : ∃ i : Nat, v = .int (i : Int) ∧ i < l := by
  cases v with
  | int j =>
    have h : (decide (0 ≤ j) && decide (j < l)) = true := h
    rw [Bool.and_eq_true, decide_eq_true_eq, decide_eq_true_eq] at h
    exact ⟨j.toNat, by rw [Int.toNat_of_nonneg h.1], by omega⟩
  | _ => cases h
section
variable {P : Program} {w : World} {K : PySem.W.Frag} {mg : Str → Option Value} {base : Heap} {f : Addr} {fd : FuncData} {a : Ad} {C CM : Addr}
theorem sizes_at {rs es : List Int} {i : Nat} {x y : Int} (hx : rs[i]? = some x) (hy : es[i]? = some y) : (sizesOf rs es)[i]? = some (x + y) := by
  unfold sizesOf
  rw [List.getElem?_zipWith, hx, hy]
theorem sizes_length {rs es : List Int} (h : Cok rs es) : (sizesOf rs es).length = rs.length := by
  unfold sizesOf
  rw [List.length_zipWith, h.le, Nat.min_self]
theorem sc_sizes : FnScope ["counters", "turn", "rest"] ["counters"] (defScope s_sizes) := ⟨rfl, rfl, rfl, by decide +kernel, rfl, by decide +kernel, by decide +kernel⟩
theorem ok_sizes (F : FnP K "_sizes" s_sizes f fd) (T : Mg mg) (R : Er P w K mg base a) (TC : ClsC K mg C) (c_is_finite : Cal P w K mg base CX0 1 "is_finite" ["counters"] (spFinite K C)) : FnOk P w K mg base (L2N.CX P w) 3 f fd ["counters"] (spSizes K a C) := by
  refine F.ok sc_sizes (fun vs H Q E h => ?_) (fun cdv A outer s H vs Q E hr h => ?_)
  · obtain ⟨c, rs, es, rfl, _⟩ := h
    rfl
  · obtain ⟨c, rs, es, rfl, hc, bad, good⟩ := h
    refine ⟨_, (pss_cons (ps_if (pt_not (pt_val (pe_callC c_is_finite hr pass0 (pa_cons (pv 0) pa_nil))))
        (pss_one (psN R.Refused rfl hr (L2N.takes_of rfl rfl rfl rfl) (pa_cons (pv 0) pa_nil)))
        pss_nil)
      (PSs.nox (pss_one (ps_ret (pe_lc (own := [("turn", 1), ("rest", 2)]) (g := gTup K 2 (gCons (gName 1) (gCons (gName 2) gNil))) (by rfl) sc_sizes.nd (pi_zipA (by rfl) T.z_zip (pa_cons (pe_fld (pv 0) rfl) (pa_cons (pe_fld (pv 0) rfl) pa_nil))) (blkOk_by (own := [("turn", 1), ("rest", 2)]) (N := ["counters", "turn", "rest"]) (sc := defScope s_sizes) (by decide +kernel))
        (fun _ _ _ _ _ => pg_tup rfl (pgs_cons (pg_name (i := 1) sc_sizes.nd rfl (by first | exact Or.inl rfl | exact Or.inr rfl)) (pgs_cons (pg_name (i := 2) sc_sizes.nd rfl (by first | exact Or.inl rfl | exact Or.inr rfl)) pgs_nil))) (fun _ _ _ _ _ => pts_nil) (fun _ _ _ _ _ => pe_op op_add (pv 1) (pv 2))))))), ?_⟩
    obtain ⟨ok, dx, p, q, h1, h2, h3⟩ := id hc
    refine ⟨_, rfl, c, rs, es, rfl, hc, _, rfl, ?_⟩
    by_cases h0 : 0 ∈ rs
    · rw [decide_eq_false (fun z => z h0)]
      exact iteT ⟨_, rfl, thrownN (bad h0).at_⟩
    · rw [decide_eq_true h0]
      refine iteF ?_
      refine ⟨_, rfl, c, C, dx, _, _, rfl, h1, TC.cl, TC.n1, rfl, _, rfl, c, C, dx, _, _, rfl, h1, TC.cl, TC.n2, rfl, p, q, _, _, rfl, .inr ⟨h2, h3, fun D hD => lc_by (n := rs.length) (Part H D ((sizesOf rs es).map V.int)) (Part.zero hD) ?_ ?_⟩⟩
      · intro i H2 hi pt
        obtain ⟨a1, a2, _⟩ := ok.at_ hi
        have b1 : (rs.map V.int)[i]? = some (.int (rs.getD i 0)) := by rw [List.getElem?_map, a1]; rfl
        have b2 : (es.map V.int)[i]? = some (.int (es.getD i 0)) := by rw [List.getElem?_map, a2]; rfl
        have q2 := sqT_same pt.2 h2
        have q3 := sqT_same pt.2 h3
        refine ⟨⟨_, _, _, _, q2, q3, b1, b2⟩, ?_⟩
        rintro v H3 ⟨t, x, y, rfl, ht, rfl, hx, hy⟩
        have ex := hx _ q2
        have ey := hy _ q3
        rw [b1] at ex
        rw [b2] at ey
        cases ex
        cases ey
        refine ⟨t, _, rfl, SqT.of upd_same, rfl, ?_⟩
        refine ⟨_, _, rfl, _, _, rfl, rfl, rfl, yes ((if_pos rfl).mpr ?_)⟩
        refine ⟨_, rfl, _, rfl, _, _, rfl, rfl, pt.step hD (same_new ht) ?_ ?_⟩
        · rw [List.getElem?_map, sizes_at a1 a2]
          rfl
        · have := ok.l4
          rw [List.length_map, sizes_length ok, sizeLine_eq]
          omega
      · intro H2 pt
        obtain ⟨hl, e2⟩ := pt.done (by rw [List.length_map, sizes_length ok]; exact Nat.le_refl _)
        refine ⟨⟨_, _, sqT_same e2 h2, sqT_same e2 h3, .inl (by rw [List.length_map]; exact Nat.le_refl _)⟩, good h0 D H2 hD e2 hl⟩
theorem prod_low : ∀ {xs : List Int} {z b : Int}, (∀ x ∈ xs, 1 ≤ x ∧ x ≤ 66) → 0 ≤ z → z ≤ b → 0 ≤ xs.foldl (· * ·) z ∧ xs.foldl (· * ·) z ≤ b * 66 ^ xs.length
  | [], z, b, _, h0, h1 => ⟨h0, by simpa using h1⟩
  | x :: xs, z, b, h, h0, h1 => by
    have hx := h x (List.mem_cons_self ..)
    have := prod_low (xs := xs) (z := z * x) (b := b * 66) (fun y hy => h y (List.mem_cons_of_mem _ hy)) (Int.mul_nonneg h0 (by omega)) (Int.mul_le_mul h1 hx.2 (by omega) (by omega))
    refine ⟨this.1, ?_⟩
    rw [List.length_cons, Int.pow_succ, Int.mul_comm (66 ^ xs.length) 66, ← Int.mul_assoc]
    exact this.2
theorem size_range {rs es : List Int} (ok : Cok rs es) (h0 : (0 : Int) ∉ rs) : ∀ x ∈ sizesOf rs es, 1 ≤ x ∧ x ≤ 66 := fun x hx => by
  obtain ⟨i, hi⟩ := List.getElem?_of_mem hx
  have lt := (List.getElem?_eq_some_iff.mp hi).1
  rw [sizes_length ok] at lt
  obtain ⟨a1, a2, b1, b2, b3, b4⟩ := ok.at_ lt
  rw [sizes_at a1 a2] at hi
  have ne : rs.getD i 0 ≠ 0 := fun z => h0 (by rw [z] at a1; exact List.mem_of_getElem? a1)
  cases hi
  omega
theorem sc_many : FnScope ["counters", "many", "size"] ["counters"] (defScope s_showings_many) := ⟨rfl, rfl, rfl, by decide +kernel, rfl, by decide +kernel, by decide +kernel⟩
theorem ok_many (F : FnP K "showings_many" s_showings_many f fd) (T : Mg mg) (c__sizes : Cal P w K mg base (L2N.CX P w) 3 "_sizes" ["counters"] (spSizes K a C)) : FnOk P w K mg base (L2N.CX P w) 4 f fd ["counters"] (spMany K a C) := by
  refine F.ok sc_many (fun vs H Q E h => ?_) (fun cdv A outer s H vs Q E hr h => ?_)
  · obtain ⟨c, rs, es, rfl, _⟩ := h
    rfl
  · obtain ⟨c, rs, es, rfl, hc, bad, good⟩ := h
    refine ⟨_, (pss_cons (ps_set (i := 1) sc_many.nd rfl (by first | exact Or.inl rfl | exact Or.inr rfl) pe_int)
      (pss_cons (ps_for (passes_of rfl) rfl (pi_list (pe_callC c__sizes hr (L2N.passes_call (L2N.takes_of rfl rfl rfl rfl) (fun _ _ _ _ z => z)) (pa_cons (pv 0) pa_nil))) (pg_name (i := 2) sc_many.nd rfl (by first | exact Or.inl rfl | exact Or.inr rfl))
        (pss_one (ps_set (i := 1) sc_many.nd rfl (by first | exact Or.inl rfl | exact Or.inr rfl) (pe_op op_mul (pv 1) (pv 2)))))
      (pss_one (ps_ret (pv 1))))), ?_⟩
    refine ⟨_, rfl, c, rs, es, rfl, hc, bad, fun h0 p H1 hp e1 hl => ?_⟩
    have l4 := hc.ok.l4
    refine ⟨p, rfl, ⟨_, SqL.of hl⟩, for_list (xs := (sizesOf rs es).map V.int) (fun i σ' H' => ∃ y, σ' = [some (.ref c), some (.int (((sizesOf rs es).take i).foldl (· * ·) 1)), y] ∧ H' = H1) ⟨_, rfl, rfl⟩ ?_ ?_ ?_⟩
    · rintro i σ' H' _ ⟨_, _, rfl⟩
      exact SqL.of hl
    · rintro i x σ' H' hx ⟨_, rfl, rfl⟩
      obtain ⟨n, hn, rfl⟩ : ∃ n, (sizesOf rs es)[i]? = some n ∧ x = .int n := by
        rw [List.getElem?_map, Option.map_eq_some_iff] at hx
        obtain ⟨n, h1, h2⟩ := hx
        exact ⟨n, h1, h2.symm⟩
      have hi := (List.getElem?_eq_some_iff.mp hn).1
      rw [sizes_length hc.ok] at hi
      have low := prod_low (xs := (sizesOf rs es).take i) (z := 1) (b := 1) (fun x hx => size_range hc.ok h0 x (List.mem_of_mem_take hx)) (by decide) (by decide)
      have cap : (66 : Int) ^ ((sizesOf rs es).take i).length ≤ 66 ^ 4 := by
        have e : ((sizesOf rs es).take i).length ≤ 4 := by rw [List.length_take]; omega
        have : ((66 : Nat) ^ ((sizesOf rs es).take i).length) ≤ 66 ^ 4 := Nat.pow_le_pow_right (by decide) e
        exact_mod_cast this
      have e : ((sizesOf rs es).take i).foldl (· * ·) 1 * n = ((sizesOf rs es).take (i + 1)).foldl (· * ·) 1 := by rw [List.take_add_one, hn, Option.toList_some, List.foldl_append] <;> rfl
      refine ⟨_, rfl, _, rfl, _, _, rfl, rfl, .inl ⟨by omega, by omega⟩, ?_⟩
      exact ⟨some (.int n), by rw [← e] <;> rfl, rfl⟩
    · rintro σ' H' ⟨_, rfl, rfl⟩
      rw [List.length_map, List.take_length]
      exact ⟨_, rfl, good h0 _ e1⟩
end
end K0
/-! all showings -/
namespace K0
open PySem PySem.Spec PyProof.Rows L2 Kx RZ
/-- rows stand as tuples -/
def Rows (K : PySem.W.Frag) (H : Hp) : List V → List (List Int) → Prop
  | [], [] => True
  | v :: vs, r :: rs => (∃ q, v = .ref q ∧ SqT K H q (r.map V.int)) ∧ Rows K H vs rs
  | _, _ => False
def oneMore (r : List Int) (n : Nat) : List (List Int) := (List.range n).map fun (i : Nat) => r ++ [(i : Int)]
def more (rows : List (List Int)) (n : Nat) : List (List Int) := rows.flatMap fun r => oneMore r n
def rowsOf (sizes : List Int) : List (List Int) := sizes.foldl (fun rows s => more rows s.toNat) [[]]
section
variable {K : PySem.W.Frag} {H H' : Hp} {D : Addr}
theorem Rows.mono (e : ∀ (q : Addr) (r : List Int), SqT K H q (r.map V.int) → SqT K H' q (r.map V.int)) : ∀ {vs : List V} {rs : List (List Int)}, Rows K H vs rs → Rows K H' vs rs
  | [], [], _ => trivial
  | v :: vs, r :: rs, ⟨⟨q, h1, h2⟩, h3⟩ => ⟨⟨q, h1, e q r h2⟩, Rows.mono e h3⟩
  | [], _ :: _, h => h.elim
  | _ :: _, [], h => h.elim
theorem Rows.same (e : Same H H') {vs : List V} {rs : List (List Int)} (h : Rows K H vs rs) : Rows K H' vs rs := Rows.mono (fun _ _ => sqT_same e) h
theorem Rows.lst {u u' : List V} (hD : H D = some (.lst u)) {vs : List V} {rs : List (List Int)} (h : Rows K H vs rs) : Rows K (upd H D (.lst u')) vs rs := Rows.mono (fun _ _ => sqT_lst hD) h
theorem Rows.length : ∀ {vs : List V} {rs : List (List Int)}, Rows K H vs rs → vs.length = rs.length
  | [], [], _ => rfl
  | _ :: _, _ :: _, ⟨_, h⟩ => congrArg Nat.succ (Rows.length h)
  | [], _ :: _, h => h.elim
  | _ :: _, [], h => h.elim
theorem Rows.snoc {v : V} {r : List Int} {q : Addr} (hv : v = .ref q) (hq : SqT K H q (r.map V.int)) : ∀ {vs : List V} {rs : List (List Int)}, Rows K H vs rs → Rows K H (vs ++ [v]) (rs ++ [r])
  | [], [], _ => ⟨⟨q, hv, hq⟩, trivial⟩
  | _ :: _, _ :: _, ⟨h1, h⟩ => ⟨h1, Rows.snoc hv hq h⟩
  | [], _ :: _, h => h.elim
  | _ :: _, [], h => h.elim
theorem Rows.get : ∀ {vs : List V} {rs : List (List Int)} {i : Nat} {v : V}, Rows K H vs rs → vs[i]? = some v → ∃ q r, v = .ref q ∧ rs[i]? = some r ∧ SqT K H q (r.map V.int)
  | [], [], _, _, _, e => nomatch e
  | _ :: _, r :: _, 0, _, ⟨⟨q, h1, h2⟩, _⟩, e => by
    cases e
    exact ⟨q, r, h1, rfl, h2⟩
  | _ :: _, _ :: _, i + 1, _, ⟨_, h⟩, e => by
    obtain ⟨q, r, h1, h2, h3⟩ := Rows.get (i := i) h (by simpa using e)
    exact ⟨q, r, h1, by simpa using h2, h3⟩
  | [], _ :: _, _, _, h, _ => h.elim
  | _ :: _, [], _, _, h, _ => h.elim
end
theorem oneMore_length {r : List Int} {n : Nat} : (oneMore r n).length = n := by unfold oneMore; rw [List.length_map, List.length_range]
theorem more_length : ∀ {rows : List (List Int)} {n : Nat}, (more rows n).length = rows.length * n
  | [], n => by simp [more]
  | r :: rows, n => by
    have := more_length (rows := rows) (n := n)
    unfold more at this ⊢
    rw [List.flatMap_cons, List.length_append, oneMore_length, this, List.length_cons, Nat.succ_mul, Nat.add_comm]
theorem prods_length : ∀ (sizes : List Int) (rows : List (List Int)) (z : Int), (∀ x ∈ sizes, 1 ≤ x) → (rows.length : Int) = z → ((sizes.foldl (fun rows s => more rows s.toNat) rows).length : Int) = sizes.foldl (· * ·) z
  | [], _, _, _, h => h
  | s :: sizes, rows, z, hs, h => by
    refine prods_length sizes _ _ (fun x hx => hs x (List.mem_cons_of_mem _ hx)) ?_
    have h1 := hs s (List.mem_cons_self ..)
    rw [more_length, Int.natCast_mul, h, Int.toNat_of_nonneg (by omega)]
theorem prods_grow : ∀ (sizes : List Int) (z : Int), (∀ x ∈ sizes, 1 ≤ x) → 0 ≤ z → z ≤ sizes.foldl (· * ·) z
  | [], z, _, _ => Int.le_refl z
  | s :: sizes, z, hs, h => by
    have h1 := hs s (List.mem_cons_self ..)
    have h2 : z * 1 ≤ z * s := Int.mul_le_mul_of_nonneg_left h1 h
    have h3 := prods_grow sizes (z * s) (fun x hx => hs x (List.mem_cons_of_mem _ hx)) (by omega)
    rw [List.foldl_cons]
    omega
theorem more_take {rows : List (List Int)} {n i : Nat} {r : List Int} (h : rows[i]? = some r) : more (rows.take (i + 1)) n = more (rows.take i) n ++ oneMore r n := by
  unfold more
  rw [List.take_add_one, h, Option.toList_some, List.flatMap_append, List.flatMap_cons, List.flatMap_nil, List.append_nil]
theorem oneMore_take {r : List Int} {n j : Nat} (h : j < n) : (oneMore r n).take (j + 1) = (oneMore r n).take j ++ [r ++ [(j : Int)]] := by
  unfold oneMore
  rw [List.take_add_one, List.getElem?_map, List.getElem?_range h] <;> rfl
theorem rows_len : ∀ (sizes : List Int) (rows : List (List Int)) (k : Nat), (∀ r ∈ rows, r.length = k) → ∀ r ∈ sizes.foldl (fun rows s => more rows s.toNat) rows, r.length = k + sizes.length
  | [], _, _, h => h
  | s :: sizes, rows, k, h => by
    have := rows_len sizes (more rows s.toNat) (k + 1) fun r hr => by
      obtain ⟨r', h1, h2⟩ := List.mem_flatMap.mp hr
      obtain ⟨i, _, rfl⟩ := List.mem_map.mp h2
      rw [List.length_append, h r' h1]
      rfl
    intro r hr
    rw [this r hr, List.length_cons]
    omega
def spAll (K : PySem.W.Frag) (a : Ad) (C : Addr) : Sp := fun vs H Q E => ∃ c rs es m, vs = [.ref c, .int m] ∧ CnAt K C H c rs es ∧ m ≤ 20000 ∧ (0 ∈ rs → Thrown E H a.cF "at" (.ref c)) ∧ (0 ∉ rs → m < prodOf (sizesOf rs es) → Thrown E H a.cG "most" (.int m)) ∧
  (0 ∉ rs → prodOf (sizesOf rs es) ≤ m → ∀ p H' vs, Same H H' → SqT K H' p vs → Rows K H' vs (rowsOf (sizesOf rs es)) → Q (.ref p) H')
section
variable {P : Program} {w : World} {K : PySem.W.Frag} {mg : Str → Option Value} {base : Heap} {f : Addr} {fd : FuncData} {a : Ad} {C CM : Addr}
theorem sc_all : FnScope ["counters", "most", "showings", "size", "showing", "item"] ["counters", "most"] (defScope s_all_showings) := ⟨rfl, rfl, rfl, by decide +kernel, rfl, by decide +kernel, by decide +kernel⟩
theorem ok_all (F : FnP K "all_showings" s_all_showings f fd) (T : Mg mg) (R : Er P w K mg base a) (c_showings_many : Cal P w K mg base (L2N.CX P w) 4 "showings_many" ["counters"] (spMany K a C)) (c__sizes : Cal P w K mg base (L2N.CX P w) 3 "_sizes" ["counters"] (spSizes K a C)) : FnOk P w K mg base (L2N.CX P w) 5 f fd ["counters", "most"] (spAll K a C) := by
  refine F.ok sc_all (fun vs H Q E h => ?_) (fun cdv A outer s H vs Q E hr h => ?_)
  · obtain ⟨c, rs, es, m, rfl, _⟩ := h
    rfl
  · obtain ⟨c, rs, es, m, rfl, hc, hm, bad1, bad2, good⟩ := h
    refine ⟨_, (pss_cons (ps_if (pt_cmpR op_gt (pe_callC c_showings_many hr (L2N.passes_call (L2N.takes_of rfl rfl rfl rfl) (fun _ _ _ _ z => z)) (pa_cons (pv 0) pa_nil)) (pv 1) (nomark _))
        (pss_one (psN R.TooGreat rfl hr (L2N.takes_of rfl rfl rfl rfl) (pa_cons (pv 1) pa_nil)))
        pss_nil)
      (pss_cons (ps_set (i := 2) sc_all.nd rfl (by first | exact Or.inl rfl | exact Or.inr rfl) (pe_lst (pa_cons (pe_tup pa_nil) pa_nil)))
      (pss_cons (ps_for (passes_of rfl) rfl (pi_list (pe_callC c__sizes hr (L2N.passes_call (L2N.takes_of rfl rfl rfl rfl) (fun _ _ _ _ z => z)) (pa_cons (pv 0) pa_nil))) (pg_name (i := 3) sc_all.nd rfl (by first | exact Or.inl rfl | exact Or.inr rfl))
        (PSs.nox (pss_one (ps_setLc2 (i := 2) (vs1 := [5]) (own := [("showing", 4), ("item", 5)]) (by rfl) sc_all.nd rfl rfl (sw_true rfl rfl rfl (by decide +kernel)) (pi_list (pv 2)) (blkOk_by (own := [("showing", 4), ("item", 5)]) (N := ["counters", "most", "showings", "size", "showing", "item"]) (sc := defScope s_all_showings) (by decide +kernel)) (by decide)
          (fun _ _ _ _ _ => pg_name (i := 4) sc_all.nd rfl (by first | exact Or.inl rfl | exact Or.inr rfl)) (fun _ _ _ _ _ => pts_nil)
          (fun _ _ _ _ _ => pi_range1 (by rfl) T.z_range (pa_cons (pv 3) pa_nil))
          (fun _ _ _ _ _ => pg_name (i := 5) sc_all.nd rfl (by first | exact Or.inl rfl | exact Or.inr rfl)) (fun _ _ _ _ _ => pts_nil)
          (fun _ _ _ _ _ => pe_op (op_catS (K := K)) (pv 4) (pe_tup (pa_cons (pv 5) pa_nil)))))))
      (pss_one (ps_ret (pe_callTy call_tup (by rfl) T.z_tuple (by decide +kernel) (pa_cons (pv 2) pa_nil))))))), ?_⟩
    refine ⟨_, rfl, c, rs, es, rfl, hc, bad1, fun h0 H1 e1 => ?_⟩
    generalize hz : sizesOf rs es = sizes at *
    have rng : ∀ x ∈ sizes, 1 ≤ x ∧ x ≤ 66 := by rw [← hz]; exact size_range hc.ok h0
    refine ⟨_, rfl, _, _, rfl, rfl, _, rfl, ?_⟩
    refine ite2 (fun hgt => ?_) (fun hgt => ?_)
    · exact ⟨_, rfl, thrownN ((bad2 h0 (by simpa using hgt)).same e1).at_⟩
    · have le : prodOf sizes ≤ m := by simpa using hgt
      refine ⟨Nat.zero_le _, fun t ht => ⟨(by show 1 ≤ sizeLine; decide), fun l hl => ?_⟩⟩
      have e2 : Same H1 (upd (upd H1 t (.tup [])) l (.lst [.ref t])) := (same_new ht).trans (same_new hl)
      have rows0 : Rows K (upd (upd H1 t (.tup [])) l (.lst [.ref t])) [.ref t] [[]] := ⟨⟨t, rfl, sqT_same (same_new hl) (SqT.of upd_same)⟩, trivial⟩
      have hl2 : upd (upd H1 t (.tup [])) l (.lst [.ref t]) l = some (.lst [.ref t]) := upd_same
      generalize upd (upd H1 t (.tup [])) l (.lst [.ref t]) = H2 at e2 rows0 hl2 ⊢
      have e12 := e1.trans e2
      refine ⟨_, rfl, c, rs, es, rfl, hc.same e12, fun z => absurd z h0, fun _ p H3 hp e3 hpl => ?_⟩
      rw [hz] at hpl
      refine ⟨p, rfl, ⟨_, SqL.of hpl⟩, for_list (xs := sizes.map V.int) (fun i σ' H' => ∃ s y vs, σ' = [some (.ref c), some (.int m), some (.ref s), y, none, none] ∧ Same H3 H' ∧ H' s = some (.lst vs) ∧ Rows K H' vs (rowsOf (sizes.take i))) ⟨l, none, _, rfl, Same.refl _, e3 _ _ hl2, rows0.same e3⟩ ?_ ?_ ?_⟩
      · rintro i σ' H' _ ⟨_, _, _, _, e4, _⟩
        exact SqL.of (e4 _ _ hpl)
      · rintro i x σ' H' hx ⟨sa, y, vs, rfl, e4, hs, hrows⟩
        obtain ⟨n, hn, rfl⟩ : ∃ n, sizes[i]? = some n ∧ x = .int n := by
          rw [List.getElem?_map, Option.map_eq_some_iff] at hx
          obtain ⟨n, h1, h2⟩ := hx
          exact ⟨n, h1, h2.symm⟩
        have hn1 := rng n (List.mem_of_getElem? hn)
        generalize hrw : rowsOf (sizes.take i) = rows at hrows
        have next : rowsOf (sizes.take (i + 1)) = more rows n.toNat := by
          unfold rowsOf at hrw ⊢
          rw [List.take_add_one, hn, Option.toList_some, List.foldl_append, hrw] <;> rfl
        have few : rows.length * n.toNat ≤ 20000 := by
          have a1 := prods_length (sizes.take (i + 1)) [[]] 1 (fun x hx => (rng x (List.mem_of_mem_take hx)).1) rfl
          have a2 := prods_grow (sizes.drop (i + 1)) ((sizes.take (i + 1)).foldl (· * ·) 1) (fun x hx => (rng x (List.mem_of_mem_drop hx)).1) (by rw [← a1]; omega)
          rw [← List.foldl_append, List.take_append_drop] at a2
          have a3 : ((rowsOf (sizes.take (i + 1))).length : Int) = (sizes.take (i + 1)).foldl (· * ·) 1 := a1
          rw [next, more_length] at a3
          have : prodOf sizes = sizes.foldl (· * ·) 1 := rfl
          omega
        refine ⟨_, rfl, sa, rfl, ⟨_, SqL.of hs⟩, fun D hD => ?_⟩
        refine turns (n := vs.length) (fun i' H5 => ∃ acc, H5 D = some (.lst acc) ∧ Same H' H5 ∧ Rows K H5 acc (more (rows.take i') n.toNat)) ⟨[], upd_same, same_new hD, trivial⟩ ?_ ?_
        · rintro i' H5 hi' ⟨acc, hD5, e5, hacc⟩
          have hs5 := e5 _ _ hs
          refine ⟨⟨vs, vs[i'], SqL.of hs5, List.getElem?_eq_getElem hi'⟩, ?_⟩
          rintro x H6 ⟨rfl, hx6⟩
          obtain ⟨q, r, rfl, hr6, hq⟩ := hrows.get (hx6 vs (SqL.of hs5))
          refine ⟨rfl, yes ((if_pos rfl).mpr ?_)⟩
          have lv := hrows.length
          have lr : r.length = i := by
            have z := rows_len (sizes.take i) [[]] 0 (fun r hr => by rw [List.mem_singleton.mp hr]; rfl) r (by have := List.mem_of_getElem? hr6; rw [← hrw] at this; exact this)
            have := (List.getElem?_eq_some_iff.mp hn).1
            rw [List.length_take] at z
            omega
          have li : i < 5 := by
            have := (List.getElem?_eq_some_iff.mp hn).1
            have := hc.ok.l4
            rw [← hz, sizes_length hc.ok] at *
            omega
          refine ⟨_, rfl, n, rfl, by omega, by omega, ?_⟩
          refine turns (n := n.toNat) (fun j H7 => ∃ acc, H7 D = some (.lst acc) ∧ Same H' H7 ∧ Rows K H7 acc (more (rows.take i') n.toNat ++ (oneMore r n.toNat).take j)) ⟨acc, hD5, e5, by rw [List.take_zero, List.append_nil]; exact hacc⟩ ?_ ?_
          · rintro j H7 hj ⟨acc, hD7, e7, hacc⟩
            refine ⟨hj, ?_⟩
            rintro x H8 ⟨rfl, rfl⟩
            refine ⟨rfl, yes ((if_pos rfl).mpr ?_)⟩
            refine ⟨_, rfl, _, rfl, (by show 1 ≤ sizeLine; decide), fun t ht => ?_⟩
            have et := same_new (o := HO.tup [.int (0 + (j : Int))]) ht
            refine ⟨q, t, r.map V.int, _, rfl, rfl, sqT_same (e7.trans et) hq, SqT.of upd_same, ?_, fun p H9 e9 hp9 => ?_⟩
            · rw [List.length_map, sizeLine_eq]
              simp only [List.length_nil, List.length_cons]
              omega
            · have e79 := et.trans e9
              have la := hacc.length
              rw [List.length_append, more_length, List.length_take, List.length_take, oneMore_length] at la
              refine ⟨acc, e79 _ _ hD7, ?_, acc ++ [.ref p], upd_same, ?_, ?_⟩
              · have : (min i' rows.length + 1) * n.toNat ≤ rows.length * n.toNat := Nat.mul_le_mul_right _ (by omega)
                rw [Nat.add_mul] at this
                rw [sizeLine_eq]
                omega
              · intro b o hb
                rw [upd_ne (ne_of_none hb hD)]
                exact e79 _ _ (e7 _ _ hb)
              · rw [oneMore_take hj, ← List.append_assoc]
                refine Rows.lst (e79 _ _ hD7) (Rows.snoc rfl ?_ (hacc.same e79))
                rw [Int.zero_add] at hp9
                rw [List.map_append]
                exact hp9
          · rintro H7 ⟨acc, hD7, e7, hacc⟩
            refine ⟨Nat.le_refl _, acc, hD7, e7, ?_⟩
            have whole : (oneMore r n.toNat).take n.toNat = oneMore r n.toNat := List.take_of_length_le (by rw [oneMore_length]; exact Nat.le_refl _)
            rw [whole] at hacc
            rw [more_take hr6]
            exact hacc
        · rintro H5 ⟨acc, hD5, e5, hacc⟩
          have lv := hrows.length
          rw [lv, List.take_length] at hacc
          refine ⟨⟨vs, SqL.of (e5 _ _ hs), Nat.le_refl _⟩, D, _, acc, rfl, e4.trans e5, hD5, ?_⟩
          rw [next]
          exact hacc
      · rintro σ' H' ⟨sa, y, vs, rfl, e4, hs, hrows⟩
        rw [List.length_map, List.take_length] at hrows
        refine ⟨_, rfl, sa, vs, rfl, .inl (SqL.of hs), fun p2 H9 e9 hp9 => ?_⟩
        exact good h0 le p2 H9 vs ((e12.trans e3).trans (e4.trans e9)) hp9 (hrows.same e9)
end
end K0
/-! what the law asks: bundles, rules -/
namespace K0
open L2 PySem PySem.Spec PyProof.Rows Kx RZ
/-- a def's body, its code object known -/
theorem okC {P : Program} {w : World} {K : PySem.W.Frag} {mg : Str → Option Value} {base : Heap} {x qual : Str} {params : Arguments} {body : List Stmt} {scope : Scope} {dvs : List V} {kws : List (Str × V)} {f c : Addr} {fd : FuncData} {CX : CXT} {N ps : List Str} {k : Nat} {sp : Sp}
    (F : FunD K x qual params body scope dvs kws f fd) (hc : fd.code = .ref c) (S : FnScope N ps scope) (len : ∀ vs H Q E, sp vs H Q E → vs.length = ps.length)
    (hbody : ∀ (A : Around) (outer : List Env) (s : Shared) (H : Hp) (vs : List V) (Q : VK) (E : XK), Room k (A.deeper (envOfC qual scope s.heap.objs.size f (.ref c))) → sp vs H Q E →
      ∃ t, PSs (cxOf CX P w K mg base N qual scope f (.ref c) A outer s H E) body t ∧ t { nx := fun _ H' => Q .non H', rt := Q } (start N vs) H) : FnOk P w K mg base CX (k + 1) f fd ps sp := by
  obtain ⟨oc, od, dV, kV, doc, pm, an, cdv, ct, osl, rfl, lk, hcd, -, -⟩ := F.ex
  have hc : cdv = .ref c := hc
  subst hc
  exact fn_of lk hcd S len hbody
/-- only tables moved, things were made -/
structure Wt (Ts : List (Addr × Str)) (H H' : Hp) : Prop where
  ext : LamX.ExtN H H'
  tabs : LamX.Tabs Ts H'
section
variable {Ts : List (Addr × Str)} {H H' H2 : Hp}
theorem Wt.refl (t : LamX.Tabs Ts H) : Wt Ts H H := ⟨LamX.ExtN.refl H, t⟩
theorem Wt.same (g : Wt Ts H H') (e : Same H' H2) : Wt Ts H H2 := ⟨g.ext.trans (ext_of e), g.tabs.ext e⟩
theorem Wt.ext2 (g : Wt Ts H H') (e : LamX.ExtN H' H2) (t : LamX.Tabs Ts H2) : Wt Ts H H2 := ⟨g.ext.trans e, t⟩
theorem Wt.trans (g : Wt Ts H H') (k : Wt Ts H' H2) : Wt Ts H H2 := ⟨g.ext.trans k.ext, k.tabs⟩
theorem Wt.fresh {a : Addr} (g : Wt Ts H H') (h : H' a = none) : ∀ o, H a = some o → (∀ ps, o ≠ .tbl ps) → False := fun o e n => by
  rw [g.ext _ _ e n] at h
  cases h
theorem Wt.put {a : Addr} {us us' : List V} (g : Wt Ts H H') (n : ∀ o, H a = some o → (∀ ps, o ≠ .tbl ps) → False) (h : H' a = some (.lst us)) : Wt Ts H (upd H' a (.lst us')) := by
  refine ⟨fun b o e n2 => ?_, fun p hp => ?_⟩
  · have ne : b ≠ a := fun z => n o (z ▸ e) n2
    rw [upd_ne ne]
    exact g.ext b o e n2
  · obtain ⟨ps, h1, h2, h3⟩ := g.tabs p hp
    refine ⟨ps, by rw [upd_ne (ne_of h1 h (fun z => nomatch z))]; exact h1, h2, fun pos cv hcv => ?_⟩
    obtain ⟨c, e1, e2⟩ := h3 pos cv hcv
    have nl : LamX.CodeO c p.2 ≠ .lst us := fun z => by
      unfold LamX.CodeO at z
      cases z
    exact ⟨c, e1, by rw [upd_ne (ne_of e2 h nl)]; exact e2⟩
end
/-- a lambda stands at f -/
def LamAtH (X : Cx) (params : Arguments) (body : Expr) (scope : Scope) (H : Hp) (f : Addr) : Prop := ∃ (c' : Addr) (pm ctv : Value), H f = some (LamO f (lamOb X params body scope pm c' ctv)) ∧ H c' = some (LamX.CodeO c' (X.env.qual ++ "<lambda>"))
theorem LamAtH.ext {X : Cx} {params : Arguments} {body : Expr} {scope : Scope} {H H' : Hp} {f : Addr} (h : LamAtH X params body scope H f) (e : LamX.ExtN H H') : LamAtH X params body scope H' f := by
  obtain ⟨c', pm, ctv, h1, h2⟩ := h
  exact ⟨c', pm, ctv, e _ _ h1 (fun _ z => nomatch z), e _ _ h2 LamX.codeO_ne⟩
theorem LamAtH.put {X : Cx} {params : Arguments} {body : Expr} {scope : Scope} {H : Hp} {f a : Addr} {us us' : List V} (h : LamAtH X params body scope H f) (k : H a = some (.lst us)) : LamAtH X params body scope (upd H a (.lst us')) f := by
  obtain ⟨c', pm, ctv, h1, h2⟩ := h
  have nl : LamX.CodeO c' (X.env.qual ++ "<lambda>") ≠ .lst us := fun z => by
    unfold LamX.CodeO at z
    cases z
  exact ⟨c', pm, ctv, by rw [upd_ne (ne_of h1 k (fun z => nomatch z))]; exact h1, by rw [upd_ne (ne_of h2 k nl)]; exact h2⟩
@[irreducible] def tLamI (X : Cx) (T : List (Addr × Str)) (params : Arguments) (body : Expr) (scope : Scope) : TE := tLamV X T params body scope
theorem tLamI_eq {X : Cx} {T : List (Addr × Str)} {params : Arguments} {body : Expr} {scope : Scope} : tLamI X T params body scope = tLamV X T params body scope := by
  unfold tLamI
  rfl
theorem lam_use {X : Cx} {T : List (Addr × Str)} {params : Arguments} {body : Expr} {scope : Scope} {σ : L2.St} {H : Hp} {Q : VK} (h : LamX.Tabs T H ∧ ∀ (f : Addr) (H2 : Hp), Wt T H H2 → LamAtH X params body scope H2 f → Q (.ref f) H2) : tLamI X T params body scope σ H Q := by
  rw [tLamI_eq]
  refine ⟨h.1, fun f c' pm ctv H1 e t n n1 co => h.2 f _ ((⟨e, t⟩ : Wt T H H1).same (same_new n1)) ⟨c', pm, ctv, upd_same, ?_⟩⟩
  rw [upd_ne (ne_of_none co n1)]
  exact co
/-- asks[number](): the lambda there is run -/
theorem go_use {X : Cx} {p : Arguments} {b : Expr} {s : Scope} {tb : TE} {σ : L2.St} {H : Hp} {Q : VK} {f : Addr} (h : LamAtH X p b s H f) (q : tb σ H Q) : ∃ (_ : Unit) (g c' : Addr) (pm ctv : Value), V.ref f = .ref g ∧ H g = some (LamO g (lamOb X p b s pm c' ctv)) ∧ H c' = some (LamX.CodeO c' (X.env.qual ++ "<lambda>")) ∧ tb σ H Q := by
  obtain ⟨c', pm, ctv, h1, h2⟩ := h
  exact ⟨(), f, c', pm, ctv, rfl, h1, h2, q⟩
theorem ext_mc {K : PySem.W.Frag} {C c : Addr} {H H' : Hp} {n : Nat} {ts : List (List Int)} (e : LamX.ExtN H H') (h : McAt K C H c n ts) : McAt K C H' c n ts := by
  obtain ⟨ok, dx, p, ps, h1, h2, h3⟩ := h
  exact ⟨ok, dx, p, ps, e _ _ h1 (fun _ z => nomatch z), ext_sqT e h2, h3.imp fun _ _ q => ext_sqT e q⟩
theorem mc_put {K : PySem.W.Frag} {C c A : Addr} {H : Hp} {n : Nat} {ts : List (List Int)} {us us' : List V} (h : McAt K C H c n ts) (k : H A = some (.lst us)) : McAt K C (upd H A (.lst us')) c n ts := by
  obtain ⟨ok, dx, p, ps, h1, h2, h3⟩ := h
  exact ⟨ok, dx, p, ps, by rw [upd_ne (ne_of h1 k (fun z => nomatch z))]; exact h1, sqT_lst k h2, h3.imp fun _ _ q => sqT_lst k q⟩
def kwA : List V → List V → List V := fun vs zs => vs ++ [zs.getD 0 .non]
/-- the program's functions -/
structure Fns (P : Program) (w : World) (K : PySem.W.Frag) (mg : Str → Option Value) (base : Heap) (a : Ad) (C CM : Addr) : Prop where
  row : Cal P w K mg base (L2N.CX P w) 5 "check_row" ["machine", "value"] (spRow K a CM)
  shw : Cal P w K mg base (L2N.CX P w) 4 "check_showing" ["counters", "value"] (spCheck K a C)
  rrow : Cal P w K mg base (L2N.CX P w) 5 "read_row" ["machine", "text"] (spReadRow K a CM)
  all : CalN P w K mg base (L2N.CX P w) 5 1 "all_showings" ["counters", "most"] ["most"] kwA (spAll K a C)
  exch : Cal P w K mg base (L2N.CX P w) 8 "need_exchanges" ["machine", "first"] (spExch K a CM)
  deed : Cal P w K mg base (L2N.CX P w) 3 "need_deed" ["machine", "deed"] (spDeed K a CM)
  state : Cal P w K mg base (L2N.CX P w) 3 "need_state" ["machine", "state"] (spState K a CM)
/-- how the classes are made -/
structure Mks (P : Program) (w : World) (K : PySem.W.Frag) (mg : Str → Option Value) (base : Heap) (a : Ad) (C CM t0 : Addr) : Prop where
  cnt : ∃ (f : Addr) (fd : FuncData), Mk K C f ∧ FnOk P w K mg base (L2N.CX P w) 5 f fd ["self", "rounds", "rests"] (spInit K a C) ∧ Binds K fd ["self", "rounds", "rests"] [.ref t0]
  mac : ∃ (f : Addr) (fd : FuncData), Mk K CM f ∧ FnOk P w K mg base (L2N.CX P w) 5 f fd ["self", "tables"] (spMachine K a CM) ∧ Binds K fd ["self", "tables"] []
  nil : ∀ H, SqT K H t0 []
section
variable {X : Cx} {a : Ad} {C CM t0 : Addr} {E : XK} {p pos : Pos} {e : Expr} {t : TA} {n : Nat}
theorem pe_mac (M : Mks X.prog X.w X.K X.mg X.base a C CM t0) (TM : ClsM X.K X.mg CM) (hr : Room n X.A) (hx : Passes (L2N.CX X.prog X.w) X E) (ha : PA X [e] t) (hn : 6 ≤ n := by decide) (hg : Gl X "Machine" := by rfl)
    (he : starEach [e] X.env = (false, eval e X.env) :: starEach [] X.env := by rfl) (hp : (backTo pos (starEach [] X.env)).any (·.1) = false := by rfl) {K : PySem.W.Frag} (hK : X.K = K := by rfl) : PE X (.Call (.Name "Machine" p) [e] [] pos) (tMake CM (spMachine K a CM) [] E t) := by
  subst hK
  obtain ⟨f, fd, h1, h2, h3⟩ := M.mac
  exact pe_make h1 h2 (hr.mono hn) hg TM.at_ h3 .nil hx ha (by decide) he hp
theorem pe_cnt1 (M : Mks X.prog X.w X.K X.mg X.base a C CM t0) (TC : ClsC X.K X.mg C) (hr : Room n X.A) (hx : Passes (L2N.CX X.prog X.w) X E) (ha : PA X [e] t) (hn : 6 ≤ n := by decide) (hg : Gl X "Counters" := by rfl)
    (he : starEach [e] X.env = (false, eval e X.env) :: starEach [] X.env := by rfl) (hp : (backTo pos (starEach [] X.env)).any (·.1) = false := by rfl) {K : PySem.W.Frag} (hK : X.K = K := by rfl) : PE X (.Call (.Name "Counters" p) [e] [] pos) (tMake C (spInit K a C) [.ref t0] E t) := by
  subst hK
  obtain ⟨f, fd, h1, h2, h3⟩ := M.cnt
  exact pe_make h1 h2 (hr.mono hn) hg TC.at_ h3 (.cons rfl .nil) hx ha (by decide) he hp
end
/-- nothing is raised here -/
theorem pzN {X : Cx} : Passes (L2N.CX X.prog X.w) X fun _ _ _ => False := L2N.passes_call (fun _ _ ⟨_, _, _, _, _, _, _, _, _, _, _, _, _, _, _, _, z⟩ => z.elim) fun _ _ _ _ z => z
/-- what a lambda lets out is taken -/
theorem passLN {X : Cx} {A : Around} {outer : List Env} {s : Shared} {H : Hp} {E : XK} {scope : Scope} {f c' : Addr} : Passes (L2N.CX (lamCxN X A outer s H E scope f c').prog (lamCxN X A outer s H E scope f c').w) (lamCxN X A outer s H E scope f c') E :=
  L2N.passes_call (L2N.takes_of (E := E) rfl rfl rfl rfl) (fun _ _ _ _ z => z)
/-! a machine, counters are made -/
theorem kns_ints {K : PySem.W.Frag} {H : Hp} {ns : List Int} {m : Nat} : Kns K H (some (ns.map V.int)) m := fun xs q _ x hx => by
  cases q
  obtain ⟨n, _, rfl⟩ := List.mem_map.mp hx
  exact .int n
theorem items_of {K : PySem.W.Frag} {H : Hp} : ∀ {vs : List V} {ts : List (List Int)}, RowsBy (Sq K H) vs ts → Items K H vs (ts.map fun t => some (t.map V.int))
  | [], [], _ => trivial
  | _ :: _, _ :: _, ⟨⟨q, h1, h2⟩, h⟩ => ⟨⟨by rw [h1]; exact .seq h2, kns_ints⟩, items_of h⟩
  | [], _ :: _, h => h.elim
  | _ :: _, [], h => h.elim
theorem isTab_of {n : Nat} {t : List Int} (n1 : 1 ≤ n) (n8 : n ≤ 8) (l : t.length = n) (b : ∀ x ∈ t, 0 ≤ x ∧ x < (n : Int)) : isTab n (some (t.map V.int)) = true := by
  rw [isTab_some, inLen_some, List.length_map, l, fnb_of b, decide_eq_true (by omega), decide_eq_true (by omega)]
  simp
theorem new_ins {C x dx : Addr} {H : Hp} (hx : H x = none) (hd : H dx = none) (ne : dx ≠ x) : Same H (upd (upd H dx (.own x)) x (.ins C dx [])) := (same_new hd).trans (same_new (by rw [upd_ne (Ne.symm ne)]; exact hx))
theorem mc_make {K : PySem.W.Frag} {a : Ad} {CM x dx b : Addr} {H : Hp} {xs : List V} {n : Nat} {ts : List (List Int)} {E : XK} {Q : Hp → Prop} (ok : Mok n ts) (hb : Sq K H b xs) (rows : RowsBy (Sq K H) xs ts) (hx : H x = none) (hd : H dx = none) (ne : dx ≠ x)
    (q : ∀ H', Same H H' → McAt K CM H' x n ts → Q H') : spMachine K a CM [.ref x, .ref b] (upd (upd H dx (.own x)) x (.ins CM dx [])) (fun v H2 => v = .non ∧ Q H2) E := by
  have e := new_ins (C := CM) hx hd ne
  have len := rows.length
  have l1 := ok.l1
  have l4 := ok.l4
  have it := items_of (rows.imp fun _ _ z => z.same e)
  have l0 : lenAt (ts.map fun t => some (t.map V.int)) = n := by
    obtain ⟨t0, ht0⟩ : ∃ t0, ts[0]? = some t0 := ⟨ts[0], List.getElem?_eq_getElem (by omega)⟩
    unfold lenAt
    rw [List.getElem?_map, ht0]
    show (t0.map V.int).length = n
    rw [List.length_map]
    exact ok.len _ (List.mem_of_getElem? ht0)
  have nb : badTab n (ts.map fun t => some (t.map V.int)) = none := badTab_none.mpr fun o ho => by
    obtain ⟨t, ht, rfl⟩ := List.mem_map.mp ho
    exact isTab_of ok.n1 ok.n8 (ok.len t ht) (ok.ent t ht)
  refine ⟨x, dx, .ref b, some xs, rfl, upd_same, .seq (hb.same e), fun z => ?_, fun ys ey _ => ?_⟩
  · rw [inLen_some, decide_eq_true (by omega), decide_eq_true (by omega)] at z
    cases z
  · cases ey
    refine ⟨_, it, fun i z => ?_, fun _ n' ts' ok' eo H' keep mc => ?_⟩
    · rw [l0, nb] at z
      cases z
    · have et := ints_map eo
      subst et
      have en : n' = n := by
        obtain ⟨t0, ht0⟩ : ∃ t0, ts[0]? = some t0 := ⟨ts[0], List.getElem?_eq_getElem (by omega)⟩
        rw [← ok.len _ (List.mem_of_getElem? ht0), ok'.len _ (List.mem_of_getElem? ht0)]
      subst en
      exact ⟨rfl, q H' (fun c o hc => keep c o (ne_of_none hc hx) (e _ _ hc)) mc⟩
theorem cn_make {K : PySem.W.Frag} {a : Ad} {C x dx b t0 : Addr} {H : Hp} {rs : List Int} {E : XK} {Q : Hp → Prop} (ok : Cok rs (List.replicate rs.length 0)) (hb : Sq K H b (rs.map V.int)) (nil : ∀ H, SqT K H t0 []) (hx : H x = none) (hd : H dx = none) (ne : dx ≠ x)
    (q : ∀ H', Same H H' → CnAt K C H' x rs (List.replicate rs.length 0) → Q H') : spInit K a C [.ref x, .ref b, .ref t0] (upd (upd H dx (.own x)) x (.ins C dx [])) (fun v H2 => v = .non ∧ Q H2) E := by
  have e := new_ins (C := C) hx hd ne
  have l1 := ok.l1
  have l4 := ok.l4
  have r1 : roundsOk (some (rs.map V.int)) = true := by
    rw [roundsOk_some, inLen_some, List.length_map, fnb_of (l := 61) (fun n hn => ⟨(ok.r n hn).1, by have := (ok.r n hn).2; omega⟩), decide_eq_true (by omega), decide_eq_true (by omega)]
    rfl
  refine ⟨x, dx, .ref b, .ref t0, some (rs.map V.int), some [], rfl, upd_same, .seq (hb.same e), kns_ints, .seq (.inr (nil _)), fun xs q _ x hx => ?_, fun z => ?_, fun xs ex _ z => ?_, fun rs' es ok' e1 e2 H' keep cn => ?_⟩
  · cases q
    cases hx
  · rw [r1] at z
    cases z
  · rw [restsOk_some] at z
    cases z
  · have er : rs = rs' := by
      have h := congrArg (List.map fun v => match v with | V.int i => i | _ => 0) (Option.some.inj e1)
      simpa [Function.comp_def] using h
    subst er
    have ee : es = List.replicate rs.length 0 := by
      rcases e2 with ⟨_, h⟩ | h
      · exact h
      · have hl := congrArg List.length (Option.some.inj h)
        have := ok'.le
        rw [List.length_map] at hl
        simp only [List.length_nil] at hl
        omega
    subst ee
    exact ⟨rfl, q H' (fun c o hc => keep c o (ne_of_none hc hx) (e _ _ hc)) cn⟩
/-! "0 " * k + "2" -/
def zz : Nat → Str
  | 1 => "0 "
  | 2 => "0 0 "
  | _ => "0 0 0 "
theorem op_zz {X : Cx} : OpR X (binaryOp .Mult) (fun x y H Q => ∃ k : Nat, x = .str "0 " ∧ y = .int (k : Int) ∧ (k = 1 ∨ k = 2 ∨ k = 3) ∧ Q (.str (zz k)) H) := by
  intro pins st σ H x y v u Q I rx ry ⟨k, ex, ey, all, q⟩
  subst ex ey
  obtain ⟨t, rfl⟩ := (show ∃ t, v = Value.str "0 " t from rx)
  obtain ⟨t2, rfl⟩ := (show ∃ t, u = Value.int (k : Int) t from ry)
  have fin : ∀ (z : Str) (tk tk2 : Nat), z = zz k → EP X pins σ Q (.str z tk) { st with toks := tk2 } := fun z tk tk2 e => by
    subst e
    exact ⟨.str (zz k), H, I.kept (t' := tk2) fun _ _ z => z, ⟨tk, rfl⟩, q⟩
  refine P.mul_str ?_ ?_ ?_ ?_
  · rcases all with rfl | rfl | rfl <;> decide +kernel
  · rcases all with rfl | rfl | rfl <;> decide +kernel
  · rcases all with rfl | rfl | rfl <;> decide +kernel
  · rcases all with rfl | rfl | rfl
    · rw [if_neg (by decide), if_pos (by decide +kernel)]
      exact ⟨.str (zz 1), H, I, ⟨t, rfl⟩, q⟩
    · rw [if_neg (by decide), if_neg (by decide +kernel)]
      exact ⟨by decide +kernel, fin _ _ _ (by decide +kernel)⟩
    · rw [if_neg (by decide), if_neg (by decide +kernel)]
      exact ⟨by decide +kernel, fin _ _ _ (by decide +kernel)⟩
end K0
/-! the nine questions -/
namespace K0
open L2 PySem PySem.Spec PyProof.Rows Kx RZ
def lamAt (i : Nat) : Option (Arguments × Expr × Scope) := match (defBody s_law_ask).getD (i + 1) (.Pass ⟨0, 0, 0, 0⟩) with
  | .Assign _ (.List [.Lambda p b s _] _) _ => some (p, b, s)
  | .Expr (.Call _ [.Lambda p b s _] _ _) _ => some (p, b, s)
  | _ => none
def lamP (i : Nat) : Arguments := match lamAt i with
  | some (p, _, _) => p
  | none => defArgs s_law_ask
def lamB (i : Nat) : Expr := match lamAt i with
  | some (_, b, _) => b
  | none => .Constant .none 0 ⟨0, 0, 0, 0⟩
def lamC (i : Nat) : Scope := match lamAt i with
  | some (_, _, s) => s
  | none => defScope s_law_ask
theorem op_timesK {X : Cx} {K : PySem.W.Frag} (hK : X.K = K := by rfl) : OpR X (binaryOp .Mult) (rTimes K) := by
  subst hK
  exact op_times
theorem fw_one {rs es : List Int} {xs : List V} {i k : Nat} (h : FirstWrong rs es xs i) (g : FirstWrong rs es xs k) : i = k := by
  obtain ⟨h1, x, h2, h3⟩ := h
  obtain ⟨g1, y, g2, g3⟩ := g
  rcases Nat.lt_trichotomy i k with lt | e | gt
  · rw [g1 i x lt h2] at h3
    cases h3
  · exact e
  · rw [h1 k y gt g2] at g3
    cases g3
theorem fwX (l : Nat) (h : l = 1 ∨ l = 2 ∨ l = 3) : FirstWrong [2, 2, 2, 2] (List.replicate [2, 2, 2, 2].length 0) ((List.replicate l 1 ++ List.replicate (4 - l) 2 : List Int).map V.int) l := by
  rcases h with rfl | rfl | rfl
  · exact ⟨fun j x hj hx => by
      match j, hj with
      | 0, _ => cases hx; decide, .int 2, rfl, by decide⟩
  · exact ⟨fun j x hj hx => by
      match j, hj with
      | 0, _ => cases hx; decide
      | 1, _ => cases hx; decide, .int 2, rfl, by decide⟩
  · exact ⟨fun j x hj hx => by
      match j, hj with
      | 0, _ => cases hx; decide
      | 1, _ => cases hx; decide
      | 2, _ => cases hx; decide, .int 2, rfl, by decide⟩
theorem lamA {X : Cx} {scope : Scope} (sc : X.env.scope = defScope s_law_ask) (hL : LamX.lamSB (defScope s_law_ask) scope = true := by decide +kernel) : LamX.LamS X.env.scope scope := by
  rw [sc]
  exact LamX.lamS_by hL
theorem pe_lamA {X : Cx} {Ts : List (Addr × Str)} {c Pt : Addr} {params : Arguments} {body : Expr} {scope : Scope} {pos : Pos} (TB : LamX.TabB X.base X.mg c Pt) (code : X.env.code = .ref c) (mem : (Pt, X.env.qual ++ "<lambda>") ∈ Ts) (only : ∀ p ∈ Ts, p.1 = Pt → p.2 = X.env.qual ++ "<lambda>")
    (sc : X.env.scope = defScope s_law_ask) (hdef : defaultsOf params X.env = ([], []) := by rfl) (hL : LamX.lamSB (defScope s_law_ask) scope = true := by decide +kernel) : PE X (.Lambda params body scope pos) (tLamI X Ts params body scope) := by
  rw [tLamI_eq]
  exact pe_lamV TB code mem only hdef (lamA sc hL)
/-- the list of lambdas, i + 1 of them -/
def Nv (X : Cx) (Ts : List (Addr × Str)) (H : Hp) (j l : Nat) (K : PySem.W.Frag) (CM : Addr) (i : Nat) (σ' : L2.St) (H' : Hp) : Prop := ∃ (A x : Addr) (xs : List V), σ' = [some (.int (j : Nat)), some (.int (l : Nat)), some (.ref x), some (.ref A)] ∧ Wt Ts H H' ∧ (∀ o, H A = some o → (∀ ps, o ≠ .tbl ps) → False) ∧ H' A = some (.lst xs) ∧
  xs.length = i + 1 ∧ McAt K CM H' x 3 tsX ∧ (j ≤ i → ∃ f, xs[j]? = some (.ref f) ∧ LamAtH X (lamP j) (lamB j) (lamC j) H' f)
section
variable {X : Cx} {Ts : List (Addr × Str)} {H H1 G1 : Hp} {l i : Nat} {K : PySem.W.Frag} {CM x A f1 : Addr} {p : Arguments} {b : Expr} {s : Scope} {xs : List V}
theorem nv_start (j : Nat) (g : Wt Ts H H1) (mc : McAt K CM H1 x 3 tsX) (x1 : Wt Ts H1 G1) (k1 : LamAtH X p b s G1 f1) (hj : j = 0 → p = lamP j ∧ b = lamB j ∧ s = lamC j) (hA : G1 A = none) :
    Nv X Ts H j l K CM 0 [some (.int (j : Nat)), some (.int (l : Nat)), some (.ref x), some (.ref A)] (upd G1 A (.lst [.ref f1])) := by
  refine ⟨A, x, _, rfl, (g.trans x1).same (same_new hA), (g.trans x1).fresh hA, upd_same, rfl, (ext_mc x1.ext mc).same (same_new hA), fun h => ?_⟩
  obtain rfl := Nat.le_zero.mp h
  obtain ⟨rfl, rfl, rfl⟩ := hj rfl
  exact ⟨f1, rfl, k1.ext (ext_of (same_new hA))⟩
theorem nv_step {j : Nat} (g : Wt Ts H H1) (nA : ∀ o, H A = some o → (∀ ps, o ≠ .tbl ps) → False) (hA : H1 A = some (.lst xs)) (len : xs.length = i + 1) (mc : McAt K CM H1 x 3 tsX) (kj : j ≤ i → ∃ f, xs[j]? = some (.ref f) ∧ LamAtH X (lamP j) (lamB j) (lamC j) H1 f) (x1 : Wt Ts H1 G1) (k1 : LamAtH X p b s G1 f1)
    (hj : j = i + 1 → p = lamP j ∧ b = lamB j ∧ s = lamC j) : Nv X Ts H j l K CM (i + 1) [some (.int (j : Nat)), some (.int (l : Nat)), some (.ref x), some (.ref A)] (upd G1 A (.lst (xs ++ [.ref f1]))) := by
  have hA1 := x1.ext _ _ hA (fun _ z => nomatch z)
  refine ⟨A, x, _, rfl, (g.trans x1).put nA hA1, nA, upd_same, by rw [List.length_append, len]; rfl, mc_put (ext_mc x1.ext mc) hA1, fun h => ?_⟩
  rcases Nat.lt_or_eq_of_le h with h | h
  · obtain ⟨f, e, k⟩ := kj (Nat.le_of_lt_succ h)
    exact ⟨f, by rw [List.getElem?_append_left (by rw [len]; exact h)]; exact e, (k.ext x1.ext).put hA1⟩
  · obtain ⟨rfl, rfl, rfl⟩ := hj h
    exact ⟨f1, by rw [h, List.getElem?_append_right (by rw [len]; exact Nat.le_refl _), len, Nat.sub_self]; rfl, k1.put hA1⟩
end
section
variable {P : Program} {w : World} {K : PySem.W.Frag} {mg : Str → Option Value} {base : Heap} {f : Addr} {fd : FuncData} {a : Ad} {C CM td : Addr} {Ts : List (Addr × Str)} {cc Pt : Addr}
theorem sc_ask : FnScope ["number", "length", "machine", "asks"] ["number", "length"] (defScope s_law_ask) := ⟨rfl, rfl, rfl, by decide +kernel, rfl, by decide +kernel, by decide +kernel⟩
theorem ask_0 {A : Around} {outer : List Env} {s : Shared} {H : Hp} {Q : VK} {E : XK} {l : Nat} (T : Mg mg) (TM : ClsM K mg CM) (TC : ClsC K mg C) (TB : LamX.TabB base mg cc Pt) (mem : (Pt, (Str.ofString "_law_ask" ++ ".<locals>.") ++ "<lambda>") ∈ Ts) (only : ∀ p ∈ Ts, p.1 = Pt → p.2 = (Str.ofString "_law_ask" ++ ".<locals>.") ++ "<lambda>")
    (B : Fns P w K mg base a C CM) (M : Mks P w K mg base a C CM td) (hr : Room 9 (A.deeper (envOfC "_law_ask" (defScope s_law_ask) s.heap.objs.size f (.ref cc)))) (tabs : LamX.Tabs Ts H) (hl : l = 1 ∨ l = 2 ∨ l = 3) (q : ∀ G, Wt Ts H G → Thrown E G a.cM "at" (.int (l : Nat))) :
    ∃ t, PSs (cxOf (L2N.CX P w) P w K mg base ["number", "length", "machine", "asks"] "_law_ask" (defScope s_law_ask) f (.ref cc) A outer s H E) (defBody s_law_ask) t ∧ t { nx := fun _ H' => Q .non H', rt := Q } (L2.start ["number", "length", "machine", "asks"] [.int (0 : Nat), .int (l : Nat)]) H := by
  refine ⟨_, (pss_cons (ps_mid (ps_set (i := 2) sc_ask.nd rfl (by first | exact Or.inl rfl | exact Or.inr rfl) (pe_mac (K := K) M TM hr pzN (pa_cons (pe_lst (pa_cons (pe_lst (pa_cons pe_int (pa_cons pe_int (pa_cons pe_int pa_nil)))) (pa_cons (pe_lst (pa_cons pe_int (pa_cons pe_int (pa_cons pe_int pa_nil)))) pa_nil))) pa_nil))))
      (pss_cons (ps_mid (ps_set (i := 3) sc_ask.nd rfl (by first | exact Or.inl rfl | exact Or.inr rfl) (pe_lst (pa_cons (pe_lamA TB rfl mem only rfl) pa_nil))))
      (pss_cons (ps_mid (ps_expr (pe_bm PySem.F.plainAttrs_list PySem.F.slot_list_append PySem.F.type_list_append mt_append (pv 3) (pa_cons (pe_lamA TB rfl mem only rfl) pa_nil))))
      (pss_cons (ps_mid (ps_expr (pe_bm PySem.F.plainAttrs_list PySem.F.slot_list_append PySem.F.type_list_append mt_append (pv 3) (pa_cons (pe_lamA TB rfl mem only rfl) pa_nil))))
      (pss_cons (ps_mid (ps_expr (pe_bm PySem.F.plainAttrs_list PySem.F.slot_list_append PySem.F.type_list_append mt_append (pv 3) (pa_cons (pe_lamA TB rfl mem only rfl) pa_nil))))
      (pss_cons (ps_mid (ps_expr (pe_bm PySem.F.plainAttrs_list PySem.F.slot_list_append PySem.F.type_list_append mt_append (pv 3) (pa_cons (pe_lamA TB rfl mem only rfl) pa_nil))))
      (pss_cons (ps_mid (ps_expr (pe_bm PySem.F.plainAttrs_list PySem.F.slot_list_append PySem.F.type_list_append mt_append (pv 3) (pa_cons (pe_lamA TB rfl mem only rfl) pa_nil))))
      (pss_cons (ps_mid (ps_expr (pe_bm PySem.F.plainAttrs_list PySem.F.slot_list_append PySem.F.type_list_append mt_append (pv 3) (pa_cons (pe_lamA TB rfl mem only rfl) pa_nil))))
      (pss_cons (ps_mid (ps_expr (pe_bm PySem.F.plainAttrs_list PySem.F.slot_list_append PySem.F.type_list_append mt_append (pv 3) (pa_cons (pe_lamA TB rfl mem only rfl) pa_nil))))
      (pss_cons (ps_mid (ps_expr (pe_bm PySem.F.plainAttrs_list PySem.F.slot_list_append PySem.F.type_list_append mt_append (pv 3) (pa_cons (pe_lamA TB rfl mem only rfl) pa_nil))))
      (pss_one (ps_ret (pe_lamGo (ι := Unit) (k := 8) (E := E) (fun _ => lamP 0) (fun _ => lamB 0) (fun _ => lamC 0) (fun _ => _) (pe_ix ix_list (pv 3) (pv 0) (fun _ _ => rfl)) hr (fun _ => lamA rfl) (L2N.passes_call (E := E) (L2N.takes_of rfl rfl rfl rfl) (fun _ _ _ _ z => z)) (fun _ _ _ _ _ _ => rfl) (fun _ A outer s H f c2 hr2 => pe_mac (K := K) M TM hr2 passLN (pa_cons (pe_op op_cat (pe_op op_rep (pe_lst (pa_cons (pe_lst (pa_cons pe_int pa_nil)) pa_nil)) (pv 1)) (pe_lst (pa_cons (pe_lst (pa_cons pe_int pa_nil)) pa_nil))) pa_nil))))))))))))))), ?_⟩
  refine ⟨fun σ1 H1 => ∃ x, σ1 = [some (.int (0 : Nat)), some (.int (l : Nat)), some (.ref x), none] ∧ Wt Ts H H1 ∧ McAt K CM H1 x 3 tsX, ?_, ?_⟩
  · refine ⟨by show 3 ≤ sizeLine; decide, fun q0 h0 => ⟨by show 3 ≤ sizeLine; decide, fun q1 h1 => ⟨by show 2 ≤ sizeLine; decide, fun L hL x dx hx hdx nx => ?_⟩⟩⟩
    have w0 : Wt Ts H _ := (((Wt.refl tabs).same (same_new (o := HO.lst [.int 1, .int 0, .int 2]) h0)).same (same_new (o := HO.lst [.int 0, .int 0, .int 1]) h1)).same (same_new (o := HO.lst [.ref q0, .ref q1]) hL)
    have r0 := (SqL.of (K := K) (same_new (o := HO.lst [.ref q0, .ref q1]) hL _ _ (same_new (o := HO.lst [.int 0, .int 0, .int 1]) h1 _ _ (upd_same (H := H) (a := q0) (o := HO.lst [.int 1, .int 0, .int 2])))))
    have r1 := SqL.of (K := K) (same_new (o := HO.lst [.ref q0, .ref q1]) hL _ _ (upd_same (a := q1) (o := HO.lst [.int 0, .int 0, .int 1])))
    refine mc_make (ts := tsX) mokX (.inl (SqL.of upd_same)) ⟨⟨q0, rfl, .inl r0⟩, ⟨q1, rfl, .inl r1⟩, trivial⟩ hx hdx nx fun G mG mc => ?_
    exact ⟨x, rfl, w0.same mG, mc⟩
  rintro σ1 H1 ⟨x, rfl, g, mc⟩
  refine ⟨Nv (cxOf (L2N.CX P w) P w K mg base ["number", "length", "machine", "asks"] "_law_ask" (defScope s_law_ask) f (.ref cc) A outer s H E) Ts H 0 l K CM 0, ?_, ?_⟩
  · exact lam_use ⟨g.tabs, fun f0 G0 x0 k0 => ⟨by show 1 ≤ sizeLine; decide, fun Z hA => nv_start 0 g mc x0 k0 (fun _ => ⟨rfl, rfl, rfl⟩) hA⟩⟩
  rintro σ1 H1 ⟨Z, x, xs, rfl, g, nA, hA, len, mc, kj⟩
  refine ⟨Nv (cxOf (L2N.CX P w) P w K mg base ["number", "length", "machine", "asks"] "_law_ask" (defScope s_law_ask) f (.ref cc) A outer s H E) Ts H 0 l K CM 1, ?_, ?_⟩
  · exact ⟨_, rfl, .inl ⟨rfl, _, SqL.of hA⟩, lam_use ⟨g.tabs, fun f1 G1 x1 k1 => ⟨Z, _, _, rfl, rfl, x1.ext _ _ hA (fun _ z => nomatch z), by rw [len, sizeLine_eq]; decide, nv_step g nA hA len mc kj x1 k1 (fun z => absurd z (by decide))⟩⟩⟩
  rintro σ1 H1 ⟨Z, x, xs, rfl, g, nA, hA, len, mc, kj⟩
  refine ⟨Nv (cxOf (L2N.CX P w) P w K mg base ["number", "length", "machine", "asks"] "_law_ask" (defScope s_law_ask) f (.ref cc) A outer s H E) Ts H 0 l K CM 2, ?_, ?_⟩
  · exact ⟨_, rfl, .inl ⟨rfl, _, SqL.of hA⟩, lam_use ⟨g.tabs, fun f1 G1 x1 k1 => ⟨Z, _, _, rfl, rfl, x1.ext _ _ hA (fun _ z => nomatch z), by rw [len, sizeLine_eq]; decide, nv_step g nA hA len mc kj x1 k1 (fun z => absurd z (by decide))⟩⟩⟩
  rintro σ1 H1 ⟨Z, x, xs, rfl, g, nA, hA, len, mc, kj⟩
  refine ⟨Nv (cxOf (L2N.CX P w) P w K mg base ["number", "length", "machine", "asks"] "_law_ask" (defScope s_law_ask) f (.ref cc) A outer s H E) Ts H 0 l K CM 3, ?_, ?_⟩
  · exact ⟨_, rfl, .inl ⟨rfl, _, SqL.of hA⟩, lam_use ⟨g.tabs, fun f1 G1 x1 k1 => ⟨Z, _, _, rfl, rfl, x1.ext _ _ hA (fun _ z => nomatch z), by rw [len, sizeLine_eq]; decide, nv_step g nA hA len mc kj x1 k1 (fun z => absurd z (by decide))⟩⟩⟩
  rintro σ1 H1 ⟨Z, x, xs, rfl, g, nA, hA, len, mc, kj⟩
  refine ⟨Nv (cxOf (L2N.CX P w) P w K mg base ["number", "length", "machine", "asks"] "_law_ask" (defScope s_law_ask) f (.ref cc) A outer s H E) Ts H 0 l K CM 4, ?_, ?_⟩
  · exact ⟨_, rfl, .inl ⟨rfl, _, SqL.of hA⟩, lam_use ⟨g.tabs, fun f1 G1 x1 k1 => ⟨Z, _, _, rfl, rfl, x1.ext _ _ hA (fun _ z => nomatch z), by rw [len, sizeLine_eq]; decide, nv_step g nA hA len mc kj x1 k1 (fun z => absurd z (by decide))⟩⟩⟩
  rintro σ1 H1 ⟨Z, x, xs, rfl, g, nA, hA, len, mc, kj⟩
  refine ⟨Nv (cxOf (L2N.CX P w) P w K mg base ["number", "length", "machine", "asks"] "_law_ask" (defScope s_law_ask) f (.ref cc) A outer s H E) Ts H 0 l K CM 5, ?_, ?_⟩
  · exact ⟨_, rfl, .inl ⟨rfl, _, SqL.of hA⟩, lam_use ⟨g.tabs, fun f1 G1 x1 k1 => ⟨Z, _, _, rfl, rfl, x1.ext _ _ hA (fun _ z => nomatch z), by rw [len, sizeLine_eq]; decide, nv_step g nA hA len mc kj x1 k1 (fun z => absurd z (by decide))⟩⟩⟩
  rintro σ1 H1 ⟨Z, x, xs, rfl, g, nA, hA, len, mc, kj⟩
  refine ⟨Nv (cxOf (L2N.CX P w) P w K mg base ["number", "length", "machine", "asks"] "_law_ask" (defScope s_law_ask) f (.ref cc) A outer s H E) Ts H 0 l K CM 6, ?_, ?_⟩
  · exact ⟨_, rfl, .inl ⟨rfl, _, SqL.of hA⟩, lam_use ⟨g.tabs, fun f1 G1 x1 k1 => ⟨Z, _, _, rfl, rfl, x1.ext _ _ hA (fun _ z => nomatch z), by rw [len, sizeLine_eq]; decide, nv_step g nA hA len mc kj x1 k1 (fun z => absurd z (by decide))⟩⟩⟩
  rintro σ1 H1 ⟨Z, x, xs, rfl, g, nA, hA, len, mc, kj⟩
  refine ⟨Nv (cxOf (L2N.CX P w) P w K mg base ["number", "length", "machine", "asks"] "_law_ask" (defScope s_law_ask) f (.ref cc) A outer s H E) Ts H 0 l K CM 7, ?_, ?_⟩
  · exact ⟨_, rfl, .inl ⟨rfl, _, SqL.of hA⟩, lam_use ⟨g.tabs, fun f1 G1 x1 k1 => ⟨Z, _, _, rfl, rfl, x1.ext _ _ hA (fun _ z => nomatch z), by rw [len, sizeLine_eq]; decide, nv_step g nA hA len mc kj x1 k1 (fun z => absurd z (by decide))⟩⟩⟩
  rintro σ1 H1 ⟨Z, x, xs, rfl, g, nA, hA, len, mc, kj⟩
  refine ⟨Nv (cxOf (L2N.CX P w) P w K mg base ["number", "length", "machine", "asks"] "_law_ask" (defScope s_law_ask) f (.ref cc) A outer s H E) Ts H 0 l K CM 8, ?_, ?_⟩
  · exact ⟨_, rfl, .inl ⟨rfl, _, SqL.of hA⟩, lam_use ⟨g.tabs, fun f1 G1 x1 k1 => ⟨Z, _, _, rfl, rfl, x1.ext _ _ hA (fun _ z => nomatch z), by rw [len, sizeLine_eq]; decide, nv_step g nA hA len mc kj x1 k1 (fun z => absurd z (by decide))⟩⟩⟩
  rintro σ1 H1 ⟨Z, x, xs, rfl, g, nA, hA, len, mc, kj⟩
  obtain ⟨ff, hff, kj⟩ := kj (by decide)
  refine ⟨_, rfl, _, rfl, Z, _, _, _, rfl, rfl, SqL.of hA, atI_nat hff, go_use kj ?_⟩
  rcases hl with rfl | rfl | rfl
  · refine ⟨by show 1 ≤ sizeLine; decide, fun p0 h0 => ⟨by show 1 ≤ sizeLine; decide, fun p1 h1 => ⟨_, rfl, p1, _, _, rfl, rfl, upd_same, by decide, by decide, by show 1 ≤ sizeLine; decide, fun p2 h2 => ⟨by show 1 ≤ sizeLine; decide, fun p3 h3 => ⟨by show 1 ≤ sizeLine; decide, fun p4 h4 => ⟨p2, p4, _, _, rfl, rfl, same_new h4 _ _ (same_new h3 _ _ upd_same), upd_same, by show 2 ≤ sizeLine; decide, fun p5 h5 y dy hy hdy ne => ?_⟩⟩⟩⟩⟩⟩
    have e5 := same_new (o := HO.lst ([V.ref p0, V.ref p3])) h5
    have e := (((((same_new h0).trans (same_new h1)).trans (same_new h2)).trans (same_new h3)).trans (same_new h4)).trans e5
    have en := new_ins (C := CM) hy hdy ne
    have z0 := en _ _ (e5 _ _ (same_new h4 _ _ (same_new h3 _ _ (same_new h2 _ _ (same_new h1 _ _ (upd_same (H := H1) (a := p0) (o := HO.lst [.int 0])))))))
    have z3 := en _ _ (e5 _ _ (same_new h4 _ _ (upd_same (a := p3) (o := HO.lst [.int 1]))))
    refine ⟨y, dy, _, some [V.ref p0, V.ref p3], rfl, upd_same, .seq (.inl (sqL_same en (SqL.of upd_same))), fun z => (nomatch z), fun ys ey _ => ?_⟩
    cases ey
    exact ⟨[some (([0] : List Int).map V.int), some (([1] : List Int).map V.int)], ⟨⟨.seq (.inl (SqL.of z0)), kns_ints (ns := [0])⟩, ⟨⟨.seq (.inl (SqL.of z3)), kns_ints (ns := [1])⟩, trivial⟩⟩, fun i hi => (Option.some.inj hi) ▸ q _ (g.same (e.trans en)), fun z => (nomatch z)⟩
  · refine ⟨by show 1 ≤ sizeLine; decide, fun p0 h0 => ⟨by show 1 ≤ sizeLine; decide, fun p1 h1 => ⟨_, rfl, p1, _, _, rfl, rfl, upd_same, by decide, by decide, by show 2 ≤ sizeLine; decide, fun p2 h2 => ⟨by show 1 ≤ sizeLine; decide, fun p3 h3 => ⟨by show 1 ≤ sizeLine; decide, fun p4 h4 => ⟨p2, p4, _, _, rfl, rfl, same_new h4 _ _ (same_new h3 _ _ upd_same), upd_same, by show 3 ≤ sizeLine; decide, fun p5 h5 y dy hy hdy ne => ?_⟩⟩⟩⟩⟩⟩
    have e5 := same_new (o := HO.lst ([V.ref p0, V.ref p0, V.ref p3])) h5
    have e := (((((same_new h0).trans (same_new h1)).trans (same_new h2)).trans (same_new h3)).trans (same_new h4)).trans e5
    have en := new_ins (C := CM) hy hdy ne
    have z0 := en _ _ (e5 _ _ (same_new h4 _ _ (same_new h3 _ _ (same_new h2 _ _ (same_new h1 _ _ (upd_same (H := H1) (a := p0) (o := HO.lst [.int 0])))))))
    have z3 := en _ _ (e5 _ _ (same_new h4 _ _ (upd_same (a := p3) (o := HO.lst [.int 1]))))
    refine ⟨y, dy, _, some [V.ref p0, V.ref p0, V.ref p3], rfl, upd_same, .seq (.inl (sqL_same en (SqL.of upd_same))), fun z => (nomatch z), fun ys ey _ => ?_⟩
    cases ey
    exact ⟨[some (([0] : List Int).map V.int), some (([0] : List Int).map V.int), some (([1] : List Int).map V.int)], ⟨⟨.seq (.inl (SqL.of z0)), kns_ints (ns := [0])⟩, ⟨⟨.seq (.inl (SqL.of z0)), kns_ints (ns := [0])⟩, ⟨⟨.seq (.inl (SqL.of z3)), kns_ints (ns := [1])⟩, trivial⟩⟩⟩, fun i hi => (Option.some.inj hi) ▸ q _ (g.same (e.trans en)), fun z => (nomatch z)⟩
  · refine ⟨by show 1 ≤ sizeLine; decide, fun p0 h0 => ⟨by show 1 ≤ sizeLine; decide, fun p1 h1 => ⟨_, rfl, p1, _, _, rfl, rfl, upd_same, by decide, by decide, by show 3 ≤ sizeLine; decide, fun p2 h2 => ⟨by show 1 ≤ sizeLine; decide, fun p3 h3 => ⟨by show 1 ≤ sizeLine; decide, fun p4 h4 => ⟨p2, p4, _, _, rfl, rfl, same_new h4 _ _ (same_new h3 _ _ upd_same), upd_same, by show 4 ≤ sizeLine; decide, fun p5 h5 y dy hy hdy ne => ?_⟩⟩⟩⟩⟩⟩
    have e5 := same_new (o := HO.lst ([V.ref p0, V.ref p0, V.ref p0, V.ref p3])) h5
    have e := (((((same_new h0).trans (same_new h1)).trans (same_new h2)).trans (same_new h3)).trans (same_new h4)).trans e5
    have en := new_ins (C := CM) hy hdy ne
    have z0 := en _ _ (e5 _ _ (same_new h4 _ _ (same_new h3 _ _ (same_new h2 _ _ (same_new h1 _ _ (upd_same (H := H1) (a := p0) (o := HO.lst [.int 0])))))))
    have z3 := en _ _ (e5 _ _ (same_new h4 _ _ (upd_same (a := p3) (o := HO.lst [.int 1]))))
    refine ⟨y, dy, _, some [V.ref p0, V.ref p0, V.ref p0, V.ref p3], rfl, upd_same, .seq (.inl (sqL_same en (SqL.of upd_same))), fun z => (nomatch z), fun ys ey _ => ?_⟩
    cases ey
    exact ⟨[some (([0] : List Int).map V.int), some (([0] : List Int).map V.int), some (([0] : List Int).map V.int), some (([1] : List Int).map V.int)], ⟨⟨.seq (.inl (SqL.of z0)), kns_ints (ns := [0])⟩, ⟨⟨.seq (.inl (SqL.of z0)), kns_ints (ns := [0])⟩, ⟨⟨.seq (.inl (SqL.of z0)), kns_ints (ns := [0])⟩, ⟨⟨.seq (.inl (SqL.of z3)), kns_ints (ns := [1])⟩, trivial⟩⟩⟩⟩, fun i hi => (Option.some.inj hi) ▸ q _ (g.same (e.trans en)), fun z => (nomatch z)⟩

theorem ask_1 {A : Around} {outer : List Env} {s : Shared} {H : Hp} {Q : VK} {E : XK} {l : Nat} (T : Mg mg) (TM : ClsM K mg CM) (TC : ClsC K mg C) (TB : LamX.TabB base mg cc Pt) (mem : (Pt, (Str.ofString "_law_ask" ++ ".<locals>.") ++ "<lambda>") ∈ Ts) (only : ∀ p ∈ Ts, p.1 = Pt → p.2 = (Str.ofString "_law_ask" ++ ".<locals>.") ++ "<lambda>")
    (B : Fns P w K mg base a C CM) (M : Mks P w K mg base a C CM td) (hr : Room 9 (A.deeper (envOfC "_law_ask" (defScope s_law_ask) s.heap.objs.size f (.ref cc)))) (tabs : LamX.Tabs Ts H) (hl : l = 1 ∨ l = 2 ∨ l = 3) (q : ∀ G, Wt Ts H G → Thrown E G a.cR "at" (.int (l : Nat))) :
    ∃ t, PSs (cxOf (L2N.CX P w) P w K mg base ["number", "length", "machine", "asks"] "_law_ask" (defScope s_law_ask) f (.ref cc) A outer s H E) (defBody s_law_ask) t ∧ t { nx := fun _ H' => Q .non H', rt := Q } (L2.start ["number", "length", "machine", "asks"] [.int (1 : Nat), .int (l : Nat)]) H := by
  refine ⟨_, (pss_cons (ps_mid (ps_set (i := 2) sc_ask.nd rfl (by first | exact Or.inl rfl | exact Or.inr rfl) (pe_mac (K := K) M TM hr pzN (pa_cons (pe_lst (pa_cons (pe_lst (pa_cons pe_int (pa_cons pe_int (pa_cons pe_int pa_nil)))) (pa_cons (pe_lst (pa_cons pe_int (pa_cons pe_int (pa_cons pe_int pa_nil)))) pa_nil))) pa_nil))))
      (pss_cons (ps_mid (ps_set (i := 3) sc_ask.nd rfl (by first | exact Or.inl rfl | exact Or.inr rfl) (pe_lst (pa_cons (pe_lamA TB rfl mem only rfl) pa_nil))))
      (pss_cons (ps_mid (ps_expr (pe_bm PySem.F.plainAttrs_list PySem.F.slot_list_append PySem.F.type_list_append mt_append (pv 3) (pa_cons (pe_lamA TB rfl mem only rfl) pa_nil))))
      (pss_cons (ps_mid (ps_expr (pe_bm PySem.F.plainAttrs_list PySem.F.slot_list_append PySem.F.type_list_append mt_append (pv 3) (pa_cons (pe_lamA TB rfl mem only rfl) pa_nil))))
      (pss_cons (ps_mid (ps_expr (pe_bm PySem.F.plainAttrs_list PySem.F.slot_list_append PySem.F.type_list_append mt_append (pv 3) (pa_cons (pe_lamA TB rfl mem only rfl) pa_nil))))
      (pss_cons (ps_mid (ps_expr (pe_bm PySem.F.plainAttrs_list PySem.F.slot_list_append PySem.F.type_list_append mt_append (pv 3) (pa_cons (pe_lamA TB rfl mem only rfl) pa_nil))))
      (pss_cons (ps_mid (ps_expr (pe_bm PySem.F.plainAttrs_list PySem.F.slot_list_append PySem.F.type_list_append mt_append (pv 3) (pa_cons (pe_lamA TB rfl mem only rfl) pa_nil))))
      (pss_cons (ps_mid (ps_expr (pe_bm PySem.F.plainAttrs_list PySem.F.slot_list_append PySem.F.type_list_append mt_append (pv 3) (pa_cons (pe_lamA TB rfl mem only rfl) pa_nil))))
      (pss_cons (ps_mid (ps_expr (pe_bm PySem.F.plainAttrs_list PySem.F.slot_list_append PySem.F.type_list_append mt_append (pv 3) (pa_cons (pe_lamA TB rfl mem only rfl) pa_nil))))
      (pss_cons (ps_mid (ps_expr (pe_bm PySem.F.plainAttrs_list PySem.F.slot_list_append PySem.F.type_list_append mt_append (pv 3) (pa_cons (pe_lamA TB rfl mem only rfl) pa_nil))))
      (pss_one (ps_ret (pe_lamGo (ι := Unit) (k := 8) (E := E) (fun _ => lamP 1) (fun _ => lamB 1) (fun _ => lamC 1) (fun _ => _) (pe_ix ix_list (pv 3) (pv 0) (fun _ _ => rfl)) hr (fun _ => lamA rfl) (L2N.passes_call (E := E) (L2N.takes_of rfl rfl rfl rfl) (fun _ _ _ _ z => z)) (fun _ _ _ _ _ _ => rfl) (fun _ A outer s H f c2 hr2 => pe_callC B.row hr2 passLN (pa_cons (pv 2) (pa_cons (pe_op op_cat (pe_op op_rep (pe_lst (pa_cons pe_int pa_nil)) (pv 1)) (pe_lst (pa_cons pe_int pa_nil))) pa_nil)))))))))))))))), ?_⟩
  refine ⟨fun σ1 H1 => ∃ x, σ1 = [some (.int (1 : Nat)), some (.int (l : Nat)), some (.ref x), none] ∧ Wt Ts H H1 ∧ McAt K CM H1 x 3 tsX, ?_, ?_⟩
  · refine ⟨by show 3 ≤ sizeLine; decide, fun q0 h0 => ⟨by show 3 ≤ sizeLine; decide, fun q1 h1 => ⟨by show 2 ≤ sizeLine; decide, fun L hL x dx hx hdx nx => ?_⟩⟩⟩
    have w0 : Wt Ts H _ := (((Wt.refl tabs).same (same_new (o := HO.lst [.int 1, .int 0, .int 2]) h0)).same (same_new (o := HO.lst [.int 0, .int 0, .int 1]) h1)).same (same_new (o := HO.lst [.ref q0, .ref q1]) hL)
    have r0 := (SqL.of (K := K) (same_new (o := HO.lst [.ref q0, .ref q1]) hL _ _ (same_new (o := HO.lst [.int 0, .int 0, .int 1]) h1 _ _ (upd_same (H := H) (a := q0) (o := HO.lst [.int 1, .int 0, .int 2])))))
    have r1 := SqL.of (K := K) (same_new (o := HO.lst [.ref q0, .ref q1]) hL _ _ (upd_same (a := q1) (o := HO.lst [.int 0, .int 0, .int 1])))
    refine mc_make (ts := tsX) mokX (.inl (SqL.of upd_same)) ⟨⟨q0, rfl, .inl r0⟩, ⟨q1, rfl, .inl r1⟩, trivial⟩ hx hdx nx fun G mG mc => ?_
    exact ⟨x, rfl, w0.same mG, mc⟩
  rintro σ1 H1 ⟨x, rfl, g, mc⟩
  refine ⟨Nv (cxOf (L2N.CX P w) P w K mg base ["number", "length", "machine", "asks"] "_law_ask" (defScope s_law_ask) f (.ref cc) A outer s H E) Ts H 1 l K CM 0, ?_, ?_⟩
  · exact lam_use ⟨g.tabs, fun f0 G0 x0 k0 => ⟨by show 1 ≤ sizeLine; decide, fun Z hA => nv_start 1 g mc x0 k0 (fun z => nomatch z) hA⟩⟩
  rintro σ1 H1 ⟨Z, x, xs, rfl, g, nA, hA, len, mc, kj⟩
  refine ⟨Nv (cxOf (L2N.CX P w) P w K mg base ["number", "length", "machine", "asks"] "_law_ask" (defScope s_law_ask) f (.ref cc) A outer s H E) Ts H 1 l K CM 1, ?_, ?_⟩
  · exact ⟨_, rfl, .inl ⟨rfl, _, SqL.of hA⟩, lam_use ⟨g.tabs, fun f1 G1 x1 k1 => ⟨Z, _, _, rfl, rfl, x1.ext _ _ hA (fun _ z => nomatch z), by rw [len, sizeLine_eq]; decide, nv_step g nA hA len mc kj x1 k1 (fun _ => ⟨rfl, rfl, rfl⟩)⟩⟩⟩
  rintro σ1 H1 ⟨Z, x, xs, rfl, g, nA, hA, len, mc, kj⟩
  refine ⟨Nv (cxOf (L2N.CX P w) P w K mg base ["number", "length", "machine", "asks"] "_law_ask" (defScope s_law_ask) f (.ref cc) A outer s H E) Ts H 1 l K CM 2, ?_, ?_⟩
  · exact ⟨_, rfl, .inl ⟨rfl, _, SqL.of hA⟩, lam_use ⟨g.tabs, fun f1 G1 x1 k1 => ⟨Z, _, _, rfl, rfl, x1.ext _ _ hA (fun _ z => nomatch z), by rw [len, sizeLine_eq]; decide, nv_step g nA hA len mc kj x1 k1 (fun z => absurd z (by decide))⟩⟩⟩
  rintro σ1 H1 ⟨Z, x, xs, rfl, g, nA, hA, len, mc, kj⟩
  refine ⟨Nv (cxOf (L2N.CX P w) P w K mg base ["number", "length", "machine", "asks"] "_law_ask" (defScope s_law_ask) f (.ref cc) A outer s H E) Ts H 1 l K CM 3, ?_, ?_⟩
  · exact ⟨_, rfl, .inl ⟨rfl, _, SqL.of hA⟩, lam_use ⟨g.tabs, fun f1 G1 x1 k1 => ⟨Z, _, _, rfl, rfl, x1.ext _ _ hA (fun _ z => nomatch z), by rw [len, sizeLine_eq]; decide, nv_step g nA hA len mc kj x1 k1 (fun z => absurd z (by decide))⟩⟩⟩
  rintro σ1 H1 ⟨Z, x, xs, rfl, g, nA, hA, len, mc, kj⟩
  refine ⟨Nv (cxOf (L2N.CX P w) P w K mg base ["number", "length", "machine", "asks"] "_law_ask" (defScope s_law_ask) f (.ref cc) A outer s H E) Ts H 1 l K CM 4, ?_, ?_⟩
  · exact ⟨_, rfl, .inl ⟨rfl, _, SqL.of hA⟩, lam_use ⟨g.tabs, fun f1 G1 x1 k1 => ⟨Z, _, _, rfl, rfl, x1.ext _ _ hA (fun _ z => nomatch z), by rw [len, sizeLine_eq]; decide, nv_step g nA hA len mc kj x1 k1 (fun z => absurd z (by decide))⟩⟩⟩
  rintro σ1 H1 ⟨Z, x, xs, rfl, g, nA, hA, len, mc, kj⟩
  refine ⟨Nv (cxOf (L2N.CX P w) P w K mg base ["number", "length", "machine", "asks"] "_law_ask" (defScope s_law_ask) f (.ref cc) A outer s H E) Ts H 1 l K CM 5, ?_, ?_⟩
  · exact ⟨_, rfl, .inl ⟨rfl, _, SqL.of hA⟩, lam_use ⟨g.tabs, fun f1 G1 x1 k1 => ⟨Z, _, _, rfl, rfl, x1.ext _ _ hA (fun _ z => nomatch z), by rw [len, sizeLine_eq]; decide, nv_step g nA hA len mc kj x1 k1 (fun z => absurd z (by decide))⟩⟩⟩
  rintro σ1 H1 ⟨Z, x, xs, rfl, g, nA, hA, len, mc, kj⟩
  refine ⟨Nv (cxOf (L2N.CX P w) P w K mg base ["number", "length", "machine", "asks"] "_law_ask" (defScope s_law_ask) f (.ref cc) A outer s H E) Ts H 1 l K CM 6, ?_, ?_⟩
  · exact ⟨_, rfl, .inl ⟨rfl, _, SqL.of hA⟩, lam_use ⟨g.tabs, fun f1 G1 x1 k1 => ⟨Z, _, _, rfl, rfl, x1.ext _ _ hA (fun _ z => nomatch z), by rw [len, sizeLine_eq]; decide, nv_step g nA hA len mc kj x1 k1 (fun z => absurd z (by decide))⟩⟩⟩
  rintro σ1 H1 ⟨Z, x, xs, rfl, g, nA, hA, len, mc, kj⟩
  refine ⟨Nv (cxOf (L2N.CX P w) P w K mg base ["number", "length", "machine", "asks"] "_law_ask" (defScope s_law_ask) f (.ref cc) A outer s H E) Ts H 1 l K CM 7, ?_, ?_⟩
  · exact ⟨_, rfl, .inl ⟨rfl, _, SqL.of hA⟩, lam_use ⟨g.tabs, fun f1 G1 x1 k1 => ⟨Z, _, _, rfl, rfl, x1.ext _ _ hA (fun _ z => nomatch z), by rw [len, sizeLine_eq]; decide, nv_step g nA hA len mc kj x1 k1 (fun z => absurd z (by decide))⟩⟩⟩
  rintro σ1 H1 ⟨Z, x, xs, rfl, g, nA, hA, len, mc, kj⟩
  refine ⟨Nv (cxOf (L2N.CX P w) P w K mg base ["number", "length", "machine", "asks"] "_law_ask" (defScope s_law_ask) f (.ref cc) A outer s H E) Ts H 1 l K CM 8, ?_, ?_⟩
  · exact ⟨_, rfl, .inl ⟨rfl, _, SqL.of hA⟩, lam_use ⟨g.tabs, fun f1 G1 x1 k1 => ⟨Z, _, _, rfl, rfl, x1.ext _ _ hA (fun _ z => nomatch z), by rw [len, sizeLine_eq]; decide, nv_step g nA hA len mc kj x1 k1 (fun z => absurd z (by decide))⟩⟩⟩
  rintro σ1 H1 ⟨Z, x, xs, rfl, g, nA, hA, len, mc, kj⟩
  obtain ⟨ff, hff, kj⟩ := kj (by decide)
  refine ⟨_, rfl, _, rfl, Z, _, _, _, rfl, rfl, SqL.of hA, atI_nat hff, go_use kj ?_⟩
  rcases hl with rfl | rfl | rfl
  · refine ⟨_, rfl, by show 1 ≤ sizeLine; decide, fun p0 h0 => ⟨_, rfl, p0, _, _, rfl, rfl, upd_same, by decide, by decide, by show 1 ≤ sizeLine; decide, fun p1 h1 => ⟨by show 1 ≤ sizeLine; decide, fun p2 h2 => ⟨p1, p2, _, _, rfl, rfl, same_new h2 _ _ upd_same, upd_same, by show 2 ≤ sizeLine; decide, fun p3 h3 => ?_⟩⟩⟩⟩
    have e := (((same_new h0).trans (same_new h1)).trans (same_new h2)).trans (same_new (o := HO.lst ((List.replicate ((1 : Nat) : Int).toNat [V.int 0]).flatten ++ [V.int 2])) h3)
    exact ⟨x, 3, tsX, _, some (([0, 2] : List Int).map V.int), rfl, mc.same e, .seq (.inl (SqL.of upd_same)), kns_ints, fun i hi => (Option.some.inj hi) ▸ q _ (g.same e), fun z => nomatch z⟩
  · refine ⟨_, rfl, by show 1 ≤ sizeLine; decide, fun p0 h0 => ⟨_, rfl, p0, _, _, rfl, rfl, upd_same, by decide, by decide, by show 2 ≤ sizeLine; decide, fun p1 h1 => ⟨by show 1 ≤ sizeLine; decide, fun p2 h2 => ⟨p1, p2, _, _, rfl, rfl, same_new h2 _ _ upd_same, upd_same, by show 3 ≤ sizeLine; decide, fun p3 h3 => ?_⟩⟩⟩⟩
    have e := (((same_new h0).trans (same_new h1)).trans (same_new h2)).trans (same_new (o := HO.lst ((List.replicate ((2 : Nat) : Int).toNat [V.int 0]).flatten ++ [V.int 2])) h3)
    exact ⟨x, 3, tsX, _, some (([0, 0, 2] : List Int).map V.int), rfl, mc.same e, .seq (.inl (SqL.of upd_same)), kns_ints, fun i hi => (Option.some.inj hi) ▸ q _ (g.same e), fun z => nomatch z⟩
  · refine ⟨_, rfl, by show 1 ≤ sizeLine; decide, fun p0 h0 => ⟨_, rfl, p0, _, _, rfl, rfl, upd_same, by decide, by decide, by show 3 ≤ sizeLine; decide, fun p1 h1 => ⟨by show 1 ≤ sizeLine; decide, fun p2 h2 => ⟨p1, p2, _, _, rfl, rfl, same_new h2 _ _ upd_same, upd_same, by show 4 ≤ sizeLine; decide, fun p3 h3 => ?_⟩⟩⟩⟩
    have e := (((same_new h0).trans (same_new h1)).trans (same_new h2)).trans (same_new (o := HO.lst ((List.replicate ((3 : Nat) : Int).toNat [V.int 0]).flatten ++ [V.int 2])) h3)
    exact ⟨x, 3, tsX, _, some (([0, 0, 0, 2] : List Int).map V.int), rfl, mc.same e, .seq (.inl (SqL.of upd_same)), kns_ints, fun i hi => (Option.some.inj hi) ▸ q _ (g.same e), fun z => nomatch z⟩

theorem ask_2 {A : Around} {outer : List Env} {s : Shared} {H : Hp} {Q : VK} {E : XK} {l : Nat} (T : Mg mg) (TM : ClsM K mg CM) (TC : ClsC K mg C) (TB : LamX.TabB base mg cc Pt) (mem : (Pt, (Str.ofString "_law_ask" ++ ".<locals>.") ++ "<lambda>") ∈ Ts) (only : ∀ p ∈ Ts, p.1 = Pt → p.2 = (Str.ofString "_law_ask" ++ ".<locals>.") ++ "<lambda>")
    (B : Fns P w K mg base a C CM) (M : Mks P w K mg base a C CM td) (hr : Room 9 (A.deeper (envOfC "_law_ask" (defScope s_law_ask) s.heap.objs.size f (.ref cc)))) (tabs : LamX.Tabs Ts H) (hl : l = 1 ∨ l = 2 ∨ l = 3) (q : ∀ G, Wt Ts H G → Thrown E G a.cS "at" (.int (l : Nat))) :
    ∃ t, PSs (cxOf (L2N.CX P w) P w K mg base ["number", "length", "machine", "asks"] "_law_ask" (defScope s_law_ask) f (.ref cc) A outer s H E) (defBody s_law_ask) t ∧ t { nx := fun _ H' => Q .non H', rt := Q } (L2.start ["number", "length", "machine", "asks"] [.int (2 : Nat), .int (l : Nat)]) H := by
  refine ⟨_, (pss_cons (ps_mid (ps_set (i := 2) sc_ask.nd rfl (by first | exact Or.inl rfl | exact Or.inr rfl) (pe_mac (K := K) M TM hr pzN (pa_cons (pe_lst (pa_cons (pe_lst (pa_cons pe_int (pa_cons pe_int (pa_cons pe_int pa_nil)))) (pa_cons (pe_lst (pa_cons pe_int (pa_cons pe_int (pa_cons pe_int pa_nil)))) pa_nil))) pa_nil))))
      (pss_cons (ps_mid (ps_set (i := 3) sc_ask.nd rfl (by first | exact Or.inl rfl | exact Or.inr rfl) (pe_lst (pa_cons (pe_lamA TB rfl mem only rfl) pa_nil))))
      (pss_cons (ps_mid (ps_expr (pe_bm PySem.F.plainAttrs_list PySem.F.slot_list_append PySem.F.type_list_append mt_append (pv 3) (pa_cons (pe_lamA TB rfl mem only rfl) pa_nil))))
      (pss_cons (ps_mid (ps_expr (pe_bm PySem.F.plainAttrs_list PySem.F.slot_list_append PySem.F.type_list_append mt_append (pv 3) (pa_cons (pe_lamA TB rfl mem only rfl) pa_nil))))
      (pss_cons (ps_mid (ps_expr (pe_bm PySem.F.plainAttrs_list PySem.F.slot_list_append PySem.F.type_list_append mt_append (pv 3) (pa_cons (pe_lamA TB rfl mem only rfl) pa_nil))))
      (pss_cons (ps_mid (ps_expr (pe_bm PySem.F.plainAttrs_list PySem.F.slot_list_append PySem.F.type_list_append mt_append (pv 3) (pa_cons (pe_lamA TB rfl mem only rfl) pa_nil))))
      (pss_cons (ps_mid (ps_expr (pe_bm PySem.F.plainAttrs_list PySem.F.slot_list_append PySem.F.type_list_append mt_append (pv 3) (pa_cons (pe_lamA TB rfl mem only rfl) pa_nil))))
      (pss_cons (ps_mid (ps_expr (pe_bm PySem.F.plainAttrs_list PySem.F.slot_list_append PySem.F.type_list_append mt_append (pv 3) (pa_cons (pe_lamA TB rfl mem only rfl) pa_nil))))
      (pss_cons (ps_mid (ps_expr (pe_bm PySem.F.plainAttrs_list PySem.F.slot_list_append PySem.F.type_list_append mt_append (pv 3) (pa_cons (pe_lamA TB rfl mem only rfl) pa_nil))))
      (pss_cons (ps_mid (ps_expr (pe_bm PySem.F.plainAttrs_list PySem.F.slot_list_append PySem.F.type_list_append mt_append (pv 3) (pa_cons (pe_lamA TB rfl mem only rfl) pa_nil))))
      (pss_one (ps_ret (pe_lamGo (ι := Unit) (k := 8) (E := E) (fun _ => lamP 2) (fun _ => lamB 2) (fun _ => lamC 2) (fun _ => _) (pe_ix ix_list (pv 3) (pv 0) (fun _ _ => rfl)) hr (fun _ => lamA rfl) (L2N.passes_call (E := E) (L2N.takes_of rfl rfl rfl rfl) (fun _ _ _ _ z => z)) (fun _ _ _ _ _ _ => rfl) (fun _ A outer s H f c2 hr2 => pe_callC B.shw hr2 passLN (pa_cons (pe_cnt1 (K := K) M TC hr2 pzN (pa_cons (pe_op op_rep (pe_lst (pa_cons pe_int pa_nil)) pe_int) pa_nil)) (pa_cons (pe_op (op_catS (K := K)) (pe_op op_timesK (pe_tup (pa_cons pe_int pa_nil)) (pv 1)) (pe_op op_timesK (pe_tup (pa_cons pe_int pa_nil)) (pe_op op_sub pe_int (pv 1)))) pa_nil)))))))))))))))), ?_⟩
  refine ⟨fun σ1 H1 => ∃ x, σ1 = [some (.int (2 : Nat)), some (.int (l : Nat)), some (.ref x), none] ∧ Wt Ts H H1 ∧ McAt K CM H1 x 3 tsX, ?_, ?_⟩
  · refine ⟨by show 3 ≤ sizeLine; decide, fun q0 h0 => ⟨by show 3 ≤ sizeLine; decide, fun q1 h1 => ⟨by show 2 ≤ sizeLine; decide, fun L hL x dx hx hdx nx => ?_⟩⟩⟩
    have w0 : Wt Ts H _ := (((Wt.refl tabs).same (same_new (o := HO.lst [.int 1, .int 0, .int 2]) h0)).same (same_new (o := HO.lst [.int 0, .int 0, .int 1]) h1)).same (same_new (o := HO.lst [.ref q0, .ref q1]) hL)
    have r0 := (SqL.of (K := K) (same_new (o := HO.lst [.ref q0, .ref q1]) hL _ _ (same_new (o := HO.lst [.int 0, .int 0, .int 1]) h1 _ _ (upd_same (H := H) (a := q0) (o := HO.lst [.int 1, .int 0, .int 2])))))
    have r1 := SqL.of (K := K) (same_new (o := HO.lst [.ref q0, .ref q1]) hL _ _ (upd_same (a := q1) (o := HO.lst [.int 0, .int 0, .int 1])))
    refine mc_make (ts := tsX) mokX (.inl (SqL.of upd_same)) ⟨⟨q0, rfl, .inl r0⟩, ⟨q1, rfl, .inl r1⟩, trivial⟩ hx hdx nx fun G mG mc => ?_
    exact ⟨x, rfl, w0.same mG, mc⟩
  rintro σ1 H1 ⟨x, rfl, g, mc⟩
  refine ⟨Nv (cxOf (L2N.CX P w) P w K mg base ["number", "length", "machine", "asks"] "_law_ask" (defScope s_law_ask) f (.ref cc) A outer s H E) Ts H 2 l K CM 0, ?_, ?_⟩
  · exact lam_use ⟨g.tabs, fun f0 G0 x0 k0 => ⟨by show 1 ≤ sizeLine; decide, fun Z hA => nv_start 2 g mc x0 k0 (fun z => nomatch z) hA⟩⟩
  rintro σ1 H1 ⟨Z, x, xs, rfl, g, nA, hA, len, mc, kj⟩
  refine ⟨Nv (cxOf (L2N.CX P w) P w K mg base ["number", "length", "machine", "asks"] "_law_ask" (defScope s_law_ask) f (.ref cc) A outer s H E) Ts H 2 l K CM 1, ?_, ?_⟩
  · exact ⟨_, rfl, .inl ⟨rfl, _, SqL.of hA⟩, lam_use ⟨g.tabs, fun f1 G1 x1 k1 => ⟨Z, _, _, rfl, rfl, x1.ext _ _ hA (fun _ z => nomatch z), by rw [len, sizeLine_eq]; decide, nv_step g nA hA len mc kj x1 k1 (fun z => absurd z (by decide))⟩⟩⟩
  rintro σ1 H1 ⟨Z, x, xs, rfl, g, nA, hA, len, mc, kj⟩
  refine ⟨Nv (cxOf (L2N.CX P w) P w K mg base ["number", "length", "machine", "asks"] "_law_ask" (defScope s_law_ask) f (.ref cc) A outer s H E) Ts H 2 l K CM 2, ?_, ?_⟩
  · exact ⟨_, rfl, .inl ⟨rfl, _, SqL.of hA⟩, lam_use ⟨g.tabs, fun f1 G1 x1 k1 => ⟨Z, _, _, rfl, rfl, x1.ext _ _ hA (fun _ z => nomatch z), by rw [len, sizeLine_eq]; decide, nv_step g nA hA len mc kj x1 k1 (fun _ => ⟨rfl, rfl, rfl⟩)⟩⟩⟩
  rintro σ1 H1 ⟨Z, x, xs, rfl, g, nA, hA, len, mc, kj⟩
  refine ⟨Nv (cxOf (L2N.CX P w) P w K mg base ["number", "length", "machine", "asks"] "_law_ask" (defScope s_law_ask) f (.ref cc) A outer s H E) Ts H 2 l K CM 3, ?_, ?_⟩
  · exact ⟨_, rfl, .inl ⟨rfl, _, SqL.of hA⟩, lam_use ⟨g.tabs, fun f1 G1 x1 k1 => ⟨Z, _, _, rfl, rfl, x1.ext _ _ hA (fun _ z => nomatch z), by rw [len, sizeLine_eq]; decide, nv_step g nA hA len mc kj x1 k1 (fun z => absurd z (by decide))⟩⟩⟩
  rintro σ1 H1 ⟨Z, x, xs, rfl, g, nA, hA, len, mc, kj⟩
  refine ⟨Nv (cxOf (L2N.CX P w) P w K mg base ["number", "length", "machine", "asks"] "_law_ask" (defScope s_law_ask) f (.ref cc) A outer s H E) Ts H 2 l K CM 4, ?_, ?_⟩
  · exact ⟨_, rfl, .inl ⟨rfl, _, SqL.of hA⟩, lam_use ⟨g.tabs, fun f1 G1 x1 k1 => ⟨Z, _, _, rfl, rfl, x1.ext _ _ hA (fun _ z => nomatch z), by rw [len, sizeLine_eq]; decide, nv_step g nA hA len mc kj x1 k1 (fun z => absurd z (by decide))⟩⟩⟩
  rintro σ1 H1 ⟨Z, x, xs, rfl, g, nA, hA, len, mc, kj⟩
  refine ⟨Nv (cxOf (L2N.CX P w) P w K mg base ["number", "length", "machine", "asks"] "_law_ask" (defScope s_law_ask) f (.ref cc) A outer s H E) Ts H 2 l K CM 5, ?_, ?_⟩
  · exact ⟨_, rfl, .inl ⟨rfl, _, SqL.of hA⟩, lam_use ⟨g.tabs, fun f1 G1 x1 k1 => ⟨Z, _, _, rfl, rfl, x1.ext _ _ hA (fun _ z => nomatch z), by rw [len, sizeLine_eq]; decide, nv_step g nA hA len mc kj x1 k1 (fun z => absurd z (by decide))⟩⟩⟩
  rintro σ1 H1 ⟨Z, x, xs, rfl, g, nA, hA, len, mc, kj⟩
  refine ⟨Nv (cxOf (L2N.CX P w) P w K mg base ["number", "length", "machine", "asks"] "_law_ask" (defScope s_law_ask) f (.ref cc) A outer s H E) Ts H 2 l K CM 6, ?_, ?_⟩
  · exact ⟨_, rfl, .inl ⟨rfl, _, SqL.of hA⟩, lam_use ⟨g.tabs, fun f1 G1 x1 k1 => ⟨Z, _, _, rfl, rfl, x1.ext _ _ hA (fun _ z => nomatch z), by rw [len, sizeLine_eq]; decide, nv_step g nA hA len mc kj x1 k1 (fun z => absurd z (by decide))⟩⟩⟩
  rintro σ1 H1 ⟨Z, x, xs, rfl, g, nA, hA, len, mc, kj⟩
  refine ⟨Nv (cxOf (L2N.CX P w) P w K mg base ["number", "length", "machine", "asks"] "_law_ask" (defScope s_law_ask) f (.ref cc) A outer s H E) Ts H 2 l K CM 7, ?_, ?_⟩
  · exact ⟨_, rfl, .inl ⟨rfl, _, SqL.of hA⟩, lam_use ⟨g.tabs, fun f1 G1 x1 k1 => ⟨Z, _, _, rfl, rfl, x1.ext _ _ hA (fun _ z => nomatch z), by rw [len, sizeLine_eq]; decide, nv_step g nA hA len mc kj x1 k1 (fun z => absurd z (by decide))⟩⟩⟩
  rintro σ1 H1 ⟨Z, x, xs, rfl, g, nA, hA, len, mc, kj⟩
  refine ⟨Nv (cxOf (L2N.CX P w) P w K mg base ["number", "length", "machine", "asks"] "_law_ask" (defScope s_law_ask) f (.ref cc) A outer s H E) Ts H 2 l K CM 8, ?_, ?_⟩
  · exact ⟨_, rfl, .inl ⟨rfl, _, SqL.of hA⟩, lam_use ⟨g.tabs, fun f1 G1 x1 k1 => ⟨Z, _, _, rfl, rfl, x1.ext _ _ hA (fun _ z => nomatch z), by rw [len, sizeLine_eq]; decide, nv_step g nA hA len mc kj x1 k1 (fun z => absurd z (by decide))⟩⟩⟩
  rintro σ1 H1 ⟨Z, x, xs, rfl, g, nA, hA, len, mc, kj⟩
  obtain ⟨ff, hff, kj⟩ := kj (by decide)
  refine ⟨_, rfl, _, rfl, Z, _, _, _, rfl, rfl, SqL.of hA, atI_nat hff, go_use kj ?_⟩
  rcases hl with rfl | rfl | rfl
  · refine ⟨by show 1 ≤ sizeLine; decide, fun p0 h0 => ⟨p0, 4, _, rfl, rfl, upd_same, by decide, by decide, by show 4 ≤ sizeLine; decide, fun p1 h1 y dy hy hdy ne => ?_⟩⟩
    have e := (same_new (o := HO.lst [.int 2]) h0).trans (same_new (o := HO.lst [.int 2, .int 2, .int 2, .int 2]) h1)
    refine cn_make (rs := [2, 2, 2, 2]) ⟨by decide, by decide, by decide, by decide, by decide⟩ (.inl (SqL.of upd_same)) M.nil hy hdy ne fun G mG cn => ?_
    refine ⟨by show 1 ≤ sizeLine; decide, fun t1 i1 => ⟨_, rfl, t1, 1, [.int 1], rfl, rfl, SqT.of upd_same, by simp, by decide, by decide, fun r1 G1 e1 s1 => ⟨by show 1 ≤ sizeLine; decide, fun t2 i2 => ⟨_, rfl, _, _, rfl, rfl, t2, 3, [.int 2], rfl, rfl, SqT.of upd_same, by simp, by decide, by decide, fun r2 G2 e2 s2 => ?_⟩⟩⟩⟩
    have s1' := sqT_same ((same_new (o := HO.tup [.int 2]) i2).trans e2) s1
    refine ⟨r1, r2, _, _, rfl, rfl, s1', s2, by show 4 ≤ sizeLine; decide, fun r3 G3 e3 s3 => ?_⟩
    have eG := ((((same_new (o := HO.tup [.int 1]) i1).trans e1).trans (same_new (o := HO.tup [.int 2]) i2)).trans e2).trans e3
    refine ⟨y, [2, 2, 2, 2], _, .ref r3, some (([1, 2, 2, 2] : List Int).map V.int), rfl, cn.same eG, ⟨.seq (.inr s3), fun ys ey _ => kns_ints (m := 4) ys ey (by cases ey; decide), fun z => ?_, fun ys i ey _ fw => ?_⟩, fun ys ey _ al => ?_⟩
    · rcases z with z | ⟨ys, ey, z⟩
      · cases z
      · cases ey
        exact absurd rfl z
    · cases ey
      obtain rfl := fw_one fw (fwX 1 (by decide))
      exact q _ (g.same ((e.trans mG).trans eG))
    · cases ey
      exact absurd (al 1 (.int 2) rfl) (by decide)
  · refine ⟨by show 1 ≤ sizeLine; decide, fun p0 h0 => ⟨p0, 4, _, rfl, rfl, upd_same, by decide, by decide, by show 4 ≤ sizeLine; decide, fun p1 h1 y dy hy hdy ne => ?_⟩⟩
    have e := (same_new (o := HO.lst [.int 2]) h0).trans (same_new (o := HO.lst [.int 2, .int 2, .int 2, .int 2]) h1)
    refine cn_make (rs := [2, 2, 2, 2]) ⟨by decide, by decide, by decide, by decide, by decide⟩ (.inl (SqL.of upd_same)) M.nil hy hdy ne fun G mG cn => ?_
    refine ⟨by show 1 ≤ sizeLine; decide, fun t1 i1 => ⟨_, rfl, t1, 2, [.int 1], rfl, rfl, SqT.of upd_same, by simp, by decide, by decide, fun r1 G1 e1 s1 => ⟨by show 1 ≤ sizeLine; decide, fun t2 i2 => ⟨_, rfl, _, _, rfl, rfl, t2, 2, [.int 2], rfl, rfl, SqT.of upd_same, by simp, by decide, by decide, fun r2 G2 e2 s2 => ?_⟩⟩⟩⟩
    have s1' := sqT_same ((same_new (o := HO.tup [.int 2]) i2).trans e2) s1
    refine ⟨r1, r2, _, _, rfl, rfl, s1', s2, by show 4 ≤ sizeLine; decide, fun r3 G3 e3 s3 => ?_⟩
    have eG := ((((same_new (o := HO.tup [.int 1]) i1).trans e1).trans (same_new (o := HO.tup [.int 2]) i2)).trans e2).trans e3
    refine ⟨y, [2, 2, 2, 2], _, .ref r3, some (([1, 1, 2, 2] : List Int).map V.int), rfl, cn.same eG, ⟨.seq (.inr s3), fun ys ey _ => kns_ints (m := 4) ys ey (by cases ey; decide), fun z => ?_, fun ys i ey _ fw => ?_⟩, fun ys ey _ al => ?_⟩
    · rcases z with z | ⟨ys, ey, z⟩
      · cases z
      · cases ey
        exact absurd rfl z
    · cases ey
      obtain rfl := fw_one fw (fwX 2 (by decide))
      exact q _ (g.same ((e.trans mG).trans eG))
    · cases ey
      exact absurd (al 2 (.int 2) rfl) (by decide)
  · refine ⟨by show 1 ≤ sizeLine; decide, fun p0 h0 => ⟨p0, 4, _, rfl, rfl, upd_same, by decide, by decide, by show 4 ≤ sizeLine; decide, fun p1 h1 y dy hy hdy ne => ?_⟩⟩
    have e := (same_new (o := HO.lst [.int 2]) h0).trans (same_new (o := HO.lst [.int 2, .int 2, .int 2, .int 2]) h1)
    refine cn_make (rs := [2, 2, 2, 2]) ⟨by decide, by decide, by decide, by decide, by decide⟩ (.inl (SqL.of upd_same)) M.nil hy hdy ne fun G mG cn => ?_
    refine ⟨by show 1 ≤ sizeLine; decide, fun t1 i1 => ⟨_, rfl, t1, 3, [.int 1], rfl, rfl, SqT.of upd_same, by simp, by decide, by decide, fun r1 G1 e1 s1 => ⟨by show 1 ≤ sizeLine; decide, fun t2 i2 => ⟨_, rfl, _, _, rfl, rfl, t2, 1, [.int 2], rfl, rfl, SqT.of upd_same, by simp, by decide, by decide, fun r2 G2 e2 s2 => ?_⟩⟩⟩⟩
    have s1' := sqT_same ((same_new (o := HO.tup [.int 2]) i2).trans e2) s1
    refine ⟨r1, r2, _, _, rfl, rfl, s1', s2, by show 4 ≤ sizeLine; decide, fun r3 G3 e3 s3 => ?_⟩
    have eG := ((((same_new (o := HO.tup [.int 1]) i1).trans e1).trans (same_new (o := HO.tup [.int 2]) i2)).trans e2).trans e3
    refine ⟨y, [2, 2, 2, 2], _, .ref r3, some (([1, 1, 1, 2] : List Int).map V.int), rfl, cn.same eG, ⟨.seq (.inr s3), fun ys ey _ => kns_ints (m := 4) ys ey (by cases ey; decide), fun z => ?_, fun ys i ey _ fw => ?_⟩, fun ys ey _ al => ?_⟩
    · rcases z with z | ⟨ys, ey, z⟩
      · cases z
      · cases ey
        exact absurd rfl z
    · cases ey
      obtain rfl := fw_one fw (fwX 3 (by decide))
      exact q _ (g.same ((e.trans mG).trans eG))
    · cases ey
      exact absurd (al 3 (.int 2) rfl) (by decide)

theorem ask_3 {A : Around} {outer : List Env} {s : Shared} {H : Hp} {Q : VK} {E : XK} {l : Nat} (T : Mg mg) (TM : ClsM K mg CM) (TC : ClsC K mg C) (TB : LamX.TabB base mg cc Pt) (mem : (Pt, (Str.ofString "_law_ask" ++ ".<locals>.") ++ "<lambda>") ∈ Ts) (only : ∀ p ∈ Ts, p.1 = Pt → p.2 = (Str.ofString "_law_ask" ++ ".<locals>.") ++ "<lambda>")
    (B : Fns P w K mg base a C CM) (M : Mks P w K mg base a C CM td) (hr : Room 9 (A.deeper (envOfC "_law_ask" (defScope s_law_ask) s.heap.objs.size f (.ref cc)))) (tabs : LamX.Tabs Ts H) (hl : l = 1 ∨ l = 2 ∨ l = 3) (q : ∀ G, Wt Ts H G → Thrown E G a.cT "at" (.int (l : Nat))) :
    ∃ t, PSs (cxOf (L2N.CX P w) P w K mg base ["number", "length", "machine", "asks"] "_law_ask" (defScope s_law_ask) f (.ref cc) A outer s H E) (defBody s_law_ask) t ∧ t { nx := fun _ H' => Q .non H', rt := Q } (L2.start ["number", "length", "machine", "asks"] [.int (3 : Nat), .int (l : Nat)]) H := by
  refine ⟨_, (pss_cons (ps_mid (ps_set (i := 2) sc_ask.nd rfl (by first | exact Or.inl rfl | exact Or.inr rfl) (pe_mac (K := K) M TM hr pzN (pa_cons (pe_lst (pa_cons (pe_lst (pa_cons pe_int (pa_cons pe_int (pa_cons pe_int pa_nil)))) (pa_cons (pe_lst (pa_cons pe_int (pa_cons pe_int (pa_cons pe_int pa_nil)))) pa_nil))) pa_nil))))
      (pss_cons (ps_mid (ps_set (i := 3) sc_ask.nd rfl (by first | exact Or.inl rfl | exact Or.inr rfl) (pe_lst (pa_cons (pe_lamA TB rfl mem only rfl) pa_nil))))
      (pss_cons (ps_mid (ps_expr (pe_bm PySem.F.plainAttrs_list PySem.F.slot_list_append PySem.F.type_list_append mt_append (pv 3) (pa_cons (pe_lamA TB rfl mem only rfl) pa_nil))))
      (pss_cons (ps_mid (ps_expr (pe_bm PySem.F.plainAttrs_list PySem.F.slot_list_append PySem.F.type_list_append mt_append (pv 3) (pa_cons (pe_lamA TB rfl mem only rfl) pa_nil))))
      (pss_cons (ps_mid (ps_expr (pe_bm PySem.F.plainAttrs_list PySem.F.slot_list_append PySem.F.type_list_append mt_append (pv 3) (pa_cons (pe_lamA TB rfl mem only rfl) pa_nil))))
      (pss_cons (ps_mid (ps_expr (pe_bm PySem.F.plainAttrs_list PySem.F.slot_list_append PySem.F.type_list_append mt_append (pv 3) (pa_cons (pe_lamA TB rfl mem only rfl) pa_nil))))
      (pss_cons (ps_mid (ps_expr (pe_bm PySem.F.plainAttrs_list PySem.F.slot_list_append PySem.F.type_list_append mt_append (pv 3) (pa_cons (pe_lamA TB rfl mem only rfl) pa_nil))))
      (pss_cons (ps_mid (ps_expr (pe_bm PySem.F.plainAttrs_list PySem.F.slot_list_append PySem.F.type_list_append mt_append (pv 3) (pa_cons (pe_lamA TB rfl mem only rfl) pa_nil))))
      (pss_cons (ps_mid (ps_expr (pe_bm PySem.F.plainAttrs_list PySem.F.slot_list_append PySem.F.type_list_append mt_append (pv 3) (pa_cons (pe_lamA TB rfl mem only rfl) pa_nil))))
      (pss_cons (ps_mid (ps_expr (pe_bm PySem.F.plainAttrs_list PySem.F.slot_list_append PySem.F.type_list_append mt_append (pv 3) (pa_cons (pe_lamA TB rfl mem only rfl) pa_nil))))
      (pss_one (ps_ret (pe_lamGo (ι := Unit) (k := 8) (E := E) (fun _ => lamP 3) (fun _ => lamB 3) (fun _ => lamC 3) (fun _ => _) (pe_ix ix_list (pv 3) (pv 0) (fun _ _ => rfl)) hr (fun _ => lamA rfl) (L2N.passes_call (E := E) (L2N.takes_of rfl rfl rfl rfl) (fun _ _ _ _ z => z)) (fun _ _ _ _ _ _ => rfl) (fun _ A outer s H f c2 hr2 => pe_callC B.rrow hr2 passLN (pa_cons (pv 2) (pa_cons (pe_op op_add_str (pe_op op_zz pe_str (pv 1)) pe_str) pa_nil)))))))))))))))), ?_⟩
  refine ⟨fun σ1 H1 => ∃ x, σ1 = [some (.int (3 : Nat)), some (.int (l : Nat)), some (.ref x), none] ∧ Wt Ts H H1 ∧ McAt K CM H1 x 3 tsX, ?_, ?_⟩
  · refine ⟨by show 3 ≤ sizeLine; decide, fun q0 h0 => ⟨by show 3 ≤ sizeLine; decide, fun q1 h1 => ⟨by show 2 ≤ sizeLine; decide, fun L hL x dx hx hdx nx => ?_⟩⟩⟩
    have w0 : Wt Ts H _ := (((Wt.refl tabs).same (same_new (o := HO.lst [.int 1, .int 0, .int 2]) h0)).same (same_new (o := HO.lst [.int 0, .int 0, .int 1]) h1)).same (same_new (o := HO.lst [.ref q0, .ref q1]) hL)
    have r0 := (SqL.of (K := K) (same_new (o := HO.lst [.ref q0, .ref q1]) hL _ _ (same_new (o := HO.lst [.int 0, .int 0, .int 1]) h1 _ _ (upd_same (H := H) (a := q0) (o := HO.lst [.int 1, .int 0, .int 2])))))
    have r1 := SqL.of (K := K) (same_new (o := HO.lst [.ref q0, .ref q1]) hL _ _ (upd_same (a := q1) (o := HO.lst [.int 0, .int 0, .int 1])))
    refine mc_make (ts := tsX) mokX (.inl (SqL.of upd_same)) ⟨⟨q0, rfl, .inl r0⟩, ⟨q1, rfl, .inl r1⟩, trivial⟩ hx hdx nx fun G mG mc => ?_
    exact ⟨x, rfl, w0.same mG, mc⟩
  rintro σ1 H1 ⟨x, rfl, g, mc⟩
  refine ⟨Nv (cxOf (L2N.CX P w) P w K mg base ["number", "length", "machine", "asks"] "_law_ask" (defScope s_law_ask) f (.ref cc) A outer s H E) Ts H 3 l K CM 0, ?_, ?_⟩
  · exact lam_use ⟨g.tabs, fun f0 G0 x0 k0 => ⟨by show 1 ≤ sizeLine; decide, fun Z hA => nv_start 3 g mc x0 k0 (fun z => nomatch z) hA⟩⟩
  rintro σ1 H1 ⟨Z, x, xs, rfl, g, nA, hA, len, mc, kj⟩
  refine ⟨Nv (cxOf (L2N.CX P w) P w K mg base ["number", "length", "machine", "asks"] "_law_ask" (defScope s_law_ask) f (.ref cc) A outer s H E) Ts H 3 l K CM 1, ?_, ?_⟩
  · exact ⟨_, rfl, .inl ⟨rfl, _, SqL.of hA⟩, lam_use ⟨g.tabs, fun f1 G1 x1 k1 => ⟨Z, _, _, rfl, rfl, x1.ext _ _ hA (fun _ z => nomatch z), by rw [len, sizeLine_eq]; decide, nv_step g nA hA len mc kj x1 k1 (fun z => absurd z (by decide))⟩⟩⟩
  rintro σ1 H1 ⟨Z, x, xs, rfl, g, nA, hA, len, mc, kj⟩
  refine ⟨Nv (cxOf (L2N.CX P w) P w K mg base ["number", "length", "machine", "asks"] "_law_ask" (defScope s_law_ask) f (.ref cc) A outer s H E) Ts H 3 l K CM 2, ?_, ?_⟩
  · exact ⟨_, rfl, .inl ⟨rfl, _, SqL.of hA⟩, lam_use ⟨g.tabs, fun f1 G1 x1 k1 => ⟨Z, _, _, rfl, rfl, x1.ext _ _ hA (fun _ z => nomatch z), by rw [len, sizeLine_eq]; decide, nv_step g nA hA len mc kj x1 k1 (fun z => absurd z (by decide))⟩⟩⟩
  rintro σ1 H1 ⟨Z, x, xs, rfl, g, nA, hA, len, mc, kj⟩
  refine ⟨Nv (cxOf (L2N.CX P w) P w K mg base ["number", "length", "machine", "asks"] "_law_ask" (defScope s_law_ask) f (.ref cc) A outer s H E) Ts H 3 l K CM 3, ?_, ?_⟩
  · exact ⟨_, rfl, .inl ⟨rfl, _, SqL.of hA⟩, lam_use ⟨g.tabs, fun f1 G1 x1 k1 => ⟨Z, _, _, rfl, rfl, x1.ext _ _ hA (fun _ z => nomatch z), by rw [len, sizeLine_eq]; decide, nv_step g nA hA len mc kj x1 k1 (fun _ => ⟨rfl, rfl, rfl⟩)⟩⟩⟩
  rintro σ1 H1 ⟨Z, x, xs, rfl, g, nA, hA, len, mc, kj⟩
  refine ⟨Nv (cxOf (L2N.CX P w) P w K mg base ["number", "length", "machine", "asks"] "_law_ask" (defScope s_law_ask) f (.ref cc) A outer s H E) Ts H 3 l K CM 4, ?_, ?_⟩
  · exact ⟨_, rfl, .inl ⟨rfl, _, SqL.of hA⟩, lam_use ⟨g.tabs, fun f1 G1 x1 k1 => ⟨Z, _, _, rfl, rfl, x1.ext _ _ hA (fun _ z => nomatch z), by rw [len, sizeLine_eq]; decide, nv_step g nA hA len mc kj x1 k1 (fun z => absurd z (by decide))⟩⟩⟩
  rintro σ1 H1 ⟨Z, x, xs, rfl, g, nA, hA, len, mc, kj⟩
  refine ⟨Nv (cxOf (L2N.CX P w) P w K mg base ["number", "length", "machine", "asks"] "_law_ask" (defScope s_law_ask) f (.ref cc) A outer s H E) Ts H 3 l K CM 5, ?_, ?_⟩
  · exact ⟨_, rfl, .inl ⟨rfl, _, SqL.of hA⟩, lam_use ⟨g.tabs, fun f1 G1 x1 k1 => ⟨Z, _, _, rfl, rfl, x1.ext _ _ hA (fun _ z => nomatch z), by rw [len, sizeLine_eq]; decide, nv_step g nA hA len mc kj x1 k1 (fun z => absurd z (by decide))⟩⟩⟩
  rintro σ1 H1 ⟨Z, x, xs, rfl, g, nA, hA, len, mc, kj⟩
  refine ⟨Nv (cxOf (L2N.CX P w) P w K mg base ["number", "length", "machine", "asks"] "_law_ask" (defScope s_law_ask) f (.ref cc) A outer s H E) Ts H 3 l K CM 6, ?_, ?_⟩
  · exact ⟨_, rfl, .inl ⟨rfl, _, SqL.of hA⟩, lam_use ⟨g.tabs, fun f1 G1 x1 k1 => ⟨Z, _, _, rfl, rfl, x1.ext _ _ hA (fun _ z => nomatch z), by rw [len, sizeLine_eq]; decide, nv_step g nA hA len mc kj x1 k1 (fun z => absurd z (by decide))⟩⟩⟩
  rintro σ1 H1 ⟨Z, x, xs, rfl, g, nA, hA, len, mc, kj⟩
  refine ⟨Nv (cxOf (L2N.CX P w) P w K mg base ["number", "length", "machine", "asks"] "_law_ask" (defScope s_law_ask) f (.ref cc) A outer s H E) Ts H 3 l K CM 7, ?_, ?_⟩
  · exact ⟨_, rfl, .inl ⟨rfl, _, SqL.of hA⟩, lam_use ⟨g.tabs, fun f1 G1 x1 k1 => ⟨Z, _, _, rfl, rfl, x1.ext _ _ hA (fun _ z => nomatch z), by rw [len, sizeLine_eq]; decide, nv_step g nA hA len mc kj x1 k1 (fun z => absurd z (by decide))⟩⟩⟩
  rintro σ1 H1 ⟨Z, x, xs, rfl, g, nA, hA, len, mc, kj⟩
  refine ⟨Nv (cxOf (L2N.CX P w) P w K mg base ["number", "length", "machine", "asks"] "_law_ask" (defScope s_law_ask) f (.ref cc) A outer s H E) Ts H 3 l K CM 8, ?_, ?_⟩
  · exact ⟨_, rfl, .inl ⟨rfl, _, SqL.of hA⟩, lam_use ⟨g.tabs, fun f1 G1 x1 k1 => ⟨Z, _, _, rfl, rfl, x1.ext _ _ hA (fun _ z => nomatch z), by rw [len, sizeLine_eq]; decide, nv_step g nA hA len mc kj x1 k1 (fun z => absurd z (by decide))⟩⟩⟩
  rintro σ1 H1 ⟨Z, x, xs, rfl, g, nA, hA, len, mc, kj⟩
  obtain ⟨ff, hff, kj⟩ := kj (by decide)
  refine ⟨_, rfl, _, rfl, Z, _, _, _, rfl, rfl, SqL.of hA, atI_nat hff, go_use kj ?_⟩
  rcases hl with rfl | rfl | rfl
  · have ez : zz 1 ++ ("2" : Str) = txt 1 := by decide +kernel
    refine ⟨_, rfl, _, rfl, 1, rfl, rfl, by decide, _, _, rfl, rfl, by decide +kernel, ?_⟩
    rw [ez]
    exact ⟨x, 1, rfl, by decide, mc, q _ g⟩
  · have ez : zz 2 ++ ("2" : Str) = txt 2 := by decide +kernel
    refine ⟨_, rfl, _, rfl, 2, rfl, rfl, by decide, _, _, rfl, rfl, by decide +kernel, ?_⟩
    rw [ez]
    exact ⟨x, 2, rfl, by decide, mc, q _ g⟩
  · have ez : zz 3 ++ ("2" : Str) = txt 3 := by decide +kernel
    refine ⟨_, rfl, _, rfl, 3, rfl, rfl, by decide, _, _, rfl, rfl, by decide +kernel, ?_⟩
    rw [ez]
    exact ⟨x, 3, rfl, by decide, mc, q _ g⟩

theorem ask_4 {A : Around} {outer : List Env} {s : Shared} {H : Hp} {Q : VK} {E : XK} {l : Nat} (T : Mg mg) (TM : ClsM K mg CM) (TC : ClsC K mg C) (TB : LamX.TabB base mg cc Pt) (mem : (Pt, (Str.ofString "_law_ask" ++ ".<locals>.") ++ "<lambda>") ∈ Ts) (only : ∀ p ∈ Ts, p.1 = Pt → p.2 = (Str.ofString "_law_ask" ++ ".<locals>.") ++ "<lambda>")
    (B : Fns P w K mg base a C CM) (M : Mks P w K mg base a C CM td) (hr : Room 9 (A.deeper (envOfC "_law_ask" (defScope s_law_ask) s.heap.objs.size f (.ref cc)))) (tabs : LamX.Tabs Ts H) (hl : l = 1 ∨ l = 2 ∨ l = 3) (q : ∀ G, Wt Ts H G → ∀ p, SqT K G p [.int (0 - (l : Nat))] → Thrown E G a.cF "at" (.ref p)) :
    ∃ t, PSs (cxOf (L2N.CX P w) P w K mg base ["number", "length", "machine", "asks"] "_law_ask" (defScope s_law_ask) f (.ref cc) A outer s H E) (defBody s_law_ask) t ∧ t { nx := fun _ H' => Q .non H', rt := Q } (L2.start ["number", "length", "machine", "asks"] [.int (4 : Nat), .int (l : Nat)]) H := by
  refine ⟨_, (pss_cons (ps_mid (ps_set (i := 2) sc_ask.nd rfl (by first | exact Or.inl rfl | exact Or.inr rfl) (pe_mac (K := K) M TM hr pzN (pa_cons (pe_lst (pa_cons (pe_lst (pa_cons pe_int (pa_cons pe_int (pa_cons pe_int pa_nil)))) (pa_cons (pe_lst (pa_cons pe_int (pa_cons pe_int (pa_cons pe_int pa_nil)))) pa_nil))) pa_nil))))
      (pss_cons (ps_mid (ps_set (i := 3) sc_ask.nd rfl (by first | exact Or.inl rfl | exact Or.inr rfl) (pe_lst (pa_cons (pe_lamA TB rfl mem only rfl) pa_nil))))
      (pss_cons (ps_mid (ps_expr (pe_bm PySem.F.plainAttrs_list PySem.F.slot_list_append PySem.F.type_list_append mt_append (pv 3) (pa_cons (pe_lamA TB rfl mem only rfl) pa_nil))))
      (pss_cons (ps_mid (ps_expr (pe_bm PySem.F.plainAttrs_list PySem.F.slot_list_append PySem.F.type_list_append mt_append (pv 3) (pa_cons (pe_lamA TB rfl mem only rfl) pa_nil))))
      (pss_cons (ps_mid (ps_expr (pe_bm PySem.F.plainAttrs_list PySem.F.slot_list_append PySem.F.type_list_append mt_append (pv 3) (pa_cons (pe_lamA TB rfl mem only rfl) pa_nil))))
      (pss_cons (ps_mid (ps_expr (pe_bm PySem.F.plainAttrs_list PySem.F.slot_list_append PySem.F.type_list_append mt_append (pv 3) (pa_cons (pe_lamA TB rfl mem only rfl) pa_nil))))
      (pss_cons (ps_mid (ps_expr (pe_bm PySem.F.plainAttrs_list PySem.F.slot_list_append PySem.F.type_list_append mt_append (pv 3) (pa_cons (pe_lamA TB rfl mem only rfl) pa_nil))))
      (pss_cons (ps_mid (ps_expr (pe_bm PySem.F.plainAttrs_list PySem.F.slot_list_append PySem.F.type_list_append mt_append (pv 3) (pa_cons (pe_lamA TB rfl mem only rfl) pa_nil))))
      (pss_cons (ps_mid (ps_expr (pe_bm PySem.F.plainAttrs_list PySem.F.slot_list_append PySem.F.type_list_append mt_append (pv 3) (pa_cons (pe_lamA TB rfl mem only rfl) pa_nil))))
      (pss_cons (ps_mid (ps_expr (pe_bm PySem.F.plainAttrs_list PySem.F.slot_list_append PySem.F.type_list_append mt_append (pv 3) (pa_cons (pe_lamA TB rfl mem only rfl) pa_nil))))
      (pss_one (ps_ret (pe_lamGo (ι := Unit) (k := 8) (E := E) (fun _ => lamP 4) (fun _ => lamB 4) (fun _ => lamC 4) (fun _ => _) (pe_ix ix_list (pv 3) (pv 0) (fun _ _ => rfl)) hr (fun _ => lamA rfl) (L2N.passes_call (E := E) (L2N.takes_of rfl rfl rfl rfl) (fun _ _ _ _ z => z)) (fun _ _ _ _ _ _ => rfl) (fun _ A outer s H f c2 hr2 => pe_cnt1 (K := K) M TC hr2 passLN (pa_cons (pe_tup (pa_cons (pe_op op_sub pe_int (pv 1)) pa_nil)) pa_nil))))))))))))))), ?_⟩
  refine ⟨fun σ1 H1 => ∃ x, σ1 = [some (.int (4 : Nat)), some (.int (l : Nat)), some (.ref x), none] ∧ Wt Ts H H1 ∧ McAt K CM H1 x 3 tsX, ?_, ?_⟩
  · refine ⟨by show 3 ≤ sizeLine; decide, fun q0 h0 => ⟨by show 3 ≤ sizeLine; decide, fun q1 h1 => ⟨by show 2 ≤ sizeLine; decide, fun L hL x dx hx hdx nx => ?_⟩⟩⟩
    have w0 : Wt Ts H _ := (((Wt.refl tabs).same (same_new (o := HO.lst [.int 1, .int 0, .int 2]) h0)).same (same_new (o := HO.lst [.int 0, .int 0, .int 1]) h1)).same (same_new (o := HO.lst [.ref q0, .ref q1]) hL)
    have r0 := (SqL.of (K := K) (same_new (o := HO.lst [.ref q0, .ref q1]) hL _ _ (same_new (o := HO.lst [.int 0, .int 0, .int 1]) h1 _ _ (upd_same (H := H) (a := q0) (o := HO.lst [.int 1, .int 0, .int 2])))))
    have r1 := SqL.of (K := K) (same_new (o := HO.lst [.ref q0, .ref q1]) hL _ _ (upd_same (a := q1) (o := HO.lst [.int 0, .int 0, .int 1])))
    refine mc_make (ts := tsX) mokX (.inl (SqL.of upd_same)) ⟨⟨q0, rfl, .inl r0⟩, ⟨q1, rfl, .inl r1⟩, trivial⟩ hx hdx nx fun G mG mc => ?_
    exact ⟨x, rfl, w0.same mG, mc⟩
  rintro σ1 H1 ⟨x, rfl, g, mc⟩
  refine ⟨Nv (cxOf (L2N.CX P w) P w K mg base ["number", "length", "machine", "asks"] "_law_ask" (defScope s_law_ask) f (.ref cc) A outer s H E) Ts H 4 l K CM 0, ?_, ?_⟩
  · exact lam_use ⟨g.tabs, fun f0 G0 x0 k0 => ⟨by show 1 ≤ sizeLine; decide, fun Z hA => nv_start 4 g mc x0 k0 (fun z => nomatch z) hA⟩⟩
  rintro σ1 H1 ⟨Z, x, xs, rfl, g, nA, hA, len, mc, kj⟩
  refine ⟨Nv (cxOf (L2N.CX P w) P w K mg base ["number", "length", "machine", "asks"] "_law_ask" (defScope s_law_ask) f (.ref cc) A outer s H E) Ts H 4 l K CM 1, ?_, ?_⟩
  · exact ⟨_, rfl, .inl ⟨rfl, _, SqL.of hA⟩, lam_use ⟨g.tabs, fun f1 G1 x1 k1 => ⟨Z, _, _, rfl, rfl, x1.ext _ _ hA (fun _ z => nomatch z), by rw [len, sizeLine_eq]; decide, nv_step g nA hA len mc kj x1 k1 (fun z => absurd z (by decide))⟩⟩⟩
  rintro σ1 H1 ⟨Z, x, xs, rfl, g, nA, hA, len, mc, kj⟩
  refine ⟨Nv (cxOf (L2N.CX P w) P w K mg base ["number", "length", "machine", "asks"] "_law_ask" (defScope s_law_ask) f (.ref cc) A outer s H E) Ts H 4 l K CM 2, ?_, ?_⟩
  · exact ⟨_, rfl, .inl ⟨rfl, _, SqL.of hA⟩, lam_use ⟨g.tabs, fun f1 G1 x1 k1 => ⟨Z, _, _, rfl, rfl, x1.ext _ _ hA (fun _ z => nomatch z), by rw [len, sizeLine_eq]; decide, nv_step g nA hA len mc kj x1 k1 (fun z => absurd z (by decide))⟩⟩⟩
  rintro σ1 H1 ⟨Z, x, xs, rfl, g, nA, hA, len, mc, kj⟩
  refine ⟨Nv (cxOf (L2N.CX P w) P w K mg base ["number", "length", "machine", "asks"] "_law_ask" (defScope s_law_ask) f (.ref cc) A outer s H E) Ts H 4 l K CM 3, ?_, ?_⟩
  · exact ⟨_, rfl, .inl ⟨rfl, _, SqL.of hA⟩, lam_use ⟨g.tabs, fun f1 G1 x1 k1 => ⟨Z, _, _, rfl, rfl, x1.ext _ _ hA (fun _ z => nomatch z), by rw [len, sizeLine_eq]; decide, nv_step g nA hA len mc kj x1 k1 (fun z => absurd z (by decide))⟩⟩⟩
  rintro σ1 H1 ⟨Z, x, xs, rfl, g, nA, hA, len, mc, kj⟩
  refine ⟨Nv (cxOf (L2N.CX P w) P w K mg base ["number", "length", "machine", "asks"] "_law_ask" (defScope s_law_ask) f (.ref cc) A outer s H E) Ts H 4 l K CM 4, ?_, ?_⟩
  · exact ⟨_, rfl, .inl ⟨rfl, _, SqL.of hA⟩, lam_use ⟨g.tabs, fun f1 G1 x1 k1 => ⟨Z, _, _, rfl, rfl, x1.ext _ _ hA (fun _ z => nomatch z), by rw [len, sizeLine_eq]; decide, nv_step g nA hA len mc kj x1 k1 (fun _ => ⟨rfl, rfl, rfl⟩)⟩⟩⟩
  rintro σ1 H1 ⟨Z, x, xs, rfl, g, nA, hA, len, mc, kj⟩
  refine ⟨Nv (cxOf (L2N.CX P w) P w K mg base ["number", "length", "machine", "asks"] "_law_ask" (defScope s_law_ask) f (.ref cc) A outer s H E) Ts H 4 l K CM 5, ?_, ?_⟩
  · exact ⟨_, rfl, .inl ⟨rfl, _, SqL.of hA⟩, lam_use ⟨g.tabs, fun f1 G1 x1 k1 => ⟨Z, _, _, rfl, rfl, x1.ext _ _ hA (fun _ z => nomatch z), by rw [len, sizeLine_eq]; decide, nv_step g nA hA len mc kj x1 k1 (fun z => absurd z (by decide))⟩⟩⟩
  rintro σ1 H1 ⟨Z, x, xs, rfl, g, nA, hA, len, mc, kj⟩
  refine ⟨Nv (cxOf (L2N.CX P w) P w K mg base ["number", "length", "machine", "asks"] "_law_ask" (defScope s_law_ask) f (.ref cc) A outer s H E) Ts H 4 l K CM 6, ?_, ?_⟩
  · exact ⟨_, rfl, .inl ⟨rfl, _, SqL.of hA⟩, lam_use ⟨g.tabs, fun f1 G1 x1 k1 => ⟨Z, _, _, rfl, rfl, x1.ext _ _ hA (fun _ z => nomatch z), by rw [len, sizeLine_eq]; decide, nv_step g nA hA len mc kj x1 k1 (fun z => absurd z (by decide))⟩⟩⟩
  rintro σ1 H1 ⟨Z, x, xs, rfl, g, nA, hA, len, mc, kj⟩
  refine ⟨Nv (cxOf (L2N.CX P w) P w K mg base ["number", "length", "machine", "asks"] "_law_ask" (defScope s_law_ask) f (.ref cc) A outer s H E) Ts H 4 l K CM 7, ?_, ?_⟩
  · exact ⟨_, rfl, .inl ⟨rfl, _, SqL.of hA⟩, lam_use ⟨g.tabs, fun f1 G1 x1 k1 => ⟨Z, _, _, rfl, rfl, x1.ext _ _ hA (fun _ z => nomatch z), by rw [len, sizeLine_eq]; decide, nv_step g nA hA len mc kj x1 k1 (fun z => absurd z (by decide))⟩⟩⟩
  rintro σ1 H1 ⟨Z, x, xs, rfl, g, nA, hA, len, mc, kj⟩
  refine ⟨Nv (cxOf (L2N.CX P w) P w K mg base ["number", "length", "machine", "asks"] "_law_ask" (defScope s_law_ask) f (.ref cc) A outer s H E) Ts H 4 l K CM 8, ?_, ?_⟩
  · exact ⟨_, rfl, .inl ⟨rfl, _, SqL.of hA⟩, lam_use ⟨g.tabs, fun f1 G1 x1 k1 => ⟨Z, _, _, rfl, rfl, x1.ext _ _ hA (fun _ z => nomatch z), by rw [len, sizeLine_eq]; decide, nv_step g nA hA len mc kj x1 k1 (fun z => absurd z (by decide))⟩⟩⟩
  rintro σ1 H1 ⟨Z, x, xs, rfl, g, nA, hA, len, mc, kj⟩
  obtain ⟨ff, hff, kj⟩ := kj (by decide)
  refine ⟨_, rfl, _, rfl, Z, _, _, _, rfl, rfl, SqL.of hA, atI_nat hff, go_use kj ?_⟩
  rcases hl with rfl | rfl | rfl
  · refine ⟨_, rfl, _, _, rfl, rfl, by show 1 ≤ sizeLine; decide, fun p hp y dy hy hdy ne => ?_⟩
    have en := new_ins (C := C) hy hdy ne
    have st := sqT_same en (SqT.of (K := K) (upd_same (H := H1) (a := p) (o := HO.tup [.int (0 - ((1 : Nat) : Int))])))
    refine ⟨y, dy, _, _, some (([0 - ((1 : Nat) : Int)] : List Int).map V.int), some [], rfl, upd_same, .seq (.inr st), kns_ints, .seq (.inr (M.nil _)), fun xs ex _ z hz => ?_, fun _ => ?_, fun xs ex r1 => ?_, fun rs es ok e1 => ?_⟩
    · cases ex
      cases hz
    · exact q _ ((g.same (same_new hp)).same en) p st
    · cases ex
      exact nomatch r1
    · have er : rs = [0 - ((1 : Nat) : Int)] := by
        have h := congrArg (List.map fun v => match v with | V.int i => i | _ => 0) (Option.some.inj e1)
        simpa [Function.comp_def] using h.symm
      have := (ok.r (0 - ((1 : Nat) : Int)) (by rw [er]; simp)).1
      exact absurd this (by decide)
  · refine ⟨_, rfl, _, _, rfl, rfl, by show 1 ≤ sizeLine; decide, fun p hp y dy hy hdy ne => ?_⟩
    have en := new_ins (C := C) hy hdy ne
    have st := sqT_same en (SqT.of (K := K) (upd_same (H := H1) (a := p) (o := HO.tup [.int (0 - ((2 : Nat) : Int))])))
    refine ⟨y, dy, _, _, some (([0 - ((2 : Nat) : Int)] : List Int).map V.int), some [], rfl, upd_same, .seq (.inr st), kns_ints, .seq (.inr (M.nil _)), fun xs ex _ z hz => ?_, fun _ => ?_, fun xs ex r1 => ?_, fun rs es ok e1 => ?_⟩
    · cases ex
      cases hz
    · exact q _ ((g.same (same_new hp)).same en) p st
    · cases ex
      exact nomatch r1
    · have er : rs = [0 - ((2 : Nat) : Int)] := by
        have h := congrArg (List.map fun v => match v with | V.int i => i | _ => 0) (Option.some.inj e1)
        simpa [Function.comp_def] using h.symm
      have := (ok.r (0 - ((2 : Nat) : Int)) (by rw [er]; simp)).1
      exact absurd this (by decide)
  · refine ⟨_, rfl, _, _, rfl, rfl, by show 1 ≤ sizeLine; decide, fun p hp y dy hy hdy ne => ?_⟩
    have en := new_ins (C := C) hy hdy ne
    have st := sqT_same en (SqT.of (K := K) (upd_same (H := H1) (a := p) (o := HO.tup [.int (0 - ((3 : Nat) : Int))])))
    refine ⟨y, dy, _, _, some (([0 - ((3 : Nat) : Int)] : List Int).map V.int), some [], rfl, upd_same, .seq (.inr st), kns_ints, .seq (.inr (M.nil _)), fun xs ex _ z hz => ?_, fun _ => ?_, fun xs ex r1 => ?_, fun rs es ok e1 => ?_⟩
    · cases ex
      cases hz
    · exact q _ ((g.same (same_new hp)).same en) p st
    · cases ex
      exact nomatch r1
    · have er : rs = [0 - ((3 : Nat) : Int)] := by
        have h := congrArg (List.map fun v => match v with | V.int i => i | _ => 0) (Option.some.inj e1)
        simpa [Function.comp_def] using h.symm
      have := (ok.r (0 - ((3 : Nat) : Int)) (by rw [er]; simp)).1
      exact absurd this (by decide)

theorem ask_5 {A : Around} {outer : List Env} {s : Shared} {H : Hp} {Q : VK} {E : XK} {l : Nat} (T : Mg mg) (TM : ClsM K mg CM) (TC : ClsC K mg C) (TB : LamX.TabB base mg cc Pt) (mem : (Pt, (Str.ofString "_law_ask" ++ ".<locals>.") ++ "<lambda>") ∈ Ts) (only : ∀ p ∈ Ts, p.1 = Pt → p.2 = (Str.ofString "_law_ask" ++ ".<locals>.") ++ "<lambda>")
    (B : Fns P w K mg base a C CM) (M : Mks P w K mg base a C CM td) (hr : Room 9 (A.deeper (envOfC "_law_ask" (defScope s_law_ask) s.heap.objs.size f (.ref cc)))) (tabs : LamX.Tabs Ts H) (hl : l = 1 ∨ l = 2 ∨ l = 3) (q : ∀ G, Wt Ts H G → Thrown E G a.cG "most" (.int (l : Nat))) :
    ∃ t, PSs (cxOf (L2N.CX P w) P w K mg base ["number", "length", "machine", "asks"] "_law_ask" (defScope s_law_ask) f (.ref cc) A outer s H E) (defBody s_law_ask) t ∧ t { nx := fun _ H' => Q .non H', rt := Q } (L2.start ["number", "length", "machine", "asks"] [.int (5 : Nat), .int (l : Nat)]) H := by
  refine ⟨_, (pss_cons (ps_mid (ps_set (i := 2) sc_ask.nd rfl (by first | exact Or.inl rfl | exact Or.inr rfl) (pe_mac (K := K) M TM hr pzN (pa_cons (pe_lst (pa_cons (pe_lst (pa_cons pe_int (pa_cons pe_int (pa_cons pe_int pa_nil)))) (pa_cons (pe_lst (pa_cons pe_int (pa_cons pe_int (pa_cons pe_int pa_nil)))) pa_nil))) pa_nil))))
      (pss_cons (ps_mid (ps_set (i := 3) sc_ask.nd rfl (by first | exact Or.inl rfl | exact Or.inr rfl) (pe_lst (pa_cons (pe_lamA TB rfl mem only rfl) pa_nil))))
      (pss_cons (ps_mid (ps_expr (pe_bm PySem.F.plainAttrs_list PySem.F.slot_list_append PySem.F.type_list_append mt_append (pv 3) (pa_cons (pe_lamA TB rfl mem only rfl) pa_nil))))
      (pss_cons (ps_mid (ps_expr (pe_bm PySem.F.plainAttrs_list PySem.F.slot_list_append PySem.F.type_list_append mt_append (pv 3) (pa_cons (pe_lamA TB rfl mem only rfl) pa_nil))))
      (pss_cons (ps_mid (ps_expr (pe_bm PySem.F.plainAttrs_list PySem.F.slot_list_append PySem.F.type_list_append mt_append (pv 3) (pa_cons (pe_lamA TB rfl mem only rfl) pa_nil))))
      (pss_cons (ps_mid (ps_expr (pe_bm PySem.F.plainAttrs_list PySem.F.slot_list_append PySem.F.type_list_append mt_append (pv 3) (pa_cons (pe_lamA TB rfl mem only rfl) pa_nil))))
      (pss_cons (ps_mid (ps_expr (pe_bm PySem.F.plainAttrs_list PySem.F.slot_list_append PySem.F.type_list_append mt_append (pv 3) (pa_cons (pe_lamA TB rfl mem only rfl) pa_nil))))
      (pss_cons (ps_mid (ps_expr (pe_bm PySem.F.plainAttrs_list PySem.F.slot_list_append PySem.F.type_list_append mt_append (pv 3) (pa_cons (pe_lamA TB rfl mem only rfl) pa_nil))))
      (pss_cons (ps_mid (ps_expr (pe_bm PySem.F.plainAttrs_list PySem.F.slot_list_append PySem.F.type_list_append mt_append (pv 3) (pa_cons (pe_lamA TB rfl mem only rfl) pa_nil))))
      (pss_cons (ps_mid (ps_expr (pe_bm PySem.F.plainAttrs_list PySem.F.slot_list_append PySem.F.type_list_append mt_append (pv 3) (pa_cons (pe_lamA TB rfl mem only rfl) pa_nil))))
      (pss_one (ps_ret (pe_lamGo (ι := Unit) (k := 8) (E := E) (fun _ => lamP 5) (fun _ => lamB 5) (fun _ => lamC 5) (fun _ => _) (pe_ix ix_list (pv 3) (pv 0) (fun _ _ => rfl)) hr (fun _ => lamA rfl) (L2N.passes_call (E := E) (L2N.takes_of rfl rfl rfl rfl) (fun _ _ _ _ z => z)) (fun _ _ _ _ _ _ => rfl) (fun _ A outer s H f c2 hr2 => pe_callNn B.all hr2 passLN (pa_cons (pe_cnt1 (K := K) M TC hr2 pzN (pa_cons (pe_lst (pa_cons (pe_op op_add (pv 1) pe_int) pa_nil)) pa_nil)) pa_nil) (pk_cons (pv 1) pk_nil))))))))))))))), ?_⟩
  refine ⟨fun σ1 H1 => ∃ x, σ1 = [some (.int (5 : Nat)), some (.int (l : Nat)), some (.ref x), none] ∧ Wt Ts H H1 ∧ McAt K CM H1 x 3 tsX, ?_, ?_⟩
  · refine ⟨by show 3 ≤ sizeLine; decide, fun q0 h0 => ⟨by show 3 ≤ sizeLine; decide, fun q1 h1 => ⟨by show 2 ≤ sizeLine; decide, fun L hL x dx hx hdx nx => ?_⟩⟩⟩
    have w0 : Wt Ts H _ := (((Wt.refl tabs).same (same_new (o := HO.lst [.int 1, .int 0, .int 2]) h0)).same (same_new (o := HO.lst [.int 0, .int 0, .int 1]) h1)).same (same_new (o := HO.lst [.ref q0, .ref q1]) hL)
    have r0 := (SqL.of (K := K) (same_new (o := HO.lst [.ref q0, .ref q1]) hL _ _ (same_new (o := HO.lst [.int 0, .int 0, .int 1]) h1 _ _ (upd_same (H := H) (a := q0) (o := HO.lst [.int 1, .int 0, .int 2])))))
    have r1 := SqL.of (K := K) (same_new (o := HO.lst [.ref q0, .ref q1]) hL _ _ (upd_same (a := q1) (o := HO.lst [.int 0, .int 0, .int 1])))
    refine mc_make (ts := tsX) mokX (.inl (SqL.of upd_same)) ⟨⟨q0, rfl, .inl r0⟩, ⟨q1, rfl, .inl r1⟩, trivial⟩ hx hdx nx fun G mG mc => ?_
    exact ⟨x, rfl, w0.same mG, mc⟩
  rintro σ1 H1 ⟨x, rfl, g, mc⟩
  refine ⟨Nv (cxOf (L2N.CX P w) P w K mg base ["number", "length", "machine", "asks"] "_law_ask" (defScope s_law_ask) f (.ref cc) A outer s H E) Ts H 5 l K CM 0, ?_, ?_⟩
  · exact lam_use ⟨g.tabs, fun f0 G0 x0 k0 => ⟨by show 1 ≤ sizeLine; decide, fun Z hA => nv_start 5 g mc x0 k0 (fun z => nomatch z) hA⟩⟩
  rintro σ1 H1 ⟨Z, x, xs, rfl, g, nA, hA, len, mc, kj⟩
  refine ⟨Nv (cxOf (L2N.CX P w) P w K mg base ["number", "length", "machine", "asks"] "_law_ask" (defScope s_law_ask) f (.ref cc) A outer s H E) Ts H 5 l K CM 1, ?_, ?_⟩
  · exact ⟨_, rfl, .inl ⟨rfl, _, SqL.of hA⟩, lam_use ⟨g.tabs, fun f1 G1 x1 k1 => ⟨Z, _, _, rfl, rfl, x1.ext _ _ hA (fun _ z => nomatch z), by rw [len, sizeLine_eq]; decide, nv_step g nA hA len mc kj x1 k1 (fun z => absurd z (by decide))⟩⟩⟩
  rintro σ1 H1 ⟨Z, x, xs, rfl, g, nA, hA, len, mc, kj⟩
  refine ⟨Nv (cxOf (L2N.CX P w) P w K mg base ["number", "length", "machine", "asks"] "_law_ask" (defScope s_law_ask) f (.ref cc) A outer s H E) Ts H 5 l K CM 2, ?_, ?_⟩
  · exact ⟨_, rfl, .inl ⟨rfl, _, SqL.of hA⟩, lam_use ⟨g.tabs, fun f1 G1 x1 k1 => ⟨Z, _, _, rfl, rfl, x1.ext _ _ hA (fun _ z => nomatch z), by rw [len, sizeLine_eq]; decide, nv_step g nA hA len mc kj x1 k1 (fun z => absurd z (by decide))⟩⟩⟩
  rintro σ1 H1 ⟨Z, x, xs, rfl, g, nA, hA, len, mc, kj⟩
  refine ⟨Nv (cxOf (L2N.CX P w) P w K mg base ["number", "length", "machine", "asks"] "_law_ask" (defScope s_law_ask) f (.ref cc) A outer s H E) Ts H 5 l K CM 3, ?_, ?_⟩
  · exact ⟨_, rfl, .inl ⟨rfl, _, SqL.of hA⟩, lam_use ⟨g.tabs, fun f1 G1 x1 k1 => ⟨Z, _, _, rfl, rfl, x1.ext _ _ hA (fun _ z => nomatch z), by rw [len, sizeLine_eq]; decide, nv_step g nA hA len mc kj x1 k1 (fun z => absurd z (by decide))⟩⟩⟩
  rintro σ1 H1 ⟨Z, x, xs, rfl, g, nA, hA, len, mc, kj⟩
  refine ⟨Nv (cxOf (L2N.CX P w) P w K mg base ["number", "length", "machine", "asks"] "_law_ask" (defScope s_law_ask) f (.ref cc) A outer s H E) Ts H 5 l K CM 4, ?_, ?_⟩
  · exact ⟨_, rfl, .inl ⟨rfl, _, SqL.of hA⟩, lam_use ⟨g.tabs, fun f1 G1 x1 k1 => ⟨Z, _, _, rfl, rfl, x1.ext _ _ hA (fun _ z => nomatch z), by rw [len, sizeLine_eq]; decide, nv_step g nA hA len mc kj x1 k1 (fun z => absurd z (by decide))⟩⟩⟩
  rintro σ1 H1 ⟨Z, x, xs, rfl, g, nA, hA, len, mc, kj⟩
  refine ⟨Nv (cxOf (L2N.CX P w) P w K mg base ["number", "length", "machine", "asks"] "_law_ask" (defScope s_law_ask) f (.ref cc) A outer s H E) Ts H 5 l K CM 5, ?_, ?_⟩
  · exact ⟨_, rfl, .inl ⟨rfl, _, SqL.of hA⟩, lam_use ⟨g.tabs, fun f1 G1 x1 k1 => ⟨Z, _, _, rfl, rfl, x1.ext _ _ hA (fun _ z => nomatch z), by rw [len, sizeLine_eq]; decide, nv_step g nA hA len mc kj x1 k1 (fun _ => ⟨rfl, rfl, rfl⟩)⟩⟩⟩
  rintro σ1 H1 ⟨Z, x, xs, rfl, g, nA, hA, len, mc, kj⟩
  refine ⟨Nv (cxOf (L2N.CX P w) P w K mg base ["number", "length", "machine", "asks"] "_law_ask" (defScope s_law_ask) f (.ref cc) A outer s H E) Ts H 5 l K CM 6, ?_, ?_⟩
  · exact ⟨_, rfl, .inl ⟨rfl, _, SqL.of hA⟩, lam_use ⟨g.tabs, fun f1 G1 x1 k1 => ⟨Z, _, _, rfl, rfl, x1.ext _ _ hA (fun _ z => nomatch z), by rw [len, sizeLine_eq]; decide, nv_step g nA hA len mc kj x1 k1 (fun z => absurd z (by decide))⟩⟩⟩
  rintro σ1 H1 ⟨Z, x, xs, rfl, g, nA, hA, len, mc, kj⟩
  refine ⟨Nv (cxOf (L2N.CX P w) P w K mg base ["number", "length", "machine", "asks"] "_law_ask" (defScope s_law_ask) f (.ref cc) A outer s H E) Ts H 5 l K CM 7, ?_, ?_⟩
  · exact ⟨_, rfl, .inl ⟨rfl, _, SqL.of hA⟩, lam_use ⟨g.tabs, fun f1 G1 x1 k1 => ⟨Z, _, _, rfl, rfl, x1.ext _ _ hA (fun _ z => nomatch z), by rw [len, sizeLine_eq]; decide, nv_step g nA hA len mc kj x1 k1 (fun z => absurd z (by decide))⟩⟩⟩
  rintro σ1 H1 ⟨Z, x, xs, rfl, g, nA, hA, len, mc, kj⟩
  refine ⟨Nv (cxOf (L2N.CX P w) P w K mg base ["number", "length", "machine", "asks"] "_law_ask" (defScope s_law_ask) f (.ref cc) A outer s H E) Ts H 5 l K CM 8, ?_, ?_⟩
  · exact ⟨_, rfl, .inl ⟨rfl, _, SqL.of hA⟩, lam_use ⟨g.tabs, fun f1 G1 x1 k1 => ⟨Z, _, _, rfl, rfl, x1.ext _ _ hA (fun _ z => nomatch z), by rw [len, sizeLine_eq]; decide, nv_step g nA hA len mc kj x1 k1 (fun z => absurd z (by decide))⟩⟩⟩
  rintro σ1 H1 ⟨Z, x, xs, rfl, g, nA, hA, len, mc, kj⟩
  obtain ⟨ff, hff, kj⟩ := kj (by decide)
  refine ⟨_, rfl, _, rfl, Z, _, _, _, rfl, rfl, SqL.of hA, atI_nat hff, go_use kj ?_⟩
  rcases hl with rfl | rfl | rfl
  · refine ⟨_, rfl, _, _, rfl, rfl, by show 1 ≤ sizeLine; decide, fun p hp y dy hy hdy ne => ?_⟩
    refine cn_make (rs := [((1 : Nat) : Int) + 1]) ⟨by decide, by decide, by decide, by decide, by decide⟩ (.inl (SqL.of upd_same)) M.nil hy hdy ne fun G mG cn => ?_
    refine ⟨_, rfl, rfl, rfl, y, _, _, ((1 : Nat) : Int), rfl, cn, by decide, fun z => absurd z (by decide), fun _ _ => q _ ((g.same (same_new hp)).same mG), fun _ z => absurd z (by decide)⟩
  · refine ⟨_, rfl, _, _, rfl, rfl, by show 1 ≤ sizeLine; decide, fun p hp y dy hy hdy ne => ?_⟩
    refine cn_make (rs := [((2 : Nat) : Int) + 1]) ⟨by decide, by decide, by decide, by decide, by decide⟩ (.inl (SqL.of upd_same)) M.nil hy hdy ne fun G mG cn => ?_
    refine ⟨_, rfl, rfl, rfl, y, _, _, ((2 : Nat) : Int), rfl, cn, by decide, fun z => absurd z (by decide), fun _ _ => q _ ((g.same (same_new hp)).same mG), fun _ z => absurd z (by decide)⟩
  · refine ⟨_, rfl, _, _, rfl, rfl, by show 1 ≤ sizeLine; decide, fun p hp y dy hy hdy ne => ?_⟩
    refine cn_make (rs := [((3 : Nat) : Int) + 1]) ⟨by decide, by decide, by decide, by decide, by decide⟩ (.inl (SqL.of upd_same)) M.nil hy hdy ne fun G mG cn => ?_
    refine ⟨_, rfl, rfl, rfl, y, _, _, ((3 : Nat) : Int), rfl, cn, by decide, fun z => absurd z (by decide), fun _ _ => q _ ((g.same (same_new hp)).same mG), fun _ z => absurd z (by decide)⟩

theorem ask_6 {A : Around} {outer : List Env} {s : Shared} {H : Hp} {Q : VK} {E : XK} {l : Nat} (T : Mg mg) (TM : ClsM K mg CM) (TC : ClsC K mg C) (TB : LamX.TabB base mg cc Pt) (mem : (Pt, (Str.ofString "_law_ask" ++ ".<locals>.") ++ "<lambda>") ∈ Ts) (only : ∀ p ∈ Ts, p.1 = Pt → p.2 = (Str.ofString "_law_ask" ++ ".<locals>.") ++ "<lambda>")
    (B : Fns P w K mg base a C CM) (M : Mks P w K mg base a C CM td) (hr : Room 9 (A.deeper (envOfC "_law_ask" (defScope s_law_ask) s.heap.objs.size f (.ref cc)))) (tabs : LamX.Tabs Ts H) (hl : l = 1 ∨ l = 2 ∨ l = 3) (q : ∀ G, Wt Ts H G → ∀ d H2, Same G H2 → H2 d = some (.xd [("other", .int 1), ("one", .int 0), ("deed", .int 1)]) → E (.ref a.cO) (some d) H2) :
    ∃ t, PSs (cxOf (L2N.CX P w) P w K mg base ["number", "length", "machine", "asks"] "_law_ask" (defScope s_law_ask) f (.ref cc) A outer s H E) (defBody s_law_ask) t ∧ t { nx := fun _ H' => Q .non H', rt := Q } (L2.start ["number", "length", "machine", "asks"] [.int (6 : Nat), .int (l : Nat)]) H := by
  refine ⟨_, (pss_cons (ps_mid (ps_set (i := 2) sc_ask.nd rfl (by first | exact Or.inl rfl | exact Or.inr rfl) (pe_mac (K := K) M TM hr pzN (pa_cons (pe_lst (pa_cons (pe_lst (pa_cons pe_int (pa_cons pe_int (pa_cons pe_int pa_nil)))) (pa_cons (pe_lst (pa_cons pe_int (pa_cons pe_int (pa_cons pe_int pa_nil)))) pa_nil))) pa_nil))))
      (pss_cons (ps_mid (ps_set (i := 3) sc_ask.nd rfl (by first | exact Or.inl rfl | exact Or.inr rfl) (pe_lst (pa_cons (pe_lamA TB rfl mem only rfl) pa_nil))))
      (pss_cons (ps_mid (ps_expr (pe_bm PySem.F.plainAttrs_list PySem.F.slot_list_append PySem.F.type_list_append mt_append (pv 3) (pa_cons (pe_lamA TB rfl mem only rfl) pa_nil))))
      (pss_cons (ps_mid (ps_expr (pe_bm PySem.F.plainAttrs_list PySem.F.slot_list_append PySem.F.type_list_append mt_append (pv 3) (pa_cons (pe_lamA TB rfl mem only rfl) pa_nil))))
      (pss_cons (ps_mid (ps_expr (pe_bm PySem.F.plainAttrs_list PySem.F.slot_list_append PySem.F.type_list_append mt_append (pv 3) (pa_cons (pe_lamA TB rfl mem only rfl) pa_nil))))
      (pss_cons (ps_mid (ps_expr (pe_bm PySem.F.plainAttrs_list PySem.F.slot_list_append PySem.F.type_list_append mt_append (pv 3) (pa_cons (pe_lamA TB rfl mem only rfl) pa_nil))))
      (pss_cons (ps_mid (ps_expr (pe_bm PySem.F.plainAttrs_list PySem.F.slot_list_append PySem.F.type_list_append mt_append (pv 3) (pa_cons (pe_lamA TB rfl mem only rfl) pa_nil))))
      (pss_cons (ps_mid (ps_expr (pe_bm PySem.F.plainAttrs_list PySem.F.slot_list_append PySem.F.type_list_append mt_append (pv 3) (pa_cons (pe_lamA TB rfl mem only rfl) pa_nil))))
      (pss_cons (ps_mid (ps_expr (pe_bm PySem.F.plainAttrs_list PySem.F.slot_list_append PySem.F.type_list_append mt_append (pv 3) (pa_cons (pe_lamA TB rfl mem only rfl) pa_nil))))
      (pss_cons (ps_mid (ps_expr (pe_bm PySem.F.plainAttrs_list PySem.F.slot_list_append PySem.F.type_list_append mt_append (pv 3) (pa_cons (pe_lamA TB rfl mem only rfl) pa_nil))))
      (pss_one (ps_ret (pe_lamGo (ι := Unit) (k := 8) (E := E) (fun _ => lamP 6) (fun _ => lamB 6) (fun _ => lamC 6) (fun _ => _) (pe_ix ix_list (pv 3) (pv 0) (fun _ _ => rfl)) hr (fun _ => lamA rfl) (L2N.passes_call (E := E) (L2N.takes_of rfl rfl rfl rfl) (fun _ _ _ _ z => z)) (fun _ _ _ _ _ _ => rfl) (fun _ A outer s H f c2 hr2 => pe_callC B.exch hr2 passLN (pa_cons (pv 2) (pa_cons pe_int pa_nil)))))))))))))))), ?_⟩
  refine ⟨fun σ1 H1 => ∃ x, σ1 = [some (.int (6 : Nat)), some (.int (l : Nat)), some (.ref x), none] ∧ Wt Ts H H1 ∧ McAt K CM H1 x 3 tsX, ?_, ?_⟩
  · refine ⟨by show 3 ≤ sizeLine; decide, fun q0 h0 => ⟨by show 3 ≤ sizeLine; decide, fun q1 h1 => ⟨by show 2 ≤ sizeLine; decide, fun L hL x dx hx hdx nx => ?_⟩⟩⟩
    have w0 : Wt Ts H _ := (((Wt.refl tabs).same (same_new (o := HO.lst [.int 1, .int 0, .int 2]) h0)).same (same_new (o := HO.lst [.int 0, .int 0, .int 1]) h1)).same (same_new (o := HO.lst [.ref q0, .ref q1]) hL)
    have r0 := (SqL.of (K := K) (same_new (o := HO.lst [.ref q0, .ref q1]) hL _ _ (same_new (o := HO.lst [.int 0, .int 0, .int 1]) h1 _ _ (upd_same (H := H) (a := q0) (o := HO.lst [.int 1, .int 0, .int 2])))))
    have r1 := SqL.of (K := K) (same_new (o := HO.lst [.ref q0, .ref q1]) hL _ _ (upd_same (a := q1) (o := HO.lst [.int 0, .int 0, .int 1])))
    refine mc_make (ts := tsX) mokX (.inl (SqL.of upd_same)) ⟨⟨q0, rfl, .inl r0⟩, ⟨q1, rfl, .inl r1⟩, trivial⟩ hx hdx nx fun G mG mc => ?_
    exact ⟨x, rfl, w0.same mG, mc⟩
  rintro σ1 H1 ⟨x, rfl, g, mc⟩
  refine ⟨Nv (cxOf (L2N.CX P w) P w K mg base ["number", "length", "machine", "asks"] "_law_ask" (defScope s_law_ask) f (.ref cc) A outer s H E) Ts H 6 l K CM 0, ?_, ?_⟩
  · exact lam_use ⟨g.tabs, fun f0 G0 x0 k0 => ⟨by show 1 ≤ sizeLine; decide, fun Z hA => nv_start 6 g mc x0 k0 (fun z => nomatch z) hA⟩⟩
  rintro σ1 H1 ⟨Z, x, xs, rfl, g, nA, hA, len, mc, kj⟩
  refine ⟨Nv (cxOf (L2N.CX P w) P w K mg base ["number", "length", "machine", "asks"] "_law_ask" (defScope s_law_ask) f (.ref cc) A outer s H E) Ts H 6 l K CM 1, ?_, ?_⟩
  · exact ⟨_, rfl, .inl ⟨rfl, _, SqL.of hA⟩, lam_use ⟨g.tabs, fun f1 G1 x1 k1 => ⟨Z, _, _, rfl, rfl, x1.ext _ _ hA (fun _ z => nomatch z), by rw [len, sizeLine_eq]; decide, nv_step g nA hA len mc kj x1 k1 (fun z => absurd z (by decide))⟩⟩⟩
  rintro σ1 H1 ⟨Z, x, xs, rfl, g, nA, hA, len, mc, kj⟩
  refine ⟨Nv (cxOf (L2N.CX P w) P w K mg base ["number", "length", "machine", "asks"] "_law_ask" (defScope s_law_ask) f (.ref cc) A outer s H E) Ts H 6 l K CM 2, ?_, ?_⟩
  · exact ⟨_, rfl, .inl ⟨rfl, _, SqL.of hA⟩, lam_use ⟨g.tabs, fun f1 G1 x1 k1 => ⟨Z, _, _, rfl, rfl, x1.ext _ _ hA (fun _ z => nomatch z), by rw [len, sizeLine_eq]; decide, nv_step g nA hA len mc kj x1 k1 (fun z => absurd z (by decide))⟩⟩⟩
  rintro σ1 H1 ⟨Z, x, xs, rfl, g, nA, hA, len, mc, kj⟩
  refine ⟨Nv (cxOf (L2N.CX P w) P w K mg base ["number", "length", "machine", "asks"] "_law_ask" (defScope s_law_ask) f (.ref cc) A outer s H E) Ts H 6 l K CM 3, ?_, ?_⟩
  · exact ⟨_, rfl, .inl ⟨rfl, _, SqL.of hA⟩, lam_use ⟨g.tabs, fun f1 G1 x1 k1 => ⟨Z, _, _, rfl, rfl, x1.ext _ _ hA (fun _ z => nomatch z), by rw [len, sizeLine_eq]; decide, nv_step g nA hA len mc kj x1 k1 (fun z => absurd z (by decide))⟩⟩⟩
  rintro σ1 H1 ⟨Z, x, xs, rfl, g, nA, hA, len, mc, kj⟩
  refine ⟨Nv (cxOf (L2N.CX P w) P w K mg base ["number", "length", "machine", "asks"] "_law_ask" (defScope s_law_ask) f (.ref cc) A outer s H E) Ts H 6 l K CM 4, ?_, ?_⟩
  · exact ⟨_, rfl, .inl ⟨rfl, _, SqL.of hA⟩, lam_use ⟨g.tabs, fun f1 G1 x1 k1 => ⟨Z, _, _, rfl, rfl, x1.ext _ _ hA (fun _ z => nomatch z), by rw [len, sizeLine_eq]; decide, nv_step g nA hA len mc kj x1 k1 (fun z => absurd z (by decide))⟩⟩⟩
  rintro σ1 H1 ⟨Z, x, xs, rfl, g, nA, hA, len, mc, kj⟩
  refine ⟨Nv (cxOf (L2N.CX P w) P w K mg base ["number", "length", "machine", "asks"] "_law_ask" (defScope s_law_ask) f (.ref cc) A outer s H E) Ts H 6 l K CM 5, ?_, ?_⟩
  · exact ⟨_, rfl, .inl ⟨rfl, _, SqL.of hA⟩, lam_use ⟨g.tabs, fun f1 G1 x1 k1 => ⟨Z, _, _, rfl, rfl, x1.ext _ _ hA (fun _ z => nomatch z), by rw [len, sizeLine_eq]; decide, nv_step g nA hA len mc kj x1 k1 (fun z => absurd z (by decide))⟩⟩⟩
  rintro σ1 H1 ⟨Z, x, xs, rfl, g, nA, hA, len, mc, kj⟩
  refine ⟨Nv (cxOf (L2N.CX P w) P w K mg base ["number", "length", "machine", "asks"] "_law_ask" (defScope s_law_ask) f (.ref cc) A outer s H E) Ts H 6 l K CM 6, ?_, ?_⟩
  · exact ⟨_, rfl, .inl ⟨rfl, _, SqL.of hA⟩, lam_use ⟨g.tabs, fun f1 G1 x1 k1 => ⟨Z, _, _, rfl, rfl, x1.ext _ _ hA (fun _ z => nomatch z), by rw [len, sizeLine_eq]; decide, nv_step g nA hA len mc kj x1 k1 (fun _ => ⟨rfl, rfl, rfl⟩)⟩⟩⟩
  rintro σ1 H1 ⟨Z, x, xs, rfl, g, nA, hA, len, mc, kj⟩
  refine ⟨Nv (cxOf (L2N.CX P w) P w K mg base ["number", "length", "machine", "asks"] "_law_ask" (defScope s_law_ask) f (.ref cc) A outer s H E) Ts H 6 l K CM 7, ?_, ?_⟩
  · exact ⟨_, rfl, .inl ⟨rfl, _, SqL.of hA⟩, lam_use ⟨g.tabs, fun f1 G1 x1 k1 => ⟨Z, _, _, rfl, rfl, x1.ext _ _ hA (fun _ z => nomatch z), by rw [len, sizeLine_eq]; decide, nv_step g nA hA len mc kj x1 k1 (fun z => absurd z (by decide))⟩⟩⟩
  rintro σ1 H1 ⟨Z, x, xs, rfl, g, nA, hA, len, mc, kj⟩
  refine ⟨Nv (cxOf (L2N.CX P w) P w K mg base ["number", "length", "machine", "asks"] "_law_ask" (defScope s_law_ask) f (.ref cc) A outer s H E) Ts H 6 l K CM 8, ?_, ?_⟩
  · exact ⟨_, rfl, .inl ⟨rfl, _, SqL.of hA⟩, lam_use ⟨g.tabs, fun f1 G1 x1 k1 => ⟨Z, _, _, rfl, rfl, x1.ext _ _ hA (fun _ z => nomatch z), by rw [len, sizeLine_eq]; decide, nv_step g nA hA len mc kj x1 k1 (fun z => absurd z (by decide))⟩⟩⟩
  rintro σ1 H1 ⟨Z, x, xs, rfl, g, nA, hA, len, mc, kj⟩
  obtain ⟨ff, hff, kj⟩ := kj (by decide)
  refine ⟨_, rfl, _, rfl, Z, _, _, _, rfl, rfl, SqL.of hA, atI_nat hff, go_use kj ?_⟩
  exact ⟨_, rfl, x, rfl, mc, fun d H2 e h => q _ g d H2 e h⟩

theorem ask_7 {A : Around} {outer : List Env} {s : Shared} {H : Hp} {Q : VK} {E : XK} {l : Nat} (T : Mg mg) (TM : ClsM K mg CM) (TC : ClsC K mg C) (TB : LamX.TabB base mg cc Pt) (mem : (Pt, (Str.ofString "_law_ask" ++ ".<locals>.") ++ "<lambda>") ∈ Ts) (only : ∀ p ∈ Ts, p.1 = Pt → p.2 = (Str.ofString "_law_ask" ++ ".<locals>.") ++ "<lambda>")
    (B : Fns P w K mg base a C CM) (M : Mks P w K mg base a C CM td) (hr : Room 9 (A.deeper (envOfC "_law_ask" (defScope s_law_ask) s.heap.objs.size f (.ref cc)))) (tabs : LamX.Tabs Ts H) (hl : l = 1 ∨ l = 2 ∨ l = 3) (q : ∀ G, Wt Ts H G → Thrown E G a.cD "deed" (.int (1 + (l : Nat)))) :
    ∃ t, PSs (cxOf (L2N.CX P w) P w K mg base ["number", "length", "machine", "asks"] "_law_ask" (defScope s_law_ask) f (.ref cc) A outer s H E) (defBody s_law_ask) t ∧ t { nx := fun _ H' => Q .non H', rt := Q } (L2.start ["number", "length", "machine", "asks"] [.int (7 : Nat), .int (l : Nat)]) H := by
  refine ⟨_, (pss_cons (ps_mid (ps_set (i := 2) sc_ask.nd rfl (by first | exact Or.inl rfl | exact Or.inr rfl) (pe_mac (K := K) M TM hr pzN (pa_cons (pe_lst (pa_cons (pe_lst (pa_cons pe_int (pa_cons pe_int (pa_cons pe_int pa_nil)))) (pa_cons (pe_lst (pa_cons pe_int (pa_cons pe_int (pa_cons pe_int pa_nil)))) pa_nil))) pa_nil))))
      (pss_cons (ps_mid (ps_set (i := 3) sc_ask.nd rfl (by first | exact Or.inl rfl | exact Or.inr rfl) (pe_lst (pa_cons (pe_lamA TB rfl mem only rfl) pa_nil))))
      (pss_cons (ps_mid (ps_expr (pe_bm PySem.F.plainAttrs_list PySem.F.slot_list_append PySem.F.type_list_append mt_append (pv 3) (pa_cons (pe_lamA TB rfl mem only rfl) pa_nil))))
      (pss_cons (ps_mid (ps_expr (pe_bm PySem.F.plainAttrs_list PySem.F.slot_list_append PySem.F.type_list_append mt_append (pv 3) (pa_cons (pe_lamA TB rfl mem only rfl) pa_nil))))
      (pss_cons (ps_mid (ps_expr (pe_bm PySem.F.plainAttrs_list PySem.F.slot_list_append PySem.F.type_list_append mt_append (pv 3) (pa_cons (pe_lamA TB rfl mem only rfl) pa_nil))))
      (pss_cons (ps_mid (ps_expr (pe_bm PySem.F.plainAttrs_list PySem.F.slot_list_append PySem.F.type_list_append mt_append (pv 3) (pa_cons (pe_lamA TB rfl mem only rfl) pa_nil))))
      (pss_cons (ps_mid (ps_expr (pe_bm PySem.F.plainAttrs_list PySem.F.slot_list_append PySem.F.type_list_append mt_append (pv 3) (pa_cons (pe_lamA TB rfl mem only rfl) pa_nil))))
      (pss_cons (ps_mid (ps_expr (pe_bm PySem.F.plainAttrs_list PySem.F.slot_list_append PySem.F.type_list_append mt_append (pv 3) (pa_cons (pe_lamA TB rfl mem only rfl) pa_nil))))
      (pss_cons (ps_mid (ps_expr (pe_bm PySem.F.plainAttrs_list PySem.F.slot_list_append PySem.F.type_list_append mt_append (pv 3) (pa_cons (pe_lamA TB rfl mem only rfl) pa_nil))))
      (pss_cons (ps_mid (ps_expr (pe_bm PySem.F.plainAttrs_list PySem.F.slot_list_append PySem.F.type_list_append mt_append (pv 3) (pa_cons (pe_lamA TB rfl mem only rfl) pa_nil))))
      (pss_one (ps_ret (pe_lamGo (ι := Unit) (k := 8) (E := E) (fun _ => lamP 7) (fun _ => lamB 7) (fun _ => lamC 7) (fun _ => _) (pe_ix ix_list (pv 3) (pv 0) (fun _ _ => rfl)) hr (fun _ => lamA rfl) (L2N.passes_call (E := E) (L2N.takes_of rfl rfl rfl rfl) (fun _ _ _ _ z => z)) (fun _ _ _ _ _ _ => rfl) (fun _ A outer s H f c2 hr2 => pe_callC B.deed hr2 passLN (pa_cons (pv 2) (pa_cons (pe_op op_add pe_int (pv 1)) pa_nil)))))))))))))))), ?_⟩
  refine ⟨fun σ1 H1 => ∃ x, σ1 = [some (.int (7 : Nat)), some (.int (l : Nat)), some (.ref x), none] ∧ Wt Ts H H1 ∧ McAt K CM H1 x 3 tsX, ?_, ?_⟩
  · refine ⟨by show 3 ≤ sizeLine; decide, fun q0 h0 => ⟨by show 3 ≤ sizeLine; decide, fun q1 h1 => ⟨by show 2 ≤ sizeLine; decide, fun L hL x dx hx hdx nx => ?_⟩⟩⟩
    have w0 : Wt Ts H _ := (((Wt.refl tabs).same (same_new (o := HO.lst [.int 1, .int 0, .int 2]) h0)).same (same_new (o := HO.lst [.int 0, .int 0, .int 1]) h1)).same (same_new (o := HO.lst [.ref q0, .ref q1]) hL)
    have r0 := (SqL.of (K := K) (same_new (o := HO.lst [.ref q0, .ref q1]) hL _ _ (same_new (o := HO.lst [.int 0, .int 0, .int 1]) h1 _ _ (upd_same (H := H) (a := q0) (o := HO.lst [.int 1, .int 0, .int 2])))))
    have r1 := SqL.of (K := K) (same_new (o := HO.lst [.ref q0, .ref q1]) hL _ _ (upd_same (a := q1) (o := HO.lst [.int 0, .int 0, .int 1])))
    refine mc_make (ts := tsX) mokX (.inl (SqL.of upd_same)) ⟨⟨q0, rfl, .inl r0⟩, ⟨q1, rfl, .inl r1⟩, trivial⟩ hx hdx nx fun G mG mc => ?_
    exact ⟨x, rfl, w0.same mG, mc⟩
  rintro σ1 H1 ⟨x, rfl, g, mc⟩
  refine ⟨Nv (cxOf (L2N.CX P w) P w K mg base ["number", "length", "machine", "asks"] "_law_ask" (defScope s_law_ask) f (.ref cc) A outer s H E) Ts H 7 l K CM 0, ?_, ?_⟩
  · exact lam_use ⟨g.tabs, fun f0 G0 x0 k0 => ⟨by show 1 ≤ sizeLine; decide, fun Z hA => nv_start 7 g mc x0 k0 (fun z => nomatch z) hA⟩⟩
  rintro σ1 H1 ⟨Z, x, xs, rfl, g, nA, hA, len, mc, kj⟩
  refine ⟨Nv (cxOf (L2N.CX P w) P w K mg base ["number", "length", "machine", "asks"] "_law_ask" (defScope s_law_ask) f (.ref cc) A outer s H E) Ts H 7 l K CM 1, ?_, ?_⟩
  · exact ⟨_, rfl, .inl ⟨rfl, _, SqL.of hA⟩, lam_use ⟨g.tabs, fun f1 G1 x1 k1 => ⟨Z, _, _, rfl, rfl, x1.ext _ _ hA (fun _ z => nomatch z), by rw [len, sizeLine_eq]; decide, nv_step g nA hA len mc kj x1 k1 (fun z => absurd z (by decide))⟩⟩⟩
  rintro σ1 H1 ⟨Z, x, xs, rfl, g, nA, hA, len, mc, kj⟩
  refine ⟨Nv (cxOf (L2N.CX P w) P w K mg base ["number", "length", "machine", "asks"] "_law_ask" (defScope s_law_ask) f (.ref cc) A outer s H E) Ts H 7 l K CM 2, ?_, ?_⟩
  · exact ⟨_, rfl, .inl ⟨rfl, _, SqL.of hA⟩, lam_use ⟨g.tabs, fun f1 G1 x1 k1 => ⟨Z, _, _, rfl, rfl, x1.ext _ _ hA (fun _ z => nomatch z), by rw [len, sizeLine_eq]; decide, nv_step g nA hA len mc kj x1 k1 (fun z => absurd z (by decide))⟩⟩⟩
  rintro σ1 H1 ⟨Z, x, xs, rfl, g, nA, hA, len, mc, kj⟩
  refine ⟨Nv (cxOf (L2N.CX P w) P w K mg base ["number", "length", "machine", "asks"] "_law_ask" (defScope s_law_ask) f (.ref cc) A outer s H E) Ts H 7 l K CM 3, ?_, ?_⟩
  · exact ⟨_, rfl, .inl ⟨rfl, _, SqL.of hA⟩, lam_use ⟨g.tabs, fun f1 G1 x1 k1 => ⟨Z, _, _, rfl, rfl, x1.ext _ _ hA (fun _ z => nomatch z), by rw [len, sizeLine_eq]; decide, nv_step g nA hA len mc kj x1 k1 (fun z => absurd z (by decide))⟩⟩⟩
  rintro σ1 H1 ⟨Z, x, xs, rfl, g, nA, hA, len, mc, kj⟩
  refine ⟨Nv (cxOf (L2N.CX P w) P w K mg base ["number", "length", "machine", "asks"] "_law_ask" (defScope s_law_ask) f (.ref cc) A outer s H E) Ts H 7 l K CM 4, ?_, ?_⟩
  · exact ⟨_, rfl, .inl ⟨rfl, _, SqL.of hA⟩, lam_use ⟨g.tabs, fun f1 G1 x1 k1 => ⟨Z, _, _, rfl, rfl, x1.ext _ _ hA (fun _ z => nomatch z), by rw [len, sizeLine_eq]; decide, nv_step g nA hA len mc kj x1 k1 (fun z => absurd z (by decide))⟩⟩⟩
  rintro σ1 H1 ⟨Z, x, xs, rfl, g, nA, hA, len, mc, kj⟩
  refine ⟨Nv (cxOf (L2N.CX P w) P w K mg base ["number", "length", "machine", "asks"] "_law_ask" (defScope s_law_ask) f (.ref cc) A outer s H E) Ts H 7 l K CM 5, ?_, ?_⟩
  · exact ⟨_, rfl, .inl ⟨rfl, _, SqL.of hA⟩, lam_use ⟨g.tabs, fun f1 G1 x1 k1 => ⟨Z, _, _, rfl, rfl, x1.ext _ _ hA (fun _ z => nomatch z), by rw [len, sizeLine_eq]; decide, nv_step g nA hA len mc kj x1 k1 (fun z => absurd z (by decide))⟩⟩⟩
  rintro σ1 H1 ⟨Z, x, xs, rfl, g, nA, hA, len, mc, kj⟩
  refine ⟨Nv (cxOf (L2N.CX P w) P w K mg base ["number", "length", "machine", "asks"] "_law_ask" (defScope s_law_ask) f (.ref cc) A outer s H E) Ts H 7 l K CM 6, ?_, ?_⟩
  · exact ⟨_, rfl, .inl ⟨rfl, _, SqL.of hA⟩, lam_use ⟨g.tabs, fun f1 G1 x1 k1 => ⟨Z, _, _, rfl, rfl, x1.ext _ _ hA (fun _ z => nomatch z), by rw [len, sizeLine_eq]; decide, nv_step g nA hA len mc kj x1 k1 (fun z => absurd z (by decide))⟩⟩⟩
  rintro σ1 H1 ⟨Z, x, xs, rfl, g, nA, hA, len, mc, kj⟩
  refine ⟨Nv (cxOf (L2N.CX P w) P w K mg base ["number", "length", "machine", "asks"] "_law_ask" (defScope s_law_ask) f (.ref cc) A outer s H E) Ts H 7 l K CM 7, ?_, ?_⟩
  · exact ⟨_, rfl, .inl ⟨rfl, _, SqL.of hA⟩, lam_use ⟨g.tabs, fun f1 G1 x1 k1 => ⟨Z, _, _, rfl, rfl, x1.ext _ _ hA (fun _ z => nomatch z), by rw [len, sizeLine_eq]; decide, nv_step g nA hA len mc kj x1 k1 (fun _ => ⟨rfl, rfl, rfl⟩)⟩⟩⟩
  rintro σ1 H1 ⟨Z, x, xs, rfl, g, nA, hA, len, mc, kj⟩
  refine ⟨Nv (cxOf (L2N.CX P w) P w K mg base ["number", "length", "machine", "asks"] "_law_ask" (defScope s_law_ask) f (.ref cc) A outer s H E) Ts H 7 l K CM 8, ?_, ?_⟩
  · exact ⟨_, rfl, .inl ⟨rfl, _, SqL.of hA⟩, lam_use ⟨g.tabs, fun f1 G1 x1 k1 => ⟨Z, _, _, rfl, rfl, x1.ext _ _ hA (fun _ z => nomatch z), by rw [len, sizeLine_eq]; decide, nv_step g nA hA len mc kj x1 k1 (fun z => absurd z (by decide))⟩⟩⟩
  rintro σ1 H1 ⟨Z, x, xs, rfl, g, nA, hA, len, mc, kj⟩
  obtain ⟨ff, hff, kj⟩ := kj (by decide)
  refine ⟨_, rfl, _, rfl, Z, _, _, _, rfl, rfl, SqL.of hA, atI_nat hff, go_use kj ?_⟩
  exact ⟨_, rfl, _, rfl, _, _, rfl, rfl, x, 3, tsX, _, rfl, mc, .int _, fun _ => q _ g, fun z => by rw [isBel_iff] at z; have : (tsX.length : Int) = 2 := rfl; omega⟩

theorem ask_8 {A : Around} {outer : List Env} {s : Shared} {H : Hp} {Q : VK} {E : XK} {l : Nat} (T : Mg mg) (TM : ClsM K mg CM) (TC : ClsC K mg C) (TB : LamX.TabB base mg cc Pt) (mem : (Pt, (Str.ofString "_law_ask" ++ ".<locals>.") ++ "<lambda>") ∈ Ts) (only : ∀ p ∈ Ts, p.1 = Pt → p.2 = (Str.ofString "_law_ask" ++ ".<locals>.") ++ "<lambda>")
    (B : Fns P w K mg base a C CM) (M : Mks P w K mg base a C CM td) (hr : Room 9 (A.deeper (envOfC "_law_ask" (defScope s_law_ask) s.heap.objs.size f (.ref cc)))) (tabs : LamX.Tabs Ts H) (hl : l = 1 ∨ l = 2 ∨ l = 3) (q : ∀ G, Wt Ts H G → Thrown E G a.cN "state" (.int (2 + (l : Nat)))) :
    ∃ t, PSs (cxOf (L2N.CX P w) P w K mg base ["number", "length", "machine", "asks"] "_law_ask" (defScope s_law_ask) f (.ref cc) A outer s H E) (defBody s_law_ask) t ∧ t { nx := fun _ H' => Q .non H', rt := Q } (L2.start ["number", "length", "machine", "asks"] [.int (8 : Nat), .int (l : Nat)]) H := by
  refine ⟨_, (pss_cons (ps_mid (ps_set (i := 2) sc_ask.nd rfl (by first | exact Or.inl rfl | exact Or.inr rfl) (pe_mac (K := K) M TM hr pzN (pa_cons (pe_lst (pa_cons (pe_lst (pa_cons pe_int (pa_cons pe_int (pa_cons pe_int pa_nil)))) (pa_cons (pe_lst (pa_cons pe_int (pa_cons pe_int (pa_cons pe_int pa_nil)))) pa_nil))) pa_nil))))
      (pss_cons (ps_mid (ps_set (i := 3) sc_ask.nd rfl (by first | exact Or.inl rfl | exact Or.inr rfl) (pe_lst (pa_cons (pe_lamA TB rfl mem only rfl) pa_nil))))
      (pss_cons (ps_mid (ps_expr (pe_bm PySem.F.plainAttrs_list PySem.F.slot_list_append PySem.F.type_list_append mt_append (pv 3) (pa_cons (pe_lamA TB rfl mem only rfl) pa_nil))))
      (pss_cons (ps_mid (ps_expr (pe_bm PySem.F.plainAttrs_list PySem.F.slot_list_append PySem.F.type_list_append mt_append (pv 3) (pa_cons (pe_lamA TB rfl mem only rfl) pa_nil))))
      (pss_cons (ps_mid (ps_expr (pe_bm PySem.F.plainAttrs_list PySem.F.slot_list_append PySem.F.type_list_append mt_append (pv 3) (pa_cons (pe_lamA TB rfl mem only rfl) pa_nil))))
      (pss_cons (ps_mid (ps_expr (pe_bm PySem.F.plainAttrs_list PySem.F.slot_list_append PySem.F.type_list_append mt_append (pv 3) (pa_cons (pe_lamA TB rfl mem only rfl) pa_nil))))
      (pss_cons (ps_mid (ps_expr (pe_bm PySem.F.plainAttrs_list PySem.F.slot_list_append PySem.F.type_list_append mt_append (pv 3) (pa_cons (pe_lamA TB rfl mem only rfl) pa_nil))))
      (pss_cons (ps_mid (ps_expr (pe_bm PySem.F.plainAttrs_list PySem.F.slot_list_append PySem.F.type_list_append mt_append (pv 3) (pa_cons (pe_lamA TB rfl mem only rfl) pa_nil))))
      (pss_cons (ps_mid (ps_expr (pe_bm PySem.F.plainAttrs_list PySem.F.slot_list_append PySem.F.type_list_append mt_append (pv 3) (pa_cons (pe_lamA TB rfl mem only rfl) pa_nil))))
      (pss_cons (ps_mid (ps_expr (pe_bm PySem.F.plainAttrs_list PySem.F.slot_list_append PySem.F.type_list_append mt_append (pv 3) (pa_cons (pe_lamA TB rfl mem only rfl) pa_nil))))
      (pss_one (ps_ret (pe_lamGo (ι := Unit) (k := 8) (E := E) (fun _ => lamP 8) (fun _ => lamB 8) (fun _ => lamC 8) (fun _ => _) (pe_ix ix_list (pv 3) (pv 0) (fun _ _ => rfl)) hr (fun _ => lamA rfl) (L2N.passes_call (E := E) (L2N.takes_of rfl rfl rfl rfl) (fun _ _ _ _ z => z)) (fun _ _ _ _ _ _ => rfl) (fun _ A outer s H f c2 hr2 => pe_callC B.state hr2 passLN (pa_cons (pv 2) (pa_cons (pe_op op_add pe_int (pv 1)) pa_nil)))))))))))))))), ?_⟩
  refine ⟨fun σ1 H1 => ∃ x, σ1 = [some (.int (8 : Nat)), some (.int (l : Nat)), some (.ref x), none] ∧ Wt Ts H H1 ∧ McAt K CM H1 x 3 tsX, ?_, ?_⟩
  · refine ⟨by show 3 ≤ sizeLine; decide, fun q0 h0 => ⟨by show 3 ≤ sizeLine; decide, fun q1 h1 => ⟨by show 2 ≤ sizeLine; decide, fun L hL x dx hx hdx nx => ?_⟩⟩⟩
    have w0 : Wt Ts H _ := (((Wt.refl tabs).same (same_new (o := HO.lst [.int 1, .int 0, .int 2]) h0)).same (same_new (o := HO.lst [.int 0, .int 0, .int 1]) h1)).same (same_new (o := HO.lst [.ref q0, .ref q1]) hL)
    have r0 := (SqL.of (K := K) (same_new (o := HO.lst [.ref q0, .ref q1]) hL _ _ (same_new (o := HO.lst [.int 0, .int 0, .int 1]) h1 _ _ (upd_same (H := H) (a := q0) (o := HO.lst [.int 1, .int 0, .int 2])))))
    have r1 := SqL.of (K := K) (same_new (o := HO.lst [.ref q0, .ref q1]) hL _ _ (upd_same (a := q1) (o := HO.lst [.int 0, .int 0, .int 1])))
    refine mc_make (ts := tsX) mokX (.inl (SqL.of upd_same)) ⟨⟨q0, rfl, .inl r0⟩, ⟨q1, rfl, .inl r1⟩, trivial⟩ hx hdx nx fun G mG mc => ?_
    exact ⟨x, rfl, w0.same mG, mc⟩
  rintro σ1 H1 ⟨x, rfl, g, mc⟩
  refine ⟨Nv (cxOf (L2N.CX P w) P w K mg base ["number", "length", "machine", "asks"] "_law_ask" (defScope s_law_ask) f (.ref cc) A outer s H E) Ts H 8 l K CM 0, ?_, ?_⟩
  · exact lam_use ⟨g.tabs, fun f0 G0 x0 k0 => ⟨by show 1 ≤ sizeLine; decide, fun Z hA => nv_start 8 g mc x0 k0 (fun z => nomatch z) hA⟩⟩
  rintro σ1 H1 ⟨Z, x, xs, rfl, g, nA, hA, len, mc, kj⟩
  refine ⟨Nv (cxOf (L2N.CX P w) P w K mg base ["number", "length", "machine", "asks"] "_law_ask" (defScope s_law_ask) f (.ref cc) A outer s H E) Ts H 8 l K CM 1, ?_, ?_⟩
  · exact ⟨_, rfl, .inl ⟨rfl, _, SqL.of hA⟩, lam_use ⟨g.tabs, fun f1 G1 x1 k1 => ⟨Z, _, _, rfl, rfl, x1.ext _ _ hA (fun _ z => nomatch z), by rw [len, sizeLine_eq]; decide, nv_step g nA hA len mc kj x1 k1 (fun z => absurd z (by decide))⟩⟩⟩
  rintro σ1 H1 ⟨Z, x, xs, rfl, g, nA, hA, len, mc, kj⟩
  refine ⟨Nv (cxOf (L2N.CX P w) P w K mg base ["number", "length", "machine", "asks"] "_law_ask" (defScope s_law_ask) f (.ref cc) A outer s H E) Ts H 8 l K CM 2, ?_, ?_⟩
  · exact ⟨_, rfl, .inl ⟨rfl, _, SqL.of hA⟩, lam_use ⟨g.tabs, fun f1 G1 x1 k1 => ⟨Z, _, _, rfl, rfl, x1.ext _ _ hA (fun _ z => nomatch z), by rw [len, sizeLine_eq]; decide, nv_step g nA hA len mc kj x1 k1 (fun z => absurd z (by decide))⟩⟩⟩
  rintro σ1 H1 ⟨Z, x, xs, rfl, g, nA, hA, len, mc, kj⟩
  refine ⟨Nv (cxOf (L2N.CX P w) P w K mg base ["number", "length", "machine", "asks"] "_law_ask" (defScope s_law_ask) f (.ref cc) A outer s H E) Ts H 8 l K CM 3, ?_, ?_⟩
  · exact ⟨_, rfl, .inl ⟨rfl, _, SqL.of hA⟩, lam_use ⟨g.tabs, fun f1 G1 x1 k1 => ⟨Z, _, _, rfl, rfl, x1.ext _ _ hA (fun _ z => nomatch z), by rw [len, sizeLine_eq]; decide, nv_step g nA hA len mc kj x1 k1 (fun z => absurd z (by decide))⟩⟩⟩
  rintro σ1 H1 ⟨Z, x, xs, rfl, g, nA, hA, len, mc, kj⟩
  refine ⟨Nv (cxOf (L2N.CX P w) P w K mg base ["number", "length", "machine", "asks"] "_law_ask" (defScope s_law_ask) f (.ref cc) A outer s H E) Ts H 8 l K CM 4, ?_, ?_⟩
  · exact ⟨_, rfl, .inl ⟨rfl, _, SqL.of hA⟩, lam_use ⟨g.tabs, fun f1 G1 x1 k1 => ⟨Z, _, _, rfl, rfl, x1.ext _ _ hA (fun _ z => nomatch z), by rw [len, sizeLine_eq]; decide, nv_step g nA hA len mc kj x1 k1 (fun z => absurd z (by decide))⟩⟩⟩
  rintro σ1 H1 ⟨Z, x, xs, rfl, g, nA, hA, len, mc, kj⟩
  refine ⟨Nv (cxOf (L2N.CX P w) P w K mg base ["number", "length", "machine", "asks"] "_law_ask" (defScope s_law_ask) f (.ref cc) A outer s H E) Ts H 8 l K CM 5, ?_, ?_⟩
  · exact ⟨_, rfl, .inl ⟨rfl, _, SqL.of hA⟩, lam_use ⟨g.tabs, fun f1 G1 x1 k1 => ⟨Z, _, _, rfl, rfl, x1.ext _ _ hA (fun _ z => nomatch z), by rw [len, sizeLine_eq]; decide, nv_step g nA hA len mc kj x1 k1 (fun z => absurd z (by decide))⟩⟩⟩
  rintro σ1 H1 ⟨Z, x, xs, rfl, g, nA, hA, len, mc, kj⟩
  refine ⟨Nv (cxOf (L2N.CX P w) P w K mg base ["number", "length", "machine", "asks"] "_law_ask" (defScope s_law_ask) f (.ref cc) A outer s H E) Ts H 8 l K CM 6, ?_, ?_⟩
  · exact ⟨_, rfl, .inl ⟨rfl, _, SqL.of hA⟩, lam_use ⟨g.tabs, fun f1 G1 x1 k1 => ⟨Z, _, _, rfl, rfl, x1.ext _ _ hA (fun _ z => nomatch z), by rw [len, sizeLine_eq]; decide, nv_step g nA hA len mc kj x1 k1 (fun z => absurd z (by decide))⟩⟩⟩
  rintro σ1 H1 ⟨Z, x, xs, rfl, g, nA, hA, len, mc, kj⟩
  refine ⟨Nv (cxOf (L2N.CX P w) P w K mg base ["number", "length", "machine", "asks"] "_law_ask" (defScope s_law_ask) f (.ref cc) A outer s H E) Ts H 8 l K CM 7, ?_, ?_⟩
  · exact ⟨_, rfl, .inl ⟨rfl, _, SqL.of hA⟩, lam_use ⟨g.tabs, fun f1 G1 x1 k1 => ⟨Z, _, _, rfl, rfl, x1.ext _ _ hA (fun _ z => nomatch z), by rw [len, sizeLine_eq]; decide, nv_step g nA hA len mc kj x1 k1 (fun z => absurd z (by decide))⟩⟩⟩
  rintro σ1 H1 ⟨Z, x, xs, rfl, g, nA, hA, len, mc, kj⟩
  refine ⟨Nv (cxOf (L2N.CX P w) P w K mg base ["number", "length", "machine", "asks"] "_law_ask" (defScope s_law_ask) f (.ref cc) A outer s H E) Ts H 8 l K CM 8, ?_, ?_⟩
  · exact ⟨_, rfl, .inl ⟨rfl, _, SqL.of hA⟩, lam_use ⟨g.tabs, fun f1 G1 x1 k1 => ⟨Z, _, _, rfl, rfl, x1.ext _ _ hA (fun _ z => nomatch z), by rw [len, sizeLine_eq]; decide, nv_step g nA hA len mc kj x1 k1 (fun _ => ⟨rfl, rfl, rfl⟩)⟩⟩⟩
  rintro σ1 H1 ⟨Z, x, xs, rfl, g, nA, hA, len, mc, kj⟩
  obtain ⟨ff, hff, kj⟩ := kj (by decide)
  refine ⟨_, rfl, _, rfl, Z, _, _, _, rfl, rfl, SqL.of hA, atI_nat hff, go_use kj ?_⟩
  exact ⟨_, rfl, _, rfl, _, _, rfl, rfl, x, 3, tsX, _, rfl, mc, .int _, fun _ => q _ g, fun z => by rw [isBel_iff] at z; omega⟩

end
end K0
/-! what is raised, caught and told -/
namespace K0
open L2 PySem PySem.Spec PyProof.Rows Kx RZ
/-- what question j raises -/
def Bad (K : PySem.W.Frag) (a : Ad) (Ts : List (Addr × Str)) (H : Hp) (E : XK) (l : Nat) : Nat → Prop
  | 0 => ∀ G, Wt Ts H G → Thrown E G a.cM "at" (.int (l : Nat))
  | 1 => ∀ G, Wt Ts H G → Thrown E G a.cR "at" (.int (l : Nat))
  | 2 => ∀ G, Wt Ts H G → Thrown E G a.cS "at" (.int (l : Nat))
  | 3 => ∀ G, Wt Ts H G → Thrown E G a.cT "at" (.int (l : Nat))
  | 4 => ∀ G, Wt Ts H G → ∀ p, SqT K G p [.int (0 - (l : Nat))] → Thrown E G a.cF "at" (.ref p)
  | 5 => ∀ G, Wt Ts H G → Thrown E G a.cG "most" (.int (l : Nat))
  | 6 => ∀ G, Wt Ts H G → ∀ d H2, Same G H2 → H2 d = some (.xd [("other", .int 1), ("one", .int 0), ("deed", .int 1)]) → E (.ref a.cO) (some d) H2
  | 7 => ∀ G, Wt Ts H G → Thrown E G a.cD "deed" (.int (1 + (l : Nat)))
  | 8 => ∀ G, Wt Ts H G → Thrown E G a.cN "state" (.int (2 + (l : Nat)))
  | _ => False
def spAsk (K : PySem.W.Frag) (a : Ad) (Ts : List (Addr × Str)) : Sp := fun vs H _ E => ∃ j l : Nat, vs = [.int (j : Nat), .int (l : Nat)] ∧ (l = 1 ∨ l = 2 ∨ l = 3) ∧ LamX.Tabs Ts H ∧ Bad K a Ts H E l j
theorem takesN_len {X : Cx} {W : WX} (t : L2N.Takes X W) : L2N.Takes X fun c d σ H => σ.length = X.N.length → W c d σ H := fun u s ⟨x, B, o, pins, σ, H, cls, d, e, I, r1, r2, r3, r4, r5, r6, q⟩ => t u s ⟨x, B, o, pins, σ, H, cls, d, e, I, r1, r2, r3, r4, r5, r6, q I.len⟩
theorem takesN0 {X : Cx} : L2N.Takes X (fun _ _ _ _ => False) := fun _ _ ⟨_, _, _, _, _, _, _, _, _, _, _, _, _, _, _, _, z⟩ => z.elim
theorem PE.mono {X : Cx} {e : Expr} {t t2 : TE} (h : PE X e t) (k : ∀ σ H Q, t2 σ H Q → t σ H Q) : PE X e t2 := ⟨fun pins s σ H Q I q => h.run pins s σ H Q I (k _ _ _ q)⟩
/-- e.f, e the error that the suite holds, whatever its class -/
def tXfA (K : PySem.W.Frag) (x : Addr) (cls : Value) (d : Option Addr) (f : Str) (te : TE) : TE := fun σ H Q => te σ H fun u H1 => u = .ref x ∧ ∃ (D dd : Addr) (fs : List (Str × V)) (v : V), cls = .ref D ∧ XfC K D ∧ PySem.W.findIn K (.ref D) f = some none ∧ d = some dd ∧ H1 dd = some (.xd fs) ∧ fs.lookup f = some v ∧ Q v H1
theorem pe_xfA {X : Cx} {x : Addr} {ob : Obj} {cls : Value} {d : Option Addr} {pn : List (Addr × Obj)} {e : Expr} {te : TE} {pos : Pos} {n : Str} (hz : L2N.Zn cls d ob) (hf : ∃ vs, ob.data = .fields vs) (he : PE (X.suite x ((x, ob) :: pn)) e te)
    (hb : attributeBase e n X.env (eval e X.env) = eval e X.env := by rfl) : PE (X.suite x ((x, ob) :: pn)) (.Attribute e n pos) (tXfA X.K x cls d n te) := by
  refine ⟨fun pins s σ H Q I h => attr_of hb (thn (he.run pins s σ H _ I h) fun u s1 hh => ?_)⟩
  obtain ⟨v0, H1, I1, rx, rfl, D, dd, fs, v, rfl, T, no, rfl, ea, l, q⟩ := hh
  obtain rfl := (show u = Value.ref x from rx)
  obtain ⟨here, -⟩ := I1.pin (x, ob) (List.mem_append_left _ List.mem_cons_self)
  obtain ⟨ws, hd⟩ := hf
  obtain ⟨mA, hns, hr⟩ := (show ObjOk X.prog X.w H1 s1.heap dd (.xd fs) from I1.hok dd _ ea)
  obtain ⟨od, hod, hlk⟩ := lookIn_ns hns
  obtain ⟨y, hy, ry⟩ := RelO.some_of (v := v) (o := mA n) (l ▸ hr n)
  have J : PySem.W.InstAt s1.heap x ob D (some od) := ⟨here, hz.1, by unfold PySem.W.notCls; rw [hd] <;> rfl, by rw [hz.2.1]; exact hod⟩
  exact HandSPX.exc_get I1.kIn J T.ga T.gg T.exC (PySem.W.findObj_own T.hdC no rfl (by rw [hlk, hy])) (handed_of ry) ⟨v, H1, I1.tok _, ry, q⟩
section
variable {P : Program} {w : World} {K : PySem.W.Frag} {mg : Str → Option Value} {base : Heap} {f : Addr} {fd : FuncData} {a : Ad} {C CM td cW : Addr} {Ts : List (Addr × Str)} {cc Pt : Addr}
theorem ok_ask (F : FnP K "_law_ask" s_law_ask f fd) (hcode : fd.code = .ref cc) (T : Mg mg) (TM : ClsM K mg CM) (TC : ClsC K mg C) (TB : LamX.TabB base mg cc Pt) (mem : (Pt, (Str.ofString "_law_ask" ++ ".<locals>.") ++ "<lambda>") ∈ Ts) (only : ∀ p ∈ Ts, p.1 = Pt → p.2 = (Str.ofString "_law_ask" ++ ".<locals>.") ++ "<lambda>")
    (B : Fns P w K mg base a C CM) (M : Mks P w K mg base a C CM td) : FnOk P w K mg base (L2N.CX P w) 10 f fd ["number", "length"] (spAsk K a Ts) := by
  refine okC F hcode sc_ask (fun vs H Q E h => ?_) (fun A outer s H vs Q E hr h => ?_)
  · obtain ⟨j, l, rfl, _⟩ := h
    rfl
  · obtain ⟨j, l, rfl, hl, tabs, bad⟩ := h
    match j, bad with
    | 0, bad => exact ask_0 T TM TC TB mem only B M hr tabs hl bad
    | 1, bad => exact ask_1 T TM TC TB mem only B M hr tabs hl bad
    | 2, bad => exact ask_2 T TM TC TB mem only B M hr tabs hl bad
    | 3, bad => exact ask_3 T TM TC TB mem only B M hr tabs hl bad
    | 4, bad => exact ask_4 T TM TC TB mem only B M hr tabs hl bad
    | 5, bad => exact ask_5 T TM TC TB mem only B M hr tabs hl bad
    | 6, bad => exact ask_6 T TM TC TB mem only B M hr tabs hl bad
    | 7, bad => exact ask_7 T TM TC TB mem only B M hr tabs hl bad
    | 8, bad => exact ask_8 T TM TC TB mem only B M hr tabs hl bad
    | _ + 9, bad => exact bad.elim
end
/-- the errors as they are caught and asked -/
structure Hd (K : PySem.W.Frag) (a : Ad) (cW : Addr) : Prop where
  kM : Kind K a cW a.cM ["BadMachine", "WitnessError", "ValueError"]
  kR : Kind K a cW a.cR ["BadRow", "WitnessError", "ValueError"]
  kS : Kind K a cW a.cS ["BadShowing", "WitnessError", "ValueError"]
  kT : Kind K a cW a.cT ["BadText", "WitnessError", "ValueError"]
  kF : Kind K a cW a.cF ["Refused", "WitnessError", "ValueError"]
  kG : Kind K a cW a.cG ["TooGreat", "WitnessError", "ValueError"]
  kO : Kind K a cW a.cO ["Forgets", "WitnessError", "ValueError"]
  kD : Kind K a cW a.cD ["NoDeed", "KeyError"]
  kN : Kind K a cW a.cN ["NoState", "KeyError"]
  nM : PySem.W.findIn K (.ref a.cM) "at" = some none
  nR : PySem.W.findIn K (.ref a.cR) "at" = some none
  nS : PySem.W.findIn K (.ref a.cS) "at" = some none
  nT : PySem.W.findIn K (.ref a.cT) "at" = some none
  nF : PySem.W.findIn K (.ref a.cF) "at" = some none
  nG : PySem.W.findIn K (.ref a.cG) "most" = some none
  nO1 : PySem.W.findIn K (.ref a.cO) "deed" = some none
  nO2 : PySem.W.findIn K (.ref a.cO) "one" = some none
  nO3 : PySem.W.findIn K (.ref a.cO) "other" = some none
  nD : PySem.W.findIn K (.ref a.cD) "deed" = some none
  nN : PySem.W.findIn K (.ref a.cN) "state" = some none
  mM : PySem.W.exmAny K (.ref a.cM) [.ref a.cM, .ref a.cR, .ref a.cS, .ref a.cT, .ref a.cF] = some true
  mR : PySem.W.exmAny K (.ref a.cR) [.ref a.cM, .ref a.cR, .ref a.cS, .ref a.cT, .ref a.cF] = some true
  mS : PySem.W.exmAny K (.ref a.cS) [.ref a.cM, .ref a.cR, .ref a.cS, .ref a.cT, .ref a.cF] = some true
  mT : PySem.W.exmAny K (.ref a.cT) [.ref a.cM, .ref a.cR, .ref a.cS, .ref a.cT, .ref a.cF] = some true
  mF : PySem.W.exmAny K (.ref a.cF) [.ref a.cM, .ref a.cR, .ref a.cS, .ref a.cT, .ref a.cF] = some true
  mG0 : PySem.W.exmAny K (.ref a.cG) [.ref a.cM, .ref a.cR, .ref a.cS, .ref a.cT, .ref a.cF] = some false
  mG1 : PySem.W.exmAny K (.ref a.cG) [.ref a.cG] = some true
  mO0 : PySem.W.exmAny K (.ref a.cO) [.ref a.cM, .ref a.cR, .ref a.cS, .ref a.cT, .ref a.cF] = some false
  mO1 : PySem.W.exmAny K (.ref a.cO) [.ref a.cG] = some false
  mO2 : PySem.W.exmAny K (.ref a.cO) [.ref a.cO] = some true
  mD0 : PySem.W.exmAny K (.ref a.cD) [.ref a.cM, .ref a.cR, .ref a.cS, .ref a.cT, .ref a.cF] = some false
  mD1 : PySem.W.exmAny K (.ref a.cD) [.ref a.cG] = some false
  mD2 : PySem.W.exmAny K (.ref a.cD) [.ref a.cO] = some false
  mD3 : PySem.W.exmAny K (.ref a.cD) [.ref a.cD] = some true
  mN0 : PySem.W.exmAny K (.ref a.cN) [.ref a.cM, .ref a.cR, .ref a.cS, .ref a.cT, .ref a.cF] = some false
  mN1 : PySem.W.exmAny K (.ref a.cN) [.ref a.cG] = some false
  mN2 : PySem.W.exmAny K (.ref a.cN) [.ref a.cO] = some false
  mN3 : PySem.W.exmAny K (.ref a.cN) [.ref a.cD] = some false
  mN4 : PySem.W.exmAny K (.ref a.cN) [.ref a.cN] = some true
end K0
/-! what is raised, told -/
namespace K0
open L2 PySem PySem.Spec PyProof.Rows Kx RZ
def nmOf : Nat → List Str
  | 0 => ["BadMachine", "WitnessError", "ValueError"]
  | 1 => ["BadRow", "WitnessError", "ValueError"]
  | 2 => ["BadShowing", "WitnessError", "ValueError"]
  | 3 => ["BadText", "WitnessError", "ValueError"]
  | 4 => ["Refused", "WitnessError", "ValueError"]
  | 5 => ["TooGreat", "WitnessError", "ValueError"]
  | 6 => ["Forgets", "WitnessError", "ValueError"]
  | 7 => ["NoDeed", "KeyError"]
  | _ => ["NoState", "KeyError"]
def fdOf (l : Nat) : Nat → PyData
  | 4 => .tuple [.int (0 - (l : Nat))]
  | 6 => .tuple [.int 1, .int 0, .int 1]
  | 7 => .int (1 + (l : Nat))
  | 8 => .int (2 + (l : Nat))
  | _ => .int (l : Nat)
def dTold (l j : Nat) : PyData := .list [.list ((nmOf j).map PyData.str), fdOf l j]
def spRaised (K : PySem.W.Frag) (Ts : List (Addr × Str)) : Sp := fun vs H Q _ => ∃ j l : Nat, vs = [.int (j : Nat), .int (l : Nat)] ∧ j < 9 ∧ (l = 1 ∨ l = 2 ∨ l = 3) ∧ LamX.Tabs Ts H ∧ ∀ p H', Wt Ts H H' → Dp K H' (.ref p) (dTold l j) → Q (.ref p) H'
theorem dp_strs {K : PySem.W.Frag} {H : Hp} : ∀ (ns : List Str), DpAll K H (ns.map V.str) (ns.map PyData.str)
  | [] => .nil
  | n :: ns => .cons (.str n) (dp_strs ns)
theorem three {σ : L2.St} (h : σ.length = 3) : ∃ v0 v1 v2, σ = [v0, v1, v2] := by
  match σ, h with
  | [v0, v1, v2], _ => exact ⟨v0, v1, v2, rfl⟩
theorem no1 {P : Prop} : false = true → P := fun z => nomatch z
theorem no2 {P : Prop} : true = false → P := fun z => nomatch z
/-- _law_bases(e), e the error that the suite holds -/
def spB (K : PySem.W.Frag) (a : Ad) (cW : Addr) (cls : Value) (d : Option Addr) (H : Hp) (Q : VK) : Prop := ∃ (D dd : Addr) (fs : List (Str × V)) (names : List Str), cls = .ref D ∧ d = some dd ∧ H dd = some (.xd fs) ∧ Kind K a cW D names ∧ ∀ q H', Same H H' → H' q = some (.lst (names.map V.str)) → Q (.ref q) H'
theorem pe_basesS {X : Cx} {a : Ad} {cW x : Addr} {i j : Nat} {nm : Str} {p p2 pos : Pos} {ob : Obj} {cls : Value} {d : Option Addr} {pn : List (Addr × Obj)} (c : Hot.CalE X.prog X.w X.K X.mg X.base 1 "_law_bases" ["error"] (spBasesE X.K a cW)) (hr : Room j X.A) (hz : L2N.Zn cls d ob) (hf : ∃ vs, ob.data = .fields vs)
    (hN : X.N[i]? = some nm) (hk : 1 ≤ j := by decide) (hv : Vis X.env.scope nm := by first | exact Or.inl rfl | exact Or.inr (Or.inl rfl)) (hg : Gl X "_law_bases" := by rfl) (hd : (nm == ("__debug__" : Str)) = false := by decide) (hcd : (nm == ("__classdict__" : Str)) = false := by decide)
    (he : starEach [.Name nm p2] X.env = (false, eval (.Name nm p2) X.env) :: starEach [] X.env := by rfl) (hpl : (backTo pos (starEach [] X.env)).any (·.1) = false := by rfl) :
    PE (X.suite x ((x, ob) :: pn)) (.Call (.Name "_law_bases" p) [.Name nm p2] [] pos) (fun σ H Q => ∃ v, σ[i]? = some (some v) ∧ v = .ref x ∧ spB X.K a cW cls d H Q) := by
  refine PE.mono (Hot.pe_callE c hr hz hf (pa_cons (pe_var (i := i) hN hv hd hcd) pa_nil) hk hg (by decide) he hpl) ?_
  rintro σ H Q ⟨v, hv, rfl, D, dd, fs, names, rfl, rfl, h1, h2, h3⟩
  exact ⟨_, hv, D, dd, fs, names, rfl, hz.zc, hf, h1, h2, h3⟩
section
variable {P : Program} {w : World} {K : PySem.W.Frag} {mg : Str → Option Value} {base : Heap} {f : Addr} {fd : FuncData} {a : Ad} {cW : Addr} {Ts : List (Addr × Str)}
theorem sc_raised : FnScope ["number", "length", "e"] ["number", "length"] (defScope s_law_raised) := ⟨rfl, rfl, rfl, by decide +kernel, rfl, by decide +kernel, by decide +kernel⟩
theorem ok_raised (F : FnP K "_law_raised" s_law_raised f fd) (T : Mg mg) (R : Er P w K mg base a) (D : Hd K a cW) (cA : Cal P w K mg base (L2N.CX P w) 10 "_law_ask" ["number", "length"] (spAsk K a Ts)) (cE : Hot.CalE P w K mg base 1 "_law_bases" ["error"] (spBasesE K a cW)) :
    FnOk P w K mg base CX0 11 f fd ["number", "length"] (spRaised K Ts) := by
  refine F.ok sc_raised (fun vs H Q E h => ?_) (fun cdv A outer s H vs Q E hr h => ?_)
  · obtain ⟨j, l, rfl, _⟩ := h
    rfl
  · obtain ⟨j, l, rfl, j9, hl, tabs, k⟩ := h
    refine ⟨_, PSs.nox (pss_cons (N.ps_tries (W := fun _ _ _ _ => False)
        (tb := fun U E σ H => tCall (spAsk K a Ts) [] (fun cls d H' => ∀ σ' : L2.St, σ'.length = 3 → U cls d σ' H') (tCons (tVar 0) (tCons (tVar 1) tNil)) σ H fun _ H' => E.nx σ H')
        rfl rfl takesN0 (fun U pn xe tk own => pss_one (ps_expr (pe_callC cA hr (L2N.passes_call (takesN_len tk) fun _ _ σ _ z hl => z σ hl) (pa_cons (pv 0) (pa_cons (pv 1) pa_nil)))))
        (N.Clauses.five (i := 2) sc_raised.nd rfl rfl ⟨rfl, by decide, .inl R.BadMachine.at_⟩ ⟨rfl, by decide, .inl R.BadRow.at_⟩ ⟨rfl, by decide, .inl R.BadShowing.at_⟩ ⟨rfl, by decide, .inl R.BadText.at_⟩ ⟨rfl, by decide, .inl R.Refused.at_⟩ (fun x ob cls d pn hz hf => pss_one (ps_ret (pe_lst (pa_cons (pe_basesS (i := 2) cE hr hz hf rfl) (pa_cons (pe_xfA hz hf (pv 2)) pa_nil)))))
        (N.Clauses.cons (i := 2) sc_raised.nd rfl rfl ⟨rfl, by decide, .inl R.TooGreat.at_⟩ (fun x ob cls d pn hz hf => pss_one (ps_ret (pe_lst (pa_cons (pe_basesS (i := 2) cE hr hz hf rfl) (pa_cons (pe_xfA hz hf (pv 2)) pa_nil)))))
        (N.Clauses.cons (i := 2) sc_raised.nd rfl rfl ⟨rfl, by decide, .inl R.Forgets.at_⟩ (fun x ob cls d pn hz hf => pss_one (ps_ret (pe_lst (pa_cons (pe_basesS (i := 2) cE hr hz hf rfl) (pa_cons (pe_tup (pa_cons (pe_xfA hz hf (pv 2)) (pa_cons (pe_xfA hz hf (pv 2)) (pa_cons (pe_xfA hz hf (pv 2)) pa_nil)))) pa_nil)))))
        (N.Clauses.cons (i := 2) sc_raised.nd rfl rfl ⟨rfl, by decide, .inl R.NoDeed.at_⟩ (fun x ob cls d pn hz hf => pss_one (ps_ret (pe_lst (pa_cons (pe_basesS (i := 2) cE hr hz hf rfl) (pa_cons (pe_xfA hz hf (pv 2)) pa_nil)))))
        (N.Clauses.cons (i := 2) sc_raised.nd rfl rfl ⟨rfl, by decide, .inl R.NoState.at_⟩ (fun x ob cls d pn hz hf => pss_one (ps_ret (pe_lst (pa_cons (pe_basesS (i := 2) cE hr hz hf rfl) (pa_cons (pe_xfA hz hf (pv 2)) pa_nil)))))
        N.Clauses.nil))))))
      (pss_one (ps_ret pe_non))), ?_⟩
    refine ⟨_, rfl, _, rfl, j, l, rfl, hl, tabs, ?_⟩
    have cs : j = 0 ∨ j = 1 ∨ j = 2 ∨ j = 3 ∨ j = 4 ∨ j = 5 ∨ j = 6 ∨ j = 7 ∨ j = 8 := by omega
    rcases cs with rfl | rfl | rfl | rfl | rfl | rfl | rfl | rfl | rfl
    · refine fun G wG d H1 e hd σ1 hl1 => ?_
      obtain ⟨v0, v1, v2, rfl⟩ := three hl1
      refine ⟨true, D.mM, fun _ x hx => ⟨_, rfl, rfl, a.cM, d, _, _, rfl, rfl, hd, D.kM, fun q H2 e2 hq => ?_⟩, no2⟩
      refine ⟨_, rfl, rfl, a.cM, d, _, _, rfl, D.kM.xf, D.nM, rfl, e2 _ _ hd, rfl, by show 2 ≤ sizeLine; decide, fun pp hp => ?_⟩
      have ep := same_new (o := HO.lst [V.ref q, .int (l : Nat)]) hp
      exact k pp _ ((wG.same ((e.trans e2).trans ep))) (.lst (SqL.of upd_same) (.cons (.lst (SqL.of (ep _ _ hq)) (dp_strs _)) (.cons (.int _) .nil)))
    · refine fun G wG d H1 e hd σ1 hl1 => ?_
      obtain ⟨v0, v1, v2, rfl⟩ := three hl1
      refine ⟨true, D.mR, fun _ x hx => ⟨_, rfl, rfl, a.cR, d, _, _, rfl, rfl, hd, D.kR, fun q H2 e2 hq => ?_⟩, no2⟩
      refine ⟨_, rfl, rfl, a.cR, d, _, _, rfl, D.kR.xf, D.nR, rfl, e2 _ _ hd, rfl, by show 2 ≤ sizeLine; decide, fun pp hp => ?_⟩
      have ep := same_new (o := HO.lst [V.ref q, .int (l : Nat)]) hp
      exact k pp _ ((wG.same ((e.trans e2).trans ep))) (.lst (SqL.of upd_same) (.cons (.lst (SqL.of (ep _ _ hq)) (dp_strs _)) (.cons (.int _) .nil)))
    · refine fun G wG d H1 e hd σ1 hl1 => ?_
      obtain ⟨v0, v1, v2, rfl⟩ := three hl1
      refine ⟨true, D.mS, fun _ x hx => ⟨_, rfl, rfl, a.cS, d, _, _, rfl, rfl, hd, D.kS, fun q H2 e2 hq => ?_⟩, no2⟩
      refine ⟨_, rfl, rfl, a.cS, d, _, _, rfl, D.kS.xf, D.nS, rfl, e2 _ _ hd, rfl, by show 2 ≤ sizeLine; decide, fun pp hp => ?_⟩
      have ep := same_new (o := HO.lst [V.ref q, .int (l : Nat)]) hp
      exact k pp _ ((wG.same ((e.trans e2).trans ep))) (.lst (SqL.of upd_same) (.cons (.lst (SqL.of (ep _ _ hq)) (dp_strs _)) (.cons (.int _) .nil)))
    · refine fun G wG d H1 e hd σ1 hl1 => ?_
      obtain ⟨v0, v1, v2, rfl⟩ := three hl1
      refine ⟨true, D.mT, fun _ x hx => ⟨_, rfl, rfl, a.cT, d, _, _, rfl, rfl, hd, D.kT, fun q H2 e2 hq => ?_⟩, no2⟩
      refine ⟨_, rfl, rfl, a.cT, d, _, _, rfl, D.kT.xf, D.nT, rfl, e2 _ _ hd, rfl, by show 2 ≤ sizeLine; decide, fun pp hp => ?_⟩
      have ep := same_new (o := HO.lst [V.ref q, .int (l : Nat)]) hp
      exact k pp _ ((wG.same ((e.trans e2).trans ep))) (.lst (SqL.of upd_same) (.cons (.lst (SqL.of (ep _ _ hq)) (dp_strs _)) (.cons (.int _) .nil)))
    · refine fun G wG p sp d H1 e hd σ1 hl1 => ?_
      obtain ⟨v0, v1, v2, rfl⟩ := three hl1
      refine ⟨true, D.mF, fun _ x hx => ⟨_, rfl, rfl, a.cF, d, _, _, rfl, rfl, hd, D.kF, fun q H2 e2 hq => ?_⟩, no2⟩
      refine ⟨_, rfl, rfl, a.cF, d, _, _, rfl, D.kF.xf, D.nF, rfl, e2 _ _ hd, rfl, by show 2 ≤ sizeLine; decide, fun pp hp => ?_⟩
      have ep := same_new (o := HO.lst [V.ref q, .ref p]) hp
      exact k pp _ ((wG.same ((e.trans e2).trans ep))) (.lst (SqL.of upd_same) (.cons (.lst (SqL.of (ep _ _ hq)) (dp_strs _)) (.cons (.tup (sqT_same ((e.trans e2).trans ep) sp) (.cons (.int _) .nil)) .nil)))
    · refine fun G wG d H1 e hd σ1 hl1 => ?_
      obtain ⟨v0, v1, v2, rfl⟩ := three hl1
      refine ⟨false, D.mG0, no1, fun _ => ⟨true, D.mG1, fun _ x hx => ⟨_, rfl, rfl, a.cG, d, _, _, rfl, rfl, hd, D.kG, fun q H2 e2 hq => ?_⟩, no2⟩⟩
      refine ⟨_, rfl, rfl, a.cG, d, _, _, rfl, D.kG.xf, D.nG, rfl, e2 _ _ hd, rfl, by show 2 ≤ sizeLine; decide, fun pp hp => ?_⟩
      have ep := same_new (o := HO.lst [V.ref q, .int (l : Nat)]) hp
      exact k pp _ ((wG.same ((e.trans e2).trans ep))) (.lst (SqL.of upd_same) (.cons (.lst (SqL.of (ep _ _ hq)) (dp_strs _)) (.cons (.int _) .nil)))
    · refine fun G wG d H1 e hd σ1 hl1 => ?_
      obtain ⟨v0, v1, v2, rfl⟩ := three hl1
      refine ⟨false, D.mO0, no1, fun _ => ⟨false, D.mO1, no1, fun _ => ⟨true, D.mO2, fun _ x hx => ⟨_, rfl, rfl, a.cO, d, _, _, rfl, rfl, hd, D.kO, fun q H2 e2 hq => ?_⟩, no2⟩⟩⟩
      have hd2 := e2 _ _ hd
      refine ⟨_, rfl, rfl, a.cO, d, _, _, rfl, D.kO.xf, D.nO1, rfl, hd2, rfl, _, rfl, rfl, a.cO, d, _, _, rfl, D.kO.xf, D.nO2, rfl, hd2, rfl, _, rfl, rfl, a.cO, d, _, _, rfl, D.kO.xf, D.nO3, rfl, hd2, rfl, by show 3 ≤ sizeLine; decide, fun t ht => ⟨by show 2 ≤ sizeLine; decide, fun p hp => ?_⟩⟩
      have et := same_new (o := HO.tup [V.int 1, .int 0, .int 1]) ht
      have ep := same_new (o := HO.lst [V.ref q, .ref t]) hp
      exact k p _ ((wG.same ((e.trans e2).trans (et.trans ep)))) (.lst (SqL.of upd_same) (.cons (.lst (SqL.of (ep _ _ (et _ _ hq))) (dp_strs _)) (.cons (.tup (SqT.of (ep _ _ upd_same)) (.cons (.int _) (.cons (.int _) (.cons (.int _) .nil)))) .nil)))
    · refine fun G wG d H1 e hd σ1 hl1 => ?_
      obtain ⟨v0, v1, v2, rfl⟩ := three hl1
      refine ⟨false, D.mD0, no1, fun _ => ⟨false, D.mD1, no1, fun _ => ⟨false, D.mD2, no1, fun _ => ⟨true, D.mD3, fun _ x hx => ⟨_, rfl, rfl, a.cD, d, _, _, rfl, rfl, hd, D.kD, fun q H2 e2 hq => ?_⟩, no2⟩⟩⟩⟩
      refine ⟨_, rfl, rfl, a.cD, d, _, _, rfl, D.kD.xf, D.nD, rfl, e2 _ _ hd, rfl, by show 2 ≤ sizeLine; decide, fun pp hp => ?_⟩
      have ep := same_new (o := HO.lst [V.ref q, .int (1 + (l : Nat))]) hp
      exact k pp _ ((wG.same ((e.trans e2).trans ep))) (.lst (SqL.of upd_same) (.cons (.lst (SqL.of (ep _ _ hq)) (dp_strs _)) (.cons (.int _) .nil)))
    · refine fun G wG d H1 e hd σ1 hl1 => ?_
      obtain ⟨v0, v1, v2, rfl⟩ := three hl1
      refine ⟨false, D.mN0, no1, fun _ => ⟨false, D.mN1, no1, fun _ => ⟨false, D.mN2, no1, fun _ => ⟨false, D.mN3, no1, fun _ => ⟨true, D.mN4, fun _ x hx => ⟨_, rfl, rfl, a.cN, d, _, _, rfl, rfl, hd, D.kN, fun q H2 e2 hq => ?_⟩, no2⟩⟩⟩⟩⟩
      refine ⟨_, rfl, rfl, a.cN, d, _, _, rfl, D.kN.xf, D.nN, rfl, e2 _ _ hd, rfl, by show 2 ≤ sizeLine; decide, fun pp hp => ?_⟩
      have ep := same_new (o := HO.lst [V.ref q, .int (2 + (l : Nat))]) hp
      exact k pp _ ((wG.same ((e.trans e2).trans ep))) (.lst (SqL.of upd_same) (.cons (.lst (SqL.of (ep _ _ hq)) (dp_strs _)) (.cons (.int _) .nil)))
end
end K0
/-! errors keep what they are made of -/
namespace K0
open L2 PySem PySem.Spec PyProof.Rows Kx RZ
/-- a name and an error of this class that keeps v in "at" -/
def Ent (K : PySem.W.Frag) (a : Ad) (cW : Addr) (v : V) (H : Hp) (u : V) : Prop := ∃ (p x D d : Addr) (n : Str), u = .ref p ∧ H p = some (.tup [.str n, .ref x]) ∧ EvAt H x D d [("at", v)] ∧ Kind K a cW D [n, "WitnessError", "ValueError"] ∧ PySem.W.findIn K (.ref D) "at" = some none ∧
  (n = "BadMachine" ∨ n = "BadRow" ∨ n = "BadShowing" ∨ n = "BadText" ∨ n = "Refused")
theorem Ent.same {K : PySem.W.Frag} {a : Ad} {cW : Addr} {v u : V} {H H' : Hp} (e : Same H H') (h : Ent K a cW v H u) : Ent K a cW v H' u := by
  obtain ⟨p, x, D, d, n, rfl, h1, h2, h3, h4, h5⟩ := h
  exact ⟨p, x, D, d, n, rfl, e _ _ h1, h2.same e, h3, h4, h5⟩
theorem made_fact {H : Hp} {x C d : Addr} {fs : List (Str × V)} (hx : H x = none) (hd : upd H x (exo x C none) d = none) (ne : d ≠ x) : Same H (upd (upd (upd H x (exo x C none)) d (exd d fs)) x (exo x C (some d))) ∧ EvAt (upd (upd (upd H x (exo x C none)) d (exd d fs)) x (exo x C (some d))) x C d fs := by
  rw [upd_ne ne] at hd
  refine ⟨fun b o q => ?_, exo_ev upd_same (by rw [upd_ne ne, upd_same])⟩
  have e1 := ne_of_none q hx
  rw [upd_ne e1, upd_ne (ne_of_none q hd), upd_ne e1]
  exact q
theorem made3_fact {H H2 : Hp} {x C d : Addr} {fs : List (Str × V)} (hx : H x = none) (hd : upd H x (exo x C none) d = none) (ne : d ≠ x) (keep : ∀ b, b ≠ x → b ≠ d → H2 b = upd H x (exo x C none) b) (h1 : H2 x = some (exo x C (some d))) (h2 : H2 d = some (exd d fs)) : Same H H2 ∧ EvAt H2 x C d fs := by
  rw [upd_ne ne] at hd
  refine ⟨fun b o q => ?_, exo_ev h1 h2⟩
  have e1 := ne_of_none q hx
  rw [keep b e1 (ne_of_none q hd), upd_ne e1]
  exact q
/-- the four others -/
def Quad (a : Ad) (v1 v2 v3 : V) (H : Hp) (u : V) : Prop := ∃ (p g o d s cg co cd cs : Addr), u = .ref p ∧ H p = some (.tup [.ref g, .ref o, .ref d, .ref s]) ∧ EvAt H g a.cG cg [("most", v2)] ∧ EvAt H o a.cO co [("other", v3), ("one", v2), ("deed", v1)] ∧ EvAt H d a.cD cd [("deed", v1)] ∧ EvAt H s a.cN cs [("state", v2)]
theorem Quad.same {a : Ad} {v1 v2 v3 u : V} {H H' : Hp} (e : Same H H') (h : Quad a v1 v2 v3 H u) : Quad a v1 v2 v3 H' u := by
  obtain ⟨p, g, o, d, s, cg, co, cd, cs, rfl, h1, h2, h3, h4, h5⟩ := h
  exact ⟨p, g, o, d, s, cg, co, cd, cs, rfl, e _ _ h1, h2.same e, h3.same e, h4.same e, h5.same e⟩
def spKept (K : PySem.W.Frag) : Sp := fun vs H Q _ => ∃ (b : Addr) (t : Int × Int × Int), vs = [.ref b] ∧ H b = some (bx t) ∧ ∀ H', Mv b H H' → Q (.bl true) H'
section
variable {P : Program} {w : World} {K : PySem.W.Frag} {mg : Str → Option Value} {base : Heap} {f : Addr} {fd : FuncData} {a : Ad} {cW : Addr}
theorem sc_kept : FnScope ["box", "value", "more", "most", "told", "name", "error", "named", "great", "gone", "deed", "state"] ["box"] (defScope s_law_kept_right) := ⟨rfl, rfl, rfl, by decide +kernel, rfl, by decide +kernel, by decide +kernel⟩
theorem ok_kept (F : FnP K "_law_kept_right" s_law_kept_right f fd) (T : Mg mg) (R : Er P w K mg base a) (D : Hd K a cW) (c_val : Cal P w K mg base CX0 3 "_law_value" ["box"] (spValue K)) (c_bas : Cal P w K mg base CX0 1 "_law_bases" ["error"] (spBases K a cW)) :
    FnG P w K mg base CX0 5 f fd ["box"] (spKept K) := by
  refine okG F sc_kept (fun vs H Q E h => ?_) (fun cdv A outer s H vs Q E lone hcode hr h => ?_)
  · obtain ⟨b, t, rfl, _⟩ := h
    rfl
  · obtain ⟨b, t, rfl, hb, k⟩ := h
    have cs : CallR (cxOf CX0 P w K mg base ["box", "value", "more", "most", "told", "name", "error", "named", "great", "gone", "deed", "state"] "_law_kept_right" (defScope s_law_kept_right) f cdv A outer s H E).nox (.builtin "repr") (rShow K) := call_show lone (r64 hr)
    refine ⟨_, PSs.nox (pss_cons (ps_mid (ps_par3 (i := 1) (j := 2) (l := 3) (by rfl) sc_kept.nd rfl rfl rfl (by decide) (by decide) (by decide) rfl rfl rfl (pa_cons (pe_callC c_val hr pass0 (pa_cons (pv 0) pa_nil)) (pa_cons (pe_callC c_val hr pass0 (pa_cons (pv 0) pa_nil)) (pa_cons (pe_callC c_val hr pass0 (pa_cons (pv 0) pa_nil)) pa_nil))) (by rfl)))
      (pss_cons (ps_mid (ps_set (i := 4) sc_kept.nd rfl (by first | exact Or.inl rfl | exact Or.inr rfl) (pe_lst (pa_cons (pe_tup (pa_cons pe_str (pa_cons (peV R.BadMachine hr (pa_cons (pv 1) pa_nil)) pa_nil))) (pa_cons (pe_tup (pa_cons pe_str (pa_cons (peV R.BadRow hr (pa_cons (pv 1) pa_nil)) pa_nil))) (pa_cons (pe_tup (pa_cons pe_str (pa_cons (peV R.BadShowing hr (pa_cons (pv 1) pa_nil)) pa_nil))) (pa_cons (pe_tup (pa_cons pe_str (pa_cons (peV R.BadText hr (pa_cons (pv 1) pa_nil)) pa_nil))) pa_nil)))))))
      (pss_cons (ps_mid (ps_set (i := 4) sc_kept.nd rfl (by first | exact Or.inl rfl | exact Or.inr rfl) (pe_op op_cat (pv 4) (pe_lst (pa_cons (pe_tup (pa_cons pe_str (pa_cons (peV R.Refused hr (pa_cons (pv 1) pa_nil)) pa_nil))) (pa_cons (pe_tup (pa_cons pe_str (pa_cons (peVK R.BadMachine hr (pk_cons (pv 1) pk_nil)) pa_nil))) (pa_cons (pe_tup (pa_cons pe_str (pa_cons (peVK R.BadRow hr (pk_cons (pv 1) pk_nil)) pa_nil))) pa_nil)))))))
      (pss_cons (ps_mid (ps_set (i := 4) sc_kept.nd rfl (by first | exact Or.inl rfl | exact Or.inr rfl) (pe_op op_cat (pv 4) (pe_lst (pa_cons (pe_tup (pa_cons pe_str (pa_cons (peVK R.BadShowing hr (pk_cons (pv 1) pk_nil)) pa_nil))) (pa_cons (pe_tup (pa_cons pe_str (pa_cons (peVK R.BadText hr (pk_cons (pv 1) pk_nil)) pa_nil))) (pa_cons (pe_tup (pa_cons pe_str (pa_cons (peVK R.Refused hr (pk_cons (pv 1) pk_nil)) pa_nil))) pa_nil)))))))
      (pss_cons (ps_mid (ps_for PassesOwn.never rfl (pi_list (pv 4)) (pg_tup rfl (pgs_cons (pg_name (i := 5) sc_kept.nd rfl (by first | exact Or.inl rfl | exact Or.inr rfl)) (pgs_cons (pg_name (i := 6) sc_kept.nd rfl (by first | exact Or.inl rfl | exact Or.inr rfl)) pgs_nil))) (pss_one (ps_if (PW.pt (pw_or (pt_cmpR (op_neD (r64 hr)) (pe_callC c_bas hr pass0 (pa_cons (pv 6) pa_nil)) (pe_lst (pa_cons (pv 5) (pa_cons pe_str (pa_cons pe_str pa_nil)))) (nomark _)) (pw_or1 (pt_cmpR op_ne (pe_callB cs (by rfl) T.z_repr (by decide +kernel) (pa_cons (pe_ev (pv 6)) pa_nil)) (pe_callB cs (by rfl) T.z_repr (by decide +kernel) (pa_cons (pv 1) pa_nil)) (nomark _))))) (pss_one (ps_ret pe_bl)) pss_nil))))
      (pss_cons (ps_mid (ps_set (i := 7) sc_kept.nd rfl (by first | exact Or.inl rfl | exact Or.inr rfl) (pe_tup (pa_cons (peVK R.TooGreat hr (pk_cons (pv 2) pk_nil)) (pa_cons (peFK R.Forgets hr (pk_cons (pv 3) (pk_cons (pv 1) (pk_cons (pv 2) pk_nil)))) (pa_cons (peVK R.NoDeed hr (pk_cons (pv 1) pk_nil)) (pa_cons (peVK R.NoState hr (pk_cons (pv 2) pk_nil)) pa_nil)))))))
      (pss_cons (ps_mid (ps_for PassesOwn.never rfl (pi_tup (pe_tup (pa_cons (pe_tup (pa_cons (peV R.TooGreat hr (pa_cons (pv 2) pa_nil)) (pa_cons (peF R.Forgets hr (pa_cons (pv 1) (pa_cons (pv 2) (pa_cons (pv 3) pa_nil)))) (pa_cons (peV R.NoDeed hr (pa_cons (pv 1) pa_nil)) (pa_cons (peV R.NoState hr (pa_cons (pv 2) pa_nil)) pa_nil))))) (pa_cons (pv 7) pa_nil)))) (pg_tup rfl (pgs_cons (pg_name (i := 8) sc_kept.nd rfl (by first | exact Or.inl rfl | exact Or.inr rfl)) (pgs_cons (pg_name (i := 9) sc_kept.nd rfl (by first | exact Or.inl rfl | exact Or.inr rfl)) (pgs_cons (pg_name (i := 10) sc_kept.nd rfl (by first | exact Or.inl rfl | exact Or.inr rfl)) (pgs_cons (pg_name (i := 11) sc_kept.nd rfl (by first | exact Or.inl rfl | exact Or.inr rfl)) pgs_nil))))) (pss_cons (ps_mid (ps_if (PW.pt (pw_or (pt_cmpR (op_neD (r64 hr)) (pe_callC c_bas hr pass0 (pa_cons (pv 8) pa_nil)) (pe_lst (pa_cons pe_str (pa_cons pe_str (pa_cons pe_str pa_nil)))) (nomark _)) (pw_or1 (pt_cmpR (op_neD (r64 hr)) (pe_callC c_bas hr pass0 (pa_cons (pv 10) pa_nil)) (pe_lst (pa_cons pe_str (pa_cons pe_str pa_nil))) (nomark _))))) (pss_one (ps_ret pe_bl)) pss_nil)) (pss_cons (ps_mid (ps_if (PW.pt (pw_or (pt_cmpR (op_neD (r64 hr)) (pe_callC c_bas hr pass0 (pa_cons (pv 9) pa_nil)) (pe_lst (pa_cons pe_str (pa_cons pe_str (pa_cons pe_str pa_nil)))) (nomark _)) (pw_or1 (pt_cmpR (op_neD (r64 hr)) (pe_callC c_bas hr pass0 (pa_cons (pv 11) pa_nil)) (pe_lst (pa_cons pe_str (pa_cons pe_str pa_nil))) (nomark _))))) (pss_one (ps_ret pe_bl)) pss_nil)) (pss_one (ps_if (pt_cmpR op_ne (pe_callB cs (by rfl) T.z_repr (by decide +kernel) (pa_cons (pe_lst (pa_cons (pe_ev (pv 8)) (pa_cons (pe_ev (pv 10)) (pa_cons (pe_ev (pv 11)) (pa_cons (pe_ev (pv 9)) (pa_cons (pe_ev (pv 9)) (pa_cons (pe_ev (pv 9)) pa_nil))))))) pa_nil)) (pe_callB cs (by rfl) T.z_repr (by decide +kernel) (pa_cons (pe_lst (pa_cons (pv 2) (pa_cons (pv 1) (pa_cons (pv 2) (pa_cons (pv 1) (pa_cons (pv 2) (pa_cons (pv 3) pa_nil))))))) pa_nil)) (nomark _)) (pss_one (ps_ret pe_bl)) pss_nil))))))
      (pss_one (ps_ret pe_bl))))))))), ?_⟩
    refine ⟨fun σ' H' => ∃ v1 d1 v2 d2 v3 d3, σ' = [some (.ref b), some v1, some v2, some v3, none, none, none, none, none, none, none, none] ∧ Mv b H H' ∧ Val K b H' v1 d1 ∧ Val K b H' v2 d2 ∧ Val K b H' v3 d3, ?_, ?_⟩
    · refine ⟨_, rfl, b, t, rfl, hb, fun v1 d1 H1 m1 w1 => ?_⟩
      obtain ⟨t1, b1⟩ := m1.2
      refine ⟨_, rfl, b, t1, rfl, b1, fun v2 d2 H2 m2 w2 => ?_⟩
      obtain ⟨t2, b2⟩ := m2.2
      refine ⟨_, rfl, b, t2, rfl, b2, fun v3 d3 H3 m3 w3 => ?_⟩
      exact ⟨_, _, _, rfl, v1, d1, v2, d2, v3, d3, rfl, (m1.trans m2).trans m3, (w1.mv m2 b1).mv m3 b2, w2.mv m3 b2, w3⟩
    rintro σ1 G ⟨v1, d1, v2, d2, v3, d3, rfl, mv, w1, w2, w3⟩
    refine ⟨(fun σ' H' => ∃ T xs, σ' = [some (.ref b), some v1, some v2, some v3, some (.ref T), none, none, none, none, none, none, none] ∧ Same G H' ∧ H' T = some (.lst xs) ∧ xs.length = 4 ∧ ∀ u ∈ xs, Ent K a cW v1 H' u), ?_, ?_⟩
    · refine ⟨_, rfl, by show 1 ≤ 1000; decide, fun x1 hx1 => ⟨x1, _, rfl, upd_same, fun c1 hc1 nc1 => ⟨rfl, ?_⟩⟩⟩
      obtain ⟨e1, ev1⟩ := made_fact (fs := [("at", v1)]) hx1 hc1 nc1
      generalize upd (upd (upd G x1 (exo x1 a.cM none)) c1 (exd c1 [("at", v1)])) x1 (exo x1 a.cM (some c1)) = H1 at e1 ev1 ⊢
      clear hx1 hc1 nc1
      refine ⟨by show 2 ≤ sizeLine; decide, fun p1 hp1 => ?_⟩
      have n1 := same_new (o := HO.tup [.str "BadMachine", .ref x1]) hp1
      have s1 := ((Same.refl G).trans e1).trans n1
      have t1 : Ent K a cW v1 _ (.ref p1) := ⟨p1, x1, _, c1, "BadMachine", rfl, upd_same, ev1.same n1, D.kM, D.nM, by simp⟩
      generalize upd H1 p1 (.tup [.str "BadMachine", .ref x1]) = G1' at n1 s1 t1 ⊢
      clear n1 ev1 e1
      refine ⟨_, rfl, by show 1 ≤ 1000; decide, fun x2 hx2 => ⟨x2, _, rfl, upd_same, fun c2 hc2 nc2 => ⟨rfl, ?_⟩⟩⟩
      obtain ⟨e2, ev2⟩ := made_fact (fs := [("at", v1)]) hx2 hc2 nc2
      generalize upd (upd (upd G1' x2 (exo x2 a.cR none)) c2 (exd c2 [("at", v1)])) x2 (exo x2 a.cR (some c2)) = H2 at e2 ev2 ⊢
      clear hx2 hc2 nc2
      refine ⟨by show 2 ≤ sizeLine; decide, fun p2 hp2 => ?_⟩
      have n2 := same_new (o := HO.tup [.str "BadRow", .ref x2]) hp2
      have s2 := (s1.trans e2).trans n2
      have t2 : Ent K a cW v1 _ (.ref p2) := ⟨p2, x2, _, c2, "BadRow", rfl, upd_same, ev2.same n2, D.kR, D.nR, by simp⟩
      have t1 := t1.same (e2.trans n2)
      generalize upd H2 p2 (.tup [.str "BadRow", .ref x2]) = G2' at n2 s2 t1 t2 ⊢
      clear n2 ev2 e2
      refine ⟨_, rfl, by show 1 ≤ 1000; decide, fun x3 hx3 => ⟨x3, _, rfl, upd_same, fun c3 hc3 nc3 => ⟨rfl, ?_⟩⟩⟩
      obtain ⟨e3, ev3⟩ := made_fact (fs := [("at", v1)]) hx3 hc3 nc3
      generalize upd (upd (upd G2' x3 (exo x3 a.cS none)) c3 (exd c3 [("at", v1)])) x3 (exo x3 a.cS (some c3)) = H3 at e3 ev3 ⊢
      clear hx3 hc3 nc3
      refine ⟨by show 2 ≤ sizeLine; decide, fun p3 hp3 => ?_⟩
      have n3 := same_new (o := HO.tup [.str "BadShowing", .ref x3]) hp3
      have s3 := (s2.trans e3).trans n3
      have t3 : Ent K a cW v1 _ (.ref p3) := ⟨p3, x3, _, c3, "BadShowing", rfl, upd_same, ev3.same n3, D.kS, D.nS, by simp⟩
      have t1 := t1.same (e3.trans n3)
      have t2 := t2.same (e3.trans n3)
      generalize upd H3 p3 (.tup [.str "BadShowing", .ref x3]) = G3' at n3 s3 t1 t2 t3 ⊢
      clear n3 ev3 e3
      refine ⟨_, rfl, by show 1 ≤ 1000; decide, fun x4 hx4 => ⟨x4, _, rfl, upd_same, fun c4 hc4 nc4 => ⟨rfl, ?_⟩⟩⟩
      obtain ⟨e4, ev4⟩ := made_fact (fs := [("at", v1)]) hx4 hc4 nc4
      generalize upd (upd (upd G3' x4 (exo x4 a.cT none)) c4 (exd c4 [("at", v1)])) x4 (exo x4 a.cT (some c4)) = H4 at e4 ev4 ⊢
      clear hx4 hc4 nc4
      refine ⟨by show 2 ≤ sizeLine; decide, fun p4 hp4 => ?_⟩
      have n4 := same_new (o := HO.tup [.str "BadText", .ref x4]) hp4
      have s4 := (s3.trans e4).trans n4
      have t4 : Ent K a cW v1 _ (.ref p4) := ⟨p4, x4, _, c4, "BadText", rfl, upd_same, ev4.same n4, D.kT, D.nT, by simp⟩
      have t1 := t1.same (e4.trans n4)
      have t2 := t2.same (e4.trans n4)
      have t3 := t3.same (e4.trans n4)
      generalize upd H4 p4 (.tup [.str "BadText", .ref x4]) = G4' at n4 s4 t1 t2 t3 t4 ⊢
      clear n4 ev4 e4
      refine ⟨by show 4 ≤ sizeLine; decide, fun Z hZ => ?_⟩
      have nT := same_new (o := HO.lst [.ref p1, .ref p2, .ref p3, .ref p4]) hZ
      refine ⟨Z, _, rfl, s4.trans nT, upd_same, rfl, fun u hu => ?_⟩
      rcases List.mem_cons.mp hu with rfl | hu
      · exact t1.same nT
      rcases List.mem_cons.mp hu with rfl | hu
      · exact t2.same nT
      rcases List.mem_cons.mp hu with rfl | hu
      · exact t3.same nT
      obtain rfl := List.mem_singleton.mp hu
      exact t4.same nT
    rintro σ1 G4 ⟨Z, xs, rfl, eG, hZ, len, all⟩
    refine ⟨(fun σ' H' => ∃ T xs, σ' = [some (.ref b), some v1, some v2, some v3, some (.ref T), none, none, none, none, none, none, none] ∧ Same G H' ∧ H' T = some (.lst xs) ∧ xs.length = 7 ∧ ∀ u ∈ xs, Ent K a cW v1 H' u), ?_, ?_⟩
    · refine ⟨_, rfl, ?_⟩
      refine ⟨_, rfl, by show 1 ≤ 1000; decide, fun x1 hx1 => ⟨x1, _, rfl, upd_same, fun c1 hc1 nc1 => ⟨rfl, ?_⟩⟩⟩
      obtain ⟨e1, ev1⟩ := made_fact (fs := [("at", v1)]) hx1 hc1 nc1
      generalize upd (upd (upd G4 x1 (exo x1 a.cF none)) c1 (exd c1 [("at", v1)])) x1 (exo x1 a.cF (some c1)) = H1 at e1 ev1 ⊢
      clear hx1 hc1 nc1
      refine ⟨by show 2 ≤ sizeLine; decide, fun p1 hp1 => ?_⟩
      have n1 := same_new (o := HO.tup [.str "Refused", .ref x1]) hp1
      have s1 := ((Same.refl G4).trans e1).trans n1
      have t1 : Ent K a cW v1 _ (.ref p1) := ⟨p1, x1, _, c1, "Refused", rfl, upd_same, ev1.same n1, D.kF, D.nF, by simp⟩
      generalize upd H1 p1 (.tup [.str "Refused", .ref x1]) = G1' at n1 s1 t1 ⊢
      clear n1 ev1 e1
      refine ⟨_, rfl, rfl, fun x2 hx2 => ⟨x2, _, rfl, upd_same, fun c2 hc2 nc2 => ⟨rfl, ?_⟩⟩⟩
      obtain ⟨e2, ev2⟩ := made_fact (fs := [("at", v1)]) hx2 hc2 nc2
      generalize upd (upd (upd G1' x2 (exo x2 a.cM none)) c2 (exd c2 [("at", v1)])) x2 (exo x2 a.cM (some c2)) = H2 at e2 ev2 ⊢
      clear hx2 hc2 nc2
      refine ⟨by show 2 ≤ sizeLine; decide, fun p2 hp2 => ?_⟩
      have n2 := same_new (o := HO.tup [.str "BadMachine", .ref x2]) hp2
      have s2 := (s1.trans e2).trans n2
      have t2 : Ent K a cW v1 _ (.ref p2) := ⟨p2, x2, _, c2, "BadMachine", rfl, upd_same, ev2.same n2, D.kM, D.nM, by simp⟩
      have t1 := t1.same (e2.trans n2)
      generalize upd H2 p2 (.tup [.str "BadMachine", .ref x2]) = G2' at n2 s2 t1 t2 ⊢
      clear n2 ev2 e2
      refine ⟨_, rfl, rfl, fun x3 hx3 => ⟨x3, _, rfl, upd_same, fun c3 hc3 nc3 => ⟨rfl, ?_⟩⟩⟩
      obtain ⟨e3, ev3⟩ := made_fact (fs := [("at", v1)]) hx3 hc3 nc3
      generalize upd (upd (upd G2' x3 (exo x3 a.cR none)) c3 (exd c3 [("at", v1)])) x3 (exo x3 a.cR (some c3)) = H3 at e3 ev3 ⊢
      clear hx3 hc3 nc3
      refine ⟨by show 2 ≤ sizeLine; decide, fun p3 hp3 => ?_⟩
      have n3 := same_new (o := HO.tup [.str "BadRow", .ref x3]) hp3
      have s3 := (s2.trans e3).trans n3
      have t3 : Ent K a cW v1 _ (.ref p3) := ⟨p3, x3, _, c3, "BadRow", rfl, upd_same, ev3.same n3, D.kR, D.nR, by simp⟩
      have t1 := t1.same (e3.trans n3)
      have t2 := t2.same (e3.trans n3)
      generalize upd H3 p3 (.tup [.str "BadRow", .ref x3]) = G3' at n3 s3 t1 t2 t3 ⊢
      clear n3 ev3 e3
      refine ⟨by show 3 ≤ sizeLine; decide, fun Y hY => ?_⟩
      have nY := same_new (o := HO.lst [.ref p1, .ref p2, .ref p3]) hY
      refine ⟨Z, Y, xs, _, rfl, rfl, nY _ _ (s3 _ _ hZ), upd_same, by rw [len]; show 7 ≤ sizeLine; decide, fun X2 hX => ?_⟩
      have nT := nY.trans (same_new (o := HO.lst (xs ++ [.ref p1, .ref p2, .ref p3])) hX)
      refine ⟨X2, _, rfl, eG.trans (s3.trans nT), upd_same, by rw [List.length_append, len]; rfl, fun u hu => ?_⟩
      rcases List.mem_append.mp hu with hu | hu
      · exact (all u hu).same (s3.trans nT)
      rcases List.mem_cons.mp hu with rfl | hu
      · exact t1.same nT
      rcases List.mem_cons.mp hu with rfl | hu
      · exact t2.same nT
      obtain rfl := List.mem_singleton.mp hu
      exact t3.same nT
    rintro σ1 G7 ⟨Z, xs, rfl, eG, hZ, len, all⟩
    refine ⟨(fun σ' H' => ∃ T xs, σ' = [some (.ref b), some v1, some v2, some v3, some (.ref T), none, none, none, none, none, none, none] ∧ Same G H' ∧ H' T = some (.lst xs) ∧ xs.length = 10 ∧ ∀ u ∈ xs, Ent K a cW v1 H' u), ?_, ?_⟩
    · refine ⟨_, rfl, ?_⟩
      refine ⟨_, rfl, rfl, fun x1 hx1 => ⟨x1, _, rfl, upd_same, fun c1 hc1 nc1 => ⟨rfl, ?_⟩⟩⟩
      obtain ⟨e1, ev1⟩ := made_fact (fs := [("at", v1)]) hx1 hc1 nc1
      generalize upd (upd (upd G7 x1 (exo x1 a.cS none)) c1 (exd c1 [("at", v1)])) x1 (exo x1 a.cS (some c1)) = H1 at e1 ev1 ⊢
      clear hx1 hc1 nc1
      refine ⟨by show 2 ≤ sizeLine; decide, fun p1 hp1 => ?_⟩
      have n1 := same_new (o := HO.tup [.str "BadShowing", .ref x1]) hp1
      have s1 := ((Same.refl G7).trans e1).trans n1
      have t1 : Ent K a cW v1 _ (.ref p1) := ⟨p1, x1, _, c1, "BadShowing", rfl, upd_same, ev1.same n1, D.kS, D.nS, by simp⟩
      generalize upd H1 p1 (.tup [.str "BadShowing", .ref x1]) = G1' at n1 s1 t1 ⊢
      clear n1 ev1 e1
      refine ⟨_, rfl, rfl, fun x2 hx2 => ⟨x2, _, rfl, upd_same, fun c2 hc2 nc2 => ⟨rfl, ?_⟩⟩⟩
      obtain ⟨e2, ev2⟩ := made_fact (fs := [("at", v1)]) hx2 hc2 nc2
      generalize upd (upd (upd G1' x2 (exo x2 a.cT none)) c2 (exd c2 [("at", v1)])) x2 (exo x2 a.cT (some c2)) = H2 at e2 ev2 ⊢
      clear hx2 hc2 nc2
      refine ⟨by show 2 ≤ sizeLine; decide, fun p2 hp2 => ?_⟩
      have n2 := same_new (o := HO.tup [.str "BadText", .ref x2]) hp2
      have s2 := (s1.trans e2).trans n2
      have t2 : Ent K a cW v1 _ (.ref p2) := ⟨p2, x2, _, c2, "BadText", rfl, upd_same, ev2.same n2, D.kT, D.nT, by simp⟩
      have t1 := t1.same (e2.trans n2)
      generalize upd H2 p2 (.tup [.str "BadText", .ref x2]) = G2' at n2 s2 t1 t2 ⊢
      clear n2 ev2 e2
      refine ⟨_, rfl, rfl, fun x3 hx3 => ⟨x3, _, rfl, upd_same, fun c3 hc3 nc3 => ⟨rfl, ?_⟩⟩⟩
      obtain ⟨e3, ev3⟩ := made_fact (fs := [("at", v1)]) hx3 hc3 nc3
      generalize upd (upd (upd G2' x3 (exo x3 a.cF none)) c3 (exd c3 [("at", v1)])) x3 (exo x3 a.cF (some c3)) = H3 at e3 ev3 ⊢
      clear hx3 hc3 nc3
      refine ⟨by show 2 ≤ sizeLine; decide, fun p3 hp3 => ?_⟩
      have n3 := same_new (o := HO.tup [.str "Refused", .ref x3]) hp3
      have s3 := (s2.trans e3).trans n3
      have t3 : Ent K a cW v1 _ (.ref p3) := ⟨p3, x3, _, c3, "Refused", rfl, upd_same, ev3.same n3, D.kF, D.nF, by simp⟩
      have t1 := t1.same (e3.trans n3)
      have t2 := t2.same (e3.trans n3)
      generalize upd H3 p3 (.tup [.str "Refused", .ref x3]) = G3' at n3 s3 t1 t2 t3 ⊢
      clear n3 ev3 e3
      refine ⟨by show 3 ≤ sizeLine; decide, fun Y hY => ?_⟩
      have nY := same_new (o := HO.lst [.ref p1, .ref p2, .ref p3]) hY
      refine ⟨Z, Y, xs, _, rfl, rfl, nY _ _ (s3 _ _ hZ), upd_same, by rw [len]; show 10 ≤ sizeLine; decide, fun X2 hX => ?_⟩
      have nT := nY.trans (same_new (o := HO.lst (xs ++ [.ref p1, .ref p2, .ref p3])) hX)
      refine ⟨X2, _, rfl, eG.trans (s3.trans nT), upd_same, by rw [List.length_append, len]; rfl, fun u hu => ?_⟩
      rcases List.mem_append.mp hu with hu | hu
      · exact (all u hu).same (s3.trans nT)
      rcases List.mem_cons.mp hu with rfl | hu
      · exact t1.same nT
      rcases List.mem_cons.mp hu with rfl | hu
      · exact t2.same nT
      obtain rfl := List.mem_singleton.mp hu
      exact t3.same nT
    rintro σ1 G1 ⟨Z, xs, rfl, eG, hZ, len, all⟩
    refine ⟨fun σ' H' => (∃ y z, σ' = [some (.ref b), some v1, some v2, some v3, some (.ref Z), y, z, none, none, none, none, none]) ∧ Same G1 H', ?_, ?_⟩
    · refine ⟨_, rfl, Z, rfl, ⟨_, SqL.of hZ⟩, for_list (xs := xs) (fun i σ' H' => (∃ y z, σ' = [some (.ref b), some v1, some v2, some v3, some (.ref Z), y, z, none, none, none, none, none]) ∧ Same G1 H') ⟨⟨_, _, rfl⟩, Same.refl _⟩ (fun i σ' H' _ q => SqL.of (q.2 _ _ hZ)) ?_ ?_⟩
      · rintro i u σ' H' hu ⟨⟨y, z, rfl⟩, e⟩
        obtain ⟨p, x, Dd, d, n, rfl, hp, ev, kd, no, hn⟩ := (all u (List.mem_of_getElem? hu)).same e
        refine ⟨p, _, rfl, SqT.of hp, rfl, ?_⟩
        refine ⟨_, _, rfl, _, _, rfl, rfl, ?_⟩
        refine ⟨_, rfl, x, Dd, d, _, _, rfl, ev, kd, fun q H2 e2 hq => ⟨_, rfl, by show 3 ≤ sizeLine; decide, fun l hl => ?_⟩⟩
        have nl := same_new (o := HO.lst [.str n, .str "WitnessError", .str "ValueError"]) hl
        have dA : Dp K _ (.ref q) (.list [.str n, .str "WitnessError", .str "ValueError"]) := .lst (SqL.of (nl _ _ hq)) (.cons (.str n) (.cons (.str _) (.cons (.str _) .nil)))
        have dB : Dp K _ (.ref l) (.list [.str n, .str "WitnessError", .str "ValueError"]) := .lst (SqL.of (upd_same (H := H2) (a := l) (o := HO.lst [.str n, .str "WitnessError", .str "ValueError"]))) (.cons (.str n) (.cons (.str _) (.cons (.str _) .nil)))
        have sh : SeqAt.shaped (.list [.str n, .str "WitnessError", .str "ValueError"]) = true := by rcases hn with rfl | rfl | rfl | rfl | rfl <;> decide +kernel
        have eq : PyData.eqv (.list [.str n, .str "WitnessError", .str "ValueError"]) (.list [.str n, .str "WitnessError", .str "ValueError"]) = true := by rcases hn with rfl | rfl | rfl | rfl | rfl <;> decide +kernel
        refine ⟨_, _, dA, dB, sh, sh, _, rfl, ?_⟩
        rw [eq]
        refine iteF ?_
        have e3 := (e2.trans nl)
        have k1 := w1.same (eG.trans (e.trans e3))
        have o1 := k1.ok
        have d60 : d1.depth ≤ 60 := Nat.le_trans o1.deep (by decide)
        have line : d1.shown.length ≤ sizeLine := Nat.le_trans o1.fit (by decide)
        refine ⟨_, rfl, x, Dd, d, _, v1, rfl, ev.same e3, kd.xf, no, rfl, _, d1, rfl, k1.dp, o1.sh, o1.nd, d60, line, _, rfl, _, d1, rfl, k1.dp, o1.sh, o1.nd, d60, line, rfl, _, rfl, ?_⟩
        rw [decide_eq_true rfl]
        exact iteF ⟨⟨_, _, rfl⟩, e.trans e3⟩
      · exact fun σ' H' q => q
    rintro σ1 G2 ⟨⟨y0, z0, rfl⟩, e12⟩
    refine ⟨fun σ' H' => ∃ u, σ' = [some (.ref b), some v1, some v2, some v3, some (.ref Z), y0, z0, some u, none, none, none, none] ∧ Same G2 H' ∧ Quad a v1 v2 v3 H' u, ?_, ?_⟩
    · skip
      refine ⟨_, rfl, rfl, fun x1 hx1 => ⟨x1, _, rfl, upd_same, fun c1 hc1 nc1 => ⟨rfl, ?_⟩⟩⟩
      obtain ⟨e1, ev1⟩ := made_fact (fs := [("most", v2)]) hx1 hc1 nc1
      generalize upd (upd (upd G2 x1 (exo x1 a.cG none)) c1 (exd c1 [("most", v2)])) x1 (exo x1 a.cG (some c1)) = H1 at e1 ev1 ⊢
      clear hx1 hc1 nc1
      refine ⟨_, rfl, _, rfl, _, rfl, rfl, fun x2 hx2 => ⟨x2, _, _, _, rfl, upd_same, fun c2 H2 hc2 nc2 kp2 ha2 hb2 => ⟨rfl, ?_⟩⟩⟩
      obtain ⟨e2, ev2⟩ := made3_fact (fs := [("other", v3), ("one", v2), ("deed", v1)]) hx2 hc2 nc2 kp2 ha2 hb2
      clear hx2 hc2 nc2 kp2 ha2 hb2
      have ev1 := ev1.same e2
      refine ⟨_, rfl, rfl, fun x3 hx3 => ⟨x3, _, rfl, upd_same, fun c3 hc3 nc3 => ⟨rfl, ?_⟩⟩⟩
      obtain ⟨e3, ev3⟩ := made_fact (fs := [("deed", v1)]) hx3 hc3 nc3
      generalize upd (upd (upd H2 x3 (exo x3 a.cD none)) c3 (exd c3 [("deed", v1)])) x3 (exo x3 a.cD (some c3)) = H3 at e3 ev3 ⊢
      clear hx3 hc3 nc3
      have ev1 := ev1.same e3
      have ev2 := ev2.same e3
      refine ⟨_, rfl, rfl, fun x4 hx4 => ⟨x4, _, rfl, upd_same, fun c4 hc4 nc4 => ⟨rfl, ?_⟩⟩⟩
      obtain ⟨e4, ev4⟩ := made_fact (fs := [("state", v2)]) hx4 hc4 nc4
      generalize upd (upd (upd H3 x4 (exo x4 a.cN none)) c4 (exd c4 [("state", v2)])) x4 (exo x4 a.cN (some c4)) = H4 at e4 ev4 ⊢
      clear hx4 hc4 nc4
      have ev1 := ev1.same e4
      have ev2 := ev2.same e4
      have ev3 := ev3.same e4
      refine ⟨by show 4 ≤ sizeLine; decide, fun p hp => ?_⟩
      have np := same_new (o := HO.tup [.ref x1, .ref x2, .ref x3, .ref x4]) hp
      exact ⟨_, rfl, ((((e1.trans e2).trans e3).trans e4).trans np), p, x1, x2, x3, x4, c1, c2, c3, c4, rfl, upd_same, ev1.same np, ev2.same np, ev3.same np, ev4.same np⟩
    rintro σ1 G3 ⟨u7, rfl, e23, qd⟩
    have w1 := w1.same ((eG.trans e12).trans e23)
    have w2 := w2.same ((eG.trans e12).trans e23)
    have w3 := w3.same ((eG.trans e12).trans e23)
    have mv := mv.same ((eG.trans e12).trans e23)
    refine ⟨fun σ' H' => Same G3 H', ?_, ?_⟩
    · skip
      refine ⟨_, rfl, by show 1 ≤ 1000; decide, fun x1 hx1 => ⟨x1, _, rfl, upd_same, fun c1 hc1 nc1 => ⟨rfl, ?_⟩⟩⟩
      obtain ⟨e1, ev1⟩ := made_fact (fs := [("most", v2)]) hx1 hc1 nc1
      generalize upd (upd (upd G3 x1 (exo x1 a.cG none)) c1 (exd c1 [("most", v2)])) x1 (exo x1 a.cG (some c1)) = H1 at e1 ev1 ⊢
      clear hx1 hc1 nc1
      refine ⟨_, rfl, _, rfl, _, rfl, by show 3 ≤ 1000; decide, fun x2 hx2 => ⟨x2, _, _, _, rfl, upd_same, fun c2 H2 hc2 nc2 kp2 ha2 hb2 => ⟨rfl, ?_⟩⟩⟩
      obtain ⟨e2, ev2⟩ := made3_fact (fs := [("other", v3), ("one", v2), ("deed", v1)]) hx2 hc2 nc2 kp2 ha2 hb2
      clear hx2 hc2 nc2 kp2 ha2 hb2
      have ev1 := ev1.same e2
      refine ⟨_, rfl, by show 1 ≤ 1000; decide, fun x3 hx3 => ⟨x3, _, rfl, upd_same, fun c3 hc3 nc3 => ⟨rfl, ?_⟩⟩⟩
      obtain ⟨e3, ev3⟩ := made_fact (fs := [("deed", v1)]) hx3 hc3 nc3
      generalize upd (upd (upd H2 x3 (exo x3 a.cD none)) c3 (exd c3 [("deed", v1)])) x3 (exo x3 a.cD (some c3)) = H3 at e3 ev3 ⊢
      clear hx3 hc3 nc3
      have ev1 := ev1.same e3
      have ev2 := ev2.same e3
      refine ⟨_, rfl, by show 1 ≤ 1000; decide, fun x4 hx4 => ⟨x4, _, rfl, upd_same, fun c4 hc4 nc4 => ⟨rfl, ?_⟩⟩⟩
      obtain ⟨e4, ev4⟩ := made_fact (fs := [("state", v2)]) hx4 hc4 nc4
      generalize upd (upd (upd H3 x4 (exo x4 a.cN none)) c4 (exd c4 [("state", v2)])) x4 (exo x4 a.cN (some c4)) = H4 at e4 ev4 ⊢
      clear hx4 hc4 nc4
      have ev1 := ev1.same e4
      have ev2 := ev2.same e4
      have ev3 := ev3.same e4
      refine ⟨by show 4 ≤ sizeLine; decide, fun p hp => ⟨_, rfl, by show 2 ≤ sizeLine; decide, fun z hz => ?_⟩⟩
      have np := same_new (o := HO.tup [.ref x1, .ref x2, .ref x3, .ref x4]) hp
      have nz := same_new (o := HO.tup [.ref p, u7]) hz
      have eA := ((((e1.trans e2).trans e3).trans e4).trans np).trans nz
      have q1 : Quad a v1 v2 v3 _ (.ref p) := ⟨p, x1, x2, x3, x4, c1, c2, c3, c4, rfl, nz _ _ upd_same, (ev1.same np).same nz, (ev2.same np).same nz, (ev3.same np).same nz, (ev4.same np).same nz⟩
      have q2 := qd.same eA
      have hz2 := upd_same (H := upd H4 p (.tup [.ref x1, .ref x2, .ref x3, .ref x4])) (a := z) (o := HO.tup [.ref p, u7])
      generalize upd (upd H4 p (.tup [.ref x1, .ref x2, .ref x3, .ref x4])) z (.tup [.ref p, u7]) = J at eA q1 q2 hz2 ⊢
      refine ⟨z, rfl, ⟨_, SqT.of hz2⟩, for_tup (xs := [.ref p, u7]) (fun i σ' H' => (∃ y8 y9 y10 y11, σ' = [some (.ref b), some v1, some v2, some v3, some (.ref Z), y0, z0, some u7, y8, y9, y10, y11]) ∧ Same J H') ⟨⟨_, _, _, _, rfl⟩, Same.refl _⟩ (fun i σ' H' _ q => SqT.of (q.2 _ _ hz2)) ?_ ?_⟩
      · rintro i u σ' H' hu ⟨⟨y8, y9, y10, y11, rfl⟩, eJ⟩
        have qu : Quad a v1 v2 v3 H' u := by
          match i, hu with
          | 0, hu => exact (Option.some.inj hu) ▸ q1.same eJ
          | 1, hu => exact (Option.some.inj hu) ▸ q2.same eJ
          | _ + 2, hu => cases hu
        obtain ⟨pp, g, ob, dd, ss, cg, co, cd, cs2, rfl, hpp, eg, eo, ed, es⟩ := qu
        refine ⟨pp, _, rfl, SqT.of hpp, rfl, ?_⟩
        refine ⟨_, _, rfl, _, _, rfl, _, _, rfl, _, _, rfl, rfl, ?_⟩
        have e0 := Same.refl H'
        refine ⟨fun σ2 H2 => σ2 = [some (.ref b), some v1, some v2, some v3, some (.ref Z), y0, z0, some u7, some (.ref g), some (.ref ob), some (.ref dd), some (.ref ss)] ∧ Same H' H2, ?_, ?_⟩
        · skip
          refine ⟨_, rfl, g, a.cG, cg, _, _, rfl, eg.same e0, D.kG, fun qa Ka fa hqa => ⟨by show 3 ≤ sizeLine; decide, fun la hla => ?_⟩⟩
          have ma := same_new (o := HO.lst [.str "TooGreat", .str "WitnessError", .str "ValueError"]) hla
          have dAa : Dp K _ (.ref qa) (.list [.str "TooGreat", .str "WitnessError", .str "ValueError"]) := .lst (SqL.of (ma _ _ hqa)) (.cons (.str _) (.cons (.str _) (.cons (.str _) .nil)))
          have dBa : Dp K _ (.ref la) (.list [.str "TooGreat", .str "WitnessError", .str "ValueError"]) := .lst (SqL.of (upd_same (H := Ka) (a := la) (o := HO.lst [.str "TooGreat", .str "WitnessError", .str "ValueError"]))) (.cons (.str _) (.cons (.str _) (.cons (.str _) .nil)))
          refine ⟨_, _, dAa, dBa, by decide +kernel, by decide +kernel, _, rfl, ?_⟩
          rw [show PyData.eqv (.list [.str "TooGreat", .str "WitnessError", .str "ValueError"]) (.list [.str "TooGreat", .str "WitnessError", .str "ValueError"]) = true from by decide +kernel]
          refine iteF ?_
          have ea := e0.trans (fa.trans ma)
          refine ⟨_, rfl, dd, a.cD, cd, _, _, rfl, ed.same ea, D.kD, fun qb Kb fb hqb => ⟨by show 2 ≤ sizeLine; decide, fun lb hlb => ?_⟩⟩
          have mb := same_new (o := HO.lst [.str "NoDeed", .str "KeyError"]) hlb
          have dAb : Dp K _ (.ref qb) (.list [.str "NoDeed", .str "KeyError"]) := .lst (SqL.of (mb _ _ hqb)) (.cons (.str _) (.cons (.str _) .nil))
          have dBb : Dp K _ (.ref lb) (.list [.str "NoDeed", .str "KeyError"]) := .lst (SqL.of (upd_same (H := Kb) (a := lb) (o := HO.lst [.str "NoDeed", .str "KeyError"]))) (.cons (.str _) (.cons (.str _) .nil))
          refine ⟨_, _, dAb, dBb, by decide +kernel, by decide +kernel, _, rfl, ?_⟩
          rw [show PyData.eqv (.list [.str "NoDeed", .str "KeyError"]) (.list [.str "NoDeed", .str "KeyError"]) = true from by decide +kernel]
          refine iteF ?_
          have eb := ea.trans (fb.trans mb)
          exact ⟨rfl, eb⟩
        rintro σ2 H2 ⟨rfl, f0⟩
        refine ⟨fun σ3 H3 => σ3 = [some (.ref b), some v1, some v2, some v3, some (.ref Z), y0, z0, some u7, some (.ref g), some (.ref ob), some (.ref dd), some (.ref ss)] ∧ Same H' H3, ?_, ?_⟩
        · skip
          refine ⟨_, rfl, ob, a.cO, co, _, _, rfl, (eo.same f0).same (Same.refl H2), D.kO, fun qa Ka fa hqa => ⟨by show 3 ≤ sizeLine; decide, fun la hla => ?_⟩⟩
          have ma := same_new (o := HO.lst [.str "Forgets", .str "WitnessError", .str "ValueError"]) hla
          have dAa : Dp K _ (.ref qa) (.list [.str "Forgets", .str "WitnessError", .str "ValueError"]) := .lst (SqL.of (ma _ _ hqa)) (.cons (.str _) (.cons (.str _) (.cons (.str _) .nil)))
          have dBa : Dp K _ (.ref la) (.list [.str "Forgets", .str "WitnessError", .str "ValueError"]) := .lst (SqL.of (upd_same (H := Ka) (a := la) (o := HO.lst [.str "Forgets", .str "WitnessError", .str "ValueError"]))) (.cons (.str _) (.cons (.str _) (.cons (.str _) .nil)))
          refine ⟨_, _, dAa, dBa, by decide +kernel, by decide +kernel, _, rfl, ?_⟩
          rw [show PyData.eqv (.list [.str "Forgets", .str "WitnessError", .str "ValueError"]) (.list [.str "Forgets", .str "WitnessError", .str "ValueError"]) = true from by decide +kernel]
          refine iteF ?_
          have ea := (Same.refl H2).trans (fa.trans ma)
          refine ⟨_, rfl, ss, a.cN, cs2, _, _, rfl, (es.same f0).same ea, D.kN, fun qb Kb fb hqb => ⟨by show 2 ≤ sizeLine; decide, fun lb hlb => ?_⟩⟩
          have mb := same_new (o := HO.lst [.str "NoState", .str "KeyError"]) hlb
          have dAb : Dp K _ (.ref qb) (.list [.str "NoState", .str "KeyError"]) := .lst (SqL.of (mb _ _ hqb)) (.cons (.str _) (.cons (.str _) .nil))
          have dBb : Dp K _ (.ref lb) (.list [.str "NoState", .str "KeyError"]) := .lst (SqL.of (upd_same (H := Kb) (a := lb) (o := HO.lst [.str "NoState", .str "KeyError"]))) (.cons (.str _) (.cons (.str _) .nil))
          refine ⟨_, _, dAb, dBb, by decide +kernel, by decide +kernel, _, rfl, ?_⟩
          rw [show PyData.eqv (.list [.str "NoState", .str "KeyError"]) (.list [.str "NoState", .str "KeyError"]) = true from by decide +kernel]
          refine iteF ?_
          have eb := ea.trans (fb.trans mb)
          exact ⟨rfl, f0.trans eb⟩
        rintro σ3 H3 ⟨rfl, g0⟩
        have eg := eg.same g0
        have eo := eo.same g0
        have ed := ed.same g0
        have es := es.same g0
        refine ⟨_, rfl, g, _, cg, _, _, rfl, eg, D.kG.xf, D.nG, rfl, _, rfl, dd, _, cd, _, _, rfl, ed, D.kD.xf, D.nD, rfl, _, rfl, ss, _, cs2, _, _, rfl, es, D.kN.xf, D.nN, rfl, _, rfl, ob, _, co, _, _, rfl, eo, D.kO.xf, D.nO1, rfl, _, rfl, ob, _, co, _, _, rfl, eo, D.kO.xf, D.nO2, rfl, _, rfl, ob, _, co, _, _, rfl, eo, D.kO.xf, D.nO3, rfl, by show 6 ≤ sizeLine; decide, fun la ha => ?_⟩
        have na := same_new (o := HO.lst [v2, v1, v2, v1, v2, v3]) ha
        have eAll := (eA.trans eJ).trans (g0.trans na)
        have k1 := w1.same eAll
        have k2 := w2.same eAll
        have k3 := w3.same eAll
        have od : OkD 3 40000 (.list [d2, d1, d2, d1, d2, d3]) := (okD_list (okA_cons k2.ok (okA_cons k1.ok (okA_cons k2.ok (okA_cons k1.ok (okA_cons k2.ok (okA_cons k3.ok (okA_nil (m := 2))))))))).mono (by decide) (by decide)
        have d60 : (PyData.list [d2, d1, d2, d1, d2, d3]).depth ≤ 60 := Nat.le_trans od.deep (by decide)
        have line : (PyData.list [d2, d1, d2, d1, d2, d3]).shown.length ≤ sizeLine := Nat.le_trans od.fit (by decide)
        have da : Dp K _ (.ref la) (.list [d2, d1, d2, d1, d2, d3]) := .lst (SqL.of (upd_same (H := H3) (a := la) (o := HO.lst [v2, v1, v2, v1, v2, v3]))) (.cons k2.dp (.cons k1.dp (.cons k2.dp (.cons k1.dp (.cons k2.dp (.cons k3.dp .nil))))))
        refine ⟨_, _, rfl, da, od.sh, od.nd, d60, line, _, rfl, _, rfl, _, rfl, _, rfl, _, rfl, _, rfl, by show 6 ≤ sizeLine; decide, fun lb hb2 => ?_⟩
        have nb := same_new (o := HO.lst [v2, v1, v2, v1, v2, v3]) hb2
        have db : Dp K _ (.ref lb) (.list [d2, d1, d2, d1, d2, d3]) := .lst (SqL.of (upd_same (H := upd H3 la (.lst [v2, v1, v2, v1, v2, v3])) (a := lb) (o := HO.lst [v2, v1, v2, v1, v2, v3]))) (.cons (k2.same nb).dp (.cons (k1.same nb).dp (.cons (k2.same nb).dp (.cons (k1.same nb).dp (.cons (k2.same nb).dp (.cons (k3.same nb).dp .nil))))))
        refine ⟨_, _, rfl, db, od.sh, od.nd, d60, line, rfl, _, rfl, ?_⟩
        rw [decide_eq_true rfl]
        exact iteF ⟨⟨_, _, _, _, rfl⟩, eJ.trans (g0.trans (na.trans nb))⟩
      · exact fun σ' H' q => eA.trans q.2
    intro σ1 H1 e
    exact k _ (mv.same e)
end
end K0
/-! the law -/
namespace K0
open L2 PySem PySem.Spec PyProof.Rows Kx RZ
abbrev sgL (a : Addr) (x1 x2 x3 x4 x5 x6 x7 : Option V) : L2.St := [some (.ref a), x1, x2, x3, x4, x5, x6, x7]
/-- what stays beside the source at b -/
def Kp (b : Addr) (H H' : Hp) : Prop := ∀ c o, c ≠ b → (∀ ps, o ≠ .tbl ps) → H c = some o → H' c = some o
theorem Kp.refl (b : Addr) (H : Hp) : Kp b H H := fun _ _ _ _ h => h
theorem Kp.mv {b : Addr} {H H1 H2 : Hp} (k : Kp b H H1) (m : Mv b H1 H2) : Kp b H H2 := fun c o n1 n2 q => m.1 _ _ n1 (k c o n1 n2 q)
theorem Kp.same {b : Addr} {H H1 H2 : Hp} (k : Kp b H H1) (e : Same H1 H2) : Kp b H H2 := fun c o n1 n2 q => e _ _ (k c o n1 n2 q)
theorem Kp.wt {Ts : List (Addr × Str)} {b : Addr} {H H1 H2 : Hp} (k : Kp b H H1) (g : Wt Ts H1 H2) : Kp b H H2 := fun c o n1 n2 q => g.ext _ _ (k c o n1 n2 q) n2
theorem tabs_mv {Ts : List (Addr × Str)} {b : Addr} {t : Int × Int × Int} {H H' : Hp} (m : Mv b H H') (hb : H b = some (bx t)) (h : LamX.Tabs Ts H) : LamX.Tabs Ts H' := fun p hp => by
  obtain ⟨ps, h1, h2, h3⟩ := h p hp
  refine ⟨ps, m.1 _ _ (ne_of h1 hb (fun z => nomatch z)) h1, h2, fun pos cv hcv => ?_⟩
  obtain ⟨c, e1, e2⟩ := h3 pos cv hcv
  refine ⟨c, e1, m.1 _ _ (ne_of e2 hb (fun z => ?_)) e2⟩
  unfold LamX.CodeO bx at z
  cases z
/-- the script stays -/
theorem script_keeps {K : PySem.W.Frag} {a b : Addr} {xs : List V} {H H1 H' : Hp} (e : Same H H1) (n : H b = none) (g : Kp b H1 H') (h : SqL K H a xs) : SqL K H' a xs := by
  rcases h with (h | ⟨z, h⟩) | h
  · exact .inl (.inl (g _ _ (ne_of_none h n) (fun _ z => nomatch z) (e _ _ h)))
  · exact .inl (.inr ⟨z, g _ _ (ne_of_none h n) (fun _ z => nomatch z) (e _ _ h)⟩)
  · exact .inr h
/-- what is due: a name and what is told -/
inductive Fd (H : Hp) : V → PyData → Prop
  | int (i : Int) : Fd H (.int i) (.int i)
  | tup {p : Addr} {ns : List Int} (h : H p = some (.tup (ns.map V.int))) : Fd H (.ref p) (.tuple (ns.map PyData.int))
theorem Fd.ext {H H' : Hp} {v : V} {d : PyData} (e : LamX.ExtN H H') (h : Fd H v d) : Fd H' v d := by
  cases h with
  | int i => exact .int i
  | tup h => exact .tup (e _ _ h (fun _ z => nomatch z))
theorem dp_ints {K : PySem.W.Frag} {H : Hp} : ∀ (ns : List Int), DpAll K H (ns.map V.int) (ns.map PyData.int)
  | [] => .nil
  | n :: ns => .cons (.int n) (dp_ints ns)
theorem Fd.dp {K : PySem.W.Frag} {H : Hp} {v : V} {d : PyData} (h : Fd H v d) : Dp K H v d := by
  cases h with
  | int i => exact .int i
  | tup h => exact .tup (SqT.of h) (dp_ints _)
def Due (H : Hp) (l i : Nat) (u : V) : Prop := ∃ (p : Addr) (n : Str) (v : V), u = .ref p ∧ H p = some (.tup [.str n, v]) ∧ nmOf i = [n, "WitnessError", "ValueError"] ∧ Fd H v (fdOf l i)
theorem Due.ext {H H' : Hp} {l i : Nat} {u : V} (e : LamX.ExtN H H') (h : Due H l i u) : Due H' l i u := by
  obtain ⟨p, n, v, rfl, h1, h2, h3⟩ := h
  exact ⟨p, n, v, rfl, e _ _ h1 (fun _ z => nomatch z), h2, h3.ext e⟩
theorem Due.same {H H' : Hp} {l i : Nat} {u : V} (e : Same H H') (h : Due H l i u) : Due H' l i u := h.ext (ext_of e)
/-- all that is due stands -/
def Dues (H : Hp) (l : Nat) (xs : List V) : Prop := ∀ i u, xs[i]? = some u → Due H l i u
theorem Dues.ext {H H' : Hp} {l : Nat} {xs : List V} (e : LamX.ExtN H H') (h : Dues H l xs) : Dues H' l xs := fun i u q => (h i u q).ext e
theorem okA_mono1 {m n L : Nat} {d : List PyData} (h : OkA m L d) (h1 : m ≤ n) : OkA n L d := h.mono h1 (Nat.le_refl _)
theorem okTold {l j : Nat} (hl : l = 1 ∨ l = 2 ∨ l = 3) (hj : j < 9) : OkD 3 30000 (dTold l j) := by
  have nms : OkA 1 20000 [PyData.list ((nmOf j).map PyData.str)] := by
    match j, hj with
    | 0, _ | 1, _ | 2, _ | 3, _ | 4, _ | 5, _ | 6, _ | 7, _ | 8, _ => exact ⟨by decide +kernel, by decide +kernel, by decide +kernel, by decide +kernel⟩
    | k + 9, h => omega
  have one : ∀ i : Int, -10 ≤ i ∧ i ≤ 10 → OkD 0 1921 (.int i) := fun i h => okD_small ⟨by omega, by omega⟩
  have fd : OkD 1 6000 (fdOf l j) := by
    match j, hj with
    | 0, _ | 1, _ | 2, _ | 3, _ | 5, _ => exact (one _ ⟨by omega, by omega⟩).mono (by decide) (by decide)
    | 7, _ | 8, _ => exact (one _ ⟨by omega, by omega⟩).mono (by decide) (by decide)
    | 4, _ => exact (okD_tuple (m := 0) (okA_cons (one _ ⟨by omega, by omega⟩) okA_nil)).mono (by decide) (by decide)
    | 6, _ => exact (okD_tuple (m := 0) (okA_cons (one _ ⟨by omega, by omega⟩) (okA_cons (one _ ⟨by omega, by omega⟩) (okA_cons (one _ ⟨by omega, by omega⟩) okA_nil)))).mono (by decide) (by decide)
    | k + 9, h => omega
  have n1 : OkD 1 20000 (PyData.list ((nmOf j).map PyData.str)) := by
    match j, hj with
    | 0, _ | 1, _ | 2, _ | 3, _ | 4, _ | 5, _ | 6, _ | 7, _ | 8, _ => exact ⟨by decide +kernel, by decide +kernel, by decide +kernel, by decide +kernel⟩
    | k + 9, h => omega
  exact (okD_list (okA_cons n1 (okA_cons fd okA_nil))).mono (by decide) (by decide)
def spLaw (K : PySem.W.Frag) (Ts : List (Addr × Str)) : Sp := fun vs H Q _ => ∃ (a : Addr) (ns : List Int), vs = [.ref a] ∧ SqL K H a (ns.map V.int) ∧ ns.length ≤ 63 ∧ LamX.Tabs Ts H ∧ ∀ H', Q (.bl true) H'
section
variable {P : Program} {w : World} {K : PySem.W.Frag} {mg : Str → Option Value} {base : Heap} {f : Addr} {fd : FuncData} {Ts : List (Addr × Str)}
theorem sc_law : FnScope ["script", "k", "box", "length", "dues", "number", "name", "field"] ["script"] (defScope s_law) := ⟨rfl, rfl, rfl, by decide +kernel, rfl, by decide +kernel, by decide +kernel⟩
theorem ok_law (F : FnP K "law" s_law f fd) (T : Mg mg) (c_box : Cal P w K mg base CX0 1 "_law_box" ["script", "k"] (spBox K)) (c_take : Cal P w K mg base CX0 1 "_law_take" ["box", "many"] spTake)
    (c_kept : CalG P w K mg base CX0 5 "_law_kept_right" ["box"] (spKept K)) (c_raised : Cal P w K mg base CX0 11 "_law_raised" ["number", "length"] (spRaised K Ts)) :
    FnG P w K mg base CX0 12 f fd ["script"] (spLaw K Ts) := by
  refine okG F sc_law (fun vs H Q E h => ?_) (fun cdv A outer s H vs Q E lone _ hr h => ?_)
  · obtain ⟨a, ns, rfl, _⟩ := h
    rfl
  · obtain ⟨sc, ns, rfl, hs, hln, ht, k⟩ := h
    have cs : CallR (cxOf CX0 P w K mg base ["script", "k", "box", "length", "dues", "number", "name", "field"] "law" (defScope s_law) f cdv A outer s H E).nox (.builtin "repr") (rShow K) := call_show lone (r64 hr)
    refine ⟨_, PSs.nox (pss_cons (ps_mid (ps_for PassesOwn.never rfl (pi_range1 (by rfl) T.z_range (pa_cons pe_int pa_nil)) (pg_name (i := 1) sc_law.nd rfl (by first | exact Or.inl rfl | exact Or.inr rfl))
      (pss_cons (ps_set (i := 2) sc_law.nd rfl (by first | exact Or.inl rfl | exact Or.inr rfl) (pe_callC c_box hr pass0 (pa_cons (pv 0) (pa_cons (pv 1) pa_nil))))
      (pss_cons (ps_set (i := 3) sc_law.nd rfl (by first | exact Or.inl rfl | exact Or.inr rfl) (pe_op op_add pe_int (pe_callC c_take hr pass0 (pa_cons (pv 2) (pa_cons pe_int pa_nil)))))
      (pss_cons (ps_if (pt_not (pt_val (pe_callG c_kept hr lone pass0 (pa_cons (pv 2) pa_nil)))) (pss_one (ps_ret pe_bl)) pss_nil)
      (pss_cons (ps_mid (ps_set (i := 4) sc_law.nd rfl (by first | exact Or.inl rfl | exact Or.inr rfl) (pe_lst (pa_cons (pe_tup (pa_cons pe_str (pa_cons (pv 3) pa_nil))) (pa_cons (pe_tup (pa_cons pe_str (pa_cons (pv 3) pa_nil))) (pa_cons (pe_tup (pa_cons pe_str (pa_cons (pv 3) pa_nil))) (pa_cons (pe_tup (pa_cons pe_str (pa_cons (pv 3) pa_nil))) (pa_cons (pe_tup (pa_cons pe_str (pa_cons (pe_tup (pa_cons (pe_op op_sub pe_int (pv 3)) pa_nil)) pa_nil))) pa_nil))))))))
      (pss_cons (ps_mid (ps_set (i := 4) sc_law.nd rfl (by first | exact Or.inl rfl | exact Or.inr rfl) (pe_op op_cat (pv 4) (pe_lst (pa_cons (pe_tup (pa_cons pe_str (pa_cons (pv 3) pa_nil))) (pa_cons (pe_tup (pa_cons pe_str (pa_cons (pe_tup (pa_cons pe_int (pa_cons pe_int (pa_cons pe_int pa_nil)))) pa_nil))) pa_nil))))))
      (pss_cons (ps_mid (ps_for PassesOwn.never rfl (pi_range1 (by rfl) T.z_range (pa_cons (pe_callB call_len_seq (by rfl) T.z_len PySem.boot_len (pa_cons (pv 4) pa_nil)) pa_nil)) (pg_name (i := 5) sc_law.nd rfl (by first | exact Or.inl rfl | exact Or.inr rfl)) (pss_cons (ps_asg (pe_ix ix_list (pv 4) (pv 5) (fun _ _ => rfl)) (pg_tup rfl (pgs_cons (pg_name (i := 6) sc_law.nd rfl (by first | exact Or.inl rfl | exact Or.inr rfl)) (pgs_cons (pg_name (i := 7) sc_law.nd rfl (by first | exact Or.inl rfl | exact Or.inr rfl)) pgs_nil)))) (pss_one (ps_if (pt_cmpR op_ne (pe_callB cs (by rfl) T.z_repr (by decide +kernel) (pa_cons (pe_callC c_raised hr pass0 (pa_cons (pv 5) (pa_cons (pv 3) pa_nil))) pa_nil)) (pe_callB cs (by rfl) T.z_repr (by decide +kernel) (pa_cons (pe_lst (pa_cons (pe_lst (pa_cons (pv 6) (pa_cons pe_str (pa_cons pe_str pa_nil)))) (pa_cons (pv 7) pa_nil))) pa_nil)) (nomark _)) (pss_one (ps_ret pe_bl)) pss_nil)))))
      (pss_one (ps_for PassesOwn.never rfl (pi_tup (pe_tup (pa_cons (pe_tup (pa_cons pe_int (pa_cons pe_str pa_nil))) (pa_cons (pe_tup (pa_cons pe_int (pa_cons pe_str pa_nil))) pa_nil)))) (pg_tup rfl (pgs_cons (pg_name (i := 5) sc_law.nd rfl (by first | exact Or.inl rfl | exact Or.inr rfl)) (pgs_cons (pg_name (i := 6) sc_law.nd rfl (by first | exact Or.inl rfl | exact Or.inr rfl)) pgs_nil))) (pss_one (ps_if (pt_cmpR op_ne (pe_callB cs (by rfl) T.z_repr (by decide +kernel) (pa_cons (pe_callC c_raised hr pass0 (pa_cons (pv 5) (pa_cons (pv 3) pa_nil))) pa_nil)) (pe_callB cs (by rfl) T.z_repr (by decide +kernel) (pa_cons (pe_lst (pa_cons (pe_lst (pa_cons (pv 6) (pa_cons pe_str pa_nil))) (pa_cons (pe_op op_add (pe_op op_sub (pv 5) pe_int) (pv 3)) pa_nil))) pa_nil)) (nomark _)) (pss_one (ps_ret pe_bl)) pss_nil))))))))))))
      (pss_one (ps_ret pe_bl))), ?_⟩
    refine ⟨fun σ' H' => True, ?_, fun _ H' _ => k H'⟩
    refine ⟨3, rfl, by decide, by decide, for_range (lo := 0) (n := 3) (fun i σ' H' => ∃ x1 x2 x3 x4 x5 x6 x7, σ' = sgL sc x1 x2 x3 x4 x5 x6 x7 ∧ SqL K H' sc (ns.map V.int) ∧ LamX.Tabs Ts H') ⟨.none, .none, .none, .none, .none, .none, .none, rfl, hs, ht⟩ ?_ ?_⟩
    · rintro i σ' H0 hi ⟨x1, x2, x3, x4, x5, x6, x7, rfl, hs0, ht0⟩
      have i0 : (0 : Int) + (i : Int) = (i : Int) := Int.zero_add _
      rw [i0]
      refine ⟨_, rfl, _, rfl, sc, ns, i, rfl, hs0, hln, fun H1 b t1 e1 nb hb1 => ?_⟩
      have ht1 := ht0.ext e1
      refine ⟨_, rfl, b, t1, 3, rfl, hb1, by decide, by decide, fun r H2 r0 r1 m2 => ?_⟩
      have ht2 := tabs_mv m2 hb1 ht1
      obtain ⟨l, hl, el⟩ : ∃ l : Nat, (l = 1 ∨ l = 2 ∨ l = 3) ∧ 1 + r = (l : Int) := ⟨(1 + r).toNat, by omega, by omega⟩
      obtain ⟨t2, hb2⟩ := m2.2
      refine ⟨_, _, rfl, rfl, ?_⟩
      rw [show ((fun (i j : Int) => V.int (i + j)) 1 r) = V.int (l : Int) from congrArg V.int el]
      refine ⟨_, rfl, b, t2, rfl, hb2, fun H3 m3 => ⟨true, rfl, iteF ?_⟩⟩
      have ht3 := tabs_mv m3 hb2 ht2
      have k3 : Kp b H1 H3 := ((Kp.refl b H1).mv m2).mv m3
      clear m2 m3 hb1 hb2 ht1 ht2
      refine ⟨fun σ' H' => ∃ Z u0 u1 u2 u3 u4, σ' = sgL sc (some (.int (i : Int))) (some (.ref b)) (some (.int (l : Int))) (some (.ref Z)) x5 x6 x7 ∧ Same H3 H' ∧ H' Z = some (.lst [u0, u1, u2, u3, u4]) ∧ Due H' l 0 u0 ∧ Due H' l 1 u1 ∧ Due H' l 2 u2 ∧ Due H' l 3 u3 ∧ Due H' l 4 u4, ?_, ?_⟩
      · refine ⟨_, rfl, by show 2 ≤ sizeLine; decide, fun p0 h0 => ?_⟩
        have e0 := same_new (o := HO.tup [.str "BadMachine", .int (l : Int)]) h0
        have d0 : Due _ l 0 (.ref p0) := ⟨p0, _, _, rfl, upd_same (H := H3) (o := HO.tup [.str "BadMachine", .int (l : Int)]), rfl, .int _⟩
        generalize upd H3 p0 (HO.tup [.str "BadMachine", .int (l : Int)]) = G0 at e0 d0 ⊢
        refine ⟨_, rfl, by show 2 ≤ sizeLine; decide, fun p1 h1 => ?_⟩
        have e1 := same_new (o := HO.tup [.str "BadRow", .int (l : Int)]) h1
        have d1 : Due _ l 1 (.ref p1) := ⟨p1, _, _, rfl, upd_same (H := G0) (o := HO.tup [.str "BadRow", .int (l : Int)]), rfl, .int _⟩
        generalize upd G0 p1 (HO.tup [.str "BadRow", .int (l : Int)]) = G1 at e1 d1 ⊢
        refine ⟨_, rfl, by show 2 ≤ sizeLine; decide, fun p2 h2 => ?_⟩
        have e2 := same_new (o := HO.tup [.str "BadShowing", .int (l : Int)]) h2
        have d2 : Due _ l 2 (.ref p2) := ⟨p2, _, _, rfl, upd_same (H := G1) (o := HO.tup [.str "BadShowing", .int (l : Int)]), rfl, .int _⟩
        generalize upd G1 p2 (HO.tup [.str "BadShowing", .int (l : Int)]) = G2 at e2 d2 ⊢
        refine ⟨_, rfl, by show 2 ≤ sizeLine; decide, fun p3 h3 => ?_⟩
        have e3 := same_new (o := HO.tup [.str "BadText", .int (l : Int)]) h3
        have d3 : Due _ l 3 (.ref p3) := ⟨p3, _, _, rfl, upd_same (H := G2) (o := HO.tup [.str "BadText", .int (l : Int)]), rfl, .int _⟩
        generalize upd G2 p3 (HO.tup [.str "BadText", .int (l : Int)]) = G3 at e3 d3 ⊢
        refine ⟨_, rfl, _, _, rfl, rfl, by show 1 ≤ sizeLine; decide, fun p5 h5 => ?_⟩
        have e5 := same_new (o := HO.tup [.int (0 - (l : Int))]) h5
        have f5 : Fd (upd G3 p5 (HO.tup [.int (0 - (l : Int))])) (.ref p5) (fdOf l 4) := Fd.tup (ns := [0 - (l : Int)]) (upd_same (H := G3) (a := p5))
        generalize upd G3 p5 (HO.tup [.int (0 - (l : Int))]) = G5 at e5 f5 ⊢
        refine ⟨by show 2 ≤ sizeLine; decide, fun p4 h4 => ?_⟩
        have e4 := same_new (o := HO.tup [.str "Refused", .ref p5]) h4
        have d4 : Due _ l 4 (.ref p4) := ⟨p4, _, _, rfl, upd_same (H := G5) (o := HO.tup [.str "Refused", .ref p5]), rfl, f5.ext (ext_of e4)⟩
        generalize upd G5 p4 (HO.tup [.str "Refused", .ref p5]) = G4 at e4 d4 ⊢
        refine ⟨by show 5 ≤ sizeLine; decide, fun Z hZ => ?_⟩
        have eZ := same_new (o := HO.lst [.ref p0, .ref p1, .ref p2, .ref p3, .ref p4]) hZ
        have s4 := eZ
        have s3 := (e5.trans e4).trans s4
        have s2 := e3.trans s3
        have s1 := e2.trans s2
        have s0 := e1.trans s1
        exact ⟨Z, _, _, _, _, _, rfl, e0.trans s0, upd_same, d0.same s0, d1.same s1, d2.same s2, d3.same s3, d4.same s4⟩
      rintro σ1 H4 ⟨Z, u0, u1, u2, u3, u4, rfl, e4, hZ, d0, d1, d2, d3, d4⟩
      refine ⟨fun σ' H' => ∃ Z xs, σ' = sgL sc (some (.int (i : Int))) (some (.ref b)) (some (.int (l : Int))) (some (.ref Z)) x5 x6 x7 ∧ Same H4 H' ∧ H' Z = some (.lst xs) ∧ xs.length = 7 ∧ Dues H' l xs, ?_, ?_⟩
      · refine ⟨_, rfl, ?_⟩
        refine ⟨_, rfl, by show 2 ≤ sizeLine; decide, fun p5 h5 => ?_⟩
        have e5 := same_new (o := HO.tup [.str "TooGreat", .int (l : Int)]) h5
        have d5 : Due _ l 5 (.ref p5) := ⟨p5, _, _, rfl, upd_same (H := H4) (o := HO.tup [.str "TooGreat", .int (l : Int)]), rfl, .int _⟩
        generalize upd H4 p5 (HO.tup [.str "TooGreat", .int (l : Int)]) = G5 at e5 d5 ⊢
        refine ⟨by show 3 ≤ sizeLine; decide, fun p7 h7 => ?_⟩
        have e7 := same_new (o := HO.tup [.int 1, .int 0, .int 1]) h7
        have f7 : Fd (upd G5 p7 (HO.tup [.int 1, .int 0, .int 1])) (.ref p7) (fdOf l 6) := Fd.tup (ns := [1, 0, 1]) (upd_same (H := G5) (a := p7))
        generalize upd G5 p7 (HO.tup [.int 1, .int 0, .int 1]) = G7 at e7 f7 ⊢
        refine ⟨by show 2 ≤ sizeLine; decide, fun p6 h6 => ?_⟩
        have e6 := same_new (o := HO.tup [.str "Forgets", .ref p7]) h6
        have d6 : Due _ l 6 (.ref p6) := ⟨p6, _, _, rfl, upd_same (H := G7) (o := HO.tup [.str "Forgets", .ref p7]), rfl, f7.ext (ext_of e6)⟩
        generalize upd G7 p6 (HO.tup [.str "Forgets", .ref p7]) = G6 at e6 d6 ⊢
        refine ⟨by show 2 ≤ sizeLine; decide, fun Y hY => ?_⟩
        have eY := same_new (o := HO.lst [.ref p5, .ref p6]) hY
        have s5 := (e7.trans e6).trans eY
        have s4 := e5.trans s5
        refine ⟨Z, Y, _, _, rfl, rfl, s4 _ _ hZ, upd_same, by show 7 ≤ sizeLine; decide, fun X2 hX => ?_⟩
        have eX := same_new (o := HO.lst ([u0, u1, u2, u3, u4] ++ [.ref p5, .ref p6])) hX
        refine ⟨X2, _, rfl, s4.trans eX, upd_same, rfl, fun j u hu => ?_⟩
        match j, hu with
        | 0, hu => exact (Option.some.inj hu) ▸ d0.same (s4.trans eX)
        | 1, hu => exact (Option.some.inj hu) ▸ d1.same (s4.trans eX)
        | 2, hu => exact (Option.some.inj hu) ▸ d2.same (s4.trans eX)
        | 3, hu => exact (Option.some.inj hu) ▸ d3.same (s4.trans eX)
        | 4, hu => exact (Option.some.inj hu) ▸ d4.same (s4.trans eX)
        | 5, hu => exact (Option.some.inj hu) ▸ d5.same (s5.trans eX)
        | 6, hu => exact (Option.some.inj hu) ▸ d6.same (eY.trans eX)
        | j + 7, hu => cases hu
      clear hZ d0 d1 d2 d3 d4
      rintro σ1 H5 ⟨Z, xs, rfl, e5, hZ, len, dues⟩
      have k5 : Kp b H1 H5 := (k3.same e4).same e5
      have ht5 := (ht3.ext e4).ext e5
      clear e4 e5 k3 ht3
      refine ⟨fun σ' H' => ∃ y5 y6 y7, σ' = sgL sc (some (.int (i : Int))) (some (.ref b)) (some (.int (l : Int))) (some (.ref Z)) y5 y6 y7 ∧ Wt Ts H5 H', ?_, ?_⟩
      · refine ⟨_, rfl, Z, xs, rfl, .inl (SqL.of hZ), ?_⟩
        rw [len]
        refine ⟨7, rfl, by decide, by decide, for_range (lo := 0) (n := 7) (fun j σ' H' => ∃ y5 y6 y7, σ' = sgL sc (some (.int (i : Int))) (some (.ref b)) (some (.int (l : Int))) (some (.ref Z)) y5 y6 y7 ∧ Wt Ts H5 H') ⟨_, _, _, rfl, Wt.refl ht5⟩ ?_ ?_⟩
        · rintro j σ' H6 hj ⟨y5, y6, y7, rfl, w6⟩
          have j0 : (0 : Int) + (j : Int) = (j : Int) := Int.zero_add _
          rw [j0]
          have hx : xs[j]? = some xs[j] := List.getElem?_eq_getElem (by omega)
          refine ⟨_, rfl, _, rfl, Z, xs, _, _, rfl, rfl, SqL.of (w6.ext _ _ hZ (fun _ z => nomatch z)), atI_nat hx, ?_⟩
          obtain ⟨p, n, v, eu, hp, en, fd6⟩ := (dues j _ hx).ext w6.ext
          rw [eu]
          refine ⟨p, _, rfl, SqT.of hp, rfl, ?_⟩
          refine ⟨_, _, rfl, _, _, rfl, rfl, ?_⟩
          have o := okTold hl (j := j) (by omega)
          have d60 : (dTold l j).depth ≤ 60 := Nat.le_trans o.deep (by decide)
          have line : (dTold l j).shown.length ≤ sizeLine := Nat.le_trans o.fit (by decide)
          refine ⟨_, rfl, _, rfl, j, l, rfl, by omega, hl, w6.tabs, fun q H7 w7 dp => ?_⟩
          refine ⟨_, _, rfl, dp, o.sh, o.nd, d60, line, ?_⟩
          refine ⟨_, rfl, by show 3 ≤ sizeLine; decide, fun r hr1 => ⟨_, rfl, by show 2 ≤ sizeLine; decide, fun s hs1 => ?_⟩⟩
          have er := same_new (o := HO.lst [.str n, .str "WitnessError", .str "ValueError"]) hr1
          have es := same_new (o := HO.lst [.ref r, v]) hs1
          have dp2 : Dp K (upd (upd H7 r (.lst [.str n, .str "WitnessError", .str "ValueError"])) s (.lst [.ref r, v])) (.ref s) (dTold l j) := by
            unfold dTold
            rw [en]
            exact .lst (SqL.of upd_same) (.cons (.lst (SqL.of (es _ _ upd_same)) (dp_strs [n, "WitnessError", "ValueError"])) (.cons (fd6.ext (w7.ext.trans (ext_of (er.trans es)))).dp .nil))
          refine ⟨_, _, rfl, dp2, o.sh, o.nd, d60, line, rfl, _, rfl, ?_⟩
          rw [decide_eq_true rfl]
          exact iteF ⟨_, _, _, rfl, w6.trans (w7.same (er.trans es))⟩
        · exact fun σ' H' q => q
      rintro σ1 H6 ⟨y5, y6, y7, rfl, w6⟩
      refine ⟨by show 2 ≤ sizeLine; decide, fun p hp => ⟨by show 2 ≤ sizeLine; decide, fun q hq => ⟨by show 2 ≤ sizeLine; decide, fun z hz => ?_⟩⟩⟩
      have ep := same_new (o := HO.tup [.int 7, .str "NoDeed"]) hp
      have eq := same_new (o := HO.tup [.int 8, .str "NoState"]) hq
      have ez := same_new (o := HO.tup [.ref p, .ref q]) hz
      have up := ez _ _ (eq _ _ (upd_same (H := H6) (a := p) (o := HO.tup [.int 7, .str "NoDeed"])))
      have uq := ez _ _ (upd_same (H := upd H6 p (HO.tup [.int 7, .str "NoDeed"])) (a := q) (o := HO.tup [.int 8, .str "NoState"]))
      have uz := upd_same (H := upd (upd H6 p (HO.tup [.int 7, .str "NoDeed"])) q (HO.tup [.int 8, .str "NoState"])) (a := z) (o := HO.tup [.ref p, .ref q])
      have w7 := w6.same ((ep.trans eq).trans ez)
      clear ep eq ez hp hq hz
      generalize upd (upd (upd H6 p (HO.tup [.int 7, .str "NoDeed"])) q (HO.tup [.int 8, .str "NoState"])) z (HO.tup [.ref p, .ref q]) = J at up uq uz w7 ⊢
      refine ⟨z, rfl, ⟨_, SqT.of uz⟩, for_tup (xs := [.ref p, .ref q]) (fun j σ' H' => (∃ y5 y6 y7, σ' = sgL sc (some (.int (i : Int))) (some (.ref b)) (some (.int (l : Int))) (some (.ref Z)) y5 y6 y7) ∧ Wt Ts J H') ⟨⟨_, _, _, rfl⟩, Wt.refl w7.tabs⟩ (fun j σ' H' _ w => SqT.of (w.2.ext _ _ uz (fun _ z => nomatch z))) ?_ ?_⟩
      · rintro j u σ' H8 hu ⟨⟨y5, y6, y7, rfl⟩, w8⟩
        obtain ⟨p', j', n, eu, hp', hj', en, ef⟩ : ∃ (p' : Addr) (j' : Nat) (n : Str), u = .ref p' ∧ H8 p' = some (.tup [.int (j' : Int), .str n]) ∧ (j' = 7 ∨ j' = 8) ∧ nmOf j' = [n, "KeyError"] ∧ fdOf l j' = .int ((j' : Int) - 6 + (l : Int)) := by
          match j, hu with
          | 0, hu =>
            cases hu
            exact ⟨p, 7, _, rfl, w8.ext _ _ up (fun _ z => nomatch z), .inl rfl, rfl, rfl⟩
          | 1, hu =>
            cases hu
            exact ⟨q, 8, _, rfl, w8.ext _ _ uq (fun _ z => nomatch z), .inr rfl, rfl, rfl⟩
          | j + 2, hu => cases hu
        subst eu
        refine ⟨p', _, rfl, SqT.of hp', rfl, ?_⟩
        refine ⟨_, _, rfl, _, _, rfl, rfl, ?_⟩
        have o := okTold hl (j := j') (by omega)
        have d60 : (dTold l j').depth ≤ 60 := Nat.le_trans o.deep (by decide)
        have line : (dTold l j').shown.length ≤ sizeLine := Nat.le_trans o.fit (by decide)
        refine ⟨_, rfl, _, rfl, j', l, rfl, by omega, hl, w8.tabs, fun q1 H9 w9 dp => ?_⟩
        refine ⟨_, _, rfl, dp, o.sh, o.nd, d60, line, ?_⟩
        refine ⟨_, rfl, by show 2 ≤ sizeLine; decide, fun r hr1 => ?_⟩
        refine ⟨_, rfl, _, _, rfl, rfl, _, rfl, _, _, rfl, rfl, by show 2 ≤ sizeLine; decide, fun s hs1 => ?_⟩
        have er := same_new (o := HO.lst [.str n, .str "KeyError"]) hr1
        have es := same_new (o := HO.lst [.ref r, .int ((j' : Int) - 6 + (l : Int))]) hs1
        have dp2 : Dp K (upd (upd H9 r (.lst [.str n, .str "KeyError"])) s (.lst [.ref r, .int ((j' : Int) - 6 + (l : Int))])) (.ref s) (dTold l j') := by
          unfold dTold
          rw [en, ef]
          exact .lst (SqL.of upd_same) (.cons (.lst (SqL.of (es _ _ upd_same)) (dp_strs [n, "KeyError"])) (.cons (.int _) .nil))
        refine ⟨_, _, rfl, dp2, o.sh, o.nd, d60, line, rfl, _, rfl, ?_⟩
        rw [decide_eq_true rfl]
        exact iteF ⟨⟨_, _, _, rfl⟩, w8.trans (w9.same (er.trans es))⟩
      · rintro σ' H8 ⟨⟨y5, y6, y7, rfl⟩, w8⟩
        exact ⟨_, _, _, _, _, _, _, rfl, script_keeps e1 nb ((k5.wt w7).wt w8) hs0, w8.tabs⟩
    · rintro σ' H0 ⟨x1, x2, x3, x4, x5, x6, x7, rfl, hs0, ht0⟩
      trivial
end
end K0
/-! the top, run -/
namespace K0
open PySem PySem.Spec PyProof.Rows L2 Kx
/-! ### Bools that the head's Hook asks -/
/-- a class's line and slots -/
def tailB (C : Addr) (bm : List Value → Bool) (newId : String) (mro : List Value) (sl : List (Option Value)) : Bool := match mro, sl with
  | .ref C' :: r, [_, _, _, _, some (.builtin n), _] => decide (C' = C) && (decide (n = newId) && bm r)
  | _, _ => false
theorem tailB_ok {C : Addr} {bm : List Value → Bool} {newId : String} {mro : List Value} {sl : List (Option Value)} (h : tailB C bm newId mro sl = true) :
    ∃ r a0 a1 a2 a3 a5, mro = .ref C :: r ∧ sl = [a0, a1, a2, a3, some (.builtin newId), a5] ∧ bm r = true := by
  unfold tailB at h
  split at h
  · obtain ⟨h4, h⟩ := He.ba h
    obtain ⟨h5, h6⟩ := He.ba h
    have h4 := of_decide_eq_true h4
    have h5 := of_decide_eq_true h5
    exact ⟨_, _, _, _, _, _, by rw [h4], by rw [h5], h6⟩
  · cases h
/-- the class at C as the text makes it: an own dict, no __del__, behind it the classes bm -/
def shapeB (K : PySem.W.Frag) (C : Addr) (bm : List Value → Bool) (newId : String) : Bool := match K.lookup C with
  | some ⟨.type c, _, .cls cd, sl⟩ => decide (c = "type") && (cd.hasDict && (!cd.hasDel && tailB C bm newId cd.mro sl.toList))
  | _ => false
theorem shapeB_ok {K : PySem.W.Frag} {C : Addr} {bm : List Value → Bool} {newId : String} (h : shapeB K C bm newId = true) :
    ∃ nm q N bs r sn sub ab col dd k0 k1 k2 k3 k5, K.lookup C = some (excClassObj nm q C N bs r true sn sub ab col dd k0 k1 k2 k3 k5 newId) ∧ bm r = true := by
  unfold shapeB at h
  cases e : K.lookup C with
  | none =>
    rw [e] at h
    cases h
  | some o =>
    obtain ⟨oc, od, dt, sl⟩ := o
    rw [e] at h
    cases oc with
    | type c =>
      cases dt with
      | cls cd =>
        obtain ⟨nm, bs, mro, N, q, hdct, sn, sub, ab, col, del⟩ := cd
        have h : (decide (c = "type") && (hdct && (!del && tailB C bm newId mro sl.toList))) = true := h
        obtain ⟨h1, h⟩ := He.ba h
        obtain ⟨h2, h⟩ := He.ba h
        obtain ⟨h3, h⟩ := He.ba h
        obtain ⟨r, a0, a1, a2, a3, a5, h4, h5, h6⟩ := tailB_ok h
        have k1 := of_decide_eq_true h1
        have k3 : del = false := by
          cases del with
          | false => rfl
          | true => cases h3
        have es : sl = #[a0, a1, a2, a3, some (.builtin newId), a5] := by
          have := congrArg List.toArray h5
          simpa using this
        refine ⟨nm, q, N, bs, r, sn, sub, ab, col, od, a0, a1, a2, a3, a5, ?_, h6⟩
        rw [k1, h2, k3, h4, es]
      | _ => cases h
    | _ => cases dt <;> cases h
/-- an own error over an own base over ValueError, of the field f -/
def oexB (K : PySem.W.Frag) (C : Addr) : Bool := shapeB K C PySem.HandSPX.refsVE "ValueError.__new__" && (He.eqO (PySem.W.findIn K (.ref C) "__setattr__") (some (some (.builtin "object.__setattr__"))) && (decide (PySem.W.subIn K (.ref C) (.type "BaseException") = some true) && (decide (PySem.W.typeIn K (.ref C) = some (.type "type")) && PySem.W.keepIn K (.ref C))))
theorem oexB_ok {K : PySem.W.Frag} {C : Addr} (h : oexB K C = true) : OexC K C := by
  obtain ⟨h1, h⟩ := He.ba h
  obtain ⟨h2, h⟩ := He.ba h
  obtain ⟨h3, h⟩ := He.ba h
  obtain ⟨h4, h5⟩ := He.ba h
  exact ⟨shapeB_ok h1, He.eqO_ok h2, of_decide_eq_true h3, of_decide_eq_true h4, h5⟩
def keyB (K : PySem.W.Frag) (C : Addr) : Bool := shapeB K C (fun r => decide (r = keyTail)) "LookupError.__new__" && (He.eqO (PySem.W.findIn K (.ref C) "__setattr__") (some (some (.builtin "object.__setattr__"))) && (decide (PySem.W.subIn K (.ref C) (.type "BaseException") = some true) && (decide (PySem.W.typeIn K (.ref C) = some (.type "type")) && PySem.W.keepIn K (.ref C))))
theorem keyB_ok {K : PySem.W.Frag} {C : Addr} (h : keyB K C = true) : KeyC K C := by
  obtain ⟨h1, h⟩ := He.ba h
  obtain ⟨h2, h⟩ := He.ba h
  obtain ⟨h3, h⟩ := He.ba h
  obtain ⟨h4, h5⟩ := He.ba h
  obtain ⟨nm, q, N, bs, r, sn, sub, ab, col, dd, k0, k1, k2, k3, k5, e, er⟩ := shapeB_ok h1
  have er := of_decide_eq_true er
  subst er
  exact ⟨⟨nm, q, N, bs, sn, sub, ab, col, dd, k0, k1, k2, k3, k5, e⟩, He.eqO_ok h2, of_decide_eq_true h3, of_decide_eq_true h4, h5⟩
def excB (K : PySem.W.Frag) (D : Addr) : Bool := He.eqO (PySem.W.findIn K (.ref D) "__getattribute__") (some (some (.builtin "BaseException.__getattribute__"))) && (He.eqO (PySem.W.findIn K (.ref D) "__getattr__") (some none) && (decide (PySem.W.subIn K (.ref D) (.type "BaseException") = some true) && (PySem.W.hasDictIn K D &&
  (He.eqO (PySem.W.findIn K (.ref D) "__class__") (some (some (.builtin "object.__class__"))) && (He.eqO (PySem.W.specialIn K (.builtin "object.__class__") "__get__") (some (some (.builtin "getset_descriptor.__get__"))) && (decide (PySem.W.takesIn K (.builtin "object.__class__") = some true) && decide (PySem.W.mroIn K D (.type "object") = some true)))))))
theorem excB_ok {K : PySem.W.Frag} {D : Addr} (h : excB K D = true) : ExcC K D := by
  obtain ⟨h1, h⟩ := He.ba h
  obtain ⟨h2, h⟩ := He.ba h
  obtain ⟨h3, h⟩ := He.ba h
  obtain ⟨h4, h⟩ := He.ba h
  obtain ⟨h5, h⟩ := He.ba h
  obtain ⟨h6, h⟩ := He.ba h
  obtain ⟨h7, h8⟩ := He.ba h
  exact ⟨He.eqO_ok h1, He.eqO_ok h2, of_decide_eq_true h3, h4, He.eqO_ok h5, He.eqO_ok h6, of_decide_eq_true h7, of_decide_eq_true h8⟩
theorem excB_xf {K : PySem.W.Frag} {D : Addr} (h : excB K D = true) : XfC K D := by
  have e := excB_ok h
  exact ⟨e.hg, e.hk, e.hs, e.hd⟩
end K0
/-! the end of a law that holds where nothing that guards itself runs around -/
namespace Kx
open L2 PySem PySem.Spec PyProof.Rows
/-- what is followed at the start: the tables, the script where the written part does not hold it -/
def startH (K : PySem.W.Frag) (a : Addr) (vs : List Value) (ns : List Int) (tabs : List Addr) : Hp := fun b =>
  if b ∈ tabs then some (.tbl #[]) else if b = a ∧ K.lookup a = .none then some (.frz { cls := .type "list", data := .seq vs.toArray } (.lst (ns.map V.int))) else .none
section
variable {P : Program} {w : World} {K : PySem.W.Frag} {mg mb : Str → Option Value} {k : Nat} {fa a : Addr} {cs : List (Addr × Addr)} {fd : FuncData} {x : Str} {sp : Sp} {s : Shared} {vs : List Value} {ns : List Int}
theorem lone_end (X : K.In s.heap) (G : s.heap.Ns mainGlobals mg) (Bn : s.heap.Ns builtinsNs mb) (Bi : ∀ y : Str, y ≠ "__name__" → mb y = bootBuiltins y) (lim : s.heap.NoLimit) (gens : s.gens = #[])
    (tE : ∀ p ∈ cs, s.heap.get? p.2 = some { cls := .none, data := .fields #[] }) (tN : ∀ p ∈ cs, K.lookup p.2 = .none) (tC : ∀ p ∈ cs, PySem.W.CodeHd s.heap p.1 p.2)
    (bmod : ∃ (bm : Addr) (ob : Obj), mg "__builtins__" = some (.ref bm) ∧ bm ≠ builtinsNs ∧ s.heap.get? bm = some ob ∧ ob.cls = .type "module" ∧ ob.dict = some builtinsNs ∧ ob.data = .plain)
    (at_ : s.heap.get? a = some { cls := .type "list", data := .seq vs.toArray }) (isI : IntsAre vs ns) (short : ns.length ≤ sizeLine) (room : Room k callerA)
    (F : ∀ base : Heap, K.In base → base.Ns mainGlobals mg → (∀ p ∈ cs, LamX.TabB base mg p.1 p.2) → FnG P w K mg base CX0 k fa fd [x] sp) (bind : ∀ (s' : Shared) (u : Value), BindsTo s' fd ⟨[u], []⟩ [(x, u)])
    (give : ∀ H : Hp, (∀ p ∈ cs, H p.2 = some (.tbl #[])) → SqL K H a (ns.map V.int) → sp [.ref a] H (fun v _ => v = .bl true) fun _ _ _ => False) :
    codeAny (model P w) callerA (.call (.ref fa) ⟨[.ref a], []⟩) (fun r s' => r = .ok (.ret (.bool true)) ∧ OldK s.heap s'.heap ∧ s'.os = s.os ∧ AllBare s'.gens) s := by
  have rel := vals_ints isI
  have len := isI.length
  have tabIs : ∀ b ∈ cs.map (·.2), s.heap.get? b = some { cls := .none, data := .fields #[] } ∧ K.lookup b = .none := fun b hb => by
    obtain ⟨p, hp, rfl⟩ := List.mem_map.mp hb
    exact ⟨tE p hp, tN p hp⟩
  have apart : a ∉ cs.map (·.2) := fun z => by
    have q := (tabIs a z).1
    rw [at_] at q
    injection q with q
    injection q with _ _ q
    cases q
  let H := startH K a vs ns (cs.map (·.2))
  have hT : ∀ b ∈ cs.map (·.2), H b = some (.tbl #[]) := fun b hb => if_pos hb
  have hTs : ∀ p ∈ cs, H p.2 = some (.tbl #[]) := fun p hp => hT _ (List.mem_map_of_mem hp)
  -- what H follows: a table, the script
  have cases_ : ∀ b, (b ∈ cs.map (·.2) ∧ H b = some (.tbl #[])) ∨ (b = a ∧ K.lookup a = .none ∧ H b = some (.frz { cls := .type "list", data := .seq vs.toArray } (.lst (ns.map V.int)))) ∨ H b = .none := fun b => by
    by_cases h1 : b ∈ cs.map (·.2)
    · exact .inl ⟨h1, hT b h1⟩
    · by_cases h2 : b = a ∧ K.lookup a = .none
      · exact .inr (.inl ⟨h2.1, h2.2, (if_neg h1).trans (if_pos h2)⟩)
      · exact .inr (.inr ((if_neg h1).trans (if_neg h2)))
  have known : ∀ {b : Addr} {o : Obj}, K.lookup b = some o → H b = .none := fun {b o} e => by
    rcases cases_ b with ⟨h, _⟩ | ⟨rfl, h, _⟩ | h
    · rw [(tabIs b h).2] at e
      cases e
    · rw [h] at e
      cases e
    · exact h
  have other : ∀ {b : Addr} {o : Obj}, s.heap.get? b = some o → (∀ us n, o.data ≠ .seq us n) → o.data ≠ .fields #[] → H b = .none := fun {b o} e h1 h2 => by
    rcases cases_ b with ⟨h, _⟩ | ⟨rfl, _, _⟩ | h
    · rw [(tabIs b h).1] at e
      cases e
      exact absurd rfl h2
    · rw [at_] at e
      cases e
      exact absurd rfl (h1 _ _)
    · exact h
  have ns_ : ∀ {b : Addr} {m : Str → Option Value}, s.heap.Ns b m → (hidT s.heap H).Ns b m := fun {b m} ⟨o, es, ep, e, d, r⟩ =>
    ⟨o, es, ep, hidT_get e (other e (fun us n z => by rw [d] at z; cases z) fun z => by rw [d] at z; cases z), d, r⟩
  have Xb : K.In (hidT s.heap H) := fun b o e => hidT_get (X b o e) (known e)
  have holds : HOk P w H s.heap := fun b u z => by
    rcases cases_ b with ⟨h, e⟩ | ⟨rfl, _, e⟩ | e
    · obtain rfl : u = .tbl #[] := Option.some.inj (z.symm.trans e)
      exact (tabIs b h).1
    · obtain rfl := Option.some.inj (z.symm.trans e)
      exact ⟨at_, by rw [List.length_map]; exact short, vs, _, rel, at_⟩
    · rw [e] at z
      cases z
  have script : SqL K H a (ns.map V.int) := by
    cases q : K.lookup a with
    | none =>
      refine .inl (.inr ⟨{ cls := .type "list", data := .seq vs.toArray }, ?_⟩)
      exact (if_neg apart).trans (if_pos ⟨rfl, q⟩)
    | some o =>
      have e := X a o q
      rw [at_] at e
      cases e
      exact .inr ⟨_, vs.toArray, _, q, rfl, rfl, rfl, by rw [List.size_toArray, len]; exact short, by simpa using rel⟩
  have tabs : ∀ p ∈ cs, LamX.TabB (hidT s.heap H) mg p.1 p.2 := fun p hp => by
    refine ⟨?_, ?_, fun z => ?_⟩
    · obtain ⟨o, us, file, tf, flags, tg, inF, text, tt, e, c1, c2, c3, more⟩ := tC p hp
      refine ⟨o, us, file, tf, flags, tg, inF, text, tt, hidT_get e (other e (fun vs n z => by rw [c2] at z; cases z) fun z => ?_), c1, c2, c3, more⟩
      rw [c2] at z
      cases z
      simp at c3
    · obtain ⟨bm, ob, b1, b2, b3, b4, b5, b6⟩ := bmod
      have b7 : H bm = .none := other b3 (fun us n z => by rw [b6] at z; cases z) fun z => by rw [b6] at z; cases z
      refine ⟨bm, ob, b1, b2, fun q => ?_, fun q => ?_, hidT_get b3 b7, b4, b5, b6⟩
      · obtain ⟨o, es, ep, e, d, _⟩ := G
        rw [← q, b3] at e
        cases e
        rw [b6] at d
        cases d
      · rw [q, hTs p hp] at b7
        cases b7
    · obtain ⟨o, es, ep, e, d, _⟩ := G
      rw [z, tE p hp] at e
      cases e
      cases d
  have env : Env0 P w K mg (hidT s.heap H) callerA [] s H :=
    { frames := rfl
      mod := ⟨Xb, ns_ G, ⟨mb, ns_ Bn, Bi⟩, let ⟨mc, h1, h2⟩ := lim; ⟨mc, ns_ h1, h2⟩⟩
      bs := fun b o e => of_hidT e
      bsz := Nat.le_of_eq (hidT_size _ _)
      funs := trivial
      frf := fun b hb => absurd (show b ∈ ([] : List Addr) from hb) (by simp)
      hok := holds
      bare := .of_eq gens }
  refine codeAny_mono ((F _ Xb (ns_ G) tabs).run callerA [] s H ⟨[.ref a], []⟩ [.ref a] [.ref a] _ _ room rfl env (bind s (.ref a)) (.cons rfl .nil) (give H hTs script)) fun r s' z => ?_
  match r, z with
  | .error e, z => exact z.elim
  | .ok .next, z => exact z.elim
  | .ok .brk, z => exact z.elim
  | .ok .cont, z => exact z.elim
  | .ok (.ret u), z =>
    obtain ⟨v, H', os, bare, un, ok', r', ev⟩ := z
    subst ev
    obtain rfl : u = .bool true := r'
    have stay : ∀ b o, b ∉ cs.map (·.2) → s.heap.get? b = some o → s'.heap.get? b = some o := fun b o nb e => by
      rcases cases_ b with ⟨h, _⟩ | ⟨_, _, q⟩ | q
      · exact absurd h nb
      · have old := (holds b _ q).1
        rw [e] at old
        cases old
        exact (ok' b _ (un.frzs b _ _ q)).1
      · exact un.keep b o e q (fun m => absurd (show b ∈ ([] : List Addr) from m) (by simp)) (by simp)
    have grown : ∀ b ∈ cs.map (·.2), ∃ more : Array Value, s'.heap.get? b = some { cls := .none, data := .fields more } := fun b hb => by
      obtain ⟨more, q⟩ := un.tbls b #[] (hT b hb)
      exact ⟨_, ok' b _ q⟩
    refine ⟨rfl, ⟨fun b o eb => ?_, fun b o eb => ?_⟩, os, bare⟩
    · by_cases mb : b ∈ cs.map (·.2)
      · rcases List.mem_map.mp mb with ⟨p, hp, rfl⟩
        obtain ⟨more, hm⟩ := grown _ mb
        rw [tE p hp] at eb
        cases eb
        exact .inr (.inl ⟨((tC p hp).tab (tE p hp)).isCodeTable, rfl, #[], more, rfl, by rw [Array.empty_append]; exact hm⟩)
      · exact .inl (stay b o mb eb)
    · by_cases mb : b ∈ cs.map (·.2)
      · obtain ⟨more, hm⟩ := grown b mb
        exact ⟨_, hm⟩
      · exact ⟨o, stay b o mb eb⟩
end
/-- the law's def, told over the head's heap -/
theorem lone_walk {l : PySem.W.OpenLaw} {n k : Nat} {q : Program} {loose : List Str} {XP : (Str → Option Value) → Heap → Prop} {YP : World → Heap → Prop} {d : DefRec} {x : Str} (most : l.most = some n) (short : n ≤ sizeLine) (plain : d.params.defaults = []) (room : Room k callerA)
    (F : ∀ (w : World) (mg : Str → Option Value) (fa : Addr) (h : Heap), YP w h → h.Ns mainGlobals mg → mg d.name = some (.ref fa) → ∃ (K : PySem.W.Frag) (fd : FuncData) (cs : List (Addr × Addr)) (sp : Sp), K.In h ∧
      (∀ p ∈ cs, h.get? p.2 = some { cls := .none, data := .fields #[] }) ∧ (∀ p ∈ cs, K.lookup p.2 = none) ∧ (∀ p ∈ cs, PySem.W.CodeHd h p.1 p.2) ∧ (∀ (s : Shared) (u : Value), BindsTo s fd ⟨[u], []⟩ [(x, u)]) ∧
      (∀ (H : Hp) (a : Addr) (ns : List Int), ns.length ≤ n → (∀ p ∈ cs, H p.2 = some (.tbl #[])) → SqL K H a (ns.map V.int) → sp [.ref a] H (fun v _ => v = .bl true) fun _ _ _ => False) ∧
      ∀ base : Heap, K.In base → base.Ns mainGlobals mg → (∀ p ∈ cs, LamX.TabB base mg p.1 p.2) → FnG l.prog w K mg base CX0 k fa fd [x] sp) : PySem.W.WalkO q loose XP YP l.row.toRowW d [] (fun f vs => PySem.call f vs) := by
  refine Att.attach_callB most plain fun w s₀ s₁ mg mb fa o pm cd doc a vs ns G Y _ _ _ hmg hobj hints hlen _ hg => ?_
  obtain ⟨K, fd, cs, sp, X, tE, tN, tC, hb, give, hF⟩ := F w mg fa _ Y G.T.g hmg
  exact lone_end X G.T.g G.T.b G.T.builtins G.T.nolimit hg tE tN tC G.T.bmain hobj hints (Nat.le_trans hlen short) room hF hb fun H hH hS => give H a ns hlen hH hS
end Kx
/-! what the head tells -/
namespace K0
open PySem PySem.Spec PyProof.Rows L2 Kx RZ
def iniB (K : PySem.W.Frag) (C : Addr) : Bool := He.eqO (PySem.W.findIn K (.ref C) "__init__") (some (some (.ref (He.ma K C "__init__")))) && decide (PySem.W.typeIn K (.ref (He.ma K C "__init__")) = some (.type "function"))
theorem iniB_ok {K : PySem.W.Frag} {C : Addr} (h : iniB K C = true) : PySem.W.findIn K (.ref C) "__init__" = some (some (.ref (He.ma K C "__init__"))) ∧ PySem.W.typeIn K (.ref (He.ma K C "__init__")) = some (.type "function") := by
  obtain ⟨h1, h2⟩ := He.ba h
  exact ⟨He.eqO_ok h1, of_decide_eq_true h2⟩
def isiB (K : PySem.W.Frag) (C : Addr) : Bool := He.eqO (PySem.W.findIn K (.ref C) "__class__") (some (some (.builtin "object.__class__"))) && (He.eqO (PySem.W.specialIn K (.builtin "object.__class__") "__get__") (some (some (.builtin "getset_descriptor.__get__"))) &&
  (decide (PySem.W.takesIn K (.builtin "object.__class__") = some true) && decide (PySem.W.mroIn K C (.type "object") = some true)))
theorem isiB_ok {K : PySem.W.Frag} {C : Addr} (h : isiB K C = true) : SlX.SIsi K C := by
  obtain ⟨h1, h⟩ := He.ba h
  obtain ⟨h2, h⟩ := He.ba h
  obtain ⟨h3, h4⟩ := He.ba h
  exact ⟨He.eqO_ok h1, He.eqO_ok h2, of_decide_eq_true h3, of_decide_eq_true h4⟩
def kitB (K : PySem.W.Frag) (t c : Value) (b : Bool) : Bool := decide (PySem.W.kitOne K t c = some b)
theorem kitB_ok {K : PySem.W.Frag} {t c : Value} {b : Bool} (h : kitB K t c b = true) : PySem.W.kitOne K t c = some b := of_decide_eq_true h
def nilB (K : PySem.W.Frag) (t : Addr) : Bool := match K.lookup t with
  | some ⟨.type c, _, .seq its _, _⟩ => decide (c = "tuple") && decide (its.size = 0)
  | _ => false
theorem nilB_ok {K : PySem.W.Frag} {t : Addr} (h : nilB K t = true) (H : Hp) : SqT K H t [] := by
  unfold nilB at h
  split at h
  · rename_i c od its n sl e
    obtain ⟨h1, h2⟩ := He.ba h
    have z : its = #[] := Array.eq_empty_of_size_eq_zero (of_decide_eq_true h2)
    subst z
    exact .inr ⟨_, #[], n, e, congrArg Value.type (of_decide_eq_true h1), rfl, Nat.zero_le _, .nil⟩
  · cases h
def adOf (K : PySem.W.Frag) : Ad := ⟨He.ga K "BadMachine", He.ga K "BadRow", He.ga K "BadShowing", He.ga K "BadText", He.ga K "Refused", He.ga K "TooGreat", He.ga K "Forgets", He.ga K "NoState", He.ga K "NoDeed"⟩
def exaB (K : PySem.W.Frag) (t : Value) (cs : List Value) (b : Bool) : Bool := decide (PySem.W.exmAny K t cs = some b)
theorem exaB_ok {K : PySem.W.Frag} {t : Value} {cs : List Value} {b : Bool} (h : exaB K t cs b = true) : PySem.W.exmAny K t cs = some b := of_decide_eq_true h
def kindB (K : PySem.W.Frag) (a : Ad) (cW D : Addr) (bs : List Bool) : Bool := decide ([PySem.W.kitOne K (.ref D) (.ref a.cM), PySem.W.kitOne K (.ref D) (.ref a.cR), PySem.W.kitOne K (.ref D) (.ref a.cS), PySem.W.kitOne K (.ref D) (.ref a.cT), PySem.W.kitOne K (.ref D) (.ref a.cO), PySem.W.kitOne K (.ref D) (.ref a.cF), PySem.W.kitOne K (.ref D) (.ref a.cG),
  PySem.W.kitOne K (.ref D) (.ref a.cD), PySem.W.kitOne K (.ref D) (.ref a.cN), PySem.W.kitOne K (.ref D) (.ref cW), PySem.W.kitOne K (.ref D) (.type "KeyError"), PySem.W.kitOne K (.ref D) (.type "ValueError")] = bs.map some)
theorem kindB_ok {K : PySem.W.Frag} {a : Ad} {cW D : Addr} {b1 b2 b3 b4 b5 b6 b7 b8 b9 b10 b11 b12 : Bool} {names : List Str} (e : excB K D = true) (h : kindB K a cW D [b1, b2, b3, b4, b5, b6, b7, b8, b9, b10, b11, b12] = true)
    (en : names = sel [("BadMachine", b1), ("BadRow", b2), ("BadShowing", b3), ("BadText", b4), ("Forgets", b5), ("Refused", b6), ("TooGreat", b7), ("NoDeed", b8), ("NoState", b9), ("WitnessError", b10), ("KeyError", b11), ("ValueError", b12)]) : Kind K a cW D names := by
  have q := of_decide_eq_true h
  simp only [List.map_cons, List.map_nil, List.cons.injEq, and_true] at q
  obtain ⟨h1, h2, h3, h4, h5, h6, h7, h8, h9, h10, h11, h12⟩ := q
  exact ⟨excB_ok e, excB_xf e, _, _, _, _, _, _, _, _, _, _, _, _, h1, h2, h3, h4, h5, h6, h7, h8, h9, h10, h11, h12, en⟩
/-! ### the names, the texts -/
abbrev dAsk : He.Defn := ("_law_ask", none)
def tZero (K : PySem.W.Frag) : Addr := He.dflAt ("Counters", some "__init__") 0 K
abbrev dF (x : Str) (st : Stmt) : He.DefD := ⟨(x, none), x, x, defArgs st, defBody st, defScope st, [], []⟩
abbrev dM (C m q : Str) (st : Stmt) (ds : List He.Dv) : He.DefD := ⟨(C, some m), m, q, defArgs st, defBody st, defScope st, ds, []⟩
def fn : List He.DefD := [
  dF "is_number" s_is_number,
  dF "is_below" s_is_below,
  dF "is_sequence" s_is_sequence,
  dF "first_not_below" s_first_not_below,
  dF "row_of" s_row_of,
  dF "_are_rests" s_are_rests,
  dF "is_finite" s_is_finite,
  dF "_can_show" s_can_show,
  dF "check_showing" s_check_showing,
  dF "_sizes" s_sizes,
  dF "showings_many" s_showings_many,
  dF "all_showings" s_all_showings,
  dF "_is_table" s_is_table,
  dF "need_state" s_need_state,
  dF "need_deed" s_need_deed,
  dF "check_row" s_check_row,
  dF "in_coming_order" s_in_coming_order,
  dF "reached" s_reached,
  dF "forgotten" s_forgotten,
  dF "need_exchanges" s_need_exchanges,
  dF "_need_text" s_need_text,
  dF "read_below" s_read_below,
  dF "read_row" s_read_row,
  dF "_law_box" s_law_box,
  dF "_law_take" s_law_take,
  dF "_law_pick" s_law_pick,
  dF "_law_value" s_law_value,
  dF "_law_bases" s_law_bases,
  dF "_law_kept_right" s_law_kept_right,
  dF "_law_ask" s_law_ask,
  dF "_law_raised" s_law_raised,
  dF "law" s_law,
  dM "BadMachine" "__init__" "BadMachine.__init__" s_BadMachine_init [],
  dM "BadRow" "__init__" "BadRow.__init__" s_BadRow_init [],
  dM "BadShowing" "__init__" "BadShowing.__init__" s_BadShowing_init [],
  dM "BadText" "__init__" "BadText.__init__" s_BadText_init [],
  dM "Refused" "__init__" "Refused.__init__" s_Refused_init [],
  dM "TooGreat" "__init__" "TooGreat.__init__" s_TooGreat_init [],
  dM "Forgets" "__init__" "Forgets.__init__" s_Forgets_init [],
  dM "NoState" "__init__" "NoState.__init__" s_NoState_init [],
  dM "NoDeed" "__init__" "NoDeed.__init__" s_NoDeed_init [],
  dM "Counters" "__init__" "Counters.__init__" s_Counters_init [.adr tZero],
  dM "Machine" "__init__" "Machine.__init__" s_Machine_init []]
def fa : List He.Fa := [
  .glo "is_number", .glo "is_below", .glo "is_sequence", .glo "first_not_below", .glo "row_of", .glo "_are_rests", .glo "is_finite", .glo "_can_show",
  .glo "check_showing", .glo "_sizes", .glo "showings_many", .glo "all_showings", .glo "_is_table", .glo "need_state", .glo "need_deed", .glo "check_row",
  .glo "in_coming_order", .glo "reached", .glo "forgotten", .glo "need_exchanges", .glo "_need_text", .glo "read_below", .glo "read_row", .glo "_law_box",
  .glo "_law_take", .glo "_law_pick", .glo "_law_value", .glo "_law_bases", .glo "_law_kept_right", .glo "_law_ask", .glo "_law_raised", .glo "law",
  .glo "WitnessError", .glo "BadMachine", .glo "BadRow", .glo "BadShowing", .glo "BadText", .glo "Refused", .glo "TooGreat", .glo "Forgets",
  .glo "NoState", .glo "NoDeed", .glo "Counters", .glo "Machine", .free "KeyError", .free "ValueError", .free "abs", .free "bool",
  .free "enumerate", .free "int", .free "isinstance", .free "len", .free "list", .free "range", .free "repr", .free "sorted",
  .free "str", .free "tuple", .free "zip", .int "DEEDS_MOST" 4, .int "STATES_MOST" 8, .int "ROW_MOST" 400, .int "ROUND_MOST" 60, .int "REST_MOST" 6,
  .cls "Counters", .cls "Machine", .mkr "Counters", .mkr "Machine", .noat "Counters" "rounds", .noat "Counters" "rests", .noat "Machine" "deeds", .noat "Machine" "states",
  .noat "Machine" "tables", .noat "BadMachine" "at", .noat "BadRow" "at", .noat "BadShowing" "at", .noat "BadText" "at", .noat "Refused" "at", .noat "TooGreat" "most", .noat "Forgets" "deed",
  .noat "Forgets" "one", .noat "Forgets" "other", .noat "NoState" "state", .noat "NoDeed" "deed"]
def tf : List He.Defn := [dAsk]
def bools (K : PySem.W.Frag) : List Bool := [
  oexB K (He.ga K "BadMachine"),
  oexB K (He.ga K "BadRow"),
  oexB K (He.ga K "BadShowing"),
  oexB K (He.ga K "BadText"),
  oexB K (He.ga K "Refused"),
  oexB K (He.ga K "TooGreat"),
  oexB K (He.ga K "Forgets"),
  keyB K (He.ga K "NoState"),
  keyB K (He.ga K "NoDeed"),
  excB K (He.ga K "BadMachine"),
  excB K (He.ga K "BadRow"),
  excB K (He.ga K "BadShowing"),
  excB K (He.ga K "BadText"),
  excB K (He.ga K "Refused"),
  excB K (He.ga K "TooGreat"),
  excB K (He.ga K "Forgets"),
  excB K (He.ga K "NoState"),
  excB K (He.ga K "NoDeed"),
  iniB K (He.ga K "BadMachine"),
  iniB K (He.ga K "BadRow"),
  iniB K (He.ga K "BadShowing"),
  iniB K (He.ga K "BadText"),
  iniB K (He.ga K "Refused"),
  iniB K (He.ga K "TooGreat"),
  iniB K (He.ga K "Forgets"),
  iniB K (He.ga K "NoState"),
  iniB K (He.ga K "NoDeed"),
  isiB K (He.ga K "Counters"),
  kitB K (.ref (He.ga K "Counters")) (.ref (He.ga K "Counters")) true,
  kitB K (.type "tuple") (.ref (He.ga K "Counters")) false,
  PySem.W.notFirst K (He.ga K "Counters") (.type "tuple"),
  isiB K (He.ga K "Machine"),
  kitB K (.ref (He.ga K "Machine")) (.ref (He.ga K "Machine")) true,
  kitB K (.type "tuple") (.ref (He.ga K "Machine")) false,
  PySem.W.notFirst K (He.ga K "Machine") (.type "tuple"),
  kindB K (adOf K) (He.ga K "WitnessError") (He.ga K "BadMachine") [true, false, false, false, false, false, false, false, false, true, false, true],
  kindB K (adOf K) (He.ga K "WitnessError") (He.ga K "BadRow") [false, true, false, false, false, false, false, false, false, true, false, true],
  kindB K (adOf K) (He.ga K "WitnessError") (He.ga K "BadShowing") [false, false, true, false, false, false, false, false, false, true, false, true],
  kindB K (adOf K) (He.ga K "WitnessError") (He.ga K "BadText") [false, false, false, true, false, false, false, false, false, true, false, true],
  kindB K (adOf K) (He.ga K "WitnessError") (He.ga K "Refused") [false, false, false, false, false, true, false, false, false, true, false, true],
  kindB K (adOf K) (He.ga K "WitnessError") (He.ga K "TooGreat") [false, false, false, false, false, false, true, false, false, true, false, true],
  kindB K (adOf K) (He.ga K "WitnessError") (He.ga K "Forgets") [false, false, false, false, true, false, false, false, false, true, false, true],
  kindB K (adOf K) (He.ga K "WitnessError") (He.ga K "NoState") [false, false, false, false, false, false, false, false, true, false, true, false],
  kindB K (adOf K) (He.ga K "WitnessError") (He.ga K "NoDeed") [false, false, false, false, false, false, false, true, false, false, true, false],
  exaB K (.ref (adOf K).cM) [.ref (adOf K).cM, .ref (adOf K).cR, .ref (adOf K).cS, .ref (adOf K).cT, .ref (adOf K).cF] true,
  exaB K (.ref (adOf K).cR) [.ref (adOf K).cM, .ref (adOf K).cR, .ref (adOf K).cS, .ref (adOf K).cT, .ref (adOf K).cF] true,
  exaB K (.ref (adOf K).cS) [.ref (adOf K).cM, .ref (adOf K).cR, .ref (adOf K).cS, .ref (adOf K).cT, .ref (adOf K).cF] true,
  exaB K (.ref (adOf K).cT) [.ref (adOf K).cM, .ref (adOf K).cR, .ref (adOf K).cS, .ref (adOf K).cT, .ref (adOf K).cF] true,
  exaB K (.ref (adOf K).cF) [.ref (adOf K).cM, .ref (adOf K).cR, .ref (adOf K).cS, .ref (adOf K).cT, .ref (adOf K).cF] true,
  exaB K (.ref (adOf K).cG) [.ref (adOf K).cM, .ref (adOf K).cR, .ref (adOf K).cS, .ref (adOf K).cT, .ref (adOf K).cF] false,
  exaB K (.ref (adOf K).cG) [.ref (adOf K).cG] true,
  exaB K (.ref (adOf K).cO) [.ref (adOf K).cM, .ref (adOf K).cR, .ref (adOf K).cS, .ref (adOf K).cT, .ref (adOf K).cF] false,
  exaB K (.ref (adOf K).cO) [.ref (adOf K).cG] false,
  exaB K (.ref (adOf K).cO) [.ref (adOf K).cO] true,
  exaB K (.ref (adOf K).cD) [.ref (adOf K).cM, .ref (adOf K).cR, .ref (adOf K).cS, .ref (adOf K).cT, .ref (adOf K).cF] false,
  exaB K (.ref (adOf K).cD) [.ref (adOf K).cG] false,
  exaB K (.ref (adOf K).cD) [.ref (adOf K).cO] false,
  exaB K (.ref (adOf K).cD) [.ref (adOf K).cD] true,
  exaB K (.ref (adOf K).cN) [.ref (adOf K).cM, .ref (adOf K).cR, .ref (adOf K).cS, .ref (adOf K).cT, .ref (adOf K).cF] false,
  exaB K (.ref (adOf K).cN) [.ref (adOf K).cG] false,
  exaB K (.ref (adOf K).cN) [.ref (adOf K).cO] false,
  exaB K (.ref (adOf K).cN) [.ref (adOf K).cD] false,
  exaB K (.ref (adOf K).cN) [.ref (adOf K).cN] true,
  nilB K (tZero K)]
def ex (K : PySem.W.Frag) : Bool := (bools K).all id
theorem ex_at {K : PySem.W.Frag} (h : ex K = true) (i : Nat) {b : Bool} (e : (bools K)[i]? = some b) : b = true := List.all_eq_true.mp h b (List.mem_of_getElem? e)
/-! ### how arguments are bound -/
theorem vals_getD : ∀ {vs : List V} {us : List Value} (i : Nat), Vals vs us → RelV (vs.getD i .non) (us.getD i .none)
  | [], [], _, _ => rfl
  | _ :: _, _ :: _, 0, .cons h _ => h
  | _ :: _, _ :: _, i + 1, .cons _ h => by
    have := vals_getD i h
    simpa using this
section
variable {K : PySem.W.Frag} {x qual : Str} {params : Arguments} {body : List Stmt} {scope : Scope} {kws : List (Str × V)} {f : Addr} {fd : FuncData} {ps ks : List Str} {n : Nat}
theorem kbn_of {g : List Value → List Value → List Value} {gV : List V → List V → List V} (F : FunD K x qual params body scope [] kws f fd) (rel : ∀ {vs us zs ws}, Vals vs us → Vals zs ws → Vals (gV vs zs) (g us ws))
    (h : ∀ (kV doc pm : Value) (an : Option Addr) (cdv ct : Value) (us ws : List Value), us.length = n → ws.length = ks.length → bindArgs (PySem.W.fnOf x qual params body scope .none kV doc pm an cdv ct) ⟨us, ks.zip ws⟩ = pure (ps.zip (g us ws))) : KBn K fd ps n ks g gV := by
  obtain ⟨oc, od, dV, kV, doc, pm, an, cdv, ct, osl, rfl, lk, hcd, hD, -⟩ := F.ex
  rcases hD with ⟨-, rfl⟩ | ⟨e, -⟩
  · exact ⟨fun s us ws _ l1 l2 => .of_eq (h kV doc pm an cdv ct us ws l1 l2), rel⟩
  · exact absurd rfl e
/-- a def's code object -/
theorem code_of {p : Str × Option Str} {st : Stmt} {z : Str} (F : FnP K z st (He.fAd K p) fd) : fd.code = .ref (He.cT K p).1 := by
  obtain ⟨oc, od, dV, kV, doc, pm, an, cdv, ct, osl, rfl, lk, hcd, -, -⟩ := F.ex
  obtain ⟨c, rfl⟩ := He.codeIn_ref hcd
  show Value.ref c = .ref (He.codeOf K p)
  rw [He.codeOf_eq lk rfl]
end
end K0
/-! the bundles, by what the head tells -/
namespace K0
open PySem PySem.Spec PyProof.Rows L2 Kx RZ
abbrev Says (w : World) (h : Heap) (K : PySem.W.Frag) : Prop := He.SaysX fa fn [] tf ex w h K
section
variable {P : Program} {w : World} {K : PySem.W.Frag} {h : Heap} {mg : Str → Option Value}
theorem mg_of (X : K.In h) (G : h.Ns mainGlobals mg) (c : Says w h K) : Mg mg where
  z_KeyError := He.free_ok X G (c.t.d.fact 44 (f := .free "KeyError") rfl)
  z_ValueError := He.free_ok X G (c.t.d.fact 45 (f := .free "ValueError") rfl)
  z_abs := He.free_ok X G (c.t.d.fact 46 (f := .free "abs") rfl)
  z_bool := He.free_ok X G (c.t.d.fact 47 (f := .free "bool") rfl)
  z_enumerate := He.free_ok X G (c.t.d.fact 48 (f := .free "enumerate") rfl)
  z_int := He.free_ok X G (c.t.d.fact 49 (f := .free "int") rfl)
  z_isinstance := He.free_ok X G (c.t.d.fact 50 (f := .free "isinstance") rfl)
  z_len := He.free_ok X G (c.t.d.fact 51 (f := .free "len") rfl)
  z_list := He.free_ok X G (c.t.d.fact 52 (f := .free "list") rfl)
  z_range := He.free_ok X G (c.t.d.fact 53 (f := .free "range") rfl)
  z_repr := He.free_ok X G (c.t.d.fact 54 (f := .free "repr") rfl)
  z_sorted := He.free_ok X G (c.t.d.fact 55 (f := .free "sorted") rfl)
  z_str := He.free_ok X G (c.t.d.fact 56 (f := .free "str") rfl)
  z_tuple := He.free_ok X G (c.t.d.fact 57 (f := .free "tuple") rfl)
  z_zip := He.free_ok X G (c.t.d.fact 58 (f := .free "zip") rfl)
  g_DEEDS_MOST := He.int_ok X G (c.t.d.fact 59 (f := .int "DEEDS_MOST" 4) rfl)
  g_STATES_MOST := He.int_ok X G (c.t.d.fact 60 (f := .int "STATES_MOST" 8) rfl)
  g_ROW_MOST := He.int_ok X G (c.t.d.fact 61 (f := .int "ROW_MOST" 400) rfl)
  g_ROUND_MOST := He.int_ok X G (c.t.d.fact 62 (f := .int "ROUND_MOST" 60) rfl)
  g_REST_MOST := He.int_ok X G (c.t.d.fact 63 (f := .int "REST_MOST" 6) rfl)
theorem clsC_of (X : K.In h) (G : h.Ns mainGlobals mg) (c : Says w h K) : ClsC K mg (He.ga K "Counters") where
  at_ := (He.glo_ok X G (c.t.d.fact 42 (f := .glo "Counters") rfl))
  cl := He.cls_ok (c.t.d.fact 64 (f := .cls "Counters") rfl)
  n1 := (He.noat_ok (c.t.d.fact 68 (f := .noat "Counters" "rounds") rfl))
  n2 := (He.noat_ok (c.t.d.fact 69 (f := .noat "Counters" "rests") rfl))
  isi := isiB_ok (ex_at c.more 27 rfl)
  yes := kitB_ok (ex_at c.more 28 rfl)
  notT := kitB_ok (ex_at c.more 29 rfl)
  first := (ex_at c.more 30 rfl)
theorem clsM_of (X : K.In h) (G : h.Ns mainGlobals mg) (c : Says w h K) : ClsM K mg (He.ga K "Machine") where
  at_ := (He.glo_ok X G (c.t.d.fact 43 (f := .glo "Machine") rfl))
  cl := He.cls_ok (c.t.d.fact 65 (f := .cls "Machine") rfl)
  n1 := (He.noat_ok (c.t.d.fact 70 (f := .noat "Machine" "deeds") rfl))
  n2 := (He.noat_ok (c.t.d.fact 71 (f := .noat "Machine" "states") rfl))
  n3 := (He.noat_ok (c.t.d.fact 72 (f := .noat "Machine" "tables") rfl))
  isi := isiB_ok (ex_at c.more 31 rfl)
  yes := kitB_ok (ex_at c.more 32 rfl)
  notT := kitB_ok (ex_at c.more 33 rfl)
  first := (ex_at c.more 34 rfl)
theorem hd_of (c : Says w h K) : Hd K (adOf K) (He.ga K "WitnessError") where
  kM := kindB_ok (ex_at c.more 9 rfl) (ex_at c.more 35 rfl) rfl
  kR := kindB_ok (ex_at c.more 10 rfl) (ex_at c.more 36 rfl) rfl
  kS := kindB_ok (ex_at c.more 11 rfl) (ex_at c.more 37 rfl) rfl
  kT := kindB_ok (ex_at c.more 12 rfl) (ex_at c.more 38 rfl) rfl
  kF := kindB_ok (ex_at c.more 13 rfl) (ex_at c.more 39 rfl) rfl
  kG := kindB_ok (ex_at c.more 14 rfl) (ex_at c.more 40 rfl) rfl
  kO := kindB_ok (ex_at c.more 15 rfl) (ex_at c.more 41 rfl) rfl
  kD := kindB_ok (ex_at c.more 17 rfl) (ex_at c.more 43 rfl) rfl
  kN := kindB_ok (ex_at c.more 16 rfl) (ex_at c.more 42 rfl) rfl
  nM := (He.noat_ok (c.t.d.fact 73 (f := .noat "BadMachine" "at") rfl))
  nR := (He.noat_ok (c.t.d.fact 74 (f := .noat "BadRow" "at") rfl))
  nS := (He.noat_ok (c.t.d.fact 75 (f := .noat "BadShowing" "at") rfl))
  nT := (He.noat_ok (c.t.d.fact 76 (f := .noat "BadText" "at") rfl))
  nF := (He.noat_ok (c.t.d.fact 77 (f := .noat "Refused" "at") rfl))
  nG := (He.noat_ok (c.t.d.fact 78 (f := .noat "TooGreat" "most") rfl))
  nO1 := (He.noat_ok (c.t.d.fact 79 (f := .noat "Forgets" "deed") rfl))
  nO2 := (He.noat_ok (c.t.d.fact 80 (f := .noat "Forgets" "one") rfl))
  nO3 := (He.noat_ok (c.t.d.fact 81 (f := .noat "Forgets" "other") rfl))
  nD := (He.noat_ok (c.t.d.fact 83 (f := .noat "NoDeed" "deed") rfl))
  nN := (He.noat_ok (c.t.d.fact 82 (f := .noat "NoState" "state") rfl))
  mM := exaB_ok (ex_at c.more 44 rfl)
  mR := exaB_ok (ex_at c.more 45 rfl)
  mS := exaB_ok (ex_at c.more 46 rfl)
  mT := exaB_ok (ex_at c.more 47 rfl)
  mF := exaB_ok (ex_at c.more 48 rfl)
  mG0 := exaB_ok (ex_at c.more 49 rfl)
  mG1 := exaB_ok (ex_at c.more 50 rfl)
  mO0 := exaB_ok (ex_at c.more 51 rfl)
  mO1 := exaB_ok (ex_at c.more 52 rfl)
  mO2 := exaB_ok (ex_at c.more 53 rfl)
  mD0 := exaB_ok (ex_at c.more 54 rfl)
  mD1 := exaB_ok (ex_at c.more 55 rfl)
  mD2 := exaB_ok (ex_at c.more 56 rfl)
  mD3 := exaB_ok (ex_at c.more 57 rfl)
  mN0 := exaB_ok (ex_at c.more 58 rfl)
  mN1 := exaB_ok (ex_at c.more 59 rfl)
  mN2 := exaB_ok (ex_at c.more 60 rfl)
  mN3 := exaB_ok (ex_at c.more 61 rfl)
  mN4 := exaB_ok (ex_at c.more 62 rfl)
end
section
variable {P : Program} {w : World} {K : PySem.W.Frag} {mg : Str → Option Value} {base : Heap} {x f qual : Str} {C : Addr} {fd : FuncData}
theorem errN_of (at_ : mg x = some (.ref C)) (cls : EvC K C) (ini : iniB K C = true) (ok : FnOk P w K mg base CX0 1 (He.ma K C "__init__") fd ["self", f] (spKeep K C f)) (b : Binds K fd ["self", f] [])
    (kb : KBn K fd ["self", f] 1 [f] (fun us ws => us ++ ws) (fun vs zs => vs ++ zs)) : ErrN P w K mg base 1 x f C :=
  ⟨at_, cls, _, fd, (iniB_ok ini).1, (iniB_ok ini).2, b, ok, fun s' a ws X l => kb.to s' [.ref a] ws X rfl l⟩
theorem errF_of {g h : Str} (at_ : mg x = some (.ref C)) (cls : OexC K C) (ini : iniB K C = true) (ok : FnOk P w K mg base CX0 1 (He.ma K C "__init__") fd ["self", f, g, h] (spKeep3 K C f g h)) (b : Binds K fd ["self", f, g, h] [])
    (kb : KBn K fd ["self", f, g, h] 1 [h, f, g] (fun us ws => us ++ [ws.getD 1 .none, ws.getD 2 .none, ws.getD 0 .none]) (fun vs zs => vs ++ [zs.getD 1 .non, zs.getD 2 .non, zs.getD 0 .non])) : ErrF P w K mg base 1 x f g h C :=
  ⟨at_, cls, _, fd, (iniB_ok ini).1, (iniB_ok ini).2, b, ok, fun s' a ws X l => kb.to s' [.ref a] ws X rfl l⟩
end
theorem sc_BadMachine : FnScope ["self", "at"] ["self", "at"] (defScope s_BadMachine_init) := ⟨rfl, rfl, rfl, by decide +kernel, rfl, by decide +kernel, by decide +kernel⟩
theorem err_BadMachine {P : Program} {w w' : World} {K : PySem.W.Frag} {h base : Heap} {mg : Str → Option Value} (X : K.In h) (G : h.Ns mainGlobals mg) (c : Says w' h K) : ErrN P w K mg base 1 "BadMachine" "at" (He.ga K "BadMachine") := by
  obtain ⟨fd, F⟩ := c.t.d.def_ 32 rfl
  exact errN_of (He.glo_ok X G (c.t.d.fact 33 (f := .glo "BadMachine") rfl)) (EvC.of (oexB_ok (ex_at c.more 0 rfl))) (ex_at c.more 18 rfl) (ok_keep F (oexB_ok (ex_at c.more 0 rfl)) (He.noat_ok (c.t.d.fact 73 (f := .noat "BadMachine" "at") rfl)) sc_BadMachine (by decide) (by decide) (by decide +kernel) (by decide +kernel)) (F.bindsN fun _ _ _ _ _ _ us hl => match us, hl with | [_, _], _ => rfl)
    (kbn_of F (fun r1 r2 => r1.append r2) fun _ _ _ _ _ _ us ws hl hm => match us, ws, hl, hm with | [_], [_], _, _ => rfl)
theorem sc_BadRow : FnScope ["self", "at"] ["self", "at"] (defScope s_BadRow_init) := ⟨rfl, rfl, rfl, by decide +kernel, rfl, by decide +kernel, by decide +kernel⟩
theorem err_BadRow {P : Program} {w w' : World} {K : PySem.W.Frag} {h base : Heap} {mg : Str → Option Value} (X : K.In h) (G : h.Ns mainGlobals mg) (c : Says w' h K) : ErrN P w K mg base 1 "BadRow" "at" (He.ga K "BadRow") := by
  obtain ⟨fd, F⟩ := c.t.d.def_ 33 rfl
  exact errN_of (He.glo_ok X G (c.t.d.fact 34 (f := .glo "BadRow") rfl)) (EvC.of (oexB_ok (ex_at c.more 1 rfl))) (ex_at c.more 19 rfl) (ok_keep F (oexB_ok (ex_at c.more 1 rfl)) (He.noat_ok (c.t.d.fact 74 (f := .noat "BadRow" "at") rfl)) sc_BadRow (by decide) (by decide) (by decide +kernel) (by decide +kernel)) (F.bindsN fun _ _ _ _ _ _ us hl => match us, hl with | [_, _], _ => rfl)
    (kbn_of F (fun r1 r2 => r1.append r2) fun _ _ _ _ _ _ us ws hl hm => match us, ws, hl, hm with | [_], [_], _, _ => rfl)
theorem sc_BadShowing : FnScope ["self", "at"] ["self", "at"] (defScope s_BadShowing_init) := ⟨rfl, rfl, rfl, by decide +kernel, rfl, by decide +kernel, by decide +kernel⟩
theorem err_BadShowing {P : Program} {w w' : World} {K : PySem.W.Frag} {h base : Heap} {mg : Str → Option Value} (X : K.In h) (G : h.Ns mainGlobals mg) (c : Says w' h K) : ErrN P w K mg base 1 "BadShowing" "at" (He.ga K "BadShowing") := by
  obtain ⟨fd, F⟩ := c.t.d.def_ 34 rfl
  exact errN_of (He.glo_ok X G (c.t.d.fact 35 (f := .glo "BadShowing") rfl)) (EvC.of (oexB_ok (ex_at c.more 2 rfl))) (ex_at c.more 20 rfl) (ok_keep F (oexB_ok (ex_at c.more 2 rfl)) (He.noat_ok (c.t.d.fact 75 (f := .noat "BadShowing" "at") rfl)) sc_BadShowing (by decide) (by decide) (by decide +kernel) (by decide +kernel)) (F.bindsN fun _ _ _ _ _ _ us hl => match us, hl with | [_, _], _ => rfl)
    (kbn_of F (fun r1 r2 => r1.append r2) fun _ _ _ _ _ _ us ws hl hm => match us, ws, hl, hm with | [_], [_], _, _ => rfl)
theorem sc_BadText : FnScope ["self", "at"] ["self", "at"] (defScope s_BadText_init) := ⟨rfl, rfl, rfl, by decide +kernel, rfl, by decide +kernel, by decide +kernel⟩
theorem err_BadText {P : Program} {w w' : World} {K : PySem.W.Frag} {h base : Heap} {mg : Str → Option Value} (X : K.In h) (G : h.Ns mainGlobals mg) (c : Says w' h K) : ErrN P w K mg base 1 "BadText" "at" (He.ga K "BadText") := by
  obtain ⟨fd, F⟩ := c.t.d.def_ 35 rfl
  exact errN_of (He.glo_ok X G (c.t.d.fact 36 (f := .glo "BadText") rfl)) (EvC.of (oexB_ok (ex_at c.more 3 rfl))) (ex_at c.more 21 rfl) (ok_keep F (oexB_ok (ex_at c.more 3 rfl)) (He.noat_ok (c.t.d.fact 76 (f := .noat "BadText" "at") rfl)) sc_BadText (by decide) (by decide) (by decide +kernel) (by decide +kernel)) (F.bindsN fun _ _ _ _ _ _ us hl => match us, hl with | [_, _], _ => rfl)
    (kbn_of F (fun r1 r2 => r1.append r2) fun _ _ _ _ _ _ us ws hl hm => match us, ws, hl, hm with | [_], [_], _, _ => rfl)
theorem sc_Refused : FnScope ["self", "at"] ["self", "at"] (defScope s_Refused_init) := ⟨rfl, rfl, rfl, by decide +kernel, rfl, by decide +kernel, by decide +kernel⟩
theorem err_Refused {P : Program} {w w' : World} {K : PySem.W.Frag} {h base : Heap} {mg : Str → Option Value} (X : K.In h) (G : h.Ns mainGlobals mg) (c : Says w' h K) : ErrN P w K mg base 1 "Refused" "at" (He.ga K "Refused") := by
  obtain ⟨fd, F⟩ := c.t.d.def_ 36 rfl
  exact errN_of (He.glo_ok X G (c.t.d.fact 37 (f := .glo "Refused") rfl)) (EvC.of (oexB_ok (ex_at c.more 4 rfl))) (ex_at c.more 22 rfl) (ok_keep F (oexB_ok (ex_at c.more 4 rfl)) (He.noat_ok (c.t.d.fact 77 (f := .noat "Refused" "at") rfl)) sc_Refused (by decide) (by decide) (by decide +kernel) (by decide +kernel)) (F.bindsN fun _ _ _ _ _ _ us hl => match us, hl with | [_, _], _ => rfl)
    (kbn_of F (fun r1 r2 => r1.append r2) fun _ _ _ _ _ _ us ws hl hm => match us, ws, hl, hm with | [_], [_], _, _ => rfl)
theorem sc_TooGreat : FnScope ["self", "most"] ["self", "most"] (defScope s_TooGreat_init) := ⟨rfl, rfl, rfl, by decide +kernel, rfl, by decide +kernel, by decide +kernel⟩
theorem err_TooGreat {P : Program} {w w' : World} {K : PySem.W.Frag} {h base : Heap} {mg : Str → Option Value} (X : K.In h) (G : h.Ns mainGlobals mg) (c : Says w' h K) : ErrN P w K mg base 1 "TooGreat" "most" (He.ga K "TooGreat") := by
  obtain ⟨fd, F⟩ := c.t.d.def_ 37 rfl
  exact errN_of (He.glo_ok X G (c.t.d.fact 38 (f := .glo "TooGreat") rfl)) (EvC.of (oexB_ok (ex_at c.more 5 rfl))) (ex_at c.more 23 rfl) (ok_keep F (oexB_ok (ex_at c.more 5 rfl)) (He.noat_ok (c.t.d.fact 78 (f := .noat "TooGreat" "most") rfl)) sc_TooGreat (by decide) (by decide) (by decide +kernel) (by decide +kernel)) (F.bindsN fun _ _ _ _ _ _ us hl => match us, hl with | [_, _], _ => rfl)
    (kbn_of F (fun r1 r2 => r1.append r2) fun _ _ _ _ _ _ us ws hl hm => match us, ws, hl, hm with | [_], [_], _, _ => rfl)
theorem sc_Forgets : FnScope ["self", "deed", "one", "other"] ["self", "deed", "one", "other"] (defScope s_Forgets_init) := ⟨rfl, rfl, rfl, by decide +kernel, rfl, by decide +kernel, by decide +kernel⟩
theorem err_Forgets {P : Program} {w w' : World} {K : PySem.W.Frag} {h base : Heap} {mg : Str → Option Value} (X : K.In h) (G : h.Ns mainGlobals mg) (c : Says w' h K) : ErrF P w K mg base 1 "Forgets" "deed" "one" "other" (He.ga K "Forgets") := by
  obtain ⟨fd, F⟩ := c.t.d.def_ 38 rfl
  exact errF_of (He.glo_ok X G (c.t.d.fact 39 (f := .glo "Forgets") rfl)) (oexB_ok (ex_at c.more 6 rfl)) (ex_at c.more 24 rfl) (ok_keep3 F (oexB_ok (ex_at c.more 6 rfl)) (He.noat_ok (c.t.d.fact 79 (f := .noat "Forgets" "deed") rfl)) (He.noat_ok (c.t.d.fact 80 (f := .noat "Forgets" "one") rfl)) (He.noat_ok (c.t.d.fact 81 (f := .noat "Forgets" "other") rfl)) sc_Forgets (by decide) (by decide) (by decide) (by decide) (by decide) (by decide) (by decide +kernel) (by decide +kernel) (by decide +kernel) (by decide +kernel)) (F.bindsN fun _ _ _ _ _ _ us hl => match us, hl with | [_, _, _, _], _ => rfl)
    (kbn_of F (fun r1 r2 => r1.append (.cons (vals_getD 1 r2) (.cons (vals_getD 2 r2) (.cons (vals_getD 0 r2) .nil)))) fun _ _ _ _ _ _ us ws hl hm => match us, ws, hl, hm with | [_], [_, _, _], _, _ => rfl)
theorem sc_NoState : FnScope ["self", "state"] ["self", "state"] (defScope s_NoState_init) := ⟨rfl, rfl, rfl, by decide +kernel, rfl, by decide +kernel, by decide +kernel⟩
theorem err_NoState {P : Program} {w w' : World} {K : PySem.W.Frag} {h base : Heap} {mg : Str → Option Value} (X : K.In h) (G : h.Ns mainGlobals mg) (c : Says w' h K) : ErrN P w K mg base 1 "NoState" "state" (He.ga K "NoState") := by
  obtain ⟨fd, F⟩ := c.t.d.def_ 39 rfl
  exact errN_of (He.glo_ok X G (c.t.d.fact 40 (f := .glo "NoState") rfl)) (EvC.ofKey (keyB_ok (ex_at c.more 7 rfl))) (ex_at c.more 25 rfl) (ok_keepK F (keyB_ok (ex_at c.more 7 rfl)) (He.noat_ok (c.t.d.fact 82 (f := .noat "NoState" "state") rfl)) sc_NoState (by decide) (by decide) (by decide +kernel) (by decide +kernel)) (F.bindsN fun _ _ _ _ _ _ us hl => match us, hl with | [_, _], _ => rfl)
    (kbn_of F (fun r1 r2 => r1.append r2) fun _ _ _ _ _ _ us ws hl hm => match us, ws, hl, hm with | [_], [_], _, _ => rfl)
theorem sc_NoDeed : FnScope ["self", "deed"] ["self", "deed"] (defScope s_NoDeed_init) := ⟨rfl, rfl, rfl, by decide +kernel, rfl, by decide +kernel, by decide +kernel⟩
theorem err_NoDeed {P : Program} {w w' : World} {K : PySem.W.Frag} {h base : Heap} {mg : Str → Option Value} (X : K.In h) (G : h.Ns mainGlobals mg) (c : Says w' h K) : ErrN P w K mg base 1 "NoDeed" "deed" (He.ga K "NoDeed") := by
  obtain ⟨fd, F⟩ := c.t.d.def_ 40 rfl
  exact errN_of (He.glo_ok X G (c.t.d.fact 41 (f := .glo "NoDeed") rfl)) (EvC.ofKey (keyB_ok (ex_at c.more 8 rfl))) (ex_at c.more 26 rfl) (ok_keepK F (keyB_ok (ex_at c.more 8 rfl)) (He.noat_ok (c.t.d.fact 83 (f := .noat "NoDeed" "deed") rfl)) sc_NoDeed (by decide) (by decide) (by decide +kernel) (by decide +kernel)) (F.bindsN fun _ _ _ _ _ _ us hl => match us, hl with | [_, _], _ => rfl)
    (kbn_of F (fun r1 r2 => r1.append r2) fun _ _ _ _ _ _ us ws hl hm => match us, ws, hl, hm with | [_], [_], _, _ => rfl)
theorem er_of {P : Program} {w w' : World} {K : PySem.W.Frag} {h base : Heap} {mg : Str → Option Value} (X : K.In h) (G : h.Ns mainGlobals mg) (c : Says w' h K) : Er P w K mg base (adOf K) where
  BadMachine := err_BadMachine X G c
  BadRow := err_BadRow X G c
  BadShowing := err_BadShowing X G c
  BadText := err_BadText X G c
  Refused := err_Refused X G c
  TooGreat := err_TooGreat X G c
  Forgets := err_Forgets X G c
  NoState := err_NoState X G c
  NoDeed := err_NoDeed X G c
section
variable {P : Program} {w : World} {K : PySem.W.Frag} {mg : Str → Option Value} {base : Heap} {x qual : Str} {params : Arguments} {body : List Stmt} {scope : Scope} {f : Addr} {fd : FuncData} {ps ks : List Str} {k n : Nat} {CX : CXT} {sp : Sp}
/-- a def by its name -/
theorem cal_of (at_ : mg x = some (.ref f)) (F : FunD K x qual params body scope [] [] f fd) (ok : FnOk P w K mg base CX k f fd ps sp) (h : ∀ (kV doc pm : Value) (an : Option Addr) (cdv ct : Value) (us : List Value), us.length = ps.length → bindArgs (PySem.W.fnOf x qual params body scope .none kV doc pm an cdv ct) ⟨us, []⟩ = pure (ps.zip us)) :
    Cal P w K mg base CX k x ps sp := ⟨_, _, at_, F.kp, F.bindsN h, ok⟩
theorem calN_of {g : List Value → List Value → List Value} {gV : List V → List V → List V} (at_ : mg x = some (.ref f)) (F : FunD K x qual params body scope [] [] f fd) (ok : FnOk P w K mg base CX k f fd ps sp) (rel : ∀ {vs us zs ws}, Vals vs us → Vals zs ws → Vals (gV vs zs) (g us ws))
    (h : ∀ (kV doc pm : Value) (an : Option Addr) (cdv ct : Value) (us ws : List Value), us.length = n → ws.length = ks.length → bindArgs (PySem.W.fnOf x qual params body scope .none kV doc pm an cdv ct) ⟨us, ks.zip ws⟩ = pure (ps.zip (g us ws))) : CalN P w K mg base CX k n x ps ks gV sp :=
  ⟨_, _, g, at_, F.kp, kbn_of F rel h, ok⟩
end
section
variable {P : Program} {w w' : World} {K : PySem.W.Frag} {h base : Heap} {mg : Str → Option Value}
theorem fns_of (X : K.In h) (G : h.Ns mainGlobals mg) (c : Says w' h K) : Fns P w K mg base (adOf K) (He.ga K "Counters") (He.ga K "Machine") := by
  have T := mg_of X G c
  have TC := clsC_of X G c
  have TM := clsM_of X G c
  have R : Er P w K mg base (adOf K) := er_of X G c
  obtain ⟨fdn, Fn⟩ := c.t.d.def_ 0 (d := dF "is_number" s_is_number) rfl
  have fn : FnOk P w K mg base CX0 1 (He.ga K "is_number") fdn ["value"] (spNumber K) := ok_is_number Fn T
  have cn : Cal P w K mg base CX0 1 "is_number" ["value"] (spNumber K) := cal_of (He.glo_ok X G (c.t.d.fact 0 (f := .glo "is_number") rfl)) Fn fn fun _ _ _ _ _ _ us hl => match us, hl with | [_], _ => rfl
  obtain ⟨fdb, Fb⟩ := c.t.d.def_ 1 (d := dF "is_below" s_is_below) rfl
  have fb : FnOk P w K mg base CX0 2 (He.ga K "is_below") fdb ["value", "limit"] (spBelow K) := ok_is_below Fb T cn
  have cb : Cal P w K mg base CX0 2 "is_below" ["value", "limit"] (spBelow K) := cal_of (He.glo_ok X G (c.t.d.fact 1 (f := .glo "is_below") rfl)) Fb fb fun _ _ _ _ _ _ us hl => match us, hl with | [_, _], _ => rfl
  obtain ⟨fds, Fs⟩ := c.t.d.def_ 2 (d := dF "is_sequence" s_is_sequence) rfl
  have fs : FnOk P w K mg base CX0 1 (He.ga K "is_sequence") fds ["value", "least", "most"] (spSeq K) := ok_is_sequence Fs T
  have cs : Cal P w K mg base CX0 1 "is_sequence" ["value", "least", "most"] (spSeq K) := cal_of (He.glo_ok X G (c.t.d.fact 2 (f := .glo "is_sequence") rfl)) Fs fs fun _ _ _ _ _ _ us hl => match us, hl with | [_, _, _], _ => rfl
  obtain ⟨fdl, Fl⟩ := c.t.d.def_ 3 (d := dF "first_not_below" s_first_not_below) rfl
  have fl : FnOk P w K mg base CX0 3 (He.ga K "first_not_below") fdl ["values", "limit"] (spFnb K) := ok_first_not_below Fl T cb
  have cl : Cal P w K mg base CX0 3 "first_not_below" ["values", "limit"] (spFnb K) := cal_of (He.glo_ok X G (c.t.d.fact 3 (f := .glo "first_not_below") rfl)) Fl fl fun _ _ _ _ _ _ us hl => match us, hl with | [_, _], _ => rfl
  obtain ⟨fdr0, Fr0⟩ := c.t.d.def_ 4 (d := dF "row_of" s_row_of) rfl
  have fr0 : FnOk P w K mg base (L2N.CX P w) 4 (He.ga K "row_of") fdr0 ["value", "deeds"] (spRowOf K (adOf K)) := ok_row_of Fr0 T R cs cl
  have cr0 : Cal P w K mg base (L2N.CX P w) 4 "row_of" ["value", "deeds"] (spRowOf K (adOf K)) := cal_of (He.glo_ok X G (c.t.d.fact 4 (f := .glo "row_of") rfl)) Fr0 fr0 fun _ _ _ _ _ _ us hl => match us, hl with | [_, _], _ => rfl
  obtain ⟨fdfi, Ffi⟩ := c.t.d.def_ 6 (d := dF "is_finite" s_is_finite) rfl
  have ffi : FnOk P w K mg base CX0 1 (He.ga K "is_finite") fdfi ["counters"] (spFinite K (He.ga K "Counters")) := ok_is_finite Ffi T TC
  have cfi : Cal P w K mg base CX0 1 "is_finite" ["counters"] (spFinite K (He.ga K "Counters")) := cal_of (He.glo_ok X G (c.t.d.fact 6 (f := .glo "is_finite") rfl)) Ffi ffi fun _ _ _ _ _ _ us hl => match us, hl with | [_], _ => rfl
  obtain ⟨fdca, Fca⟩ := c.t.d.def_ 7 (d := dF "_can_show" s_can_show) rfl
  have fca : FnOk P w K mg base CX0 3 (He.ga K "_can_show") fdca ["counters", "kind", "value"] (spCanShow K (He.ga K "Counters")) := ok_can_show Fca T TC cn cb
  have cca : Cal P w K mg base CX0 3 "_can_show" ["counters", "kind", "value"] (spCanShow K (He.ga K "Counters")) := cal_of (He.glo_ok X G (c.t.d.fact 7 (f := .glo "_can_show") rfl)) Fca fca fun _ _ _ _ _ _ us hl => match us, hl with | [_, _, _], _ => rfl
  obtain ⟨fdck, Fck⟩ := c.t.d.def_ 8 (d := dF "check_showing" s_check_showing) rfl
  have fck : FnOk P w K mg base (L2N.CX P w) 4 (He.ga K "check_showing") fdck ["counters", "value"] (spCheck K (adOf K) (He.ga K "Counters")) := ok_check Fck T R TC cs cca
  have cck : Cal P w K mg base (L2N.CX P w) 4 "check_showing" ["counters", "value"] (spCheck K (adOf K) (He.ga K "Counters")) := cal_of (He.glo_ok X G (c.t.d.fact 8 (f := .glo "check_showing") rfl)) Fck fck fun _ _ _ _ _ _ us hl => match us, hl with | [_, _], _ => rfl
  obtain ⟨fdsz, Fsz⟩ := c.t.d.def_ 9 (d := dF "_sizes" s_sizes) rfl
  have fsz : FnOk P w K mg base (L2N.CX P w) 3 (He.ga K "_sizes") fdsz ["counters"] (spSizes K (adOf K) (He.ga K "Counters")) := ok_sizes Fsz T R TC cfi
  have csz : Cal P w K mg base (L2N.CX P w) 3 "_sizes" ["counters"] (spSizes K (adOf K) (He.ga K "Counters")) := cal_of (He.glo_ok X G (c.t.d.fact 9 (f := .glo "_sizes") rfl)) Fsz fsz fun _ _ _ _ _ _ us hl => match us, hl with | [_], _ => rfl
  obtain ⟨fdsm, Fsm⟩ := c.t.d.def_ 10 (d := dF "showings_many" s_showings_many) rfl
  have fsm : FnOk P w K mg base (L2N.CX P w) 4 (He.ga K "showings_many") fdsm ["counters"] (spMany K (adOf K) (He.ga K "Counters")) := ok_many Fsm T csz
  have csm : Cal P w K mg base (L2N.CX P w) 4 "showings_many" ["counters"] (spMany K (adOf K) (He.ga K "Counters")) := cal_of (He.glo_ok X G (c.t.d.fact 10 (f := .glo "showings_many") rfl)) Fsm fsm fun _ _ _ _ _ _ us hl => match us, hl with | [_], _ => rfl
  obtain ⟨fdal, Fal⟩ := c.t.d.def_ 11 (d := dF "all_showings" s_all_showings) rfl
  have fal : FnOk P w K mg base (L2N.CX P w) 5 (He.ga K "all_showings") fdal ["counters", "most"] (spAll K (adOf K) (He.ga K "Counters")) := ok_all Fal T R csm csz
  obtain ⟨fdns, Fns⟩ := c.t.d.def_ 13 (d := dF "need_state" s_need_state) rfl
  have fns : FnOk P w K mg base (L2N.CX P w) 3 (He.ga K "need_state") fdns ["machine", "state"] (spState K (adOf K) (He.ga K "Machine")) := ok_need_state Fns T R TM cb
  have cns : Cal P w K mg base (L2N.CX P w) 3 "need_state" ["machine", "state"] (spState K (adOf K) (He.ga K "Machine")) := cal_of (He.glo_ok X G (c.t.d.fact 13 (f := .glo "need_state") rfl)) Fns fns fun _ _ _ _ _ _ us hl => match us, hl with | [_, _], _ => rfl
  obtain ⟨fdnd, Fnd⟩ := c.t.d.def_ 14 (d := dF "need_deed" s_need_deed) rfl
  have fnd : FnOk P w K mg base (L2N.CX P w) 3 (He.ga K "need_deed") fdnd ["machine", "deed"] (spDeed K (adOf K) (He.ga K "Machine")) := ok_need_deed Fnd T R TM cb
  have cnd : Cal P w K mg base (L2N.CX P w) 3 "need_deed" ["machine", "deed"] (spDeed K (adOf K) (He.ga K "Machine")) := cal_of (He.glo_ok X G (c.t.d.fact 14 (f := .glo "need_deed") rfl)) Fnd fnd fun _ _ _ _ _ _ us hl => match us, hl with | [_, _], _ => rfl
  obtain ⟨fdcr, Fcr⟩ := c.t.d.def_ 15 (d := dF "check_row" s_check_row) rfl
  have fcr : FnOk P w K mg base (L2N.CX P w) 5 (He.ga K "check_row") fdcr ["machine", "value"] (spRow K (adOf K) (He.ga K "Machine")) := ok_check_row Fcr T TM cr0
  have ccr : Cal P w K mg base (L2N.CX P w) 5 "check_row" ["machine", "value"] (spRow K (adOf K) (He.ga K "Machine")) := cal_of (He.glo_ok X G (c.t.d.fact 15 (f := .glo "check_row") rfl)) Fcr fcr fun _ _ _ _ _ _ us hl => match us, hl with | [_, _], _ => rfl
  obtain ⟨fdco, Fco⟩ := c.t.d.def_ 16 (d := dF "in_coming_order" s_in_coming_order) rfl
  have fco : FnOk P w K mg base (L2N.CX P w) 5 (He.ga K "in_coming_order") fdco ["machine", "first"] (spComing K (adOf K) (He.ga K "Machine")) := ok_coming Fco T TM cns
  have cco : Cal P w K mg base (L2N.CX P w) 5 "in_coming_order" ["machine", "first"] (spComing K (adOf K) (He.ga K "Machine")) := cal_of (He.glo_ok X G (c.t.d.fact 16 (f := .glo "in_coming_order") rfl)) Fco fco fun _ _ _ _ _ _ us hl => match us, hl with | [_, _], _ => rfl
  obtain ⟨fdrc, Frc⟩ := c.t.d.def_ 17 (d := dF "reached" s_reached) rfl
  have frc : FnOk P w K mg base (L2N.CX P w) 6 (He.ga K "reached") fdrc ["machine", "first"] (spReached K (adOf K) (He.ga K "Machine")) := ok_reached Frc T cco
  have crc : Cal P w K mg base (L2N.CX P w) 6 "reached" ["machine", "first"] (spReached K (adOf K) (He.ga K "Machine")) := cal_of (He.glo_ok X G (c.t.d.fact 17 (f := .glo "reached") rfl)) Frc frc fun _ _ _ _ _ _ us hl => match us, hl with | [_, _], _ => rfl
  obtain ⟨fdfo, Ffo⟩ := c.t.d.def_ 18 (d := dF "forgotten" s_forgotten) rfl
  have ffo : FnOk P w K mg base (L2N.CX P w) 7 (He.ga K "forgotten") fdfo ["machine", "first"] (spForgot K (He.ga K "Machine")) := ok_forgotten Ffo T TM crc
  have cfo : Cal P w K mg base (L2N.CX P w) 7 "forgotten" ["machine", "first"] (spForgot K (He.ga K "Machine")) := cal_of (He.glo_ok X G (c.t.d.fact 18 (f := .glo "forgotten") rfl)) Ffo ffo fun _ _ _ _ _ _ us hl => match us, hl with | [_, _], _ => rfl
  obtain ⟨fdne, Fne⟩ := c.t.d.def_ 19 (d := dF "need_exchanges" s_need_exchanges) rfl
  have fne : FnOk P w K mg base (L2N.CX P w) 8 (He.ga K "need_exchanges") fdne ["machine", "first"] (spExch K (adOf K) (He.ga K "Machine")) := ok_exch Fne T R cfo
  have cne : Cal P w K mg base (L2N.CX P w) 8 "need_exchanges" ["machine", "first"] (spExch K (adOf K) (He.ga K "Machine")) := cal_of (He.glo_ok X G (c.t.d.fact 19 (f := .glo "need_exchanges") rfl)) Fne fne fun _ _ _ _ _ _ us hl => match us, hl with | [_, _], _ => rfl
  obtain ⟨fdnt, Fnt⟩ := c.t.d.def_ 20 (d := dF "_need_text" s_need_text) rfl
  have fnt : FnOk P w K mg base (L2N.CX P w) 4 (He.ga K "_need_text") fdnt ["text"] (spText K) := ok_need_text Fnt T R
  have cnt : Cal P w K mg base (L2N.CX P w) 4 "_need_text" ["text"] (spText K) := cal_of (He.glo_ok X G (c.t.d.fact 20 (f := .glo "_need_text") rfl)) Fnt fnt fun _ _ _ _ _ _ us hl => match us, hl with | [_], _ => rfl
  obtain ⟨fdrb, Frb⟩ := c.t.d.def_ 21 (d := dF "read_below" s_read_below) rfl
  have frb : FnOk P w K mg base CX0 1 (He.ga K "read_below") fdrb ["words", "limit"] (spBelowW K) := ok_read_below Frb T
  have crb : Cal P w K mg base CX0 1 "read_below" ["words", "limit"] (spBelowW K) := cal_of (He.glo_ok X G (c.t.d.fact 21 (f := .glo "read_below") rfl)) Frb frb fun _ _ _ _ _ _ us hl => match us, hl with | [_, _], _ => rfl
  obtain ⟨fdrr, Frr⟩ := c.t.d.def_ 22 (d := dF "read_row" s_read_row) rfl
  have frr : FnOk P w K mg base (L2N.CX P w) 5 (He.ga K "read_row") fdrr ["machine", "text"] (spReadRow K (adOf K) (He.ga K "Machine")) := ok_read_row Frr T R TM cnt crb
  have crr : Cal P w K mg base (L2N.CX P w) 5 "read_row" ["machine", "text"] (spReadRow K (adOf K) (He.ga K "Machine")) := cal_of (He.glo_ok X G (c.t.d.fact 22 (f := .glo "read_row") rfl)) Frr frr fun _ _ _ _ _ _ us hl => match us, hl with | [_, _], _ => rfl
  exact {
    row := ccr
    shw := cck
    rrow := crr
    all := calN_of (g := fun us ws => us ++ [ws.getD 0 .none]) (He.glo_ok X G (c.t.d.fact 11 (f := .glo "all_showings") rfl)) Fal fal (fun r1 r2 => r1.append (.cons (vals_getD 0 r2) .nil)) fun _ _ _ _ _ _ us ws hl hm => match us, ws, hl, hm with | [_], [_], _, _ => rfl
    exch := cne
    deed := cnd
    state := cns }
theorem mks_of (X : K.In h) (G : h.Ns mainGlobals mg) (c : Says w' h K) : Mks P w K mg base (adOf K) (He.ga K "Counters") (He.ga K "Machine") (tZero K) := by
  have T := mg_of X G c
  have TC := clsC_of X G c
  have TM := clsM_of X G c
  have R : Er P w K mg base (adOf K) := er_of X G c
  obtain ⟨fdn, Fn⟩ := c.t.d.def_ 0 (d := dF "is_number" s_is_number) rfl
  have fn : FnOk P w K mg base CX0 1 (He.ga K "is_number") fdn ["value"] (spNumber K) := ok_is_number Fn T
  have cn : Cal P w K mg base CX0 1 "is_number" ["value"] (spNumber K) := cal_of (He.glo_ok X G (c.t.d.fact 0 (f := .glo "is_number") rfl)) Fn fn fun _ _ _ _ _ _ us hl => match us, hl with | [_], _ => rfl
  obtain ⟨fdb, Fb⟩ := c.t.d.def_ 1 (d := dF "is_below" s_is_below) rfl
  have fb : FnOk P w K mg base CX0 2 (He.ga K "is_below") fdb ["value", "limit"] (spBelow K) := ok_is_below Fb T cn
  have cb : Cal P w K mg base CX0 2 "is_below" ["value", "limit"] (spBelow K) := cal_of (He.glo_ok X G (c.t.d.fact 1 (f := .glo "is_below") rfl)) Fb fb fun _ _ _ _ _ _ us hl => match us, hl with | [_, _], _ => rfl
  obtain ⟨fds, Fs⟩ := c.t.d.def_ 2 (d := dF "is_sequence" s_is_sequence) rfl
  have fs : FnOk P w K mg base CX0 1 (He.ga K "is_sequence") fds ["value", "least", "most"] (spSeq K) := ok_is_sequence Fs T
  have cs : Cal P w K mg base CX0 1 "is_sequence" ["value", "least", "most"] (spSeq K) := cal_of (He.glo_ok X G (c.t.d.fact 2 (f := .glo "is_sequence") rfl)) Fs fs fun _ _ _ _ _ _ us hl => match us, hl with | [_, _, _], _ => rfl
  obtain ⟨fdl, Fl⟩ := c.t.d.def_ 3 (d := dF "first_not_below" s_first_not_below) rfl
  have fl : FnOk P w K mg base CX0 3 (He.ga K "first_not_below") fdl ["values", "limit"] (spFnb K) := ok_first_not_below Fl T cb
  have cl : Cal P w K mg base CX0 3 "first_not_below" ["values", "limit"] (spFnb K) := cal_of (He.glo_ok X G (c.t.d.fact 3 (f := .glo "first_not_below") rfl)) Fl fl fun _ _ _ _ _ _ us hl => match us, hl with | [_, _], _ => rfl
  obtain ⟨fde, Fe⟩ := c.t.d.def_ 5 (d := dF "_are_rests" s_are_rests) rfl
  have fe : FnOk P w K mg base CX0 4 (He.ga K "_are_rests") fde ["value", "kinds"] (spRests K) := ok_are_rests Fe T cs cl
  have ce : Cal P w K mg base CX0 4 "_are_rests" ["value", "kinds"] (spRests K) := cal_of (He.glo_ok X G (c.t.d.fact 5 (f := .glo "_are_rests") rfl)) Fe fe fun _ _ _ _ _ _ us hl => match us, hl with | [_, _], _ => rfl
  obtain ⟨fdt, Ft⟩ := c.t.d.def_ 12 (d := dF "_is_table" s_is_table) rfl
  have ft : FnOk P w K mg base CX0 4 (He.ga K "_is_table") fdt ["value", "like"] (spTable K) := ok_is_table Ft T cs cl
  have ct : Cal P w K mg base CX0 4 "_is_table" ["value", "like"] (spTable K) := cal_of (He.glo_ok X G (c.t.d.fact 12 (f := .glo "_is_table") rfl)) Ft ft fun _ _ _ _ _ _ us hl => match us, hl with | [_, _], _ => rfl
  obtain ⟨fdI, FI⟩ := c.t.d.def_ 41 (d := dM "Counters" "__init__" "Counters.__init__" s_Counters_init [.adr tZero]) rfl
  obtain ⟨fdM, FM⟩ := c.t.d.def_ 42 (d := dM "Machine" "__init__" "Machine.__init__" s_Machine_init []) rfl
  have okI : FnOk P w K mg base (L2N.CX P w) 5 (He.ma K (He.ga K "Counters") "__init__") fdI ["self", "rounds", "rests"] (spInit K (adOf K) (He.ga K "Counters")) := ok_init FI T R TC cs cl ce
  have okM : FnOk P w K mg base (L2N.CX P w) 5 (He.ma K (He.ga K "Machine") "__init__") fdM ["self", "tables"] (spMachine K (adOf K) (He.ga K "Machine")) := ok_machine FM T R TM cs ct
  have b2 : Binds K fdI ["self", "rounds", "rests"] [.ref (tZero K)] := by
    obtain ⟨ds, v, b⟩ := FunD.binds1 (ps := ["self", "rounds", "rests"]) FI 2 0 (List.cons_ne_nil _ _) rfl fun _ _ _ _ _ _ _ us its l1 l2 => match us, its, l1, l2 with | [_, _], [_], _, _ => ⟨_, rfl, rfl⟩
    match ds, v, b with
    | [u], .cons r .nil, b =>
      obtain rfl : u = .ref (tZero K) := r
      exact b
  exact {
    cnt := ⟨_, fdI, He.mkr_ok (c.t.d.fact 66 (f := .mkr "Counters") rfl), okI, b2⟩
    mac := ⟨_, fdM, He.mkr_ok (c.t.d.fact 67 (f := .mkr "Machine") rfl), okM, FM.bindsN fun _ _ _ _ _ _ us hl => match us, hl with | [_, _], _ => rfl⟩
    nil := nilB_ok (ex_at c.more 63 rfl) }
end
end K0
/-! the end -/
namespace K0
open PySem PySem.Spec PyProof.Rows L2 Kx RZ
abbrev Rw : PySem.W.OpenRow := PySem.W.OpenLaw.row PySem.Challenge.rw_onewitness_k00_errors_and_what_they_keep
abbrev hk : PySem.W.Hook := He.hookX 5 fa fn [] tf ex
def ob (s : PySem.W.SharedT) : He.AlX := He.obsX 5 fa fn [] tf ex (HandSHeadRun.getT s)
theorem ob_eq (s : PySem.W.SharedT) : ob s = hk.obs s.abs := He.obsX_eq (HandSHeadRun.getT_eq s)
def others1 : List Str := ["WitnessError", "BadMachine", "BadRow", "BadShowing", "BadText", "Refused", "TooGreat", "Forgets", "NoState", "NoDeed", "DEEDS_MOST", "STATES_MOST", "ROW_MOST", "is_number", "is_below", "is_sequence", "first_not_below", "row_of", "ROUND_MOST", "REST_MOST", "Counters", "_are_rests", "is_finite", "_can_show", "check_showing", "_sizes", "showings_many", "all_showings", "Machine", "_is_table"]
def others2 : List Str := ["need_state", "need_deed", "check_row", "in_coming_order", "reached", "forgotten", "need_exchanges", "_need_text", "read_below", "read_row", "_law_box", "_law_take", "_law_pick", "_law_value", "_law_bases", "_law_kept_right", "_law_ask", "_law_raised"]
abbrev others : List Str := others1 ++ others2
theorem top_runs (w : World) : HandSHeadRun.RunEq Rw (PySem.W.view Rw.prog [54]) hk ob 8000 others w := by
  intro os
  kernel_rfl
end K0
/-! the end -/
namespace K0
open PySem PySem.Spec PyProof.Rows L2 Kx RZ
/-- the lambdas' tables and their names -/
def tabsOf (K : PySem.W.Frag) : List (Addr × Str) := [((He.cT K dAsk).2, (Str.ofString "_law_ask" ++ ".<locals>.") ++ "<lambda>")]
theorem ref_same {m : Option Value} {a b : Addr} (h : m = some (.ref a)) (h' : m = some (.ref b)) : a = b := by
  rw [h] at h'
  injection h' with h'
  injection h'
theorem law_told {P : Program} {w : World} {K : PySem.W.Frag} {h : Heap} {mg : Str → Option Value} (X : K.In h) (G : h.Ns mainGlobals mg) (c : Says w h K) :
    ∃ fd : FuncData, (∀ (s : Shared) (u : Value), BindsTo s fd ⟨[u], []⟩ [("script", u)]) ∧ ∀ base : Heap, K.In base → base.Ns mainGlobals mg → (∀ p ∈ tf.map (He.cT K), LamX.TabB base mg p.1 p.2) → FnG P w K mg base CX0 12 (He.ga K "law") fd ["script"] (spLaw K (tabsOf K)) := by
  obtain ⟨fdlb, Flb⟩ := c.t.d.def_ 23 (d := dF "_law_box" s_law_box) rfl
  obtain ⟨fdlt, Flt⟩ := c.t.d.def_ 24 (d := dF "_law_take" s_law_take) rfl
  obtain ⟨fdlp, Flp⟩ := c.t.d.def_ 25 (d := dF "_law_pick" s_law_pick) rfl
  obtain ⟨fdlv, Flv⟩ := c.t.d.def_ 26 (d := dF "_law_value" s_law_value) rfl
  obtain ⟨fdls, Fls⟩ := c.t.d.def_ 27 (d := dF "_law_bases" s_law_bases) rfl
  obtain ⟨fdlk, Flk⟩ := c.t.d.def_ 28 (d := dF "_law_kept_right" s_law_kept_right) rfl
  obtain ⟨fdla, Fla⟩ := c.t.d.def_ 29 (d := dF "_law_ask" s_law_ask) rfl
  obtain ⟨fdlr, Flr⟩ := c.t.d.def_ 30 (d := dF "_law_raised" s_law_raised) rfl
  obtain ⟨fdL, FL⟩ := c.t.d.def_ 31 (d := dF "law" s_law) rfl
  have bL := FunD.bindsA (ps := ["script"]) FL fun _ _ _ _ _ _ us hl => match us, hl with | [_], _ => rfl
  refine ⟨fdL, fun s u => bL s [u] rfl, fun base _ _ TB => ?_⟩
  have T := mg_of X G c
  have TC := clsC_of X G c
  have TM := clsM_of X G c
  have D := hd_of c
  have R : Er P w K mg base (adOf K) := er_of X G c
  have B : Fns P w K mg base (adOf K) (He.ga K "Counters") (He.ga K "Machine") := fns_of X G c
  have M : Mks P w K mg base (adOf K) (He.ga K "Counters") (He.ga K "Machine") (tZero K) := mks_of X G c
  have gW := (He.glo_ok X G (c.t.d.fact 32 (f := .glo "WitnessError") rfl))
  have tA : LamX.TabB base mg (He.cT K dAsk).1 (He.cT K dAsk).2 := TB _ (List.mem_cons_self ..)
  have mA : ((He.cT K dAsk).2, (Str.ofString "_law_ask" ++ ".<locals>.") ++ "<lambda>") ∈ tabsOf K := List.mem_cons_self ..
  have oA : ∀ p ∈ tabsOf K, p.1 = (He.cT K dAsk).2 → p.2 = (Str.ofString "_law_ask" ++ ".<locals>.") ++ "<lambda>" := fun p hp _ => by
    rewrite [List.mem_singleton.mp hp]
    rfl
  have cB : Cal P w K mg base CX0 1 "_law_box" ["script", "k"] (spBox K) := cal_of (He.glo_ok X G (c.t.d.fact 23 (f := .glo "_law_box") rfl)) Flb (ok_box Flb T) fun _ _ _ _ _ _ us hl => match us, hl with | [_, _], _ => rfl
  have cT : Cal P w K mg base CX0 1 "_law_take" ["box", "many"] spTake := cal_of (He.glo_ok X G (c.t.d.fact 24 (f := .glo "_law_take") rfl)) Flt (ok_take Flt T) fun _ _ _ _ _ _ us hl => match us, hl with | [_, _], _ => rfl
  have cP : Cal P w K mg base CX0 2 "_law_pick" ["box", "some"] (spPick K) := cal_of (He.glo_ok X G (c.t.d.fact 25 (f := .glo "_law_pick") rfl)) Flp (ok_pick Flp T cT) fun _ _ _ _ _ _ us hl => match us, hl with | [_, _], _ => rfl
  have cV : Cal P w K mg base CX0 3 "_law_value" ["box"] (spValue K) := cal_of (He.glo_ok X G (c.t.d.fact 26 (f := .glo "_law_value") rfl)) Flv (ok_value Flv T cT cP) fun _ _ _ _ _ _ us hl => match us, hl with | [_], _ => rfl
  have cS : Cal P w K mg base CX0 1 "_law_bases" ["error"] (spBases K (adOf K) (He.ga K "WitnessError")) := cal_of (He.glo_ok X G (c.t.d.fact 27 (f := .glo "_law_bases") rfl)) Fls (ok_bases Fls T R gW) fun _ _ _ _ _ _ us hl => match us, hl with | [_], _ => rfl
  have cE : Hot.CalE P w K mg base 1 "_law_bases" ["error"] (spBasesE K (adOf K) (He.ga K "WitnessError")) := ⟨_, _, (He.glo_ok X G (c.t.d.fact 27 (f := .glo "_law_bases") rfl)), Fls.kp, Fls.bindsN fun _ _ _ _ _ _ us hl => match us, hl with | [_], _ => rfl, ok_basesE Fls T R gW⟩
  have okA : FnOk P w K mg base (L2N.CX P w) 10 (He.ga K "_law_ask") fdla ["number", "length"] (spAsk K (adOf K) (tabsOf K)) := ok_ask Fla (code_of (p := dAsk) (z := "_law_ask") (st := s_law_ask) Fla) T TM TC tA mA oA B M
  have cA : Cal P w K mg base (L2N.CX P w) 10 "_law_ask" ["number", "length"] (spAsk K (adOf K) (tabsOf K)) := cal_of (He.glo_ok X G (c.t.d.fact 29 (f := .glo "_law_ask") rfl)) Fla okA fun _ _ _ _ _ _ us hl => match us, hl with | [_, _], _ => rfl
  have cR : Cal P w K mg base CX0 11 "_law_raised" ["number", "length"] (spRaised K (tabsOf K)) := cal_of (He.glo_ok X G (c.t.d.fact 30 (f := .glo "_law_raised") rfl)) Flr (ok_raised Flr T R D cA cE) fun _ _ _ _ _ _ us hl => match us, hl with | [_, _], _ => rfl
  have okK : FnG P w K mg base CX0 5 (He.ga K "_law_kept_right") fdlk ["box"] (spKept K) := ok_kept Flk T R D cV cS
  exact ok_law FL T cB cT ⟨_, _, (He.glo_ok X G (c.t.d.fact 28 (f := .glo "_law_kept_right") rfl)), Flk.kp, Flk.bindsN fun _ _ _ _ _ _ us hl => match us, hl with | [_], _ => rfl, okK⟩ cR
end K0
open PyProof.Rows PySem PySem.W PySem.Calls
theorem PySem.Challenge.cw_onewitness_k00_errors_and_what_they_keep_holds : PySem.Challenge.rw_onewitness_k00_errors_and_what_they_keep.Holds := by
  w_on; o_law
  refine HandSHeadRun.head_any (r := K0.Rw) (q := view K0.Rw.prog [54]) (H := K0.hk) (ob := K0.ob) (M := 8000) (loose := K0.others) (d := HandSHeadRun.topDef K0.Rw.prog 54) (kwd := []) K0.ob_eq
    (by kernel_rfl) (fun s => by kernel_rfl) K0.top_runs (by kernel_rfl) (by kernel_rfl) (by kernel_rfl) (by rfl) (by first | assumption | decide +kernel) (by decide +kernel) ⟨rfl, rfl, rfl, rfl, rfl, by decide +kernel⟩ ?hw ?hc
  case hw => w_witness2
  case hc =>
    refine Kx.lone_walk (l := PySem.Challenge.rw_onewitness_k00_errors_and_what_they_keep) (n := 63) (k := 12) (x := "script") rfl (by decide) (by kernel_rfl) ⟨rfl, by decide, by decide⟩ ?F
    intro w mg fa h Y G hmg
    obtain ⟨K, X, c⟩ := Y
    have en : (HandSHeadRun.topDef K0.Rw.prog 54).name = ("law" : PySem.Str) := by kernel_rfl
    rw [en] at hmg
    have at_ := He.glo_ok X G (c.t.d.fact 31 (f := .glo "law") rfl)
    have ea := K0.ref_same hmg at_
    subst ea
    obtain ⟨fd, b, F⟩ := K0.law_told (P := (PySem.Challenge.rw_onewitness_k00_errors_and_what_they_keep).prog) X G c
    refine ⟨K, fd, K0.tf.map (He.cT K), K0.spLaw K (K0.tabsOf K), X, fun p hp => ?_, fun p hp => ?_, fun p hp => ?_, b, fun H a ns l hT hS => ⟨a, ns, rfl, hS, l, fun p hp => ?_, fun _ => rfl⟩, F⟩
    · obtain ⟨q, hq, rfl⟩ := List.mem_map.mp hp
      exact c.empty q hq
    · obtain ⟨q, hq, rfl⟩ := List.mem_map.mp hp
      exact c.out q hq
    · obtain ⟨q, hq, rfl⟩ := List.mem_map.mp hp
      exact PySem.W.codeHd_of_K X (c.hd q hq)
    · rewrite [List.mem_singleton.mp hp]
      exact LamX.TabS.nil (hT _ (List.mem_cons_self ..))
