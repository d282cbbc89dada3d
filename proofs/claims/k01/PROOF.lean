import PyProof.Rows.All
import Wide.All
import OpenK.AllK
import Wide.FinOn
import HandS.ForMost
import KE.GoesMore
import PyProof.EnumMake
import HandS.ForExc
import HandS.More
import HandS.Defaults
import HandS.IsInst
import HandS.TupAny
import HandS.TupMul
import HandS.Lambda
import HandS.ExcInit
import HandS.ExcField
import PyProof.ExcAttrAll.LookupError
import HandS.HeadHook4
import HandS.Flow
import HandS.OwnEq
import HandS.MakeKw
import HandS.MakeKwOnly
import HandS.Zip
import HandS.SetFor
import PyProof.InstNe
import HandS.List
import HandS.SlotsOwn
import PyProof.TupleOfSeq
import HandS.ExcValue
import PyProof.Rows.RegStrFacts
import HandS.ExcIs
import KE.KExcIs
import PyProof.NeKinds
import PyProof.EqKinds
import PyProof.StrOps2
import HandS.Strs
import HandS.Head0
import HandS.Head1
import HandS.Head2
import HandS.HeadEnd
import HandS.HeadHook1
import HandS.HeadHook2
import HandS.HeadHook3
import HandS.EndTab
import HandS.HeadWalk
import KE.KStateDown
import PySem.Challenge.RW_onewitness_k01_machines_and_what_is_none
set_option Elab.async false
set_option linter.all false
set_option maxRecDepth 100000
set_option maxHeartbeats 0
/-! enumerate(t), t a tuple; for i, x in enumerate(xs), xs a list or a tuple. -/
namespace Kx
open PySem PySem.AutoSeq1
/-- the record of a new enumerate over the iterator at j -/
abbrev enumRec (j : Addr) : Obj := { cls := .type "enumerate", data := .fields #[.none, .bool false, .ref j, rawInt 0, .none, .none] }
abbrev tupIter (t : Addr) : Obj := { cls := .type "tuple_iterator", data := .fields #[.ref t, .int 0 0] }
theorem makes_enum (t : Addr) (o : Obj) (items : Array Value) (n : Nat) (hc : o.cls = .type "tuple") (hd : o.data = .seq items n) :
    Meets (Builtin.«enumerate.__new__» ⟨[.type "enumerate", .ref t], []⟩) (fun _ R s => s.heap.get? t = some o ∧
      R (.ok (.ret (.ref (s.heap.push (tupIter t)).objs.size))) { s with heap := (s.heap.push (tupIter t)).push (enumRec s.heap.objs.size) }) := by
  refine .of_wp fun prog w A R s hs => ?_
  obtain ⟨oc, od, odt, os⟩ := o
  have hc' : oc = .type "tuple" := hc
  have hd' : odt = .seq items n := hd
  subst hc' hd'
  obtain ⟨hp, gs, dr, tk, sy⟩ := s
  obtain ⟨ht, hR⟩ := hs
  have subE := sub_enumerate
  have isT : (Shared.heap ⟨hp, gs, dr, tk, sy⟩).IsTuple t items := ⟨_, ht, rfl, n, rfl⟩
  wp_walk using wpAny_loadPart' ht
  refine wpAny_stack_any fun _ => wpAny_pure ?_
  split
  case h_1 c _ _ _ _ _ =>
    cases hq : (c == Value.type "enumerate") <;> (wp_walk using wpAny_loadPart' ht, wpAny_pyIter_tuple isT; exact ⟨_, rfl, hR⟩)
  case h_2 => wp_walk using wpAny_loadPart' ht, wpAny_pyIter_tuple isT; exact ⟨_, rfl, hR⟩
theorem call_enum {prog : Program} {w : World} {A : Around} {E : Value → Shared → Prop} {s : Shared} {t : Addr} {items : Array Value} {Q : Value → Shared → Prop} (hT : s.heap.IsTuple t items)
    (hQ : ∀ g : Heap, IsEnum g (s.heap.objs.size + 1) s.heap.objs.size 0 .none → g.IsTupleIter s.heap.objs.size t 0 → (∀ b o, s.heap.get? b = some o → g.get? b = some o) → Q (.ref (s.heap.objs.size + 1)) { s with heap := g }) :
    wpAny (model prog w) A (call (.type "enumerate") [.ref t]) Q E s := by
  obtain ⟨o, ho, hc, len, hd⟩ := hT
  have two : (s.heap.push (tupIter t)).objs.size = s.heap.objs.size + 1 := Heap.size_push ..
  have atE : ((s.heap.push (tupIter t)).push (enumRec s.heap.objs.size)).get? (s.heap.objs.size + 1) = some (enumRec s.heap.objs.size) := by
    rw [← two]; exact Heap.get?_push_size _ rfl
  have old : ∀ b u, s.heap.get? b = some u → ((s.heap.push (tupIter t)).push (enumRec s.heap.objs.size)).get? b = some u := fun b u z => Heap.get?_push_of_some _ (Heap.get?_push_of_some _ z)
  have it : ((s.heap.push (tupIter t)).push (enumRec s.heap.objs.size)).IsTupleIter s.heap.objs.size t 0 := ⟨_, Heap.get?_push_of_some _ (Heap.get?_push_size _ rfl), rfl, rfl⟩
  refine callType_new F.called_enumerate (by decide) (F.typeCall_enumerate_1 _) (F.newCall_enumerate_1 _) (fun q => F.args_object_init_2 q _) F.entry_enumerate_new (makes_enum t o items len hc hd) ⟨ho, ?_⟩
  show _ ∧ _
  rw [two]
  exact ⟨⟨_, atE, rfl⟩, hQ _ atE it old⟩
end Kx
namespace Kx
open L2 PySem PySem.Spec PyProof.Rows
/-- item i of the tuple at a, with its number, in a new pair -/
def ItPair (K : PySem.W.Frag) (a : Addr) : It where
  go := fun i H => ∃ (xs : List V) (x : V), SqT K H a xs ∧ xs[i]? = some x
  yld := fun i H v H' => ∃ (p : Addr) (x : V), v = .ref p ∧ H p = none ∧ H' = upd H p (.tup [.int (i : Nat), x]) ∧ ∀ xs, SqT K H a xs → xs[i]? = some x
  stop := fun i H => ∃ xs : List V, SqT K H a xs ∧ xs.length ≤ i
theorem one_of {b e j : Addr} (h : b ∈ [e, j]) : b = e ∨ b = j := by simpa using h
theorem turn_pair {P : Program} {w : World} {K : PySem.W.Frag} {es : List Expr} {k0 : Nat} {tp : Pos} (a e j : Addr) (aj : a ≠ j) (ae : a ≠ e) :
    Turn P w K (.Tuple es k0 tp) (ItPair K a) [e, j] e (fun i h => (∃ z, IsEnum h e j ((i : Nat) : Int) z) ∧ h.IsTupleIter j a i ∧ e ≠ j) where
  mem := List.mem_cons_self
  obj := by
    rintro i h ⟨⟨z, hz⟩, ⟨o, ho, _, hd⟩, _⟩ b hb
    rcases one_of hb with q | q <;> rw [q]
    · exact ⟨_, hz, fun _ y => nomatch y⟩
    · exact ⟨o, ho, fun _ y => by rw [hd] at y; cases y⟩
  keep := by
    rintro i h h' ⟨⟨z, hz⟩, hj, ne⟩ k
    exact ⟨⟨z, k e List.mem_cons_self _ hz⟩, hj.at fun o y => k j (by simp) o y, ne⟩
  item := by
    rintro X rfl rfl rfl calm i pins s σ H E I far ⟨⟨z, hz⟩, hj, ne⟩ ⟨xs, x, hx, hi⟩
    obtain ⟨vs, rel, isT, _⟩ := I.tuple hx
    obtain ⟨v, hv, rv⟩ := rel.get hi
    have lt : i < vs.toArray.size := by simpa using (List.getElem?_eq_some_iff.mp hv).1
    have D := Draws.tuple (prog := X.prog) (w := X.w) (A := X.A.in1) (I.ok.hd calm) j a aj vs.toArray
    have e_out : e ∉ [j, a] := by
      simp only [List.mem_cons, List.not_mem_nil, or_false, not_or]
      exact ⟨ne, fun y => ae y.symm⟩
    refine wpAny_pyNext_enum_itemD D hz ⟨hj, isT⟩ lt ne e_out fun y g tk hy out hj' pair _ rest => ?_
    obtain rfl : y = v := by
      have : vs.toArray[i]? = some v := by simpa using hv
      exact Option.some.inj (hy.symm.trans this)
    refine ⟨_, rfl, wpAny_letOwnedTupleGo_enum (s := { s with heap := g, toks := tk + 1 }) out fun g' back but => ?_⟩
    have sz : e < s.heap.objs.size := Heap.lt_size hz
    have szj : j < s.heap.objs.size := let ⟨_, y, _⟩ := hj; Heap.lt_size y
    have pair' : g'.get? s.heap.objs.size = some { cls := .type "tuple", data := .seq #[.int i tk, y] } := (but.2 _ (Nat.ne_of_gt sz)).trans pair
    have laid : ObjOk X.prog X.w (upd H s.heap.objs.size (.tup [.int (i : Nat), x])) g' s.heap.objs.size (.tup [.int (i : Nat), x]) := ⟨(by decide : 2 ≤ sizeLine), [.int i tk, y], .cons ⟨tk, rfl⟩ (.cons rv .nil), _, pair', rfl, _, rfl⟩
    have kept : ∀ b o, b ∉ [e, j] → s.heap.get? b = some o → g'.get? b = some o := fun b o out y => by
      have n1 : b ≠ e := fun q => out (by rw [q]; exact List.mem_cons_self)
      have n2 : b ≠ j := fun q => out (by rw [q]; simp)
      exact (but.2 b n1).trans (rest b o n1 n2 y)
    have J := I.turnedNew (ch := [e, j]) kept far (Nat.le_refl _) laid (t' := tk + 1)
    have num : ((i + 1 : Nat) : Int) = (i : Int) + 1 := by omega
    refine ⟨.ref s.heap.objs.size, _, J, rfl, ⟨_, x, rfl, I.hok.fresh (Nat.le_refl _), rfl, fun ys hys => by rw [I.tuple_inj hys hx]; exact hi⟩, ⟨⟨y, by rw [num]; exact back⟩, hj'.1.at fun o q => (but.2 j ne.symm).trans q, ne⟩, fun b hb => ?_⟩
    have small : b < s.heap.objs.size := by
      rcases one_of hb with q | q <;> rw [q]
      · exact sz
      · exact szj
    rw [upd_ne (Nat.ne_of_lt small)]
    exact (far b hb).1
  done := by
    rintro X rfl rfl rfl calm i pins s σ H E I far ⟨⟨z, hz⟩, hj, ne⟩ ⟨xs, hx, hi⟩
    obtain ⟨vs, rel, isT, _⟩ := I.tuple hx
    obtain ⟨g0, g1, _, g3, g4, g5⟩ := far j (by simp)
    have none_ : vs.toArray[i]? = none := by
      have := rel.length
      simp
      omega
    unfold pyNext
    refine wpAny_bind (wpAny_attempt (wpAny_callSpecial?_slot (s := s) (name := Str.ofString "__next__") ⟨_, hz, rfl⟩ F.slot_enumerate_next (wpAny_call_entry F.slot_enumerate_next ⟨_, hz, rfl⟩ F.entry_enumerate_next ?_ (F.args_enumerate_next_1 _))))
    show wpAny _ _ (field (.ref e) 2 >>= _) _ _ s
    refine wpAny_bind (wpAny_field hz rfl (x := .ref j) rfl (wpAny_bind (wpAny_nextOf_tuple_end (I.ok.hd calm) hj isT none_ fun g x kept stop => ?_)))
    obtain ⟨o, ho, hc⟩ := stop
    exact wpAny_bind (wpAny_isInstance (T := "StopIteration") (b := true) ⟨o, ho, hc⟩ isSubtype_stop (wpAny_pure ⟨rfl, I.turned (t' := s.toks) (fun b o hb y => kept b o hb y) g0 g1 g3 g4 g5⟩))
  self := by
    rintro A i s Q E ⟨⟨z, hz⟩, _⟩ h
    exact wpAny_pyIter_enum hz h
/-- a list or a tuple -/
def Sq (K : PySem.W.Frag) (H : Hp) (a : Addr) (xs : List V) : Prop := SqL K H a xs ∨ SqT K H a xs
def iPairs (K : PySem.W.Frag) (ta : TA) : TI := fun σ H R => ta σ H fun vs H1 => ∃ (a : Addr) (xs : List V), vs = [.ref a] ∧ ((SqL K H1 a xs ∧ R (Ite K a) H1) ∨ (SqT K H1 a xs ∧ R (ItPair K a) H1))
theorem pi_pairs {X : Cx} {e : Expr} {ta : TA} {p pos tp : Pos} {es : List Expr} {k0 : Nat} (hg : Gl X "enumerate") (hm : X.mg "enumerate" = none) (ha : PA X [e] ta) (hs : starEach [e] X.env = [(false, eval e X.env)] := by rfl) :
    PI X (.Tuple es k0 tp) (.Call (.Name "enumerate" p) [e] [] pos) (iPairs X.K ta) := by
  refine ⟨fun pins s σ H R I h => Call_ (ld_blt I hg hm boot_enumerate (PyProof.Rows.callWith_type1 (thn (ha.run pos pins s σ H _ I h) fun us t ⟨vs, H1, J, rel, a, xs, ev, how⟩ => ?_) hs rfl))⟩
  subst ev
  obtain ⟨u, rfl, ru⟩ := vals1 rel
  obtain rfl := (show u = Value.ref a from ru)
  have far : ∀ b ∈ [t.heap.objs.size + 1, t.heap.objs.size], FpOk X pins H1 b := fun b hb => by
    have ge : t.heap.objs.size ≤ b := by
      rcases one_of hb with q | q <;> rw [q]
      · exact Nat.le_succ _
      · exact Nat.le_refl _
    exact J.fpOk ge (J.hok.fresh ge)
  rcases how with ⟨hx, q⟩ | ⟨hx, q⟩
  · obtain ⟨_, _, isL, _⟩ := J.list hx
    refine call_enumerate_list isL.isList fun g hz hj _ k => wpAny_pyIter_enum hz ?_
    exact ⟨_, _, _, _, H1, rfl, J.kept (t' := t.toks) k, turn_enum a _ _, ⟨⟨.none, hz⟩, hj, Nat.succ_ne_self _⟩, far, q⟩
  · obtain ⟨_, _, isT, _⟩ := J.tuple hx
    have lt := isT.lt
    refine call_enum isT fun g hz hj k => wpAny_pyIter_enum hz ?_
    exact ⟨_, _, _, _, H1, rfl, J.kept (t' := t.toks) k, turn_pair a _ _ (Nat.ne_of_lt lt) (Nat.ne_of_lt (Nat.lt_succ_of_lt lt)), ⟨⟨.none, hz⟩, hj, Nat.succ_ne_self _⟩, far, q⟩
end Kx
/-! A try with several clauses «except C as n»: each clause stores what was caught at its own place. -/
namespace Kx
open PySem PyProof.Rows L2 PySem.Spec

/-- an error that came down to this frame and whose flight is over; `old` is the state without it -/
structure Down (X : Cx) (pins : List (Addr × Obj)) (σ : L2.St) (H : Hp) (x : Addr) (cls : Value) (d : Option Addr) (G : Heap) (old now : Shared) : Prop where
  was : Inv X pins σ H old
  low : ∀ b o, old.heap.get? b = some o → b ∉ frs X.stack → G.get? b = some o
  up : old.heap.UpToSlots now.heap
  fly : HandSPX.FlyingZ G (X.env :: X.outer) x (Zc cls d) now.heap
  fresh : H x = none
  sys : now.os = old.os
  bare : AllBare now.gens
section
variable {X : Cx} {pins : List (Addr × Obj)} {σ : L2.St} {H : Hp} {x : Addr} {cls : Value} {d : Option Addr} {G : Heap} {old now : Shared}
theorem Down.inv (D : Down X pins σ H x cls d G old now) : Inv X pins σ H now := D.was.landed D.low D.fly.1 D.up D.sys D.bare
/-- the record, and that it is no frame -/
theorem Down.rec_ (D : Down X pins σ H x cls d G old now) (hf : X.env.frame = some X.env.locals) :
    ∃ (ob : Obj) (vs : Array Value), now.heap.get? x = some ob ∧ Zc cls d ob ∧ ob.data = .fields vs ∧ x ≠ X.env.locals ∧ x ∉ X.fs := by
  obtain ⟨ob, vs, h1, h2, h3⟩ := D.fly.there
  have out : x ∉ frs (X.env :: X.outer) := by
    intro hm
    obtain ⟨_, ob2, h4, h5⟩ := D.fly.2.2.1.mem hm
    rw [h1] at h4
    cases h4
    exact h5 _ h3
  refine ⟨ob, vs, h1, h2, h3, fun z => out ?_, fun hm => out ?_⟩
  · exact List.mem_filterMap.mpr ⟨_, List.mem_cons_self, by rw [hf, z]⟩
  · obtain ⟨e1, h6, h7⟩ := List.mem_filterMap.mp hm
    exact List.mem_filterMap.mpr ⟨e1, List.mem_cons_of_mem _ h6, h7⟩
/-- within a suite -/
theorem Down.held (D : Down X pins σ H x cls d G old now) (hf : X.env.frame = some X.env.locals) :
    ∃ ob : Obj, now.heap.get? x = some ob ∧ Zc cls d ob ∧ (∃ vs, ob.data = .fields vs) ∧ Inv (X.suite x ((x, ob) :: (X.pn ++ pins))) [] σ H now := by
  obtain ⟨ob, vs, h1, h2, h3, h4, h5⟩ := D.rec_ hf
  exact ⟨ob, h1, h2, ⟨vs, h3⟩, D.inv.suite h1 h3 D.fresh h4 h5⟩
/-- no clause takes it: it goes on -/
theorem Down.goes {pos : Pos} {E : Ends} {W : WX} (D : Down X pins σ H x cls d G old now) (hs : X.stack = X.env :: X.outer) (hf : X.env.frame = some X.env.locals) (tk : Takes X W) (hw : W cls d σ H) :
    wpAny (model X.prog X.w) X.A (handleBy (.ref x) X.env []) (SP X pins E) X.xe now := by
  obtain ⟨_, _, _, ob, vs, T, _, _, h1, _, h3, h4, _⟩ := D.fly
  have away : wpAny (model X.prog X.w) X.A (setFlight (.ref x) X.env.frame) (fun _ s => wpAny (model X.prog X.w) X.A (throw (.ref x) : Sem Flow) (SP X pins E) X.xe s) X.xe now := by
    rw [hf]
    refine HandSPX.setFlight_upZ D.fly fun h' held up' => wpAny_throw (tk _ _ ⟨x, G, old, pins, σ, H, cls, d, rfl, D.was, D.low, D.up.trans up', ?_, D.fresh, D.sys, D.bare, hw⟩)
    rw [hs]
    exact .inr (.inr held)
  refine wpAny_handleBy_nil (wpAny_bind (wpAny_field h1 h3 h4 ?_))
  have some_ : ¬ ((Value.ref T == Value.none) = true) := by simp
  rw [if_neg some_]
  first
    | exact wpAny_bind away
    | exact wpAny_bind (wpAny_pure (wpAny_bind away))
end
/-- one clause: the class it names, the place of its name, its suite's reading -/
abbrev Clause : Type := Value × Nat × (Addr → Value → Option Addr → TS)
/-- behind a suite the name at i is gone -/
def bare (E : Ends) (i : Nat) : Ends where
  nx := fun σ H => E.nx (σ.set i none) H
  rt := E.rt
  bk := fun σ H => E.bk (σ.set i none) H
  ct := fun σ H => E.ct (σ.set i none) H
/-- what is asked of an error that the body lets out -/
def asks (K : PySem.W.Frag) (W : WX) (E : Ends) : List Clause → WX
  | [] => W
  | k :: r => fun cls d σ H => ∃ y, PySem.W.exmOne K cls k.1 = some y ∧ (y = true → ∀ x, H x = none → k.2.2 x cls d (bare E k.2.1) (σ.set k.2.1 (some (.ref x))) H) ∧ (y = false → asks K W E r cls d σ H)
inductive Clauses (X : Cx) : List ExceptHandler → List Clause → Prop
  | nil : Clauses X [] []
  | cons {nm n : Str} {i : Nat} {c : Value} {t : Addr → Value → Option Addr → TS} {st : Stmt} {more : List Stmt} {p1 p2 : Pos} {hs : List ExceptHandler} {ks : List Clause} (nd : X.N.Nodup) (at_ : X.N[i]? = some n) (loc : X.env.kindOf n = some .local) (cl : Names X nm c)
      (su : ∀ (x : Addr) (ob : Obj) (cls : Value) (d : Option Addr) (pn : List (Addr × Obj)), Zc cls d ob → (∃ vs, ob.data = .fields vs) → PSs (X.suite x ((x, ob) :: pn)) (st :: more) (t x cls d)) (rest : Clauses X hs ks) :
      Clauses X (.ExceptHandler (some (.Name nm p1)) (some n) (st :: more) p2 :: hs) ((c, i, t) :: ks)
section
variable {X : Cx} {pins : List (Addr × Obj)} {σ : L2.St} {H : Hp} {x : Addr} {cls : Value} {d : Option Addr} {G : Heap} {old now : Shared} {E : Ends} {W : WX}
theorem name_there {nm : Str} {c : Value} {p1 : Pos} {ob : Obj} {Q E' : Value → Shared → Prop} (cl : Names X nm c) (J : Inv (X.suite x ((x, ob) :: (X.pn ++ pins))) [] σ H now) (q : Q c now) :
    wpAny (model X.prog X.w) (X.A.mark (some (.ref x))) (eval (.Name nm p1) X.env) Q E' now := by
  obtain ⟨g, db, m | ⟨m, b, nn⟩⟩ := cl
  · exact ld_glob J g m q db
  · exact ld_blt J g m b q nn db
theorem Down.clauses (D : Down X pins σ H x cls d G old now) (hs : X.stack = X.env :: X.outer) (hf : X.env.frame = some X.env.locals) (tk : Takes X W) {hds : List ExceptHandler} {ks : List Clause} (C : Clauses X hds ks) (w : asks X.K W E ks cls d σ H) :
    wpAny (model X.prog X.w) X.A (handleBy (.ref x) X.env hds) (SP X pins E) X.xe now := by
  induction C with
  | nil => exact D.goes (pos := ⟨0, 0, 0, 0⟩) hs hf tk w
  | @cons nm n i c t st more p1 p2 hs' ks' nd at_ loc cl su rest ih =>
    obtain ⟨y, hy, yes, no⟩ := w
    obtain ⟨ob, h1, h2, h3, J⟩ := D.held hf
    refine wpAny_handleBy_cons (codeAny_handlers_test (name_there cl J ?_)) (fun z => nomatch z)
    have ty : PySem.W.Looks (model X.prog X.w) now.heap (typeOf (.ref x)) cls := fun _ _ _ _ k q => wpAny_typeOf_ref (k _ _ h1) (by rw [h2.1]; exact q)
    refine (PySem.W.exm_one D.inv.kIn ty hy).here ?_
    cases y with
    | false => exact ih (no rfl)
    | true =>
      refine codeAny_handlers_suite_as (HandSPX.lands_againZ D.fly fun h' fl up' => ?_)
      have D' : Down X pins σ H x cls d G old { now with heap := h' } := ⟨D.was, D.low, D.up.trans up', fl, D.fresh, D.sys, D.bare⟩
      obtain ⟨ob', _, g2, g3, J'⟩ := D'.held hf
      refine store_ok (X := X.suite x ((x, ob') :: (X.pn ++ pins))) (v := .ref x) J' nd at_ (.inl loc) rfl (fun s2 J2 => ?_) (.inr loc)
      refine wpAny_mono ((su x ob' cls d (X.pn ++ pins) g2 g3).run [] s2 _ H _ J2 (yes rfl x D.fresh)) (fun f s3 hf3 => ?_) (fun _ _ z => z.elim)
      have gone : ∀ {σ3 : L2.St} {H3 : Hp} {R : Shared → Prop}, Inv (X.suite x ((x, ob') :: (X.pn ++ pins))) [] σ3 H3 s3 → (∀ s4, Inv X pins (σ3.set i none) H3 s4 → R s4) →
          wpAny (model X.prog X.w) X.A (do bindName X.env n .none; unbindBehindTheSuite X.env n p2) (fun _ s4 => R s4) X.xe s3 := fun J3 q => gone_ok (J3.unsuite D.was.ok) nd at_ loc q
      match f, hf3 with
      | .next, ⟨_, _, J3, q⟩ => exact gone J3 fun _ J4 => ⟨_, _, J4, q⟩
      | .brk, ⟨_, _, J3, q⟩ => exact gone J3 fun _ J4 => ⟨_, _, J4, q⟩
      | .cont, ⟨_, _, J3, q⟩ => exact gone J3 fun _ J4 => ⟨_, _, J4, q⟩
      | .ret _, ⟨_, _, _, J3, r, q⟩ => exact gone J3 fun _ J4 => ⟨_, _, _, J4, r, q⟩
end
/-- try: body / except C as n: .. / except D as m: .. -/
theorem ps_tries {X : Cx} {body : List Stmt} {hd : ExceptHandler} {hds : List ExceptHandler} {ks : List Clause} {pos : Pos} {tb : WX → TS} {W : WX} (hs : X.stack = X.env :: X.outer) (hf : X.env.frame = some X.env.locals) (tk : Takes X W)
    (hb : ∀ (U : WX) (pn : List (Addr × Obj)) (xe : Value → Shared → Prop), Takes (X.tr pn xe) U → PassesOwn (model X.prog X.w) X.A X.env xe → PSs (X.tr pn xe) body (tb U)) (C : Clauses X (hd :: hds) ks) :
    PS X (.Try body (hd :: hds) [] [] pos) (fun E σ H => tb (asks X.K W E ks) E σ H) := by
  refine ⟨fun pins s σ H E I h => wpAny_Try_except ?_⟩
  have top : X.A.frames = some (X.env :: X.outer) := by rw [I.ok.frames, hs]
  have inner := hb (asks X.K W E ks) (X.pn ++ pins) (fun e s1 => wpAny (model X.prog X.w) X.A (noteFrame e X.env) (fun _ s2 => wpAny (model X.prog X.w) X.A (setFlight e none)
    (fun _ s3 => wpAny (model X.prog X.w) X.A (handleBy e X.env (hd :: hds)) (SP X pins E) X.xe s3) X.xe s2) X.xe s1) ?_ PassesOwn.looking
  · refine wpAny_mono (inner.run [] s σ H E (I.toTry _) h) (fun f s1 q => ?_) (fun _ _ z => z)
    match f, q with
    | .next, ⟨_, _, J, q⟩ => exact wpAny_execs_nil ⟨_, _, J.ofTry I.ok, q⟩
    | .brk, ⟨_, _, J, q⟩ => exact ⟨_, _, J.ofTry I.ok, q⟩
    | .cont, ⟨_, _, J, q⟩ => exact ⟨_, _, J.ofTry I.ok, q⟩
    | .ret _, ⟨_, _, _, J, r, q⟩ => exact ⟨_, _, _, J.ofTry I.ok, r, q⟩
  · rintro u s1 ⟨x, G, old, _, σ1, H1, cls, d, rfl, J, low, up, sky, fr, sys, bare, w⟩
    rw [show (X.tr (X.pn ++ pins) _).stack = X.env :: X.outer from hs] at sky
    refine Sky.land Zc.steady top hf sky fun h' fl up' => ?_
    exact Down.clauses (now := { s1 with heap := h' }) ⟨J.ofTry I.ok, low, up.trans up', fl, fr, sys, bare⟩ hs hf tk C w
end Kx
/-! Sequences, values of any known kind, calls by a bundle of facts. -/
namespace Kx
open L2 PySem PySem.Spec PyProof.Rows
section
variable {K : PySem.W.Frag} {H H' : Hp} {a b : Addr} {xs ys : List V} {o : HO}
theorem rd_same (e : Same H H') {u : HO} (h : Rd H a u) : Rd H' a u := h.elim (fun q => .inl (e _ _ q)) fun ⟨z, q⟩ => .inr ⟨z, e _ _ q⟩
theorem sqL_same (e : Same H H') (h : SqL K H a xs) : SqL K H' a xs := h.elim (fun q => .inl (rd_same e q)) .inr
theorem sqT_same (e : Same H H') (h : SqT K H a xs) : SqT K H' a xs := h.elim (fun q => .inl (rd_same e q)) .inr
theorem Sq.same (e : Same H H') (h : Sq K H a xs) : Sq K H' a xs := h.elim (fun q => .inl (sqL_same e q)) fun q => .inr (sqT_same e q)
theorem rd_upd (ne : a ≠ b) {u : HO} (h : Rd H a u) : Rd (upd H b o) a u := h.elim (fun q => .inl (by rw [upd_ne ne]; exact q)) fun ⟨z, q⟩ => .inr ⟨z, by rw [upd_ne ne]; exact q⟩
theorem sqL_upd (ne : a ≠ b) (h : SqL K H a xs) : SqL K (upd H b o) a xs := h.elim (fun q => .inl (rd_upd ne q)) .inr
theorem sqT_upd (ne : a ≠ b) (h : SqT K H a xs) : SqT K (upd H b o) a xs := h.elim (fun q => .inl (rd_upd ne q)) .inr
theorem Sq.upd (ne : a ≠ b) (h : Sq K H a xs) : Sq K (L2.upd H b o) a xs := h.elim (fun q => .inl (sqL_upd ne q)) fun q => .inr (sqT_upd ne q)
theorem same_new (h : H b = none) : Same H (upd H b o) := fun c u q => by
  rw [upd_ne (ne_of_none q h)]
  exact q
end
/-! ### loops over a list or a tuple -/
/-- the end of a loop's word: W by a word of the turn -/
theorem for_by {J : It} {n : Nat} {g : TG} {tb : TS} {D : Ends} {σ : L2.St} {H : Hp} (Pv : Nat → L2.St → Hp → Prop) (h0 : Pv 0 σ H)
    (go : ∀ i σ H, i < n → Pv i σ H → J.go i H ∧ ∀ x H', J.yld i H x H' → g x σ H' fun σ2 H2 => tb { D with nx := Pv (i + 1), ct := Pv (i + 1), bk := D.nx } σ2 H2)
    (stop : ∀ σ H, Pv n σ H → J.stop n H ∧ D.nx σ H) :
    ∃ W : Nat → Nat → L2.St → Hp → Prop, (∃ m, W 0 m σ H) ∧ ∀ i m σ H, W i m σ H → (J.stop i H ∧ D.nx σ H) ∨ (J.go i H ∧ ∃ N : L2.St → Hp → Prop, (∀ σ' H', N σ' H' → ∃ m', m' < m ∧ W (i + 1) m' σ' H') ∧ ∀ x H', J.yld i H x H' → g x σ H' fun σ2 H2 => tb { D with nx := N, ct := N, bk := D.nx } σ2 H2) := by
  refine ⟨fun i m σ H => m = n - i ∧ i ≤ n ∧ Pv i σ H, ⟨n, rfl, Nat.zero_le n, h0⟩, ?_⟩
  rintro i m σ H ⟨rfl, le, p⟩
  rcases Nat.lt_or_eq_of_le le with lt | rfl
  · obtain ⟨g1, g2⟩ := go i σ H lt p
    exact .inr ⟨g1, Pv (i + 1), fun σ' H' p' => ⟨n - (i + 1), by omega, rfl, lt, p'⟩, g2⟩
  · exact .inl (stop σ H p)
abbrev forR (g : TG) (tb : TS) (D : Ends) (σ : L2.St) : It → Hp → Prop := fun J H => ∃ W : Nat → Nat → L2.St → Hp → Prop, (∃ m, W 0 m σ H) ∧ ∀ i m σ H, W i m σ H →
  (J.stop i H ∧ D.nx σ H) ∨ (J.go i H ∧ ∃ N : L2.St → Hp → Prop, (∀ σ' H', N σ' H' → ∃ m', m' < m ∧ W (i + 1) m' σ' H') ∧ ∀ x H', J.yld i H x H' → g x σ H' fun σ2 H2 => tb { D with nx := N, ct := N, bk := D.nx } σ2 H2)
/-- for i, x in enumerate(xs) -/
theorem for_pairs {K : PySem.W.Frag} {a : Addr} {xs : List V} {g : TG} {tb : TS} {D : Ends} {σ : L2.St} {H : Hp} (hx : Sq K H a xs) (Pv : Nat → L2.St → Hp → Prop) (h0 : Pv 0 σ H) (hs : ∀ i σ' H', Pv i σ' H' → Same H H')
    (turn : ∀ (i : Nat) (x : V) (p : Addr) σ' H', xs[i]? = some x → Pv i σ' H' → H' p = none → g (.ref p) σ' (upd H' p (.tup [.int (i : Int), x])) fun σ2 H2 => tb { D with nx := Pv (i + 1), ct := Pv (i + 1), bk := D.nx } σ2 H2)
    (hd : ∀ σ' H', Pv xs.length σ' H' → D.nx σ' H') : (SqL K H a xs ∧ forR g tb D σ (Ite K a) H) ∨ (SqT K H a xs ∧ forR g tb D σ (ItPair K a) H) := by
  refine hx.imp (fun q => ⟨q, for_by (n := xs.length) Pv h0 ?_ ?_⟩) fun q => ⟨q, for_by (n := xs.length) Pv h0 ?_ ?_⟩
  · intro i σ' H' lt p
    have q' := sqL_same (hs i σ' H' p) q
    refine ⟨⟨xs, xs[i], q', List.getElem?_eq_getElem lt⟩, ?_⟩
    rintro v H2 ⟨pr, x, rfl, hn, rfl, hx⟩
    exact turn i x pr σ' H' (hx xs q') p hn
  · exact fun σ' H' p => ⟨⟨xs, sqL_same (hs _ σ' H' p) q, Nat.le_refl _⟩, hd σ' H' p⟩
  · intro i σ' H' lt p
    have q' := sqT_same (hs i σ' H' p) q
    refine ⟨⟨xs, xs[i], q', List.getElem?_eq_getElem lt⟩, ?_⟩
    rintro v H2 ⟨pr, x, rfl, hn, rfl, hx⟩
    exact turn i x pr σ' H' (hx xs q') p hn
  · exact fun σ' H' p => ⟨⟨xs, sqT_same (hs _ σ' H' p) q, Nat.le_refl _⟩, hd σ' H' p⟩
/-- for x in xs, xs a list or a tuple -/
def iAny (K : PySem.W.Frag) (tl : TE) : TI := fun σ H R => tl σ H fun x H1 => ∃ (a : Addr) (xs : List V), x = .ref a ∧ ((SqL K H1 a xs ∧ R (Itl K a) H1) ∨ (SqT K H1 a xs ∧ R (Itt K a) H1))
theorem pi_any {X : Cx} {tg e : Expr} {te : TE} (he : PE X e te) : PI X tg e (iAny X.K te) := by
  refine ⟨fun pins s σ H R I h => thn (he.run pins s σ H _ I h) fun u t ⟨x, H1, J, rx, a, xs, ex, how⟩ => ?_⟩
  subst ex
  obtain rfl := (show u = Value.ref a from rx)
  have far : ∀ b ∈ [t.heap.objs.size], FpOk X pins H1 b := fun b hb => by
    obtain rfl := (show b = t.heap.objs.size by simpa using hb)
    exact J.fpOk (Nat.le_refl _) (J.hok.fresh (Nat.le_refl _))
  have kept : ∀ (o : Obj) (b : Addr) (v : Obj), t.heap.get? b = some v → (t.heap.push o).get? b = some v := fun o b v z => Heap.get?_push_of_some _ z
  have new : ∀ (o : Obj), o.isFreed = false → (t.heap.push o).get? t.heap.objs.size = some o := fun o z => Heap.get?_push_size _ z
  rcases how with ⟨hx, q⟩ | ⟨hx, q⟩
  · obtain ⟨_, _, isL, _⟩ := J.list hx
    exact wpAny_pyIter_list isL.isList ⟨_, _, _, _, H1, rfl, J.kept (t' := t.toks) (kept _), turn_list a _, ⟨_, new _ rfl, rfl, rfl⟩, far, q⟩
  · obtain ⟨_, vs, isT, _⟩ := J.tuple hx
    exact wpAny_pyIter_tuple isT ⟨_, _, _, _, H1, rfl, J.kept (t' := t.toks) (kept _), turn_tuple a _, ⟨_, new _ rfl, rfl, rfl⟩, far, q⟩
theorem for_any {K : PySem.W.Frag} {a : Addr} {xs : List V} {g : TG} {tb : TS} {D : Ends} {σ : L2.St} {H : Hp} (hx : Sq K H a xs) (Pv : Nat → L2.St → Hp → Prop) (h0 : Pv 0 σ H)
    (hl : ∀ i σ' H', Pv i σ' H' → SqL K H a xs → SqL K H' a xs) (ht : ∀ i σ' H', Pv i σ' H' → SqT K H a xs → SqT K H' a xs)
    (turn : ∀ (i : Nat) (x : V) σ' H', xs[i]? = some x → Pv i σ' H' → g x σ' H' fun σ2 H2 => tb { D with nx := Pv (i + 1), ct := Pv (i + 1), bk := D.nx } σ2 H2)
    (hd : ∀ σ' H', Pv xs.length σ' H' → D.nx σ' H') : (SqL K H a xs ∧ forR g tb D σ (Itl K a) H) ∨ (SqT K H a xs ∧ forR g tb D σ (Itt K a) H) := by
  refine hx.imp (fun q => ⟨q, for_by (n := xs.length) Pv h0 ?_ ?_⟩) fun q => ⟨q, for_by (n := xs.length) Pv h0 ?_ ?_⟩
  · intro i σ' H' lt p
    have q' := hl i σ' H' p q
    refine ⟨⟨xs, xs[i], q', List.getElem?_eq_getElem lt⟩, ?_⟩
    rintro v H2 ⟨rfl, hv⟩
    exact turn i v σ' _ (hv xs q') p
  · exact fun σ' H' p => ⟨⟨xs, hl _ σ' H' p q, Nat.le_refl _⟩, hd σ' H' p⟩
  · intro i σ' H' lt p
    have q' := ht i σ' H' p q
    refine ⟨⟨xs, xs[i], q', List.getElem?_eq_getElem lt⟩, ?_⟩
    rintro v H2 ⟨rfl, hv⟩
    exact turn i v σ' _ (hv xs q') p
  · exact fun σ' H' p => ⟨⟨xs, ht _ σ' H' p q, Nat.le_refl _⟩, hd σ' H' p⟩
/-! ### values of a known kind -/
/-- v is no object, or a list, or a tuple -/
inductive Kn (K : PySem.W.Frag) (H : Hp) : V → Prop
  | non : Kn K H .non
  | bl (b : Bool) : Kn K H (.bl b)
  | int (i : Int) : Kn K H (.int i)
  | str (x : Str) : Kn K H (.str x)
  | seq {a : Addr} {xs : List V} (h : Sq K H a xs) : Kn K H (.ref a)
theorem Kn.same {K : PySem.W.Frag} {H H' : Hp} {v : V} (e : Same H H') (h : Kn K H v) : Kn K H' v := by
  cases h with
  | non => exact .non
  | bl b => exact .bl b
  | int i => exact .int i
  | str x => exact .str x
  | seq q => exact .seq (q.same e)
theorem tyx_list {K : PySem.W.Frag} {H : Hp} {a : Addr} {xs : List V} (h : SqL K H a xs) : TyX K H (.ref a) (.type "list") := by
  rcases h with (q | ⟨o, q⟩) | q
  · exact .base (.lst q)
  · exact .base (.frz q)
  · obtain ⟨_, _, _, q, r, _⟩ := q
    exact .kList q r
theorem tyx_tuple {K : PySem.W.Frag} {H : Hp} {a : Addr} {xs : List V} (h : SqT K H a xs) : TyX K H (.ref a) (.type "tuple") := by
  rcases h with (q | ⟨o, q⟩) | q
  · exact .base (.tup q)
  · exact .fTuple q
  · obtain ⟨_, _, _, q, r, _⟩ := q
    exact .kTuple q r
/-! ### a def that is known: its name, where it stands, what it takes, what it promises -/
structure Cal (P : Program) (w : World) (K : PySem.W.Frag) (mg : Str → Option Value) (base : Heap) (CX : CXT) (k : Nat) (x : Str) (ps : List Str) (sp : Sp) : Prop where
  ex : ∃ (f : Addr) (fd : FuncData), mg x = some (.ref f) ∧ PySem.W.keepIn K (.ref f) = true ∧ Binds K fd ps [] ∧ FnOk P w K mg base CX k f fd ps sp
section
variable {X : Cx} {CX : CXT} {k j : Nat} {x : Str} {ps : List Str} {sp : Sp} {e : Expr} {es : List Expr} {t : TA} {E : XK} {p pos : Pos}
theorem pe_callC (c : Cal X.prog X.w X.K X.mg X.base CX k x ps sp) (hr : Room j X.A) (hx : Passes CX X E) (ha : PA X (e :: es) t) (hk : k ≤ j := by decide) (hg : Gl X x := by rfl) (hdb : (x == ("__debug__" : Str)) = false := by decide)
    (he : starEach (e :: es) X.env = (false, eval e X.env) :: starEach es X.env := by rfl) (hpl : (backTo pos (starEach es X.env)).any (·.1) = false := by rfl) : PE X (.Call (.Name x p) (e :: es) [] pos) (tCall sp [] E t) := by
  obtain ⟨f, fd, h1, h2, h3, h4⟩ := c.ex
  exact pe_call h4 (hr.mono hk) hg h1 h2 h3 .nil hx ha hdb he hpl
end
end Kx
/-! defs that show a container as a text: their promise holds where no built-in that guards itself runs around. repr of data. -/
namespace Kx
open L2 PySem PySem.Spec PyProof.Rows
/-- nothing that guards itself runs around -/
abbrev Lone (A : Around) : Prop := A.guards = some []
structure FnG (P : Program) (w : World) (K : PySem.W.Frag) (mg : Str → Option Value) (base : Heap) (CX : CXT) (k : Nat) (f : Addr) (fd : FuncData) (ps : List Str) (sp : Sp) : Prop where
  len : ∀ vs H Q E, sp vs H Q E → List.length vs = ps.length
  run : ∀ (A : Around) (outer : List Env) (s : Shared) (H : Hp) (args : Args) (us : List Value) (vs : List V) (Q : VK) (E : XK), Room k A → Lone A → Env0 P w K mg base A outer s H → BindsTo s fd args (ps.zip us) → Vals vs us → sp vs H Q E → codeAny (model P w) A (.call (.ref f) args) (CR CX outer P w H s Q E) s
theorem FnG.of {P : Program} {w : World} {K : PySem.W.Frag} {mg : Str → Option Value} {base : Heap} {CX : CXT} {k : Nat} {f : Addr} {fd : FuncData} {ps : List Str} {sp : Sp} (F : FnOk P w K mg base CX k f fd ps sp) : FnG P w K mg base CX k f fd ps sp :=
  ⟨F.len, fun A outer s H args us vs Q E hr _ he hb hv hs => F.run A outer s H args us vs Q E hr he hb hv hs⟩
section
variable {P : Program} {w : World} {K : PySem.W.Frag} {mg : Str → Option Value} {base : Heap} {f : Addr} {fd : FuncData} {x qual : Str} {params : Arguments} {body : List Stmt} {scope : Scope} {dvs : List V} {kws : List (Str × V)}
/-- a def's body: what stands around is alone -/
theorem okG {CX : CXT} {N ps : List Str} {k : Nat} {sp : Sp} (F : FunD K x qual params body scope dvs kws f fd) (S : FnScope N ps scope) (len : ∀ vs H Q E, sp vs H Q E → vs.length = ps.length)
    (hbody : ∀ (cdv : Value) (A : Around) (outer : List Env) (s : Shared) (H : Hp) (vs : List V) (Q : VK) (E : XK), Lone A → PySem.W.codeIn K cdv qual = true → Room k (A.deeper (envOfC qual scope s.heap.objs.size f cdv)) → sp vs H Q E →
      ∃ t, PSs (cxOf CX P w K mg base N qual scope f cdv A outer s H E) body t ∧ t { nx := fun _ H' => Q .non H', rt := Q } (start N vs) H) : FnG P w K mg base CX (k + 1) f fd ps sp := by
  obtain ⟨oc, od, dV, kV, doc, pm, an, cdv, ct, osl, rfl, lk, hcd, -, -⟩ := F.ex
  exact ⟨len, fun A outer s H args us vs Q E hr lone e0 hb hv hs => LamX.run_ofS lk hcd S hr e0 hb hv (len _ _ _ _ hs) fun hr' => hbody cdv A outer s H vs Q E lone hcd hr' hs⟩
end
structure CalG (P : Program) (w : World) (K : PySem.W.Frag) (mg : Str → Option Value) (base : Heap) (CX : CXT) (k : Nat) (x : Str) (ps : List Str) (sp : Sp) : Prop where
  ex : ∃ (f : Addr) (fd : FuncData), mg x = some (.ref f) ∧ PySem.W.keepIn K (.ref f) = true ∧ Binds K fd ps [] ∧ FnG P w K mg base CX k f fd ps sp
section
variable {X : Cx} {CX : CXT} {k j : Nat} {x : Str} {ps : List Str} {sp : Sp} {e : Expr} {es : List Expr} {t : TA} {E : XK} {p pos : Pos}
theorem pe_callG (c : CalG X.prog X.w X.K X.mg X.base CX k x ps sp) (hr : Room j X.A) (lone : Lone X.A) (hx : Passes CX X E) (ha : PA X (e :: es) t) (hk : k ≤ j := by decide) (hg : Gl X x := by rfl) (hdb : (x == ("__debug__" : Str)) = false := by decide)
    (he : starEach (e :: es) X.env = (false, eval e X.env) :: starEach es X.env := by rfl) (hnp : (backTo pos (starEach es X.env)).any (·.1) = false := by rfl) :
    PE X (.Call (.Name x p) (e :: es) [] pos) (tCall sp [] E t) := by
  obtain ⟨f, fd, at_, keep, binds, F⟩ := c.ex
  refine ⟨fun pins s σ H Q I h => wpAny_Call_Name_kw (ld_glob I hg at_ ?_ hdb)⟩
  refine PySem.W.callWith_K (h₀ := X.base) I.ok.mod.kin keep (thn (ha.run pos pins s σ H _ I h) fun us s1 ⟨vs, H1, J, rel, q⟩ => ⟨J.kIn, ?_⟩) he hnp
  have q : sp (vs ++ []) H1 Q E := q
  rw [List.append_nil] at q
  have n : (us ++ []).length = ps.length := by
    rw [List.append_nil, ← rel.length]
    exact F.len _ _ _ _ q
  have b := binds s1 us J.kIn n
  rw [List.append_nil] at b
  refine wpAny_call (codeAny_mono (F.run X.A X.stack s1 H1 ⟨us, []⟩ us vs Q E (hr.mono hk) lone J.env0 b rel q) fun r s2 z => ?_)
  match r, z with
  | .error _, z => exact hx pins σ H1 s1 _ s2 J z
  | .ok (.ret _), z => exact J.after z
  | .ok .next, z => exact z.elim
  | .ok .brk, z => exact z.elim
  | .ok .cont, z => exact z.elim
end
/-! ### repr of data -/
/-- the text that shows v -/
def rShow (K : PySem.W.Frag) : List V → Hp → VK → Prop := fun vs H Q => ∃ (v : V) (d : PyData), vs = [v] ∧ Dp K H v d ∧ d.showable = true ∧ d.hasDict = false ∧ d.depth ≤ 60 ∧ d.shown.length ≤ sizeLine ∧ Q (.str d.shown) H
theorem call_show {X : Cx} (lone : Lone X.A) (hu : X.A.units + 64 < cLine) : CallR X (.builtin "repr") (rShow X.K) := by
  intro pins s σ H vs us Q I rel h
  obtain ⟨v, d, rfl, data, sh, nd, dep, fit, q⟩ := h
  obtain ⟨u, rfl, ru⟩ := vals1 rel
  obtain ⟨as, reads⟩ := Dp.reads I d v u data ru
  have fin : ∀ (h' : Heap) (z : Tok) (tk : Nat), (∀ b o, s.heap.get? b = some o → h'.get? b = some o) → EP X pins σ Q (.str d.shown z) { s with heap := h', toks := tk } := fun h' z tk keep => ⟨.str d.shown, H, I.kept keep, ⟨z, rfl⟩, q⟩
  cases data with
  | lst hs ha =>
    cases (show u = Value.ref _ from ru)
    exact repr_of_reads' reads sh (PyData.noDict_hsm nd) lone (by omega) (fun _ _ z => z) fin fit
  | tup hs ha =>
    cases (show u = Value.ref _ from ru)
    exact repr_of_reads' reads sh (PyData.noDict_hsm nd) lone (by omega) (fun _ _ z => z) fin fit
  | non =>
    cases (show u = Value.none from ru)
    exact PySem.P.repr_of_none (fin s.heap _ _ fun _ _ z => z)
  | bl b =>
    cases (show u = Value.bool b from ru)
    exact PySem.P.repr_of_bool (fin s.heap _ _ fun _ _ z => z)
  | int i =>
    obtain ⟨z, rfl⟩ := (show ∃ z, u = Value.int i z from ru)
    exact PySem.P.repr_of_int (of_decide_eq_true sh) (fin s.heap _ _ fun _ _ z => z)
  | str y =>
    obtain ⟨z, rfl⟩ := (show ∃ z, u = Value.str y z from ru)
    exact PySem.P.repr_of_str (fin s.heap _ _ fun _ _ z => z) fit
end Kx
/-! own errors of one field, over an own base over ValueError: «self.f = f» alone. -/
namespace Kx
open L2 PySem PySem.Spec PyProof.Rows
/-- __init__ keeps the one thing in f -/
def spKeep (K : PySem.W.Frag) (C : Addr) (f : Str) : Sp := fun vs H Q _ => ∃ (a : Addr) (v : V), vs = [.ref a, v] ∧ H a = some (exo a C none) ∧
  ∀ dx, H dx = none → dx ≠ a → Q .non (upd (upd H dx (exd dx [(f, v)])) a (exo a C (some dx)))
/-- what the module holds of such a class: at C, its __init__ at fI -/
structure ErrC (P : Program) (w : World) (K : PySem.W.Frag) (mg : Str → Option Value) (base : Heap) (k : Nat) (x f : Str) (C : Addr) : Prop where
  at_ : mg x = some (.ref C)
  cls : OexC K C
  no : PySem.W.findIn K (.ref C) f = some none
  ini : ∃ (fI : Addr) (fd : FuncData), PySem.W.findIn K (.ref C) "__init__" = some (some (.ref fI)) ∧ PySem.W.typeIn K (.ref fI) = some (.type "function") ∧ Binds K fd ["self", f] [] ∧ FnOk P w K mg base CX0 k fI fd ["self", f] (spKeep K C f)
theorem heap_made {fs : List (Str × V)} {H : Hp} {a d : Addr} {u v z : HO} (ha : H a = none) (hne : d ≠ a) : upd (del (upd (upd (upd H a u) d v) a z) a) d (.xd fs) = upd H d (.xd fs) := by
  funext b
  by_cases e1 : b = d
  · rw [e1, upd_same, upd_same]
  · rw [upd_ne e1, upd_ne e1]
    by_cases e2 : b = a
    · rw [e2, del_same, ha]
    · rw [del_ne e2, upd_ne e2, upd_ne e1, upd_ne e2]
/-- raise C(e): what is asked behind e -/
theorem thrown {K : PySem.W.Frag} {C : Addr} {f : Str} {v : V} {H : Hp} {R : XK} (h : ∀ d, H d = none → R (.ref C) (some d) (upd H d (.xd [(f, v)]))) :
    [v].length ≤ 1000 ∧ ∀ a, H a = none → spKeep K C f (.ref a :: ([v] ++ [])) (upd H a (exo a C none))
      (fun y H2 => y = .non ∧ ∃ (d : Addr) (fs : List (Str × V)), H2 a = some (exo a C (some d)) ∧ H2 d = some (exd d fs) ∧ H d = none ∧ R (.ref C) (some d) (upd (del H2 a) d (.xd fs))) (fun _ _ _ => False) := by
  refine ⟨Nat.succ_le_of_lt (by simp), fun a ha => ⟨a, v, rfl, upd_same, fun d hd ne => ⟨rfl, d, [(f, v)], upd_same, ?_, ?_, ?_⟩⟩⟩
  · rw [upd_ne ne, upd_same]
  · rwa [upd_ne ne] at hd
  · rw [heap_made ha ne]
    rw [upd_ne ne] at hd
    exact h d hd
section
variable {X : Cx} {k j : Nat} {x f : Str} {C : Addr} {e : Expr} {ta : TA} {W : WX} {p pos p2 : Pos}
theorem ps_throw (T : ErrC X.prog X.w X.K X.mg X.base k x f C) (hc : X.calm = true) (hr : Room j X.A) (tk : Takes X W) (ha : PA X [e] ta) (hk : k + 1 ≤ j := by decide) (hg : Gl X x := by rfl) (hdb : (x == ("__debug__" : Str)) = false := by decide)
    (he : starEach (e :: []) X.env = (false, eval e X.env) :: starEach [] X.env := by rfl) (hpl : (backTo pos (starEach [] X.env)).any (·.1) = false := by rfl) :
    PS X (.Raise (some (.Call (.Name x p) [e] [] pos)) none p2) (fun _ σ H => tMkO C (spKeep X.K C f) [] ta σ H fun cls d H' => W cls d σ H') := by
  obtain ⟨fI, fd, h1, h2, h3, h4⟩ := T.ini
  exact ps_raise (pos := p2) hc tk (pmk_oex (p := p) (pos := pos) (es := []) T.cls h1 h2 h4 (hr.mono hk) h3 .nil pass0 hg T.at_ ha hdb he hpl)
end
/-! ### the init itself -/
theorem ok_keep {P : Program} {w : World} {K : PySem.W.Frag} {mg : Str → Option Value} {base : Heap} {C fI : Addr} {fd : FuncData} {f qual : Str} {params : Arguments} {scope : Scope} {p1 p2 p3 p4 : Pos}
    (F : FunD K "__init__" qual params [.Assign [.Attribute (.Name "self" p1) f p2] (.Name f p3) p4] scope [] [] fI fd) (T : OexC K C) (no : PySem.W.findIn K (.ref C) f = some none)
    (sc : FnScope ["self", f] ["self", f] scope) (hd : (f == ("__debug__" : Str)) = false) (hcd : (f == ("__classdict__" : Str)) = false) (l0 : scope.names.lookup ("self" : Str) = some .local) (l1 : scope.names.lookup f = some .local) :
    FnOk P w K mg base CX0 1 fI fd ["self", f] (spKeep K C f) := by
  refine F.ok sc (fun vs H Q E h => ?_) (fun cdv A outer s H vs Q E hr h => ?_)
  · obtain ⟨a, v, rfl, _⟩ := h
    rfl
  · obtain ⟨a, v, rfl, ha, k⟩ := h
    refine ⟨_, pss_one (ps_ost (pe_var (i := 0) rfl (.inl l0)) (pe_var (i := 1) rfl (.inl l1) hd hcd)), ?_⟩
    exact ⟨_, rfl, _, rfl, a, C, rfl, T, no, .inl ⟨ha, fun dx n1 n2 => k dx n1 n2⟩⟩
end Kx
/-! own errors right over KeyError (made by LookupError's maker), with an own __init__. -/
namespace Kx
open PySem PySem.W PySem.Calls PyProof.Rows PySem.HandSPX
abbrev keyTail : List Value := [.type "KeyError", .type "LookupError", .type "Exception", .type "BaseException", .type "object"]
abbrev keyObj (nm q : Str) (C N : Addr) (bs : List Value) (sn : List Str) (sub : List Value) (ab : Bool) (col : Option Bool) (dd : Option Addr) (k0 k1 k2 k3 k5 : Option Value) : Obj :=
  excClassObj nm q C N bs keyTail true sn sub ab col dd k0 k1 k2 k3 k5 "LookupError.__new__"
theorem in_tail {C : Addr} {n : String} {b : Bool} (h : keyTail.contains (.type n) = b) : (Value.ref C :: keyTail).contains (.type n) = b := by
  rw [List.contains_cons, h]
  rfl
section
variable {h : Heap} {g : Array GenState} {d : Drawn} {t : Nat} {os : OsState} {prog : Program} {w : World} {A : Around} {R : Result → Shared → Prop} {E : Value → Shared → Prop}
variable {nm q : Str} {C N : Addr} {bs : List Value} {sn : List Str} {sub : List Value} {ab : Bool} {col : Option Bool} {dd : Option Addr} {k0 k1 k2 k3 k5 : Option Value} {more : List Value}
theorem key_check {M : Model} {Q : Unit → Shared → Prop} (stands : h.get? C = some (keyObj nm q C N bs sn sub ab col dd k0 k1 k2 k3 k5)) (done : Q () ⟨h, g, d, t, os⟩) :
    wpAny M A (checkBuiltinCall "LookupError.__new__" ⟨.ref C :: more, []⟩) Q E ⟨h, g, d, t, os⟩ := by
  have isB : (Value.ref C :: keyTail).contains (.type "LookupError") = true := in_tail (by decide +kernel)
  have short := PySem.F.excBase_LookupError.noStar
  simp only [checkBuiltinCall, PySem.F.excBase_LookupError.newKind, PySem.F.excBase_LookupError.newSplit, PySem.F.excBase_LookupError.newRow]
  repeat (first
    | refine wpAny_loadPart_at stands ?_
    | (refine wpAny_isSubtype_exc stands ?_; rw [isB])
    | refine wpAny_staticBase_exc stands ?_
    | refine wpAny_madeBy_exc stands ?_
    | simp only [bne_self_eq_false, Bool.false_eq_true, if_false]
    | wp_step)
  exact done
theorem key_new (stands : h.get? C = some (keyObj nm q C N bs sn sub ab col dd k0 k1 k2 k3 k5)) (fits : more.length ≤ sizeLine)
    (done : R (.ok (.ret (.ref (h.objs.size + 1)))) ⟨(h.push (kdv_tup more)).push (excO C h.objs.size), g, d, t, os⟩) : codeAny (model prog w) A (.builtin "LookupError.__new__" ⟨.ref C :: more, []⟩) R ⟨h, g, d, t, os⟩ := by
  have ends := PySem.F.excBase_LookupError.ends
  have isB : (Value.ref C :: keyTail).contains (.type "LookupError") = true := in_tail (by decide +kernel)
  have noA : (Value.ref C :: keyTail).contains (.type "AttributeError") = false := in_tail (by decide +kernel)
  have noN : (Value.ref C :: keyTail).contains (.type "NameError") = false := in_tail (by decide +kernel)
  refine codeAny_builtinAt PySem.F.excBase_LookupError.entry ?_
  unfold Builtin.«BaseException.__new__»; refine PySem.wpAt_bind ?_
  show PySem.wpAt _ _ _ (stack >>= _) _ _ _
  refine PySem.wpAt_bind (PySem.wpAt_stack fun _ _ => PySem.wpAt_of_wpAny ?_)
  wp_walk
  refine PySem.wpAt_of_wpAny ?_
  rw [PySem.F.excBase_LookupError.owner]
  repeat (first
    | with_reducible refine wpAny_madeHere_exc PySem.F.excBase_LookupError.canon stands ?_
    | with_reducible refine wpAny_loadPart_at stands ?_
    | (with_reducible refine wpAny_isSubtype_exc stands ?_; first | rw [isB] | rw [noA] | rw [noN])
    | wp_step)
  show R _ _
  rw [Heap.size_push]
  exact done
theorem key_call {fI : Addr} (stands : h.get? C = some (keyObj nm q C N bs sn sub ab col dd k0 k1 k2 k3 k5)) (hi : Looks (model prog w) h (typeLookup (.ref C) "__init__") (some (.ref fI)))
    (hb : ∀ self, Looks (model prog w) h (bindSpecial (.ref fI) self) (.ref fI, [self])) (fits : more.length ≤ sizeLine)
    (done : codeAny (model prog w) (A.under (.builtin "type.__call__" ⟨.ref C :: more, []⟩)) (.call (.ref fI) ⟨.ref (h.objs.size + 1) :: more, []⟩) (InitBack (h.objs.size + 1) R) ⟨(h.push (kdv_tup more)).push (excO C h.objs.size), g, d, t, os⟩) :
    codeAny (model prog w) A (.call (.ref C) ⟨more, []⟩) R ⟨h, g, d, t, os⟩ := by
  have l1 := tc_lookup
  have l2 := tc_bind (.ref C)
  have isTy : (⟨h, g, d, t, os⟩ : Shared).TypeIs (.ref C) "type" := ⟨_, stands, rfl⟩
  have all : ∀ b o, h.get? b = some o → ((h.push (kdv_tup more)).push (excO C h.objs.size)).get? b = some o := fun b o z => Heap.get?_push_of_some _ (Heap.get?_push_of_some _ z)
  refine codeAny_of_tree ?_
  show wpAny _ _ (callAny (.ref C) _) _ _ _; repeat (any_goals (first | assumption | with_reducible refine wpAny_loadPart_at stands ?_ | wp_step))
  refine ⟨rfl, ?_⟩
  refine codeAny_call_builtin_at (Code.quiet_builtin _ (by decide +kernel)) entry_typeCall (wpAny_check_type_call_sub stands ?_)
  repeat (first | with_reducible refine wpAny_loadPart_at stands ?_ | with_reducible refine wpAny_madeBy_exc stands ?_ | wp_step)
  refine codeAny_call_builtin_code (Code.quiet_builtin _ PySem.F.excBase_LookupError.quiet) (key_check stands (key_new stands fits ?_))
  show wpAny _ _ _ _ _ _
  have hC1 := all _ _ stands
  have made : ((h.push (kdv_tup more)).push (excO C h.objs.size)).get? (h.objs.size + 1) = some (excO C h.objs.size) := by heap_get
  have own : (Value.ref C :: keyTail).contains (.ref C) = true := by simp
  have i1 := hi.keeps all
  have b1 := (hb (.ref (h.objs.size + 1))).keeps all
  unfold isInstance
  repeat (first | with_reducible refine wpAny_loadPart_at made ?_ | wp_step)
  show wpAny _ _ (isSubtype (.ref C) (.ref C)) _ _ ⟨(h.push (kdv_tup more)).push (excO C h.objs.size), g, d, t, os⟩
  refine wpAny_isSubtype_exc hC1 ?_
  rw [own]
  repeat wp_step
  show wpAny _ _ (typeLookup (.ref C) _) _ _ _; refine i1.at (wpAny_holding (wpAny_bind (b1.at (wpAny_bind (wpAny_call (codeAny_mono done fun r s' z => ?_))))))
  match r, z with
  | .error _, z => exact z
  | .ok .next, z => exact z.elim
  | .ok .brk, z => exact z.elim
  | .ok .cont, z => exact z.elim
  | .ok (.ret _), ⟨e1, z⟩ =>
    subst e1
    first | (wp_walk; exact z) | exact wpAny_pure (wpAny_pure z)
end
/-! ### x.name = v on such an error that has no dict yet -/
theorem key_passes (self : Value) : refuseLoop self "__setattr__" keyTail = pure () := by kernel_rfl
/-- what the written part holds of such a class -/
structure KeyC (K : Frag) (C : Addr) : Prop where
  cls : ∃ nm q N bs sn sub ab col dd k0 k1 k2 k3 k5, K.lookup C = some (keyObj nm q C N bs sn sub ab col dd k0 k1 k2 k3 k5)
  sa : findIn K (.ref C) "__setattr__" = some (some (.builtin "object.__setattr__"))
  exC : subIn K (.ref C) (.type "BaseException") = some true
  tyC : typeIn K (.ref C) = some (.type "type")
  kC : keepIn K (.ref C) = true
section
open Builtin.ObjectAttr Builtin
variable {mem : Heap} {g : Array GenState} {d : Drawn} {t : Nat} {os : OsState} {prog : Program} {w : World} {A : Around} {R : Result → Shared → Prop} {E : Value → Shared → Prop}
theorem key_osa {K : Frag} {name : Str} {tk : Tok} {v : Value} {x C : Addr} {fv : Array Value} (T : KeyC K C) (X : K.In mem) (hx : mem.get? x = some { cls := .ref C, data := .fields fv }) (no : findIn K (.ref C) name = some none)
    (done : ∀ (h' : Heap) (tk' : Nat) (dx : Addr), (∀ b o, b ≠ x → mem.get? b = some o → h'.get? b = some o) → mem.objs.size ≤ dx → dx ≠ x → h'.get? x = some { cls := .ref C, dict := some dx, data := .fields fv } → h'.Ns1 dx (fun y => if y = name then some v else none) → R (.ok (.ret .none)) ⟨h', g, d, tk', os⟩) : codeAny (model prog w) A (.call (.builtin "object.__setattr__") ⟨[.ref x, .str name tk, v], []⟩) R ⟨mem, g, d, t, os⟩ := by
  obtain ⟨nm, q, N, bs, sn, sub, ab, col, dd, k0, k1, k2, k3, k5, stands⟩ := T.cls
  have cd : clsIn K C = some { name := nm, bases := bs, mro := .ref C :: keyTail, ns := N, qualname := q, hasDict := true, slotNames := sn, subclasses := sub, abstract := ab, collection := col, hasDel := false } := by
    unfold clsIn
    rw [stands]
  have I : InstAt mem x { cls := .ref C, data := .fields fv } C none := ⟨hx, rfl, rfl, trivial⟩
  have SF := PySem.F.store_object -- the store
  have obj : (Value.ref C :: keyTail).contains (.type "object") = true := in_tail (by decide +kernel)
  have apart : x ≠ mem.objs.size := Nat.ne_of_lt (Heap.lt_size hx)
  have sub' : Looks (model prog w) mem (isInstance (.ref x) (.type "object")) true := I.type.andThen (looks_mroIn X (by
    unfold mroIn
    rw [cd, Option.bind_some]
    show (if (Value.ref C :: keyTail).isEmpty = true then none else some ((Value.ref C :: keyTail).contains (.type "object"))) = some true
    rw [obj]
    rfl))
  refine codeAny_call_builtin SF.slot.plain SF.entry (@check_slot (model prog w) _ _ ⟨mem, g, d, t, os⟩ "object.__setattr__" "object" "__setattr__" (.ref x) [.str name tk, v] [] _ SF.kind SF.split sub' (SF.args (.ref x) (.str name tk) v) ?_)
  have mro : Looks (model prog w) mem (mroOf (.ref C)) (.ref C :: keyTail) := (looks_clsIn X cd).andThen .now
  have taker : Looks (model prog w) mem (storeTaker? none) none := .now
  have data : Looks (model prog w) mem (classData C) _ := looks_clsIn X cd
  rw [osa_eq, refuse_eq]
  refine wpAny_bind (wpAny_bind (I.type.at (wpAny_bind (mro.at ?_))))
  rw [refuseLoop_ref, key_passes]
  refine wpAny_pure (wpAny_bind (I.type.at (wpAny_bind ((looks_findIn X no).at (wpAny_bind (taker.at ?_))))))
  show wpAny _ _ (storeInOwnDict (.ref x) (.ref C) (.str name tk) name v false) _ _ _; unfold storeInOwnDict ownDictForStores
  repeat (first
    | with_reducible refine store_in_new ?_ ?_
    | with_reducible refine wpAny_loadPart_at hx ?_
    | with_reducible refine data.at ?_
    | wp_step)
  · exact ⟨_, #[], _, (Heap.get?_update_ne _ _ _ _ apart.symm).trans (Heap.get?_push_at rfl rfl), rfl, fun e he => absurd he (by simp), fun _ => rfl⟩
  · intro h' tk' ns but
    have here := Heap.get?_push_of_some { cls := .type "dict", data := .dict #[] } hx
    refine done h' tk' mem.objs.size (fun b o ne ho => ?_) (Nat.le_refl _) apart.symm ((but.2 x apart).trans (Heap.get?_update_self _ here rfl)) ns
    exact (but.2 b (Nat.ne_of_lt (Heap.lt_size ho))).trans ((Heap.get?_update_ne _ _ _ _ ne).trans (Heap.get?_push_of_some _ ho))
end
end Kx
/-! NoState and NoDeed: raised with their one thing. -/
namespace PySem
namespace LowZ
open PySem.HandSPX PySem.W PySem.Calls PyProof.Rows
theorem one_fits (v : Value) : [v].length ≤ sizeLine := by
  rw [sizeLine_eq]
  exact (by decide : 1 ≤ 16777216)
theorem ld_here {M : Model} {s : Shared} {name : Str} {scope : Scope} {L a : Addr} {cd : Value} {m : Str → Option Value} {x : Str} {pos : Pos} {v : Value} {Q : Value → Shared → Prop} {A : Around} {E : Value → Shared → Prop} (hn : s.heap.Ns L m) (hv : m x = some v) (h : Q v s)
    (hk : scope.kind = .function := by rfl) (hl : (envOfC name scope L a cd).kindOf x = some .local := by rfl) (hd : (x == ("__debug__" : Str)) = false := by decide) : wpAny M A (eval (.Name x pos) (envOfC name scope L a cd)) Q E s := wpAny_Name (wpAny_loadName_local hk hl hn hv h) hd
end LowZ
end PySem

namespace Kx
namespace KS
open PySem PySem.W PySem.Calls PyProof.Rows PySem.HandSPX PySem.LowZ
/-! __init__(self, state): self.state = state -/
def tArgs (p1 p2 : Pos) : Arguments := { posonlyargs := [], args := [{ arg := "self", annotation := none, pos := p1 }, { arg := "state", annotation := none, pos := p2 }], vararg := none, kwonlyargs := [], kw_defaults := [], kwarg := none, defaults := [] }
def tBody (q1 q2 q3 q4 : Pos) : List Stmt := [.Assign [.Attribute (.Name "self" q1) "state" q2] (.Name "state" q3) q4]
def tScope : Scope := { kind := .function, names := [(Str.ofString "self", .local), (Str.ofString "state", .local)], isGenerator := false, isCoroutine := false, more := [] }
structure Txt (K : Frag) (C fI : Addr) (qual : Str) : Prop where
  key : KeyC K C
  no : findIn K (.ref C) "state" = some none
  ini : findIn K (.ref C) "__init__" = some (some (.ref fI))
  tyI : typeIn K (.ref fI) = some (.type "function")
  fn : ∃ (oc : Value) (od : Option Addr) (dV kV doc pm : Value) (an : Option Addr) (cdv ct : Value) (osl : Array (Option Value)) (p1 p2 q1 q2 q3 q4 : Pos),
    K.lookup fI = some ⟨oc, od, .func (fnOf "__init__" qual (tArgs p1 p2) (tBody q1 q2 q3 q4) tScope dV kV doc pm an cdv ct), osl⟩ ∧ codeIn K cdv qual = true ∧ dV = .none
/-- what a made one is -/
structure Made (h h' : Heap) (e C d : Addr) (v : Value) : Prop where
  keep : ∀ b o, h.get? b = some o → h'.get? b = some o
  new : h.objs.size ≤ e
  obj : ∃ oe vs, h'.get? e = some oe ∧ oe.cls = .ref C ∧ oe.dict = some d ∧ oe.data = .fields vs ∧ vs[1]? = some .none
  dbig : h.objs.size ≤ d
  dne : d ≠ e
  ns : h'.Ns1 d (fun y => if y = "state" then some v else none)
section
variable {prog : Program} {w : World} {A : Around} {R : Result → Shared → Prop} {s : Shared} {K : Frag} {C fI : Addr} {qual : Str}
theorem inits (T : Txt K C fI qual) {x t0 : Addr} {v : Value} (X : K.In s.heap) (lim : s.heap.NoLimit) (hx : s.heap.get? x = some (excO C t0)) (room : A.depth < recursionLimit)
    (done : ∀ (h' : Heap) (tk : Nat) (dx : Addr), (∀ b o, b ≠ x → s.heap.get? b = some o → h'.get? b = some o) → h'.get? x = some { cls := .ref C, dict := some dx, data := .fields #[.ref t0, .none, .none, .none, .bool false, .none] } → s.heap.objs.size ≤ dx → dx ≠ x →
      h'.Ns1 dx (fun y => if y = "state" then some v else none) → R (.ok (.ret .none)) { s with heap := h', toks := tk }) :
    codeAny (model prog w) A (.call (.ref fI) ⟨[.ref x, v], []⟩) R s := by
  obtain ⟨oc, od, dV, kV, doc, pm, an, cdv, ct, osl, p1, p2, q1, q2, q3, q4, lk, hcd, rfl⟩ := T.fn
  refine Att.call_fn (binds := [("self", .ref x), ("state", v)]) X lim lk hcd room (BindsTo.of_eq (by first | rfl | with_unfolding_all rfl)) (by first | rfl | decide | with_unfolding_all rfl) (fun s1 IC => ?_) rfl rfl rfl
  obtain ⟨h1, tk1, rfl⟩ := IC.toInCall.same
  have keep : ∀ b o, s.heap.get? b = some o → h1.get? b = some o := IC.toInCall.keep
  have ns := IC.toInCall.ns
  show wpAny _ _ (execs _ _) _ _ _
  refine wpAny_execs_cons (plainObj_wpAny_Assign_Attribute ?_)
  refine ld_here (v := v) ns (by first | rfl | with_unfolding_all rfl | kernel_rfl) (ld_here (v := .ref x) ns (by first | rfl | with_unfolding_all rfl | kernel_rfl) ?_)
  refine set_plain (X.keeps keep) (ox := excO C t0) (od := none) ⟨keep _ _ hx, rfl, rfl, trivial⟩ T.key.sa ?_
  refine key_osa T.key (X.keeps keep) (keep _ _ hx) T.no (fun h3 tk3 dx k3 dn dne hx3 hn3 => ?_)
  show wpAny _ _ (execs _ _) _ _ _
  have z : s.heap.objs.size < h1.objs.size := ns.lt
  exact wpAny_execs_nil (done h3 tk3 dx (fun b o hb e => k3 b o hb (keep b o e)) hx3 (Nat.le_of_lt (Nat.lt_of_lt_of_le z dn)) dne hn3)
theorem makes (T : Txt K C fI qual) {v : Value} (X : K.In s.heap) (lim : s.heap.NoLimit) (room : A.depth + 1 < recursionLimit)
    (done : ∀ h' tk e d, Made s.heap h' e C d v → R (.ok (.ret (.ref e))) { s with heap := h', toks := tk }) : codeAny (model prog w) A (.call (.ref C) ⟨[v], []⟩) R s := by
  obtain ⟨nm, q, N, bs, sn, sub, ab, col, dd, k0, k1, k2, k3, k5, hC⟩ := T.key.cls
  obtain ⟨hp, gs, dr, tk, os⟩ := s
  have keep : ∀ b o, hp.get? b = some o → ((hp.push (kdv_tup [v])).push (excO C hp.objs.size)).get? b = some o := fun b o e => Heap.get?_push_of_some _ (Heap.get?_push_of_some _ e)
  have here : ((hp.push (kdv_tup [v])).push (excO C hp.objs.size)).get? (hp.objs.size + 1) = some (excO C hp.objs.size) := by heap_get
  refine key_call (X _ _ hC) (looks_findIn X T.ini) (fun self => bind_fn X self T.tyI) (one_fits v) ?_
  refine inits (s := ⟨(hp.push (kdv_tup [v])).push (excO C hp.objs.size), gs, dr, tk, os⟩) T (X.keeps keep) (lim.keeps keep) here ?_ fun h' tk' dx k' hx dn dne hns => ?_
  · show A.depth + 1 < recursionLimit
    exact room
  · have old : ∀ b o, hp.get? b = some o → h'.get? b = some o := fun b o e => k' b o (Nat.ne_of_lt (Nat.lt_succ_of_lt (Heap.lt_size e))) (keep b o e)
    have z : hp.objs.size + 1 + 1 ≤ dx := by
      have q := dn
      simp only [Heap.size_push] at q
      exact q
    exact ⟨rfl, done h' tk' (hp.objs.size + 1) dx ⟨old, Nat.le_succ _, ⟨_, _, hx, rfl, rfl, rfl, rfl⟩, Nat.le_trans (Nat.le_trans (Nat.le_succ _) (Nat.le_succ _)) z, dne, hns⟩⟩
end
end KS
end Kx
namespace Kx
namespace KS
open L2 PySem PySem.Spec PyProof.Rows
theorem rel_one {v : V} {v' : Value} (r : RelV v v') (y : Str) : RelO (List.lookup y [(("state" : Str), v)]) (if y = "state" then some v' else none) := by
  rw [lookup_put]
  by_cases h : y = "state"
  · rw [if_pos h, if_pos h]
    exact r
  · rw [if_neg h, if_neg h]
    trivial
section
variable {X : Cx} {C fI : Addr} {qual x : Str}
/-- C(e) -/
def tMk (C : Addr) (ta : TA) : L2.St → Hp → XK → Prop := fun σ H Q => ta σ H fun vs H1 => ∃ v, vs = [v] ∧ ∀ d, H1 d = none → Q (.ref C) (some d) (upd H1 d (.xd [(("state" : Str), v)]))
theorem pmk {a : Expr} {ta : TA} {p pos : Pos} {k : Nat} (T : Txt X.K C fI qual) (at_ : X.mg x = some (.ref C)) (hr : Room k X.A) (ha : PA X [a] ta) (hg : Gl X x) (hdb : (x == ("__debug__" : Str)) = false)
    (he : starEach (a :: []) X.env = (false, eval a X.env) :: starEach [] X.env) (hpl : (backTo pos (starEach [] X.env)).any (·.1) = false) : PMk X (.Call (.Name x p) [a] [] pos) (tMk C ta) := by
  intro pins s σ H Q I h
  refine wpAny_Call_Name_kw (ld_glob I hg at_ ?_ hdb)
  refine PySem.W.callWith_K (h₀ := X.base) I.ok.mod.kin T.key.kC (thn (ha.run pos pins s σ H _ I h) fun us s1 hh => ?_) he hpl
  obtain ⟨vs, H1, I1, r1, v, ev, q1⟩ := hh
  subst ev
  refine ⟨I1.kIn, ?_⟩
  obtain ⟨v', rfl, rv⟩ := vals1 r1
  show wpAny _ _ (call (.ref C) [v']) _ _ _
  have lim := I1.nolimit
  obtain ⟨hp, gs, dr, tk, os⟩ := s1
  refine wpAny_call (makes T I1.kIn lim (by have := hr.dp; omega) fun h' tk' e d M => ?_)
  show MkP X pins σ Q (.ref e) ⟨h', gs, dr, tk', os⟩
  obtain ⟨oe, fv, hoe, hc, hd, hdat, h1⟩ := M.obj
  have hns := M.ns
  obtain ⟨G, g1, g2⟩ := restrict h' fun b => decide (b ≠ e)
  have gk : ∀ b, b ≠ e → G.get? b = h'.get? b := fun b hb => g1 b (decide_eq_true hb)
  have ge : G.get? e = none := g2 e (by simp)
  have old : ∀ b o, hp.get? b = some o → G.get? b = some o := fun b o q => (gk b (Nat.ne_of_lt (Nat.lt_of_lt_of_le (Heap.lt_size q) M.new))).trans (M.keep b o q)
  have ob : ObjOk X.prog X.w (upd H1 d (.xd [(("state" : Str), v)])) G d (.xd [(("state" : Str), v)]) := ⟨_, hns.at (fun o q => (gk d M.dne).trans q), fun y => rel_one rv y⟩
  have J : Inv X pins σ (upd H1 d (.xd [(("state" : Str), v)])) ⟨G, gs, dr, tk', os⟩ := I1.laid (t' := tk') old M.dbig ob
  refine ⟨e, oe, fv, ⟨G, gs, dr, tk', os⟩, _, .ref C, some d, rfl, J, fun b o q => ?_, ge, hoe, ⟨hc, hd⟩, hdat, h1, ?_, rfl, I1.bare, raises_own T.key.exC T.key.tyC, q1 d (I1.hok.fresh M.dbig)⟩
  · by_cases hb : b = e
    · have q' : G.get? b = some o := q
      rw [hb, ge] at q'
      cases q'
    · exact (gk b hb).symm.trans q
  · rw [upd_ne (Ne.symm M.dne)]
    exact I1.hok.fresh M.new
/-- raise C(e) -/
theorem ps_throw {a : Expr} {ta : TA} {W : WX} {p pos p2 : Pos} {k : Nat} (T : Txt X.K C fI qual) (at_ : X.mg x = some (.ref C)) (hc : X.calm = true) (hr : Room k X.A) (tk : Takes X W) (ha : PA X [a] ta) (hg : Gl X x := by rfl) (hdb : (x == ("__debug__" : Str)) = false := by decide)
    (he : starEach (a :: []) X.env = (false, eval a X.env) :: starEach [] X.env := by rfl) (hpl : (backTo pos (starEach [] X.env)).any (·.1) = false := by rfl) :
    PS X (.Raise (some (.Call (.Name x p) [a] [] pos)) none p2) (fun _ σ H => tMk C ta σ H fun cls d H' => W cls d σ H') := ps_raise hc tk (pmk T at_ hr ha hg hdb he hpl)
end
end KS
end Kx

namespace Kx
namespace KD
open PySem PySem.W PySem.Calls PyProof.Rows PySem.HandSPX PySem.LowZ
/-! __init__(self, deed): self.deed = deed -/
def tArgs (p1 p2 : Pos) : Arguments := { posonlyargs := [], args := [{ arg := "self", annotation := none, pos := p1 }, { arg := "deed", annotation := none, pos := p2 }], vararg := none, kwonlyargs := [], kw_defaults := [], kwarg := none, defaults := [] }
def tBody (q1 q2 q3 q4 : Pos) : List Stmt := [.Assign [.Attribute (.Name "self" q1) "deed" q2] (.Name "deed" q3) q4]
def tScope : Scope := { kind := .function, names := [(Str.ofString "self", .local), (Str.ofString "deed", .local)], isGenerator := false, isCoroutine := false, more := [] }
structure Txt (K : Frag) (C fI : Addr) (qual : Str) : Prop where
  key : KeyC K C
  no : findIn K (.ref C) "deed" = some none
  ini : findIn K (.ref C) "__init__" = some (some (.ref fI))
  tyI : typeIn K (.ref fI) = some (.type "function")
  fn : ∃ (oc : Value) (od : Option Addr) (dV kV doc pm : Value) (an : Option Addr) (cdv ct : Value) (osl : Array (Option Value)) (p1 p2 q1 q2 q3 q4 : Pos),
    K.lookup fI = some ⟨oc, od, .func (fnOf "__init__" qual (tArgs p1 p2) (tBody q1 q2 q3 q4) tScope dV kV doc pm an cdv ct), osl⟩ ∧ codeIn K cdv qual = true ∧ dV = .none
/-- what a made one is -/
structure Made (h h' : Heap) (e C d : Addr) (v : Value) : Prop where
  keep : ∀ b o, h.get? b = some o → h'.get? b = some o
  new : h.objs.size ≤ e
  obj : ∃ oe vs, h'.get? e = some oe ∧ oe.cls = .ref C ∧ oe.dict = some d ∧ oe.data = .fields vs ∧ vs[1]? = some .none
  dbig : h.objs.size ≤ d
  dne : d ≠ e
  ns : h'.Ns1 d (fun y => if y = "deed" then some v else none)
section
variable {prog : Program} {w : World} {A : Around} {R : Result → Shared → Prop} {s : Shared} {K : Frag} {C fI : Addr} {qual : Str}
theorem inits (T : Txt K C fI qual) {x t0 : Addr} {v : Value} (X : K.In s.heap) (lim : s.heap.NoLimit) (hx : s.heap.get? x = some (excO C t0)) (room : A.depth < recursionLimit)
    (done : ∀ (h' : Heap) (tk : Nat) (dx : Addr), (∀ b o, b ≠ x → s.heap.get? b = some o → h'.get? b = some o) → h'.get? x = some { cls := .ref C, dict := some dx, data := .fields #[.ref t0, .none, .none, .none, .bool false, .none] } → s.heap.objs.size ≤ dx → dx ≠ x →
      h'.Ns1 dx (fun y => if y = "deed" then some v else none) → R (.ok (.ret .none)) { s with heap := h', toks := tk }) :
    codeAny (model prog w) A (.call (.ref fI) ⟨[.ref x, v], []⟩) R s := by
  obtain ⟨oc, od, dV, kV, doc, pm, an, cdv, ct, osl, p1, p2, q1, q2, q3, q4, lk, hcd, rfl⟩ := T.fn
  refine Att.call_fn (binds := [("self", .ref x), ("deed", v)]) X lim lk hcd room (BindsTo.of_eq (by first | rfl | with_unfolding_all rfl)) (by first | rfl | decide | with_unfolding_all rfl) (fun s1 IC => ?_) rfl rfl rfl
  obtain ⟨h1, tk1, rfl⟩ := IC.toInCall.same
  have keep : ∀ b o, s.heap.get? b = some o → h1.get? b = some o := IC.toInCall.keep
  have ns := IC.toInCall.ns
  show wpAny _ _ (execs _ _) _ _ _
  refine wpAny_execs_cons (plainObj_wpAny_Assign_Attribute ?_)
  refine ld_here (v := v) ns (by first | rfl | with_unfolding_all rfl | kernel_rfl) (ld_here (v := .ref x) ns (by first | rfl | with_unfolding_all rfl | kernel_rfl) ?_)
  refine set_plain (X.keeps keep) (ox := excO C t0) (od := none) ⟨keep _ _ hx, rfl, rfl, trivial⟩ T.key.sa ?_
  refine key_osa T.key (X.keeps keep) (keep _ _ hx) T.no (fun h3 tk3 dx k3 dn dne hx3 hn3 => ?_)
  show wpAny _ _ (execs _ _) _ _ _
  have z : s.heap.objs.size < h1.objs.size := ns.lt
  exact wpAny_execs_nil (done h3 tk3 dx (fun b o hb e => k3 b o hb (keep b o e)) hx3 (Nat.le_of_lt (Nat.lt_of_lt_of_le z dn)) dne hn3)
theorem makes (T : Txt K C fI qual) {v : Value} (X : K.In s.heap) (lim : s.heap.NoLimit) (room : A.depth + 1 < recursionLimit)
    (done : ∀ h' tk e d, Made s.heap h' e C d v → R (.ok (.ret (.ref e))) { s with heap := h', toks := tk }) : codeAny (model prog w) A (.call (.ref C) ⟨[v], []⟩) R s := by
  obtain ⟨nm, q, N, bs, sn, sub, ab, col, dd, k0, k1, k2, k3, k5, hC⟩ := T.key.cls
  obtain ⟨hp, gs, dr, tk, os⟩ := s
  have keep : ∀ b o, hp.get? b = some o → ((hp.push (kdv_tup [v])).push (excO C hp.objs.size)).get? b = some o := fun b o e => Heap.get?_push_of_some _ (Heap.get?_push_of_some _ e)
  have here : ((hp.push (kdv_tup [v])).push (excO C hp.objs.size)).get? (hp.objs.size + 1) = some (excO C hp.objs.size) := by heap_get
  refine key_call (X _ _ hC) (looks_findIn X T.ini) (fun self => bind_fn X self T.tyI) (one_fits v) ?_
  refine inits (s := ⟨(hp.push (kdv_tup [v])).push (excO C hp.objs.size), gs, dr, tk, os⟩) T (X.keeps keep) (lim.keeps keep) here ?_ fun h' tk' dx k' hx dn dne hns => ?_
  · show A.depth + 1 < recursionLimit
    exact room
  · have old : ∀ b o, hp.get? b = some o → h'.get? b = some o := fun b o e => k' b o (Nat.ne_of_lt (Nat.lt_succ_of_lt (Heap.lt_size e))) (keep b o e)
    have z : hp.objs.size + 1 + 1 ≤ dx := by
      have q := dn
      simp only [Heap.size_push] at q
      exact q
    exact ⟨rfl, done h' tk' (hp.objs.size + 1) dx ⟨old, Nat.le_succ _, ⟨_, _, hx, rfl, rfl, rfl, rfl⟩, Nat.le_trans (Nat.le_trans (Nat.le_succ _) (Nat.le_succ _)) z, dne, hns⟩⟩
end
end KD
end Kx
namespace Kx
namespace KD
open L2 PySem PySem.Spec PyProof.Rows
theorem rel_one {v : V} {v' : Value} (r : RelV v v') (y : Str) : RelO (List.lookup y [(("deed" : Str), v)]) (if y = "deed" then some v' else none) := by
  rw [lookup_put]
  by_cases h : y = "deed"
  · rw [if_pos h, if_pos h]
    exact r
  · rw [if_neg h, if_neg h]
    trivial
section
variable {X : Cx} {C fI : Addr} {qual x : Str}
/-- C(e) -/
def tMk (C : Addr) (ta : TA) : L2.St → Hp → XK → Prop := fun σ H Q => ta σ H fun vs H1 => ∃ v, vs = [v] ∧ ∀ d, H1 d = none → Q (.ref C) (some d) (upd H1 d (.xd [(("deed" : Str), v)]))
theorem pmk {a : Expr} {ta : TA} {p pos : Pos} {k : Nat} (T : Txt X.K C fI qual) (at_ : X.mg x = some (.ref C)) (hr : Room k X.A) (ha : PA X [a] ta) (hg : Gl X x) (hdb : (x == ("__debug__" : Str)) = false)
    (he : starEach (a :: []) X.env = (false, eval a X.env) :: starEach [] X.env) (hpl : (backTo pos (starEach [] X.env)).any (·.1) = false) : PMk X (.Call (.Name x p) [a] [] pos) (tMk C ta) := by
  intro pins s σ H Q I h
  refine wpAny_Call_Name_kw (ld_glob I hg at_ ?_ hdb)
  refine PySem.W.callWith_K (h₀ := X.base) I.ok.mod.kin T.key.kC (thn (ha.run pos pins s σ H _ I h) fun us s1 hh => ?_) he hpl
  obtain ⟨vs, H1, I1, r1, v, ev, q1⟩ := hh
  subst ev
  refine ⟨I1.kIn, ?_⟩
  obtain ⟨v', rfl, rv⟩ := vals1 r1
  show wpAny _ _ (call (.ref C) [v']) _ _ _
  have lim := I1.nolimit
  obtain ⟨hp, gs, dr, tk, os⟩ := s1
  refine wpAny_call (makes T I1.kIn lim (by have := hr.dp; omega) fun h' tk' e d M => ?_)
  show MkP X pins σ Q (.ref e) ⟨h', gs, dr, tk', os⟩
  obtain ⟨oe, fv, hoe, hc, hd, hdat, h1⟩ := M.obj
  have hns := M.ns
  obtain ⟨G, g1, g2⟩ := restrict h' fun b => decide (b ≠ e)
  have gk : ∀ b, b ≠ e → G.get? b = h'.get? b := fun b hb => g1 b (decide_eq_true hb)
  have ge : G.get? e = none := g2 e (by simp)
  have old : ∀ b o, hp.get? b = some o → G.get? b = some o := fun b o q => (gk b (Nat.ne_of_lt (Nat.lt_of_lt_of_le (Heap.lt_size q) M.new))).trans (M.keep b o q)
  have ob : ObjOk X.prog X.w (upd H1 d (.xd [(("deed" : Str), v)])) G d (.xd [(("deed" : Str), v)]) := ⟨_, hns.at (fun o q => (gk d M.dne).trans q), fun y => rel_one rv y⟩
  have J : Inv X pins σ (upd H1 d (.xd [(("deed" : Str), v)])) ⟨G, gs, dr, tk', os⟩ := I1.laid (t' := tk') old M.dbig ob
  refine ⟨e, oe, fv, ⟨G, gs, dr, tk', os⟩, _, .ref C, some d, rfl, J, fun b o q => ?_, ge, hoe, ⟨hc, hd⟩, hdat, h1, ?_, rfl, I1.bare, raises_own T.key.exC T.key.tyC, q1 d (I1.hok.fresh M.dbig)⟩
  · by_cases hb : b = e
    · have q' : G.get? b = some o := q
      rw [hb, ge] at q'
      cases q'
    · exact (gk b hb).symm.trans q
  · rw [upd_ne (Ne.symm M.dne)]
    exact I1.hok.fresh M.new
/-- raise C(e) -/
theorem ps_throw {a : Expr} {ta : TA} {W : WX} {p pos p2 : Pos} {k : Nat} (T : Txt X.K C fI qual) (at_ : X.mg x = some (.ref C)) (hc : X.calm = true) (hr : Room k X.A) (tk : Takes X W) (ha : PA X [a] ta) (hg : Gl X x := by rfl) (hdb : (x == ("__debug__" : Str)) = false := by decide)
    (he : starEach (a :: []) X.env = (false, eval a X.env) :: starEach [] X.env := by rfl) (hpl : (backTo pos (starEach [] X.env)).any (·.1) = false := by rfl) :
    PS X (.Raise (some (.Call (.Name x p) [a] [] pos)) none p2) (fun _ σ H => tMk C ta σ H fun cls d H' => W cls d σ H') := ps_raise hc tk (pmk T at_ hr ha hg hdb he hpl)
end
end KD
end Kx
/-! the text by places -/
namespace K1
open L2 PySem PySem.Spec PyProof.Rows Kx
def top (i : Nat) : Stmt := PySem.Challenge.pw_onewitness_k01_machines_and_what_is_none.main.body.getD i (.Pass ⟨0, 0, 0, 0⟩)
abbrev s_BadMachine_init : Stmt := inClass (top 2) 0
abbrev s_BadRow_init : Stmt := inClass (top 3) 0
abbrev s_NoState_init : Stmt := inClass (top 4) 0
abbrev s_NoDeed_init : Stmt := inClass (top 5) 0
abbrev s_is_number : Stmt := top 10
abbrev s_is_below : Stmt := top 11
abbrev s_is_sequence : Stmt := top 12
abbrev s_first_not_below : Stmt := top 13
abbrev s_row_of : Stmt := top 14
abbrev s_ended : Stmt := top 15
abbrev s_Machine_init : Stmt := inClass (top 17) 0
abbrev s_Machine_eq : Stmt := inClass (top 17) 1
abbrev s_is_table : Stmt := top 18
abbrev s_need_state : Stmt := top 19
abbrev s_need_deed : Stmt := top 20
abbrev s_check_row : Stmt := top 21
abbrev s_led : Stmt := top 22
abbrev s_in_coming_order : Stmt := top 23
abbrev s_reached : Stmt := top 24
abbrev s_law_box : Stmt := top 26
abbrev s_law_take : Stmt := top 27
abbrev s_law_pick : Stmt := top 28
abbrev s_law_tables : Stmt := top 29
abbrev s_law_run : Stmt := top 30
abbrev s_law_log : Stmt := top 31
abbrev s_law_heard : Stmt := top 32
abbrev s_law_others : Stmt := top 33
abbrev s_law_told_right : Stmt := top 34
abbrev s_law_none_right : Stmt := top 35
abbrev s_law : Stmt := top 36
abbrev FnP (K : PySem.W.Frag) (x : Str) (st : Stmt) (f : Addr) (fd : FuncData) : Prop := FunD K x x (defArgs st) (defBody st) (defScope st) [] [] f fd
/-- the built-in names that the module leaves alone, its numbers -/
structure Mg (mg : Str → Option Value) : Prop where
  z_KeyError : mg "KeyError" = none
  z_ValueError : mg "ValueError" = none
  z_abs : mg "abs" = none
  z_bool : mg "bool" = none
  z_enumerate : mg "enumerate" = none
  z_int : mg "int" = none
  z_isinstance : mg "isinstance" = none
  z_len : mg "len" = none
  z_list : mg "list" = none
  z_max : mg "max" = none
  z_min : mg "min" = none
  z_range : mg "range" = none
  z_repr : mg "repr" = none
  z_set : mg "set" = none
  z_sorted : mg "sorted" = none
  z_tuple : mg "tuple" = none
  g_DEEDS_MOST : ∃ t, mg "DEEDS_MOST" = some (.int 4 t)
  g_STATES_MOST : ∃ t, mg "STATES_MOST" = some (.int 8 t)
  g_ROW_MOST : ∃ t, mg "ROW_MOST" = some (.int 400 t)
theorem pe_constI {X : Cx} {x : Str} {i : Int} {pos : Pos} (h : ∃ t, X.mg x = some (.int i t)) (hg : Gl X x := by rfl) (hd : (x == ("__debug__" : Str)) = false := by decide) : PE X (.Name x pos) (tC (.int i)) := by
  obtain ⟨t, ht⟩ := h
  exact pe_glob hg ht ⟨t, rfl⟩ hd
theorem pe_ty {X : Cx} {x : Str} {n : String} {pos : Pos} (hm : X.mg x = none) (hv : bootBuiltins x = some (.type n)) (hg : Gl X x := by rfl) (hn : x ≠ "__name__" := by decide) (hd : (x == ("__debug__" : Str)) = false := by decide) : PE X (.Name x pos) (tC (.ty n)) :=
  pe_bltn hg hm hv rfl hn hd
theorem bt_int : bootBuiltins "int" = some (.type "int") := by decide +kernel
theorem bt_bool : bootBuiltins "bool" = some (.type "bool") := by decide +kernel
theorem bt_list : bootBuiltins "list" = some (.type "list") := by decide +kernel
theorem bt_tuple : bootBuiltins "tuple" = some (.type "tuple") := by decide +kernel
end K1
/-! t.count(k): a tuple known to have no attributes of its own; tuple(xs) makes such a one. -/
namespace Kx
open L2 PySem PySem.Spec PyProof.Rows
/-- a tuple without attributes -/
def TupD (H : Hp) (a : Addr) (xs : List V) : Prop := ∃ o : Obj, H a = some (.frz o (.tup xs)) ∧ o.dict = none
def SqD (K : PySem.W.Frag) (H : Hp) (a : Addr) (xs : List V) : Prop := SqL K H a xs ∨ TupD H a xs
section
variable {K : PySem.W.Frag} {H H' : Hp} {a : Addr} {xs : List V}
theorem TupD.sqT (h : TupD H a xs) : SqT K H a xs := h.elim fun o h => .inl (.inr ⟨o, h.1⟩)
theorem TupD.same (e : Same H H') (h : TupD H a xs) : TupD H' a xs := h.elim fun o h => ⟨o, e _ _ h.1, h.2⟩
theorem SqD.sq (h : SqD K H a xs) : Sq K H a xs := h.imp id TupD.sqT
theorem SqD.same (e : Same H H') (h : SqD K H a xs) : SqD K H' a xs := h.imp (sqL_same e) (TupD.same e)
end
section
variable {X : Cx}
/-- tuple(xs) -/
theorem call_tupD : CallR X (.type "tuple") (fun xs H Q => ∃ p ys, xs = [.ref p] ∧ SqD X.K H p ys ∧ ∀ q H', Same H H' → TupD H' q ys → Q (.ref q) H') := by
  intro pins st σ H xs us Q I r h
  obtain ⟨p, ys, rfl, h, q⟩ := h
  rcases h with hq | hq
  · obtain ⟨u, rfl, rx⟩ := vals1 r
    obtain rfl : u = .ref p := rx
    obtain ⟨its, rv, pl, fits⟩ := I.list hq
    have len := rv.length
    refine call_tuple_list pl.isList (fun mem kp => ?_) (by simp only [List.size_toArray]; omega)
    have J : Inv X pins σ H { st with heap := mem } := I.kept (t' := st.toks) kp
    have here := Heap.get?_push_size (h := mem) (o := { cls := .type "tuple", data := .seq its.toArray }) rfl
    have J2 : Inv X pins σ (upd H mem.objs.size (.frz { cls := .type "tuple", data := .seq its.toArray } (.tup ys))) { st with heap := mem.push { cls := .type "tuple", data := .seq its.toArray } } :=
      J.laid (t' := st.toks) (fun b o e => Heap.get?_push_of_some _ e) (Nat.le_refl _) ⟨here, fits, its, rv, IsTup.new _ _⟩
    exact ⟨.ref mem.objs.size, _, J2, rfl, q _ _ (same_new (J.hok.fresh (Nat.le_refl _))) ⟨_, upd_same, rfl⟩⟩
  · exact call_tuple_of pins st σ H _ us Q I r ⟨p, ys, rfl, .inr ⟨hq.sqT, q p H (Same.refl H) hq⟩⟩
/-- t.count(k) -/
def tCount (to : TE) (t : TA) : TE := fun σ H Q => to σ H fun x H1 => ∃ (p : Addr) (ns : List Int), x = .ref p ∧ TupD H1 p (ns.map V.int) ∧ t σ H1 fun ks H2 => ∃ k : Int, ks = [.int k] ∧ Same H1 H2 ∧ Q (.int (ns.count k : Nat)) H2
theorem pe_count {o e : Expr} {to : TE} {t : TA} {apos cpos : Pos} (ho : PE X o to) (ha : PA X [e] t)
    (hbase : attributeBase o "count" X.env (eval o X.env) = eval o X.env := by rfl)
    (hfew : ((backTo cpos (starEach [e] X.env)).all (fun x => !x.1) && (backToKw cpos (keywordEach [] X.env)).all (fun x => x.1.isSome) && decide ([e].length + ([] : List Keyword).length + (if ([] : List Keyword).isEmpty then 0 else 1) < 30)) = true := by rfl)
    (hline : (apos.endLine == cpos.line) = true := by exact rfl)
    (hs : starEach [e] X.env = (false, eval e X.env) :: starEach [] X.env := by rfl) (hplain : (backTo cpos (starEach [] X.env)).any (·.1) = false := by rfl) :
    PE X (.Call (.Attribute o "count" apos) [e] [] cpos) (tCount to t) := by
  refine ⟨fun pins st σ H Q I h => ?_⟩
  refine wpAny_Call_method_late hbase hfew hline rfl (thn (ho.run pins st σ H _ I h) fun v s1 ⟨x, H1, I1, r1, p, ns, ex, ⟨o, hp, od⟩, q1⟩ => ?_)
  subst ex
  obtain rfl : v = .ref p := r1
  obtain ⟨at_, _, its, rv, ⟨ot, ot1, ot2, _⟩⟩ := (show ObjOk X.prog X.w H1 s1.heap p (.frz o (.tup (ns.map V.int))) from I1.hok p _ hp)
  rw [at_] at ot1
  cases ot1
  refine ⟨"tuple", "tuple.count", PySem.F.plainAttrs_tuple, PySem.F.slot_tuple_count, PySem.F.type_tuple_count, ⟨o, at_, ot2⟩, fun a ea => ?_, ?_⟩
  · cases ea
    exact ⟨o, at_, od⟩
  have arg := ha.run cpos pins s1 σ H1 _ I1 q1
  rw [hs] at arg ⊢
  have plain : (false || (backTo cpos (starEach [] X.env)).any (·.1)) = false := by rw [hplain] <;> rfl
  refine Calls.callWith_builtin plain (Calls.evalArgs_plain ?_)
  refine thn arg fun us s2 ⟨ks, H2, I2, r2, k, ek, sm, q2⟩ => ?_
  subst ek
  obtain ⟨u, rfl, ru⟩ := r2.one
  obtain ⟨tk, rfl⟩ := ru
  obtain ⟨o2, hp2, od2⟩ := TupD.same sm (show TupD H1 p (ns.map V.int) from ⟨o, hp, od⟩)
  obtain ⟨at2, _, its2, rv2, ⟨ot2', ot3, ot4, n2, ot5⟩⟩ := (show ObjOk X.prog X.w H2 s2.heap p (.frz o2 (.tup (ns.map V.int))) from I2.hok p _ hp2)
  rw [at2] at ot3
  cases ot3
  obtain ⟨cls, dct, data, slo⟩ := o2
  simp only at ot4 ot5
  subst ot4 ot5
  have hi := ints_of_vals rv2
  refine call_meets PySem.F.slot_tuple_count ⟨_, at2, rfl⟩ PySem.F.entry_tuple_count (PySem.F.args_tuple_count_2 _ _)
    (SeqAt.tuple_countAt p its2.toArray n2 dct slo (.int k tk) (eqk k)) ⟨at2, fun y hy => (eqk_gives hi y (by simpa using hy)).at _ _, ?_⟩
  have ec : its2.toArray.toList.countP (eqk k) = ns.count k := eqk_count hi
  refine ⟨.int (ns.count k : Nat), H2, I2.tok _, ⟨s2.toks, ?_⟩, q2⟩
  rw [ec]
end
end Kx
/-! a tuple, that is not empty, times 0, 1, more -/
namespace Kx
open L2 PySem PySem.Spec PyProof.Rows
theorem times_one (t : Addr) (its : Array Value) (n : Nat) (dct : Option Addr) (slo : Array (Option Value)) (tk : Tok) :
    Meets (Builtin.«tuple.__mul__» ⟨[.ref t, .int 1 tk], []⟩) (fun _ R s => s.heap.get? t = some { cls := .type "tuple", dict := dct, data := .seq its n, slots := slo } ∧ R (.ok (.ret (.ref t))) s) :=
  .of_wp fun prog wo A R s h => by
    obtain ⟨mem, g, d, k, os⟩ := s
    obtain ⟨here, h⟩ := h
    have idx := AutoSeq1.idx_int
    have yes : (its.isEmpty || (1 : Int) == 1) = true := by rw [Bool.or_eq_true]; exact .inr rfl
    wp_walk using wpAny_loadPart' here
    repeat (first
      | (refine wpAny_ite_false (by decide) ?_; wp_walk using wpAny_loadPart' here)
      | (refine wpAny_ite_true (decide_eq_true yes) ?_; wp_walk using wpAny_loadPart' here))
    exact ⟨_, rfl, h⟩
theorem times_nought (t : Addr) (its : Array Value) (n : Nat) (dct : Option Addr) (slo : Array (Option Value)) (tk : Tok) (some_ : its.isEmpty = false) :
    Meets (Builtin.«tuple.__mul__» ⟨[.ref t, .int 0 tk], []⟩) (fun _ R s => s.heap.get? t = some { cls := .type "tuple", dict := dct, data := .seq its n, slots := slo } ∧ R (.ok (.ret (.ref s.heap.objs.size))) { s with heap := s.heap.push { cls := .type "tuple", data := .seq #[] } }) :=
  .of_wp fun prog wo A R s h => by
    obtain ⟨mem, g, d, k, os⟩ := s
    obtain ⟨here, h⟩ := h
    have idx := AutoSeq1.idx_int
    have no : (its.isEmpty || (0 : Int) == 1) = false := by rw [some_]; rfl
    have yes : (decide ((0 : Int) ≤ 0) || its.isEmpty) = true := rfl
    wp_walk using wpAny_loadPart' here
    repeat (first
      | (refine wpAny_ite_false (by decide) ?_; wp_walk using wpAny_loadPart' here)
      | (refine wpAny_ite_false (decide_eq_false (by rw [no]; exact Bool.false_ne_true)) ?_; wp_walk using wpAny_loadPart' here)
      | (refine wpAny_ite_true (decide_eq_true yes) ?_; wp_walk using wpAny_loadPart' here))
    exact ⟨_, rfl, h⟩
/-- t * k, t not empty -/
def rTimes (K : PySem.W.Frag) : R2 := fun x y H Q => ∃ (t : Addr) (k : Nat) (xs : List V), x = .ref t ∧ y = .int (k : Int) ∧ SqT K H t xs ∧ xs ≠ [] ∧ k ≤ 1000 ∧ xs.length ≤ 1000 ∧
  ∀ p H', Same H H' → SqT K H' p (List.replicate k xs).flatten → Q (.ref p) H'
theorem op_times {X : Cx} : OpR X (binaryOp .Mult) (rTimes X.K) := by
  intro pins st σ H x y v u Q I rx ry h
  obtain ⟨t, k, xs, rfl, rfl, hT, ne, hk, hz, q⟩ := h
  match k with
  | k + 2 =>
    refine op_repT pins st σ H _ _ v u Q I rx ry ⟨t, _, xs, rfl, rfl, hT, ne, by omega, by omega, hz, fun p hp => ?_⟩
    exact q p _ (same_new hp) (SqT.of upd_same)
  | 1 =>
    cases rx
    obtain ⟨tk, rfl⟩ := ry
    obtain ⟨its, r, ⟨⟨cls, dct, data, slo⟩, ho, hc, n, hd⟩, hs⟩ := I.tuple hT
    simp only at hc hd
    subst hc hd
    refine wpAny_binaryOp_repeat_ref (T := "tuple") (U := "int") (by decide) ⟨_, ho, rfl⟩ (fun s' => typeIs_int s' 1 tk) noFill_tuple_mul F.fills_int_mul F.slot_int_rmul repeat_tuple F.slot_int_index.lookup
      (call_meets F.slot_int_rmul (typeIs_int st 1 tk) F.entry_int_rmul (F.args_int_rmul_2 _ _) (int_rmul_tuple 1 tk t its.toArray n dct slo)
        ⟨ho, rfl, ⟨_, ho, rfl⟩, call_meets F.slot_tuple_mul ⟨_, ho, rfl⟩ F.entry_tuple_mul (F.args_tuple_mul_2 _ _) (times_one t its.toArray n dct slo tk) ⟨ho, ?_⟩⟩)
    have e : (List.replicate 1 xs).flatten = xs := by simp
    rw [e] at q
    exact ⟨.ref t, H, I, rfl, q t H (Same.refl H) hT⟩
  | 0 =>
    cases rx
    obtain ⟨tk, rfl⟩ := ry
    obtain ⟨its, r, ⟨⟨cls, dct, data, slo⟩, ho, hc, n, hd⟩, hs⟩ := I.tuple hT
    simp only at hc hd
    subst hc hd
    have full : its.toArray.isEmpty = false := by
      cases its with
      | nil =>
        cases r
        exact absurd rfl ne
      | cons a b => rfl
    refine wpAny_binaryOp_repeat_ref (T := "tuple") (U := "int") (by decide) ⟨_, ho, rfl⟩ (fun s' => typeIs_int s' 0 tk) noFill_tuple_mul F.fills_int_mul F.slot_int_rmul repeat_tuple F.slot_int_index.lookup
      (call_meets F.slot_int_rmul (typeIs_int st 0 tk) F.entry_int_rmul (F.args_int_rmul_2 _ _) (int_rmul_tuple 0 tk t its.toArray n dct slo)
        ⟨ho, rfl, ⟨_, ho, rfl⟩, call_meets F.slot_tuple_mul ⟨_, ho, rfl⟩ F.entry_tuple_mul (F.args_tuple_mul_2 _ _) (times_nought t its.toArray n dct slo tk full) ⟨ho, ?_⟩⟩)
    refine ⟨.ref st.heap.objs.size, _, I.laid (t' := st.toks) (o := .tup []) (fun b ob q => Heap.get?_push_of_some _ q) (Nat.le_refl _) ?_, rfl, q _ _ (same_new (I.hok.fresh (Nat.le_refl _))) (SqT.of upd_same)⟩
    exact ⟨Nat.zero_le _, _, .nil, IsTup.new _ _⟩
end Kx
/-! an own ==, and the != that comes of it: both answers. -/
namespace Kx
open L2 PySem PySem.Spec PyProof.Rows
/-- x == y (x != y), x an instance of the class at C, y another one or a tuple: what its own == promises, by k the answer -/
def rOwnAsk (K : PySem.W.Frag) (C : Addr) (sp : Sp) (E : XK) (neg : Bool) : R2 := fun x y H Q => ∃ (a b dx : Addr) (fs : List (Str × V)), x = .ref a ∧ y = .ref b ∧ H a = some (.ins C dx fs) ∧
  ((∃ (dy : Addr) (gs : List (Str × V)), H b = some (.ins C dy gs)) ∨ (neg = false ∧ (∃ ys, SqT K H b ys) ∧ PySem.W.notFirst K C (.type "tuple") = true)) ∧
  sp [x, y] H (fun v H' => ∃ k, v = .bl k ∧ Q (.bl (neg != k)) H') E
/-- what ==, != ask of the class at C, whose own == is at f -/
structure EqC (K : PySem.W.Frag) (C f : Addr) : Prop where
  eq : PySem.W.findIn K (.ref C) "__eq__" = some (some (.ref f))
  isFn : PySem.W.isFn K (.ref f) = true
  ne : ∃ (nm q : Str) (N : Addr) (bs : List Value) (hdct : Bool) (sn : List Str) (sub : List Value) (ab : Bool) (col : Option Bool) (dd : Option Addr) (k0 k1 k2 k3 k5 : Option Value) (newId : String) (oN oF : Obj) (es : Array DictEntry) (ep : Nat),
    K.lookup C = some (excClassObj nm q C N bs [.type "object"] hdct sn sub ab col dd k0 k1 k2 k3 k5 newId) ∧ K.lookup N = some oN ∧ oN.data = .dict es ep ∧ StrKeys es ∧ nsFind es "__eq__" = some (.ref f) ∧ nsFind es "__ne__" = none ∧ K.lookup f = some oF ∧ oF.cls = .type "function"
section
variable {X : Cx} {CX : CXT} {C f : Addr} {fd : FuncData} {ps : List Str} {n : Nat} {sp : Sp} {E : XK}
theorem own_eq (F : FnOk X.prog X.w X.K X.mg X.base CX n f fd ps sp) (T : EqC X.K C f) (hb : Binds X.K fd ps []) (hr : Room n X.A) (hx : Passes CX X E) : OpR X (compareOp .Eq) (rOwnAsk X.K C sp E false) := by
  intro pins st σ H x y v u Q I rx ry h
  obtain ⟨a, b, dx, fs, rfl, rfl, ha, hy, q⟩ := h
  obtain rfl : v = .ref a := rx
  obtain rfl : u = .ref b := ry
  obtain ⟨m1, J, _⟩ := ins_get I.hok ha
  obtain ⟨od, J, _⟩ := J.look
  obtain ⟨m, hF⟩ := I.fr
  have go : wpAny (model X.prog X.w) X.A (call (.ref f) [.ref a, .ref b]) (PySem.W.CmpBack (EP X pins σ Q)) X.xe st := by
    have hl := F.len _ _ _ _ q
    have both : Vals [V.ref a, V.ref b] [.ref a, .ref b] := .cons rfl (.cons rfl .nil)
    refine wpAny_call (codeAny_mono (F.run X.A X.stack st H ⟨[.ref a, .ref b], []⟩ [.ref a, .ref b] [.ref a, .ref b] _ E hr I.env0 (by
      have := hb st [.ref a, .ref b] I.kIn (by simpa using hl)
      simpa using this) both q) fun r s' z => ?_)
    match r, z with
    | .error e, z => exact hx pins σ H st e s' I z
    | .ok (.ret w), z =>
      obtain ⟨z', H', I', rz, k, ez, qz⟩ := I.after z
      subst ez
      cases rz
      refine (show EP X pins σ Q (.bool k) s' from ⟨.bl k, H', I', rfl, ?_⟩)
      have e : (false != k) = k := by cases k <;> rfl
      rw [e] at qz
      exact qz
    | .ok .next, z => exact z.elim
    | .ok .brk, z => exact z.elim
    | .ok .cont, z => exact z.elim
  show wpAny (model X.prog X.w) X.A (richCompare .Eq (.ref a) (.ref b)) (EP X pins σ Q) X.xe st
  rcases hy with ⟨dy, gs, hb'⟩ | ⟨_, ⟨ys, hT⟩, nf⟩
  · obtain ⟨m2, J2, _⟩ := ins_get I.hok hb'
    obtain ⟨od2, J2, _⟩ := J2.look
    exact PySem.W.cmp_K (op := .Eq) (tb := .ref C) hr.units0 hF I.ok.mod.kin J J2.type (by simp [PySem.W.notFirst]) T.eq T.isFn go
  · obtain ⟨its, _, ⟨o, ho, hc, _⟩, _⟩ := I.tuple hT
    exact PySem.W.cmp_K (op := .Eq) (tb := .type "tuple") hr.units0 hF I.ok.mod.kin J (fun A' Q' E' s' kp q' => wpAny_typeOf_ref (kp _ _ ho) (by rw [hc]; exact q')) nf T.eq T.isFn go
theorem own_ne (F : FnOk X.prog X.w X.K X.mg X.base CX n f fd ps sp) (T : EqC X.K C f) (hb : Binds X.K fd ps []) (hr : Room (n + 1) X.A) (hx : Passes CX X E) : OpR X (compareOp .NotEq) (rOwnAsk X.K C sp E true) := by
  intro pins st σ H x y v u Q I rx ry h
  obtain ⟨a, b, dx, fs, rfl, rfl, ha, hy, q⟩ := h
  obtain rfl : v = .ref a := rx
  obtain rfl : u = .ref b := ry
  obtain ⟨dy, gs, hb'⟩ : ∃ (dy : Addr) (gs : List (Str × V)), H b = some (.ins C dy gs) := hy.elim id fun z => nomatch z.1
  obtain ⟨m1, J, _⟩ := ins_get I.hok ha
  obtain ⟨m2, J2, _⟩ := ins_get I.hok hb'
  obtain ⟨od, J, _⟩ := J.look
  obtain ⟨od2, J2, _⟩ := J2.look
  obtain ⟨nm, qn, N, bs, hdct, sn, sub, ab, col, dd, k0, k1, k2, k3, k5, newId, oN, oF, es, ep, hC, hN, dN, sk, e1, e2, hF, cF⟩ := T.ne
  have O : st.heap.OwnEqNoNe a C f "object" [.type "object"] := ⟨_, oF, nm, qn, N, bs, hdct, sn, sub, ab, col, dd, k0, k1, k2, k3, k5, newId, fun y => nsFind es y, _, J.at_, J.cls, I.kIn _ _ hC, ⟨oN, es, ep, I.kIn _ _ hN, dN, sk, fun _ => rfl⟩, e1, I.kIn _ _ hF, cF, PySem.F.cmp_object.mro, PySem.F.cmp_object.eq.lookup, e2⟩
  obtain ⟨hp, g, d, t, os⟩ := st
  refine compareOp_ne_ownEq PySem.F.cmp_object O J2.at_ J2.cls (by have := hr.un; omega) ?_
  have hl := F.len _ _ _ _ q
  have both : Vals [V.ref a, V.ref b] [.ref a, .ref b] := .cons rfl (.cons rfl .nil)
  refine wpAny_call (codeAny_mono (F.run X.A.in1 X.stack _ H ⟨[.ref a, .ref b], []⟩ [.ref a, .ref b] [.ref a, .ref b] _ E hr.in1 I.env0.in1 (by
    have := hb ⟨hp, g, d, t, os⟩ [.ref a, .ref b] I.kIn (by simpa using hl)
    simpa using this) both q) fun r s' z => ?_)
  match r, z with
  | .error e, z => exact hx pins σ H _ e s' I z
  | .ok (.ret w), z =>
    obtain ⟨z', H', I', rz, k, ez, qz⟩ := I.after z
    subst ez
    cases rz
    refine ⟨k, rfl, .bl (!k), H', I', rfl, ?_⟩
    have e : (true != k) = !k := by cases k <;> rfl
    rw [e] at qz
    exact qz
  | .ok .next, z => exact z.elim
  | .ok .brk, z => exact z.elim
  | .ok .cont, z => exact z.elim
end
end Kx
/-! tuples of whole numbers, and tuples of such: as data, ==, != -/
namespace Kx
open L2 PySem PySem.Spec PyProof.Rows
abbrev dNums (ns : List Int) : PyData := .tuple (ns.map PyData.int)
abbrev dRows (rs : List (List Int)) : PyData := .tuple (rs.map dNums)
theorem dpAll_nums {K : PySem.W.Frag} {H : Hp} : ∀ (ns : List Int), DpAll K H (ns.map V.int) (ns.map PyData.int)
  | [] => .nil
  | n :: ns => .cons (.int n) (dpAll_nums ns)
theorem dp_nums {K : PySem.W.Frag} {H : Hp} {a : Addr} {ns : List Int} (h : SqT K H a (ns.map V.int)) : Dp K H (.ref a) (dNums ns) := .tup h (dpAll_nums ns)
theorem lay_nums : ∀ (ns : List Int), PyData.canLayAll0 (ns.map PyData.int) = true
  | [] => by simp only [List.map_nil, PyData.canLayAll0]
  | n :: ns => by simp only [List.map_cons, PyData.canLayAll0, PyData.canLay0, lay_nums ns, Bool.and_self]
theorem deep_nums : ∀ (ns : List Int), PyData.depthAll (ns.map PyData.int) = 0
  | [] => by simp only [List.map_nil, PyData.depthAll]
  | n :: ns => by simp only [List.map_cons, PyData.depthAll, PyData.depth, deep_nums ns, Nat.max_self]
theorem shaped_nums (ns : List Int) : SeqAt.shaped (dNums ns) = true := by
  unfold SeqAt.shaped
  simp only [PyData.canLay0, PyData.depth, lay_nums, deep_nums]
  decide
theorem eqv_nums : ∀ (xs ys : List Int), PyData.eqvAll (xs.map PyData.int) (ys.map PyData.int) = decide (xs = ys)
  | [], ys => by cases ys <;> simp [PyData.eqvAll]
  | n :: ns, [] => by simp [PyData.eqvAll]
  | x :: xs, y :: ys => by
    simp only [List.map_cons, PyData.eqvAll, PyData.eqv, eqv_nums xs ys]
    rw [Bool.eq_iff_iff]
    simp
theorem lay_rows : ∀ (rs : List (List Int)), PyData.canLayAll0 (rs.map dNums) = true
  | [] => by simp only [List.map_nil, PyData.canLayAll0]
  | n :: ns => by simp only [List.map_cons, PyData.canLayAll0, PyData.canLay0, lay_nums, lay_rows ns, Bool.and_self]
theorem deep_rows : ∀ (rs : List (List Int)), PyData.depthAll (rs.map dNums) ≤ 1
  | [] => by simp only [List.map_nil, PyData.depthAll]; decide
  | n :: ns => by
    have := deep_rows ns
    simp only [List.map_cons, PyData.depthAll, PyData.depth, deep_nums]
    omega
theorem shaped_rows (rs : List (List Int)) : SeqAt.shaped (dRows rs) = true := by
  unfold SeqAt.shaped
  have := deep_rows rs
  simp only [PyData.canLay0, PyData.depth, lay_rows, Bool.true_and]
  exact decide_eq_true (show _ ≤ 64 by omega)
theorem eqv_rows : ∀ (xs ys : List (List Int)), PyData.eqvAll (xs.map dNums) (ys.map dNums) = decide (xs = ys)
  | [], ys => by cases ys <;> simp [PyData.eqvAll]
  | n :: ns, [] => by simp [PyData.eqvAll]
  | x :: xs, y :: ys => by
    simp only [List.map_cons, PyData.eqvAll, PyData.eqv, eqv_nums x y, eqv_rows xs ys]
    rw [Bool.eq_iff_iff]
    simp
/-- t == u, t != u: tuples of whole numbers -/
def rNumsEq (K : PySem.W.Frag) (neg : Bool) : R2 := fun x y H Q => ∃ (a b : Addr) (xs ys : List Int), x = .ref a ∧ y = .ref b ∧ SqT K H a (xs.map V.int) ∧ SqT K H b (ys.map V.int) ∧ Q (.bl (neg != decide (xs = ys))) H
theorem op_eqNums {X : Cx} (hu : X.A.units + 64 < cLine) : OpR X (compareOp .Eq) (rNumsEq X.K false) := by
  intro pins st σ H x y v u Q I rx ry h
  obtain ⟨a, b, xs, ys, rfl, rfl, h1, h2, q⟩ := h
  refine op_eqD hu pins st σ H _ _ v u Q I rx ry ⟨_, _, dp_nums h1, dp_nums h2, shaped_nums xs, shaped_nums ys, ?_⟩
  simp only [PyData.eqv, eqv_nums]
  rwa [Bool.false_bne] at q
theorem op_neNums {X : Cx} (hu : X.A.units + 64 < cLine) : OpR X (compareOp .NotEq) (rNumsEq X.K true) := by
  intro pins st σ H x y v u Q I rx ry h
  obtain ⟨a, b, xs, ys, rfl, rfl, h1, h2, q⟩ := h
  refine op_neD hu pins st σ H _ _ v u Q I rx ry ⟨_, _, dp_nums h1, dp_nums h2, shaped_nums xs, shaped_nums ys, ?_⟩
  simp only [PyData.eqv, eqv_nums]
  rwa [Bool.true_bne] at q
end Kx
/-! numbers, sequences, rows -/
namespace K1
open PySem PySem.Spec PyProof.Rows L2 Kx
def isNum : V → Bool
  | .int i => decide (0 ≤ i)
  | _ => false
def isBel (l : Int) : V → Bool
  | .int i => decide (0 ≤ i) && decide (i < l)
  | _ => false
/-- what a value of known kind is as a sequence: its items, none where it is none -/
inductive Long (K : PySem.W.Frag) (H : Hp) : V → Option (List V) → Prop
  | seq {a : Addr} {xs : List V} (h : Sq K H a xs) : Long K H (.ref a) (some xs)
  | non : Long K H .non none
  | bl (b : Bool) : Long K H (.bl b) none
  | int (i : Int) : Long K H (.int i) none
  | str (x : Str) : Long K H (.str x) none
def inLen (l m : Int) : Option (List V) → Bool
  | some xs => decide (l ≤ (xs.length : Int)) && decide ((xs.length : Int) ≤ m)
  | none => false
theorem Long.same {K : PySem.W.Frag} {H H' : Hp} {v : V} {o : Option (List V)} (e : Same H H') (h : Long K H v o) : Long K H' v o := by
  cases h with
  | seq q => exact .seq (q.same e)
  | non => exact .non
  | bl b => exact .bl b
  | int i => exact .int i
  | str x => exact .str x
theorem Kn.long {K : PySem.W.Frag} {H : Hp} {v : V} (h : Kn K H v) : ∃ o, Long K H v o := by
  cases h with
  | seq q => exact ⟨_, .seq q⟩
  | non => exact ⟨_, .non⟩
  | bl b => exact ⟨_, .bl b⟩
  | int i => exact ⟨_, .int i⟩
  | str x => exact ⟨_, .str x⟩
theorem Long.kn {K : PySem.W.Frag} {H : Hp} {v : V} {o : Option (List V)} (h : Long K H v o) : Kn K H v := by
  cases h with
  | seq q => exact .seq q
  | non => exact .non
  | bl b => exact .bl b
  | int i => exact .int i
  | str x => exact .str x
/-- the first item that is not below l -/
def fnb (l : Int) : List V → Option Nat
  | [] => none
  | x :: xs => if isBel l x = true then (fnb l xs).map (· + 1) else some 0
def optV : Option Nat → V
  | some n => .int n
  | none => .non
/-- none: a row of deeds below n; else where it is wrong -/
def rowAt (n : Int) : Option (List V) → Option Int
  | some xs => if xs.length ≤ 400 then (fnb n xs).map (fun (i : Nat) => (i : Int)) else some (-1)
  | none => some (-1)
/-- every item is of a known kind, where the sequence is no longer than m -/
def Kns (K : PySem.W.Frag) (H : Hp) (o : Option (List V)) (m : Nat) : Prop := ∀ xs, o = some xs → xs.length ≤ m → ∀ x ∈ xs, Kn K H x
theorem Kns.same {K : PySem.W.Frag} {H H' : Hp} {o : Option (List V)} {m : Nat} (e : Same H H') (h : Kns K H o m) : Kns K H' o m := fun xs q l x hx => (h xs q l x hx).same e
/-- an error C of the one field f is raised -/
def Thrown (E : XK) (H : Hp) (C : Addr) (f : Str) (v : V) : Prop := ∀ d H', Same H H' → H' d = some (.xd [(f, v)]) → E (.ref C) (some d) H'
theorem Thrown.same {E : XK} {H H' : Hp} {C : Addr} {f : Str} {v : V} (e : Same H H') (h : Thrown E H C f v) : Thrown E H' C f v := fun d H2 e2 q => h d H2 (e.trans e2) q
theorem Thrown.at_ {E : XK} {H : Hp} {C : Addr} {f : Str} {v : V} (h : Thrown E H C f v) : ∀ d, H d = none → E (.ref C) (some d) (upd H d (.xd [(f, v)])) := fun d q => h d _ (same_new q) upd_same
theorem fnb_none {l : Int} : ∀ {xs : List V}, fnb l xs = none ↔ ∀ x ∈ xs, isBel l x = true
  | [] => by simp [fnb]
  | x :: xs => by
    unfold fnb
    by_cases h : isBel l x = true
    · rw [if_pos h, Option.map_eq_none_iff, fnb_none]
      exact ⟨fun q y hy => (List.mem_cons.mp hy).elim (fun e => e ▸ h) (q y), fun q y hy => q y (List.mem_cons_of_mem _ hy)⟩
    · rw [if_neg h]
      exact ⟨fun q => (nomatch q), fun q => absurd (q x (List.mem_cons_self ..)) h⟩
theorem fnb_some {l : Int} : ∀ {xs : List V} {i : Nat}, (∀ j x, j < i → xs[j]? = some x → isBel l x = true) → (∃ x, xs[i]? = some x ∧ isBel l x = false) → fnb l xs = some i
  | [], i, _, h => by obtain ⟨x, h, _⟩ := h; simp at h
  | x :: xs, 0, _, h => by
    obtain ⟨y, h1, h2⟩ := h
    have e : x = y := by simpa using h1
    unfold fnb
    rw [e, if_neg (by rw [h2]; exact Bool.false_ne_true)]
  | x :: xs, i + 1, hl, h => by
    unfold fnb
    rw [if_pos (hl 0 x (Nat.succ_pos i) rfl), fnb_some (i := i) (fun j y hj hy => hl (j + 1) y (Nat.succ_lt_succ hj) (by simpa using hy)) (by simpa using h)]
    rfl
/-- the errors' classes -/
structure Ad where
  cM : Addr
  cR : Addr
  cN : Addr
  iN : Addr
  cD : Addr
  iD : Addr
/-- what the module holds of its errors -/
structure Er (P : Program) (w : World) (K : PySem.W.Frag) (mg : Str → Option Value) (base : Heap) (a : Ad) : Prop where
  BadMachine : ErrC P w K mg base 1 "BadMachine" "at" a.cM
  BadRow : ErrC P w K mg base 1 "BadRow" "at" a.cR
  NoState : KS.Txt K a.cN a.iN "NoState.__init__"
  n_NoState : mg "NoState" = some (.ref a.cN)
  NoDeed : KD.Txt K a.cD a.iD "NoDeed.__init__"
  n_NoDeed : mg "NoDeed" = some (.ref a.cD)
def spNumber (K : PySem.W.Frag) : Sp := fun vs H Q _ => ∃ v, vs = [v] ∧ Kn K H v ∧ Q (.bl (isNum v)) H
def spBelow (K : PySem.W.Frag) : Sp := fun vs H Q _ => ∃ v l, vs = [v, .int l] ∧ Kn K H v ∧ Q (.bl (isBel l v)) H
def spSeq (K : PySem.W.Frag) : Sp := fun vs H Q _ => ∃ v l m o, vs = [v, .int l, .int m] ∧ Long K H v o ∧ ∀ H', Same H H' → Q (.bl (inLen l m o)) H'
def spFnb (K : PySem.W.Frag) : Sp := fun vs H Q _ => ∃ a xs l, vs = [.ref a, .int l] ∧ Sq K H a xs ∧ (∀ x ∈ xs, Kn K H x) ∧ ∀ H', Same H H' → Q (optV (fnb l xs)) H'
def spRowOf (K : PySem.W.Frag) (a : Ad) : Sp := fun vs H Q E => ∃ v o n, vs = [v, .int n] ∧ Long K H v o ∧ Kns K H o 400 ∧ (∀ i, rowAt n o = some i → Thrown E H a.cR "at" (.int i)) ∧
  (rowAt n o = none → ∃ b xs, v = .ref b ∧ o = some xs ∧ SqD K H b xs ∧ ∀ p H', Same H H' → TupD H' p xs → Q (.ref p) H')
/-- the type's name of such a value, where it is no int -/
theorem kn_ty {K : PySem.W.Frag} {H : Hp} {v : V} (h : Kn K H v) : (∃ i, v = .int i) ∨ ∃ n : String, TyX K H v (.type n) ∧ (n = "NoneType" ∨ n = "bool" ∨ n = "str" ∨ n = "list" ∨ n = "tuple") ∧ isNum v = false ∧ ∀ l, isBel l v = false := by
  cases h with
  | int i => exact .inl ⟨i, rfl⟩
  | non => exact .inr ⟨_, .base .non, by simp, rfl, fun _ => rfl⟩
  | bl b => exact .inr ⟨_, .base (.bl b), by simp, rfl, fun _ => rfl⟩
  | str x => exact .inr ⟨_, .base (.str x), by simp, rfl, fun _ => rfl⟩
  | seq q =>
    rcases q with q | q
    · exact .inr ⟨_, tyx_list q, by simp, rfl, fun _ => rfl⟩
    · exact .inr ⟨_, tyx_tuple q, by simp, rfl, fun _ => rfl⟩
theorem kit_int {K : PySem.W.Frag} {n : String} (h : n = "NoneType" ∨ n = "bool" ∨ n = "str" ∨ n = "list" ∨ n = "tuple") : ∃ b, PySem.W.kitOne K (.type n) (.type "int") = some b ∧ (b = true → PySem.W.kitOne K (.type n) (.type "bool") = some true) := by
  rcases h with rfl | rfl | rfl | rfl | rfl
  · exact ⟨false, kit_ty (by decide +kernel), fun z => nomatch z⟩
  · exact ⟨true, kit_ty (by decide +kernel), fun _ => kit_ty (by decide +kernel)⟩
  · exact ⟨false, kit_ty (by decide +kernel), fun z => nomatch z⟩
  · exact ⟨false, kit_ty (by decide +kernel), fun z => nomatch z⟩
  · exact ⟨false, kit_ty (by decide +kernel), fun z => nomatch z⟩
section
variable {P : Program} {w : World} {K : PySem.W.Frag} {mg : Str → Option Value} {base : Heap} {f : Addr} {fd : FuncData} {a : Ad}
theorem scis_number : FnScope ["value"] ["value"] (defScope s_is_number) := ⟨rfl, rfl, rfl, by decide +kernel, rfl, by decide +kernel, by decide +kernel⟩
theorem ok_is_number (F : FnP K "is_number" s_is_number f fd) (T : Mg mg) : FnOk P w K mg base CX0 1 f fd ["value"] (spNumber K) := by
  refine F.ok scis_number (fun vs H Q E h => ?_) (fun cdv A outer s H vs Q E hr h => ?_)
  · obtain ⟨v, rfl, _⟩ := h
    rfl
  · obtain ⟨v, rfl, hv, k⟩ := h
    refine ⟨_, PSs.nox (pss_one (ps_ret (pe_and (pe_callB call_isi (by rfl) T.z_isinstance (by decide +kernel) (pa_cons (pv 0) (pa_cons (pe_ty T.z_int bt_int) pa_nil))) (pe_and (pe_not (pe_callB call_isi (by rfl) T.z_isinstance (by decide +kernel) (pa_cons (pv 0) (pa_cons (pe_ty T.z_bool bt_bool) pa_nil)))) (pe_one (pe_cmpR op_ge (pv 0) pe_int (nomark _))))))), ?_⟩
    rcases kn_ty hv with ⟨i, rfl⟩ | ⟨n, ht, hn, e, _⟩
    · refine ⟨_, rfl, _, .ty "int", _, _, true, rfl, .ty _, .base (.int i), kit_ty (by decide +kernel), true, rfl, iteT ?_⟩
      refine ⟨_, rfl, _, .ty "bool", _, _, false, rfl, .ty _, .base (.int i), kit_ty (by decide +kernel), false, rfl, true, rfl, iteT ⟨_, rfl, _, _, rfl, rfl, ?_⟩⟩
      exact k
    · obtain ⟨b, hb, hb2⟩ := kit_int (K := K) hn
      rw [e] at k
      refine ⟨_, rfl, _, .ty "int", _, _, b, rfl, .ty _, ht, hb, b, rfl, ?_⟩
      cases b with
      | false => exact iteF k
      | true => exact iteT ⟨_, rfl, _, .ty "bool", _, _, true, rfl, .ty _, ht, hb2 rfl, true, rfl, false, rfl, iteF k⟩
theorem sc_is_below : FnScope ["value", "limit"] ["value", "limit"] (defScope s_is_below) := ⟨rfl, rfl, rfl, by decide +kernel, rfl, by decide +kernel, by decide +kernel⟩
theorem ok_is_below (F : FnP K "is_below" s_is_below f fd) (T : Mg mg) (c_is_number : Cal P w K mg base CX0 1 "is_number" ["value"] (spNumber K)) : FnOk P w K mg base CX0 2 f fd ["value", "limit"] (spBelow K) := by
  refine F.ok sc_is_below (fun vs H Q E h => ?_) (fun cdv A outer s H vs Q E hr h => ?_)
  · obtain ⟨v, l, rfl, _⟩ := h
    rfl
  · obtain ⟨v, l, rfl, hv, k⟩ := h
    refine ⟨_, PSs.nox (pss_one (ps_ret (pe_and (pe_callC c_is_number hr pass0 (pa_cons (pv 0) pa_nil)) (pe_one (pe_cmpR op_lt (pv 0) (pv 1) (nomark _)))))), ?_⟩
    refine ⟨_, rfl, v, rfl, hv, isNum v, rfl, ?_⟩
    cases e : isNum v with
    | false =>
      refine iteF ?_
      have e2 : isBel l v = false := by
        cases v <;> first | rfl | (have e' : decide _ = false := e; show (decide _ && decide _) = false; rw [e']; rfl)
      rw [e2] at k
      exact k
    | true =>
      refine iteT ?_
      obtain ⟨i, rfl⟩ : ∃ i, v = .int i := by
        cases v with
        | int i => exact ⟨i, rfl⟩
        | _ => cases e
      refine ⟨_, rfl, _, rfl, _, _, rfl, rfl, ?_⟩
      have e2 : isBel l (.int i) = decide (i < l) := by
        show (decide _ && decide _) = _
        rw [show decide (0 ≤ i) = true from e]
        rfl
      rw [e2] at k
      exact k
theorem sc_is_sequence : FnScope ["value", "least", "most"] ["value", "least", "most"] (defScope s_is_sequence) := ⟨rfl, rfl, rfl, by decide +kernel, rfl, by decide +kernel, by decide +kernel⟩
theorem kit_seq {K : PySem.W.Frag} {n : String} {b : Bool} (h1 : n = "list" ∨ n = "tuple" → b = true) (h2 : n = "NoneType" ∨ n = "bool" ∨ n = "str" ∨ n = "int" → b = false) (hn : (n = "list" ∨ n = "tuple") ∨ n = "NoneType" ∨ n = "bool" ∨ n = "str" ∨ n = "int") :
    PySem.W.kitAny K (.type n) [.type "list", .type "tuple"] = some b := by
  rcases hn with hn | hn
  · obtain rfl := h1 hn
    rcases hn with rfl | rfl
    · exact kitAny_cons (b := true) (kit_ty (by decide +kernel)) (fun z => nomatch z) (fun _ => rfl)
    · exact kitAny_cons (b := false) (kit_ty (by decide +kernel)) (fun _ => kitAny_cons (b := true) (kit_ty (by decide +kernel)) (fun z => nomatch z) (fun _ => rfl)) (fun z => nomatch z)
  · obtain rfl := h2 hn
    rcases hn with rfl | rfl | rfl | rfl
    · exact kitAny_cons (b := false) (kit_ty (by decide +kernel)) (fun _ => kitAny_cons (b := false) (kit_ty (by decide +kernel)) (fun _ => kitAny_nil) (fun z => nomatch z)) (fun z => nomatch z)
    · exact kitAny_cons (b := false) (kit_ty (by decide +kernel)) (fun _ => kitAny_cons (b := false) (kit_ty (by decide +kernel)) (fun _ => kitAny_nil) (fun z => nomatch z)) (fun z => nomatch z)
    · exact kitAny_cons (b := false) (kit_ty (by decide +kernel)) (fun _ => kitAny_cons (b := false) (kit_ty (by decide +kernel)) (fun _ => kitAny_nil) (fun z => nomatch z)) (fun z => nomatch z)
    · exact kitAny_cons (b := false) (kit_ty (by decide +kernel)) (fun _ => kitAny_cons (b := false) (kit_ty (by decide +kernel)) (fun _ => kitAny_nil) (fun z => nomatch z)) (fun z => nomatch z)
theorem long_ty {H : Hp} {v : V} {o : Option (List V)} (h : Long K H v o) : ∃ n : String, TyX K H v (.type n) ∧ PySem.W.kitAny K (.type n) [.type "list", .type "tuple"] = some o.isSome := by
  cases h with
  | non => exact ⟨_, .base .non, kit_seq (by simp) (by simp) (by simp)⟩
  | bl b => exact ⟨_, .base (.bl b), kit_seq (by simp) (by simp) (by simp)⟩
  | int i => exact ⟨_, .base (.int i), kit_seq (by simp) (by simp) (by simp)⟩
  | str x => exact ⟨_, .base (.str x), kit_seq (by simp) (by simp) (by simp)⟩
  | seq q =>
    rcases q with q | q
    · exact ⟨_, tyx_list q, kit_seq (by simp) (by simp) (by simp)⟩
    · exact ⟨_, tyx_tuple q, kit_seq (by simp) (by simp) (by simp)⟩
theorem ok_is_sequence (F : FnP K "is_sequence" s_is_sequence f fd) (T : Mg mg) : FnOk P w K mg base CX0 1 f fd ["value", "least", "most"] (spSeq K) := by
  refine F.ok sc_is_sequence (fun vs H Q E h => ?_) (fun cdv A outer s H vs Q E hr h => ?_)
  · obtain ⟨v, l, m, o, rfl, _⟩ := h
    rfl
  · obtain ⟨v, l, m, o, rfl, hv, k⟩ := h
    refine ⟨_, PSs.nox (pss_one (ps_ret (pe_and (pe_callB call_isiT (by rfl) T.z_isinstance (by decide +kernel) (pa_cons (pv 0) (pa_cons (pe_tup (pa_cons (pe_ty T.z_list bt_list) (pa_cons (pe_ty T.z_tuple bt_tuple) pa_nil))) pa_nil))) (pe_one (pe_chain op_le op_le (pv 1) (pe_callB call_len_seq (by rfl) T.z_len PySem.boot_len (pa_cons (pv 0) pa_nil)) (pv 2)))))), ?_⟩
    refine ⟨_, rfl, (by show 2 ≤ sizeLine; decide), fun p hp => ?_⟩
    have e := same_new (o := HO.tup [.ty "list", .ty "tuple"]) hp
    obtain ⟨n, ht, hk⟩ := long_ty (hv.same e)
    refine ⟨v, p, _, .type n, _, o.isSome, rfl, upd_same, .cons (.ty _) (.cons (.ty _) .nil), ht, hk, _, rfl, ?_⟩
    cases o with
    | none => exact iteF (k _ e)
    | some xs =>
      refine iteT ?_
      cases hv with
      | seq q =>
        have q' := q.same e
        refine ⟨_, rfl, _, rfl, _, _, rfl, q', _, _, rfl, rfl, decide (l ≤ (xs.length : Int)), rfl, ?_⟩
        refine ite2 (fun h1 => ?_) (fun h1 => ?_)
        · refine ⟨_, rfl, _, _, rfl, rfl, ?_⟩
          have k2 := k _ e
          rw [show inLen l m (some xs) = decide ((xs.length : Int) ≤ m) from by show (decide _ && _) = _; rw [h1]; rfl] at k2
          exact k2
        · have k2 := k _ e
          rw [show inLen l m (some xs) = false from by show (decide _ && _) = _; rw [Bool.eq_false_iff.mpr h1]; rfl] at k2
          exact k2
end
end K1
namespace K1
open PySem PySem.Spec PyProof.Rows L2 Kx
section
variable {P : Program} {w : World} {K : PySem.W.Frag} {mg : Str → Option Value} {base : Heap} {f : Addr} {fd : FuncData} {a : Ad}
theorem passC {X : Cx} {W : WX} {E : XK} (tk : Takes X W) (h : ∀ cls d σ H, E cls d H → W cls d σ H) : Passes (L2.CX X.prog X.w) X E := passes_call tk h
theorem inLen_some {l m : Int} {xs : List V} : inLen l m (some xs) = (decide (l ≤ (xs.length : Int)) && decide ((xs.length : Int) ≤ m)) := rfl
theorem optV_non {o : Option Nat} : decide (optV o = V.non) = o.isNone := by
  cases o with
  | none => rfl
  | some n => exact decide_eq_false (fun z => nomatch z)
theorem sc_first_not_below : FnScope ["values", "limit", "at", "value"] ["values", "limit"] (defScope s_first_not_below) := ⟨rfl, rfl, rfl, by decide +kernel, rfl, by decide +kernel, by decide +kernel⟩
theorem ok_first_not_below (F : FnP K "first_not_below" s_first_not_below f fd) (T : Mg mg) (c_is_below : Cal P w K mg base CX0 2 "is_below" ["value", "limit"] (spBelow K)) : FnOk P w K mg base CX0 3 f fd ["values", "limit"] (spFnb K) := by
  refine F.ok sc_first_not_below (fun vs H Q E h => ?_) (fun cdv A outer s H vs Q E hr h => ?_)
  · obtain ⟨a, xs, l, rfl, _⟩ := h
    rfl
  · obtain ⟨a, xs, l, rfl, hx, hk, k⟩ := h
    refine ⟨_, PSs.nox (pss_cons (ps_for PassesOwn.never rfl (pi_pairs (by rfl) T.z_enumerate (pa_cons (pv 0) pa_nil)) (pg_tup rfl (pgs_cons (pg_name (i := 2) sc_first_not_below.nd rfl (by first | exact Or.inl rfl | exact Or.inr rfl)) (pgs_cons (pg_name (i := 3) sc_first_not_below.nd rfl (by first | exact Or.inl rfl | exact Or.inr rfl)) pgs_nil)))
        (pss_one (ps_if (pt_not (pt_val (pe_callC c_is_below hr pass0 (pa_cons (pv 3) (pa_cons (pv 1) pa_nil)))))
          (pss_one (ps_ret (pv 2)))
          pss_nil)))
      (pss_one (ps_ret pe_non))), ?_⟩
    refine ⟨_, rfl, a, xs, rfl, for_pairs hx (fun i σ' H' => ∃ x y, σ' = [some (.ref a), some (.int l), x, y] ∧ Same H H' ∧ ∀ j z, j < i → xs[j]? = some z → isBel l z = true) ⟨_, _, rfl, Same.refl H, fun j z hj => absurd hj (Nat.not_lt_zero j)⟩ (fun i σ' H' q => q.elim fun _ q => q.elim fun _ q => q.2.1) ?_ ?_⟩
    · rintro i x p σ' H' hx' ⟨_, _, rfl, e, hl⟩ hp
      refine ⟨p, _, rfl, SqT.of upd_same, rfl, ?_⟩
      refine ⟨_, _, rfl, _, _, rfl, rfl, ?_⟩
      refine ⟨x, rfl, _, rfl, x, l, rfl, ((hk x (List.mem_of_getElem? hx')).same e).same (same_new hp), isBel l x, rfl, ?_⟩
      cases eb : isBel l x with
      | true =>
        refine iteF ⟨_, _, rfl, e.trans (same_new hp), fun j z hj hz => ?_⟩
        rcases Nat.lt_or_eq_of_le (Nat.le_of_lt_succ hj) with h | rfl
        · exact hl j z h hz
        · rw [hx'] at hz
          cases hz
          exact eb
      | false =>
        refine iteT ⟨_, rfl, ?_⟩
        rw [fnb_some (i := i) hl ⟨x, hx', eb⟩] at k
        exact k _ (e.trans (same_new hp))
    · rintro σ' H' ⟨_, _, rfl, e, hl⟩
      have := k _ e
      rw [fnb_none.mpr fun x hx => by
        obtain ⟨j, hj⟩ := List.getElem?_of_mem (hx : x ∈ xs)
        exact hl j x (List.getElem?_eq_some_iff.mp hj).1 hj] at this
      exact this
theorem sc_row_of : FnScope ["value", "deeds", "at"] ["value", "deeds"] (defScope s_row_of) := ⟨rfl, rfl, rfl, by decide +kernel, rfl, by decide +kernel, by decide +kernel⟩
theorem ok_row_of (F : FnP K "row_of" s_row_of f fd) (T : Mg mg) (R : Er P w K mg base a) (c_is_sequence : Cal P w K mg base CX0 1 "is_sequence" ["value", "least", "most"] (spSeq K)) (c_first_not_below : Cal P w K mg base CX0 3 "first_not_below" ["values", "limit"] (spFnb K)) :
    FnOk P w K mg base (L2.CX P w) 4 f fd ["value", "deeds"] (spRowOf K a) := by
  refine F.ok sc_row_of (fun vs H Q E h => ?_) (fun cdv A outer s H vs Q E hr h => ?_)
  · obtain ⟨v, o, n, rfl, _⟩ := h
    rfl
  · obtain ⟨v, o, n, rfl, hv, hk, bad, good⟩ := h
    refine ⟨_, (pss_cons (ps_if (pt_not (pt_val (pe_callC c_is_sequence hr pass0 (pa_cons (pv 0) (pa_cons pe_int (pa_cons (pe_constI T.g_ROW_MOST) pa_nil))))))
        (pss_one (ps_throw R.BadRow rfl hr (takes_of rfl rfl rfl rfl) (pa_cons (pe_un un_neg pe_int) pa_nil)))
        pss_nil)
      (pss_cons (ps_set (i := 2) sc_row_of.nd rfl (by first | exact Or.inl rfl | exact Or.inr rfl) (pe_callC c_first_not_below hr pass0 (pa_cons (pv 0) (pa_cons (pv 1) pa_nil))))
      (pss_cons (ps_if (pt_cmpR op_notN (pv 2) pe_non (nomark _))
        (pss_one (ps_throw R.BadRow rfl hr (takes_of rfl rfl rfl rfl) (pa_cons (pv 2) pa_nil)))
        pss_nil)
      (pss_one (ps_ret (pe_callTy call_tupD (by rfl) T.z_tuple (by decide +kernel) (pa_cons (pv 0) pa_nil))))))), ?_⟩
    refine ⟨_, rfl, _, 0, 400, o, rfl, hv, fun H1 e1 => ⟨inLen 0 400 o, rfl, ?_⟩⟩
    cases ei : inLen 0 400 o with
    | false =>
      have far : rowAt n o = some (-1) := by
        cases o with
        | none => rfl
        | some xs =>
          refine if_neg fun z => ?_
          rw [inLen_some, decide_eq_true (by omega), decide_eq_true (by omega)] at ei
          cases ei
      exact iteT ⟨1, rfl, thrown ((bad _ far).same e1).at_⟩
    | true =>
      refine iteF ?_
      cases o with
      | none => cases ei
      | some xs =>
      cases hv with
      | @seq b _ hv =>
      have hl : xs.length ≤ 400 := by
        have z := ei
        rw [inLen_some, Bool.and_eq_true] at z
        have := of_decide_eq_true z.2
        omega
      have ra : rowAt n (some xs) = (fnb n xs).map (fun (i : Nat) => (i : Int)) := if_pos hl
      rw [ra] at bad good
      refine ⟨_, rfl, _, rfl, b, xs, n, rfl, hv.same e1, fun x hx => (hk _ rfl hl x hx).same e1, fun H2 e2 => ?_⟩
      have e3 := e1.trans e2
      refine ⟨optV (fnb n xs), rfl, rfl, ?_⟩
      cases ef : fnb n xs with
      | some i =>
        rw [ef] at bad
        refine ⟨true, rfl, iteT ?_⟩
        exact ⟨_, rfl, thrown ((bad _ rfl).same e3).at_⟩
      | none =>
        rw [ef] at good
        obtain ⟨b', xs', q1, q2, hd, good⟩ := good rfl
        cases q1
        cases q2
        refine ⟨false, rfl, iteF ?_⟩
        exact ⟨_, rfl, b, xs, rfl, hd.same e3, fun p H4 e4 hp => good p H4 (e3.trans e4) hp⟩
end
end K1
/-! comprehensions whose list is known ahead, item by item -/
namespace Kx
open L2 PySem PySem.Spec PyProof.Rows
/-- i items of out are made, at D -/
def Part (H1 : Hp) (D : Addr) (out : List V) (i : Nat) (H : Hp) : Prop := H D = some (.lst (out.take i)) ∧ Same H1 H
section
variable {H1 H H' : Hp} {D : Addr} {out : List V} {i : Nat} {y : V}
theorem Part.zero (hD : H1 D = none) : Part H1 D out 0 (upd H1 D (.lst [])) := ⟨upd_same, same_new hD⟩
theorem Part.step (p : Part H1 D out i H) (hD : H1 D = none) (e : Same H H') (hy : out[i]? = some y) (fits : out.length ≤ sizeLine) :
    ∃ acc, H' D = some (.lst acc) ∧ acc.length < sizeLine ∧ Part H1 D out (i + 1) (upd H' D (.lst (acc ++ [y]))) := by
  have lt := (List.getElem?_eq_some_iff.mp hy).1
  refine ⟨_, e _ _ p.1, by rw [List.length_take]; omega, ?_, fun b o hb => ?_⟩
  · rw [upd_same, List.take_add_one, hy] <;> rfl
  · rw [upd_ne (ne_of_none hb hD)]
    exact e _ _ (p.2 _ _ hb)
theorem Part.done {n : Nat} (p : Part H1 D out n H) (h : out.length ≤ n) : H D = some (.lst out) ∧ Same H1 H := by
  have q := p.1
  rw [List.take_of_length_le h] at q
  exact ⟨q, p.2⟩
end
theorem yes {σ : L2.St} {H : Hp} {Q : Bool → Hp → Prop} (h : Q true H) : tYes σ H Q := h
/-- a comprehension's W by a word of the turn -/
theorem lc_by {J : It} {n : Nat} {g : TG} {tt : TT} {te : TE} {vs : List Nat} {σ : L2.St} {Q : VK} {D : Addr} {H0 : Hp} (Pv : Nat → Hp → Prop) (h0 : Pv 0 H0)
    (go : ∀ i H, i < n → Pv i H → J.go i H ∧ ∀ x H', J.yld i H x H' → g x (wipe σ vs) H' fun σ2 H2 => wipe σ2 vs = wipe σ vs ∧ tt σ2 H2 fun b H3 =>
      if b = true then te σ2 H3 fun y H4 => ∃ acc, H4 D = some (.lst acc) ∧ acc.length < sizeLine ∧ Pv (i + 1) (upd H4 D (.lst (acc ++ [y]))) else Pv (i + 1) H3)
    (stop : ∀ H, Pv n H → J.stop n H ∧ Q (.ref D) H) :
    ∃ W : Nat → Nat → Hp → Prop, (∃ m, W 0 m H0) ∧ ∀ i m H, W i m H → (J.stop i H ∧ Q (.ref D) H) ∨ (J.go i H ∧ ∃ Nx : Hp → Prop, (∀ H', Nx H' → ∃ m', m' < m ∧ W (i + 1) m' H') ∧ ∀ x H', J.yld i H x H' → g x (wipe σ vs) H' fun σ2 H2 => wipe σ2 vs = wipe σ vs ∧ tt σ2 H2 fun b H3 =>
      if b = true then te σ2 H3 (fun y H4 => ∃ acc, H4 D = some (.lst acc) ∧ acc.length < sizeLine ∧ Nx (upd H4 D (.lst (acc ++ [y])))) else Nx H3) := by
  refine ⟨fun i m H => m = n - i ∧ i ≤ n ∧ Pv i H, ⟨n, rfl, Nat.zero_le n, h0⟩, ?_⟩
  rintro i m H ⟨rfl, le, p⟩
  rcases Nat.lt_or_eq_of_le le with lt | rfl
  · obtain ⟨g1, g2⟩ := go i H lt p
    exact .inr ⟨g1, Pv (i + 1), fun H' p' => ⟨n - (i + 1), by omega, rfl, lt, p'⟩, g2⟩
  · exact .inl (stop H p)
/-- the same for any body of the turn -/
theorem turns {J : It} {n : Nat} {Z : Hp → Prop} {H0 : Hp} {B : (Hp → Prop) → V → Hp → Prop} (Pv : Nat → Hp → Prop) (h0 : Pv 0 H0) (go : ∀ i H, i < n → Pv i H → J.go i H ∧ ∀ x H', J.yld i H x H' → B (Pv (i + 1)) x H') (stop : ∀ H, Pv n H → J.stop n H ∧ Z H) :
    ∃ W : Nat → Nat → Hp → Prop, (∃ m, W 0 m H0) ∧ ∀ i m H, W i m H → (J.stop i H ∧ Z H) ∨ (J.go i H ∧ ∃ Nx : Hp → Prop, (∀ H', Nx H' → ∃ m', m' < m ∧ W (i + 1) m' H') ∧ ∀ x H', J.yld i H x H' → B Nx x H') := by
  refine ⟨fun i m H => m = n - i ∧ i ≤ n ∧ Pv i H, ⟨n, rfl, Nat.zero_le n, h0⟩, ?_⟩
  rintro i m H ⟨rfl, le, p⟩
  rcases Nat.lt_or_eq_of_le le with lt | rfl
  · obtain ⟨g1, g2⟩ := go i H lt p
    exact .inr ⟨g1, Pv (i + 1), fun H' p' => ⟨n - (i + 1), by omega, rfl, lt, p'⟩, g2⟩
  · exact .inl (stop H p)
/-- t + u, any tuples -/
def rCatS (K : PySem.W.Frag) : R2 := fun x y H Q => ∃ (a b : Addr) (xs ys : List V), x = .ref a ∧ y = .ref b ∧ SqT K H a xs ∧ SqT K H b ys ∧ xs.length + ys.length ≤ sizeLine ∧ ∀ p H', Same H H' → SqT K H' p (xs ++ ys) → Q (.ref p) H'
theorem op_catS {X : Cx} {K : PySem.W.Frag} (hK : X.K = K := by rfl) : OpR X (binaryOp .Add) (rCatS K) := by
  subst hK
  intro pins st σ H x y v u Q I rx ry h
  obtain ⟨a, b, xs, ys, rfl, rfl, h1, h2, fits, key⟩ := h
  refine op_catA pins st σ H _ _ v u Q I rx ry ⟨a, b, xs, ys, rfl, rfl, h1, h2, fits, fun e => ?_, fun _ e => ?_, fun _ _ p hp => key p _ (same_new hp) (SqT.of upd_same)⟩
  · subst e
    exact key b H (Same.refl H) h2
  · subst e
    exact key a H (Same.refl H) (by rw [List.append_nil]; exact h1)
end Kx
/-! machines are made, compared -/
namespace K1
open PySem PySem.Spec PyProof.Rows L2 Kx
theorem r64 {k : Nat} {A : Around} (r : Room k A) : A.units + 64 < cLine := by have := r.un; omega
theorem fnb_ints {l : Int} : ∀ {xs : List V}, fnb l xs = none → ∃ ns : List Int, xs = ns.map V.int ∧ ∀ n ∈ ns, 0 ≤ n ∧ n < l
  | [], _ => ⟨[], rfl, fun _ h => nomatch h⟩
  | x :: xs, h => by
    have h' := fnb_none.mp h
    obtain ⟨ns, rfl, hn⟩ := fnb_ints (xs := xs) (fnb_none.mpr fun y hy => h' y (List.mem_cons_of_mem _ hy))
    have hx := h' x (List.mem_cons_self ..)
    cases x with
    | int i =>
      have hx : (decide (0 ≤ i) && decide (i < l)) = true := hx
      rw [Bool.and_eq_true] at hx
      refine ⟨i :: ns, rfl, fun n hn' => (List.mem_cons.mp hn').elim (fun e => ?_) (hn n)⟩
      subst e
      exact ⟨of_decide_eq_true hx.1, of_decide_eq_true hx.2⟩
    | _ => exact absurd hx Bool.false_ne_true
theorem fnb_of {l : Int} {ns : List Int} (h : ∀ n ∈ ns, 0 ≤ n ∧ n < l) : fnb l (ns.map V.int) = none := fnb_none.mpr fun x hx => by
  obtain ⟨n, hn, rfl⟩ := List.mem_map.mp hx
  show (decide (0 ≤ n) && decide (n < l)) = true
  rw [decide_eq_true (h n hn).1, decide_eq_true (h n hn).2]
  rfl
theorem tup_of {K : PySem.W.Frag} {H : Hp} {a : Addr} {xs : List V} {Q : VK} (q : Sq K H a xs) (key : ∀ p H', Same H H' → SqT K H' p xs → Q (.ref p) H') : (SqL K H a xs ∧ ∀ l, H l = none → Q (.ref l) (upd H l (.tup xs))) ∨ (SqT K H a xs ∧ Q (.ref a) H) :=
  q.imp (fun q => ⟨q, fun l hl => key l _ (same_new hl) (SqT.of upd_same)⟩) fun q => ⟨q, key a H (Same.refl H) q⟩
theorem call_tup {X : Cx} : CallR X (.type "tuple") (fun xs H Q => ∃ p ys, xs = [.ref p] ∧ Sq X.K H p ys ∧ ∀ q H', Same H H' → SqT X.K H' q ys → Q (.ref q) H') := fun pins s σ H vs us Q I r ⟨p, ys, e, q, key⟩ =>
  call_tuple_of pins s σ H vs us Q I r ⟨p, ys, e, tup_of q key⟩
theorem rd_ins {H : Hp} {x a C dx : Addr} {fs gs : List (Str × V)} {u : HO} (hx : H x = some (.ins C dx fs)) (n1 : ∀ C dx fs, u ≠ .ins C dx fs) (q : Rd H a u) : Rd (upd H x (.ins C dx gs)) a u :=
  q.elim (fun q => .inl (by rw [upd_ne (ne_of q hx (n1 _ _ _))]; exact q)) fun ⟨z, q⟩ => .inr ⟨z, by rw [upd_ne (ne_of q hx (fun z => nomatch z))]; exact q⟩
theorem sqL_ins {K : PySem.W.Frag} {H : Hp} {x a C dx : Addr} {fs gs : List (Str × V)} {xs : List V} (hx : H x = some (.ins C dx fs)) (h : SqL K H a xs) : SqL K (upd H x (.ins C dx gs)) a xs := h.imp (rd_ins hx fun _ _ _ z => nomatch z) id
theorem sqT_ins {K : PySem.W.Frag} {H : Hp} {x a C dx : Addr} {fs gs : List (Str × V)} {xs : List V} (hx : H x = some (.ins C dx fs)) (h : SqT K H a xs) : SqT K (upd H x (.ins C dx gs)) a xs := h.imp (rd_ins hx fun _ _ _ z => nomatch z) id
theorem sq_ins {K : PySem.W.Frag} {H : Hp} {x a C dx : Addr} {fs gs : List (Str × V)} {xs : List V} (hx : H x = some (.ins C dx fs)) (h : Sq K H a xs) : Sq K (upd H x (.ins C dx gs)) a xs := h.imp (sqL_ins hx) (sqT_ins hx)
theorem tru_sq {K : PySem.W.Frag} {H : Hp} {b : Addr} {xs : List V} (h : Sq K H b xs) : TruV K (.ref b) H (!xs.isEmpty) := h.elim (fun h => .inl ⟨xs, h, rfl⟩) fun h => .inr (.inl ⟨xs, h, rfl⟩)
theorem sqT_lst {K : PySem.W.Frag} {H : Hp} {D : Addr} {u u' : List V} {q : Addr} {xs : List V} (hD : H D = some (.lst u)) (h : SqT K H q xs) : SqT K (upd H D (.lst u')) q xs := by
  refine h.imp (fun h => ?_) id
  rcases h with h | ⟨z, h⟩
  · exact .inl (by rw [upd_ne (ne_of h hD (fun z => nomatch z))]; exact h)
  · exact .inr ⟨z, by rw [upd_ne (ne_of h hD (fun z => nomatch z))]; exact h⟩
/-- tables that a machine may have: n states -/
structure Mok (n : Nat) (ts : List (List Int)) : Prop where
  l1 : 1 ≤ ts.length
  l4 : ts.length ≤ 4
  n1 : 1 ≤ n
  n8 : n ≤ 8
  len : ∀ t ∈ ts, t.length = n
  ent : ∀ t ∈ ts, ∀ x ∈ t, 0 ≤ x ∧ x < (n : Int)
/-- rows stand at these places -/
def RowsBy (R : Addr → List V → Prop) : List V → List (List Int) → Prop
  | [], [] => True
  | v :: vs, t :: ts => (∃ q, v = .ref q ∧ R q (t.map V.int)) ∧ RowsBy R vs ts
  | _, _ => False
theorem RowsBy.imp {R S : Addr → List V → Prop} (e : ∀ q xs, R q xs → S q xs) : ∀ {vs : List V} {ts : List (List Int)}, RowsBy R vs ts → RowsBy S vs ts
  | [], [], _ => trivial
  | _ :: _, _ :: _, ⟨⟨q, h1, h2⟩, h⟩ => ⟨⟨q, h1, e _ _ h2⟩, RowsBy.imp e h⟩
  | [], _ :: _, h => h.elim
  | _ :: _, [], h => h.elim
theorem RowsBy.length {R : Addr → List V → Prop} : ∀ {vs : List V} {ts : List (List Int)}, RowsBy R vs ts → vs.length = ts.length
  | [], [], _ => rfl
  | _ :: _, _ :: _, ⟨_, h⟩ => congrArg Nat.succ (RowsBy.length h)
  | [], _ :: _, h => h.elim
  | _ :: _, [], h => h.elim
theorem RowsBy.at_ {R : Addr → List V → Prop} : ∀ {vs : List V} {ts : List (List Int)} {i : Nat} {t : List Int}, RowsBy R vs ts → ts[i]? = some t → ∃ q, vs[i]? = some (.ref q) ∧ R q (t.map V.int)
  | _ :: _, _ :: _, 0, t, ⟨⟨q, h1, h2⟩, _⟩, e => by
    simp at e
    subst e
    exact ⟨q, by simp [h1], h2⟩
  | _ :: _, _ :: _, i + 1, t, ⟨_, h⟩, e => by
    obtain ⟨q, h1, h2⟩ := RowsBy.at_ (i := i) h (by simpa using e)
    exact ⟨q, by simpa using h1, h2⟩
  | [], [], _, _, _, e => by simp at e
  | [], _ :: _, _, _, h, _ => h.elim
  | _ :: _, [], _, _, h, _ => h.elim
theorem RowsBy.snoc {R : Addr → List V → Prop} {q : Addr} {t : List Int} (hq : R q (t.map V.int)) : ∀ {vs : List V} {ts : List (List Int)}, RowsBy R vs ts → RowsBy R (vs ++ [.ref q]) (ts ++ [t])
  | [], [], _ => ⟨⟨q, rfl, hq⟩, trivial⟩
  | _ :: _, _ :: _, ⟨h1, h⟩ => ⟨h1, RowsBy.snoc hq h⟩
  | [], _ :: _, h => h.elim
  | _ :: _, [], h => h.elim
structure McAt (K : PySem.W.Frag) (CM : Addr) (H : Hp) (m : Addr) (n : Nat) (ts : List (List Int)) : Prop where
  ok : Mok n ts
  ex : ∃ dx t ps, H m = some (.ins CM dx [("deeds", .int (ts.length : Int)), ("states", .int (n : Int)), ("tables", .ref t)]) ∧ SqT K H t ps ∧ RowsBy (SqT K H) ps ts
theorem McAt.same {K : PySem.W.Frag} {CM : Addr} {H H' : Hp} {m : Addr} {n : Nat} {ts : List (List Int)} (e : Same H H') (h : McAt K CM H m n ts) : McAt K CM H' m n ts := by
  obtain ⟨ok, dx, t, ps, h1, h2, h3⟩ := h
  exact ⟨ok, dx, t, ps, e _ _ h1, sqT_same e h2, h3.imp fun _ _ q => sqT_same e q⟩
structure ClsM (K : PySem.W.Frag) (mg : Str → Option Value) (CM : Addr) : Prop where
  at_ : mg "Machine" = some (.ref CM)
  cl : Cls K CM
  n1 : NoAttr K CM "deeds"
  n2 : NoAttr K CM "states"
  n3 : NoAttr K CM "tables"
  isi : SlX.SIsi K CM
  yes : PySem.W.kitOne K (.ref CM) (.ref CM) = some true
  notT : PySem.W.kitOne K (.type "tuple") (.ref CM) = some false
  first : PySem.W.notFirst K CM (.type "tuple") = true
/-- a table of n states -/
def isTab (n : Nat) : Option (List V) → Bool
  | some ys => inLen 1 8 (some ys) && (decide (ys.length = n) && (fnb ys.length ys).isNone)
  | none => false
theorem isTab_some {n : Nat} {ys : List V} : isTab n (some ys) = (inLen 1 8 (some ys) && (decide (ys.length = n) && (fnb ys.length ys).isNone)) := rfl
def spTable (K : PySem.W.Frag) : Sp := fun vs H Q _ => ∃ (v like : V) (o : Option (List V)) (n : Nat), vs = [v, like] ∧ Long K H v o ∧ Kns K H o 8 ∧ (inLen 1 8 o = true → ∃ c zs, like = .ref c ∧ Sq K H c zs ∧ zs.length = n) ∧ ∀ H', Same H H' → Q (.bl (isTab n o)) H'
/-- the first that is no table -/
def badTab (n : Nat) : List (Option (List V)) → Option Nat
  | [] => none
  | o :: os => if isTab n o = true then (badTab n os).map (· + 1) else some 0
theorem badTab_none {n : Nat} : ∀ {os : List (Option (List V))}, badTab n os = none ↔ ∀ o ∈ os, isTab n o = true
  | [] => by simp [badTab]
  | o :: os => by
    unfold badTab
    by_cases h : isTab n o = true
    · rw [if_pos h, Option.map_eq_none_iff, badTab_none]
      exact ⟨fun q y hy => (List.mem_cons.mp hy).elim (fun e => e ▸ h) (q y), fun q y hy => q y (List.mem_cons_of_mem _ hy)⟩
    · rw [if_neg h]
      exact ⟨fun q => (nomatch q), fun q => absurd (q o (List.mem_cons_self ..)) h⟩
theorem badTab_some {n : Nat} : ∀ {os : List (Option (List V))} {i : Nat}, (∀ j o, j < i → os[j]? = some o → isTab n o = true) → (∃ o, os[i]? = some o ∧ isTab n o = false) → badTab n os = some i
  | [], i, _, h => by obtain ⟨x, h, _⟩ := h; simp at h
  | x :: xs, 0, _, h => by
    obtain ⟨y, h1, h2⟩ := h
    have e : x = y := by simpa using h1
    unfold badTab
    rw [e, if_neg (by rw [h2]; exact Bool.false_ne_true)]
  | x :: xs, i + 1, hl, h => by
    unfold badTab
    rw [if_pos (hl 0 x (Nat.succ_pos i) rfl), badTab_some (i := i) (fun j y hj hy => hl (j + 1) y (Nat.succ_lt_succ hj) (by simpa using hy)) (by simpa using h)]
    rfl
/-- what the items are as sequences -/
def Items (K : PySem.W.Frag) (H : Hp) : List V → List (Option (List V)) → Prop
  | [], [] => True
  | v :: vs, o :: os => (Long K H v o ∧ Kns K H o 8) ∧ Items K H vs os
  | _, _ => False
theorem Items.at_ {K : PySem.W.Frag} {H : Hp} : ∀ {vs : List V} {os : List (Option (List V))} {i : Nat} {v : V}, Items K H vs os → vs[i]? = some v → ∃ o, os[i]? = some o ∧ Long K H v o ∧ Kns K H o 8
  | _ :: _, _ :: _, 0, v, ⟨h1, _⟩, e => by
    simp at e
    subst e
    exact ⟨_, rfl, h1⟩
  | _ :: _, _ :: _, i + 1, v, ⟨_, h⟩, e => by
    obtain ⟨o, h1, h2⟩ := Items.at_ (i := i) h (by simpa using e)
    exact ⟨o, by simpa using h1, h2⟩
  | [], [], _, _, _, e => by simp at e
  | [], _ :: _, _, _, h, _ => h.elim
  | _ :: _, [], _, _, h, _ => h.elim
/-- the number of the first's items -/
def lenAt (os : List (Option (List V))) : Nat := match os[0]? with
  | some (some ys) => ys.length
  | _ => 0
theorem tabs_of {K : PySem.W.Frag} {H : Hp} {n : Nat} : ∀ {vs : List V} {os : List (Option (List V))}, Items K H vs os → (∀ o ∈ os, isTab n o = true) → ∃ ts : List (List Int), os = ts.map (fun t => some (t.map V.int)) ∧ RowsBy (Sq K H) vs ts ∧ (∀ t ∈ ts, t.length = n) ∧ ∀ t ∈ ts, ∀ x ∈ t, 0 ≤ x ∧ x < (n : Int)
  | [], [], _, _ => ⟨[], rfl, trivial, (fun t h => nomatch h), (fun t h => nomatch h)⟩
  | v :: vs, o :: os, ⟨⟨h1, _⟩, h⟩, all => by
    obtain ⟨ts, e, r, l, b⟩ := tabs_of h fun o ho => all o (List.mem_cons_of_mem _ ho)
    have z := all o (List.mem_cons_self ..)
    cases h1 with
    | @seq a ys q =>
      rw [isTab_some, Bool.and_eq_true, Bool.and_eq_true] at z
      have len := of_decide_eq_true z.2.1
      obtain ⟨ns, en, hn⟩ := fnb_ints (Option.isNone_iff_eq_none.mp z.2.2)
      subst en
      refine ⟨ns :: ts, by rw [e]; rfl, ⟨⟨a, rfl, q⟩, r⟩, fun t ht => ?_, fun t ht => ?_⟩
      · rcases List.mem_cons.mp ht with rfl | ht
        · rw [← len, List.length_map]
        · exact l t ht
      · rcases List.mem_cons.mp ht with rfl | ht
        · intro x hx
          have := hn x hx
          rw [len] at this
          exact this
        · exact b t ht
    | _ => cases z
  | [], _ :: _, h, _ => h.elim
  | _ :: _, [], h, _ => h.elim
section
variable {P : Program} {w : World} {K : PySem.W.Frag} {mg : Str → Option Value} {base : Heap} {f : Addr} {fd : FuncData} {a : Ad} {CM : Addr}
theorem sc_is_table : FnScope ["value", "like"] ["value", "like"] (defScope s_is_table) := ⟨rfl, rfl, rfl, by decide +kernel, rfl, by decide +kernel, by decide +kernel⟩
theorem ok_is_table (F : FnP K "_is_table" s_is_table f fd) (T : Mg mg) (c_is_sequence : Cal P w K mg base CX0 1 "is_sequence" ["value", "least", "most"] (spSeq K)) (c_first_not_below : Cal P w K mg base CX0 3 "first_not_below" ["values", "limit"] (spFnb K)) : FnOk P w K mg base CX0 4 f fd ["value", "like"] (spTable K) := by
  refine F.ok sc_is_table (fun vs H Q E h => ?_) (fun cdv A outer s H vs Q E hr h => ?_)
  · obtain ⟨v, like, o, n, rfl, _⟩ := h
    rfl
  · obtain ⟨v, like, o, n, rfl, hv, hk, hl, k⟩ := h
    refine ⟨_, PSs.nox (pss_cons (ps_if (pt_not (pt_val (pe_callC c_is_sequence hr pass0 (pa_cons (pv 0) (pa_cons pe_int (pa_cons (pe_constI T.g_STATES_MOST) pa_nil))))))
        (pss_one (ps_ret pe_bl))
        pss_nil)
      (pss_one (ps_ret (pe_and (pe_cmpR op_eq (pe_callB call_len_seq (by rfl) T.z_len PySem.boot_len (pa_cons (pv 0) pa_nil)) (pe_callB call_len_seq (by rfl) T.z_len PySem.boot_len (pa_cons (pv 1) pa_nil)) (nomark _)) (pe_one (pe_cmpR op_isN (pe_callC c_first_not_below hr pass0 (pa_cons (pv 0) (pa_cons (pe_callB call_len_seq (by rfl) T.z_len PySem.boot_len (pa_cons (pv 0) pa_nil)) pa_nil))) pe_non (nomark _))))))), ?_⟩
    refine ⟨_, rfl, v, 1, 8, o, rfl, hv, fun H1 e1 => ⟨inLen 1 8 o, rfl, ?_⟩⟩
    cases i1 : inLen 1 8 o with
    | false =>
      have z : isTab n o = false := by
        cases o with
        | none => rfl
        | some ys => rw [isTab_some, i1] <;> rfl
      rw [z] at k
      exact iteT (k H1 e1)
    | true =>
      refine iteF ?_
      obtain ⟨c, zs, rfl, hc, hn⟩ := hl i1
      cases hv with
      | @seq b ys hb =>
        rw [isTab_some, i1] at k
        have l8 : ys.length ≤ 8 := by
          rw [inLen_some, Bool.and_eq_true] at i1
          have := of_decide_eq_true i1.2
          omega
        refine ⟨_, rfl, b, ys, rfl, hb.same e1, _, rfl, c, zs, rfl, hc.same e1, rfl, ?_⟩
        have ed : decide (V.int (ys.length : Int) = V.int (zs.length : Int)) = decide (ys.length = n) := by
          rw [hn, Bool.eq_iff_iff, decide_eq_true_eq, decide_eq_true_eq]
          exact ⟨fun z => by injection z with z; omega, fun z => by rw [z]⟩
        rw [ed]
        refine ⟨_, rfl, ?_⟩
        cases en : decide (ys.length = n) with
        | false =>
          rw [en] at k
          exact iteF (k H1 e1)
        | true =>
          rw [en] at k
          refine iteT ?_
          refine ⟨_, rfl, _, rfl, b, ys, rfl, hb.same e1, b, ys, _, rfl, hb.same e1, fun x hx => (hk _ rfl l8 x hx).same e1, fun H2 e2 => ⟨rfl, ?_⟩⟩
          have k2 := k _ (e1.trans e2)
          rw [← optV_non] at k2
          exact k2
      | _ => cases i1
end
end K1
/-! machines are made, compared -/
namespace K1
open L2 PySem PySem.Spec PyProof.Rows Kx
def spMachine (K : PySem.W.Frag) (a : Ad) (CM : Addr) : Sp := fun vs H Q E => ∃ (x dx : Addr) (v : V) (o : Option (List V)), vs = [.ref x, v] ∧ H x = some (.ins CM dx []) ∧ Long K H v o ∧ (inLen 1 4 o = false → Thrown E H a.cM "at" (.int (-1))) ∧
  ∀ xs, o = some xs → inLen 1 4 o = true → ∃ os, Items K H xs os ∧ (∀ i, badTab (lenAt os) os = some i → Thrown E H a.cM "at" (.int (i : Int))) ∧
    (badTab (lenAt os) os = none → ∀ n ts, Mok n ts → os = ts.map (fun t => some (t.map V.int)) → ∀ H', (∀ b o, b ≠ x → H b = some o → H' b = some o) → McAt K CM H' x n ts → Q .non H')
/-- tuple(xs) in a comprehension -/
theorem call_tupK {X : Cx} {K : PySem.W.Frag} (hK : X.K = K := by rfl) : CallR X (.type "tuple") (fun xs H Q => ∃ p ys, xs = [.ref p] ∧ Sq K H p ys ∧ ∀ q H', Same H H' → SqT K H' q ys → Q (.ref q) H') := by
  subst hK
  exact call_tup
theorem Items.length {K : PySem.W.Frag} {H : Hp} : ∀ {vs : List V} {os : List (Option (List V))}, Items K H vs os → vs.length = os.length
  | [], [], _ => rfl
  | _ :: _, _ :: _, ⟨_, h⟩ => congrArg Nat.succ (Items.length h)
  | [], _ :: _, h => h.elim
  | _ :: _, [], h => h.elim
theorem ints_map {xs ys : List (List Int)} (h : xs.map (fun t => some (t.map V.int)) = ys.map (fun t => some (t.map V.int))) : xs = ys := by
  have inj : ∀ {a b : List Int}, a.map V.int = b.map V.int → a = b := fun {a b} h => by
    have := congrArg (List.map fun v => match v with | V.int i => i | _ => 0) h
    simpa [Function.comp_def] using this
  induction xs generalizing ys with
  | nil => cases ys with
    | nil => rfl
    | cons _ _ => cases h
  | cons x xs ih => cases ys with
    | nil => cases h
    | cons y ys =>
      rw [List.map_cons, List.map_cons] at h
      injection h with h1 h2
      rw [inj (Option.some.inj h1), ih h2]
section
variable {P : Program} {w : World} {K : PySem.W.Frag} {mg : Str → Option Value} {base : Heap} {f : Addr} {fd : FuncData} {a : Ad} {CM : Addr}
theorem sc_machine : FnScope ["self", "tables", "at", "table"] ["self", "tables"] (defScope s_Machine_init) := ⟨rfl, rfl, rfl, by decide +kernel, rfl, by decide +kernel, by decide +kernel⟩
theorem ok_machine (F : FunD K "__init__" "Machine.__init__" (defArgs s_Machine_init) (defBody s_Machine_init) (defScope s_Machine_init) [] [] f fd) (T : Mg mg) (R : Er P w K mg base a) (TM : ClsM K mg CM)
    (c_is_sequence : Cal P w K mg base CX0 1 "is_sequence" ["value", "least", "most"] (spSeq K)) (c__is_table : Cal P w K mg base CX0 4 "_is_table" ["value", "like"] (spTable K)) : FnOk P w K mg base (L2.CX P w) 5 f fd ["self", "tables"] (spMachine K a CM) := by
  refine F.ok sc_machine (fun vs H Q E h => ?_) (fun cdv A outer s H vs Q E hr h => ?_)
  · obtain ⟨x, dx, v, o, rfl, _⟩ := h
    rfl
  · obtain ⟨x, dx, v, o, rfl, hx, hv, far, near⟩ := h
    refine ⟨_, (pss_cons (ps_if (pt_not (pt_val (pe_callC c_is_sequence hr pass0 (pa_cons (pv 1) (pa_cons pe_int (pa_cons (pe_constI T.g_DEEDS_MOST) pa_nil))))))
        (pss_one (ps_throw R.BadMachine rfl hr (takes_of rfl rfl rfl rfl) (pa_cons (pe_un un_neg pe_int) pa_nil)))
        pss_nil)
      (pss_cons (ps_for (passes_of rfl) rfl (pi_pairs (by rfl) T.z_enumerate (pa_cons (pv 1) pa_nil)) (pg_tup rfl (pgs_cons (pg_name (i := 2) sc_machine.nd rfl (by first | exact Or.inl rfl | exact Or.inr rfl)) (pgs_cons (pg_name (i := 3) sc_machine.nd rfl (by first | exact Or.inl rfl | exact Or.inr rfl)) pgs_nil)))
        (pss_one (ps_if (pt_not (pt_val (pe_callC c__is_table hr pass0 (pa_cons (pv 3) (pa_cons (pe_ix ix_seq (pv 1) pe_int (fun _ _ => rfl)) pa_nil)))))
          (pss_one (ps_throw R.BadMachine rfl hr (takes_of rfl rfl rfl rfl) (pa_cons (pv 2) pa_nil)))
          pss_nil)))
      (PSs.nox (pss_cons (ps_fld (pv 0) (pe_callB call_len_seq (by rfl) T.z_len PySem.boot_len (pa_cons (pv 1) pa_nil)) rfl)
      (pss_cons (ps_fld (pv 0) (pe_callB call_len_seq (by rfl) T.z_len PySem.boot_len (pa_cons (pe_ix ix_seq (pv 1) pe_int (fun _ _ => rfl)) pa_nil)) rfl)
      (pss_one (ps_fld (pv 0) (pe_callTy call_tup (by rfl) T.z_tuple (by decide +kernel) (pa_cons (pe_lc (own := [("table", 3)]) (by rfl) sc_machine.nd (pi_any (pv 1)) (blkOk_by (own := [("table", 3)]) (N := ["self", "tables", "at", "table"]) (sc := defScope s_Machine_init) (by decide +kernel))
        (fun _ _ _ _ _ => pg_name (i := 3) sc_machine.nd rfl (by first | exact Or.inl rfl | exact Or.inr rfl)) (fun _ _ _ _ _ => pts_nil) (fun _ _ _ _ _ => pe_callTy (call_tupK (K := K)) (by rfl) T.z_tuple bt_tuple (pa_cons (pv 3) pa_nil))) pa_nil)) rfl))))))), ?_⟩
    refine ⟨_, rfl, v, 1, 4, o, rfl, hv, fun H1 e1 => ⟨inLen 1 4 o, rfl, ?_⟩⟩
    cases i1 : inLen 1 4 o with
    | false => exact iteT ⟨1, rfl, thrown ((far i1).same e1).at_⟩
    | true =>
      refine iteF ?_
      cases hv with
      | @seq b xs hb =>
        obtain ⟨os, it, bad, good⟩ := near xs rfl i1
        have len := it.length
        have l4 : 1 ≤ xs.length ∧ xs.length ≤ 4 := by
          have z := i1
          rw [inLen_some, Bool.and_eq_true] at z
          have := of_decide_eq_true z.1
          have := of_decide_eq_true z.2
          omega
        obtain ⟨x0, hx0⟩ : ∃ x0, xs[0]? = some x0 := ⟨xs[0], List.getElem?_eq_getElem (by omega)⟩
        obtain ⟨o0, ho0, long0, kns0⟩ := it.at_ hx0
        have ix0 : ∀ {H' : Hp} {Q : VK}, Same H H' → Q x0 H' → rIx K (.ref b) (.int 0) H' Q := fun e q => by
          rcases hb.same e with z | z
          · exact .inl ⟨b, xs, 0, x0, rfl, rfl, z, atI_nat hx0, q⟩
          · exact .inr (.inl ⟨b, xs, 0, x0, rfl, rfl, z, atI_nat hx0, q⟩)
        refine ⟨_, rfl, b, xs, rfl, for_pairs (hb.same e1) (fun i σ' H' => ∃ y z, σ' = [some (.ref x), some (.ref b), y, z] ∧ Same H H' ∧ Same H1 H' ∧ ∀ j o, j < i → os[j]? = some o → isTab (lenAt os) o = true) ⟨_, _, rfl, e1, Same.refl _, fun j z hj => absurd hj (Nat.not_lt_zero j)⟩ (fun i σ' H' q => q.elim fun _ q => q.elim fun _ q => q.2.2.1) ?_ ?_⟩
        · rintro i y t σ' H' hy ⟨_, _, rfl, e, e', hs⟩ ht
          refine ⟨t, _, rfl, SqT.of upd_same, rfl, ?_⟩
          refine ⟨_, _, rfl, _, _, rfl, rfl, ?_⟩
          have e2 := e.trans (same_new (o := HO.tup [.int (i : Int), y]) ht)
          obtain ⟨oi, hoi, longi, knsi⟩ := it.at_ hy
          refine ⟨_, rfl, _, rfl, ix0 e2 ?_⟩
          refine ⟨y, x0, oi, lenAt os, rfl, longi.same e2, knsi.same e2, fun z => ?_, fun H3 e3 => ⟨isTab (lenAt os) oi, rfl, ?_⟩⟩
          · have z0 : isTab (lenAt os) o0 = true ∨ (i = 0 ∧ oi = o0) := by
              rcases Nat.eq_zero_or_pos i with h | h
              · subst h
                rw [ho0] at hoi
                exact .inr ⟨rfl, (Option.some.inj hoi).symm⟩
              · exact .inl (hs 0 o0 h ho0)
            have some0 : ∃ zs, o0 = some zs := by
              rcases z0 with h | ⟨_, h⟩
              · cases o0 with
                | none => cases h
                | some zs => exact ⟨zs, rfl⟩
              · subst h
                cases oi with
                | none => cases z
                | some zs => exact ⟨zs, rfl⟩
            obtain ⟨zs, rfl⟩ := some0
            cases long0 with
            | @seq c _ hc => exact ⟨c, zs, rfl, hc.same e2, by unfold lenAt; rw [ho0]⟩
          · cases eb : isTab (lenAt os) oi with
            | false => exact iteT ⟨_, rfl, thrown ((bad i (badTab_some hs ⟨oi, hoi, eb⟩)).same (e2.trans e3)).at_⟩
            | true =>
              refine iteF ⟨_, _, rfl, e2.trans e3, (e'.trans (same_new ht)).trans e3, fun j z hj hz => ?_⟩
              rcases Nat.lt_or_eq_of_le (Nat.le_of_lt_succ hj) with h | rfl
              · exact hs j z h hz
              · rw [hoi] at hz
                cases hz
                exact eb
        · rintro σ' H' ⟨_, _, rfl, e, e', hs⟩
          have allT : ∀ o ∈ os, isTab (lenAt os) o = true := fun o ho => by
            obtain ⟨j, hj⟩ := List.getElem?_of_mem ho
            exact hs j o (by rw [len]; exact (List.getElem?_eq_some_iff.mp hj).1) hj
          obtain ⟨ts, eo, rows, tl, tb⟩ := tabs_of it allT
          have lts : ts.length = xs.length := by rw [len, eo, List.length_map]
          obtain ⟨t0, ht0⟩ : ∃ t0, ts[0]? = some t0 := ⟨ts[0], List.getElem?_eq_getElem (by omega)⟩
          have mt0 := List.mem_of_getElem? ht0
          have n0 : lenAt os = t0.length := (tl t0 mt0).symm
          have mok : Mok (lenAt os) ts := by
            have z := allT o0 (List.mem_of_getElem? ho0)
            refine ⟨by omega, by omega, ?_, ?_, tl, tb⟩
            · cases o0 with
              | none => cases z
              | some ys =>
                rw [isTab_some, Bool.and_eq_true, Bool.and_eq_true, inLen_some, Bool.and_eq_true] at z
                have := of_decide_eq_true z.1.1
                have := of_decide_eq_true z.2.1
                omega
            · cases o0 with
              | none => cases z
              | some ys =>
                rw [isTab_some, Bool.and_eq_true, Bool.and_eq_true, inLen_some, Bool.and_eq_true] at z
                have := of_decide_eq_true z.1.2
                have := of_decide_eq_true z.2.1
                omega
          have good := good (badTab_none.mpr allT) _ ts mok eo
          obtain ⟨c0, hc0, sc0⟩ := rows.at_ ht0
          rw [hx0] at hc0
          obtain rfl := Option.some.inj hc0
          have hx1 := e _ _ hx
          have hb1 := hb.same e
          refine ⟨_, rfl, b, xs, rfl, hb1, _, rfl, x, CM, dx, _, rfl, hx1, TM.cl, TM.n1, (by decide), ?_⟩
          generalize hH2 : upd H' x (.ins CM dx (putF "deeds" (.int (xs.length : Int)) [])) = H2
          have hx2 : H2 x = some (.ins CM dx [("deeds", .int (xs.length : Int))]) := by rw [← hH2]; exact upd_same
          have sq2 : ∀ {p : Addr} {zs : List V}, Sq K H p zs → Sq K H2 p zs := fun z => by rw [← hH2]; exact sq_ins hx1 (z.same e)
          have hb2 : Sq K H2 b xs := sq2 hb
          have keep2 : ∀ c o, c ≠ x → H c = some o → H2 c = some o := fun c o ne hc => by rw [← hH2, upd_ne ne]; exact e _ _ hc
          have ix2 : ∀ {Q : VK}, Q (.ref c0) H2 → rIx K (.ref b) (.int 0) H2 Q := fun q => by
            rcases hb2 with z | z
            · exact .inl ⟨b, xs, 0, _, rfl, rfl, z, atI_nat hx0, q⟩
            · exact .inr (.inl ⟨b, xs, 0, _, rfl, rfl, z, atI_nat hx0, q⟩)
          refine ⟨_, rfl, ix2 ?_⟩
          refine ⟨c0, _, rfl, sq2 sc0, _, rfl, x, CM, dx, _, rfl, hx2, TM.cl, TM.n2, (Nat.lt_of_succ_lt (by show 2 < 1000; decide)), ?_⟩
          rw [List.length_map, ← n0]
          generalize hH3 : upd H2 x (.ins CM dx (putF "states" (.int (lenAt os : Int)) [("deeds", .int (xs.length : Int))])) = H3
          have hx3 : H3 x = some (.ins CM dx [("deeds", .int (xs.length : Int)), ("states", .int (lenAt os : Int))]) := by rw [← hH3]; exact upd_same
          have sq3 : ∀ {p : Addr} {zs : List V}, Sq K H p zs → Sq K H3 p zs := fun z => by rw [← hH3]; exact sq_ins hx2 (sq2 z)
          have hb3 : Sq K H3 b xs := sq3 hb
          have keep3 : ∀ c o, c ≠ x → H c = some o → H3 c = some o := fun c o ne hc => by rw [← hH3, upd_ne ne]; exact keep2 _ _ ne hc
          have inp3 : RowsBy (Sq K H3) xs ts := rows.imp fun _ _ q => sq3 q
          have last : ∀ (H4 : Hp) (D : Addr) (ps : List V), Same H3 H4 → H4 D = some (.lst ps) → RowsBy (SqT K H4) ps ts → ∀ t H5, Same H4 H5 → SqT K H5 t ps → Q .non (upd H5 x (.ins CM dx [("deeds", .int (xs.length : Int)), ("states", .int (lenAt os : Int)), ("tables", .ref t)])) := fun H4 D ps e4 hD rw4 t H5 e5 ht => by
            have hx5 := e5 _ _ (e4 _ _ hx3)
            refine good _ (fun c o ne hc => by rw [upd_ne ne]; exact e5 _ _ (e4 _ _ (keep3 _ _ ne hc))) ⟨mok, dx, t, ps, by rw [upd_same, lts], sqT_ins hx5 ht, rw4.imp fun _ _ q => sqT_ins hx5 (sqT_same e5 q)⟩
          have go : ∀ (D : Addr), H3 D = .none → ∀ i y H4, xs[i]? = some y → (∃ ps, RowsBy (SqT K H4) ps (ts.take i) ∧ H4 D = some (.lst ps) ∧ Same H3 H4) → ∃ q ys, y = .ref q ∧ Sq K H4 q ys ∧ ∀ q' H5, Same H4 H5 → SqT K H5 q' ys →
              ∃ acc, H5 D = some (.lst acc) ∧ acc.length < sizeLine ∧ ∃ ps, RowsBy (SqT K (L2.upd H5 D (.lst (acc ++ [.ref q'])))) ps (ts.take (i + 1)) ∧ L2.upd H5 D (.lst (acc ++ [.ref q'])) D = some (.lst ps) ∧ Same H3 (L2.upd H5 D (.lst (acc ++ [.ref q']))) := fun D hD i y H4 hy ⟨ps, rw4, hD4, e4⟩ => by
            have hi : i < ts.length := by rw [lts]; exact (List.getElem?_eq_some_iff.mp hy).1
            have ht : ts[i]? = some ts[i] := List.getElem?_eq_getElem hi
            obtain ⟨q, hq, sq⟩ := inp3.at_ ht
            rw [hy] at hq
            refine ⟨q, _, Option.some.inj hq, sq.same e4, fun q' H5 e5 ht5 => ?_⟩
            have hD5 := e5 _ _ hD4
            have lps := rw4.length
            rw [List.length_take] at lps
            refine ⟨ps, hD5, by rw [sizeLine_eq]; omega, ps ++ [.ref q'], ?_, upd_same, fun c o hc => ?_⟩
            · rw [List.take_add_one, ht]
              exact RowsBy.snoc (sqT_lst hD5 ht5) (rw4.imp fun _ _ z => sqT_lst hD5 (sqT_same e5 z))
            · rw [upd_ne (ne_of_none hc hD)]
              exact e5 _ _ (e4 _ _ hc)
          have fin : ∀ (D : Addr) H4, (∃ ps, RowsBy (SqT K H4) ps (ts.take xs.length) ∧ H4 D = some (.lst ps) ∧ Same H3 H4) → ∃ ps, H4 D = some (.lst ps) ∧ RowsBy (SqT K H4) ps ts ∧ Same H3 H4 := fun D H4 ⟨ps, h1, h2, h3⟩ => by
            rw [← lts, List.take_length] at h1
            exact ⟨ps, h2, h1, h3⟩
          have zero : ∀ (D : Addr), H3 D = .none → ∃ ps, RowsBy (SqT K (L2.upd H3 D (.lst []))) ps (ts.take 0) ∧ L2.upd H3 D (.lst []) D = some (.lst ps) ∧ Same H3 (L2.upd H3 D (.lst [])) := fun D hD => ⟨[], trivial, upd_same, same_new hD⟩
          refine ⟨_, rfl, b, xs, rfl, ?_⟩
          rcases hb3 with hb3 | hb3
          · refine .inl ⟨hb3, fun D hD => lc_list (xs := xs) (fun i H4 => ∃ ps, RowsBy (SqT K H4) ps (ts.take i) ∧ H4 D = some (.lst ps) ∧ Same H3 H4) (zero D hD) (fun i H4 _ p => p.elim fun _ p => sqL_same p.2.2 hb3) (fun i y H4 hy p => ⟨rfl, yes ((if_pos rfl).mpr ?_)⟩) fun H4 p => ?_⟩
            · obtain ⟨q, ys, rfl, sq, k⟩ := go D hD i y H4 hy p
              exact ⟨_, rfl, q, ys, rfl, sq, k⟩
            · obtain ⟨ps, h1, h2, h3⟩ := fin D H4 p
              exact ⟨D, _, rfl, .inl (SqL.of h1), fun t H5 e5 ht => ⟨_, rfl, x, CM, dx, _, rfl, e5 _ _ (h3 _ _ hx3), TM.cl, TM.n3, (Nat.lt_of_succ_lt (by show 3 < 1000; decide)), last H4 D ps h3 h1 h2 t H5 e5 ht⟩⟩
          · refine .inr ⟨hb3, fun D hD => lc_tup (xs := xs) (fun i H4 => ∃ ps, RowsBy (SqT K H4) ps (ts.take i) ∧ H4 D = some (.lst ps) ∧ Same H3 H4) (zero D hD) (fun i H4 _ p => p.elim fun _ p => sqT_same p.2.2 hb3) (fun i y H4 hy p => ⟨rfl, yes ((if_pos rfl).mpr ?_)⟩) fun H4 p => ?_⟩
            · obtain ⟨q, ys, rfl, sq, k⟩ := go D hD i y H4 hy p
              exact ⟨_, rfl, q, ys, rfl, sq, k⟩
            · obtain ⟨ps, h1, h2, h3⟩ := fin D H4 p
              exact ⟨D, _, rfl, .inl (SqL.of h1), fun t H5 e5 ht => ⟨_, rfl, x, CM, dx, _, rfl, e5 _ _ (h3 _ _ hx3), TM.cl, TM.n3, (Nat.lt_of_succ_lt (by show 3 < 1000; decide)), last H4 D ps h3 h1 h2 t H5 e5 ht⟩⟩
      | _ => cases i1
end
end K1
/-! machines compared; states, deeds, rows -/
namespace K1
open L2 PySem PySem.Spec PyProof.Rows Kx
theorem dp_rows {K : PySem.W.Frag} {H : Hp} {p : Addr} {vs : List V} {rs : List (List Int)} (hp : SqT K H p vs) (h : RowsBy (SqT K H) vs rs) : Dp K H (.ref p) (dRows rs) := .tup hp (go h) where
  go : ∀ {vs : List V} {rs : List (List Int)}, RowsBy (SqT K H) vs rs → DpAll K H vs (rs.map dNums)
    | [], [], _ => .nil
    | _ :: _, _ :: _, ⟨⟨q, h1, h2⟩, h⟩ => .cons (by rw [h1]; exact dp_nums h2) (go h)
    | [], _ :: _, h => h.elim
    | _ :: _, [], h => h.elim
/-- t == u, tuples of rows -/
def rRowsEq (K : PySem.W.Frag) : R2 := fun x y H Q => ∃ (a b : Addr) (ps qs : List V) (xs ys : List (List Int)), x = .ref a ∧ y = .ref b ∧ SqT K H a ps ∧ SqT K H b qs ∧ RowsBy (SqT K H) ps xs ∧ RowsBy (SqT K H) qs ys ∧ Q (.bl (decide (xs = ys))) H
theorem op_eqRows {X : Cx} (hu : X.A.units + 64 < cLine) : OpR X (compareOp .Eq) (rRowsEq X.K) := by
  intro pins st σ H x y v u Q I rx ry h
  obtain ⟨a, b, ps, qs, xs, ys, rfl, rfl, h1, h2, r1, r2, q⟩ := h
  refine op_eqD hu pins st σ H _ _ v u Q I rx ry ⟨_, _, dp_rows h1 r1, dp_rows h2 r2, shaped_rows xs, shaped_rows ys, ?_⟩
  simp only [PyData.eqv, eqv_rows]
  exact q
def spEqM (K : PySem.W.Frag) (CM : Addr) : Sp := fun vs H Q _ => ∃ m n ts d, vs = [.ref m, .ref d] ∧ McAt K CM H m n ts ∧
  ((∃ n' ts', McAt K CM H d n' ts' ∧ ∀ H', Same H H' → Q (.bl (decide (ts = ts'))) H') ∨ ((∃ xs, SqT K H d xs) ∧ ∀ H', Same H H' → Q (.bl false) H'))
def spState (K : PySem.W.Frag) (a : Ad) (CM : Addr) : Sp := fun vs H Q E => ∃ m n ts v, vs = [.ref m, v] ∧ McAt K CM H m n ts ∧ Kn K H v ∧ (isBel n v = false → Thrown E H a.cN "state" v) ∧ (isBel n v = true → Q v H)
def spDeed (K : PySem.W.Frag) (a : Ad) (CM : Addr) : Sp := fun vs H Q E => ∃ m n ts v, vs = [.ref m, v] ∧ McAt K CM H m n ts ∧ Kn K H v ∧ (isBel ts.length v = false → Thrown E H a.cD "deed" v) ∧ (isBel ts.length v = true → Q v H)
def spRow (K : PySem.W.Frag) (a : Ad) (CM : Addr) : Sp := fun vs H Q E => ∃ m n ts v o, vs = [.ref m, v] ∧ McAt K CM H m n ts ∧ Long K H v o ∧ Kns K H o 400 ∧ (∀ i, rowAt ts.length o = some i → Thrown E H a.cR "at" (.int i)) ∧
  (rowAt ts.length o = none → ∃ b xs, v = .ref b ∧ o = some xs ∧ SqD K H b xs ∧ ∀ p H', Same H H' → TupD H' p xs → Q (.ref p) H')
/-- where a row leads a state -/
def ledTo (ts : List (List Int)) : Int → List Int → Int
  | s, [] => s
  | s, d :: ds => ledTo ts ((ts.getD d.toNat []).getD s.toNat 0) ds
theorem ledTo_snoc {ts : List (List Int)} {d : Int} : ∀ {s : Int} {row : List Int}, ledTo ts s (row ++ [d]) = (ts.getD d.toNat []).getD (ledTo ts s row).toNat 0
  | s, [] => rfl
  | s, e :: row => ledTo_snoc (s := (ts.getD e.toNat []).getD s.toNat 0) (row := row)
theorem Mok.next {n : Nat} {ts : List (List Int)} (ok : Mok n ts) {d s : Int} (d0 : 0 ≤ d) (d1 : d < ts.length) (s0 : 0 ≤ s) (s1 : s < n) :
    ∃ t x, ts[d.toNat]? = some t ∧ t[s.toNat]? = some x ∧ (ts.getD d.toNat []).getD s.toNat 0 = x ∧ 0 ≤ x ∧ x < n := by
  have hd : d.toNat < ts.length := by omega
  have ht : ts[d.toNat]? = some ts[d.toNat] := List.getElem?_eq_getElem hd
  have mt := List.mem_of_getElem? ht
  have lt := ok.len _ mt
  have hs : s.toNat < (ts[d.toNat]).length := by omega
  have hx : (ts[d.toNat])[s.toNat]? = some (ts[d.toNat])[s.toNat] := List.getElem?_eq_getElem hs
  refine ⟨_, _, ht, hx, ?_, ok.ent _ mt _ (List.mem_of_getElem? hx)⟩
  rw [List.getD_eq_getElem?_getD, List.getD_eq_getElem?_getD, ht, Option.getD_some, hx, Option.getD_some]
def spLed (K : PySem.W.Frag) (a : Ad) (CM : Addr) : Sp := fun vs H Q E => ∃ m n ts v r o, vs = [.ref m, v, r] ∧ McAt K CM H m n ts ∧ Kn K H v ∧ Long K H r o ∧ Kns K H o 400 ∧ (isBel n v = false → Thrown E H a.cN "state" v) ∧
  (isBel n v = true → (∀ i, rowAt ts.length o = some i → Thrown E H a.cR "at" (.int i)) ∧ (rowAt ts.length o = none → ∃ b row s, v = .int s ∧ r = .ref b ∧ o = some (row.map V.int) ∧ SqD K H b (row.map V.int) ∧ ∀ H', Same H H' → Q (.int (ledTo ts s row)) H'))
section
variable {P : Program} {w : World} {K : PySem.W.Frag} {mg : Str → Option Value} {base : Heap} {f : Addr} {fd : FuncData} {a : Ad} {CM : Addr}
theorem ty_mc {H : Hp} {m : Addr} {n : Nat} {ts : List (List Int)} (TM : ClsM K mg CM) (h : McAt K CM H m n ts) : TyX K H (.ref m) (.ref CM) := by
  obtain ⟨_, dx, t, ps, e, _⟩ := h
  exact .base (.ins e TM.cl TM.isi.ca TM.isi.cn TM.isi.ct TM.isi.cm)
theorem sc_eq : FnScope ["self", "other"] ["self", "other"] (defScope s_Machine_eq) := ⟨rfl, rfl, rfl, by decide +kernel, rfl, by decide +kernel, by decide +kernel⟩
theorem ok_eq (F : FunD K "__eq__" "Machine.__eq__" (defArgs s_Machine_eq) (defBody s_Machine_eq) (defScope s_Machine_eq) [] [] f fd) (T : Mg mg) (TM : ClsM K mg CM) : FnOk P w K mg base CX0 1 f fd ["self", "other"] (spEqM K CM) := by
  refine F.ok sc_eq (fun vs H Q E h => ?_) (fun cdv A outer s H vs Q E hr h => ?_)
  · obtain ⟨m, n, ts, d, rfl, _⟩ := h
    rfl
  · obtain ⟨m, n, ts, d, rfl, hm, how⟩ := h
    refine ⟨_, PSs.nox (pss_one (ps_ret (pe_and (pe_callB call_isi (by rfl) T.z_isinstance (by decide +kernel) (pa_cons (pv 1) (pa_cons (pe_glob (v := V.ref CM) rfl TM.at_ rfl) pa_nil))) (pe_one (pe_cmpR (op_eqRows (r64 hr)) (pe_fld (pv 0) rfl) (pe_fld (pv 1) rfl) (nomark _)))))), ?_⟩
    rcases how with ⟨n', ts', hd, k⟩ | ⟨⟨xs, hd⟩, k⟩
    · refine ⟨_, rfl, _, .ref CM, _, _, true, rfl, .own CM, ty_mc TM hd, TM.yes, true, rfl, iteT ?_⟩
      obtain ⟨_, dx, t, ps, c1, c2, c3⟩ := hm
      obtain ⟨_, dx', t', ps', d1, d2, d3⟩ := hd
      exact ⟨_, rfl, m, CM, dx, _, _, rfl, c1, TM.cl, TM.n3, rfl, _, rfl, d, CM, dx', _, _, rfl, d1, TM.cl, TM.n3, rfl, t, t', ps, ps', ts, ts', rfl, rfl, c2, d2, c3, d3, k H (Same.refl H)⟩
    · exact ⟨_, rfl, _, .ref CM, _, _, false, rfl, .own CM, tyx_tuple hd, TM.notT, false, rfl, iteF (k H (Same.refl H))⟩
theorem sc_need_state : FnScope ["machine", "state"] ["machine", "state"] (defScope s_need_state) := ⟨rfl, rfl, rfl, by decide +kernel, rfl, by decide +kernel, by decide +kernel⟩
theorem ok_need_state (F : FnP K "need_state" s_need_state f fd) (T : Mg mg) (R : Er P w K mg base a) (TM : ClsM K mg CM) (c_is_below : Cal P w K mg base CX0 2 "is_below" ["value", "limit"] (spBelow K)) : FnOk P w K mg base (L2.CX P w) 3 f fd ["machine", "state"] (spState K a CM) := by
  refine F.ok sc_need_state (fun vs H Q E h => ?_) (fun cdv A outer s H vs Q E hr h => ?_)
  · obtain ⟨m, n, ts, v, rfl, _⟩ := h
    rfl
  · obtain ⟨m, n, ts, v, rfl, ⟨ok, dx, t, ps, h1, h2, h3⟩, hv, bad, good⟩ := h
    refine ⟨_, (pss_cons (ps_if (pt_not (pt_val (pe_callC c_is_below hr pass0 (pa_cons (pv 1) (pa_cons (pe_fld (pv 0) rfl) pa_nil)))))
        (pss_one (KS.ps_throw R.NoState R.n_NoState rfl hr (takes_of rfl rfl rfl rfl) (pa_cons (pv 1) pa_nil)))
        pss_nil)
      (pss_one (ps_ret (pv 1)))), ?_⟩
    refine ⟨v, rfl, _, rfl, m, CM, dx, _, _, rfl, h1, TM.cl, TM.n2, rfl, v, _, rfl, hv, isBel n v, rfl, ?_⟩
    cases eb : isBel n v with
    | false => exact iteT ⟨v, rfl, v, rfl, (bad eb).at_⟩
    | true => exact iteF ⟨v, rfl, good eb⟩
theorem sc_need_deed : FnScope ["machine", "deed"] ["machine", "deed"] (defScope s_need_deed) := ⟨rfl, rfl, rfl, by decide +kernel, rfl, by decide +kernel, by decide +kernel⟩
theorem ok_need_deed (F : FnP K "need_deed" s_need_deed f fd) (T : Mg mg) (R : Er P w K mg base a) (TM : ClsM K mg CM) (c_is_below : Cal P w K mg base CX0 2 "is_below" ["value", "limit"] (spBelow K)) : FnOk P w K mg base (L2.CX P w) 3 f fd ["machine", "deed"] (spDeed K a CM) := by
  refine F.ok sc_need_deed (fun vs H Q E h => ?_) (fun cdv A outer s H vs Q E hr h => ?_)
  · obtain ⟨m, n, ts, v, rfl, _⟩ := h
    rfl
  · obtain ⟨m, n, ts, v, rfl, ⟨ok, dx, t, ps, h1, h2, h3⟩, hv, bad, good⟩ := h
    refine ⟨_, (pss_cons (ps_if (pt_not (pt_val (pe_callC c_is_below hr pass0 (pa_cons (pv 1) (pa_cons (pe_fld (pv 0) rfl) pa_nil)))))
        (pss_one (KD.ps_throw R.NoDeed R.n_NoDeed rfl hr (takes_of rfl rfl rfl rfl) (pa_cons (pv 1) pa_nil)))
        pss_nil)
      (pss_one (ps_ret (pv 1)))), ?_⟩
    refine ⟨v, rfl, _, rfl, m, CM, dx, _, _, rfl, h1, TM.cl, TM.n1, rfl, v, _, rfl, hv, isBel ts.length v, rfl, ?_⟩
    cases eb : isBel ts.length v with
    | false => exact iteT ⟨v, rfl, v, rfl, (bad eb).at_⟩
    | true => exact iteF ⟨v, rfl, good eb⟩
theorem sc_check_row : FnScope ["machine", "value"] ["machine", "value"] (defScope s_check_row) := ⟨rfl, rfl, rfl, by decide +kernel, rfl, by decide +kernel, by decide +kernel⟩
theorem ok_check_row (F : FnP K "check_row" s_check_row f fd) (T : Mg mg) (TM : ClsM K mg CM) (c_row_of : Cal P w K mg base (L2.CX P w) 4 "row_of" ["value", "deeds"] (spRowOf K a)) : FnOk P w K mg base (L2.CX P w) 5 f fd ["machine", "value"] (spRow K a CM) := by
  refine F.ok sc_check_row (fun vs H Q E h => ?_) (fun cdv A outer s H vs Q E hr h => ?_)
  · obtain ⟨m, n, ts, v, o, rfl, _⟩ := h
    rfl
  · obtain ⟨m, n, ts, v, o, rfl, ⟨ok, dx, t, ps, h1, h2, h3⟩, hv, hk, bad, good⟩ := h
    refine ⟨_, (pss_one (ps_ret (pe_callC c_row_of hr (passes_call (takes_of rfl rfl rfl rfl) (fun _ _ _ _ z => z)) (pa_cons (pv 1) (pa_cons (pe_fld (pv 0) rfl) pa_nil))))), ?_⟩
    exact ⟨v, rfl, _, rfl, m, CM, dx, _, _, rfl, h1, TM.cl, TM.n1, rfl, v, o, _, rfl, hv, hk, bad, good⟩
end
end K1
/-! where rows lead; what is reached -/
namespace K1
open L2 PySem PySem.Spec PyProof.Rows Kx
/-- a row of deeds below l -/
def RowOk (l : Nat) (row : List Int) : Prop := ∀ d ∈ row, 0 ≤ d ∧ d < (l : Int)
theorem Mok.led_in {n : Nat} {ts : List (List Int)} (ok : Mok n ts) : ∀ {s : Int} {row : List Int}, 0 ≤ s → s < n → RowOk ts.length row → 0 ≤ ledTo ts s row ∧ ledTo ts s row < n
  | s, [], h0, h1, _ => ⟨h0, h1⟩
  | s, d :: row, h0, h1, hr => by
    obtain ⟨d0, d1⟩ := hr d (List.mem_cons_self ..)
    obtain ⟨t, x, _, _, e, x0, x1⟩ := ok.next d0 d1 h0 h1
    show 0 ≤ ledTo ts ((ts.getD d.toNat []).getD s.toNat 0) row ∧ ledTo ts ((ts.getD d.toNat []).getD s.toNat 0) row < n
    rw [e]
    exact Mok.led_in ok x0 x1 fun z hz => hr z (List.mem_cons_of_mem _ hz)
theorem isBel_iff {l i : Int} : isBel l (.int i) = true ↔ 0 ≤ i ∧ i < l := by
  show (decide (0 ≤ i) && decide (i < l)) = true ↔ _
  rw [Bool.and_eq_true, decide_eq_true_eq, decide_eq_true_eq]
theorem isBel_int {l : Int} {v : V} (h : isBel l v = true) : ∃ i, v = .int i ∧ 0 ≤ i ∧ i < l := by
  cases v with
  | int i => exact ⟨i, rfl, isBel_iff.mp h⟩
  | _ => cases h
theorem rowAt_ok {l : Nat} {row : List Int} (h : rowAt l (some (row.map V.int)) = none) : RowOk l row := by
  have h : (if (row.map V.int).length ≤ 400 then (fnb l (row.map V.int)).map (fun (i : Nat) => (i : Int)) else some (-1)) = none := h
  by_cases z : (row.map V.int).length ≤ 400
  · rw [if_pos z, Option.map_eq_none_iff] at h
    exact fun d hd => isBel_iff.mp (fnb_none.mp h _ (List.mem_map_of_mem hd))
  · rw [if_neg z] at h
    cases h
section
variable {P : Program} {w : World} {K : PySem.W.Frag} {mg : Str → Option Value} {base : Heap} {f : Addr} {fd : FuncData} {a : Ad} {CM : Addr}
def spEnded (K : PySem.W.Frag) : Sp := fun vs H Q _ => ∃ (t b : Addr) (ps : List V) (ts : List (List Int)) (n : Nat) (row : List Int) (s0 : Int), vs = [.ref t, .int s0, .ref b] ∧ Mok n ts ∧ SqT K H t ps ∧ RowsBy (SqT K H) ps ts ∧ SqT K H b (row.map V.int) ∧ RowOk ts.length row ∧ 0 ≤ s0 ∧ s0 < (n : Int) ∧ ∀ H', Same H H' → Q (.int (ledTo ts s0 row)) H'
theorem sc_ended : FnScope ["tables", "place", "row", "deed"] ["tables", "place", "row"] (defScope s_ended) := ⟨rfl, rfl, rfl, by decide +kernel, rfl, by decide +kernel, by decide +kernel⟩
theorem ok_ended (F : FnP K "ended" s_ended f fd) : FnOk P w K mg base CX0 1 f fd ["tables", "place", "row"] (spEnded K) := by
  refine F.ok sc_ended (fun vs H Q E h => ?_) (fun cdv A outer s H vs Q E hr h => ?_)
  · obtain ⟨t, b, ps, ts, n, row, s0, rfl, _⟩ := h
    rfl
  · obtain ⟨t, b, ps, ts, n, row, s0, rfl, ok, h2, h3, hp, rok, s1, s2, fin⟩ := h
    refine ⟨_, PSs.nox (pss_cons (ps_for PassesOwn.never rfl (pi_tup (pv 2)) (pg_name (i := 3) sc_ended.nd rfl (by first | exact Or.inl rfl | exact Or.inr rfl))
        (pss_one (ps_set (i := 1) sc_ended.nd rfl (by first | exact Or.inl rfl | exact Or.inr rfl) (pe_ix ix_tup (pe_ix ix_tup (pv 0) (pv 3) (fun _ _ => rfl)) (pv 1) (fun _ _ => rfl)))))
      (pss_one (ps_ret (pv 1)))), ?_⟩
    refine ⟨_, rfl, b, rfl, ⟨_, hp⟩, ?_⟩
    refine for_tup (xs := row.map V.int) (fun i σ' H' => ∃ y, σ' = [some (.ref t), some (.int (ledTo ts s0 (row.take i))), some (.ref b), y] ∧ Same H H') ⟨_, rfl, Same.refl _⟩ (fun i σ' H' _ q => q.elim fun _ q => sqT_same q.2 hp) ?_ ?_
    · rintro i y σ' H' hy ⟨_, rfl, e⟩
      obtain ⟨hi, ey⟩ := List.getElem?_eq_some_iff.mp hy
      rw [List.length_map] at hi
      rw [List.getElem_map] at ey
      subst ey
      have hd := rok _ (List.getElem_mem hi)
      have hl := ok.led_in s1 s2 (row := row.take i) fun z hz => rok z (List.mem_of_mem_take hz)
      obtain ⟨tt, x, t1, t2, t3, _⟩ := ok.next hd.1 hd.2 hl.1 hl.2
      obtain ⟨q, hq, sq⟩ := h3.at_ t1
      have a1 : atI ps (row[i]) = some (.ref q) := by
        have := atI_nat hq
        rwa [Int.toNat_of_nonneg hd.1] at this
      have a2 : atI (tt.map V.int) (ledTo ts s0 (row.take i)) = some (.int x) := by
        have := atI_nat (xs := tt.map V.int) (j := (ledTo ts s0 (row.take i)).toNat) (v := .int x) (by rw [List.getElem?_map, t2]; rfl)
        rwa [Int.toNat_of_nonneg hl.1] at this
      refine ⟨_, rfl, _, rfl, t, ps, _, _, rfl, rfl, sqT_same e h2, a1, _, rfl, q, _, _, _, rfl, rfl, sqT_same e sq, a2, some (.int row[i]), ?_, e⟩
      rw [List.take_add_one, List.getElem?_eq_getElem hi]
      show _ = [some (V.ref t), some (V.int (ledTo ts s0 (row.take i ++ [row[i]]))), some (V.ref b), _]
      rw [ledTo_snoc, t3]
      rfl
    · rintro σ' H' ⟨_, rfl, e⟩
      rw [List.length_map, List.take_length]
      exact ⟨_, rfl, fin H' e⟩
theorem sc_led : FnScope ["machine", "state", "row"] ["machine", "state", "row"] (defScope s_led) := ⟨rfl, rfl, rfl, by decide +kernel, rfl, by decide +kernel, by decide +kernel⟩
theorem ok_led (F : FnP K "led" s_led f fd) (T : Mg mg) (TM : ClsM K mg CM) (c_state : Cal P w K mg base (L2.CX P w) 3 "need_state" ["machine", "state"] (spState K a CM)) (c_row : Cal P w K mg base (L2.CX P w) 5 "check_row" ["machine", "value"] (spRow K a CM))
    (c_ended : Cal P w K mg base CX0 1 "ended" ["tables", "place", "row"] (spEnded K)) : FnOk P w K mg base (L2.CX P w) 6 f fd ["machine", "state", "row"] (spLed K a CM) := by
  refine F.ok sc_led (fun vs H Q E h => ?_) (fun cdv A outer s H vs Q E hr h => ?_)
  · obtain ⟨m, n, ts, v, r, o, rfl, _⟩ := h
    rfl
  · obtain ⟨m, n, ts, v, r, o, rfl, hm, hv, hr', hk, bad, good⟩ := h
    obtain ⟨ok, dx, t, ps, h1, h2, h3⟩ := id hm
    refine ⟨_, (pss_cons (ps_expr (pe_callC c_state hr (passes_call (takes_of rfl rfl rfl rfl) (fun _ _ _ _ z => z)) (pa_cons (pv 0) (pa_cons (pv 1) pa_nil))))
      (pss_one (ps_ret (pe_callC c_ended hr pass0 (pa_cons (pe_fld (pv 0) rfl) (pa_cons (pv 1) (pa_cons (pe_callC c_row hr (passes_call (takes_of rfl rfl rfl rfl) (fun _ _ _ _ z => z)) (pa_cons (pv 0) (pa_cons (pv 2) pa_nil))) pa_nil))))))), ?_⟩
    refine ⟨_, rfl, v, rfl, m, n, ts, v, rfl, hm, hv, bad, fun eb => ?_⟩
    obtain ⟨bad2, good2⟩ := good eb
    refine ⟨_, rfl, m, CM, dx, _, _, rfl, h1, TM.cl, TM.n3, rfl, _, rfl, ?_⟩
    refine ⟨_, rfl, r, rfl, m, n, ts, r, o, rfl, hm, hr', hk, bad2, fun ea => ?_⟩
    obtain ⟨b, row, s0, rfl, rfl, rfl, hs, fin⟩ := good2 ea
    obtain ⟨s1, s2⟩ := isBel_iff.mp eb
    refine ⟨b, _, rfl, rfl, hs, fun p H1 e1 hp => ?_⟩
    exact ⟨t, p, ps, ts, n, row, s0, rfl, ok, sqT_same e1 h2, h3.imp fun _ _ q => sqT_same e1 q, hp.sqT, rowAt_ok ea, s1, s2, fun H' e => fin H' (e1.trans e)⟩
end
end K1
/-! what is reached -/
namespace K1
open L2 PySem PySem.Spec PyProof.Rows Kx
def Rch (ts : List (List Int)) (s x : Int) : Prop := ∃ row, RowOk ts.length row ∧ x = ledTo ts s row
def nx (ts : List (List Int)) (d : Nat) (x : Int) : Int := (ts.getD d []).getD x.toNat 0
theorem Rch.refl {ts : List (List Int)} {s : Int} : Rch ts s s := ⟨[], (fun d h => nomatch h), rfl⟩
theorem Rch.step {ts : List (List Int)} {s x : Int} {d : Nat} (h : Rch ts s x) (hd : d < ts.length) : Rch ts s (nx ts d x) := by
  obtain ⟨row, h1, rfl⟩ := h
  refine ⟨row ++ [(d : Int)], fun z hz => ?_, ?_⟩
  · rcases List.mem_append.mp hz with hz | hz
    · exact h1 z hz
    · rw [List.mem_singleton.mp hz]
      omega
  · rw [ledTo_snoc, Int.toNat_natCast]
    rfl
theorem closed_all {ts : List (List Int)} {F : List Int} (cl : ∀ x ∈ F, ∀ d, d < ts.length → nx ts d x ∈ F) : ∀ {row : List Int} {s : Int}, s ∈ F → RowOk ts.length row → ledTo ts s row ∈ F
  | [], s, h, _ => h
  | d :: row, s, h, hr => by
    have hd := hr d (List.mem_cons_self ..)
    have := cl s h d.toNat (by omega)
    exact closed_all cl (row := row) this fun z hz => hr z (List.mem_cons_of_mem _ hz)
theorem len_le : ∀ {n : Nat} {F : List Int}, F.Nodup → (∀ x ∈ F, 0 ≤ x ∧ x < (n : Int)) → F.length ≤ n
  | 0, F, _, h => by
    cases F with
    | nil => exact Nat.le_refl _
    | cons x F => have := h x (List.mem_cons_self ..); omega
  | n + 1, F, nd, h => by
    by_cases hm : (n : Int) ∈ F
    · have e := List.length_erase_of_mem hm
      have := len_le (n := n) (nd.erase (n : Int)) fun x hx => by
        have h1 := (nd.mem_erase_iff).mp hx
        have h2 := h x h1.2
        have h3 : x ≠ (n : Int) := h1.1
        omega
      omega
    · have := len_le (n := n) nd fun x hx => by
        have h2 := h x hx
        have h3 : x ≠ (n : Int) := fun z => hm (z ▸ hx)
        omega
      omega
theorem Mok.rch {n : Nat} {ts : List (List Int)} (ok : Mok n ts) {s x : Int} (h0 : 0 ≤ s) (h1 : s < n) (h : Rch ts s x) : 0 ≤ x ∧ x < n := by
  obtain ⟨row, h2, rfl⟩ := h
  exact ok.led_in h0 h1 h2
/-- what is found, k of it looked at -/
structure Fnd (ts : List (List Int)) (s : Int) (F : List Int) (k : Nat) : Prop where
  nd : F.Nodup
  rch : ∀ x ∈ F, Rch ts s x
  st : s ∈ F
  le : k ≤ F.length
  done : ∀ i x, i < k → F[i]? = some x → ∀ d, d < ts.length → nx ts d x ∈ F
theorem Fnd.more {ts : List (List Int)} {s y : Int} {F : List Int} {k : Nat} (h : Fnd ts s F k) (hy : Rch ts s y) (no : y ∉ F) : Fnd ts s (F ++ [y]) k where
  nd := List.nodup_append.mpr ⟨h.nd, by simp, fun a ha b hb e => no (by rw [← List.mem_singleton.mp hb, ← e]; exact ha)⟩
  rch := fun x hx => (List.mem_append.mp hx).elim (h.rch x) fun hx => by rw [List.mem_singleton.mp hx]; exact hy
  st := List.mem_append_left _ h.st
  le := by rw [List.length_append]; have := h.le; omega
  done := fun i x hi hx d hd => List.mem_append_left _ (h.done i x hi (by rw [List.getElem?_append_left (by have := h.le; omega)] at hx; exact hx) d hd)
theorem Fnd.all {ts : List (List Int)} {s : Int} {F : List Int} (h : Fnd ts s F F.length) (x : Int) : x ∈ F ↔ Rch ts s x := by
  refine ⟨h.rch x, fun ⟨row, h1, e⟩ => ?_⟩
  rw [e]
  refine closed_all (fun y hy d hd => ?_) h.st h1
  obtain ⟨i, hi⟩ := List.getElem?_of_mem hy
  exact h.done i y (List.getElem?_eq_some_iff.mp hi).1 hi d hd
theorem lt_of_le {L : List Int} (h : L.Pairwise (· ≤ ·)) (nd : L.Nodup) : L.Pairwise (· < ·) := (h.and nd).imp fun ⟨a, b⟩ => Int.lt_iff_le_and_ne.mpr ⟨a, b⟩
theorem inV_nums {xs : List Int} {k : Int} : inV (.int k) (xs.map V.int) = decide (k ∈ xs) := by
  induction xs with
  | nil => rfl
  | cons x xs ih =>
    have e : inV (.int k) ((x :: xs).map V.int) = (eqV (.int x) (.int k) || inV (.int k) (xs.map V.int)) := rfl
    rw [e, ih, Bool.eq_iff_iff]
    have e2 : eqV (.int x) (.int k) = true ↔ x = k := by
      show decide _ = true ↔ _
      simp
    rw [Bool.or_eq_true, e2, decide_eq_true_eq, decide_eq_true_eq, List.mem_cons]
    exact ⟨fun h => h.imp Eq.symm id, fun h => h.imp Eq.symm id⟩
theorem flat_nums {xs : List Int} : (xs.map V.int).all flatV = true := List.all_eq_true.mpr fun x hx => by
  obtain ⟨i, _, rfl⟩ := List.mem_map.mp hx
  rfl
def spReached (K : PySem.W.Frag) (a : Ad) (CM : Addr) : Sp := fun vs H Q E => ∃ m n ts v, vs = [.ref m, v] ∧ McAt K CM H m n ts ∧ Kn K H v ∧ (isBel n v = false → Thrown E H a.cN "state" v) ∧
  (isBel n v = true → ∃ s, v = .int s ∧ ∀ (p : Addr) (L : List Int) H', Same H H' → L.Pairwise (· < ·) → (∀ x, x ∈ L ↔ Rch ts s x) → SqT K H' p (L.map V.int) → Q (.ref p) H')
end K1
/-! sorted(t), t a tuple of whole numbers -/
namespace Kx
open L2 PySem PySem.Spec PyProof.Rows
def rSortTup (K : PySem.W.Frag) : List V → Hp → VK → Prop := fun vs H Q => ∃ (a : Addr) (ns : List Int), vs = [V.ref a] ∧ SqT K H a (ns.map V.int) ∧ ns.length < 64 ∧
  ∀ (L : List Int) (p : Addr), L.Perm ns → L.Pairwise (· ≤ ·) → H p = none → Q (.ref p) (upd H p (.lst (L.map V.int)))
theorem cr_sortTup {X : Cx} : CallR X (.builtin "sorted") (rSortTup X.K) := by
  rintro pins s σ H vs us Q I r ⟨a, ns, rfl, hs, few, q⟩
  obtain ⟨us, rv, ⟨ob, here, cl, n, hd⟩, _⟩ := I.tuple hs
  rw [Vals.ref1 r]
  have hi := rv.ints
  have few' : us.length < 64 := by rw [hi.length]; exact few
  refine Calls.call_function_entry kind_sorted plain_sorted entry_sorted (args_sorted1 _) ?_; unfold Builtin.«sorted»; refine wpAny_bind (m := checkCount "sorted" 1 1 _) (wpAny_pure ?_)
  refine wpAny_bind (wpAny_collect_seq a (.inr rfl) here cl hd (fun h' all => ?_) (by rw [List.size_toArray]; exact small64 few'))
  rw [List.toList_toArray]; refine wpAny_bind (wpAny_newList ?_)
  have new : (h'.push (seqObj "list" us.toArray 0)).get? h'.objs.size = some (seqObj "list" us.toArray 0) := Heap.get?_push_size _ rfl
  refine wpAny_bind (wpAny_holding (wpAny_call_entry slot_list_sort ⟨_, new, rfl⟩ entry_list_sort (list_sort_tree new hi few' fun out L a1 a2 a3 => ⟨_, rfl, ?_⟩) (args_list_sort _)))
  refine wpAny_pure ⟨_, rfl, (?_ : EP X pins σ Q _ _)⟩
  obtain ⟨ep, last⟩ := sortedHeap_at (vs := us) (out := out) new
  have none_ : s.heap.get? h'.objs.size = none := by
    cases e : s.heap.get? h'.objs.size with
    | none => rfl
    | some o => exact absurd (Heap.lt_size (all _ _ e)) (Nat.lt_irrefl _)
  have free : H h'.objs.size = none := I.hok.gone none_
  have fits : (L.map V.int).length ≤ sizeLine := by rw [List.length_map, a2.length_eq]; exact small64 few
  refine ⟨.ref h'.objs.size, upd H h'.objs.size (.lst (L.map V.int)), I.laidN (t' := s.toks) (fun b o e => ?_) none_ free ⟨fits, out.toList, ep, vals_of_ints a1, last⟩, rfl, q L _ a2 a3 free⟩
  have e2 := all b o e
  rw [sortedHeap_old (Nat.ne_of_lt (Heap.lt_size e2)) (Heap.lt_size (Heap.get?_push_of_some _ e2))]
  exact Heap.get?_push_of_some _ e2
end Kx
/-! what comes; the one machine that forgets -/
namespace K1
open L2 PySem PySem.Spec PyProof.Rows Kx
def spComing (K : PySem.W.Frag) (a : Ad) (CM : Addr) : Sp := fun vs H Q E => ∃ m n ts v, vs = [.ref m, v] ∧ McAt K CM H m n ts ∧ Kn K H v ∧ (isBel n v = false → Thrown E H a.cN "state" v) ∧
  (isBel n v = true → ∃ s, v = .int s ∧ ∀ (p : Addr) (L : List Int) H', Same H H' → L.Nodup → L.length ≤ n → (∀ x, x ∈ L ↔ Rch ts s x) → SqT K H' p (L.map V.int) → Q (.ref p) H')
section
variable {P : Program} {w : World} {K : PySem.W.Frag} {mg : Str → Option Value} {base : Heap} {f : Addr} {fd : FuncData} {a : Ad} {CM : Addr}
theorem sc_coming : FnScope ["machine", "first", "found", "at", "table", "state"] ["machine", "first"] (defScope s_in_coming_order) := ⟨rfl, rfl, rfl, by decide +kernel, rfl, by decide +kernel, by decide +kernel⟩
theorem ok_coming (F : FnP K "in_coming_order" s_in_coming_order f fd) (T : Mg mg) (TM : ClsM K mg CM) (c_state : Cal P w K mg base (L2.CX P w) 3 "need_state" ["machine", "state"] (spState K a CM)) : FnOk P w K mg base (L2.CX P w) 5 f fd ["machine", "first"] (spComing K a CM) := by
  refine F.ok sc_coming (fun vs H Q E h => ?_) (fun cdv A outer s H vs Q E hr h => ?_)
  · obtain ⟨m, n, ts, v, rfl, _⟩ := h
    rfl
  · obtain ⟨m, n, ts, v, rfl, hm, hv, bad, good⟩ := h
    obtain ⟨ok, dx, t, ps, h1, h2, h3⟩ := id hm
    refine ⟨_, (pss_cons (ps_set (i := 2) sc_coming.nd rfl (by first | exact Or.inl rfl | exact Or.inr rfl) (pe_lst (pa_cons (pe_callC c_state hr (passes_call (takes_of rfl rfl rfl rfl) (fun _ _ _ _ z => z)) (pa_cons (pv 0) (pa_cons (pv 1) pa_nil))) pa_nil)))
      (PSs.nox (pss_cons (ps_set (i := 3) sc_coming.nd rfl (by first | exact Or.inl rfl | exact Or.inr rfl) pe_int)
      (pss_cons (ps_while PassesOwn.never (pt_cmpR op_lt (pv 3) (pe_callB call_len_seq (by rfl) T.z_len PySem.boot_len (pa_cons (pv 2) pa_nil)) (nomark _))
        (pss_cons (ps_for PassesOwn.never rfl (pi_tup (pe_fld (pv 0) rfl)) (pg_name (i := 4) sc_coming.nd rfl (by first | exact Or.inl rfl | exact Or.inr rfl))
          (pss_cons (ps_set (i := 5) sc_coming.nd rfl (by first | exact Or.inl rfl | exact Or.inr rfl) (pe_ix ix_tup (pv 4) (pe_ix ix_list (pv 2) (pv 3) (fun _ _ => rfl)) (fun _ _ => rfl)))
          (pss_one (ps_if (pt_cmpR op_notIn_seq (pv 5) (pv 2) (by rfl))
            (pss_one (ps_expr (pe_bm PySem.F.plainAttrs_list PySem.F.slot_list_append PySem.F.type_list_append mt_append (pv 2) (pa_cons (pv 5) pa_nil))))
            pss_nil))))
        (pss_one (ps_aug (i := 3) sc_coming.nd rfl (.inl rfl) pe_int ip_add))))
      (pss_one (ps_ret (pe_callTy call_tup (by rfl) T.z_tuple (by decide +kernel) (pa_cons (pv 2) pa_nil)))))))), ?_⟩
    refine ⟨_, rfl, v, rfl, m, n, ts, v, rfl, hm, hv, bad, fun eb => ?_⟩
    obtain ⟨s0, rfl, fin⟩ := good eb
    obtain ⟨s1, s2⟩ := isBel_iff.mp eb
    refine ⟨by show 1 ≤ sizeLine; decide, fun Fa hFa => ?_⟩
    refine ⟨fun k σ' H' => ∃ (j : Nat) (L : List Int) (y z : Option V), k = n - j ∧ σ' = [some (.ref m), some (.int s0), some (.ref Fa), some (.int (j : Int)), y, z] ∧ Fnd ts s0 L j ∧ H' Fa = some (.lst (L.map V.int)) ∧ Same H H', ⟨n, 0, [s0], _, _, rfl, rfl, ⟨by simp, fun x hx => by rw [List.mem_singleton.mp hx]; exact .refl, by simp, Nat.zero_le _, fun i x h => absurd h (Nat.not_lt_zero i)⟩, upd_same, same_new hFa⟩, ?_⟩
    rintro k σ' H' ⟨j, L, y, z, rfl, rfl, fnd, hL, e⟩
    have lenL := len_le fnd.nd fun x hx => ok.rch s1 s2 (fnd.rch x hx)
    refine ⟨_, rfl, _, rfl, Fa, _, rfl, .inl (SqL.of hL), _, _, rfl, rfl, _, rfl, ite2 (fun lt => ?_) (fun ge => ?_)⟩
    · rw [List.length_map] at lt
      have lt := of_decide_eq_true lt
      have hj : j < L.length := by omega
      have ex : L[j]? = some L[j] := List.getElem?_eq_getElem hj
      have hx := ok.rch s1 s2 (fnd.rch _ (List.mem_of_getElem? ex))
      refine ⟨fun σ2 H2 => ∃ (L2 : List Int) (y z : Option V), σ2 = [some (.ref m), some (.int s0), some (.ref Fa), some (.int ((j + 1 : Nat) : Int)), y, z] ∧ Fnd ts s0 L2 (j + 1) ∧ H2 Fa = some (.lst (L2.map V.int)) ∧ Same H H2, ?_, ?_⟩
      · rintro σ2 H2 ⟨L2, y, z, r1, r2, r3, r4⟩
        exact ⟨n - (j + 1), by omega, j + 1, L2, y, z, rfl, r1, r2, r3, r4⟩
      · refine ⟨_, rfl, m, CM, dx, _, _, rfl, e _ _ h1, TM.cl, TM.n3, rfl, t, rfl, ⟨ps, sqT_same e h2⟩, ?_⟩
        refine for_tup (xs := ps) (fun i σ2 H2 => ∃ (G : List Int) (y z : Option V), σ2 = [some (.ref m), some (.int s0), some (.ref Fa), some (.int (j : Int)), y, z] ∧ Fnd ts s0 (L ++ G) j ∧ (∀ d, d < i → nx ts d L[j] ∈ L ++ G) ∧ H2 Fa = some (.lst ((L ++ G).map V.int)) ∧ Same H H2) ⟨[], _, _, rfl, by rw [List.append_nil]; exact fnd, fun d hd => absurd hd (Nat.not_lt_zero d), by rw [List.append_nil]; exact hL, e⟩ (fun i σ2 H2 _ q => by
          obtain ⟨_, _, _, _, _, _, _, e2⟩ := q
          exact sqT_same e2 h2) ?_ ?_
        · rintro i q σ2 H2 hq ⟨G, y2, z2, rfl, fnd2, cl2, hL2, e2⟩
          have hi : i < ts.length := by rw [← h3.length]; exact (List.getElem?_eq_some_iff.mp hq).1
          obtain ⟨tt, x', t1, t2, t3, x0, x1⟩ := ok.next (d := (i : Int)) (by omega) (by omega) hx.1 hx.2
          rw [Int.toNat_natCast] at t1 t3
          obtain ⟨qa, hqa, sq⟩ := h3.at_ t1
          rw [hq] at hqa
          obtain rfl := Option.some.inj hqa
          have en : nx ts i L[j] = x' := t3
          have rx : Rch ts s0 x' := by
            rw [← en]
            exact (fnd.rch _ (List.mem_of_getElem? ex)).step hi
          have a1 : atI ((L ++ G).map V.int) (j : Int) = some (V.int L[j]) := atI_nat (by rw [List.getElem?_map, List.getElem?_append_left hj, ex]; rfl)
          have a2 : atI (tt.map V.int) L[j] = some (V.int x') := by
            have := atI_nat (xs := tt.map V.int) (j := L[j].toNat) (v := .int x') (by rw [List.getElem?_map, t2]; rfl)
            rwa [Int.toNat_of_nonneg hx.1] at this
          have lenG := len_le fnd2.nd fun x hx => ok.rch s1 s2 (fnd2.rch x hx)
          have n8 := ok.n8
          refine ⟨_, rfl, _, rfl, _, rfl, Fa, _, _, _, rfl, rfl, SqL.of hL2, a1, qa, _, _, _, rfl, rfl, sqT_same e2 sq, a2, ?_⟩
          refine ⟨_, rfl, _, rfl, Fa, _, rfl, .inl (SqL.of hL2), rfl, flat_nums, _, rfl, ?_⟩
          rw [if_pos rfl, inV_nums]
          refine ite2 (fun no => ?_) (fun yes => ?_)
          · have no : x' ∉ L ++ G := by simpa using no
            refine ⟨_, rfl, .inl ⟨rfl, _, SqL.of hL2⟩, _, rfl, Fa, _, _, rfl, rfl, hL2, by rw [List.length_map, sizeLine_eq]; omega, G ++ [x'], _, _, rfl, ?_, ?_, ?_, ?_⟩
            · rw [← List.append_assoc]
              exact fnd2.more rx no
            · intro d hd
              rw [← List.append_assoc]
              rcases Nat.lt_or_eq_of_le (Nat.le_of_lt_succ hd) with h | rfl
              · exact List.mem_append_left _ (cl2 d h)
              · rw [en]
                simp
            · rw [upd_same, ← List.append_assoc, List.map_append (l₁ := L ++ G)]
              rfl
            · intro c o hc
              rw [upd_ne (ne_of_none hc hFa)]
              exact e2 _ _ hc
          · have yes : x' ∈ L ++ G := Decidable.not_not.mp (by simpa [-List.mem_append] using yes)
            refine ⟨G, _, _, rfl, fnd2, fun d hd => ?_, hL2, e2⟩
            rcases Nat.lt_or_eq_of_le (Nat.le_of_lt_succ hd) with h | rfl
            · exact cl2 d h
            · rw [en]
              exact yes
        · rintro σ2 H2 ⟨G, y2, z2, rfl, fnd2, cl2, hL2, e2⟩
          refine ⟨_, rfl, _, _, rfl, rfl, L ++ G, y2, z2, ?_, ⟨fnd2.nd, fnd2.rch, fnd2.st, by rw [List.length_append]; omega, fun i x hi hx' d hd => ?_⟩, hL2, e2⟩
          · rfl
          · rcases Nat.lt_or_eq_of_le (Nat.le_of_lt_succ hi) with h | rfl
            · exact fnd2.done i x h hx' d hd
            · rw [List.getElem?_append_left hj, ex] at hx'
              cases hx'
              exact cl2 d (by rw [h3.length]; exact hd)
    · rw [List.length_map] at ge
      have ge : ¬ ((j : Int) < (L.length : Int)) := of_decide_eq_false (by simpa using ge)
      have ej : j = L.length := by have := fnd.le; omega
      subst ej
      exact ⟨_, rfl, Fa, _, rfl, .inl (SqL.of hL), fun q H3 e3 hq => fin q L H3 (e.trans e3) fnd.nd lenL (fun x => fnd.all x) hq⟩
theorem sc_reached : FnScope ["machine", "first"] ["machine", "first"] (defScope s_reached) := ⟨rfl, rfl, rfl, by decide +kernel, rfl, by decide +kernel, by decide +kernel⟩
theorem ok_reached (F : FnP K "reached" s_reached f fd) (T : Mg mg) (c_coming : Cal P w K mg base (L2.CX P w) 5 "in_coming_order" ["machine", "first"] (spComing K a CM)) : FnOk P w K mg base (L2.CX P w) 6 f fd ["machine", "first"] (spReached K a CM) := by
  refine F.ok sc_reached (fun vs H Q E h => ?_) (fun cdv A outer s H vs Q E hr h => ?_)
  · obtain ⟨m, n, ts, v, rfl, _⟩ := h
    rfl
  · obtain ⟨m, n, ts, v, rfl, hm, hv, bad, good⟩ := h
    refine ⟨_, (pss_one (ps_ret (pe_callTy call_tup (by rfl) T.z_tuple (by decide +kernel) (pa_cons (pe_callB cr_sortTup (by rfl) T.z_sorted (by decide +kernel) (pa_cons (pe_callC c_coming hr (passes_call (takes_of rfl rfl rfl rfl) (fun _ _ _ _ z => z)) (pa_cons (pv 0) (pa_cons (pv 1) pa_nil))) pa_nil)) pa_nil)))), ?_⟩
    refine ⟨_, rfl, v, rfl, m, n, ts, v, rfl, hm, hv, bad, fun eb => ?_⟩
    obtain ⟨s0, rfl, fin⟩ := good eb
    refine ⟨s0, rfl, fun t L H1 e1 nd len mem ht => ?_⟩
    have n8 := hm.ok.n8
    refine ⟨t, L, rfl, ht, by omega, fun L' p perm srt hp => ⟨p, _, rfl, .inl (SqL.of upd_same), fun q H3 e3 hq => ?_⟩⟩
    have e4 : Same H H3 := fun c o hc => e3 _ _ (by rw [upd_ne (ne_of_none (e1 _ _ hc) hp)]; exact e1 _ _ hc)
    exact fin q L' H3 e4 (lt_of_le srt (perm.nodup_iff.mpr nd)) (fun x => by rw [perm.mem_iff]; exact mem x) hq
end
end K1
/-! the law's draws -/
namespace K1
open PySem PySem.Spec PyProof.Rows L2 Kx RZ
/-- a source of draws -/
def bx (t : Int × Int × Int) : HO := .lst [.int t.1, .int t.2.1, .int t.2.2]
/-- from H to H' only the source at b has moved, things were made -/
def Mv (b : Addr) (H H' : Hp) : Prop := (∀ c o, c ≠ b → H c = some o → H' c = some o) ∧ ∃ t, H' b = some (bx t)
theorem Mv.refl {b : Addr} {H : Hp} {t : Int × Int × Int} (h : H b = some (bx t)) : Mv b H H := ⟨fun _ _ _ h => h, t, h⟩
theorem Mv.trans {b : Addr} {H H1 H2 : Hp} (h : Mv b H H1) (g : Mv b H1 H2) : Mv b H H2 := ⟨fun c o ne q => g.1 c o ne (h.1 c o ne q), g.2⟩
theorem Mv.same {b : Addr} {H H1 H2 : Hp} (h : Mv b H H1) (g : Same H1 H2) : Mv b H H2 := ⟨fun c o ne q => g c o (h.1 c o ne q), h.2.elim fun t q => ⟨t, g _ _ q⟩⟩
theorem Mv.upd {b : Addr} {H : Hp} (t : Int × Int × Int) : Mv b H (L2.upd H b (bx t)) := ⟨fun c o ne q => by rw [upd_ne ne]; exact q, t, upd_same⟩
section
variable {K : PySem.W.Frag} {b a : Addr} {H H' : Hp} {t : Int × Int × Int} {xs : List V}
theorem Mv.rd {u : HO} (m : Mv b H H') (hb : H b = some (bx t)) (n1 : ∀ ys, u ≠ .lst ys) (h : Rd H a u) : Rd H' a u := by
  rcases h with h | ⟨z, h⟩
  · exact .inl (m.1 _ _ (ne_of h hb (n1 _)) h)
  · exact .inr ⟨z, m.1 _ _ (ne_of h hb (fun z => nomatch z)) h⟩
theorem Mv.sqT (m : Mv b H H') (hb : H b = some (bx t)) (h : SqT K H a xs) : SqT K H' a xs := h.imp (m.rd hb fun _ z => nomatch z) id
theorem Mv.sqL (m : Mv b H H') (ne : a ≠ b) (h : SqL K H a xs) : SqL K H' a xs := h.imp (fun h => h.elim (fun h => .inl (m.1 _ _ ne h)) fun ⟨z, h⟩ => .inr ⟨z, m.1 _ _ ne h⟩) id
theorem Mv.tupD (m : Mv b H H') (hb : H b = some (bx t)) (h : TupD H a xs) : TupD H' a xs := h.elim fun o h => ⟨o, m.1 _ _ (ne_of h.1 hb (fun z => nomatch z)) h.1, h.2⟩
theorem Mv.mc {C c : Addr} {n : Nat} {ts : List (List Int)} (m : Mv b H H') (hb : H b = some (bx t)) (h : McAt K C H c n ts) : McAt K C H' c n ts := by
  obtain ⟨ok, dx, p, ps, h1, h2, h3⟩ := h
  exact ⟨ok, dx, p, ps, m.1 _ _ (ne_of h1 hb (fun z => nomatch z)) h1, m.sqT hb h2, h3.imp fun _ _ q => m.sqT hb q⟩
end
def spTake : Sp := fun vs H Q _ => ∃ (b : Addr) (t : Int × Int × Int) (many : Int), vs = [.ref b, .int many] ∧ H b = some (bx t) ∧ 0 < many ∧ many < 1073741824 ∧
  ∀ (r : Int) (H' : Hp), 0 ≤ r → r < many → Mv b H H' → Q (.int r) H'
def spPick (K : PySem.W.Frag) : Sp := fun vs H Q _ => ∃ (b a : Addr) (t : Int × Int × Int) (xs : List V), vs = [.ref b, .ref a] ∧ H b = some (bx t) ∧ a ≠ b ∧ SqL K H a xs ∧ 0 < xs.length ∧ xs.length < 1073741824 ∧
  ∀ (v : V) (H' : Hp), v ∈ xs → Mv b H H' → Q v H'
def spBox (K : PySem.W.Frag) : Sp := fun vs H Q _ => ∃ (a : Addr) (ns : List Int) (k : Nat), vs = [.ref a, .int (k : Int)] ∧ SqL K H a (ns.map V.int) ∧ ns.length ≤ 63 ∧
  ∀ (H' : Hp) (b : Addr) (t : Int × Int × Int), Same H H' → H b = none → H' b = some (bx t) → Q (.ref b) H'
section
variable {P : Program} {w : World} {K : PySem.W.Frag} {mg : Str → Option Value} {base : Heap} {f : Addr} {fd : FuncData} {a : Ad} {C CM : Addr}
theorem sc_law_take : FnScope ["box", "many", "digit", "raw"] ["box", "many"] (defScope s_law_take) := ⟨rfl, rfl, rfl, by decide +kernel, rfl, by decide +kernel, by decide +kernel⟩
theorem ok_take (F : FnP K "_law_take" s_law_take f fd) (T : Mg mg) : FnOk P w K mg base CX0 1 f fd ["box", "many"] spTake := by
  refine F.ok sc_law_take (fun vs H Q E h => ?_) (fun cdv A outer s H vs Q E hr h => ?_)
  · obtain ⟨b, t, many, rfl, _⟩ := h
    rfl
  · obtain ⟨b, ⟨x, y, z⟩, many, rfl, hb, h0, h1, k⟩ := h
    refine ⟨_, PSs.nox (pss_cons (ps_if (pt_cmpR op_gt (pe_ix ix_list (pv 0) pe_int (fun _ _ => rfl)) pe_int (nomark _))
        (pss_cons (ps_set (i := 2) sc_law_take.nd rfl (by first | exact Or.inl rfl | exact Or.inr rfl) (pe_op op_mod (pe_callTy call_int1 (by rfl) T.z_int (by decide +kernel) (pa_cons (pe_ix ix_list (pv 0) pe_int (fun _ _ => rfl)) pa_nil)) (pv 1)))
        (pss_cons (ps_asg (pe_op op_fdivN (pe_ix ix_list (pv 0) pe_int (fun _ _ => rfl)) (pv 1)) (pg_sub (pv 0) pe_int set_list))
        (pss_one (ps_ret (pv 2)))))
        pss_nil)
      (pss_cons (ps_asg (pe_op op_add (pe_ix ix_list (pv 0) pe_int (fun _ _ => rfl)) pe_int) (pg_sub (pv 0) pe_int set_list))
      (pss_cons (ps_set (i := 3) sc_law_take.nd rfl (by first | exact Or.inl rfl | exact Or.inr rfl) (pe_op op_mod (pe_callTy call_int1 (by rfl) T.z_int (by decide +kernel) (pa_cons (pe_op op_add (pe_op op_mul (pe_op op_add (pe_ix ix_list (pv 0) pe_int (fun _ _ => rfl)) (pe_op op_mul pe_int (pe_ix ix_list (pv 0) pe_int (fun _ _ => rfl)))) pe_int) pe_int) pa_nil)) pe_int))
      (pss_cons (ps_asg (pe_op op_add (pe_op op_mod (pe_callTy call_int1 (by rfl) T.z_int (by decide +kernel) (pa_cons (pe_op op_add (pe_op op_mul (pv 3) pe_int) pe_int) pa_nil)) pe_int) pe_int) (pg_sub (pv 0) pe_int set_list))
      (pss_one (ps_ret (pe_op op_mod (pe_callTy call_int1 (by rfl) T.z_int (by decide +kernel) (pa_cons (pe_op op_fdiv (pe_op op_add (pe_op op_mul (pv 3) pe_int) (pe_ix ix_list (pv 0) pe_int (fun _ _ => rfl))) pe_int) pa_nil)) (pv 1)))))))), ?_⟩
    refine ⟨_, rfl, b, _, 0, _, rfl, rfl, SqL.of hb, rfl, _, _, rfl, rfl, _, rfl, ?_⟩
    refine ite2 (fun hx => ?_) (fun hx => ?_)
    · refine ⟨_, rfl, b, _, 0, _, rfl, rfl, SqL.of hb, rfl, .inl ⟨_, rfl, _, rfl, _, _, rfl, rfl, h0, ?_⟩⟩
      refine ⟨_, rfl, b, _, 0, _, rfl, rfl, SqL.of hb, rfl, _, rfl, _, _, rfl, rfl, ⟨by omega, by omega⟩, ?_⟩
      refine ⟨_, rfl, b, _, 0, 0, rfl, rfl, hb, rfl, ?_⟩
      exact ⟨_, rfl, k _ _ (Int.emod_nonneg _ (by omega)) (Int.emod_lt_of_pos _ h0) (Mv.upd (x.fdiv many, y, z))⟩
    · refine ⟨_, rfl, b, _, 2, _, rfl, rfl, SqL.of hb, rfl, _, _, rfl, rfl, ?_⟩
      refine ⟨_, rfl, b, _, 2, 2, rfl, rfl, hb, rfl, ?_⟩
      have e1 : L2.upd H b (.lst (([V.int x, V.int y, V.int z] : List V).set 2 (V.int (z + 1)))) b = some (.lst [V.int x, V.int y, V.int (z + 1)]) := upd_same
      refine ⟨_, rfl, b, _, 1, _, rfl, rfl, SqL.of e1, rfl, ?_⟩
      refine ⟨_, rfl, b, _, 2, _, rfl, rfl, SqL.of e1, rfl, _, _, rfl, rfl, .inl ⟨by decide, by decide⟩, _, _, rfl, rfl, _, _, rfl, rfl, .inr ⟨by decide, by decide⟩, _, _, rfl, rfl, ?_⟩
      refine .inl ⟨_, rfl, _, _, rfl, rfl, (by show (0 : Int) < 2147483423; decide), ?_⟩
      generalize hraw : ((y + 66029 * (z + 1)) * 55249 + 67) % 2147483423 = raw
      refine ⟨_, rfl, _, _, rfl, rfl, .inr ⟨by decide, by decide⟩, _, _, rfl, rfl, .inl ⟨_, rfl, _, _, rfl, rfl, (by show (0 : Int) < 2147483477; decide), _, _, rfl, rfl, ?_⟩⟩
      refine ⟨_, rfl, b, _, 1, 1, rfl, rfl, e1, rfl, ?_⟩
      rw [upd_upd]
      refine ⟨_, rfl, _, _, rfl, rfl, .inr ⟨by decide, by decide⟩, ?_⟩
      refine ⟨_, rfl, b, _, 1, _, rfl, rfl, SqL.of upd_same, rfl, _, _, rfl, rfl, _, _, rfl, rfl, ⟨by decide, by decide⟩, .inl ⟨_, rfl, _, rfl, _, _, rfl, rfl, h0, ?_⟩⟩
      exact k _ _ (Int.emod_nonneg _ (by omega)) (Int.emod_lt_of_pos _ h0) (Mv.upd (x, _, z + 1))
theorem sc_law_pick : FnScope ["box", "some"] ["box", "some"] (defScope s_law_pick) := ⟨rfl, rfl, rfl, by decide +kernel, rfl, by decide +kernel, by decide +kernel⟩
theorem ok_pick (F : FnP K "_law_pick" s_law_pick f fd) (T : Mg mg) (c__law_take : Cal P w K mg base CX0 1 "_law_take" ["box", "many"] spTake) : FnOk P w K mg base CX0 2 f fd ["box", "some"] (spPick K) := by
  refine F.ok sc_law_pick (fun vs H Q E h => ?_) (fun cdv A outer s H vs Q E hr h => ?_)
  · obtain ⟨b, a, t, xs, rfl, _⟩ := h
    rfl
  · obtain ⟨b, a, t, xs, rfl, hb, ne, hs, h0, h1, k⟩ := h
    refine ⟨_, PSs.nox (pss_one (ps_ret (pe_ix ix_list (pv 1) (pe_callC c__law_take hr pass0 (pa_cons (pv 0) (pa_cons (pe_callB call_len_seq (by rfl) T.z_len PySem.boot_len (pa_cons (pv 1) pa_nil)) pa_nil))) (fun _ _ => rfl)))), ?_⟩
    refine ⟨_, rfl, _, rfl, _, rfl, a, xs, rfl, .inl hs, b, t, _, rfl, hb, by omega, by omega, fun r H' r0 r1 m => ?_⟩
    obtain ⟨i, rfl⟩ : ∃ i : Nat, r = (i : Int) := ⟨r.toNat, by omega⟩
    have hx : xs[i]? = some xs[i] := List.getElem?_eq_getElem (by omega)
    exact ⟨a, xs, _, _, rfl, rfl, m.sqL ne hs, atI_nat hx, k _ H' (List.mem_of_getElem? hx) m⟩
theorem sc_law_box : FnScope ["script", "k", "cell"] ["script", "k"] (defScope s_law_box) := ⟨rfl, rfl, rfl, by decide +kernel, rfl, by decide +kernel, by decide +kernel⟩
theorem ok_box (F : FnP K "_law_box" s_law_box f fd) (T : Mg mg) : FnOk P w K mg base CX0 1 f fd ["script", "k"] (spBox K) := by
  refine F.ok sc_law_box (fun vs H Q E h => ?_) (fun cdv A outer s H vs Q E hr h => ?_)
  · obtain ⟨a, ns, kk, rfl, _⟩ := h
    rfl
  · obtain ⟨a, ns, kk, rfl, hs, hl, k⟩ := h
    refine ⟨_, PSs.nox (pss_cons (ps_set (i := 2) sc_law_box.nd rfl (by first | exact Or.inl rfl | exact Or.inr rfl) (pe_op op_add (pe_op op_mul pe_int (pv 1)) pe_int))
      (pss_cons (ps_if (pt_cmpR op_lt (pv 1) (pe_callB call_len_seq (by rfl) T.z_len PySem.boot_len (pa_cons (pv 0) pa_nil)) (nomark _))
        (pss_one (ps_set (i := 2) sc_law_box.nd rfl (by first | exact Or.inl rfl | exact Or.inr rfl) (pe_callB call_abs (by rfl) T.z_abs (by decide +kernel) (pa_cons (pe_ix ix_list (pv 0) (pv 1) (fun _ _ => rfl)) pa_nil))))
        (pss_one (ps_if (pt_cmpR op_gt (pe_callB call_len_seq (by rfl) T.z_len PySem.boot_len (pa_cons (pv 0) pa_nil)) pe_int (nomark _))
          (pss_one (ps_set (i := 2) sc_law_box.nd rfl (by first | exact Or.inl rfl | exact Or.inr rfl) (pe_op op_add (pv 2) (pe_op op_mul (pe_op op_mod (pe_callTy call_int1 (by rfl) T.z_int (by decide +kernel) (pa_cons (pe_callB call_abs (by rfl) T.z_abs (by decide +kernel) (pa_cons (pe_ix ix_list (pv 0) (pe_op op_mod (pe_callTy call_int1 (by rfl) T.z_int (by decide +kernel) (pa_cons (pv 1) pa_nil)) (pe_callB call_len_seq (by rfl) T.z_len PySem.boot_len (pa_cons (pv 0) pa_nil))) (fun _ _ => rfl)) pa_nil)) pa_nil)) pe_int) pe_int))))
          pss_nil)))
      (pss_one (ps_ret (pe_lst (pa_cons (pe_ix ix_list (pe_lst (pa_cons pe_int (pa_cons (pv 2) pa_nil))) (pe_callTy call_int1 (by rfl) T.z_int (by decide +kernel) (pa_cons (pe_cmpR op_ge (pv 2) (pe_op op_pow pe_int pe_int) (nomark _)) pa_nil)) (fun _ _ => rfl)) (pa_cons (pe_op op_add (pe_op op_mod (pe_callTy call_int1 (by rfl) T.z_int (by decide +kernel) (pa_cons (pe_op op_add (pe_op op_mul (pe_op op_mod (pe_callTy call_int1 (by rfl) T.z_int (by decide +kernel) (pa_cons (pv 2) pa_nil)) pe_int) pe_int) (pe_op op_mul pe_int (pv 1))) pa_nil)) pe_int) pe_int) (pa_cons pe_int pa_nil)))))))), ?_⟩
    refine ⟨_, rfl, _, _, rfl, rfl, .inl ⟨by decide, by decide⟩, _, _, rfl, rfl, ?_⟩
    refine ⟨_, rfl, _, rfl, a, _, rfl, .inl hs, _, _, rfl, rfl, _, rfl, ?_⟩
    rw [List.length_map]
    have tail : ∀ c : Int, ∀ b : Bool, ∃ v, atI [V.int 0, V.int c] (if b = true then 1 else 0) = some (V.int v) := fun c b => by cases b <;> exact ⟨_, rfl⟩
    refine ite2 (fun h1 => ?_) (fun h1 => ?_)
    · have hk : kk < ns.length := by simpa using h1
      have hx : (ns.map V.int)[kk]? = some (V.int ns[kk]) := by rw [List.getElem?_map, List.getElem?_eq_getElem hk]; rfl
      refine ⟨_, rfl, _, rfl, a, _, _, _, rfl, rfl, hs, atI_nat hx, _, rfl, ?_⟩
      refine ⟨_, rfl, (by show 2 ≤ sizeLine; decide), fun l hl0 => ?_⟩
      refine ⟨_, rfl, _, _, rfl, rfl, ⟨by decide, by decide, by decide⟩, _, _, rfl, rfl, .inr ⟨_, rfl, l, _, _, _, rfl, rfl, SqL.of upd_same, (tail _ _).choose_spec, ?_⟩⟩
      refine ⟨_, rfl, .inl ⟨_, rfl, _, _, rfl, rfl, (by show (0 : Int) < 2147483477; decide), _, _, rfl, rfl, .inr ⟨by decide, by decide⟩, ?_⟩⟩
      refine ⟨_, rfl, _, _, rfl, rfl, .inl ⟨by decide, by decide⟩, _, _, rfl, rfl, .inl ⟨_, rfl, _, _, rfl, rfl, (by show (0 : Int) < 2147483477; decide), _, _, rfl, rfl, ?_⟩⟩
      refine ⟨(by show 3 ≤ sizeLine; decide), fun p hp => ?_⟩
      exact k _ p (_, _, 0) ((same_new hl0).trans (same_new hp)) ((same_new hl0).free hp) upd_same
    · refine ⟨_, rfl, a, _, rfl, .inl hs, _, _, rfl, rfl, _, rfl, ?_⟩
      rw [List.length_map]
      refine ite2 (fun h2 => ?_) (fun h2 => ?_)
      · have hk : 0 < ns.length := by simpa using h2
        have hm : (kk : Int) % (ns.length : Int) = ((kk % ns.length : Nat) : Int) := rfl
        have lt : kk % ns.length < ns.length := Nat.mod_lt _ hk
        have hx : (ns.map V.int)[kk % ns.length]? = some (V.int ns[kk % ns.length]) := by rw [List.getElem?_map, List.getElem?_eq_getElem lt]; rfl
        refine ⟨_, rfl, _, rfl, _, rfl, .inl ⟨_, rfl, _, rfl, a, _, rfl, .inl hs, _, _, rfl, rfl, ?_, ?_⟩⟩
        · rw [List.length_map]
          omega
        · have hat : atI (ns.map V.int) ((kk : Int) % (((ns.map V.int).length : Nat) : Int)) = some (V.int ns[kk % ns.length]) := by
            rw [List.length_map, hm]
            exact atI_nat hx
          refine ⟨a, _, _, _, rfl, rfl, hs, hat, _, rfl, .inl ⟨_, rfl, _, _, rfl, rfl, (by show (0 : Int) < 2147483477; decide), _, _, rfl, rfl, .inr ⟨by decide, by decide⟩, _, _, rfl, rfl, ?_⟩⟩
          refine ⟨_, rfl, (by show 2 ≤ sizeLine; decide), fun l hl0 => ?_⟩
          refine ⟨_, rfl, _, _, rfl, rfl, ⟨by decide, by decide, by decide⟩, _, _, rfl, rfl, .inr ⟨_, rfl, l, _, _, _, rfl, rfl, SqL.of upd_same, (tail _ _).choose_spec, ?_⟩⟩
          refine ⟨_, rfl, .inl ⟨_, rfl, _, _, rfl, rfl, (by show (0 : Int) < 2147483477; decide), _, _, rfl, rfl, .inr ⟨by decide, by decide⟩, ?_⟩⟩
          refine ⟨_, rfl, _, _, rfl, rfl, .inl ⟨by decide, by decide⟩, _, _, rfl, rfl, .inl ⟨_, rfl, _, _, rfl, rfl, (by show (0 : Int) < 2147483477; decide), _, _, rfl, rfl, ?_⟩⟩
          refine ⟨(by show 3 ≤ sizeLine; decide), fun p hp => ?_⟩
          exact k _ p (_, _, 0) ((same_new hl0).trans (same_new hp)) ((same_new hl0).free hp) upd_same
      · generalize (9533 * (kk : Int) + 463) = c
        refine ⟨_, rfl, (by show 2 ≤ sizeLine; decide), fun l hl0 => ?_⟩
        refine ⟨_, rfl, _, _, rfl, rfl, ⟨by decide, by decide, by decide⟩, _, _, rfl, rfl, .inr ⟨_, rfl, l, _, _, _, rfl, rfl, SqL.of upd_same, (tail _ _).choose_spec, ?_⟩⟩
        refine ⟨_, rfl, .inl ⟨_, rfl, _, _, rfl, rfl, (by show (0 : Int) < 2147483477; decide), _, _, rfl, rfl, .inr ⟨by decide, by decide⟩, ?_⟩⟩
        refine ⟨_, rfl, _, _, rfl, rfl, .inl ⟨by decide, by decide⟩, _, _, rfl, rfl, .inl ⟨_, rfl, _, _, rfl, rfl, (by show (0 : Int) < 2147483477; decide), _, _, rfl, rfl, ?_⟩⟩
        refine ⟨(by show 3 ≤ sizeLine; decide), fun p hp => ?_⟩
        exact k _ p (_, _, 0) ((same_new hl0).trans (same_new hp)) ((same_new hl0).free hp) upd_same
end
end K1
/-! how long the texts of data are; a word between two statements; parts of lists -/
namespace Kx
open L2 PySem PySem.Spec PyProof.Rows
/-- behind a statement a word of one's own -/
theorem ps_mid {X : Cx} {st : Stmt} {t : TS} (h : PS X st t) : PS X st fun E σ H => ∃ N : L2.St → Hp → Prop, t { E with nx := N } σ H ∧ ∀ σ' H', N σ' H' → E.nx σ' H' := by
  refine ⟨fun pins s σ H E I ⟨N, q, k⟩ => wpAny_mono (h.run pins s σ H { E with nx := N } I q) (fun f s' z => ?_) fun _ _ z => z⟩
  match f, z with
  | .next, ⟨σ', H', J, n⟩ => exact ⟨σ', H', J, k σ' H' n⟩
  | .brk, z => exact z
  | .cont, z => exact z
  | .ret _, z => exact z
theorem ends_nx {E : Ends} {N : L2.St → Hp → Prop} : ({ E with nx := N } : Ends).nx = N := rfl
section
variable {xs : List V} {i : Nat}
theorem cut_to (h : i ≤ xs.length) : cutV xs none (some (i : Int)) = xs.take i := by
  unfold cutV
  rw [HT.sIx_none, HT.sIx_nat, List.drop_zero, Nat.sub_zero, Nat.min_eq_left h]
theorem cut_from (h : i ≤ xs.length) : cutV xs (some (i : Int)) none = xs.drop i := by
  unfold cutV
  rw [HT.sIx_none, HT.sIx_nat, Nat.min_eq_left h]
  exact List.take_of_length_le (by rw [List.length_drop]; exact Nat.le_refl _)
end
/-- d shows, within m levels, as a text of at most L signs -/
structure OkD (m L : Nat) (d : PyData) : Prop where
  sh : d.showable = true
  nd : d.hasDict = false
  deep : d.depth ≤ m
  fit : d.shown.length ≤ L
structure OkA (m L : Nat) (ds : List PyData) : Prop where
  sh : PyData.showableAll ds = true
  nd : PyData.hasDictAll ds = false
  deep : PyData.depthAll ds ≤ m
  fit : piled (PyData.shownAll ds) ≤ L
theorem OkD.mono {m n L M : Nat} {d : PyData} (h : OkD m L d) (h1 : m ≤ n) (h2 : L ≤ M) : OkD n M d := ⟨h.sh, h.nd, Nat.le_trans h.deep h1, Nat.le_trans h.fit h2⟩
theorem OkA.mono {m n L M : Nat} {d : List PyData} (h : OkA m L d) (h1 : m ≤ n) (h2 : L ≤ M) : OkA n M d := ⟨h.sh, h.nd, Nat.le_trans h.deep h1, Nat.le_trans h.fit h2⟩
theorem okD_int {i : Int} (h : i.natAbs < 2 ^ 200) : OkD 0 1921 (.int i) := by
  have lg : i.natAbs.log2 < 1920 := by
    by_cases z : i.natAbs = 0
    · rw [z]
      decide
    · exact (Nat.log2_lt z).mpr (Nat.lt_of_lt_of_le h (Nat.pow_le_pow_right (by decide) (by decide)))
  refine ⟨?_, by simp only [PyData.hasDict], by simp only [PyData.depth]; exact Nat.le_refl _, ?_⟩
  · simp only [PyData.showable]
    exact decide_eq_true lg
  · simp only [PyData.shown]
    exact int_text_len_1921 lg
theorem okD_small {i : Int} (h : -1000000 ≤ i ∧ i ≤ 1000000) : OkD 0 1921 (.int i) := okD_int (Nat.lt_of_lt_of_le (show i.natAbs < 2 ^ 20 by omega) (Nat.pow_le_pow_right (by decide) (by decide)))
theorem okD_non : OkD 0 4 .none := ⟨rfl, by simp only [PyData.hasDict], by simp only [PyData.depth]; exact Nat.le_refl _, by decide +kernel⟩
theorem okD_bl (b : Bool) : OkD 0 5 (.bool b) := ⟨rfl, by simp only [PyData.hasDict], by simp only [PyData.depth]; exact Nat.le_refl _, by cases b <;> decide +kernel⟩
theorem okD_str {z : Str} {L : Nat} (h : (reprText z).length ≤ L) : OkD 0 L (.str z) := ⟨rfl, by simp only [PyData.hasDict], by simp only [PyData.depth]; exact Nat.le_refl _, by simp only [PyData.shown]; exact h⟩
theorem okA_nil {m : Nat} : OkA m 0 [] := ⟨by simp only [PyData.showableAll], by simp only [PyData.hasDictAll], by simp only [PyData.depthAll]; exact Nat.zero_le _, by simp only [PyData.shownAll]; exact Nat.le_refl _⟩
theorem okA_cons {m L M : Nat} {d : PyData} {ds : List PyData} (h : OkD m L d) (k : OkA m M ds) : OkA m (L + 2 + M) (d :: ds) := by
  refine ⟨?_, ?_, ?_, ?_⟩
  · simp only [PyData.showableAll, h.sh, k.sh, Bool.and_self]
  · simp only [PyData.hasDictAll, h.nd, k.nd, Bool.or_self]
  · simp only [PyData.depthAll]
    exact Nat.max_le.mpr ⟨h.deep, k.deep⟩
  · simp only [PyData.shownAll]
    rw [piled_cons]
    have := h.fit
    have := k.fit
    omega
theorem textFrom_most : ∀ (ts : List Str) (k : Nat) (acc : Str), (textFrom k acc ts).length ≤ acc.length + piled ts
  | [], k, acc => Nat.le_refl _
  | t :: r, k, acc => by
    have ih := textFrom_most r (k + 1) (acc ++ (if k > 0 then ", " else "" : String) ++ t)
    rw [strLen_append, strLen_append] at ih
    have e : (((if k > 0 then ", " else "" : String) : Str)).length ≤ 2 := by split <;> decide
    rw [piled_cons]
    change (textFrom (k + 1) _ r).length ≤ _
    omega
theorem okD_list {m L : Nat} {ds : List PyData} (h : OkA m L ds) : OkD (m + 1) (L + 4) (.list ds) := by
  refine ⟨by simp only [PyData.showable]; exact h.sh, by simp only [PyData.hasDict]; exact h.nd, by simp only [PyData.depth]; exact Nat.succ_le_succ h.deep, ?_⟩
  simp only [PyData.shown]
  unfold listText
  have := textFrom_most (PyData.shownAll ds) 0 "["
  have e1 : (("[" : String) : Str).length = 1 := rfl
  have e2 : (("]" : String) : Str).length = 1 := rfl
  have := h.fit
  rw [strLen_append, e2]
  have e3 : (Str.ofString "[").length = 1 := rfl
  omega
theorem okD_tuple {m L : Nat} {ds : List PyData} (h : OkA m L ds) : OkD (m + 1) (L + 4) (.tuple ds) := by
  refine ⟨by simp only [PyData.showable]; exact h.sh, by simp only [PyData.hasDict]; exact h.nd, by simp only [PyData.depth]; exact Nat.succ_le_succ h.deep, ?_⟩
  simp only [PyData.shown]
  unfold tupleText
  have e1 : (("(" : String) : Str).length = 1 := rfl
  have e3 : (((if (PyData.shownAll ds).length == 1 then ",)" else ")" : String) : Str)).length ≤ 2 := by split <;> decide
  have := h.fit
  simp only [strLen_append, e1]
  by_cases z : PyData.shownAll ds = []
  · have e4 : (Str.join ", " (PyData.shownAll ds)).length = 0 := by rw [z]; rfl
    omega
  · have := join_length_add _ z
    omega
theorem okA_ints : ∀ {ns : List Int}, (∀ n ∈ ns, -1000000 ≤ n ∧ n ≤ 1000000) → OkA 0 (1923 * ns.length) (ns.map PyData.int)
  | [], _ => okA_nil
  | n :: ns, h => (okA_cons (okD_small (h n List.mem_cons_self)) (okA_ints fun x hx => h x (List.mem_cons_of_mem _ hx))).mono (Nat.le_refl _) (by rw [List.length_cons]; omega)
theorem okD_nums {ns : List Int} (h : ∀ n ∈ ns, -1000000 ≤ n ∧ n ≤ 1000000) (l : ns.length ≤ 8) : OkD 1 15400 (dNums ns) := (okD_tuple (okA_ints h)).mono (Nat.le_refl _) (by omega)
theorem okA_rows : ∀ {rs : List (List Int)}, (∀ r ∈ rs, r.length ≤ 8 ∧ ∀ n ∈ r, -1000000 ≤ n ∧ n ≤ 1000000) → OkA 1 (15402 * rs.length) (rs.map dNums)
  | [], _ => okA_nil
  | r :: rs, h => (okA_cons (okD_nums (h r List.mem_cons_self).2 (h r List.mem_cons_self).1) (okA_rows fun x hx => h x (List.mem_cons_of_mem _ hx))).mono (Nat.le_refl _) (by rw [List.length_cons]; omega)
theorem okD_rows {rs : List (List Int)} (h : ∀ r ∈ rs, r.length ≤ 8 ∧ ∀ n ∈ r, -1000000 ≤ n ∧ n ≤ 1000000) (l : rs.length ≤ 1000) : OkD 2 15402004 (dRows rs) := (okD_tuple (okA_rows h)).mono (Nat.le_refl _) (by omega)
end Kx
/-! the law's tables -/
namespace K1
open L2 PySem PySem.Spec PyProof.Rows Kx RZ
theorem Mv.none {b D : Addr} {H H' : Hp} (m : Mv b H H') (h : H' D = .none) : H D = .none ∧ D ≠ b := by
  have ne : D ≠ b := fun z => by
    obtain ⟨t, ht⟩ := m.2
    rw [z, ht] at h
    cases h
  refine ⟨?_, ne⟩
  cases e : H D with
  | none => rfl
  | some o =>
    have := m.1 D o ne e
    rw [h] at this
    cases this
theorem Mv.put {b D : Addr} {H H' : Hp} {o : HO} (m : Mv b H H') (h1 : H D = .none) (h2 : D ≠ b) : Mv b H (L2.upd H' D o) := ⟨fun c u ne q => by
  rw [upd_ne (ne_of_none q h1)]
  exact m.1 c u ne q, by
  obtain ⟨t, ht⟩ := m.2
  exact ⟨t, by rw [upd_ne (Ne.symm h2)]; exact ht⟩⟩
/-- a table of n states -/
def TabOk (n : Nat) (t : List Int) : Prop := t.length = n ∧ ∀ x ∈ t, 0 ≤ x ∧ x < (n : Int)
def spTables (K : PySem.W.Frag) : Sp := fun vs H Q _ => ∃ (b p q : Addr) (t : Int × Int × Int), vs = [.ref b, .ref p, .ref q] ∧ H b = some (bx t) ∧ p ≠ b ∧ q ≠ b ∧ SqL K H p ([1, 2, 3, 4, 5].map V.int) ∧ SqL K H q ([1, 2, 2, 3, 4].map V.int) ∧
  ∀ (F : Addr) (H' : Hp) (ps : List V) (n : Nat) (ts : List (List Int)), Mv b H H' → F ≠ b → H F = .none → H' F = some (.lst ps) → RowsBy (SqT K H') ps ts → Mok n ts → n ≤ 5 → Q (.ref F) H'
/-- what stays while a table is made: the rows found, at F -/
structure Kp (K : PySem.W.Frag) (b F : Addr) (ps : List V) (ts : List (List Int)) (H H' : Hp) : Prop where
  mv : Mv b H H'
  at_ : H' F = some (.lst ps)
  rows : RowsBy (SqT K H') ps ts
section
variable {K : PySem.W.Frag} {b F D : Addr} {ps : List V} {ts : List (List Int)} {H H1 H2 : Hp}
theorem Kp.mv2 (k : Kp K b F ps ts H H1) (Fb : F ≠ b) (m : Mv b H1 H2) : Kp K b F ps ts H H2 := by
  obtain ⟨t, ht⟩ := k.mv.2
  exact ⟨k.mv.trans m, m.1 _ _ Fb k.at_, k.rows.imp fun _ _ q => m.sqT ht q⟩
theorem Kp.same (k : Kp K b F ps ts H H1) (e : Same H1 H2) : Kp K b F ps ts H H2 := ⟨k.mv.same e, e _ _ k.at_, k.rows.imp fun _ _ q => sqT_same e q⟩
theorem Kp.put {o : HO} (k : Kp K b F ps ts H H1) (h : H1 D = .none) : Kp K b F ps ts H (L2.upd H1 D o) ∧ H D = .none ∧ D ≠ b ∧ F ≠ D := by
  obtain ⟨n, ne⟩ := k.mv.none h
  exact ⟨⟨k.mv.put n ne, by rw [upd_ne (ne_of_none k.at_ h)]; exact k.at_, k.rows.imp fun _ _ q => sqT_same (same_new h) q⟩, n, ne, ne_of_none k.at_ h⟩
theorem Kp.set {u u' : List V} (k : Kp K b F ps ts H H1) (h : H1 D = some (.lst u)) (n : H D = .none) (ne : D ≠ b) (nF : F ≠ D) : Kp K b F ps ts H (L2.upd H1 D (.lst u')) :=
  ⟨k.mv.put n ne, by rw [upd_ne nF]; exact k.at_, k.rows.imp fun _ _ q => sqT_lst h q⟩
end
abbrev sgT (b p q : Addr) (x3 x4 x5 x6 x7 x8 x9 : Option V) : L2.St := [some (.ref b), some (.ref p), some (.ref q), x3, x4, x5, x6, x7, x8, x9]
section
variable {P : Program} {w : World} {K : PySem.W.Frag} {mg : Str → Option Value} {base : Heap} {f : Addr} {fd : FuncData}
theorem sc_law_tables : FnScope ["box", "sizes", "kinds", "many", "found", "deed", "style", "by", "table", "state"] ["box", "sizes", "kinds"] (defScope s_law_tables) := ⟨rfl, rfl, rfl, by decide +kernel, rfl, by decide +kernel, by decide +kernel⟩
theorem ok_tables (F : FnP K "_law_tables" s_law_tables f fd) (T : Mg mg) (c_take : Cal P w K mg base CX0 1 "_law_take" ["box", "many"] spTake) (c_pick : Cal P w K mg base CX0 2 "_law_pick" ["box", "some"] (spPick K)) : FnOk P w K mg base CX0 3 f fd ["box", "sizes", "kinds"] (spTables K) := by
  refine F.ok sc_law_tables (fun vs H Q E h => ?_) (fun cdv A outer s H vs Q E hr h => ?_)
  · obtain ⟨b, p, q, t, rfl, _⟩ := h
    rfl
  · obtain ⟨b, p, q, t, rfl, hb, pb, qb, hp, hq, k⟩ := h
    refine ⟨_, PSs.nox (pss_cons (ps_asg (pe_tup (pa_cons (pe_callC c_pick hr pass0 (pa_cons (pv 0) (pa_cons (pv 1) pa_nil))) (pa_cons (pe_lst pa_nil) pa_nil))) (pg_tup rfl (pgs_cons (pg_name (i := 3) sc_law_tables.nd rfl (by first | exact Or.inl rfl | exact Or.inr rfl)) (pgs_cons (pg_name (i := 4) sc_law_tables.nd rfl (by first | exact Or.inl rfl | exact Or.inr rfl)) pgs_nil))))
      (pss_cons (ps_for PassesOwn.never rfl (pi_range1 (by rfl) T.z_range (pa_cons (pe_callC c_pick hr pass0 (pa_cons (pv 0) (pa_cons (pv 2) pa_nil))) pa_nil)) (pg_name (i := 5) sc_law_tables.nd rfl (by first | exact Or.inl rfl | exact Or.inr rfl))
        (pss_cons (ps_asg (pe_tup (pa_cons (pe_callC c_take hr pass0 (pa_cons (pv 0) (pa_cons pe_int pa_nil))) (pa_cons (pe_callC c_take hr pass0 (pa_cons (pv 0) (pa_cons (pv 3) pa_nil))) pa_nil))) (pg_tup rfl (pgs_cons (pg_name (i := 6) sc_law_tables.nd rfl (by first | exact Or.inl rfl | exact Or.inr rfl)) (pgs_cons (pg_name (i := 7) sc_law_tables.nd rfl (by first | exact Or.inl rfl | exact Or.inr rfl)) pgs_nil))))
        (pss_cons (ps_mid (ps_setLc (i := 8) (own := [("state", 9)]) (by rfl) sc_law_tables.nd rfl rfl (sw_true rfl rfl rfl (by decide +kernel)) (pi_range1 (by rfl) T.z_range (pa_cons (pv 3) pa_nil)) (blkOk_by (own := [("state", 9)]) (N := ["box", "sizes", "kinds", "many", "found", "deed", "style", "by", "table", "state"]) (sc := defScope s_law_tables) (by decide +kernel)) (fun _ _ _ _ _ => (pg_name (i := 9) sc_law_tables.nd rfl (by first | exact Or.inl rfl | exact Or.inr rfl))) (fun _ _ _ _ _ => pts_nil) (fun _ _ _ _ _ => (pe_callC c_take hr pass0 (pa_cons (pv 0) (pa_cons (pv 3) pa_nil))))))
        (pss_cons (ps_mid (ps_if (pt_cmpR op_eq (pv 6) pe_int (nomark _))
          (pss_one (ps_setLc (i := 8) (own := [("state", 9)]) (by rfl) sc_law_tables.nd rfl rfl (sw_true rfl rfl rfl (by decide +kernel)) (pi_range1 (by rfl) T.z_range (pa_cons (pv 3) pa_nil)) (blkOk_by (own := [("state", 9)]) (N := ["box", "sizes", "kinds", "many", "found", "deed", "style", "by", "table", "state"]) (sc := defScope s_law_tables) (by decide +kernel)) (fun _ _ _ _ _ => (pg_name (i := 9) sc_law_tables.nd rfl (by first | exact Or.inl rfl | exact Or.inr rfl))) (fun _ _ _ _ _ => pts_nil) (fun _ _ _ _ _ => (pe_op op_mod (pe_callTy call_int1 (by rfl) T.z_int (by decide +kernel) (pa_cons (pe_op op_add (pv 9) (pv 7)) pa_nil)) (pv 3)))))
          pss_nil))
        (pss_cons (ps_mid (ps_if (pt_cmpR op_eq (pv 6) pe_int (nomark _))
          (pss_one (ps_setLc (i := 8) (own := [("state", 9)]) (by rfl) sc_law_tables.nd rfl rfl (sw_true rfl rfl rfl (by decide +kernel)) (pi_range1 (by rfl) T.z_range (pa_cons (pv 3) pa_nil)) (blkOk_by (own := [("state", 9)]) (N := ["box", "sizes", "kinds", "many", "found", "deed", "style", "by", "table", "state"]) (sc := defScope s_law_tables) (by decide +kernel)) (fun _ _ _ _ _ => (pg_name (i := 9) sc_law_tables.nd rfl (by first | exact Or.inl rfl | exact Or.inr rfl))) (fun _ _ _ _ _ => pts_nil) (fun _ _ _ _ _ => (pe_callB (call_min2 rfl) (by rfl) T.z_min (by decide +kernel) (pa_cons (pe_op op_sub (pv 3) pe_int) (pa_cons (pe_op op_add (pv 9) pe_int) pa_nil))))))
          pss_nil))
        (pss_cons (ps_mid (ps_if (pt_cmpR op_eq (pv 6) pe_int (nomark _))
          (pss_one (ps_set (i := 8) sc_law_tables.nd rfl (by first | exact Or.inl rfl | exact Or.inr rfl) (pe_op op_rep (pe_lst (pa_cons (pv 7) pa_nil)) (pv 3))))
          pss_nil))
        (pss_cons (ps_mid (ps_if (pt_cmpR op_eq (pv 6) pe_int (nomark _))
          (pss_one (ps_setLc (i := 8) (own := [("state", 9)]) (by rfl) sc_law_tables.nd rfl rfl (sw_true rfl rfl rfl (by decide +kernel)) (pi_range1 (by rfl) T.z_range (pa_cons (pv 3) pa_nil)) (blkOk_by (own := [("state", 9)]) (N := ["box", "sizes", "kinds", "many", "found", "deed", "style", "by", "table", "state"]) (sc := defScope s_law_tables) (by decide +kernel)) (fun _ _ _ _ _ => (pg_name (i := 9) sc_law_tables.nd rfl (by first | exact Or.inl rfl | exact Or.inr rfl))) (fun _ _ _ _ _ => pts_nil) (fun _ _ _ _ _ => (pe_callB (call_max2 rfl) (by rfl) T.z_max (by decide +kernel) (pa_cons (pv 9) (pa_cons (pv 7) pa_nil))))))
          pss_nil))
        (pss_one (ps_expr (pe_bm PySem.F.plainAttrs_list PySem.F.slot_list_append PySem.F.type_list_append mt_append (pv 4) (pa_cons (pe_callTy call_tup (by rfl) T.z_tuple (by decide +kernel) (pa_cons (pv 8) pa_nil)) pa_nil)))))))))))
      (pss_one (ps_ret (pv 4))))), ?_⟩
    refine ⟨_, rfl, _, rfl, b, p, t, _, rfl, hb, pb, hp, (by show 0 < 5; decide), (by show 5 < 1073741824; decide), fun v H1 hv m1 => ?_⟩
    obtain ⟨n, rfl, n1, n5⟩ : ∃ n : Nat, v = .int (n : Int) ∧ 1 ≤ n ∧ n ≤ 5 := by
      simp only [List.map_cons, List.map_nil, List.mem_cons, List.not_mem_nil, or_false] at hv
      rcases hv with rfl | rfl | rfl | rfl | rfl
      · exact ⟨1, rfl, by decide, by decide⟩
      · exact ⟨2, rfl, by decide, by decide⟩
      · exact ⟨3, rfl, by decide, by decide⟩
      · exact ⟨4, rfl, by decide, by decide⟩
      · exact ⟨5, rfl, by decide, by decide⟩
    refine ⟨by show 0 ≤ sizeLine; decide, fun F hF => ?_⟩
    obtain ⟨nF, Fb⟩ := m1.none hF
    have m2 : Mv b H (L2.upd H1 F (.lst [])) := m1.put nF Fb
    refine ⟨by show 2 ≤ sizeLine; decide, fun G hG => ?_⟩
    obtain ⟨nG, Gb⟩ := m2.none hG
    refine ⟨G, _, rfl, SqT.of upd_same, rfl, ?_⟩
    refine ⟨_, _, rfl, _, _, rfl, rfl, ?_⟩
    have FG : F ≠ G := fun z => by rw [← z, upd_same] at hG; cases hG
    have m3 : Mv b H (L2.upd (L2.upd H1 F (.lst [])) G (.tup [.int (n : Int), .ref F])) := m2.put nG Gb
    have F3 : L2.upd (L2.upd H1 F (.lst [])) G (.tup [.int (n : Int), .ref F]) F = some (.lst []) := by rw [upd_ne FG, upd_same]
    generalize L2.upd (L2.upd H1 F (.lst [])) G (.tup [.int (n : Int), .ref F]) = H3 at m3 F3
    obtain ⟨t3, hb3⟩ := m3.2
    refine ⟨_, rfl, _, rfl, b, q, t3, _, rfl, hb3, qb, m3.sqL qb hq, (by show 0 < 5; decide), (by show 5 < 1073741824; decide), fun v H4 hv m4 => ?_⟩
    obtain ⟨l, rfl, l1, l4⟩ : ∃ l : Nat, v = .int (l : Int) ∧ 1 ≤ l ∧ l ≤ 4 := by
      simp only [List.map_cons, List.map_nil, List.mem_cons, List.not_mem_nil, or_false] at hv
      rcases hv with rfl | rfl | rfl | rfl | rfl
      · exact ⟨1, rfl, by decide, by decide⟩
      · exact ⟨2, rfl, by decide, by decide⟩
      · exact ⟨2, rfl, by decide, by decide⟩
      · exact ⟨3, rfl, by decide, by decide⟩
      · exact ⟨4, rfl, by decide, by decide⟩
    refine ⟨_, rfl, by omega, by omega, for_range (lo := 0) (n := l) (fun i σ' H' => ∃ x5 x6 x7 x8 x9 ps ts, σ' = sgT b p q (some (.int (n : Int))) (some (.ref F)) x5 x6 x7 x8 x9 ∧ Mv b H H' ∧ H' F = some (.lst ps) ∧ RowsBy (SqT K H') ps ts ∧ ts.length = i ∧ ∀ t ∈ ts, TabOk n t) ⟨_, _, _, _, _, [], [], rfl, m3.trans m4, m4.1 _ _ Fb F3, trivial, rfl, (fun t h => nomatch h)⟩ ?_ ?_⟩
    · rintro i σ' H5 hi ⟨x5, x6, x7, x8, x9, ps, ts, rfl, m5, F5, rows5, len5, ok5⟩
      have kp5 : Kp K b F ps ts H H5 := ⟨m5, F5, rows5⟩
      obtain ⟨t5, hb5⟩ := m5.2
      refine ⟨_, rfl, b, t5, 6, rfl, hb5, by decide, by decide, fun st H6 st0 st6 m6 => ?_⟩
      obtain ⟨t6, hb6⟩ := m6.2
      refine ⟨_, rfl, _, rfl, b, t6, n, rfl, hb6, by omega, by omega, fun by_ H7 by0 by1 m7 => ?_⟩
      have kp7 := (kp5.mv2 Fb m6).mv2 Fb m7
      refine ⟨by show 2 ≤ sizeLine; decide, fun G hG => ?_⟩
      obtain ⟨kp8, nG, Gb, FG⟩ := kp7.put (o := .tup [.int st, .int by_]) hG
      refine ⟨G, _, rfl, SqT.of upd_same, rfl, ?_⟩
      refine ⟨_, _, rfl, _, _, rfl, rfl, ?_⟩
      generalize L2.upd H7 G (.tup [.int st, .int by_]) = H8 at kp8
      have start : ∀ (D : Addr), H8 D = .none → ∃ L : List Int, L.length = 0 ∧ (∀ x ∈ L, 0 ≤ x ∧ x < (n : Int)) ∧ L2.upd H8 D (.lst []) D = some (.lst (L.map V.int)) ∧ Kp K b F ps ts H (L2.upd H8 D (.lst [])) := fun D hD => ⟨[], rfl, (fun x h => nomatch h), upd_same, (kp8.put hD).1⟩
      let Wd : L2.St → Hp → Prop := fun σ' H' => ∃ (D : Addr) (L : List Int) (x9 : Option V), σ' = sgT b p q (some (.int (n : Int))) (some (.ref F)) (some (.int (0 + (i : Int)))) (some (.int st)) (some (.int by_)) (some (.ref D)) x9 ∧ Kp K b F ps ts H H' ∧ H' D = some (.lst (L.map V.int)) ∧ TabOk n L
      refine ⟨Wd, ?_, ?_⟩
      · refine ⟨_, rfl, _, rfl, by omega, by omega, fun D hD => ?_⟩
        obtain ⟨kpD, nD, Db, FD⟩ := kp8.put (o := .lst []) hD
        refine lc_range (lo := 0) (n := n) (fun j H' => ∃ L : List Int, L.length = j ∧ (∀ x ∈ L, 0 ≤ x ∧ x < (n : Int)) ∧ H' D = some (.lst (L.map V.int)) ∧ Kp K b F ps ts H H') (start D hD) ?_ ?_
        · rintro j H9 hj ⟨L, hl, hL, hD9, kp9⟩
          have hj : j < n := hj
          obtain ⟨t9, hb9⟩ := kp9.mv.2
          refine ⟨rfl, yes ((if_pos rfl).mpr ?_)⟩
          refine ⟨_, rfl, _, rfl, b, t9, n, rfl, hb9, by omega, by omega, fun x HA x0 x1 mA => ?_⟩
          have hDA := mA.1 _ _ Db hD9
          refine ⟨_, hDA, by rw [List.length_map, sizeLine_eq]; omega, L ++ [x], by rw [List.length_append, hl]; rfl, fun z hz => ?_, by rw [upd_same, List.map_append]; rfl, (kp9.mv2 Fb mA).set hDA nD Db FD⟩
          rcases List.mem_append.mp hz with hz | hz
          · exact hL z hz
          · rw [List.mem_singleton.mp hz]
            exact ⟨x0, x1⟩
        · rintro H9 ⟨L, hl, hL, hD9, kp9⟩
          exact ⟨D, L, _, rfl, kp9, hD9, hl, hL⟩
      rintro σ' H0 ⟨D0, L0, y0, rfl, kp0, hD0, ok0⟩
      refine ⟨Wd, ?_, ?_⟩
      · refine ⟨_, rfl, rfl, _, rfl, ite2 (fun _ => ?_) (fun _ => ⟨D0, L0, y0, rfl, kp0, hD0, ok0⟩)⟩
        refine ⟨_, rfl, _, rfl, by omega, by omega, fun D hD => ?_⟩
        obtain ⟨kpD, nD, Db, FD⟩ := kp0.put (o := .lst []) hD
        refine lc_range (lo := 0) (n := n) (fun j H' => ∃ L : List Int, L.length = j ∧ (∀ x ∈ L, 0 ≤ x ∧ x < (n : Int)) ∧ H' D = some (.lst (L.map V.int)) ∧ Kp K b F ps ts H H') ⟨[], rfl, (fun x h => nomatch h), upd_same, kpD⟩ ?_ ?_
        · rintro j H9 hj ⟨L, hl, hL, hD9, kp9⟩
          have hj : j < n := hj
          have j0 : (0 : Int) + (j : Int) = (j : Int) := Int.zero_add _
          rw [j0]
          refine ⟨rfl, yes ((if_pos rfl).mpr ?_)⟩
          refine ⟨_, rfl, _, rfl, _, _, rfl, rfl, .inl ⟨_, rfl, _, rfl, _, _, rfl, rfl, (by omega : (0 : Int) < (n : Int)), ?_⟩⟩
          refine ⟨_, hD9, by rw [List.length_map, sizeLine_eq]; omega, L ++ [((j : Int) + by_) % (n : Int)], by rw [List.length_append, hl]; rfl, fun z hz => ?_, by rw [upd_same, List.map_append]; rfl, kp9.set hD9 nD Db FD⟩
          rcases List.mem_append.mp hz with hz | hz
          · exact hL z hz
          · rw [List.mem_singleton.mp hz]
            exact ⟨Int.emod_nonneg _ (by omega), Int.emod_lt_of_pos _ (by omega)⟩
        · rintro H9 ⟨L, hl, hL, hD9, kp9⟩
          exact ⟨D, L, _, rfl, kp9, hD9, hl, hL⟩
      rintro σ' H0 ⟨D0, L0, y0, rfl, kp0, hD0, ok0⟩
      refine ⟨Wd, ?_, ?_⟩
      · refine ⟨_, rfl, rfl, _, rfl, ite2 (fun _ => ?_) (fun _ => ⟨D0, L0, y0, rfl, kp0, hD0, ok0⟩)⟩
        refine ⟨_, rfl, _, rfl, by omega, by omega, fun D hD => ?_⟩
        obtain ⟨kpD, nD, Db, FD⟩ := kp0.put (o := .lst []) hD
        refine lc_range (lo := 0) (n := n) (fun j H' => ∃ L : List Int, L.length = j ∧ (∀ x ∈ L, 0 ≤ x ∧ x < (n : Int)) ∧ H' D = some (.lst (L.map V.int)) ∧ Kp K b F ps ts H H') ⟨[], rfl, (fun x h => nomatch h), upd_same, kpD⟩ ?_ ?_
        · rintro j H9 hj ⟨L, hl, hL, hD9, kp9⟩
          have hj : j < n := hj
          have j0 : (0 : Int) + (j : Int) = (j : Int) := Int.zero_add _
          rw [j0]
          refine ⟨rfl, yes ((if_pos rfl).mpr ?_)⟩
          refine ⟨_, rfl, _, _, rfl, rfl, _, rfl, _, _, rfl, rfl, _, _, rfl, ?_⟩
          refine ⟨_, hD9, by rw [List.length_map, sizeLine_eq]; omega, L ++ [_], by rw [List.length_append, hl]; rfl, fun z hz => ?_, by rw [upd_same, List.map_append]; rfl, kp9.set hD9 nD Db FD⟩
          rcases List.mem_append.mp hz with hz | hz
          · exact hL z hz
          · rw [List.mem_singleton.mp hz]
            split <;> omega
        · rintro H9 ⟨L, hl, hL, hD9, kp9⟩
          exact ⟨D, L, _, rfl, kp9, hD9, hl, hL⟩
      rintro σ' H0 ⟨D0, L0, y0, rfl, kp0, hD0, ok0⟩
      refine ⟨Wd, ?_, ?_⟩
      · refine ⟨_, rfl, rfl, _, rfl, ite2 (fun _ => ?_) (fun _ => ⟨D0, L0, y0, rfl, kp0, hD0, ok0⟩)⟩
        refine ⟨_, rfl, by show 1 ≤ sizeLine; decide, fun l hl => ?_⟩
        obtain ⟨kpl, nl, lb, Fl⟩ := kp0.put (o := .lst [.int by_]) hl
        refine ⟨_, rfl, l, _, _, rfl, rfl, upd_same, by omega, by omega, by rw [sizeLine_eq]; show 1 * _ ≤ _; omega, fun p hp => ?_⟩
        obtain ⟨kpp, np, pb', Fp⟩ := kpl.put (o := .lst (List.replicate ((n : Int)).toNat [V.int by_]).flatten) hp
        refine ⟨p, List.replicate n by_, y0, rfl, kpp, ?_, List.length_replicate, fun x hx => ?_⟩
        · rw [upd_same, List.map_replicate, List.flatten_replicate_singleton]
          rfl
        · rw [List.eq_of_mem_replicate hx]
          exact ⟨by0, by1⟩
      rintro σ' H0 ⟨D0, L0, y0, rfl, kp0, hD0, ok0⟩
      refine ⟨Wd, ?_, ?_⟩
      · refine ⟨_, rfl, rfl, _, rfl, ite2 (fun _ => ?_) (fun _ => ⟨D0, L0, y0, rfl, kp0, hD0, ok0⟩)⟩
        refine ⟨_, rfl, _, rfl, by omega, by omega, fun D hD => ?_⟩
        obtain ⟨kpD, nD, Db, FD⟩ := kp0.put (o := .lst []) hD
        refine lc_range (lo := 0) (n := n) (fun j H' => ∃ L : List Int, L.length = j ∧ (∀ x ∈ L, 0 ≤ x ∧ x < (n : Int)) ∧ H' D = some (.lst (L.map V.int)) ∧ Kp K b F ps ts H H') ⟨[], rfl, (fun x h => nomatch h), upd_same, kpD⟩ ?_ ?_
        · rintro j H9 hj ⟨L, hl, hL, hD9, kp9⟩
          have hj : j < n := hj
          have j0 : (0 : Int) + (j : Int) = (j : Int) := Int.zero_add _
          rw [j0]
          refine ⟨rfl, yes ((if_pos rfl).mpr ?_)⟩
          refine ⟨_, rfl, _, rfl, _, _, rfl, ?_⟩
          refine ⟨_, hD9, by rw [List.length_map, sizeLine_eq]; omega, L ++ [_], by rw [List.length_append, hl]; rfl, fun z hz => ?_, by rw [upd_same, List.map_append]; rfl, kp9.set hD9 nD Db FD⟩
          rcases List.mem_append.mp hz with hz | hz
          · exact hL z hz
          · rw [List.mem_singleton.mp hz]
            split <;> omega
        · rintro H9 ⟨L, hl, hL, hD9, kp9⟩
          exact ⟨D, L, _, rfl, kp9, hD9, hl, hL⟩
      rintro σ' H0 ⟨D0, L0, y0, rfl, kp0, hD0, ok0⟩
      refine ⟨_, rfl, .inl ⟨rfl, _, SqL.of kp0.at_⟩, _, rfl, D0, _, rfl, .inl (SqL.of hD0), fun z HZ eZ hz => ?_⟩
      have kpZ := kp0.same eZ
      have lps := kpZ.rows.length
      refine ⟨F, ps, _, rfl, rfl, kpZ.at_, by rw [sizeLine_eq]; omega, _, _, _, _, _, ps ++ [.ref z], ts ++ [L0], rfl, kpZ.mv.put nF Fb, upd_same, ?_, by rw [List.length_append, len5]; rfl, fun t ht => ?_⟩
      · exact RowsBy.snoc (sqT_lst kpZ.at_ hz) (kpZ.rows.imp fun _ _ q => sqT_lst kpZ.at_ q)
      · rcases List.mem_append.mp ht with ht | ht
        · exact ok5 t ht
        · rw [List.mem_singleton.mp ht]
          exact ok0
    · rintro σ' H5 ⟨x5, x6, x7, x8, x9, ps, ts, rfl, m5, F5, rows5, len5, ok5⟩
      exact ⟨_, rfl, k F H5 ps n ts m5 Fb nF F5 rows5 ⟨by omega, by omega, n1, by omega, fun t ht => (ok5 t ht).1, fun t ht => (ok5 t ht).2⟩ n5⟩
end
end K1
/-! the law's rows -/
namespace K1
open L2 PySem PySem.Spec PyProof.Rows Kx RZ
/-- len(xs) in a comprehension -/
theorem call_lenK {X : Cx} {K : PySem.W.Frag} (hK : X.K = K := by rfl) : CallR X (.builtin "len") (fun xs H Q => ∃ p ys, xs = [.ref p] ∧ (SqL K H p ys ∨ SqT K H p ys) ∧ Q (.int ys.length) H) := by
  subst hK
  exact call_len_seq
def spRun (K : PySem.W.Frag) : Sp := fun vs H Q _ => ∃ (F g : Addr) (ps : List V) (n : Nat) (ts : List (List Int)) (s : Int) (row : List Int), vs = [.ref F, .int s, .ref g] ∧ SqL K H F ps ∧ RowsBy (SqT K H) ps ts ∧ Mok n ts ∧ 0 ≤ s ∧ s < n ∧ SqT K H g (row.map V.int) ∧ RowOk ts.length row ∧ row.length ≤ 400 ∧
  ∀ (l : Addr) (L : List Int) H', Same H H' → H' l = some (.lst ((L ++ [ledTo ts s row]).map V.int)) → Q (.ref l) H'
def spLog (K : PySem.W.Frag) : Sp := fun vs H Q _ => ∃ (b F : Addr) (t : Int × Int × Int) (ps : List V) (most : Nat), vs = [.ref b, .ref F, .int (most : Int)] ∧ H b = some (bx t) ∧ F ≠ b ∧ SqL K H F ps ∧ 1 ≤ ps.length ∧ ps.length ≤ 4 ∧ most ≤ 400 ∧
  ∀ (p : Addr) (row : List Int) H', Mv b H H' → TupD H' p (row.map V.int) → RowOk ps.length row → row.length ≤ most → Q (.ref p) H'
section
variable {P : Program} {w : World} {K : PySem.W.Frag} {mg : Str → Option Value} {base : Heap} {f : Addr} {fd : FuncData}
theorem sc_law_run : FnScope ["tables", "start", "log", "found", "deed"] ["tables", "start", "log"] (defScope s_law_run) := ⟨rfl, rfl, rfl, by decide +kernel, rfl, by decide +kernel, by decide +kernel⟩
theorem ok_run (F : FnP K "_law_run" s_law_run f fd) : FnOk P w K mg base CX0 1 f fd ["tables", "start", "log"] (spRun K) := by
  refine F.ok sc_law_run (fun vs H Q E h => ?_) (fun cdv A outer s H vs Q E hr h => ?_)
  · obtain ⟨F, g, ps, n, ts, s, row, rfl, _⟩ := h
    rfl
  · obtain ⟨Fa, g, ps, n, ts, s0, row, rfl, hF, rows, ok, s1, s2, hg, rok, l400, k⟩ := h
    refine ⟨_, PSs.nox (pss_cons (ps_set (i := 3) sc_law_run.nd rfl (by first | exact Or.inl rfl | exact Or.inr rfl) (pe_lst (pa_cons (pv 1) pa_nil)))
      (pss_cons (ps_for PassesOwn.never rfl (pi_tup (pv 2)) (pg_name (i := 4) sc_law_run.nd rfl (by first | exact Or.inl rfl | exact Or.inr rfl))
        (pss_one (ps_expr (pe_bm PySem.F.plainAttrs_list PySem.F.slot_list_append PySem.F.type_list_append mt_append (pv 3) (pa_cons (pe_ix ix_tup (pe_ix ix_list (pv 0) (pv 4) (fun _ _ => rfl)) (pe_ix ix_list (pv 3) (pe_un un_neg pe_int) (fun _ _ => rfl)) (fun _ _ => rfl)) pa_nil)))))
      (pss_one (ps_ret (pv 3))))), ?_⟩
    refine ⟨_, rfl, by show 1 ≤ sizeLine; decide, fun D hD => ?_⟩
    refine ⟨_, rfl, g, rfl, ⟨_, sqT_same (same_new hD) hg⟩, ?_⟩
    refine for_tup (xs := row.map V.int) (fun i σ' H' => ∃ (L : List Int) (y : Option V), σ' = [some (.ref Fa), some (.int s0), some (.ref g), some (.ref D), y] ∧ L.length = i ∧ H' D = some (.lst ((L ++ [ledTo ts s0 (row.take i)]).map V.int)) ∧ Same H H') ⟨[], _, rfl, rfl, upd_same, same_new hD⟩ (fun i σ' H' _ q => by
      obtain ⟨_, _, _, _, _, e⟩ := q
      exact sqT_same e hg) ?_ ?_
    · rintro i y σ' H' hy ⟨L, y0, rfl, hl, hL, e⟩
      obtain ⟨hi, ey⟩ := List.getElem?_eq_some_iff.mp hy
      rw [List.length_map] at hi
      rw [List.getElem_map] at ey
      subst ey
      have hd := rok _ (List.getElem_mem hi)
      have hlast := ok.led_in s1 s2 (row := row.take i) fun z hz => rok z (List.mem_of_mem_take hz)
      obtain ⟨tt, x, t1, t2, t3, _⟩ := ok.next hd.1 hd.2 hlast.1 hlast.2
      obtain ⟨q, hq, sq⟩ := rows.at_ t1
      have a1 : atI ps (row[i]) = some (.ref q) := by
        have := atI_nat hq
        rwa [Int.toNat_of_nonneg hd.1] at this
      have a2 : atI (tt.map V.int) (ledTo ts s0 (row.take i)) = some (.int x) := by
        have := atI_nat (xs := tt.map V.int) (j := (ledTo ts s0 (row.take i)).toNat) (v := .int x) (by rw [List.getElem?_map, t2]; rfl)
        rwa [Int.toNat_of_nonneg hlast.1] at this
      have a3 : atI ((L ++ [ledTo ts s0 (row.take i)]).map V.int) (-1) = some (.int (ledTo ts s0 (row.take i))) := by
        rw [List.map_append]
        exact atI_last _ _
      refine ⟨_, rfl, .inl ⟨rfl, _, SqL.of hL⟩, _, rfl, _, rfl, Fa, ps, _, _, rfl, rfl, sqL_same e hF, a1, _, rfl, _, rfl, D, _, _, _, rfl, rfl, SqL.of hL, a3, q, _, _, _, rfl, rfl, sqT_same e sq, a2, ?_⟩
      refine ⟨D, _, _, rfl, rfl, hL, by rw [List.length_map, List.length_append, sizeLine_eq]; simp; omega, L ++ [ledTo ts s0 (row.take i)], _, rfl, by rw [List.length_append, hl]; rfl, ?_, fun c o hc => ?_⟩
      · rw [upd_same, List.map_append (l₁ := L ++ [ledTo ts s0 (row.take i)]), List.take_add_one, List.getElem?_eq_getElem hi]
        show _ = some (HO.lst (_ ++ [V.int (ledTo ts s0 (row.take i ++ [row[i]]))]))
        rw [ledTo_snoc, t3]
      · rw [upd_ne (ne_of_none hc hD)]
        exact e _ _ hc
    · rintro σ' H' ⟨L, y, rfl, hl, hL, e⟩
      rw [List.length_map, List.take_length] at hL
      exact ⟨_, rfl, k D L H' e hL⟩
theorem sc_law_log : FnScope ["box", "tables", "most", "deed"] ["box", "tables", "most"] (defScope s_law_log) := ⟨rfl, rfl, rfl, by decide +kernel, rfl, by decide +kernel, by decide +kernel⟩
theorem ok_log (F : FnP K "_law_log" s_law_log f fd) (T : Mg mg) (c_take : Cal P w K mg base CX0 1 "_law_take" ["box", "many"] spTake) : FnOk P w K mg base CX0 2 f fd ["box", "tables", "most"] (spLog K) := by
  refine F.ok sc_law_log (fun vs H Q E h => ?_) (fun cdv A outer s H vs Q E hr h => ?_)
  · obtain ⟨b, F, t, ps, most, rfl, _⟩ := h
    rfl
  · obtain ⟨b, Fa, t, ps, most, rfl, hb, Fb, hF, l1, l4, m400, k⟩ := h
    refine ⟨_, PSs.nox (pss_one (ps_ret (pe_callTy call_tupD (by rfl) T.z_tuple (by decide +kernel) (pa_cons (pe_lc (own := [("deed", 3)]) (by rfl) sc_law_log.nd (pi_range1 (by rfl) T.z_range (pa_cons (pe_callC c_take hr pass0 (pa_cons (pv 0) (pa_cons (pe_op op_add (pv 2) pe_int) pa_nil))) pa_nil)) (blkOk_by (own := [("deed", 3)]) (N := ["box", "tables", "most", "deed"]) (sc := defScope s_law_log) (by decide +kernel)) (fun _ _ _ _ _ => (pg_name (i := 3) sc_law_log.nd rfl (by first | exact Or.inl rfl | exact Or.inr rfl))) (fun _ _ _ _ _ => pts_nil) (fun _ _ _ _ _ => (pe_callC c_take hr pass0 (pa_cons (pv 0) (pa_cons (pe_callB (call_lenK (K := K)) (by rfl) T.z_len PySem.boot_len (pa_cons (pv 1) pa_nil)) pa_nil))))) pa_nil)))), ?_⟩
    refine ⟨_, rfl, _, rfl, _, _, rfl, rfl, b, t, _, rfl, hb, by omega, by omega, fun r H1 r0 r1 m1 => ?_⟩
    obtain ⟨n, rfl⟩ : ∃ n : Nat, r = (n : Int) := ⟨r.toNat, by omega⟩
    refine ⟨_, rfl, by omega, by omega, fun D hD => ?_⟩
    obtain ⟨nD, Db⟩ := m1.none hD
    refine lc_range (lo := 0) (n := n) (fun j H' => ∃ L : List Int, L.length = j ∧ RowOk ps.length L ∧ H' D = some (.lst (L.map V.int)) ∧ Mv b H H') ⟨[], rfl, (fun x h => nomatch h), upd_same, m1.put nD Db⟩ ?_ ?_
    · rintro j H3 hj ⟨L, hl, hL, hD3, m3⟩
      have hj : j < n := hj
      obtain ⟨t3, hb3⟩ := m3.2
      refine ⟨rfl, yes ((if_pos rfl).mpr ?_)⟩
      refine ⟨_, rfl, _, rfl, Fa, ps, rfl, .inl (m3.sqL Fb hF), b, t3, _, rfl, hb3, by omega, by omega, fun x H4 x0 x1 m4 => ?_⟩
      have hD4 := m4.1 _ _ Db hD3
      refine ⟨_, hD4, by rw [List.length_map, sizeLine_eq]; omega, L ++ [x], by rw [List.length_append, hl]; rfl, fun z hz => ?_, by rw [upd_same, List.map_append]; rfl, (m3.trans m4).put nD Db⟩
      rcases List.mem_append.mp hz with hz | hz
      · exact hL z hz
      · rw [List.mem_singleton.mp hz]
        exact ⟨x0, x1⟩
    · rintro H3 ⟨L, hl, hL, hD3, m3⟩
      exact ⟨D, _, rfl, .inl (SqL.of hD3), fun p H4 e4 hp => k p L H4 (m3.same e4) hp hL (by omega)⟩
end
end K1
/-! the law's other tables -/
namespace K1
open L2 PySem PySem.Spec PyProof.Rows Kx RZ
section
variable {R : Addr → List V → Prop}
theorem RowsBy.append : ∀ {vs ws : List V} {ts us : List (List Int)}, RowsBy R vs ts → RowsBy R ws us → RowsBy R (vs ++ ws) (ts ++ us)
  | [], _, [], _, _, h => h
  | _ :: _, _, _ :: _, _, ⟨h1, h⟩, g => ⟨h1, RowsBy.append h g⟩
  | [], _, _ :: _, _, h, _ => h.elim
  | _ :: _, _, [], _, h, _ => h.elim
theorem RowsBy.take : ∀ {vs : List V} {ts : List (List Int)} (i : Nat), RowsBy R vs ts → RowsBy R (vs.take i) (ts.take i)
  | _, _, 0, _ => by rw [List.take_zero, List.take_zero]; trivial
  | [], [], _ + 1, _ => trivial
  | _ :: _, _ :: _, i + 1, ⟨h1, h⟩ => ⟨h1, RowsBy.take i h⟩
  | [], _ :: _, _ + 1, h => h.elim
  | _ :: _, [], _ + 1, h => h.elim
theorem RowsBy.drop : ∀ {vs : List V} {ts : List (List Int)} (i : Nat), RowsBy R vs ts → RowsBy R (vs.drop i) (ts.drop i)
  | _, _, 0, h => h
  | [], [], _ + 1, _ => trivial
  | _ :: _, _ :: _, i + 1, ⟨_, h⟩ => RowsBy.drop i h
  | [], _ :: _, _ + 1, h => h.elim
  | _ :: _, [], _ + 1, h => h.elim
end
/-- tables of machines that are unlike ts -/
def Other (K : PySem.W.Frag) (n : Nat) (ts : List (List Int)) (H : Hp) (v : V) : Prop := ∃ (o : Addr) (qs : List V) (us : List (List Int)), v = .ref o ∧ SqL K H o qs ∧ RowsBy (SqT K H) qs us ∧ Mok n us ∧ us ≠ ts
def spOthers (K : PySem.W.Frag) : Sp := fun vs H Q _ => ∃ (b F : Addr) (t : Int × Int × Int) (ps : List V) (n : Nat) (ts : List (List Int)), vs = [.ref b, .ref F] ∧ H b = some (bx t) ∧ F ≠ b ∧ H F = some (.lst ps) ∧ RowsBy (SqT K H) ps ts ∧ Mok n ts ∧
  ∀ (l : Addr) (os : List V) H', Mv b H H' → SqL K H' l os → os.length ≤ 2 → (∀ v ∈ os, Other K n ts H' v) → Q (.ref l) H'
section
variable {P : Program} {w : World} {K : PySem.W.Frag} {mg : Str → Option Value} {base : Heap} {f : Addr} {fd : FuncData}
theorem sc_law_others : FnScope ["box", "tables", "many", "at", "bent", "spot", "found"] ["box", "tables"] (defScope s_law_others) := ⟨rfl, rfl, rfl, by decide +kernel, rfl, by decide +kernel, by decide +kernel⟩
theorem ok_others (F : FnP K "_law_others" s_law_others f fd) (T : Mg mg) (c_take : Cal P w K mg base CX0 1 "_law_take" ["box", "many"] spTake) : FnOk P w K mg base CX0 2 f fd ["box", "tables"] (spOthers K) := by
  refine F.ok sc_law_others (fun vs H Q E h => ?_) (fun cdv A outer s H vs Q E hr h => ?_)
  · obtain ⟨b, F, t, ps, n, ts, rfl, _⟩ := h
    rfl
  · obtain ⟨b, Fa, t, ps, n, ts, rfl, hb, Fb, hF, rows, ok, k⟩ := h
    refine ⟨_, PSs.nox (pss_cons (ps_par (i := 2) (j := 3) (by rfl) sc_law_others.nd rfl rfl (by decide) rfl rfl (pa_cons (pe_callB call_len_seq (by rfl) T.z_len PySem.boot_len (pa_cons (pe_ix ix_list (pv 1) pe_int (fun _ _ => rfl)) pa_nil)) (pa_cons (pe_callC c_take hr pass0 (pa_cons (pv 0) (pa_cons (pe_callB call_len_seq (by rfl) T.z_len PySem.boot_len (pa_cons (pv 1) pa_nil)) pa_nil))) pa_nil)) (by rfl))
      (pss_cons (ps_par (i := 4) (j := 5) (by rfl) sc_law_others.nd rfl rfl (by decide) rfl rfl (pa_cons (pe_callTy call_list_of (by rfl) T.z_list (by decide +kernel) (pa_cons (pe_ix ix_list (pv 1) (pv 3) (fun _ _ => rfl)) pa_nil)) (pa_cons (pe_callC c_take hr pass0 (pa_cons (pv 0) (pa_cons (pv 2) pa_nil))) pa_nil)) (by rfl))
      (pss_cons (ps_asg (pe_op op_mod (pe_callTy call_int1 (by rfl) T.z_int (by decide +kernel) (pa_cons (pe_op op_add (pe_ix ix_list (pv 4) (pv 5) (fun _ _ => rfl)) pe_int) pa_nil)) (pv 2)) (pg_sub (pv 4) (pv 5) set_list))
      (pss_cons (ps_mid (ps_set (i := 6) sc_law_others.nd rfl (by first | exact Or.inl rfl | exact Or.inr rfl) (pe_lst (pa_cons (pe_ifExp (pt_cmpR op_lt (pe_callB call_len_seq (by rfl) T.z_len PySem.boot_len (pa_cons (pv 1) pa_nil)) pe_int (nomark _)) (pe_op op_cat (pv 1) (pe_slice sl_list (pv 1) po_none (po_some pe_int))) (pe_slice sl_list (pv 1) (po_some pe_int) po_none)) pa_nil))))
      (pss_one (ps_ret (pe_op op_cat (pv 6) (pe_op op_rep (pe_lst (pa_cons (pe_op op_cat (pe_op op_cat (pe_slice sl_list (pv 1) po_none (po_some (pv 3))) (pe_lst (pa_cons (pe_callTy call_tup (by rfl) T.z_tuple (by decide +kernel) (pa_cons (pv 4) pa_nil)) pa_nil))) (pe_slice sl_list (pv 1) (po_some (pe_op op_add (pv 3) pe_int)) po_none)) pa_nil)) (pe_callTy call_int1 (by rfl) T.z_int (by decide +kernel) (pa_cons (pe_cmpR op_gt (pv 2) pe_int (nomark _)) pa_nil)))))))))), ?_⟩
    have lps := rows.length
    have lt1 := ok.l1
    have lt4 := ok.l4
    obtain ⟨t0, ht0⟩ : ∃ t0, ts[0]? = some t0 := ⟨ts[0], List.getElem?_eq_getElem (by omega)⟩
    obtain ⟨q0, hq0, sq0⟩ := rows.at_ ht0
    have ln0 : t0.length = n := ok.len _ (List.mem_of_getElem? ht0)
    refine ⟨_, rfl, Fa, ps, 0, _, rfl, rfl, SqL.of hF, atI_nat hq0, q0, _, rfl, .inr sq0, ?_⟩
    rw [List.length_map, ln0]
    refine ⟨_, rfl, _, rfl, Fa, ps, rfl, .inl (SqL.of hF), b, t, _, rfl, hb, by omega, by omega, fun r H1 r0 r1 m1 => ?_⟩
    obtain ⟨at_, rfl⟩ : ∃ k : Nat, r = (k : Int) := ⟨r.toNat, by omega⟩
    have k1 : Kp K b Fa ps ts H H1 := ⟨m1, m1.1 _ _ Fb hF, rows.imp fun _ _ q => m1.sqT hb q⟩
    refine ⟨_, _, rfl, ?_⟩
    have ha : at_ < ts.length := by omega
    have hta : ts[at_]? = some ts[at_] := List.getElem?_eq_getElem ha
    obtain ⟨qa, hqa, sqa⟩ := k1.rows.at_ hta
    have lna : (ts[at_]).length = n := ok.len _ (List.mem_of_getElem? hta)
    refine ⟨_, rfl, _, rfl, Fa, ps, _, _, rfl, rfl, SqL.of k1.at_, atI_nat hqa, qa, _, rfl, .inr sqa, fun B hB => ?_⟩
    obtain ⟨k3, nB, Bb, FB⟩ := k1.put (o := .lst ((ts[at_]).map V.int)) hB
    obtain ⟨t3, hb3⟩ := k3.mv.2
    have n1 := ok.n1
    have n8 := ok.n8
    refine ⟨_, rfl, _, rfl, b, t3, n, rfl, hb3, by omega, by omega, fun sp H4 s0 s1 m4 => ?_⟩
    obtain ⟨spot, rfl⟩ : ∃ k : Nat, sp = (k : Int) := ⟨sp.toNat, by omega⟩
    have k4 := k3.mv2 Fb m4
    have B4 : H4 B = some (.lst ((ts[at_]).map V.int)) := m4.1 _ _ Bb upd_same
    refine ⟨_, _, rfl, ?_⟩
    have hs : spot < (ts[at_]).length := by omega
    have hx : (ts[at_])[spot]? = some (ts[at_])[spot] := List.getElem?_eq_getElem hs
    generalize ex : (ts[at_])[spot] = x at hx
    have xin : 0 ≤ x ∧ x < n := ok.ent _ (List.mem_of_getElem? hta) _ (List.mem_of_getElem? hx)
    have ax : atI ((ts[at_]).map V.int) (spot : Int) = some (V.int x) := atI_nat (by rw [List.getElem?_map, hx]; rfl)
    refine ⟨_, rfl, _, rfl, B, _, _, _, rfl, rfl, SqL.of B4, ax, _, _, rfl, rfl, .inl ⟨_, rfl, _, rfl, _, _, rfl, rfl, (by omega : (0 : Int) < (n : Int)), ?_⟩⟩
    refine ⟨_, rfl, _, rfl, B, _, _, spot, rfl, rfl, B4, ?_, ?_⟩
    · unfold ixN
      rw [if_pos (by omega), if_pos (by rw [List.length_map]; omega), Int.toNat_natCast]
    have k6 := k4.set (u' := ((ts[at_]).map V.int).set spot (.int ((x + 1) % (n : Int)))) B4 nB Bb FB
    have B6 : L2.upd H4 B (.lst (((ts[at_]).map V.int).set spot (.int ((x + 1) % (n : Int))))) B = some (.lst (((ts[at_]).set spot ((x + 1) % (n : Int))).map V.int)) := by rw [upd_same, List.map_set]
    generalize L2.upd H4 B (.lst (((ts[at_]).map V.int).set spot (.int ((x + 1) % (n : Int))))) = H6 at k6 B6
    have x0 : 0 ≤ (x + 1) % (n : Int) := Int.emod_nonneg _ (by omega)
    have x1 : (x + 1) % (n : Int) < n := Int.emod_lt_of_pos _ (by omega)
    have tab' : TabOk n ((ts[at_]).set spot ((x + 1) % (n : Int))) := by
      refine ⟨by rw [List.length_set, lna], fun z hz => ?_⟩
      rcases List.mem_or_eq_of_mem_set hz with hz | rfl
      · exact ok.ent _ (List.mem_of_getElem? hta) _ hz
      · exact ⟨x0, x1⟩
    refine ⟨fun σ' H' => ∃ (l1 l2 : Addr) (qs : List V) (us : List (List Int)), σ' = [some (.ref b), some (.ref Fa), some (.int (n : Int)), some (.int (at_ : Int)), some (.ref B), some (.int (spot : Int)), some (.ref l1)] ∧ Kp K b Fa ps ts H H' ∧ H' B = some (.lst (((ts[at_]).set spot ((x + 1) % (n : Int))).map V.int)) ∧ H' l1 = some (.lst [.ref l2]) ∧
      H' l2 = some (.lst qs) ∧ RowsBy (SqT K H') qs us ∧ Mok n us ∧ us ≠ ts, ?_, ?_⟩
    · have sub : ∀ us : List (List Int), (∀ u ∈ us, u ∈ ts) → 1 ≤ us.length → us.length ≤ 4 → Mok n us := fun us hu a1 a4 => ⟨a1, a4, n1, n8, fun u h => ok.len u (hu u h), fun u h => ok.ent u (hu u h)⟩
      have fin : ∀ (l3 : Addr) (qs0 : List V) (us0 : List (List Int)) H7, Kp K b Fa ps ts H H7 → H7 B = some (.lst (((ts[at_]).set spot ((x + 1) % (n : Int))).map V.int)) → H7 l3 = some (.lst qs0) → RowsBy (SqT K H7) qs0 us0 → Mok n us0 → us0 ≠ ts → ∀ l1, H7 l1 = .none →
          ∃ (l1' l2 : Addr) (qs : List V) (us : List (List Int)), [some (V.ref b), some (.ref Fa), some (.int (n : Int)), some (.int (at_ : Int)), some (.ref B), some (.int (spot : Int)), some (.ref l1)] = [some (V.ref b), some (.ref Fa), some (.int (n : Int)), some (.int (at_ : Int)), some (.ref B), some (.int (spot : Int)), some (.ref l1')] ∧ Kp K b Fa ps ts H (L2.upd H7 l1 (.lst [.ref l3])) ∧
            L2.upd H7 l1 (.lst [.ref l3]) B = some (.lst (((ts[at_]).set spot ((x + 1) % (n : Int))).map V.int)) ∧ L2.upd H7 l1 (.lst [.ref l3]) l1' = some (.lst [.ref l2]) ∧ L2.upd H7 l1 (.lst [.ref l3]) l2 = some (.lst qs) ∧ RowsBy (SqT K (L2.upd H7 l1 (.lst [.ref l3]))) qs us ∧ Mok n us ∧ us ≠ ts := fun l3 qs us H7 k7 B7 h2 r7 m7 ne7 l1 hl1 => by
        have e := same_new (o := HO.lst [.ref l3]) hl1
        exact ⟨l1, l3, qs, us, rfl, (k7.put hl1).1, e _ _ B7, upd_same, e _ _ h2, r7.imp fun _ _ q => sqT_same e q, m7, ne7⟩
      refine ⟨_, rfl, Fa, ps, rfl, .inl (SqL.of k6.at_), _, _, rfl, rfl, _, rfl, ite2 (fun lt => ?_) (fun ge => ?_)⟩
      · have lt : ts.length < 4 := by
          have := of_decide_eq_true lt
          omega
        refine ⟨_, rfl, _, rfl, _, rfl, Fa, ps, rfl, SqL.of k6.at_, fun c hc => ?_⟩
        obtain ⟨k7, nc, cb, Fc⟩ := k6.put (o := .lst (cutV ps none (some 1))) hc
        have cut : cutV ps none (some 1) = ps.take 1 := cut_to (i := 1) (by omega)
        refine ⟨Fa, c, ps, _, rfl, rfl, k7.at_, upd_same, by rw [cut, List.length_take, sizeLine_eq]; omega, fun d hd => ?_⟩
        obtain ⟨k8, nd, db, Fd⟩ := k7.put (o := .lst (ps ++ cutV ps none (some 1))) hd
        refine ⟨by show 1 ≤ sizeLine; decide, fun l1 hl1 => ?_⟩
        refine fin d _ (ts ++ ts.take 1) _ k8 ?_ upd_same ?_ ?_ ?_ l1 hl1
        · rw [upd_ne (ne_of_none (same_new hc _ _ B6) hd)]
          exact same_new hc _ _ B6
        · have z := k8.rows.append (k8.rows.take 1)
          exact Eq.subst (motive := fun u => RowsBy (SqT K (L2.upd (L2.upd H6 c (.lst (cutV ps .none (some 1)))) d (.lst (ps ++ cutV ps .none (some 1))))) (ps ++ u) (ts ++ ts.take 1)) cut.symm z
        · refine sub _ (fun u hu => ?_) ?_ ?_
          · rcases List.mem_append.mp hu with hu | hu
            · exact hu
            · exact List.mem_of_mem_take hu
          · rw [List.length_append]; omega
          · rw [List.length_append, List.length_take]; omega
        · intro z
          have := congrArg List.length z
          rw [List.length_append, List.length_take] at this
          omega
      · have ge : 4 ≤ ts.length := by
          have : ¬ ((ps.length : Int) < 4) := of_decide_eq_false (by simpa using ge)
          omega
        refine ⟨_, rfl, _, rfl, Fa, ps, rfl, SqL.of k6.at_, fun c hc => ?_⟩
        obtain ⟨k7, nc, cb, Fc⟩ := k6.put (o := .lst (cutV ps (some 1) none)) hc
        have cut : cutV ps (some 1) none = ps.drop 1 := cut_from (i := 1) (by omega)
        refine ⟨by show 1 ≤ sizeLine; decide, fun l1 hl1 => ?_⟩
        refine fin c _ (ts.drop 1) _ k7 (same_new hc _ _ B6) upd_same ?_ ?_ ?_ l1 hl1
        · exact Eq.subst (motive := fun u => RowsBy (SqT K (L2.upd H6 c (.lst (cutV ps (some 1) .none)))) u (ts.drop 1)) cut.symm (k7.rows.drop 1)
        · exact sub _ (fun u hu => List.mem_of_mem_drop hu) (by rw [List.length_drop]; omega) (by rw [List.length_drop]; omega)
        · intro z
          have := congrArg List.length z
          rw [List.length_drop] at this
          omega
    · rintro σ' H7 ⟨l1, l2, qs, us, rfl, k7, B7, h1, h2, r7, m7, ne7⟩
      refine ⟨_, rfl, _, rfl, _, rfl, _, rfl, Fa, ps, rfl, SqL.of k7.at_, fun c hc => ?_⟩
      have cutA : cutV ps none (some (at_ : Int)) = ps.take at_ := cut_to (by omega)
      have cutB : cutV ps (some ((at_ : Int) + 1)) none = ps.drop (at_ + 1) := cut_from (i := at_ + 1) (by omega)
      rw [cutA]
      obtain ⟨k8, nc, cb, Fc⟩ := k7.put (o := .lst (ps.take at_)) hc
      have e8 := same_new (o := HO.lst (ps.take at_)) hc
      have c8 : L2.upd H7 c (.lst (ps.take at_)) c = some (.lst (ps.take at_)) := upd_same
      generalize L2.upd H7 c (.lst (ps.take at_)) = H8 at k8 e8 c8
      refine ⟨_, rfl, B, _, rfl, .inl (SqL.of (e8 _ _ B7)), fun z H9 e9 hz => ?_⟩
      refine ⟨by show 1 ≤ sizeLine; decide, fun d hd => ?_⟩
      have e10 := e9.trans (same_new (o := HO.lst [.ref z]) hd)
      have k10 := k8.same e10
      have d10 : L2.upd H9 d (.lst [.ref z]) d = some (.lst [.ref z]) := upd_same
      have z10 := sqT_same (same_new (o := HO.lst [.ref z]) hd) hz
      have e7 := e8.trans e10
      generalize L2.upd H9 d (.lst [.ref z]) = H10 at k10 d10 z10 e10 e7
      refine ⟨c, d, _, _, rfl, rfl, e10 _ _ c8, d10, by rw [List.length_take, sizeLine_eq]; simp; omega, fun g hg => ?_⟩
      have e11 := same_new (o := HO.lst (ps.take at_ ++ [V.ref z])) hg
      have k11 := k10.same e11
      have g11 : L2.upd H10 g (.lst (ps.take at_ ++ [V.ref z])) g = some (.lst (ps.take at_ ++ [V.ref z])) := upd_same
      have z11 := sqT_same e11 z10
      have e7 := e7.trans e11
      generalize L2.upd H10 g (.lst (ps.take at_ ++ [V.ref z])) = H11 at k11 g11 z11 e11 e7
      refine ⟨_, rfl, _, rfl, _, _, rfl, rfl, _, rfl, Fa, ps, rfl, SqL.of k11.at_, fun j hj => ?_⟩
      rw [cutB]
      have e12 := same_new (o := HO.lst (ps.drop (at_ + 1))) hj
      have k12 := k11.same e12
      have j12 : L2.upd H11 j (.lst (ps.drop (at_ + 1))) j = some (.lst (ps.drop (at_ + 1))) := upd_same
      have z12 := sqT_same e12 z11
      have g12 := e12 _ _ g11
      have e7 := e7.trans e12
      generalize L2.upd H11 j (.lst (ps.drop (at_ + 1))) = H12 at k12 j12 z12 g12 e12 e7
      refine ⟨g, j, _, _, rfl, rfl, g12, j12, by rw [List.length_append, List.length_take, List.length_drop, sizeLine_eq]; simp; omega, fun m hm => ?_⟩
      have e13 := same_new (o := HO.lst (ps.take at_ ++ [V.ref z] ++ ps.drop (at_ + 1))) hm
      have k13 := k12.same e13
      have m13 : L2.upd H12 m (.lst (ps.take at_ ++ [V.ref z] ++ ps.drop (at_ + 1))) m = some (.lst (ps.take at_ ++ [V.ref z] ++ ps.drop (at_ + 1))) := upd_same
      have z13 := sqT_same e13 z12
      have e7 := e7.trans e13
      generalize L2.upd H12 m (.lst (ps.take at_ ++ [V.ref z] ++ ps.drop (at_ + 1))) = H13 at k13 m13 z13 e13 e7
      refine ⟨by show 1 ≤ sizeLine; decide, fun y hy => ?_⟩
      have e14 := same_new (o := HO.lst [V.ref m]) hy
      have k14 := k13.same e14
      have y14 : L2.upd H13 y (.lst [V.ref m]) y = some (.lst [V.ref m]) := upd_same
      have z14 := sqT_same e14 z13
      have m14 := e14 _ _ m13
      have e7 := e7.trans e14
      generalize L2.upd H13 y (.lst [V.ref m]) = H14 at k14 y14 z14 m14 e14 e7
      refine ⟨_, rfl, _, _, rfl, rfl, .inr ⟨decide ((1 : Int) < (n : Int)), rfl, ?_⟩⟩
      refine ⟨y, _, _, rfl, rfl, y14, ?_, ?_, ?_, fun u hu => ?_⟩
      · split <;> decide
      · split <;> decide
      · rw [sizeLine_eq]
        show 1 * _ ≤ _
        split <;> decide
      have e15 := same_new (o := HO.lst (List.replicate (Int.toNat (if decide ((1 : Int) < (n : Int)) = true then 1 else 0)) [V.ref m]).flatten) hu
      have k15 := k14.same e15
      have u15 : L2.upd H14 u (.lst (List.replicate (Int.toNat (if decide ((1 : Int) < (n : Int)) = true then 1 else 0)) [V.ref m]).flatten) u = _ := upd_same
      have z15 := sqT_same e15 z14
      have m15 := e15 _ _ m14
      have e7 := e7.trans e15
      generalize L2.upd H14 u (.lst (List.replicate (Int.toNat (if decide ((1 : Int) < (n : Int)) = true then 1 else 0)) [V.ref m]).flatten) = H15 at k15 u15 z15 m15 e15 e7
      refine ⟨l1, u, _, _, rfl, rfl, e7 _ _ h1, u15, ?_, fun w0 hw => ?_⟩
      · rw [sizeLine_eq]
        split <;> simp
      have e16 := same_new (o := HO.lst ([V.ref l2] ++ (List.replicate (Int.toNat (if decide ((1 : Int) < (n : Int)) = true then 1 else 0)) [V.ref m]).flatten)) hw
      have o1 : Other K n ts (L2.upd H15 w0 (.lst ([V.ref l2] ++ (List.replicate (Int.toNat (if decide ((1 : Int) < (n : Int)) = true then 1 else 0)) [V.ref m]).flatten))) (.ref l2) := ⟨l2, qs, us, rfl, SqL.of (e16 _ _ (e7 _ _ h2)), r7.imp fun _ _ q => sqT_same (e7.trans e16) q, m7, ne7⟩
      refine k w0 _ _ (k15.same e16).mv (SqL.of upd_same) ?_ fun v hv => ?_
      · split <;> simp
      rcases List.mem_append.mp hv with hv | hv
      · rw [List.mem_singleton.mp hv]
        exact o1
      · by_cases n2 : (1 : Int) < (n : Int)
        · rw [if_pos (decide_eq_true n2)] at hv
          have hv : v = .ref m := by simpa using hv
          subst hv
          refine ⟨m, ps.take at_ ++ [V.ref z] ++ ps.drop (at_ + 1), ts.take at_ ++ [(ts[at_]).set spot ((x + 1) % (n : Int))] ++ ts.drop (at_ + 1), rfl, SqL.of (e16 _ _ m15), ?_, ⟨?_, ?_, n1, n8, fun t' ht' => ?_, fun t' ht' => ?_⟩, fun z' => ?_⟩
          · have rr := (k15.same e16).rows
            exact (RowsBy.snoc (sqT_same e16 z15) (rr.take at_)).append (rr.drop (at_ + 1))
          · simp only [List.length_append, List.length_take, List.length_drop, List.length_singleton]
            omega
          · simp only [List.length_append, List.length_take, List.length_drop, List.length_singleton]
            omega
          · rcases List.mem_append.mp ht' with h | h
            · rcases List.mem_append.mp h with h | h
              · exact ok.len _ (List.mem_of_mem_take h)
              · rw [List.mem_singleton.mp h]
                exact tab'.1
            · exact ok.len _ (List.mem_of_mem_drop h)
          · rcases List.mem_append.mp ht' with h | h
            · rcases List.mem_append.mp h with h | h
              · exact ok.ent _ (List.mem_of_mem_take h)
              · rw [List.mem_singleton.mp h]
                exact tab'.2
            · exact ok.ent _ (List.mem_of_mem_drop h)
          · have a1 := congrArg (fun l => l[at_]?) z'
            simp only [List.append_assoc] at a1
            rw [List.getElem?_append_right (by rw [List.length_take]; omega), List.length_take, Nat.min_eq_left (by omega), Nat.sub_self] at a1
            rw [hta] at a1
            have a2 : (ts[at_]).set spot ((x + 1) % (n : Int)) = ts[at_] := Option.some.inj a1
            have a3 := congrArg (fun l => l[spot]?) a2
            simp only [List.getElem?_set_self hs] at a3
            rw [hx] at a3
            have a4 := Option.some.inj a3
            rcases Int.lt_or_le (x + 1) n with h | h
            · rw [Int.emod_eq_of_lt (by omega) h] at a4
              omega
            · have : x + 1 = n := by omega
              rw [this, Int.emod_self] at a4
              omega
        · rw [if_neg (by simpa using n2)] at hv
          exact absurd hv (by simp)
end
end K1
/-! tuples of the same things compared; isinstance of a caught error that has a field; "0" times a number; calls with keywords alone. -/
namespace Kx
open L2 PySem PySem.Spec PyProof.Rows
/-- two tuples that hold, place by place, the same flat thing or the same object -/
def rSame (K : PySem.W.Frag) (b : Bool) : R2 := fun x y H Q => ∃ (p q : Addr) (xs : List V), x = .ref p ∧ y = .ref q ∧ SqT K H p xs ∧ SqT K H q xs ∧ (∀ v ∈ xs, flatB v = true ∨ ∃ c, v = .ref c) ∧ Q (.bl b) H
theorem same_at {A : Around} {s : Shared} : ∀ {xs : List V} {us ws : List Value}, (∀ v ∈ xs, flatB v = true ∨ ∃ c, v = .ref c) → Vals xs us → Vals xs ws → ∀ j (h1 : j < us.length) (h2 : j < ws.length), SeqAt.EqAt A s us[j] ws[j] true
  | [], _, _, _, .nil, .nil, _, h1, _ => absurd h1 (Nat.not_lt_zero _)
  | x :: xs, _, _, f, .cons r1 k1, .cons r2 k2, 0, _, _ => by
    rcases f x List.mem_cons_self with h | ⟨c, rfl⟩
    · exact eqAt_same r1 r2 h
    · cases r1
      cases r2
      exact SeqAt.EqAt.same _
  | x :: xs, _, _, f, .cons r1 k1, .cons r2 k2, j + 1, h1, h2 => same_at (fun v hv => f v (List.mem_cons_of_mem _ hv)) k1 k2 j (Nat.lt_of_succ_lt_succ h1) (Nat.lt_of_succ_lt_succ h2)
theorem all_range (n : Nat) : ((List.range n).all fun _ => true) = true := List.all_eq_true.mpr fun _ _ => rfl
section
variable {X : Cx}
theorem op_eqSame (hu : X.A.units + 64 < cLine) : OpR X (compareOp .Eq) (rSame X.K true) := by
  intro pins st σ H x y v u Q I rx ry h
  obtain ⟨p, q, xs, rfl, rfl, h1, h2, f, k⟩ := h
  cases rx
  cases ry
  obtain ⟨us, r1, t1, _⟩ := I.tuple h1
  obtain ⟨ws, r2, t2, _⟩ := I.tuple h2
  have e : us.toArray.size = ws.toArray.size := by simp only [List.size_toArray]; rw [← r1.length, ← r2.length]
  refine SeqAt.RcAt.tuples (e := fun _ => true) t1 t2 (by omega) (fun j a1 a2 => ?_) _ _ _ _ ?_
  · simpa using same_at f r1 r2 j (by simpa using a1) (by simpa using a2)
  · rw [all_range, e, beq_self_eq_true]
    exact ⟨.bl true, H, I, rfl, k⟩
theorem op_neSame (hu : X.A.units + 64 < cLine) : OpR X (compareOp .NotEq) (rSame X.K false) := by
  intro pins st σ H x y v u Q I rx ry h
  obtain ⟨p, q, xs, rfl, rfl, h1, h2, f, k⟩ := h
  cases rx
  cases ry
  obtain ⟨us, r1, t1, _⟩ := I.tuple h1
  obtain ⟨ws, r2, t2, _⟩ := I.tuple h2
  have e : us.toArray.size = ws.toArray.size := by simp only [List.size_toArray]; rw [← r1.length, ← r2.length]
  refine SeqAt.RcNeAt.tuples (e := fun _ => true) t1 t2 (by omega) (fun j a1 a2 => ?_) _ _ _ _ ?_
  · simpa using same_at f r1 r2 j (by simpa using a1) (by simpa using a2)
  · rw [all_range, e, beq_self_eq_true]
    exact ⟨.bl false, H, I, rfl, k⟩
/-- isinstance(e, c), e the error that the suite holds, its own dict at d -/
theorem call_isEd {a D d : Addr} {oe : Obj} {pn : List (Addr × Obj)} (C : ExcC X.K D) (hz : Zc (.ref D) (some d) oe) (hf : ∃ vs, oe.data = .fields vs) :
    CallR (X.suite a ((a, oe) :: pn)) (.builtin "isinstance") (fun xs H Q => (∃ fs, H d = some (.xd fs)) ∧ rIsE X.K D a xs H Q) := by
  rintro pins s σ H xs us Q I r h
  obtain ⟨⟨fs, hd⟩, c, cv, b, rfl, hcv, e, q⟩ := h
  cases r with
  | cons rx rr =>
    cases rr with
    | cons rt rr =>
      cases rr
      cases rx
      have ec := hcv _ rt
      subst ec
      obtain ⟨hget, -⟩ := I.pin (a, oe) (List.mem_append.mpr (.inl List.mem_cons_self))
      obtain ⟨vs, hv⟩ := hf
      obtain ⟨mA, hns, _⟩ := (show ObjOk X.prog X.w H s.heap d (.xd fs) from I.hok d _ hd)
      obtain ⟨od, ho, _⟩ := lookIn_ns hns
      have J : PySem.W.InstAt s.heap a oe D (some od) := by
        obtain ⟨oc, od', oda, osl⟩ := oe
        obtain ⟨h1, h2⟩ := hz
        dsimp only at h1 h2 hv
        subst h1 h2 hv
        exact ⟨hget, rfl, rfl, ho⟩
      have cl : (PySem.W.clsIn X.K D).isSome = true := by
        obtain ⟨cd, hc, _⟩ := PySem.W.any_some C.hd
        rw [hc]
        rfl
      exact PySem.W.kia_one (PySem.W.kitx_exc cl C.hg C.hk C.hs C.ha C.hn C.ht C.hm) I.kIn J e (fun z => nomatch z) fun tk => ⟨.bl b, H, I.kept (t' := tk) fun _ _ z => z, rfl, q⟩
/-! ### "0" * k -/
def noughts : Nat → Str
  | 1 => "0"
  | 2 => "00"
  | 3 => "000"
  | _ => "0000"
theorem op_noughts : OpR X (binaryOp .Mult) (fun x y H Q => ∃ k : Nat, x = .str "0" ∧ y = .int (k : Int) ∧ 1 ≤ k ∧ k ≤ 4 ∧ Q (.str (noughts k)) H) := by
  intro pins st σ H x y v u Q I rx ry h
  obtain ⟨k, rfl, rfl, k1, k4, q⟩ := h
  obtain ⟨t, rfl⟩ := (show ∃ t, v = Value.str "0" t from rx)
  obtain ⟨t2, rfl⟩ := (show ∃ t, u = Value.int (k : Int) t from ry)
  have cases_ : k = 1 ∨ k = 2 ∨ k = 3 ∨ k = 4 := by omega
  have fin : ∀ (z : Str) (tk tk2 : Nat), z = noughts k → EP X pins σ Q (.str z tk) { st with toks := tk2 } := fun z tk tk2 e => by
    subst e
    exact ⟨.str (noughts k), H, I.kept (t' := tk2) fun _ _ z => z, ⟨tk, rfl⟩, q⟩
  refine P.mul_str ?_ ?_ ?_ ?_
  · rcases cases_ with rfl | rfl | rfl | rfl <;> decide +kernel
  · rcases cases_ with rfl | rfl | rfl | rfl <;> decide +kernel
  · rcases cases_ with rfl | rfl | rfl | rfl <;> decide +kernel
  · rcases cases_ with rfl | rfl | rfl | rfl
    · rw [if_neg (by decide), if_pos (by decide +kernel)]
      exact ⟨.str (noughts 1), H, I, ⟨t, rfl⟩, q⟩
    · rw [if_neg (by decide), if_neg (by decide +kernel)]
      exact ⟨by decide +kernel, fin _ _ _ (by decide +kernel)⟩
    · rw [if_neg (by decide), if_neg (by decide +kernel)]
      exact ⟨by decide +kernel, fin _ _ _ (by decide +kernel)⟩
    · rw [if_neg (by decide), if_neg (by decide +kernel)]
      exact ⟨by decide +kernel, fin _ _ _ (by decide +kernel)⟩
end
/-! ### calls with keywords -/
structure CalN (P : Program) (w : World) (K : PySem.W.Frag) (mg : Str → Option Value) (base : Heap) (CX : CXT) (k n : Nat) (x : Str) (ps ks : List Str) (gV : List V → List V → List V) (sp : Sp) : Prop where
  ex : ∃ (f : Addr) (fd : FuncData) (g : List Value → List Value → List Value), mg x = some (.ref f) ∧ PySem.W.keepIn K (.ref f) = true ∧ KBn K fd ps n ks g gV ∧ FnOk P w K mg base CX k f fd ps sp
section
variable {X : Cx} {CX : CXT} {k j n : Nat} {x : Str} {ps ks : List Str} {gV : List V → List V → List V} {sp : Sp} {e : Expr} {es : List Expr} {kws : List Keyword} {t tk : TA} {E : XK} {p pos : Pos}
theorem pe_callN0 (c : CalN X.prog X.w X.K X.mg X.base CX k 0 x ps ks gV sp) (hr : Room j X.A) (hx : Passes CX X E) (hkw : PK X kws tk) (hk : k ≤ j := by decide) (hg : Gl X x := by rfl)
    (hal : (backToKw pos (keywordEach kws X.env)).all (·.1.isSome) = true := by rfl) (hky : (backToKw pos (keywordEach kws X.env)).filterMap (·.1) = ks := by rfl) (hdb : (x == ("__debug__" : Str)) = false := by decide)
    (hnp : ((backTo pos (starEach [] X.env)).any (·.1) || (backToKw pos (keywordEach kws X.env)).any (·.1.isNone)) = false := by rfl) :
    PE X (.Call (.Name x p) [] kws pos) (tCallN 0 ks.length sp gV E tNil tk) := by
  obtain ⟨f, fd, g, h1, h2, h3, h4⟩ := c.ex
  refine ⟨fun pins s σ H Q I h => wpAny_Call_Name_kw (ld_glob I hg h1 ?_ hdb)⟩
  refine PySem.W.callWith_KW0 (h₀ := X.base) I.ok.mod.kin h2 hal ?_ hnp
  refine thn (hkw.run pos pins s σ H _ I h) fun ws s2 ⟨zs, H2, I2, rz, _, l2, q2⟩ => ⟨I2.kIn, ?_⟩
  rw [hky]
  exact run_fnN (us := []) (vs := []) h4 (hr.mono hk) h3 hx I2 .nil rz rfl l2 q2
theorem pe_callNn (c : CalN X.prog X.w X.K X.mg X.base CX k n x ps ks gV sp) (hr : Room j X.A) (hx : Passes CX X E) (ha : PA X (e :: es) t) (hkw : PK X kws tk) (hk : k ≤ j := by decide) (hg : Gl X x := by rfl)
    (hal : (backToKw pos (keywordEach kws X.env)).all (·.1.isSome) = true := by rfl) (hky : (backToKw pos (keywordEach kws X.env)).filterMap (·.1) = ks := by rfl) (hdb : (x == ("__debug__" : Str)) = false := by decide)
    (he : starEach (e :: es) X.env = (false, eval e X.env) :: starEach es X.env := by rfl)
    (hnp : ((backTo pos (starEach (e :: es) X.env)).any (·.1) || (backToKw pos (keywordEach kws X.env)).any (·.1.isNone)) = false := by rfl) : PE X (.Call (.Name x p) (e :: es) kws pos) (tCallN n ks.length sp gV E t tk) := by
  obtain ⟨f, fd, g, h1, h2, h3, h4⟩ := c.ex
  exact pe_callN h4 (hr.mono hk) hg h1 h2 h3 hx ha hkw hal hky hdb he hnp
end
end Kx
/-! where only tables move; a body whose code object is known -/
namespace Kx
open L2 PySem PySem.Spec PyProof.Rows
section
variable {P : Program} {w : World} {K : PySem.W.Frag} {mg : Str → Option Value} {base : Heap} {x qual : Str} {params : Arguments} {body : List Stmt} {scope : Scope} {dvs : List V} {kws : List (Str × V)} {f c : Addr} {fd : FuncData}
/-- a def's body, its code object known -/
theorem okGc {CX : CXT} {N ps : List Str} {k : Nat} {sp : Sp} (F : FunD K x qual params body scope dvs kws f fd) (hc : fd.code = .ref c) (S : FnScope N ps scope) (len : ∀ vs H Q E, sp vs H Q E → vs.length = ps.length)
    (hbody : ∀ (A : Around) (outer : List Env) (s : Shared) (H : Hp) (vs : List V) (Q : VK) (E : XK), Lone A → Room k (A.deeper (envOfC qual scope s.heap.objs.size f (.ref c))) → sp vs H Q E →
      ∃ t, PSs (cxOf CX P w K mg base N qual scope f (.ref c) A outer s H E) body t ∧ t { nx := fun _ H' => Q .non H', rt := Q } (start N vs) H) : FnG P w K mg base CX (k + 1) f fd ps sp := by
  obtain ⟨oc, od, dV, kV, doc, pm, an, cdv, ct, osl, rfl, lk, hcd, -, -⟩ := F.ex
  have hc : cdv = .ref c := hc
  subst hc
  exact ⟨len, fun A outer s H args us vs Q E hr lone e0 hb hv hs => LamX.run_ofS lk hcd S hr e0 hb hv (len _ _ _ _ hs) fun hr' => hbody A outer s H vs Q E lone hr' hs⟩
end
/-! ### where only tables move -/
section
variable {K : PySem.W.Frag} {H H' : Hp} {a : Addr} {xs : List V}
theorem ext_rd (e : LamX.ExtN H H') {u : HO} (n : ∀ ps, u ≠ .tbl ps) (h : Rd H a u) : Rd H' a u := h.elim (fun q => .inl (e _ _ q n)) fun ⟨z, q⟩ => .inr ⟨z, e _ _ q fun _ z => nomatch z⟩
theorem ext_sqT (e : LamX.ExtN H H') (h : SqT K H a xs) : SqT K H' a xs := h.imp (ext_rd e fun _ z => nomatch z) id
theorem ext_sqL (e : LamX.ExtN H H') (h : SqL K H a xs) : SqL K H' a xs := h.imp (ext_rd e fun _ z => nomatch z) id
theorem ext_sq (e : LamX.ExtN H H') (h : Sq K H a xs) : Sq K H' a xs := h.imp (ext_sqL e) (ext_sqT e)
theorem ext_of (e : Same H H') : LamX.ExtN H H' := fun b o q _ => e b o q
theorem ext_kn {v : V} (e : LamX.ExtN H H') (h : Kn K H v) : Kn K H' v := by
  cases h with
  | non => exact .non
  | bl b => exact .bl b
  | int i => exact .int i
  | str x => exact .str x
  | seq q => exact .seq (ext_sq e q)
theorem tabs_same {T : List (Addr × Str)} (t : LamX.Tabs T H) (e : Same H H') : LamX.Tabs T H' := t.ext e
/-- t == u, t != u: tuples of rows -/
def rRowsEq (K : PySem.W.Frag) (neg : Bool) : R2 := fun x y H Q => ∃ (xs ys : List (List Int)), Dp K H x (dRows xs) ∧ Dp K H y (dRows ys) ∧ Q (.bl (neg != decide (xs = ys))) H
theorem op_eqRows {X : Cx} (hu : X.A.units + 64 < cLine) : OpR X (compareOp .Eq) (rRowsEq X.K false) := by
  intro pins st σ H x y v u Q I rx ry ⟨xs, ys, h1, h2, q⟩
  refine op_eqD hu pins st σ H _ _ v u Q I rx ry ⟨_, _, h1, h2, shaped_rows xs, shaped_rows ys, ?_⟩
  simp only [PyData.eqv, eqv_rows]
  rwa [Bool.false_bne] at q
theorem op_neRows {X : Cx} (hu : X.A.units + 64 < cLine) : OpR X (compareOp .NotEq) (rRowsEq X.K true) := by
  intro pins st σ H x y v u Q I rx ry ⟨xs, ys, h1, h2, q⟩
  refine op_neD hu pins st σ H _ _ v u Q I rx ry ⟨_, _, h1, h2, shaped_rows xs, shaped_rows ys, ?_⟩
  simp only [PyData.eqv, eqv_rows]
  rwa [Bool.true_bne] at q
end
end Kx
/-! what is heard of a call -/
namespace K1
open L2 PySem PySem.Spec PyProof.Rows Kx RZ
theorem takes_len {X : Cx} {W : WX} (t : Takes X W) : Takes X fun c d σ H => σ.length = X.N.length → W c d σ H := fun u s ⟨x, B, o, pins, σ, H, cls, d, e, I, r1, r2, r3, r4, r5, r6, q⟩ => t u s ⟨x, B, o, pins, σ, H, cls, d, e, I, r1, r2, r3, r4, r5, r6, q I.len⟩
/-- v shows as the text of dt -/
structure ShowD (K : PySem.W.Frag) (H : Hp) (v : V) (dt : PyData) : Prop where
  dp : Dp K H v dt
  sh : dt.showable = true
  nd : dt.hasDict = false
  deep : dt.depth ≤ 60
  fit : dt.shown.length ≤ sizeLine
/-- what is heard of an error -/
def Out (K : PySem.W.Frag) (a : Ad) (cls : Value) (d : Option Addr) (H : Hp) (Q : VK) : Prop := ∃ dd, d = some dd ∧
  ((cls = .ref a.cM ∧ ∃ i : Int, H dd = some (.xd [("at", .int i)]) ∧ ∀ p H2, Same H H2 → SqT K H2 p [.str "machine", .int i, .bl true] → Q (.ref p) H2) ∨
  (cls = .ref a.cR ∧ ∃ i : Int, H dd = some (.xd [("at", .int i)]) ∧ ∀ p H2, Same H H2 → SqT K H2 p [.str "row", .int i, .bl true] → Q (.ref p) H2) ∨
  (cls = .ref a.cN ∧ ∃ v dt, H dd = some (.xd [("state", v)]) ∧ ShowD K H v dt ∧ ∀ p H2, Same H H2 → SqT K H2 p [.str "state", .str dt.shown] → Q (.ref p) H2) ∨
  (cls = .ref a.cD ∧ ∃ v dt, H dd = some (.xd [("deed", v)]) ∧ ShowD K H v dt ∧ ∀ p H2, Same H H2 → SqT K H2 p [.str "deed", .str dt.shown] → Q (.ref p) H2))
/-- what is heard of a call tl -/
def TTh (K : PySem.W.Frag) (a : Ad) : (XK → Hp → VK → Prop) → Hp → VK → Prop := fun tl H Q => tl (fun cls d H' => Out K a cls d H' Q) H (fun _ H' => Q .non H')
/-- the errors as they are caught and asked -/
structure Hd (K : PySem.W.Frag) (mg : Str → Option Value) (a : Ad) (cW : Addr) : Prop where
  g_W : mg "WitnessError" = some (.ref cW)
  g_M : mg "BadMachine" = some (.ref a.cM)
  g_R : mg "BadRow" = some (.ref a.cR)
  g_N : mg "NoState" = some (.ref a.cN)
  g_D : mg "NoDeed" = some (.ref a.cD)
  x_M : XfC K a.cM
  x_R : XfC K a.cR
  x_N : XfC K a.cN
  x_D : XfC K a.cD
  n_M : PySem.W.findIn K (.ref a.cM) "at" = some none
  n_R : PySem.W.findIn K (.ref a.cR) "at" = some none
  n_N : PySem.W.findIn K (.ref a.cN) "state" = some none
  n_D : PySem.W.findIn K (.ref a.cD) "deed" = some none
  e_M : ExcC K a.cM
  e_R : ExcC K a.cR
  k_M : PySem.W.kitOne K (.ref a.cM) (.ref cW) = some true
  k_R : PySem.W.kitOne K (.ref a.cR) (.ref cW) = some true
  m_MM : PySem.W.exmOne K (.ref a.cM) (.ref a.cM) = some true
  m_RM : PySem.W.exmOne K (.ref a.cR) (.ref a.cM) = some false
  m_RR : PySem.W.exmOne K (.ref a.cR) (.ref a.cR) = some true
  m_NM : PySem.W.exmOne K (.ref a.cN) (.ref a.cM) = some false
  m_NR : PySem.W.exmOne K (.ref a.cN) (.ref a.cR) = some false
  m_NN : PySem.W.exmOne K (.ref a.cN) (.ref a.cN) = some true
  m_DM : PySem.W.exmOne K (.ref a.cD) (.ref a.cM) = some false
  m_DR : PySem.W.exmOne K (.ref a.cD) (.ref a.cR) = some false
  m_DN : PySem.W.exmOne K (.ref a.cD) (.ref a.cN) = some false
  m_DD : PySem.W.exmOne K (.ref a.cD) (.ref a.cD) = some true
/-- isinstance(e, c), whatever the error's class is said to be -/
theorem call_isEw {X : Cx} {x D : Addr} {oe : Obj} {cls : Value} {d : Option Addr} {pn : List (Addr × Obj)} (C : ExcC X.K D) (hz : Zc cls d oe) (hf : ∃ vs, oe.data = .fields vs) :
    CallR (X.suite x ((x, oe) :: pn)) (.builtin "isinstance") (fun xs H Q => cls = .ref D ∧ (∃ dd, d = some dd ∧ ∃ fs, H dd = some (.xd fs)) ∧ rIsE X.K D x xs H Q) := by
  rintro pins s σ H xs us Q I r h
  obtain ⟨rfl, ⟨dd, rfl, fs, h1⟩, h2⟩ := h
  exact call_isEd C hz hf pins s σ H xs us Q I r ⟨⟨fs, h1⟩, h2⟩
section
variable {P : Program} {w : World} {K : PySem.W.Frag} {mg : Str → Option Value} {base : Heap} {f : Addr} {fd : FuncData} {a : Ad} {CM cW : Addr}
theorem sc_law_heard : FnScope ["ask", "e"] ["ask"] (defScope s_law_heard) := ⟨rfl, rfl, rfl, by decide +kernel, rfl, by decide +kernel, by decide +kernel⟩
theorem heard_gives {X : Cx} {g : Addr} {cdg : Value} {k : Nat} {q : Str} (T : Mg X.mg) (D : Hd X.K X.mg a cW) (lone : Lone X.A) (hr : Room (k + 2) X.A) :
    LamX.GivesTo X ["ask", "e"] "_law_heard" (defScope s_law_heard) g cdg (defBody s_law_heard) "ask" q (TTh X.K a) := by
  intro fl c' s H Q tl act hc h
  have hr1 : Room (k + 1) (X.A.deeper (envOfC "_law_heard" (defScope s_law_heard) s.heap.objs.size g cdg)) := hr.deeper _
  have un := hr1.un
  have cs : ∀ (x : Addr) (ob : Obj) (pn : List (Addr × Obj)), CallR ((cxOf C8.CX0 X.prog X.w X.K X.mg X.base ["ask", "e"] "_law_heard" (defScope s_law_heard) g cdg X.A X.stack s H C8.E0).nox.suite x ((x, ob) :: pn)) (.builtin "repr") (rShow X.K) :=
    fun x ob pn => call_show lone (by show (X.A.deeper (envOfC "_law_heard" (defScope s_law_heard) s.heap.objs.size g cdg)).units + 64 < _; omega)
  refine ⟨_, pss_cons (ps_tries (W := fun _ _ _ _ => False)
      (tb := fun U E σ H => ∃ Ech : XK, (∀ cls d σ' H', Ech cls d H' → σ'.length = 2 → U cls d σ' H') ∧ σ[0]? = some (some (.ref fl)) ∧ H c' = some (LamX.CodeO c' q) ∧ tl Ech H (fun _ H' => E.nx σ H'))
      rfl rfl LamX.takes0 (fun U pn xe tk own => ?_)
      (Clauses.cons (i := 1) sc_law_heard.nd rfl rfl ⟨rfl, by decide, .inl D.g_M⟩
        (fun x ob cls d pn hz hf => pss_one (ps_ret (pe_tup (pa_cons pe_str (pa_cons (pe_xf D.x_M D.n_M hz hf (pv 1)) (pa_cons (pe_callB (call_isEw D.e_M hz hf) (by rfl) T.z_isinstance (by decide +kernel) (pa_cons (pv 1) (pa_cons (pe_glob (v := V.ref cW) rfl D.g_W rfl) pa_nil))) pa_nil))))))
      (Clauses.cons (i := 1) sc_law_heard.nd rfl rfl ⟨rfl, by decide, .inl D.g_R⟩
        (fun x ob cls d pn hz hf => pss_one (ps_ret (pe_tup (pa_cons pe_str (pa_cons (pe_xf D.x_R D.n_R hz hf (pv 1)) (pa_cons (pe_callB (call_isEw D.e_R hz hf) (by rfl) T.z_isinstance (by decide +kernel) (pa_cons (pv 1) (pa_cons (pe_glob (v := V.ref cW) rfl D.g_W rfl) pa_nil))) pa_nil))))))
      (Clauses.cons (i := 1) sc_law_heard.nd rfl rfl ⟨rfl, by decide, .inl D.g_N⟩
        (fun x ob cls d pn hz hf => pss_one (ps_ret (pe_tup (pa_cons pe_str (pa_cons (pe_callB (cs x ob pn) (by rfl) T.z_repr (by decide +kernel) (pa_cons (pe_xf D.x_N D.n_N hz hf (pv 1)) pa_nil)) pa_nil)))))
      (Clauses.cons (i := 1) sc_law_heard.nd rfl rfl ⟨rfl, by decide, .inl D.g_D⟩
        (fun x ob cls d pn hz hf => pss_one (ps_ret (pe_tup (pa_cons pe_str (pa_cons (pe_callB (cs x ob pn) (by rfl) T.z_repr (by decide +kernel) (pa_cons (pe_xf D.x_D D.n_D hz hf (pv 1)) pa_nil)) pa_nil)))))
      Clauses.nil)))))
    (pss_one (ps_ret pe_non)), ?_⟩
  · refine ⟨fun pins s' σ H' E I h' => ?_⟩
    rcases h' with ⟨Ech, hW, h1, h2, h3⟩
    have hp := fun p1 p2 => act (fun c d σ H => σ.length = _ → U c d σ H) pn xe Ech p1 p2 (takes_len tk) (fun cls d σ' H' he hlen => hW cls d σ' H' he hlen)
    exact (pss_one (ps_expr (hp _ _))).run pins s' σ H' E I ⟨h1, h2, h3⟩
  · refine ⟨fun cls d H' => Out X.K a cls d H' Q, ?_, rfl, hc, h⟩
    rintro cls d σ' H' ⟨dd, rfl, o⟩ hlen
    obtain ⟨v0, v1, rfl⟩ : ∃ v0 v1, σ' = [v0, v1] := by
      match σ', hlen with
      | [v0, v1], _ => exact ⟨v0, v1, rfl⟩
    have no : ∀ {P : Prop}, true = false → P := fun z => nomatch z
    have no' : ∀ {P : Prop}, false = true → P := fun z => nomatch z
    rcases o with ⟨rfl, i, hd, k⟩ | ⟨rfl, i, hd, k⟩ | ⟨rfl, v, dt, hd, sd, k⟩ | ⟨rfl, v, dt, hd, sd, k⟩
    · refine ⟨true, D.m_MM, fun _ x hx => ?_, no⟩
      exact ⟨_, rfl, rfl, rfl, dd, _, _, rfl, hd, rfl, _, rfl, rfl, ⟨dd, rfl, _, hd⟩, _, _, true, rfl, fun u r => r, D.k_M, (by show 3 ≤ sizeLine; decide), fun p hp => k p _ (same_new hp) (SqT.of upd_same)⟩
    · refine ⟨false, D.m_RM, no', fun _ => ⟨true, D.m_RR, fun _ x hx => ?_, no⟩⟩
      exact ⟨_, rfl, rfl, rfl, dd, _, _, rfl, hd, rfl, _, rfl, rfl, ⟨dd, rfl, _, hd⟩, _, _, true, rfl, fun u r => r, D.k_R, (by show 3 ≤ sizeLine; decide), fun p hp => k p _ (same_new hp) (SqT.of upd_same)⟩
    · refine ⟨false, D.m_NM, no', fun _ => ⟨false, D.m_NR, no', fun _ => ⟨true, D.m_NN, fun _ x hx => ?_, no⟩⟩⟩
      exact ⟨_, rfl, rfl, rfl, dd, _, _, rfl, hd, rfl, _, dt, rfl, sd.dp, sd.sh, sd.nd, sd.deep, sd.fit, (by show 2 ≤ sizeLine; decide), fun p hp => k p _ (same_new hp) (SqT.of upd_same)⟩
    · refine ⟨false, D.m_DM, no', fun _ => ⟨false, D.m_DR, no', fun _ => ⟨false, D.m_DN, no', fun _ => ⟨true, D.m_DD, fun _ x hx => ?_, no⟩⟩⟩⟩
      exact ⟨_, rfl, rfl, rfl, dd, _, _, rfl, hd, rfl, _, dt, rfl, sd.dp, sd.sh, sd.nd, sd.deep, sd.fit, (by show 2 ≤ sizeLine; decide), fun p hp => k p _ (same_new hp) (SqT.of upd_same)⟩
/-- what a def that hears lambdas must know: c, Pt its code object and table -/
structure HF (X : Cx) (a : Ad) (cW : Addr) (Ts : List (Addr × Str)) (g : Addr) (fdg : FuncData) (c Pt : Addr) (st : Stmt) : Prop where
  FH : FnP X.K "_law_heard" s_law_heard g fdg
  gH : X.mg "_law_heard" = some (.ref g)
  bH : Binds X.K fdg ["ask"] []
  T : Mg X.mg
  D : Hd X.K X.mg a cW
  lone : Lone X.A
  TB : LamX.TabB X.base X.mg c Pt
  code : X.env.code = .ref c
  sc : X.env.scope = defScope st
  mem : (Pt, X.env.qual ++ "<lambda>") ∈ Ts
  only : ∀ p ∈ Ts, p.1 = Pt → p.2 = X.env.qual ++ "<lambda>"
theorem pe_heard {X : Cx} {a : Ad} {cW : Addr} {Ts : List (Addr × Str)} {g : Addr} {fdg : FuncData} {c Pt : Addr} {st : Stmt} {k : Nat} {params : Arguments} {body : Expr} {scope : Scope} {t : XK → TE} {p lpos pos : Pos} (h : HF X a cW Ts g fdg c Pt st) (hr : Room (k + 2) X.A)
    (hbody : ∀ (A : Around) (outer : List Env) (s : Shared) (H : Hp) (E : XK) (f c' : Addr), Room k (A.deeper (LamX.lamEnv X scope s.heap.objs.size f c')) → PE (LamX.lamCx X A outer s H E scope f c') body (t E))
    (hg : Gl X "_law_heard" := by rfl) (hL : LamX.lamSB (defScope st) scope = true := by decide +kernel) (hdef : defaultsOf params X.env = ([], []) := by rfl)
    (hbind : ∀ (q : Str) (cl : List (Str × Addr)) (pm cv ctv : Value), bindArgs (PySem.W.kla_fn "<lambda>" q params body scope cl pm cv ctv) ⟨[], []⟩ = pure [] := by intros; rfl) :
    PE X (.Call (.Name "_law_heard" p) [.Lambda params body scope lpos] [] pos) (LamX.tLam Ts (TTh X.K a) t) := by
  obtain ⟨oc, od, dV, kV, doc, pm, an, cdv, ct, osl, rfl, lk, hcd, -, -⟩ := h.FH.ex
  exact LamX.pe_lamcall (k := k) hg h.gH h.FH.kp lk hcd h.bH sc_law_heard rfl (.inl rfl) (heard_gives h.T h.D h.lone hr) h.TB h.code h.mem h.only hr (by rw [h.sc]; exact LamX.lamS_by hL) hdef hbind hbody
/-- an error that is raised is heard -/
theorem passL {X : Cx} {A : Around} {outer : List Env} {s : Shared} {H : Hp} {E : XK} {scope : Scope} {f c' : Addr} : Passes (L2.CX (LamX.lamCx X A outer s H E scope f c').prog (LamX.lamCx X A outer s H E scope f c').w) (LamX.lamCx X A outer s H E scope f c') E :=
  passes_call (takes_of (E := E) rfl rfl rfl rfl) (fun _ _ _ _ z => z)
end
end K1
/-! set(xs), xs a list of whole numbers -/
namespace Kx
open L2 PySem PySem.Spec PySem.Calls PyProof.Rows
/-- a set that is new -/
abbrev set0 (w : World) : Obj := { cls := .type "set", dict := none, data := .set #[] 0 (.fresh 0 0 (!w.params.followText "set-order")) }
section
variable {P : Program} {w : World} {A : Around} {E : Value → Shared → Prop} {s : Shared}
theorem set_of_list {l : Addr} {items : Array Value} (ns : List Int) {Q : Value → Shared → Prop} (calm : A.handled = none) (isL : s.heap.IsList l items) (are : IntsAre items.toList ns) (room : ns.length + 1 < scanBound)
    (h : ∀ (h' : Heap) (tk c : Nat), SetR w h' s.heap.objs.size (fun j => decide (j ∈ ns)) c → c ≤ ns.length → (∀ b o, s.heap.get? b = some o → h'.get? b = some o) → Q (.ref s.heap.objs.size) { s with heap := h', toks := tk }) : wpAny (model P w) A (call (.type "set") [.ref l]) Q E s := by
  have size : items.size = ns.length := by have q := are.length; rwa [Array.length_toList] at q
  obtain ⟨_, _, line⟩ := F.called_set.mro
  have made := F.called_set.made
  have subs := F.called_set.sub
  refine wpAny_call (codeAny_of_tree (show wpAny _ _ (callAny (.type "set") _) _ _ _ from wpAny_pure ⟨Code.quiet_builtin _ (by decide +kernel), codeAny_builtin F.entry_type_call ?_⟩))
  rw [Around.under_plain (weight_type_call_type "set" [.ref l] []) rfl]
  have notT := F.called_set.notType
  have can := F.called_set.canCreate
  have tcall := F.typeCall_set_1 (.ref l)
  repeat (any_goals (first | assumption | wp_step))
  refine codeAny_mono (code_set_led1 (.ref l) (E := E) (Q₁ := fun v t => v = .ref s.heap.objs.size ∧ t = { s with heap := s.heap.push (set0 w) }) ⟨rfl, rfl⟩) fun r t hr => ?_
  match r, hr with
  | .error e, hr => exact hr
  | .ok .next, hr => exact hr.elim
  | .ok .brk, hr => exact hr.elim
  | .ok .cont, hr => exact hr.elim
  | .ok (.ret obj), hr =>
    obtain ⟨rfl, rfl⟩ := hr
    have new : (s.heap.push (set0 w)).get? s.heap.objs.size = some (set0 w) := Heap.get?_push_size _ rfl
    have isS : Shared.TypeIs { s with heap := s.heap.push (set0 w) } (.ref s.heap.objs.size) "set" := ⟨_, new, rfl⟩
    have look := F.called_set.init.lookup
    have bnd := F.called_set.init.bind (.ref s.heap.objs.size)
    repeat (any_goals (first | assumption | wp_step))
    refine codeAny_mono (codeAny_call_builtin (R := wants (fun r t => r = .none ∧ ∃ h' tk c, t = { s with heap := h', toks := tk } ∧ SetR w h' s.heap.objs.size (fun j => decide (j ∈ ns)) c ∧ c ≤ ns.length ∧ (∀ b o, s.heap.get? b = some o → h'.get? b = some o)) E)
      F.called_set.init.plain F.entry_set_init (check_set_init_1 isS ?_)) fun r t hr => ?_
    · obtain ⟨⟨oc, od, dt, sl⟩, at_, e1, n, e2⟩ := isL
      simp only at e1 e2
      subst e1 e2
      have there : (s.heap.push (set0 w)).get? l = some { cls := .type "list", dict := od, data := .seq items n, slots := sl } := Heap.get?_push_of_some _ at_
      have sub1 := F.sub_list_set
      have sub2 := F.sub_list_frozenset
      have noD : (Value.type "list" == Value.type "dict") = false := by decide
      have isL1 : (s.heap.push (set0 w)).IsList l items := ⟨_, there, rfl, n, rfl⟩
      unfold Builtin.«set.__init__» noKeywords Builtin.Frozenset.updateFrom
      generalize gi : pyIter = it
      wp_walk
      subst gi
      refine wpAny_pyIter_list isL1 (wpAny_bind (wpAny_runValue ?_))
      have lt := Heap.lt_size at_
      have z1 : (s.heap.push (set0 w)).objs.size = s.heap.objs.size + 1 := Heap.size_push ..
      have ne1 : l ≠ (s.heap.push (set0 w)).objs.size := by rw [z1]; exact Nat.ne_of_lt (Nat.lt_succ_of_lt lt)
      refine set_update_ints ((Walks.list (show A.in1.in1.in1.handled = none by simp [calm]) _ l ne1 items).toS) s.heap.objs.size (by rw [z1]; simp only [List.mem_cons, List.not_mem_nil, or_false, not_or]; exact ⟨Nat.ne_of_lt (Nat.lt_succ_self _), Nat.ne_of_gt lt⟩) ns size room (fun i v hv => ?_) (items.size - 0) 0 _ (by omega) (Nat.zero_le _)
        ⟨⟨_, Heap.get?_push_size _ rfl, rfl, rfl⟩, (isL1.push _)⟩ ⟨0, Nat.le_refl 0, setR_new_at (Heap.get?_push_of_some _ new)⟩ fun t c moved le set => ?_
      · have hi : i < ns.length := by rw [← size]; exact (Array.getElem?_eq_some_iff.mp hv).1
        obtain ⟨tk, e⟩ := IntsAre.int_at are i v (by rw [Array.getElem?_toList]; exact hv)
        exact ⟨ns[i], tk, List.getElem?_eq_getElem hi, by rw [e, List.getD_eq_getElem?_getD, List.getElem?_eq_getElem hi] <;> rfl⟩
      · obtain ⟨h', g2, d2, tk, os2⟩ := t
        have eg : g2 = s.gens := moved.gens
        have ed : d2 = s.drawn := moved.drawn
        have eo : os2 = s.os := moved.os
        subst eg ed eo
        refine wpAny_pure (show wpAny _ _ (ret Value.none) _ _ _ from ?_)
        rw [size] at le
        refine wpAny_pure ⟨rfl, h', tk, c, rfl, set, le, fun b o e => moved.heap b o ?_ (Heap.get?_push_of_some _ (Heap.get?_push_of_some _ e))⟩
        have := Heap.lt_size e
        simp only [List.mem_cons, List.not_mem_nil, or_false, not_or]
        rw [z1]
        exact ⟨Nat.ne_of_lt this, Nat.ne_of_lt (Nat.lt_succ_of_lt this)⟩
    · match r, hr with
      | .error e, hr => exact hr
      | .ok .next, hr => exact hr.elim
      | .ok .brk, hr => exact hr.elim
      | .ok .cont, hr => exact hr.elim
      | .ok (.ret r), hr =>
        obtain ⟨rfl, h', tk, c, rfl, set, le, keep⟩ := hr
        repeat (any_goals (first | assumption | wp_step))
        exact h _ _ _ set le keep
end
/-- set(xs): at most 60 numbers -/
theorem call_setI {X : Cx} (hc : X.calm = true) : CallR X (.type "set") (fun xs H Q => ∃ (l : Addr) (ns : List Int), xs = [.ref l] ∧ SqL X.K H l (ns.map V.int) ∧ ns.length ≤ 60 ∧ ∀ p c, H p = none → c ≤ ns.length → Q (.ref p) (upd H p (SetO X.w p (fun j => decide (j ∈ ns)) c))) := by
  intro pins s σ H vs us Q I r h
  obtain ⟨l, ns, rfl, hl, len, q⟩ := h
  rw [Vals.ref1 r]
  obtain ⟨its, rv, pl, _⟩ := I.list hl
  refine set_of_list ns (I.ok.hd hc) pl.isList (by simpa using rv.ints) (by unfold scanBound; omega) fun h' tk c set le keep => ?_
  exact ⟨.ref s.heap.objs.size, upd H s.heap.objs.size (SetO X.w s.heap.objs.size (fun j => decide (j ∈ ns)) c), I.laid (t' := tk) keep (Nat.le_refl _) (setO_new set), rfl, q _ c (I.hok.fresh (Nat.le_refl _)) le⟩
end Kx
/-! the program's functions and classes, as the law calls them -/
namespace K1
open L2 PySem PySem.Spec PyProof.Rows Kx RZ
def kw1 : List V → List V → List V := fun _ zs => [zs.getD 0 .non]
def kw2 : List V → List V → List V := fun _ zs => [zs.getD 1 .non, zs.getD 0 .non]
def kw3 : List V → List V → List V := fun _ zs => [zs.getD 1 .non, zs.getD 0 .non, zs.getD 2 .non]
/-- led(row=, state=, machine=) -/
def kwL : List V → List V → List V := fun _ zs => [zs.getD 2 .non, zs.getD 1 .non, zs.getD 0 .non]
def kwM : List V → List V → List V := fun vs zs => vs ++ [zs.getD 0 .non]
structure Fns (P : Program) (w : World) (K : PySem.W.Frag) (mg : Str → Option Value) (base : Heap) (a : Ad) (CM : Addr) : Prop where
  take : Cal P w K mg base CX0 1 "_law_take" ["box", "many"] spTake
  pick : Cal P w K mg base CX0 2 "_law_pick" ["box", "some"] (spPick K)
  run : Cal P w K mg base CX0 1 "_law_run" ["tables", "start", "log"] (spRun K)
  log : Cal P w K mg base CX0 2 "_law_log" ["box", "tables", "most"] (spLog K)
  others : Cal P w K mg base CX0 2 "_law_others" ["box", "tables"] (spOthers K)
  state : Cal P w K mg base (L2.CX P w) 3 "need_state" ["machine", "state"] (spState K a CM)
  stateK : CalN P w K mg base (L2.CX P w) 3 0 "need_state" ["machine", "state"] ["state", "machine"] kw2 (spState K a CM)
  deed : Cal P w K mg base (L2.CX P w) 3 "need_deed" ["machine", "deed"] (spDeed K a CM)
  deedK : CalN P w K mg base (L2.CX P w) 3 0 "need_deed" ["machine", "deed"] ["deed", "machine"] kw2 (spDeed K a CM)
  row : Cal P w K mg base (L2.CX P w) 5 "check_row" ["machine", "value"] (spRow K a CM)
  rowK : CalN P w K mg base (L2.CX P w) 5 0 "check_row" ["machine", "value"] ["value", "machine"] kw2 (spRow K a CM)
  led : Cal P w K mg base (L2.CX P w) 6 "led" ["machine", "state", "row"] (spLed K a CM)
  ledK : CalN P w K mg base (L2.CX P w) 6 0 "led" ["machine", "state", "row"] ["row", "state", "machine"] kwL (spLed K a CM)
  rch : Cal P w K mg base (L2.CX P w) 6 "reached" ["machine", "first"] (spReached K a CM)
  rchK : CalN P w K mg base (L2.CX P w) 6 0 "reached" ["machine", "first"] ["first", "machine"] kw2 (spReached K a CM)
/-- how the class is made, compared -/
structure Mks (P : Program) (w : World) (K : PySem.W.Frag) (mg : Str → Option Value) (base : Heap) (a : Ad) (CM : Addr) : Prop where
  mac : ∃ (f : Addr) (fd : FuncData), Mk K CM f ∧ FnOk P w K mg base (L2.CX P w) 5 f fd ["self", "tables"] (spMachine K a CM) ∧ Binds K fd ["self", "tables"] [] ∧ ∃ g, KBn K fd ["self", "tables"] 1 ["tables"] g kwM
  eq : ∃ (f : Addr) (fd : FuncData), EqC K CM f ∧ Binds K fd ["self", "other"] [] ∧ FnOk P w K mg base CX0 1 f fd ["self", "other"] (spEqM K CM)
/-- nothing is raised here -/
theorem pz {X : Cx} : Passes (L2.CX X.prog X.w) X fun _ _ _ => False := passes_call LamX.takes0 fun _ _ _ _ z => z
section
variable {X : Cx} {a : Ad} {CM : Addr} {E : XK} {p pos : Pos} {e : Expr} {t tk : TA} {kws : List Keyword} {n : Nat}
theorem pe_mac (M : Mks X.prog X.w X.K X.mg X.base a CM) (TM : ClsM X.K X.mg CM) (hr : Room n X.A) (hx : Passes (L2.CX X.prog X.w) X E) (ha : PA X [e] t) (hn : 6 ≤ n := by decide) (hg : Gl X "Machine" := by rfl)
    (he : starEach [e] X.env = (false, eval e X.env) :: starEach [] X.env := by rfl) (hp : (backTo pos (starEach [] X.env)).any (·.1) = false := by rfl) {K : PySem.W.Frag} (hK : X.K = K := by rfl) : PE X (.Call (.Name "Machine" p) [e] [] pos) (tMake CM (spMachine K a CM) [] E t) := by
  subst hK
  obtain ⟨f, fd, h1, h2, h3, _⟩ := M.mac
  exact pe_make h1 h2 (hr.mono hn) hg TM.at_ h3 .nil hx ha (by decide) he hp
theorem pe_macK (M : Mks X.prog X.w X.K X.mg X.base a CM) (TM : ClsM X.K X.mg CM) (hr : Room n X.A) (hx : Passes (L2.CX X.prog X.w) X E) (hkw : PK X kws tk) (hn : 6 ≤ n := by decide) (hg : Gl X "Machine" := by rfl)
    (hal : (backToKw pos (keywordEach kws X.env)).all (·.1.isSome) = true := by rfl) (hks : (backToKw pos (keywordEach kws X.env)).filterMap (·.1) = (["tables"] : List Str) := by rfl)
    (hp : ((backTo pos (starEach [] X.env)).any (·.1) || (backToKw pos (keywordEach kws X.env)).any (·.1.isNone)) = false := by rfl) : PE X (.Call (.Name "Machine" p) [] kws pos) (tMakeK CM 0 1 (spMachine X.K a CM) kwM E tNil tk) := by
  obtain ⟨f, fd, h1, h2, _, g, h3⟩ := M.mac
  exact pe_makeK0 h1 h2 (hr.mono hn) hg TM.at_ h3 hx hkw hal hks (by decide) hp
/-- m == d, both machines, or a tuple -/
def rMc (K : PySem.W.Frag) (CM : Addr) : R2 := fun x y H Q => ∃ m n ts d, x = .ref m ∧ y = .ref d ∧ McAt K CM H m n ts ∧ ((∃ n' ts', McAt K CM H d n' ts' ∧ ∀ H', Same H H' → Q (.bl (decide (ts = ts'))) H') ∨ ((∃ xs, SqT K H d xs) ∧ ∀ H', Same H H' → Q (.bl false) H'))
theorem op_eqMc (M : Mks X.prog X.w X.K X.mg X.base a CM) (TM : ClsM X.K X.mg CM) (hr : Room n X.A) (hn : 2 ≤ n := by decide) {K : PySem.W.Frag} (hK : X.K = K := by rfl) : OpR X (compareOp .Eq) (rMc K CM) := by
  subst hK
  obtain ⟨f, fd, h1, h2, h3⟩ := M.eq
  intro pins st σ H x y v u Q I rx ry ⟨m, n, ts, d, ex, ey, hm, how⟩
  obtain ⟨_, dx, t, ps, c1, _⟩ := id hm
  refine own_eq h3 h1 h2 (hr.mono (by omega)) pass0 pins st σ H x y v u Q I rx ry ⟨m, d, dx, _, ex, ey, c1, ?_, m, n, ts, d, by rw [ex, ey], hm, ?_⟩
  · rcases how with ⟨n', ts', hd, _⟩ | ⟨hd, _⟩
    · obtain ⟨_, dy, t', ps', d1, _⟩ := id hd
      exact .inl ⟨dy, _, d1⟩
    · exact .inr ⟨rfl, hd, TM.first⟩
  · rcases how with ⟨n', ts', hd, k⟩ | ⟨hd, k⟩
    · exact .inl ⟨n', ts', hd, fun H' e => ⟨_, rfl, by rw [Bool.false_bne]; exact k H' e⟩⟩
    · exact .inr ⟨hd, fun H' e => ⟨_, rfl, k H' e⟩⟩
end
/-! a machine is made of these tables -/
theorem kns_ints {K : PySem.W.Frag} {H : Hp} {ns : List Int} {m : Nat} : Kns K H (some (ns.map V.int)) m := fun xs q _ x hx => by
  cases q
  obtain ⟨n, _, rfl⟩ := List.mem_map.mp hx
  exact .int n
theorem items_of {K : PySem.W.Frag} {H : Hp} : ∀ {vs : List V} {ts : List (List Int)}, RowsBy (Sq K H) vs ts → Items K H vs (ts.map fun t => some (t.map V.int))
  | [], [], _ => trivial
  | _ :: _, _ :: _, ⟨⟨q, h1, h2⟩, h⟩ => ⟨⟨by rw [h1]; exact .seq h2, kns_ints⟩, items_of h⟩
  | [], _ :: _, h => h.elim
  | _ :: _, [], h => h.elim
theorem isTab_of {n : Nat} {t : List Int} (n1 : 1 ≤ n) (n8 : n ≤ 8) (l : t.length = n) (b : ∀ x ∈ t, 0 ≤ x ∧ x < (n : Int)) : isTab n (some (t.map V.int)) = true := by
  rw [isTab_some, inLen_some, List.length_map, l, fnb_of b, decide_eq_true (by omega), decide_eq_true (by omega)]
  simp
theorem new_ins {C x dx : Addr} {H : Hp} (hx : H x = none) (hd : H dx = none) (ne : dx ≠ x) : Same H (upd (upd H dx (.own x)) x (.ins C dx [])) := (same_new hd).trans (same_new (by rw [upd_ne (Ne.symm ne)]; exact hx))
theorem mc_make {K : PySem.W.Frag} {a : Ad} {CM x dx b : Addr} {H : Hp} {xs : List V} {n : Nat} {ts : List (List Int)} {E : XK} {Q : Hp → Prop} (ok : Mok n ts) (hb : Sq K H b xs) (rows : RowsBy (Sq K H) xs ts) (hx : H x = none) (hd : H dx = none) (ne : dx ≠ x)
    (q : ∀ H', Same H H' → McAt K CM H' x n ts → Q H') : spMachine K a CM [.ref x, .ref b] (upd (upd H dx (.own x)) x (.ins CM dx [])) (fun v H2 => v = .non ∧ Q H2) E := by
  have e := new_ins (C := CM) hx hd ne
  have len := rows.length
  have l1 := ok.l1
  have l4 := ok.l4
  have it := items_of (rows.imp fun _ _ z => z.same e)
  have l0 : lenAt (ts.map fun t => some (t.map V.int)) = n := by
    obtain ⟨t0, ht0⟩ : ∃ t0, ts[0]? = some t0 := ⟨ts[0], List.getElem?_eq_getElem (by omega)⟩
    unfold lenAt
    rw [List.getElem?_map, ht0]
    show (t0.map V.int).length = n
    rw [List.length_map]
    exact ok.len _ (List.mem_of_getElem? ht0)
  have nb : badTab n (ts.map fun t => some (t.map V.int)) = none := badTab_none.mpr fun o ho => by
    obtain ⟨t, ht, rfl⟩ := List.mem_map.mp ho
    exact isTab_of ok.n1 ok.n8 (ok.len t ht) (ok.ent t ht)
  refine ⟨x, dx, .ref b, some xs, rfl, upd_same, .seq (hb.same e), fun z => ?_, fun ys ey _ => ?_⟩
  · rw [inLen_some, decide_eq_true (by omega), decide_eq_true (by omega)] at z
    cases z
  · cases ey
    refine ⟨_, it, fun i z => ?_, fun _ n' ts' ok' eo H' keep mc => ?_⟩
    · rw [l0, nb] at z
      cases z
    · have et := ints_map eo
      subst et
      have en : n' = n := by
        obtain ⟨t0, ht0⟩ : ∃ t0, ts[0]? = some t0 := ⟨ts[0], List.getElem?_eq_getElem (by omega)⟩
        rw [← ok.len _ (List.mem_of_getElem? ht0), ok'.len _ (List.mem_of_getElem? ht0)]
      subst en
      exact ⟨rfl, q H' (fun c o hc => keep c o (ne_of_none hc hx) (e _ _ hc)) mc⟩
end K1
/-! all that is reached, by rounds -/
namespace K1
open L2 PySem PySem.Spec PyProof.Rows Kx
theorem sub_len : ∀ {A B : List Int}, A.Nodup → (∀ x ∈ A, x ∈ B) → A.length ≤ B.length
  | [], _, _, _ => Nat.zero_le _
  | x :: A, B, nd, h => by
    obtain ⟨n1, n2⟩ := List.nodup_cons.mp nd
    have hx := h x (List.mem_cons_self ..)
    have e := List.length_erase_of_mem hx
    have := sub_len (B := B.erase x) n2 fun y hy => (List.mem_erase_of_ne (show y ≠ x from fun z => n1 (by rw [← z]; exact hy))).mpr (h y (List.mem_cons_of_mem _ hy))
    have := List.length_pos_of_mem hx
    rw [List.length_cons]
    omega
def Closed (ts : List (List Int)) (L : List Int) : Prop := ∀ x ∈ L, ∀ d, d < ts.length → nx ts d x ∈ L
theorem nodup_lt {L : List Int} (h : L.Pairwise (· < ·)) : L.Nodup := h.imp fun h => Int.ne_of_lt h
theorem mem_eq {A B : List Int} (ha : A.Pairwise (· < ·)) (hb : B.Pairwise (· < ·)) (h : ∀ x, x ∈ A ↔ x ∈ B) : A = B := by
  induction A generalizing B with
  | nil => cases B with
    | nil => rfl
    | cons b B => exact absurd ((h b).mpr (List.mem_cons_self ..)) (by simp)
  | cons a A ih => cases B with
    | nil => exact absurd ((h a).mp (List.mem_cons_self ..)) (by simp)
    | cons b B =>
      obtain ⟨a1, a2⟩ := List.pairwise_cons.mp ha
      obtain ⟨b1, b2⟩ := List.pairwise_cons.mp hb
      have e : a = b := by
        rcases List.mem_cons.mp ((h a).mp (List.mem_cons_self ..)) with e | e
        · exact e
        · rcases List.mem_cons.mp ((h b).mpr (List.mem_cons_self ..)) with e2 | e2
          · exact e2.symm
          · have := b1 a e
            have := a1 b e2
            omega
      subst e
      congr 1
      refine ih a2 b2 fun x => ⟨fun hx => ?_, fun hx => ?_⟩
      · rcases List.mem_cons.mp ((h x).mp (List.mem_cons_of_mem _ hx)) with e | e
        · have := a1 x hx
          omega
        · exact e
      · rcases List.mem_cons.mp ((h x).mpr (List.mem_cons_of_mem _ hx)) with e | e
        · have := b1 x hx
          omega
        · exact e
/-- found so far: k rounds -/
structure Rnd (ts : List (List Int)) (s : Int) (k : Nat) (L : List Int) : Prop where
  srt : L.Pairwise (· < ·)
  st : s ∈ L
  rch : ∀ x ∈ L, Rch ts s x
  grown : Closed ts L ∨ k + 1 ≤ L.length
/-- within a round: j tables done, L0 found ahead -/
structure Mid (ts : List (List Int)) (s : Int) (L0 : List Int) (j : Nat) (L : List Int) : Prop where
  srt : L.Pairwise (· < ·)
  sub : ∀ x ∈ L0, x ∈ L
  rch : ∀ x ∈ L, Rch ts s x
  done : ∀ x ∈ L0, ∀ d, d < j → nx ts d x ∈ L
theorem Rnd.zero {ts : List (List Int)} {s : Int} : Rnd ts s 0 [s] := ⟨by simp, by simp, fun x hx => by rw [List.mem_singleton.mp hx]; exact .refl, .inr (Nat.le_refl _)⟩
theorem Rnd.mid {ts : List (List Int)} {s : Int} {k : Nat} {L : List Int} (r : Rnd ts s k L) : Mid ts s L 0 L := ⟨r.srt, fun _ h => h, r.rch, fun _ _ _ h => absurd h (Nat.not_lt_zero _)⟩
theorem Mid.step {ts : List (List Int)} {s : Int} {L0 L L' : List Int} {j : Nat} (m : Mid ts s L0 j L) (hj : j < ts.length) (srt : L'.Pairwise (· < ·)) (mem : ∀ x, x ∈ L' ↔ x ∈ L ++ L.map (nx ts j)) : Mid ts s L0 (j + 1) L' where
  srt := srt
  sub := fun x hx => (mem x).mpr (List.mem_append_left _ (m.sub x hx))
  rch := fun x hx => by
    rcases List.mem_append.mp ((mem x).mp hx) with h | h
    · exact m.rch x h
    · obtain ⟨y, hy, rfl⟩ := List.mem_map.mp h
      exact (m.rch y hy).step hj
  done := fun x hx d hd => by
    rcases Nat.lt_or_eq_of_le (Nat.le_of_lt_succ hd) with h | rfl
    · exact (mem _).mpr (List.mem_append_left _ (m.done x hx d h))
    · exact (mem _).mpr (List.mem_append_right _ (List.mem_map_of_mem (m.sub x hx)))
theorem Mid.end_ {ts : List (List Int)} {s : Int} {L0 L : List Int} {k : Nat} (r : Rnd ts s k L0) (m : Mid ts s L0 ts.length L) : Rnd ts s (k + 1) L := by
  refine ⟨m.srt, m.sub _ r.st, m.rch, ?_⟩
  by_cases cl : Closed ts L0
  · have back : ∀ x ∈ L, x ∈ L0 := fun x hx => by
      obtain ⟨row, h1, e⟩ := m.rch x hx
      rw [e]
      exact closed_all (fun y hy d hd => cl y hy d hd) r.st h1
    exact .inl fun x hx d hd => m.sub _ (cl x (back x hx) d hd)
  · have k1 : k + 1 ≤ L0.length := r.grown.resolve_left cl
    obtain ⟨x, hx⟩ := Classical.not_forall.mp cl
    obtain ⟨hx, h2⟩ := Classical.not_imp.mp hx
    obtain ⟨d, h3⟩ := Classical.not_forall.mp h2
    obtain ⟨hd, no⟩ := Classical.not_imp.mp h3
    have nd : (nx ts d x :: L0).Nodup := List.nodup_cons.mpr ⟨no, nodup_lt r.srt⟩
    have := sub_len nd fun y hy => (List.mem_cons.mp hy).elim (fun e => e ▸ m.done x hx d hd) (m.sub y)
    rw [List.length_cons] at this
    exact .inr (by omega)
theorem Rnd.all {n : Nat} {ts : List (List Int)} (ok : Mok n ts) {s : Int} {L : List Int} (s0 : 0 ≤ s) (s1 : s < n) (r : Rnd ts s n L) (x : Int) : x ∈ L ↔ Rch ts s x := by
  have len := len_le (nodup_lt r.srt) fun y hy => ok.rch s0 s1 (r.rch y hy)
  have cl : Closed ts L := r.grown.resolve_right (by omega)
  exact ⟨r.rch x, fun ⟨row, h1, e⟩ => by rw [e]; exact closed_all (fun y hy d hd => cl y hy d hd) r.st h1⟩
end K1
/-! what is told of a machine is right -/
namespace K1
open L2 PySem PySem.Spec PyProof.Rows Kx RZ
theorem call_listK {X : Cx} {K : PySem.W.Frag} (hK : X.K = K := by rfl) : CallR X (.type "list") (fun xs H Q => ∃ p ys, xs = [.ref p] ∧ (SqL K H p ys ∨ SqT K H p ys) ∧ ∀ l, H l = none → Q (.ref l) (upd H l (.lst ys))) := by
  subst hK
  exact call_list_of
theorem ix_tupK {X : Cx} {K : PySem.W.Frag} (hK : X.K = K := by rfl) : IxR X (rIxT K) := by
  subst hK
  exact ix_tup
theorem _root_.Kx.OkD.d60 {m L : Nat} {d : PyData} (o : OkD m L d) (hm : m ≤ 60 := by decide) : d.depth ≤ 60 := Nat.le_trans o.deep hm
theorem _root_.Kx.OkD.line {m L : Nat} {d : PyData} (o : OkD m L d) (hL : L ≤ 16777216 := by decide) : d.shown.length ≤ sizeLine := by rw [sizeLine_eq]; exact Nat.le_trans o.fit hL
abbrev sgD (b Fa : Addr) (x2 x3 x4 x5 x6 x7 x8 x9 x10 x11 x12 x13 x14 x15 : Option V) : L2.St := [some (.ref b), some (.ref Fa), x2, x3, x4, x5, x6, x7, x8, x9, x10, x11, x12, x13, x14, x15]
theorem row_good {l : Nat} {row : List Int} (h : RowOk l row) (le : row.length ≤ 400) : rowAt l (some (row.map V.int)) = none := by
  show (if (row.map V.int).length ≤ 400 then (fnb l (row.map V.int)).map (fun (i : Nat) => (i : Int)) else some (-1)) = none
  rw [if_pos (by rw [List.length_map]; exact le), fnb_of h]
  rfl
theorem shaped_nil : SeqAt.shaped (.list []) = true := by
  unfold SeqAt.shaped
  simp only [PyData.canLay0, PyData.canLayAll0, PyData.depth, PyData.depthAll]
  decide
def spTold (K : PySem.W.Frag) : Sp := fun vs H Q _ => ∃ (b F : Addr) (t : Int × Int × Int) (ps : List V) (n : Nat) (ts : List (List Int)), vs = [.ref b, .ref F] ∧ H b = some (bx t) ∧ F ≠ b ∧ H F = some (.lst ps) ∧ RowsBy (SqT K H) ps ts ∧ Mok n ts ∧ n ≤ 5 ∧ ∀ H', Mv b H H' → Q (.bl true) H'
section
variable {P : Program} {w : World} {K : PySem.W.Frag} {mg : Str → Option Value} {base : Heap} {f : Addr} {fd : FuncData} {a : Ad} {CM : Addr}
theorem sc_law_told_right : FnScope ["box", "tables", "handed", "many", "machine", "first", "turn", "row", "state", "due", "found", "more", "table", "told", "other", "here"] ["box", "tables"] (defScope s_law_told_right) := ⟨rfl, rfl, rfl, by decide +kernel, rfl, by decide +kernel, by decide +kernel⟩
theorem ok_told (F : FnP K "_law_told_right" s_law_told_right f fd) (T : Mg mg) (TM : ClsM K mg CM) (B : Fns P w K mg base a CM) (M : Mks P w K mg base a CM) : FnG P w K mg base CX0 8 f fd ["box", "tables"] (spTold K) := by
  refine okG F sc_law_told_right (fun vs H Q E h => ?_) (fun cdv A outer s H vs Q E lone _ hr h => ?_)
  · obtain ⟨b, F, t, ps, n, ts, rfl, _⟩ := h
    rfl
  · obtain ⟨b, Fa, t, ps, n, ts, rfl, hb, Fb, hF, rows, ok, n5, k⟩ := h
    have cs : CallR (cxOf CX0 P w K mg base ["box", "tables", "handed", "many", "machine", "first", "turn", "row", "state", "due", "found", "more", "table", "told", "other", "here"] "_law_told_right" (defScope s_law_told_right) f cdv A outer s H E).nox (.builtin "repr") (rShow K) := call_show lone (r64 hr)
    refine ⟨_, PSs.nox (pss_cons (ps_mid (ps_par (i := 2) (j := 3) (by rfl) sc_law_told_right.nd rfl rfl (by decide) rfl rfl (pa_cons (pe_lc (own := [("table", 12)]) (by rfl) sc_law_told_right.nd (pi_list (pv 1)) (blkOk_by (own := [("table", 12)]) (N := ["box", "tables", "handed", "many", "machine", "first", "turn", "row", "state", "due", "found", "more", "table", "told", "other", "here"]) (sc := defScope s_law_told_right) (by decide +kernel)) (fun _ _ _ _ _ => (pg_name (i := 12) sc_law_told_right.nd rfl (by first | exact Or.inl rfl | exact Or.inr rfl))) (fun _ _ _ _ _ => pts_nil) (fun _ _ _ _ _ => (pe_callTy (call_listK (K := K)) (by rfl) T.z_list (by decide +kernel) (pa_cons (pv 12) pa_nil)))) (pa_cons (pe_callB call_len_seq (by rfl) T.z_len PySem.boot_len (pa_cons (pe_ix ix_list (pv 1) pe_int (fun _ _ => rfl)) pa_nil)) pa_nil)) (by rfl)))
      (pss_cons (ps_mid (ps_set (i := 4) sc_law_told_right.nd rfl (by first | exact Or.inl rfl | exact Or.inr rfl) (pe_ifExp (pt_cmpR op_eq (pe_callC B.take hr pass0 (pa_cons (pv 0) (pa_cons pe_int pa_nil))) pe_int (nomark _)) (pe_mac (K := K) M TM hr pz (pa_cons (pv 2) pa_nil)) (pe_macK M TM hr pz (pk_cons (pe_callTy call_tup (by rfl) T.z_tuple (by decide +kernel) (pa_cons (pv 2) pa_nil)) pk_nil)))))
      (pss_cons (ps_set (i := 5) sc_law_told_right.nd rfl (by first | exact Or.inl rfl | exact Or.inr rfl) (pe_ix ix_list (pv 2) pe_int (fun _ _ => rfl)))
      (pss_cons (ps_mid (ps_asg pe_int (pg_sub (pv 5) pe_int set_list)))
      (pss_cons (ps_mid (ps_if (pt_cmpR op_ne (pe_callB cs (by rfl) T.z_repr (by decide +kernel) (pa_cons (pe_lst (pa_cons (pe_fld (pv 4) rfl) (pa_cons (pe_fld (pv 4) rfl) (pa_cons (pe_fld (pv 4) rfl) pa_nil)))) pa_nil)) (pe_callB cs (by rfl) T.z_repr (by decide +kernel) (pa_cons (pe_lst (pa_cons (pe_callB call_len_seq (by rfl) T.z_len PySem.boot_len (pa_cons (pv 1) pa_nil)) (pa_cons (pv 3) (pa_cons (pe_callTy call_tup (by rfl) T.z_tuple (by decide +kernel) (pa_cons (pv 1) pa_nil)) pa_nil)))) pa_nil)) (nomark _))
        (pss_one (ps_ret pe_bl))
        pss_nil))
      (pss_cons (ps_mid (ps_if (pt_cmpR op_ne (pe_callB cs (by rfl) T.z_repr (by decide +kernel) (pa_cons (pe_lst (pa_cons (pe_cmpR (op_eqMc (K := K) M TM hr) (pv 4) (pe_mac (K := K) M TM hr pz (pa_cons (pv 1) pa_nil)) (nomark _)) (pa_cons (pe_cmpR (op_eqMc (K := K) M TM hr) (pv 4) (pe_callTy call_tup (by rfl) T.z_tuple (by decide +kernel) (pa_cons (pv 1) pa_nil)) (nomark _)) pa_nil))) pa_nil)) (pe_callB cs (by rfl) T.z_repr (by decide +kernel) (pa_cons (pe_lst (pa_cons pe_bl (pa_cons pe_bl pa_nil))) pa_nil)) (nomark _))
        (pss_one (ps_ret pe_bl))
        pss_nil))
      (pss_cons (ps_mid (ps_if (pt_cmpR (op_neD (r64 hr)) (pe_lc (own := [("other", 14)]) (by rfl) sc_law_told_right.nd (pi_list (pe_callC B.others hr pass0 (pa_cons (pv 0) (pa_cons (pv 1) pa_nil)))) (blkOk_by (own := [("other", 14)]) (N := ["box", "tables", "handed", "many", "machine", "first", "turn", "row", "state", "due", "found", "more", "table", "told", "other", "here"]) (sc := defScope s_law_told_right) (by decide +kernel)) (fun _ _ _ _ _ => (pg_name (i := 14) sc_law_told_right.nd rfl (by first | exact Or.inl rfl | exact Or.inr rfl))) (fun _ _ _ _ _ => (pts_one (PW.pt (pw_or (pt_cmpR (op_eqMc (K := K) M TM hr) (pv 4) (pe_mac (K := K) M TM hr pz (pa_cons (pv 14) pa_nil)) (nomark _)) (pw_or1 (pt_cmpR (op_eqMc (K := K) M TM hr) (pe_mac (K := K) M TM hr pz (pa_cons (pv 14) pa_nil)) (pv 4) (nomark _))))))) (fun _ _ _ _ _ => (pv 14))) (pe_lst pa_nil) (nomark _))
        (pss_one (ps_ret pe_bl))
        pss_nil))
      (pss_cons (ps_mid (ps_for PassesOwn.never rfl (pi_range1 (by rfl) T.z_range (pa_cons pe_int pa_nil)) (pg_name (i := 6) sc_law_told_right.nd rfl (by first | exact Or.inl rfl | exact Or.inr rfl))
      (pss_cons (ps_mid (ps_par (i := 7) (j := 8) (by rfl) sc_law_told_right.nd rfl rfl (by decide) rfl rfl (pa_cons (pe_callC B.log hr pass0 (pa_cons (pv 0) (pa_cons (pv 1) (pa_cons pe_int pa_nil)))) (pa_cons (pe_callC B.take hr pass0 (pa_cons (pv 0) (pa_cons (pv 3) pa_nil))) pa_nil)) (by rfl)))
        (pss_cons (ps_set (i := 9) sc_law_told_right.nd rfl (by first | exact Or.inl rfl | exact Or.inr rfl) (pe_ix ix_list (pe_callC B.run hr pass0 (pa_cons (pv 1) (pa_cons (pv 8) (pa_cons (pv 7) pa_nil)))) (pe_un un_neg pe_int) (fun _ _ => rfl)))
        (pss_cons (ps_mid (ps_if (PW.pt (pw_or (pt_cmpR op_ne (pe_callB cs (by rfl) T.z_repr (by decide +kernel) (pa_cons (pe_callC B.led hr pz (pa_cons (pv 4) (pa_cons (pv 8) (pa_cons (pv 7) pa_nil)))) pa_nil)) (pe_callB cs (by rfl) T.z_repr (by decide +kernel) (pa_cons (pv 9) pa_nil)) (nomark _)) (pw_or1 (pt_cmpR op_ne (pe_callN0 B.ledK hr pz (pk_cons (pe_callTy call_list_of (by rfl) T.z_list (by decide +kernel) (pa_cons (pv 7) pa_nil)) (pk_cons (pv 8) (pk_cons (pv 4) pk_nil)))) (pv 9) (nomark _)))))
        (pss_one (ps_ret pe_bl))
        pss_nil))
        (pss_cons (ps_mid (ps_if (PW.pt (pw_or (pt_cmpR op_ne (pe_callB cs (by rfl) T.z_repr (by decide +kernel) (pa_cons (pe_callC B.row hr pz (pa_cons (pv 4) (pa_cons (pe_callTy call_list_of (by rfl) T.z_list (by decide +kernel) (pa_cons (pv 7) pa_nil)) pa_nil))) pa_nil)) (pe_callB cs (by rfl) T.z_repr (by decide +kernel) (pa_cons (pv 7) pa_nil)) (nomark _)) (pw_or1 (pt_cmpR (op_neNums (r64 hr)) (pe_callN0 B.rowK hr pz (pk_cons (pv 7) (pk_cons (pv 4) pk_nil))) (pv 7) (nomark _)))))
        (pss_one (ps_ret pe_bl))
        pss_nil))
        (pss_cons (ps_set (i := 10) sc_law_told_right.nd rfl (by first | exact Or.inl rfl | exact Or.inr rfl) (pe_lst (pa_cons (pv 8) pa_nil)))
        (pss_cons (ps_mid (ps_for PassesOwn.never rfl (pi_range1 (by rfl) T.z_range (pa_cons (pv 3) pa_nil)) (pg_name (i := 11) sc_law_told_right.nd rfl (by first | exact Or.inl rfl | exact Or.inr rfl))
        (pss_one (ps_for PassesOwn.never rfl (pi_list (pv 1)) (pg_name (i := 12) sc_law_told_right.nd rfl (by first | exact Or.inl rfl | exact Or.inr rfl))
          (pss_one (ps_set (i := 10) sc_law_told_right.nd rfl (by first | exact Or.inl rfl | exact Or.inr rfl) (pe_callB (cr_sortedSet rfl) (by rfl) T.z_sorted (by decide +kernel) (pa_cons (pe_callTy (call_setI rfl) (by rfl) T.z_set (by decide +kernel) (pa_cons (pe_op op_cat (pv 10) (pe_lc (own := [("here", 15)]) (by rfl) sc_law_told_right.nd (pi_list (pv 10)) (blkOk_by (own := [("here", 15)]) (N := ["box", "tables", "handed", "many", "machine", "first", "turn", "row", "state", "due", "found", "more", "table", "told", "other", "here"]) (sc := defScope s_law_told_right) (by decide +kernel)) (fun _ _ _ _ _ => (pg_name (i := 15) sc_law_told_right.nd rfl (by first | exact Or.inl rfl | exact Or.inr rfl))) (fun _ _ _ _ _ => pts_nil) (fun _ _ _ _ _ => (pe_ix (ix_tupK (K := K)) (pv 12) (pv 15) (fun _ _ => rfl))))) pa_nil)) pa_nil))))))))
        (pss_one (ps_mid (ps_if (PW.pt (pw_or (pt_cmpR op_ne (pe_callB cs (by rfl) T.z_repr (by decide +kernel) (pa_cons (pe_callC B.rch hr pz (pa_cons (pv 4) (pa_cons (pv 8) pa_nil))) pa_nil)) (pe_callB cs (by rfl) T.z_repr (by decide +kernel) (pa_cons (pe_callTy call_tup (by rfl) T.z_tuple (by decide +kernel) (pa_cons (pv 10) pa_nil)) pa_nil)) (nomark _)) (pw_or1 (pt_cmpR (op_neNums (r64 hr)) (pe_callN0 B.rchK hr pz (pk_cons (pv 8) (pk_cons (pv 4) pk_nil))) (pe_callTy call_tup (by rfl) T.z_tuple (by decide +kernel) (pa_cons (pv 10) pa_nil)) (nomark _)))))
        (pss_one (ps_ret pe_bl))
        pss_nil)))))))))))
      (pss_cons (ps_set (i := 13) sc_law_told_right.nd rfl (by first | exact Or.inl rfl | exact Or.inr rfl) (pe_lst (pa_cons (pe_callC B.state hr pz (pa_cons (pv 4) (pa_cons (pe_op op_sub (pv 3) pe_int) pa_nil))) (pa_cons (pe_callN0 B.stateK hr pz (pk_cons pe_int (pk_cons (pv 4) pk_nil))) (pa_cons (pe_callC B.deed hr pz (pa_cons (pv 4) (pa_cons (pe_op op_sub (pe_callB call_len_seq (by rfl) T.z_len PySem.boot_len (pa_cons (pv 1) pa_nil)) pe_int) pa_nil))) (pa_cons (pe_callN0 B.deedK hr pz (pk_cons pe_int (pk_cons (pv 4) pk_nil))) pa_nil))))))
      (pss_one (ps_ret (pe_cmpR op_eq (pe_callB cs (by rfl) T.z_repr (by decide +kernel) (pa_cons (pv 13) pa_nil)) (pe_callB cs (by rfl) T.z_repr (by decide +kernel) (pa_cons (pe_lst (pa_cons (pe_op op_sub (pv 3) pe_int) (pa_cons pe_int (pa_cons (pe_op op_sub (pe_callB call_len_seq (by rfl) T.z_len PySem.boot_len (pa_cons (pv 1) pa_nil)) pe_int) (pa_cons pe_int pa_nil))))) pa_nil)) (nomark _))))))))))))), ?_⟩
    have lps := rows.length
    have lt1 := ok.l1
    have lt4 := ok.l4
    have n1 := ok.n1
    have n8 := ok.n8
    obtain ⟨t0, ht0⟩ : ∃ t0, ts[0]? = some t0 := ⟨ts[0], List.getElem?_eq_getElem (by omega)⟩
    have ln0 : t0.length = n := ok.len _ (List.mem_of_getElem? ht0)
    have k0 : Kp K b Fa ps ts H H := ⟨.refl hb, hF, rows⟩
    let Hs : Addr → Hp → Addr → List V → Prop := fun D H' q xs => H' q = some (.lst xs) ∧ H q = .none ∧ q ≠ b ∧ Fa ≠ q ∧ q ≠ D
    refine ⟨fun σ' H' => ∃ (D : Addr) (hs : List V), σ' = sgD b Fa (some (.ref D)) (some (.int (n : Int))) .none .none .none .none .none .none .none .none .none .none .none .none ∧ Kp K b Fa ps ts H H' ∧ H' D = some (.lst hs) ∧ D ≠ b ∧ RowsBy (Hs D H') hs ts, ?_, ?_⟩
    · refine ⟨_, rfl, Fa, rfl, ⟨ps, SqL.of hF⟩, fun D hD => ?_⟩
      obtain ⟨kD, nD, Db, FD⟩ := k0.put (o := .lst []) hD
      refine lc_list (xs := ps) (fun i H' => ∃ hs, H' D = some (.lst hs) ∧ RowsBy (Hs D H') hs (ts.take i) ∧ Kp K b Fa ps ts H H') ⟨[], upd_same, trivial, kD⟩ (fun i H' _ q => by
        obtain ⟨_, _, _, kq⟩ := q
        exact SqL.of kq.at_) ?_ ?_
      · rintro i y H1 hy ⟨hs, hD1, rw1, k1⟩
        have hi : i < ts.length := by rw [← lps]; exact (List.getElem?_eq_some_iff.mp hy).1
        have hti : ts[i]? = some ts[i] := List.getElem?_eq_getElem hi
        obtain ⟨q, hq, sq⟩ := k1.rows.at_ hti
        rw [hy] at hq
        obtain rfl := Option.some.inj hq
        refine ⟨rfl, yes ((if_pos rfl).mpr ?_)⟩
        refine ⟨_, rfl, q, _, rfl, .inr sq, fun l hl => ?_⟩
        obtain ⟨kl, nl, lb, Fl⟩ := k1.put (o := .lst ((ts[i]).map V.int)) hl
        have e := same_new (o := HO.lst ((ts[i]).map V.int)) hl
        have hD2 := e _ _ hD1
        have lD : l ≠ D := fun z => by rw [z, hD1] at hl; cases hl
        have len := rw1.length
        rw [List.length_take] at len
        refine ⟨hs, hD2, by rw [sizeLine_eq]; omega, hs ++ [.ref l], upd_same, ?_, kl.set hD2 nD Db FD⟩
        rw [List.take_add_one, hti]
        refine RowsBy.snoc ⟨by rw [upd_ne lD, upd_same], nl, lb, Fl, lD⟩ (rw1.imp fun q xs z => ⟨by rw [upd_ne z.2.2.2.2]; exact e _ _ z.1, z.2⟩)
      · rintro H1 ⟨hs, hD1, rw1, k1⟩
        rw [lps, List.take_length] at rw1
        obtain ⟨q0, hq0, sq0⟩ := k1.rows.at_ ht0
        refine ⟨_, rfl, Fa, ps, 0, _, rfl, rfl, SqL.of k1.at_, atI_nat hq0, q0, _, rfl, .inr sq0, ?_⟩
        rw [List.length_map, ln0]
        exact ⟨_, _, rfl, D, hs, rfl, k1, hD1, Db, rw1⟩
    rintro σ' H1 ⟨D, hs, rfl, k1, hD1, Db, rw1⟩
    refine ⟨fun σ' H' => ∃ (m : Addr), σ' = sgD b Fa (some (.ref D)) (some (.int (n : Int))) (some (.ref m)) .none .none .none .none .none .none .none .none .none .none .none ∧ Kp K b Fa ps ts H H' ∧ H' D = some (.lst hs) ∧ RowsBy (Hs D H') hs ts ∧ McAt K CM H' m n ts, ?_, ?_⟩
    · obtain ⟨t1, hb1⟩ := k1.mv.2
      refine ⟨_, rfl, b, t1, 2, rfl, hb1, by decide, by decide, fun r H2 r0 r1 m2 => ⟨rfl, _, rfl, ?_⟩⟩
      have k2 := k1.mv2 Fb m2
      have hD2 := m2.1 _ _ Db hD1
      have rw2 : RowsBy (Hs D H2) hs ts := rw1.imp fun q xs z => ⟨m2.1 _ _ z.2.2.1 z.1, z.2⟩
      have sq2 : RowsBy (Sq K H2) hs ts := rw2.imp fun q xs z => .inl (SqL.of z.1)
      refine ite2 (fun h => ?_) (fun h => ?_)
      · exact ⟨_, rfl, fun x dx hx hdx ne => mc_make ok (.inl (SqL.of hD2)) sq2 hx hdx ne fun H8 e8 mc8 => ⟨x, rfl, k2.same e8, e8 _ _ hD2, rw2.imp fun q xs z => ⟨e8 _ _ z.1, z.2⟩, mc8⟩⟩
      · refine ⟨_, rfl, D, hs, rfl, .inl (SqL.of hD2), fun q H3 e3 hq => ⟨rfl, rfl, fun x dx hx hdx ne => ?_⟩⟩
        exact mc_make ok (.inr hq) (sq2.imp fun _ _ z => z.same e3) hx hdx ne fun H8 e8 mc8 => ⟨x, rfl, k2.same (e3.trans e8), e8 _ _ (e3 _ _ hD2), rw2.imp fun q xs z => ⟨e8 _ _ (e3 _ _ z.1), z.2⟩, mc8⟩
    rintro σ' H2 ⟨m, rfl, k2, hD2, rw2, mc2⟩
    obtain ⟨q0, hq0, hq⟩ := rw2.at_ ht0
    refine ⟨_, rfl, D, hs, 0, _, rfl, rfl, SqL.of hD2, atI_nat hq0, ?_⟩
    let WM : L2.St → Hp → Prop := fun σ' H' => ∃ x6 x7 x8 x9 x10 x11 x12 x13 x14 x15 : Option V, σ' = sgD b Fa (some (.ref D)) (some (.int (n : Int))) (some (.ref m)) (some (.ref q0)) x6 x7 x8 x9 x10 x11 x12 x13 x14 x15 ∧ Kp K b Fa ps ts H H' ∧ McAt K CM H' m n ts
    refine ⟨WM, ?_, ?_⟩
    · refine ⟨_, rfl, q0, _, _, 0, rfl, rfl, hq.1, ?_, _, _, _, _, _, _, _, _, _, _, rfl, k2.set hq.1 hq.2.1 hq.2.2.1 hq.2.2.2.1, ?_⟩
      · unfold ixN
        rw [if_pos (by omega), if_pos (by rw [List.length_map, ln0]; omega)]
        rfl
      · obtain ⟨ok', dx, tt, qs, c1, c2, c3⟩ := mc2
        exact ⟨ok', dx, tt, qs, by rw [upd_ne (ne_of c1 hq.1 (fun z => nomatch z))]; exact c1, sqT_lst hq.1 c2, c3.imp fun _ _ z => sqT_lst hq.1 z⟩
    rintro σ' H3 ⟨x6, x7, x8, x9, x10, x11, x12, x13, x14, x15, rfl, k3, mc3⟩
    have small : ∀ r ∈ ts, r.length ≤ 8 ∧ ∀ z ∈ r, -1000000 ≤ z ∧ z ≤ 1000000 := fun r hr => ⟨by rw [ok.len r hr]; omega, fun z hz => by have := ok.ent r hr z hz; omega⟩
    refine ⟨WM, ?_, ?_⟩
    · obtain ⟨_, dx, tt, qs, c1, c2, c3⟩ := id mc3
      have o3 : OkD 3 15500000 (.list [.int (ts.length : Int), .int (n : Int), dRows ts]) := (okD_list (okA_cons ((okD_small (by omega)).mono (by decide) (Nat.le_refl _)) (okA_cons ((okD_small (by omega)).mono (by decide) (Nat.le_refl _)) (okA_cons (okD_rows small (by omega)) okA_nil)))).mono (Nat.le_refl _) (by decide)
      refine ⟨_, rfl, m, CM, dx, _, _, rfl, c1, TM.cl, TM.n1, rfl, _, rfl, m, CM, dx, _, _, rfl, c1, TM.cl, TM.n2, rfl, _, rfl, m, CM, dx, _, _, rfl, c1, TM.cl, TM.n3, rfl, (by show 3 ≤ sizeLine; decide), fun l hl => ?_⟩
      have e4 := same_new (o := HO.lst [.int (ts.length : Int), .int (n : Int), .ref tt]) hl
      refine ⟨_, _, rfl, .lst (SqL.of upd_same) (.cons (.int _) (.cons (.int _) (.cons (dp_rows (sqT_same e4 c2) (c3.imp fun _ _ z => sqT_same e4 z)) .nil))), o3.sh, o3.nd, o3.d60, o3.line, ?_⟩
      have k4 := k3.same e4
      refine ⟨_, rfl, Fa, ps, rfl, .inl (SqL.of k4.at_), _, rfl, _, rfl, Fa, ps, rfl, .inl (SqL.of k4.at_), fun q H5 e5 hq5 => ⟨(by show 3 ≤ sizeLine; decide), fun l2 hl2 => ?_⟩⟩
      rw [lps]
      have e6 := same_new (o := HO.lst [.int (ts.length : Int), .int (n : Int), .ref q]) hl2
      refine ⟨_, _, rfl, .lst (SqL.of upd_same) (.cons (.int _) (.cons (.int _) (.cons (dp_rows (sqT_same e6 hq5) (k4.rows.imp fun _ _ z => sqT_same e6 (sqT_same e5 z))) .nil))), o3.sh, o3.nd, o3.d60, o3.line, ?_⟩
      refine ⟨rfl, _, rfl, ite2 (fun z => ?_) (fun _ => ?_)⟩
      · simp at z
      · exact ⟨_, _, _, _, _, _, _, _, _, _, rfl, (k4.same e5).same e6, mc3.same (e4.trans (e5.trans e6))⟩
    clear x6 x7 x8 x9 x10 x11 x12 x13 x14 x15 mc3 k3
    rintro σ' H3 ⟨x6, x7, x8, x9, x10, x11, x12, x13, x14, x15, rfl, k3, mc3⟩
    refine ⟨WM, ?_, ?_⟩
    · have o2 : OkD 1 100 (.list [.bool true, .bool false]) := (okD_list (okA_cons (okD_bl _) (okA_cons (okD_bl _) okA_nil))).mono (Nat.le_refl _) (by decide)
      refine ⟨_, rfl, _, rfl, fun x dx hx hdx ne => mc_make ok (.inl (SqL.of k3.at_)) (k3.rows.imp fun _ _ z => .inr z) hx hdx ne fun H4 e4 mc4 => ?_⟩
      refine ⟨m, n, ts, x, rfl, rfl, mc3.same e4, .inl ⟨n, ts, mc4, fun H5 e5 => ?_⟩⟩
      rw [decide_eq_true rfl]
      have k5 := (k3.same e4).same e5
      refine ⟨_, rfl, _, rfl, Fa, ps, rfl, .inl (SqL.of k5.at_), fun q H6 e6 hq6 => ?_⟩
      refine ⟨m, n, ts, q, rfl, rfl, mc3.same (e4.trans (e5.trans e6)), .inr ⟨⟨_, hq6⟩, fun H7 e7 => ⟨(by show 2 ≤ sizeLine; decide), fun l hl => ?_⟩⟩⟩
      refine ⟨_, _, rfl, .lst (SqL.of upd_same) (.cons (.bl _) (.cons (.bl _) .nil)), o2.sh, o2.nd, o2.d60, o2.line, ?_⟩
      have e8 := same_new (o := HO.lst [.bl true, .bl false]) hl
      refine ⟨(by show 2 ≤ sizeLine; decide), fun l2 hl2 => ?_⟩
      refine ⟨_, _, rfl, .lst (SqL.of upd_same) (.cons (.bl _) (.cons (.bl _) .nil)), o2.sh, o2.nd, o2.d60, o2.line, ?_⟩
      have e9 := same_new (o := HO.lst [.bl true, .bl false]) hl2
      refine ⟨rfl, _, rfl, ite2 (fun z => ?_) (fun _ => ?_)⟩
      · simp at z
      · have e := e6.trans (e7.trans (e8.trans e9))
        exact ⟨_, _, _, _, _, _, _, _, _, _, rfl, k5.same e, mc3.same (e4.trans (e5.trans e))⟩
    clear x6 x7 x8 x9 x10 x11 x12 x13 x14 x15 mc3 k3
    rintro σ' H3 ⟨x6, x7, x8, x9, x10, x11, x12, x13, x14, x15, rfl, k3, mc3⟩
    refine ⟨WM, ?_, ?_⟩
    · obtain ⟨t3, hb3⟩ := k3.mv.2
      refine ⟨_, rfl, _, rfl, b, Fa, t3, ps, n, ts, rfl, hb3, Fb, k3.at_, k3.rows, ok, fun l os H4 m4 hl4 len4 oth => ?_⟩
      have k4 := k3.mv2 Fb m4
      have mc4 := m4.mc hb3 mc3
      refine ⟨l, rfl, ⟨os, hl4⟩, fun D2 hD2 => ?_⟩
      have eD := same_new (o := HO.lst []) hD2
      refine lc_list (xs := os) (fun i H' => H' D2 = some (.lst []) ∧ Same H4 H') ⟨upd_same, eD⟩ (fun i H' _ q => sqL_same q.2 hl4) ?_ ?_
      · rintro i y H5 hy ⟨hD5, e5⟩
        obtain ⟨o, qs, us, rfl, sqo, rwo, mok, neq⟩ := oth _ (List.mem_of_getElem? hy)
        refine ⟨rfl, ?_⟩
        refine ⟨_, rfl, _, rfl, fun x dx hx hdx ne => mc_make mok (.inl (sqL_same e5 sqo)) (rwo.imp fun _ _ z => .inr (sqT_same e5 z)) hx hdx ne fun H6 e6 mc6 => ?_⟩
        refine ⟨m, n, ts, x, rfl, rfl, mc4.same (e5.trans e6), .inl ⟨n, us, mc6, fun H7 e7 => ?_⟩⟩
        rw [decide_eq_false (Ne.symm neq)]
        refine ⟨_, rfl, iteF ?_⟩
        have e57 := e5.trans (e6.trans e7)
        refine ⟨_, rfl, fun x2 dx2 hx2 hdx2 ne2 => mc_make mok (.inl (sqL_same e57 sqo)) (rwo.imp fun _ _ z => .inr (sqT_same e57 z)) hx2 hdx2 ne2 fun H8 e8 mc8 => ?_⟩
        refine ⟨_, rfl, x2, n, us, m, rfl, rfl, mc8, .inl ⟨n, ts, mc4.same (e57.trans e8), fun H9 e9 => ?_⟩⟩
        rw [decide_eq_false neq]
        exact ⟨_, rfl, iteF ⟨(e6.trans (e7.trans (e8.trans e9))) _ _ hD5, e57.trans (e8.trans e9)⟩⟩
      · rintro H5 ⟨hD5, e5⟩
        refine ⟨(by show 0 ≤ sizeLine; decide), fun l2 hl2 => ?_⟩
        refine ⟨_, _, .lst (SqL.of (same_new hl2 _ _ hD5)) .nil, .lst (SqL.of upd_same) .nil, ?_, ?_, ?_⟩
        · exact shaped_nil
        · exact shaped_nil
        · refine ⟨_, rfl, ?_⟩
          have ev : PyData.eqv (.list []) (.list []) = true := by simp only [PyData.eqv, PyData.eqvAll]
          rw [ev]
          have e := (eD.trans (Same.refl _))
          exact iteF ⟨_, _, _, _, _, _, _, _, _, _, rfl, k4.same (e5.trans (same_new hl2)), mc4.same (e5.trans (same_new hl2))⟩
    clear x6 x7 x8 x9 x10 x11 x12 x13 x14 x15 mc3 k3
    rintro σ' H3 ⟨x6, x7, x8, x9, x10, x11, x12, x13, x14, x15, rfl, k3, mc3⟩
    refine ⟨WM, ?_, ?_⟩
    · refine ⟨3, rfl, by decide, by decide, for_range (lo := 0) (n := 3) (fun _ => WM) ⟨_, _, _, _, _, _, _, _, _, _, rfl, k3, mc3⟩ ?_ ?_⟩
      · clear x6 x7 x8 x9 x10 x11 x12 x13 x14 x15 mc3 k3
        rintro i σ' H3 hi ⟨x6, x7, x8, x9, x10, x11, x12, x13, x14, x15, rfl, k3, mc3⟩
        let Wr : Addr → List Int → Int → Option V → Option V → L2.St → Hp → Prop := fun g row st x9 x10 σ' H' => ∃ x11 x12 x13 x14 x15 : Option V, σ' = sgD b Fa (some (.ref D)) (some (.int (n : Int))) (some (.ref m)) (some (.ref q0)) (some (.int (0 + (i : Int)))) (some (.ref g)) (some (.int st)) x9 x10 x11 x12 x13 x14 x15 ∧
          Kp K b Fa ps ts H H' ∧ McAt K CM H' m n ts ∧ TupD H' g (row.map V.int)
        refine ⟨fun σ' H' => ∃ g row st x9 x10, Wr g row st x9 x10 σ' H' ∧ RowOk ts.length row ∧ row.length ≤ 8 ∧ 0 ≤ st ∧ st < (n : Int), ?_, ?_⟩
        · obtain ⟨t3, hb3⟩ := k3.mv.2
          refine ⟨_, rfl, _, rfl, b, Fa, t3, ps, 8, rfl, hb3, Fb, SqL.of k3.at_, by omega, by omega, by decide, fun g row H4 m4 hg rok l8 => ?_⟩
          obtain ⟨t4, hb4⟩ := m4.2
          refine ⟨_, rfl, _, rfl, b, t4, n, rfl, hb4, by omega, by omega, fun st H5 st0 st1 m5 => ?_⟩
          exact ⟨_, _, rfl, g, row, st, _, _, ⟨_, _, _, _, _, rfl, (k3.mv2 Fb m4).mv2 Fb m5, m5.mc hb4 (m4.mc hb3 mc3), m5.tupD hb4 hg⟩, by rw [← lps]; exact rok, l8, st0, st1⟩
        clear x6 x7 x8 x9 x10 x11 x12 x13 x14 x15 mc3 k3
        rintro σ' H3 ⟨g, row, st, x9, x10, ⟨x11, x12, x13, x14, x15, rfl, k3, mc3, hg3⟩, rok, l8, st0, st1⟩
        have hst : isBel (n : Int) (.int st) = true := isBel_iff.mpr ⟨st0, st1⟩
        have no : ∀ {P : Prop} {b : Bool}, b = true → b = false → P := fun h1 h2 => by rw [h1] at h2; cases h2
        have good : rowAt ts.length (some (row.map V.int)) = .none := row_good rok (by omega)
        have gone : ∀ {P : Prop} {j : Int}, rowAt ts.length (some (row.map V.int)) = some j → P := fun z => by rw [good] at z; cases z
        have din := ok.led_in st0 st1 rok
        have od : OkD 0 1921 (.int (ledTo ts st row)) := okD_small (by omega)
        have or_ : OkD 1 15400 (dNums row) := okD_nums (fun z hz => by have := rok z hz; omega) l8
        refine ⟨_, rfl, _, rfl, _, rfl, Fa, g, ps, n, ts, st, row, rfl, SqL.of k3.at_, k3.rows, ok, st0, st1, hg3.sqT, rok, by omega, fun l L H4 e4 hl4 => ?_⟩
        have a4 : atI ((L ++ [ledTo ts st row]).map V.int) (-1) = some (.int (ledTo ts st row)) := by
          rw [List.map_append]
          exact atI_last _ _
        refine ⟨_, rfl, l, _, _, _, rfl, rfl, SqL.of hl4, a4, ?_⟩
        have k4 := k3.same e4
        have mc4 := mc3.same e4
        have hg4 := hg3.same e4
        refine ⟨Wr g row st (some (.int (ledTo ts st row))) x10, ?_, ?_⟩
        · refine ⟨_, rfl, _, rfl, _, rfl, m, n, ts, _, _, _, rfl, mc4, .int _, .seq (.inr hg4.sqT), kns_ints, no hst, fun _ => ⟨fun j z => gone z, fun _ => ⟨g, row, st, rfl, rfl, rfl, .inr hg4, fun H5 e5 => ?_⟩⟩⟩
          refine ⟨_, _, rfl, .int _, od.sh, od.nd, od.d60, od.line, ?_⟩
          refine ⟨_, rfl, _, _, rfl, .int _, od.sh, od.nd, od.d60, od.line, rfl, _, rfl, ite2 (fun z => ?_) (fun _ => ?_)⟩
          · simp at z
          · refine ⟨_, rfl, g, _, rfl, .inr (hg4.same e5).sqT, fun l2 hl2 => ?_⟩
            have e6 := same_new (o := HO.lst (row.map V.int)) hl2
            have e56 := e5.trans e6
            refine ⟨_, rfl, _, rfl, rfl, rfl, m, n, ts, _, _, _, rfl, mc4.same e56, .int _, .seq (.inl (SqL.of upd_same)), kns_ints, no hst, fun _ => ⟨fun j z => gone z, fun _ => ⟨l2, row, st, rfl, rfl, rfl, .inl (SqL.of upd_same), fun H7 e7 => ?_⟩⟩⟩
            have e57 := e56.trans e7
            refine ⟨_, rfl, rfl, _, rfl, ite2 (fun z => ?_) (fun _ => ?_)⟩
            · simp at z
            · exact ⟨_, _, _, _, _, rfl, k4.same e57, mc4.same e57, hg4.same e57⟩
        clear x11 x12 x13 x14 x15 mc3 k3 hg3 mc4 k4 hg4 hl4 a4 e4 l L
        rintro σ' H3 ⟨x11, x12, x13, x14, x15, rfl, k3, mc3, hg3⟩
        refine ⟨Wr g row st (some (.int (ledTo ts st row))) x10, ?_, ?_⟩
        · refine ⟨_, rfl, _, rfl, g, _, rfl, .inr hg3.sqT, fun l2 hl2 => ?_⟩
          have e4 := same_new (o := HO.lst (row.map V.int)) hl2
          refine ⟨m, n, ts, _, _, rfl, mc3.same e4, .seq (.inl (SqL.of upd_same)), kns_ints, fun j z => gone z, fun _ => ⟨l2, _, rfl, rfl, .inl (SqL.of upd_same), fun p H5 e5 hp => ?_⟩⟩
          have e45 := e4.trans e5
          refine ⟨_, _, rfl, dp_nums hp.sqT, or_.sh, or_.nd, or_.d60, or_.line, ?_⟩
          refine ⟨_, rfl, _, _, rfl, dp_nums (hg3.same e45).sqT, or_.sh, or_.nd, or_.d60, or_.line, rfl, _, rfl, ite2 (fun z => ?_) (fun _ => ?_)⟩
          · simp at z
          · refine ⟨_, rfl, _, rfl, rfl, rfl, m, n, ts, _, _, rfl, mc3.same e45, .seq (.inr (hg3.same e45).sqT), kns_ints, fun j z => gone z, fun _ => ⟨g, _, rfl, rfl, .inr (hg3.same e45), fun p2 H6 e6 hp2 => ?_⟩⟩
            have e46 := e45.trans e6
            refine ⟨_, rfl, p2, g, row, row, rfl, rfl, hp2.sqT, (hg3.same e46).sqT, _, rfl, ite2 (fun z => ?_) (fun _ => ?_)⟩
            · simp at z
            · exact ⟨_, _, _, _, _, rfl, k3.same e46, mc3.same e46, hg3.same e46⟩
        clear x11 x12 x13 x14 x15 mc3 k3 hg3
        rintro σ' H3 ⟨x11, x12, x13, x14, x15, rfl, k3, mc3, hg3⟩
        refine ⟨_, rfl, by show 1 ≤ sizeLine; decide, fun F0 hF0 => ?_⟩
        let Wf : (List Int → Prop) → L2.St → Hp → Prop := fun Pr σ' H' => ∃ (Fd : Addr) (L : List Int) (y11 y12 y13 y14 y15 : Option V), σ' = sgD b Fa (some (.ref D)) (some (.int (n : Int))) (some (.ref m)) (some (.ref q0)) (some (.int (0 + (i : Int)))) (some (.ref g)) (some (.int st)) (some (.int (ledTo ts st row))) (some (.ref Fd)) y11 y12 y13 y14 y15 ∧
          Kp K b Fa ps ts H H' ∧ McAt K CM H' m n ts ∧ TupD H' g (row.map V.int) ∧ H' Fd = some (.lst (L.map V.int)) ∧ Pr L
        refine ⟨Wf (Rnd ts st n), ?_, ?_⟩
        · refine ⟨_, rfl, _, rfl, by omega, by omega, for_range (lo := 0) (n := n) (fun k => Wf (Rnd ts st k)) ⟨F0, [st], _, _, _, _, _, rfl, k3.same (same_new hF0), mc3.same (same_new hF0), hg3.same (same_new hF0), upd_same, .zero⟩ ?_ ?_⟩
          · rintro k σ' H4 hk ⟨Fd, L0, y11, y12, y13, y14, y15, rfl, k4, mc4, hg4, hL4, rd⟩
            refine ⟨_, rfl, Fa, rfl, ⟨ps, SqL.of k4.at_⟩, ?_⟩
            refine for_list (xs := ps) (fun j => Wf (Mid ts st L0 j)) ⟨Fd, L0, _, _, _, _, _, rfl, k4, mc4, hg4, hL4, rd.mid⟩ (fun j σ' H' _ q => by
              obtain ⟨_, _, _, _, _, _, _, _, kq, _⟩ := q
              exact SqL.of kq.at_) ?_ ?_
            · clear k4 mc4 hg4 hL4
              rintro j y σ' H4 hy ⟨Fd, L, y11, y12, y13, y14, y15, rfl, k4, mc4, hg4, hL4, md⟩
              have hj : j < ts.length := by rw [← lps]; exact (List.getElem?_eq_some_iff.mp hy).1
              have htj : ts[j]? = some ts[j] := List.getElem?_eq_getElem hj
              obtain ⟨q, hq, sq⟩ := k4.rows.at_ htj
              rw [hy] at hq
              obtain rfl := Option.some.inj hq
              have lenL := len_le (nodup_lt md.srt) fun y hy => ok.rch st0 st1 (md.rch y hy)
              refine ⟨_, rfl, _, rfl, Fd, rfl, ⟨_, SqL.of hL4⟩, fun D2 hD2 => ?_⟩
              refine lc_list (xs := L.map V.int) (fun k H' => H' D2 = some (.lst (((L.map (nx ts j)).take k).map V.int)) ∧ Same H4 H') ⟨upd_same, same_new hD2⟩ (fun k H' _ z => SqL.of (z.2 _ _ hL4)) ?_ ?_
              · rintro k x H5 hx ⟨hD5, e5⟩
                obtain ⟨hk, ex⟩ := List.getElem?_eq_some_iff.mp hx
                rw [List.length_map] at hk
                rw [List.getElem_map] at ex
                subst ex
                have hxk := ok.rch st0 st1 (md.rch _ (List.getElem_mem hk))
                obtain ⟨tt, x', t1, t2, t3, x0, x1⟩ := ok.next (d := (j : Int)) (by omega) (by omega) hxk.1 hxk.2
                rw [Int.toNat_natCast] at t1 t3
                have et : tt = ts[j] := Option.some.inj (t1.symm.trans htj)
                subst et
                have a2 : atI ((ts[j]).map V.int) L[k] = some (V.int x') := by
                  have := atI_nat (xs := (ts[j]).map V.int) (j := L[k].toNat) (v := .int x') (by rw [List.getElem?_map, t2]; rfl)
                  rwa [Int.toNat_of_nonneg hxk.1] at this
                refine ⟨rfl, yes ((if_pos rfl).mpr ?_)⟩
                refine ⟨_, rfl, _, rfl, q, _, _, _, rfl, rfl, sqT_same e5 sq, a2, ?_⟩
                refine ⟨_, hD5, by rw [List.length_map, List.length_take, List.length_map, sizeLine_eq]; omega, ?_, fun c o hc => by rw [upd_ne (ne_of_none hc hD2)]; exact e5 _ _ hc⟩
                rw [upd_same, List.take_add_one, List.getElem?_map, List.getElem?_eq_getElem hk, List.map_append]
                have : nx ts j L[k] = x' := t3
                rw [← this]
                rfl
              · rintro H5 ⟨hD5, e5⟩
                rw [List.length_map, List.take_of_length_le (by rw [List.length_map]; exact Nat.le_refl _)] at hD5
                refine ⟨Fd, D2, _, _, rfl, rfl, e5 _ _ hL4, hD5, by rw [List.length_map, List.length_map, List.length_map, sizeLine_eq]; omega, fun p hp => ?_⟩
                have e6 := e5.trans (same_new (o := HO.lst (L.map V.int ++ (L.map (nx ts j)).map V.int)) hp)
                have hp6 : SqL K (L2.upd H5 p (.lst (L.map V.int ++ (L.map (nx ts j)).map V.int))) p ((L ++ L.map (nx ts j)).map V.int) := SqL.of (by rw [upd_same, List.map_append])
                refine ⟨p, L ++ L.map (nx ts j), rfl, hp6, by rw [List.length_append, List.length_map]; omega, fun s2 c hs2 hc => ?_⟩
                have e7 := e6.trans (same_new (o := SetO w s2 (fun z => decide (z ∈ L ++ L.map (nx ts j))) c) hs2)
                rw [List.length_append, List.length_map] at hc
                refine ⟨s2, _, c, rfl, upd_same, by omega, fun ns p2 srt mem _ hp2 => ?_⟩
                have e8 := e7.trans (same_new (o := HO.lst (ns.map V.int)) hp2)
                exact ⟨p2, ns, _, _, _, _, _, rfl, k4.same e8, mc4.same e8, hg4.same e8, upd_same, md.step hj srt fun z => by rw [mem z, decide_eq_true_eq]⟩
            · clear k4 mc4 hg4 hL4
              rintro σ' H4 ⟨Fd, L, y11, y12, y13, y14, y15, rfl, k4, mc4, hg4, hL4, md⟩
              rw [lps] at md
              exact ⟨Fd, L, _, _, _, _, _, rfl, k4, mc4, hg4, hL4, md.end_ rd⟩
          · exact fun σ' H' z => z
        rintro σ' H4 ⟨Fd, L, y11, y12, y13, y14, y15, rfl, k4, mc4, hg4, hL4, rd⟩
        have lenL := len_le (nodup_lt rd.srt) fun y hy => ok.rch st0 st1 (rd.rch y hy)
        have allL := rd.all ok st0 st1
        have oL : OkD 1 15400 (dNums L) := okD_nums (fun z hz => by have := ok.rch st0 st1 (rd.rch z hz); omega) (by omega)
        refine ⟨WM, ?_, fun σ' H' z => z⟩
        refine ⟨_, rfl, _, rfl, m, n, ts, _, rfl, mc4, .int _, no hst, fun _ => ⟨st, rfl, fun p L1 H5 e5 srt1 all1 hp => ?_⟩⟩
        obtain rfl : L1 = L := mem_eq srt1 rd.srt fun x => (all1 x).trans (allL x).symm
        refine ⟨_, _, rfl, dp_nums hp, oL.sh, oL.nd, oL.d60, oL.line, ?_⟩
        refine ⟨_, rfl, Fd, _, rfl, .inl (SqL.of (e5 _ _ hL4)), fun q H6 e6 hq => ?_⟩
        refine ⟨_, _, rfl, dp_nums hq, oL.sh, oL.nd, oL.d60, oL.line, rfl, _, rfl, ite2 (fun z => ?_) (fun _ => ?_)⟩
        · simp at z
        have e56 := e5.trans e6
        refine ⟨_, rfl, _, rfl, rfl, rfl, m, n, ts, _, rfl, mc4.same e56, .int _, no hst, fun _ => ⟨st, rfl, fun p2 L2' H7 e7 srt2 all2 hp2 => ?_⟩⟩
        obtain rfl : L2' = L1 := mem_eq srt2 rd.srt fun x => (all2 x).trans (allL x).symm
        have e57 := e56.trans e7
        refine ⟨_, rfl, Fd, _, rfl, .inl (SqL.of (e57 _ _ hL4)), fun q2 H8 e8 hq2 => ?_⟩
        have e58 := e57.trans e8
        refine ⟨p2, q2, L2', L2', rfl, rfl, sqT_same e8 hp2, hq2, _, rfl, ite2 (fun z => ?_) (fun _ => ?_)⟩
        · simp at z
        · exact ⟨_, _, _, _, _, _, _, _, _, _, rfl, k4.same e58, mc4.same e58⟩
      · exact fun σ' H' z => z
    clear x6 x7 x8 x9 x10 x11 x12 x13 x14 x15 mc3 k3
    rintro σ' H3 ⟨x6, x7, x8, x9, x10, x11, x12, x13, x14, x15, rfl, k3, mc3⟩
    have bS : isBel (n : Int) (.int ((n : Int) - 1)) = true := isBel_iff.mpr (by omega)
    have bS0 : isBel (n : Int) (.int 0) = true := isBel_iff.mpr (by omega)
    have bD : isBel (ts.length : Int) (.int ((ts.length : Int) - 1)) = true := isBel_iff.mpr (by omega)
    have bD0 : isBel (ts.length : Int) (.int 0) = true := isBel_iff.mpr (by omega)
    have no : ∀ {P : Prop} {b : Bool}, b = true → b = false → P := fun h1 h2 => by rw [h1] at h2; cases h2
    have o4 : OkD 1 10000 (.list [.int ((n : Int) - 1), .int 0, .int ((ts.length : Int) - 1), .int 0]) := (okD_list (okA_cons (okD_small (by omega)) (okA_cons (okD_small (by decide)) (okA_cons (okD_small (by omega)) (okA_cons (okD_small (by decide)) okA_nil))))).mono (Nat.le_refl _) (by decide)
    refine ⟨_, rfl, _, rfl, _, _, rfl, rfl, m, n, ts, _, rfl, mc3, .int _, no bS, fun _ => ?_⟩
    refine ⟨_, rfl, rfl, rfl, m, n, ts, _, rfl, mc3, .int _, no bS0, fun _ => ?_⟩
    refine ⟨_, rfl, _, rfl, Fa, ps, rfl, .inl (SqL.of k3.at_), _, _, rfl, rfl, ?_⟩
    rw [lps]
    refine ⟨m, n, ts, _, rfl, mc3, .int _, no bD, fun _ => ?_⟩
    refine ⟨_, rfl, rfl, rfl, m, n, ts, _, rfl, mc3, .int _, no bD0, fun _ => ?_⟩
    refine ⟨(by show 4 ≤ sizeLine; decide), fun l hl => ?_⟩
    have e4 := same_new (o := HO.lst [.int ((n : Int) - 1), .int 0, .int ((ts.length : Int) - 1), .int 0]) hl
    have dl := SqL.of (K := K) (upd_same (H := H3) (a := l) (o := HO.lst [.int ((n : Int) - 1), .int 0, .int ((ts.length : Int) - 1), .int 0]))
    refine ⟨_, rfl, _, _, rfl, .lst dl (.cons (.int _) (.cons (.int _) (.cons (.int _) (.cons (.int _) .nil)))), o4.sh, o4.nd, o4.d60, o4.line, ?_⟩
    have k4 := k3.same e4
    refine ⟨_, rfl, _, _, rfl, rfl, _, rfl, Fa, ps, rfl, .inl (SqL.of k4.at_), _, _, rfl, rfl, ?_⟩
    rw [lps]
    refine ⟨(by show 4 ≤ sizeLine; decide), fun l2 hl2 => ?_⟩
    refine ⟨_, _, rfl, .lst (SqL.of upd_same) (.cons (.int _) (.cons (.int _) (.cons (.int _) (.cons (.int _) .nil)))), o4.sh, o4.nd, o4.d60, o4.line, rfl, ?_⟩
    rw [decide_eq_true rfl]
    exact k _ (k4.same (same_new hl2)).mv
end
end K1
/-! what is none -/
namespace K1
open L2 PySem PySem.Spec PyProof.Rows Kx RZ
/-- t[lo:hi] -/
def rCut (K : PySem.W.Frag) : V → Option Int → Option Int → Hp → VK → Prop := fun x lo hi H Q => ∃ a xs, x = .ref a ∧ SqT K H a xs ∧ ∀ p H', Same H H' → SqT K H' p (cutV xs lo hi) → Q (.ref p) H'
theorem sl_cut {X : Cx} {K : PySem.W.Frag} (hK : X.K = K := by rfl) : SlR X (rCut K) := by
  subst hK
  intro pins s σ H x v vl vu lo hi sl Q I rx hs pl pu ⟨a, xs, e, h, q⟩
  refine sl_tupA pins s σ H x v vl vu lo hi sl Q I rx hs pl pu ⟨a, xs, e, h, fun ⟨z1, z2⟩ => q a H (Same.refl H) ?_, fun _ p hp => q p _ (same_new hp) (SqT.of upd_same)⟩
  unfold cutV
  rw [z1, z2, List.drop_zero, Nat.sub_zero, List.take_length]
  exact h
/-- "0" * k -/
def zeros : Nat → Str
  | 1 => "0"
  | 2 => "00"
  | 3 => "000"
  | 4 => "0000"
  | _ => "00000"
theorem op_noughts8 {X : Cx} : OpR X (binaryOp .Mult) (fun x y H Q => ∃ k : Nat, x = .str "0" ∧ y = .int (k : Int) ∧ 1 ≤ k ∧ k ≤ 5 ∧ Q (.str (zeros k)) H) := by
  intro pins st σ H x y v u Q I rx ry ⟨k, ex, ey, k1, k5, q⟩
  subst ex ey
  obtain ⟨t, rfl⟩ := (show ∃ t, v = Value.str "0" t from rx)
  obtain ⟨t2, rfl⟩ := (show ∃ t, u = Value.int (k : Int) t from ry)
  have fin : ∀ (z : Str) (tk tk2 : Nat), z = zeros k → EP X pins σ Q (.str z tk) { st with toks := tk2 } := fun z tk tk2 e => by
    subst e
    exact ⟨.str (zeros k), H, I.kept (t' := tk2) fun _ _ z => z, ⟨tk, rfl⟩, q⟩
  have all : k = 1 ∨ k = 2 ∨ k = 3 ∨ k = 4 ∨ k = 5 := by omega
  refine P.mul_str ?_ ?_ ?_ ?_
  · rcases all with rfl | rfl | rfl | rfl | rfl <;> decide +kernel
  · rcases all with rfl | rfl | rfl | rfl | rfl <;> decide +kernel
  · rcases all with rfl | rfl | rfl | rfl | rfl <;> decide +kernel
  · rcases all with rfl | rfl | rfl | rfl | rfl
    · rw [if_neg (by decide), if_pos (by decide +kernel)]
      exact ⟨.str (zeros 1), H, I, ⟨t, rfl⟩, q⟩
    all_goals
      rw [if_neg (by decide), if_neg (by decide +kernel)]
      exact ⟨by decide +kernel, fin _ _ _ (by decide +kernel)⟩
/-- a lambda heard in a comprehension -/
theorem pe_heardB {X : Cx} {a : Ad} {cW : Addr} {Ts : List (Addr × Str)} {g : Addr} {fdg : FuncData} {c Pt C0 : Addr} {st : Stmt} {k : Nat} {params : Arguments} {body : Expr} {scope bs : Scope} {t : XK → TE} {p lpos pos : Pos} {s0 : Shared} {H0 : Hp} {cl : List (Str × Addr)} {fp : List Addr} (h : HF X a cW Ts g fdg c Pt st) (hr : Room (k + 2) X.A)
    (hbody : ∀ (A : Around) (outer : List Env) (s : Shared) (H : Hp) (E : XK) (f c' : Addr), Room k (A.deeper (LamX.lamEnv (X.blk s0 H0 bs (compEnvC bs cl C0 X.env) fp) scope s.heap.objs.size f c')) → PE (LamX.lamCx (X.blk s0 H0 bs (compEnvC bs cl C0 X.env) fp) A outer s H E scope f c') body (t E))
    (hL : LamX.lamSB (compEnvC bs cl C0 X.env).scope scope = true) (hg : Gl (X.blk s0 H0 bs (compEnvC bs cl C0 X.env) fp) "_law_heard" := by rfl) (hdef : defaultsOf params (compEnvC bs cl C0 X.env) = ([], []) := by rfl)
    (hbind : ∀ (q : Str) (cl : List (Str × Addr)) (pm cv ctv : Value), bindArgs (PySem.W.kla_fn "<lambda>" q params body scope cl pm cv ctv) ⟨[], []⟩ = pure [] := by intros; rfl) :
    PE (X.blk s0 H0 bs (compEnvC bs cl C0 X.env) fp) (.Call (.Name "_law_heard" p) [.Lambda params body scope lpos] [] pos) (LamX.tLam Ts (TTh X.K a) t) := by
  obtain ⟨oc, od, dV, kV, doc, pm, an, cdv, ct, osl, rfl, lk, hcd, -, -⟩ := h.FH.ex
  exact LamX.pe_lamcall (X := X.blk s0 H0 bs (compEnvC bs cl C0 X.env) fp) (k := k) hg h.gH h.FH.kp lk hcd h.bH sc_law_heard rfl (.inl rfl) (heard_gives (X := X.blk s0 H0 bs (compEnvC bs cl C0 X.env) fp) h.T h.D h.lone hr) h.TB h.code h.mem h.only hr (LamX.lamS_by hL) hdef hbind hbody
end K1
/-! what stays where lambdas are heard, the source moves -/
namespace K1
open L2 PySem PySem.Spec PyProof.Rows Kx RZ
/-- the source moved, tables grew, things were made -/
structure Go (Ts : List (Addr × Str)) (b : Addr) (H H' : Hp) : Prop where
  keep : ∀ c o, c ≠ b → (∀ ps, o ≠ .tbl ps) → H c = some o → H' c = some o
  box : ∃ t, H' b = some (bx t)
  tabs : LamX.Tabs Ts H'
section
variable {K : PySem.W.Frag} {Ts : List (Addr × Str)} {b a : Addr} {H H' H2 : Hp} {t : Int × Int × Int} {xs : List V} {C c : Addr} {n : Nat} {ts : List (List Int)}
theorem tabs_mv (m : Mv b H H') (hb : H b = some (bx t)) (h : LamX.Tabs Ts H) : LamX.Tabs Ts H' := fun p hp => by
  obtain ⟨ps, h1, h2, h3⟩ := h p hp
  refine ⟨ps, m.1 _ _ (ne_of h1 hb (fun z => nomatch z)) h1, h2, fun pos cv hcv => ?_⟩
  obtain ⟨c, e1, e2⟩ := h3 pos cv hcv
  refine ⟨c, e1, m.1 _ _ (ne_of e2 hb (fun z => ?_)) e2⟩
  unfold LamX.CodeO bx at z
  cases z
theorem Go.refl (hb : H b = some (bx t)) (h : LamX.Tabs Ts H) : Go Ts b H H := ⟨fun _ _ _ _ q => q, ⟨t, hb⟩, h⟩
theorem Go.same (g : Go Ts b H H') (e : Same H' H2) : Go Ts b H H2 := ⟨fun c o n1 n2 q => e _ _ (g.keep c o n1 n2 q), g.box.elim fun t q => ⟨t, e _ _ q⟩, g.tabs.ext e⟩
theorem Go.mv (g : Go Ts b H H') (m : Mv b H' H2) : Go Ts b H H2 := ⟨fun c o n1 n2 q => m.1 _ _ n1 (g.keep c o n1 n2 q), m.2, g.box.elim fun t q => tabs_mv m q g.tabs⟩
theorem Go.ext (g : Go Ts b H H') (e : LamX.ExtN H' H2) (h : LamX.Tabs Ts H2) : Go Ts b H H2 := ⟨fun c o n1 n2 q => e _ _ (g.keep c o n1 n2 q) n2, g.box.elim fun t q => ⟨t, e _ _ q (fun _ z => nomatch z)⟩, h⟩
theorem Go.trans (g : Go Ts b H H') (k : Go Ts b H' H2) : Go Ts b H H2 := ⟨fun c o n1 n2 q => k.keep c o n1 n2 (g.keep c o n1 n2 q), k.box, k.tabs⟩
theorem Go.rd {u : HO} (g : Go Ts b H H') (hb : H b = some (bx t)) (n1 : ∀ ys, u ≠ .lst ys) (n2 : ∀ ps, u ≠ .tbl ps) (h : Rd H a u) : Rd H' a u := by
  rcases h with h | ⟨z, h⟩
  · exact .inl (g.keep _ _ (ne_of h hb (n1 _)) n2 h)
  · exact .inr ⟨z, g.keep _ _ (ne_of h hb (fun z => nomatch z)) (fun _ z => nomatch z) h⟩
theorem Go.sqT (g : Go Ts b H H') (hb : H b = some (bx t)) (h : SqT K H a xs) : SqT K H' a xs := h.imp (g.rd hb (fun _ z => nomatch z) fun _ z => nomatch z) id
theorem Go.sqL (g : Go Ts b H H') (ne : a ≠ b) (h : SqL K H a xs) : SqL K H' a xs := h.imp (fun h => h.elim (fun h => .inl (g.keep _ _ ne (fun _ z => nomatch z) h)) fun ⟨z, h⟩ => .inr ⟨z, g.keep _ _ ne (fun _ z => nomatch z) h⟩) id
theorem Go.mc (g : Go Ts b H H') (hb : H b = some (bx t)) (h : McAt K C H c n ts) : McAt K C H' c n ts := by
  obtain ⟨ok, dx, p, ps, h1, h2, h3⟩ := h
  exact ⟨ok, dx, p, ps, g.keep _ _ (ne_of h1 hb (fun z => nomatch z)) (fun _ z => nomatch z) h1, g.sqT hb h2, h3.imp fun _ _ q => g.sqT hb q⟩
theorem Go.rows {ps : List V} (g : Go Ts b H H') (hb : H b = some (bx t)) (h : RowsBy (SqT K H) ps ts) : RowsBy (SqT K H') ps ts := h.imp fun _ _ q => g.sqT hb q
theorem Go.lst {us : List V} (g : Go Ts b H H') (ne : a ≠ b) (h : H a = some (.lst us)) : H' a = some (.lst us) := g.keep _ _ ne (fun _ z => nomatch z) h
theorem ext_mc (e : LamX.ExtN H H') (h : McAt K C H c n ts) : McAt K C H' c n ts := by
  obtain ⟨ok, dx, p, ps, h1, h2, h3⟩ := h
  exact ⟨ok, dx, p, ps, e _ _ h1 (fun _ z => nomatch z), ext_sqT e h2, h3.imp fun _ _ q => ext_sqT e q⟩
end
/-- no object -/
inductive Fl : V → PyData → Prop
  | non : Fl .non .none
  | bl (b : Bool) : Fl (.bl b) (.bool b)
  | int (i : Int) : Fl (.int i) (.int i)
  | str (z : Str) : Fl (.str z) (.str z)
inductive Fls : List V → List PyData → Prop
  | nil : Fls [] []
  | cons {v : V} {d : PyData} {vs : List V} {ds : List PyData} (h : Fl v d) (k : Fls vs ds) : Fls (v :: vs) (d :: ds)
section
variable {K : PySem.W.Frag} {Ts : List (Addr × Str)} {b : Addr} {H H' : Hp} {t : Int × Int × Int}
theorem Fl.dp {v : V} {d : PyData} (h : Fl v d) : Dp K H v d := by
  cases h with
  | non => exact .non
  | bl b => exact .bl b
  | int i => exact .int i
  | str z => exact .str z
theorem Fl.kn {v : V} {d : PyData} (h : Fl v d) : Kn K H v := by
  cases h with
  | non => exact .non
  | bl b => exact .bl b
  | int i => exact .int i
  | str z => exact .str z
theorem Fl.long {v : V} {d : PyData} (h : Fl v d) : Long K H v none := by
  cases h with
  | non => exact .non
  | bl b => exact .bl b
  | int i => exact .int i
  | str z => exact .str z
theorem Fl.flat {v : V} {d : PyData} (h : Fl v d) : flatB v = true := by
  cases h <;> rfl
theorem Fls.dp : ∀ {vs : List V} {ds : List PyData}, Fls vs ds → DpAll K H vs ds
  | _, _, .nil => .nil
  | _, _, .cons h k => .cons h.dp k.dp
theorem Fls.kn : ∀ {vs : List V} {ds : List PyData}, Fls vs ds → ∀ x ∈ vs, Kn K H x
  | _, _, .nil => fun x hx => nomatch hx
  | _, _, .cons h k => fun x hx => (List.mem_cons.mp hx).elim (fun e => e ▸ h.kn) (k.kn x)
theorem Fls.append : ∀ {vs us : List V} {ds es : List PyData}, Fls vs ds → Fls us es → Fls (vs ++ us) (ds ++ es)
  | _, _, _, _, .nil, k => k
  | _, _, _, _, .cons h k, k2 => .cons h (k.append k2)
theorem fls_ints : ∀ (ns : List Int), Fls (ns.map V.int) (ns.map PyData.int)
  | [] => .nil
  | n :: ns => .cons (.int n) (fls_ints ns)
/-- a value that shows as d: no object, a list (not at b), a tuple of such -/
inductive Sv (K : PySem.W.Frag) (b : Addr) (H : Hp) : V → PyData → Option (List V) → Prop
  | flat {v : V} {d : PyData} (h : Fl v d) : Sv K b H v d none
  | lst {l : Addr} {xs : List V} {ds : List PyData} (ne : l ≠ b) (h : SqL K H l xs) (f : Fls xs ds) : Sv K b H (.ref l) (.list ds) (some xs)
  | tup {l : Addr} {xs : List V} {ds : List PyData} (h : SqT K H l xs) (f : Fls xs ds) : Sv K b H (.ref l) (.tuple ds) (some xs)
variable {v : V} {d : PyData} {o : Option (List V)}
theorem Sv.dp (h : Sv K b H v d o) : Dp K H v d := by
  cases h with
  | flat h => exact h.dp
  | lst _ h f => exact .lst h f.dp
  | tup h f => exact .tup h f.dp
theorem Sv.long (h : Sv K b H v d o) : Long K H v o := by
  cases h with
  | flat h => exact h.long
  | lst _ h f => exact .seq (.inl h)
  | tup h f => exact .seq (.inr h)
theorem Sv.kn (h : Sv K b H v d o) : Kn K H v := h.long.kn
theorem Sv.kns (h : Sv K b H v d o) {m : Nat} : Kns K H o m := fun xs q _ x hx => by
  cases h with
  | flat h => cases q
  | lst _ h f => cases q; exact f.kn x hx
  | tup h f => cases q; exact f.kn x hx
theorem Sv.go (g : Go Ts b H H') (hb : H b = some (bx t)) (h : Sv K b H v d o) : Sv K b H' v d o := by
  cases h with
  | flat h => exact .flat h
  | lst ne h f => exact .lst ne (g.sqL ne h) f
  | tup h f => exact .tup (g.sqT hb h) f
theorem Sv.same (e : Same H H') (h : Sv K b H v d o) : Sv K b H' v d o := by
  cases h with
  | flat h => exact .flat h
  | lst ne h f => exact .lst ne (sqL_same e h) f
  | tup h f => exact .tup (sqT_same e h) f
theorem Sv.ext (e : LamX.ExtN H H') (h : Sv K b H v d o) : Sv K b H' v d o := by
  cases h with
  | flat h => exact .flat h
  | lst ne h f => exact .lst ne (ext_sqL e h) f
  | tup h f => exact .tup (ext_sqT e h) f
end
end K1
/-! what is none, heard -/
namespace K1
open L2 PySem PySem.Spec PyProof.Rows Kx RZ
def spNone (K : PySem.W.Frag) (Ts : List (Addr × Str)) : Sp := fun vs H Q _ => ∃ (b F : Addr) (t : Int × Int × Int) (ps : List V) (n : Nat) (ts : List (List Int)), vs = [.ref b, .ref F] ∧ H b = some (bx t) ∧ F ≠ b ∧ H F = some (.lst ps) ∧ RowsBy (SqT K H) ps ts ∧ Mok n ts ∧ n ≤ 5 ∧ LamX.Tabs Ts H ∧ ∀ H', Go Ts b H H' → Q (.bl true) H'
def mTest : Option (Expr × Scope) := match (defBody s_law_none_right).getD 16 (.Pass ⟨0, 0, 0, 0⟩) with
  | .If (.Compare (.Call _ [.Lambda _ body sc _] _ _) _ _ _) _ _ _ => some (body, sc)
  | _ => none
def mBody : Expr := match mTest with
  | some (b, _) => b
  | none => .Constant .none 0 ⟨0, 0, 0, 0⟩
def mScope : Scope := match mTest with
  | some (_, s) => s
  | none => defScope s_law_none_right
theorem op_neSameK {X : Cx} {K : PySem.W.Frag} (hu : X.A.units + 64 < cLine) (hK : X.K = K := by rfl) : OpR X (compareOp .NotEq) (rSame K false) := by
  subst hK
  exact op_neSame hu
def mComp : Scope := match mBody with
  | .Call _ [.BinOp _ _ (.ListComp _ _ sc _) _] _ _ => sc
  | _ => defScope s_law_none_right
theorem sl_listK {X : Cx} {K : PySem.W.Frag} (hK : X.K = K := by rfl) : SlR X (rSlL K) := by
  subst hK
  exact sl_list
theorem pi_listK {X : Cx} {tg l : Expr} {tl : TE} {K : PySem.W.Frag} (hl : PE X l tl) (hK : X.K = K := by rfl) : PI X tg l (iList K tl) := by
  subst hK
  exact pi_list hl
abbrev sgN (b Fa : Addr) (x2 x3 x4 x5 x6 x7 x8 x9 x10 x11 x12 x13 x14 x15 : Option V) : L2.St := [some (.ref b), some (.ref Fa), x2, x3, x4, x5, x6, x7, x8, x9, x10, x11, x12, x13, x14, x15]
theorem no_bel {l : Int} {v : V} (h : ∀ i, v = .int i → i < 0 ∨ l ≤ i) : isBel l v = false := by
  cases v with
  | int i =>
    have := h i rfl
    unfold isBel
    rw [Bool.and_eq_false_iff]
    rcases this with h | h
    · exact .inl (decide_eq_false (by omega))
    · exact .inr (decide_eq_false (by omega))
  | _ => rfl
theorem Items.append {K : PySem.W.Frag} {H : Hp} : ∀ {vs ws : List V} {os us : List (Option (List V))}, Items K H vs os → Items K H ws us → Items K H (vs ++ ws) (os ++ us)
  | [], _, [], _, _, h => h
  | _ :: _, _, _ :: _, _, ⟨h1, h⟩, g => ⟨h1, Items.append h g⟩
  | [], _, _ :: _, _, h, _ => h.elim
  | _ :: _, _, [], _, h, _ => h.elim
theorem items_nons {K : PySem.W.Frag} {H : Hp} : ∀ {k : Nat}, Items K H (List.replicate k .non) (List.replicate k .none)
  | 0 => trivial
  | _ + 1 => ⟨⟨.non, fun xs q => nomatch q⟩, items_nons⟩
def lenO : Option (List V) → Nat
  | some ys => ys.length
  | .none => 0
theorem make_bad_at {K : PySem.W.Frag} {a : Ad} {CM x dx L : Addr} {H : Hp} {E : XK} {Q : VK} {n k : Nat} {pre : List (List Int)} {vs : List V} {v : V} {o : Option (List V)} (rows : RowsBy (SqT K H) vs pre) (tab : ∀ t ∈ pre, TabOk n t) (n1 : 1 ≤ n) (n8 : n ≤ 8) (l4 : pre.length + 1 + k ≤ 4) (lo : Long K H v o) (ko : Kns K H o 8)
    (bad : isTab (if pre.length = 0 then lenO o else n) o = false) (hL : SqL K H L (vs ++ [v] ++ List.replicate k .non)) (hx : H x = none) (hd : H dx = none) (ne : dx ≠ x) (q : Thrown E H a.cM "at" (.int (pre.length : Int))) : spMachine K a CM [.ref x, .ref L] (upd (upd H dx (.own x)) x (.ins CM dx [])) Q E := by
  have e := new_ins (C := CM) hx hd ne
  have len := rows.length
  have it : Items K (upd (upd H dx (.own x)) x (.ins CM dx [])) (vs ++ [v] ++ List.replicate k .non) ((pre.map fun t => some (t.map V.int)) ++ [o] ++ List.replicate k .none) := ((items_of (rows.imp fun _ _ z => .inr (sqT_same e z))).append (show Items K _ [v] [o] from ⟨⟨lo.same e, ko.same e⟩, trivial⟩)).append items_nons
  have l0 : lenAt ((pre.map fun t => some (t.map V.int)) ++ [o] ++ List.replicate k .none) = if pre.length = 0 then lenO o else n := by
    cases pre with
    | nil =>
      have z : (if ([] : List (List Int)).length = 0 then lenO o else n) = lenO o := if_pos rfl
      rw [z]
      unfold lenAt
      cases o <;> rfl
    | cons t pre =>
      rw [if_neg (by simp)]
      show (t.map V.int).length = n
      rw [List.length_map]
      exact (tab t (List.mem_cons_self ..)).1
  have at_ : badTab (lenAt ((pre.map fun t => some (t.map V.int)) ++ [o] ++ List.replicate k .none)) ((pre.map fun t => some (t.map V.int)) ++ [o] ++ List.replicate k .none) = some pre.length := by
    rw [l0]
    refine badTab_some (fun j z hj hz => ?_) ⟨o, ?_, bad⟩
    · rw [List.append_assoc, List.getElem?_append_left (by rw [List.length_map]; exact hj), List.getElem?_map] at hz
      obtain ⟨t, ht, rfl⟩ := Option.map_eq_some_iff.mp hz
      have mt := List.mem_of_getElem? ht
      rw [if_neg (by omega)]
      exact isTab_of n1 n8 (tab t mt).1 (tab t mt).2
    · rw [List.append_assoc, List.getElem?_append_right (by rw [List.length_map]; exact Nat.le_refl _), List.length_map, Nat.sub_self]
      rfl
  refine ⟨x, dx, .ref L, some (vs ++ [v] ++ List.replicate k .non), rfl, upd_same, .seq (.inl (sqL_same e hL)), fun z => ?_, fun ys ey _ => ?_⟩
  · rw [inLen_some, decide_eq_true (by simp only [List.length_append, List.length_singleton, List.length_replicate]; omega), decide_eq_true (by simp only [List.length_append, List.length_singleton, List.length_replicate]; omega)] at z
    cases z
  · cases ey
    refine ⟨_, it, fun i z => ?_, fun z => ?_⟩
    · rw [at_] at z
      cases z
      exact q.same e
    · rw [at_] at z
      cases z
theorem make_none {K : PySem.W.Frag} {a : Ad} {CM x dx : Addr} {H : Hp} {E : XK} {Q : VK} {v : V} {o : Option (List V)} (lo : Long K H v o) (far : inLen 1 4 o = false) (hx : H x = none) (hd : H dx = none) (ne : dx ≠ x) (q : Thrown E H a.cM "at" (.int (-1))) : spMachine K a CM [.ref x, v] (upd (upd H dx (.own x)) x (.ins CM dx [])) Q E := by
  have e := new_ins (C := CM) hx hd ne
  exact ⟨x, dx, v, o, rfl, upd_same, lo.same e, fun _ => q.same e, fun ys _ z => by rw [far] at z; cases z⟩
section
variable {P : Program} {w : World} {K : PySem.W.Frag} {mg : Str → Option Value} {base : Heap} {f : Addr} {fd : FuncData} {a : Ad} {CM cW : Addr} {Ts : List (Addr × Str)} {g cc Pt : Addr} {fdg : FuncData}
theorem sc_law_none_right : FnScope ["box", "tables", "machine", "many", "deeds", "row", "at", "bad", "odd", "none", "table", "spot", "some", "wide", "value", "one"] ["box", "tables"] (defScope s_law_none_right) := ⟨rfl, rfl, rfl, by decide +kernel, rfl, by decide +kernel, by decide +kernel⟩
theorem ok_none (F : FnP K "_law_none_right" s_law_none_right f fd) (hcode : fd.code = .ref cc) (FH : FnP K "_law_heard" s_law_heard g fdg) (gH : mg "_law_heard" = some (.ref g)) (bH : Binds K fdg ["ask"] []) (T : Mg mg) (TM : ClsM K mg CM) (D : Hd K mg a cW) (TB : LamX.TabB base mg cc Pt)
    (mem : (Pt, (Str.ofString "_law_none_right" ++ ".<locals>.") ++ "<lambda>") ∈ Ts) (only : ∀ p ∈ Ts, p.1 = Pt → p.2 = (Str.ofString "_law_none_right" ++ ".<locals>.") ++ "<lambda>") (B : Fns P w K mg base a CM) (M : Mks P w K mg base a CM) :
    FnG P w K mg base CX0 9 f fd ["box", "tables"] (spNone K Ts) := by
  refine okGc F hcode sc_law_none_right (fun vs H Q E h => ?_) (fun A outer s H vs Q E lone hr h => ?_)
  · obtain ⟨b, F, t, ps, n, ts, rfl, _⟩ := h
    rfl
  · obtain ⟨b, Fa, t, ps, n, ts, rfl, hb, Fb, hF, rows, ok, n5, tabs, k⟩ := h
    have cs : CallR (cxOf CX0 P w K mg base ["box", "tables", "machine", "many", "deeds", "row", "at", "bad", "odd", "none", "table", "spot", "some", "wide", "value", "one"] "_law_none_right" (defScope s_law_none_right) f (.ref cc) A outer s H E).nox (.builtin "repr") (rShow K) := call_show lone (r64 hr)
    have hf : HF (cxOf CX0 P w K mg base ["box", "tables", "machine", "many", "deeds", "row", "at", "bad", "odd", "none", "table", "spot", "some", "wide", "value", "one"] "_law_none_right" (defScope s_law_none_right) f (.ref cc) A outer s H E).nox a cW Ts g fdg cc Pt s_law_none_right := ⟨FH, gH, bH, T, D, lone, TB, rfl, rfl, mem, only⟩
    refine ⟨_, PSs.nox (pss_cons (ps_mid (ps_asg (pe_tup (pa_cons (pe_mac (K := K) M TM hr pz (pa_cons (pv 1) pa_nil)) (pa_cons (pe_callB call_len_seq (by rfl) T.z_len PySem.boot_len (pa_cons (pe_ix ix_list (pv 1) pe_int (fun _ _ => rfl)) pa_nil)) (pa_cons (pe_callB call_len_seq (by rfl) T.z_len PySem.boot_len (pa_cons (pv 1) pa_nil)) pa_nil)))) (pg_tup rfl (pgs_cons (pg_name (i := 2) sc_law_none_right.nd rfl (by first | exact Or.inl rfl | exact Or.inr rfl)) (pgs_cons (pg_name (i := 3) sc_law_none_right.nd rfl (by first | exact Or.inl rfl | exact Or.inr rfl)) (pgs_cons (pg_name (i := 4) sc_law_none_right.nd rfl (by first | exact Or.inl rfl | exact Or.inr rfl)) pgs_nil))))))
      (pss_cons (ps_set (i := 5) sc_law_none_right.nd rfl (by first | exact Or.inl rfl | exact Or.inr rfl) (pe_callC B.log hr pass0 (pa_cons (pv 0) (pa_cons (pv 1) (pa_cons pe_int pa_nil)))))
      (pss_cons (ps_set (i := 6) sc_law_none_right.nd rfl (by first | exact Or.inl rfl | exact Or.inr rfl) (pe_callC B.take hr pass0 (pa_cons (pv 0) (pa_cons (pe_op op_add (pe_callB call_len_seq (by rfl) T.z_len PySem.boot_len (pa_cons (pv 5) pa_nil)) pe_int) pa_nil))))
      (pss_cons (ps_mid (ps_set (i := 7) sc_law_none_right.nd rfl (by first | exact Or.inl rfl | exact Or.inr rfl) (pe_op (op_catS (K := K)) (pe_op (op_catS (K := K)) (pe_op (op_catS (K := K)) (pe_slice (sl_cut (K := K)) (pv 5) po_none (po_some (pv 6))) (pe_tup (pa_cons (pe_callC B.pick hr pass0 (pa_cons (pv 0) (pa_cons (pe_lst (pa_cons (pv 4) (pa_cons (pe_op op_sub pe_int pe_int) (pa_cons pe_bl (pa_cons pe_non (pa_cons pe_str (pa_cons (pe_tup (pa_cons pe_int pa_nil)) pa_nil))))))) pa_nil))) pa_nil))) (pe_slice (sl_cut (K := K)) (pv 5) (po_some (pv 6)) po_none)) (pe_tup (pa_cons pe_non pa_nil)))))
      (pss_cons (ps_mid (ps_asg (pe_tup (pa_cons (pe_callC B.pick hr pass0 (pa_cons (pv 0) (pa_cons (pe_lst (pa_cons (pv 3) (pa_cons (pe_op op_sub pe_int pe_int) (pa_cons pe_bl (pa_cons pe_non (pa_cons pe_str pa_nil)))))) pa_nil))) (pa_cons (pe_callC B.pick hr pass0 (pa_cons (pv 0) (pa_cons (pe_lst (pa_cons (pv 4) (pa_cons (pe_op op_sub pe_int pe_int) (pa_cons pe_bl (pa_cons pe_non (pa_cons pe_str pa_nil)))))) pa_nil))) pa_nil))) (pg_tup rfl (pgs_cons (pg_name (i := 8) sc_law_none_right.nd rfl (by first | exact Or.inl rfl | exact Or.inr rfl)) (pgs_cons (pg_name (i := 9) sc_law_none_right.nd rfl (by first | exact Or.inl rfl | exact Or.inr rfl)) pgs_nil)))))
      (pss_cons (ps_mid (ps_if (pt_cmpR (op_neSame (r64 hr)) (pe_heard (k := 6) hf hr (fun A outer s H E f c' hr' => (pe_callC B.row hr' passL (pa_cons (pv 2) (pa_cons (pv 7) pa_nil))))) (pe_tup (pa_cons pe_str (pa_cons (pv 6) (pa_cons pe_bl pa_nil)))) (nomark _))
        (pss_one (ps_ret pe_bl))
        pss_nil))
      (pss_cons (ps_mid (ps_if (pt_cmpR (op_neSame (r64 hr)) (pe_heard (k := 6) hf hr (fun A outer s H E f c' hr' => (pe_callC B.led hr' passL (pa_cons (pv 2) (pa_cons pe_int (pa_cons (pv 7) pa_nil)))))) (pe_tup (pa_cons pe_str (pa_cons (pv 6) (pa_cons pe_bl pa_nil)))) (nomark _))
        (pss_one (ps_ret pe_bl))
        pss_nil))
      (pss_cons (ps_mid (ps_if (pt_cmpR (op_neD (r64 hr)) (pe_lc (own := [("value", 14)]) (by rfl) sc_law_none_right.nd (pi_tup (pe_tup (pa_cons pe_non (pa_cons pe_int (pa_cons pe_str pa_nil))))) (blkOk_by (own := [("value", 14)]) (N := ["box", "tables", "machine", "many", "deeds", "row", "at", "bad", "odd", "none", "table", "spot", "some", "wide", "value", "one"]) (sc := defScope s_law_none_right) (by decide +kernel)) (fun _ _ _ _ _ => (pg_name (i := 14) sc_law_none_right.nd rfl (by first | exact Or.inl rfl | exact Or.inr rfl))) (fun _ _ _ _ _ => (pts_one (pt_cmpR (op_neSameK (K := K) (r64 hr)) (pe_heardB (k := 6) hf hr (fun A outer s H E f c' hr' => (pe_callC B.row hr' passL (pa_cons (pv 2) (pa_cons (pv 14) pa_nil)))) (by rfl)) (pe_tup (pa_cons pe_str (pa_cons (pe_op op_sub pe_int pe_int) (pa_cons pe_bl pa_nil)))) (nomark _)))) (fun _ _ _ _ _ => (pv 14))) (pe_lst pa_nil) (nomark _))
        (pss_one (ps_ret pe_bl))
        pss_nil))
      (pss_cons (ps_mid (ps_if (pt_cmpR (op_neSame (r64 hr)) (pe_heard (k := 6) hf hr (fun A outer s H E f c' hr' => (pe_callC B.led hr' passL (pa_cons (pv 2) (pa_cons (pv 8) (pa_cons pe_non pa_nil)))))) (pe_tup (pa_cons pe_str (pa_cons (pe_callB cs (by rfl) T.z_repr (by decide +kernel) (pa_cons (pv 8) pa_nil)) pa_nil))) (nomark _))
        (pss_one (ps_ret pe_bl))
        pss_nil))
      (pss_cons (ps_mid (ps_if (pt_cmpR (op_neSame (r64 hr)) (pe_heard (k := 6) hf hr (fun A outer s H E f c' hr' => (pe_callC B.rch hr' passL (pa_cons (pv 2) (pa_cons (pv 8) pa_nil))))) (pe_tup (pa_cons pe_str (pa_cons (pe_callB cs (by rfl) T.z_repr (by decide +kernel) (pa_cons (pv 8) pa_nil)) pa_nil))) (nomark _))
        (pss_one (ps_ret pe_bl))
        pss_nil))
      (pss_cons (ps_mid (ps_if (pt_cmpR (op_neSame (r64 hr)) (pe_heard (k := 6) hf hr (fun A outer s H E f c' hr' => (pe_callC B.state hr' passL (pa_cons (pv 2) (pa_cons (pv 8) pa_nil))))) (pe_tup (pa_cons pe_str (pa_cons (pe_callB cs (by rfl) T.z_repr (by decide +kernel) (pa_cons (pv 8) pa_nil)) pa_nil))) (nomark _))
        (pss_one (ps_ret pe_bl))
        pss_nil))
      (pss_cons (ps_mid (ps_if (pt_cmpR (op_neSame (r64 hr)) (pe_heard (k := 6) hf hr (fun A outer s H E f c' hr' => (pe_callC B.deed hr' passL (pa_cons (pv 2) (pa_cons (pv 9) pa_nil))))) (pe_tup (pa_cons pe_str (pa_cons (pe_callB cs (by rfl) T.z_repr (by decide +kernel) (pa_cons (pv 9) pa_nil)) pa_nil))) (nomark _))
        (pss_one (ps_ret pe_bl))
        pss_nil))
      (pss_cons (ps_set (i := 6) sc_law_none_right.nd rfl (by first | exact Or.inl rfl | exact Or.inr rfl) (pe_callC B.take hr pass0 (pa_cons (pv 0) (pa_cons (pv 4) pa_nil))))
      (pss_cons (ps_mid (ps_par (i := 10) (j := 11) (by rfl) sc_law_none_right.nd rfl rfl (by decide) rfl rfl (pa_cons (pe_callTy call_list_of (by rfl) T.z_list (by decide +kernel) (pa_cons (pe_ix ix_list (pv 1) (pv 6) (fun _ _ => rfl)) pa_nil)) (pa_cons (pe_callC B.take hr pass0 (pa_cons (pv 0) (pa_cons (pv 3) pa_nil))) pa_nil)) (by rfl)))
      (pss_cons (ps_mid (ps_set (i := 12) sc_law_none_right.nd rfl (by first | exact Or.inl rfl | exact Or.inr rfl) (pe_lst (pa_cons (pe_op op_cat (pe_op op_cat (pe_slice sl_list (pv 10) po_none (po_some (pv 11))) (pe_lst (pa_cons (pe_callC B.pick hr pass0 (pa_cons (pv 0) (pa_cons (pe_lst (pa_cons (pv 3) (pa_cons (pe_op op_sub pe_int pe_int) (pa_cons pe_bl (pa_cons pe_non (pa_cons pe_str (pa_cons (pe_tup (pa_cons pe_int pa_nil)) pa_nil))))))) pa_nil))) pa_nil))) (pe_slice sl_list (pv 10) (po_some (pe_op op_add (pv 11) pe_int)) po_none)) (pa_cons pe_non (pa_cons pe_int (pa_cons (pe_op op_noughts8 pe_str (pv 3)) pa_nil)))))))
      (pss_cons (ps_mid (ps_set (i := 12) sc_law_none_right.nd rfl (by first | exact Or.inl rfl | exact Or.inr rfl) (pe_op op_cat (pv 12) (pe_ifExp (pt_cmpR op_gt (pv 6) pe_int (nomark _)) (pe_lst (pa_cons (pe_op op_cat (pv 10) (pe_lst (pa_cons pe_int pa_nil))) (pa_cons (pe_slice sl_list (pv 10) (po_some pe_int) po_none) pa_nil))) (pe_lst (pa_cons (pe_lst pa_nil) (pa_cons (pe_op op_rep (pe_lst (pa_cons pe_int pa_nil)) pe_int) pa_nil)))))))
      (pss_cons (ps_mid (ps_if (pt_cmpR (op_neSame (r64 hr)) (pe_heard (k := 6) hf hr (fun A2 o2 s2 H2 E2 f2 c2 hr' => (by (show PE _ (Expr.Call (.Name "Machine" _) [.BinOp (.BinOp _ _ _ _) _ (.ListComp _ _ _ _) _] [] _) _; exact pe_mac (X := (LamX.lamCx (cxOf CX0 P w K mg base ["box", "tables", "machine", "many", "deeds", "row", "at", "bad", "odd", "none", "table", "spot", "some", "wide", "value", "one"] "_law_none_right" (defScope s_law_none_right) f (.ref cc) A outer s H E).nox A2 o2 s2 H2 E2 _ f2 c2)) (K := K) M TM hr' passL (pa_cons (pe_op op_cat (pe_op op_cat (pe_callTy (call_listK (K := K)) (by rfl) T.z_list (by decide +kernel) (pa_cons (pe_slice (sl_listK (K := K)) (pv 1) po_none (po_some (pv 6))) pa_nil)) (pe_lst (pa_cons (pe_callC B.pick hr' pass0 (pa_cons (pv 0) (pa_cons (pv 12) pa_nil))) pa_nil))) (pe_lc (scope := mComp) (own := [("one", 15)]) (by rfl) sc_law_none_right.nd (pi_listK (K := K) (pe_slice (sl_listK (K := K)) (pv 1) (po_some (pe_op op_add (pv 6) pe_int)) po_none)) (blkOk_by (own := [("one", 15)]) (N := ["box", "tables", "machine", "many", "deeds", "row", "at", "bad", "odd", "none", "table", "spot", "some", "wide", "value", "one"]) (by rfl)) (fun _ _ _ _ _ => (pg_name (i := 15) sc_law_none_right.nd rfl (by first | exact Or.inl rfl | exact Or.inr rfl))) (fun _ _ _ _ _ => pts_nil) (fun _ _ _ _ _ => pe_non))) pa_nil))))) (pe_tup (pa_cons pe_str (pa_cons (pv 6) (pa_cons pe_bl pa_nil)))) (nomark _))
        (pss_one (ps_ret pe_bl))
        pss_nil))
      (pss_cons (ps_mid (ps_if (pt_cmpR (op_neD (r64 hr)) (pe_lc (own := [("value", 14)]) (by rfl) sc_law_none_right.nd (pi_tup (pe_tup (pa_cons pe_non (pa_cons pe_int (pa_cons pe_str (pa_cons (pe_lst pa_nil) (pa_cons (pe_tup pa_nil) (pa_cons (pe_op op_rep (pe_lst (pa_cons (pe_tup (pa_cons pe_int pa_nil)) pa_nil)) pe_int) pa_nil)))))))) (blkOk_by (own := [("value", 14)]) (N := ["box", "tables", "machine", "many", "deeds", "row", "at", "bad", "odd", "none", "table", "spot", "some", "wide", "value", "one"]) (sc := defScope s_law_none_right) (by decide +kernel)) (fun _ _ _ _ _ => (pg_name (i := 14) sc_law_none_right.nd rfl (by first | exact Or.inl rfl | exact Or.inr rfl))) (fun _ _ _ _ _ => (pts_one (pt_cmpR (op_neSameK (K := K) (r64 hr)) (pe_heardB (k := 6) hf hr (fun A outer s H E f c' hr' => (pe_mac (K := K) M TM hr' passL (pa_cons (pv 14) pa_nil))) (by rfl)) (pe_tup (pa_cons pe_str (pa_cons (pe_op op_sub pe_int pe_int) (pa_cons pe_bl pa_nil)))) (nomark _)))) (fun _ _ _ _ _ => (pv 14))) (pe_lst pa_nil) (nomark _))
        (pss_one (ps_ret pe_bl))
        pss_nil))
      (pss_cons (ps_mid (ps_set (i := 13) sc_law_none_right.nd rfl (by first | exact Or.inl rfl | exact Or.inr rfl) (pe_mac (K := K) M TM hr pz (pa_cons (pe_op op_rep (pe_lst (pa_cons (pe_op op_rep (pe_lst (pa_cons pe_int pa_nil)) pe_int) pa_nil)) pe_int) pa_nil))))
      (pss_cons (ps_mid (ps_if (pt_cmpR (op_neNums (r64 hr)) (pe_tup (pa_cons (pe_fld (pv 13) rfl) (pa_cons (pe_fld (pv 13) rfl) pa_nil))) (pe_tup (pa_cons pe_int (pa_cons pe_int pa_nil))) (nomark _))
        (pss_one (ps_ret pe_bl))
        pss_nil))
      (pss_cons (ps_mid (ps_if (pt_cmpR op_gt (pe_callC B.take hr pass0 (pa_cons (pv 0) (pa_cons pe_int pa_nil))) pe_int (nomark _))
        (pss_one (ps_ret pe_bl))
        pss_nil))
      (pss_one (ps_ret (pe_and (pe_cmpR op_eq (pe_callB call_len_seq (by rfl) T.z_len PySem.boot_len (pa_cons (pe_callC B.row hr pz (pa_cons (pv 13) (pa_cons (pe_op op_rep (pe_lst (pa_cons pe_int pa_nil)) pe_int) pa_nil))) pa_nil)) pe_int (nomark _)) (pe_one (pe_cmpR (op_eqSame (r64 hr)) (pe_heard (k := 6) hf hr (fun A outer s H E f c' hr' => (pe_callC B.row hr' passL (pa_cons (pv 13) (pa_cons (pe_op op_rep (pe_lst (pa_cons pe_int pa_nil)) pe_int) pa_nil))))) (pe_tup (pa_cons pe_str (pa_cons (pe_op op_sub pe_int pe_int) (pa_cons pe_bl pa_nil)))) (nomark _))))))))))))))))))))))))))), ?_⟩
    have lps := rows.length
    have lt1 := ok.l1
    have lt4 := ok.l4
    have n1 := ok.n1
    have n8 := ok.n8
    obtain ⟨t0, ht0⟩ : ∃ t0, ts[0]? = some t0 := ⟨ts[0], List.getElem?_eq_getElem (by omega)⟩
    have ln0 : t0.length = n := ok.len _ (List.mem_of_getElem? ht0)
    have g0 : Go Ts b H H := .refl hb tabs
    refine ⟨fun σ' H' => ∃ m, σ' = sgN b Fa (some (.ref m)) (some (.int (n : Int))) (some (.int (ts.length : Int))) .none .none .none .none .none .none .none .none .none .none .none ∧ Go Ts b H H' ∧ McAt K CM H' m n ts, ?_, ?_⟩
    · refine ⟨_, rfl, fun x dx hx hdx ne => mc_make ok (.inl (SqL.of hF)) (rows.imp fun _ _ z => .inr z) hx hdx ne fun H1 e1 mc1 => ?_⟩
      obtain ⟨q0, hq0, sq0⟩ := rows.at_ ht0
      refine ⟨_, rfl, Fa, ps, 0, _, rfl, rfl, SqL.of (e1 _ _ hF), atI_nat hq0, q0, _, rfl, .inr (sqT_same e1 sq0), ?_⟩
      rw [List.length_map, ln0]
      refine ⟨_, rfl, Fa, ps, rfl, .inl (SqL.of (e1 _ _ hF)), (by show 3 ≤ sizeLine; decide), fun G hG => ?_⟩
      rw [lps]
      refine ⟨G, _, rfl, SqT.of upd_same, rfl, ?_⟩
      refine ⟨_, _, rfl, _, _, rfl, _, _, rfl, rfl, ?_⟩
      exact ⟨x, rfl, g0.same (e1.trans (same_new hG)), mc1.same (same_new hG)⟩
    rintro σ' H1 ⟨m, rfl, g1, mc1⟩
    obtain ⟨t1, hb1⟩ := g1.box
    have F1 := g1.lst Fb hF
    refine ⟨_, rfl, _, rfl, b, Fa, t1, ps, 6, rfl, hb1, Fb, SqL.of F1, by omega, by omega, by decide, fun gr row H2 m2 hg2 rok l6 => ?_⟩
    rw [lps] at rok
    obtain ⟨t2, hb2⟩ := m2.2
    refine ⟨_, rfl, _, rfl, gr, _, rfl, .inr hg2.sqT, _, _, rfl, rfl, b, t2, _, rfl, hb2, by omega, by rw [List.length_map]; omega, fun at0 H3 a0 a1 m3 => ?_⟩
    rw [List.length_map] at a1
    obtain ⟨k0, rfl⟩ : ∃ k : Nat, at0 = (k : Int) := ⟨at0.toNat, by omega⟩
    have hk : k0 ≤ row.length := by omega
    have g3 := (g1.mv m2).mv m3
    have mc3 := m3.mc hb2 (m2.mc hb1 mc1)
    have hg3 := m3.tupD hb2 hg2
    obtain ⟨t3, hb3⟩ := g3.box
    let Bv : V → Hp → Prop := fun x H' => (∃ d, Fl x d) ∨ ∃ a, x = .ref a ∧ SqT K H' a [.int 0]
    have cutA : cutV (row.map V.int) .none (some (k0 : Int)) = (row.take k0).map V.int := by rw [cut_to (by rw [List.length_map]; exact hk), List.map_take]
    have cutB : cutV (row.map V.int) (some (k0 : Int)) .none = (row.drop k0).map V.int := by rw [cut_from (by rw [List.length_map]; exact hk), List.map_drop]
    refine ⟨fun σ' H' => ∃ (bd : Addr) (x : V), σ' = sgN b Fa (some (.ref m)) (some (.int (n : Int))) (some (.int (ts.length : Int))) (some (.ref gr)) (some (.int (k0 : Int))) (some (.ref bd)) .none .none .none .none .none .none .none .none ∧ Go Ts b H H' ∧ McAt K CM H' m n ts ∧ SqT K H' bd ((row.take k0).map V.int ++ [x] ++ (row.drop k0).map V.int ++ [.non]) ∧ Bv x H' ∧ isBel (ts.length : Int) x = false, ?_, ?_⟩
    · refine ⟨_, rfl, _, rfl, _, rfl, gr, _, rfl, hg3.sqT, fun p1 H4 e4 hp1 => ?_⟩
      rw [cutA] at hp1
      refine ⟨_, rfl, _, rfl, _, _, rfl, rfl, (by show 1 ≤ sizeLine; decide), fun tw htw => ⟨(by show 6 ≤ sizeLine; decide), fun l5 hl5 => ?_⟩⟩
      have e5 := same_new (o := HO.tup [.int 0]) htw
      have u5 : L2.upd H4 tw (HO.tup [.int 0]) tw = some (HO.tup [.int 0]) := upd_same
      generalize L2.upd H4 tw (HO.tup [.int 0]) = H5 at *
      have e6 := same_new (o := HO.lst [.int (ts.length : Int), .int (0 - 1), .bl true, .non, .str "0", .ref tw]) hl5
      have u6 : L2.upd H5 l5 (HO.lst [.int (ts.length : Int), .int (0 - 1), .bl true, .non, .str "0", .ref tw]) l5 = some (HO.lst [.int (ts.length : Int), .int (0 - 1), .bl true, .non, .str "0", .ref tw]) := upd_same
      have tw6 := e6 _ _ u5
      have lb : l5 ≠ b := fun z => by rw [z, e5 _ _ (e4 _ _ hb3)] at hl5; cases hl5
      generalize L2.upd H5 l5 (HO.lst [.int (ts.length : Int), .int (0 - 1), .bl true, .non, .str "0", .ref tw]) = H6 at *
      have e46 := (e4.trans e5).trans e6
      refine ⟨b, l5, t3, _, rfl, e46 _ _ hb3, lb, SqL.of u6, (by show 0 < 6; decide), (by show 6 < 1073741824; decide), fun x H7 hx m7 => ?_⟩
      have hb6 := e46 _ _ hb3
      have tw7 := m7.sqT hb6 (SqT.of tw6 : SqT K H6 tw [.int 0])
      have fx : Bv x H7 ∧ isBel (ts.length : Int) x = false := by
        simp only [List.mem_cons, List.not_mem_nil, or_false] at hx
        rcases hx with rfl | rfl | rfl | rfl | rfl | rfl
        · exact ⟨.inl ⟨_, .int _⟩, no_bel fun i h => by cases h; exact .inr (Int.le_refl _)⟩
        · exact ⟨.inl ⟨_, .int _⟩, rfl⟩
        · exact ⟨.inl ⟨_, .bl _⟩, rfl⟩
        · exact ⟨.inl ⟨_, .non⟩, rfl⟩
        · exact ⟨.inl ⟨_, .str _⟩, rfl⟩
        · exact ⟨.inr ⟨_, rfl, tw7⟩, rfl⟩
      have p17 := m7.sqT hb6 (sqT_same (e5.trans e6) hp1)
      have hg7 := m7.tupD hb6 (hg3.same e46)
      have g7 := (g3.same e46).mv m7
      have mc7 := m7.mc hb6 (mc3.same e46)
      refine ⟨(by show 1 ≤ sizeLine; decide), fun tp htp => ?_⟩
      have e8 := same_new (o := HO.tup [x]) htp
      refine ⟨p1, tp, _, _, rfl, rfl, sqT_same e8 p17, SqT.of upd_same, by rw [List.length_map, List.length_take, sizeLine_eq]; show _ + 1 ≤ _; omega, fun p2 H9 e9 hp2 => ?_⟩
      have e89 := e8.trans e9
      refine ⟨_, rfl, _, rfl, _, rfl, gr, _, rfl, (hg7.same e89).sqT, fun p3 HA eA hp3 => ?_⟩
      rw [cutB] at hp3
      refine ⟨p2, p3, _, _, rfl, rfl, sqT_same eA hp2, hp3, by rw [List.length_append, List.length_map, List.length_map, List.length_take, List.length_drop, sizeLine_eq]; show _ + 1 + _ ≤ _; omega, fun p4 HB eB hp4 => ?_⟩
      refine ⟨(by show 1 ≤ sizeLine; decide), fun tn htn => ?_⟩
      have eC := same_new (o := HO.tup [.non]) htn
      refine ⟨p4, tn, _, _, rfl, rfl, sqT_same eC hp4, SqT.of upd_same, by rw [List.length_append, List.length_append, List.length_map, List.length_map, List.length_take, List.length_drop, sizeLine_eq]; show _ + 1 + _ + 1 ≤ _; omega, fun p5 HD eD hp5 => ?_⟩
      have e := e89.trans (eA.trans (eB.trans (eC.trans eD)))
      exact ⟨p5, x, rfl, g7.same e, mc7.same e, hp5, fx.1.imp id fun ⟨a, h1, h2⟩ => ⟨a, h1, sqT_same e h2⟩, fx.2⟩
    rintro σ' H4 ⟨bd, bx_, rfl, g4, mc4, hbd4, bv4, nb⟩
    let bad : List V := (row.take k0).map V.int ++ [bx_] ++ (row.drop k0).map V.int ++ [.non]
    refine ⟨fun σ' H' => ∃ (od nn : V) (d1 d2 : PyData), σ' = sgN b Fa (some (.ref m)) (some (.int (n : Int))) (some (.int (ts.length : Int))) (some (.ref gr)) (some (.int (k0 : Int))) (some (.ref bd)) (some od) (some nn) .none .none .none .none .none .none ∧ Go Ts b H H' ∧ McAt K CM H' m n ts ∧ SqT K H' bd bad ∧ Bv bx_ H' ∧ Fl od d1 ∧ isBel (n : Int) od = false ∧ OkD 0 3000 d1 ∧ Fl nn d2 ∧ isBel (ts.length : Int) nn = false ∧ OkD 0 3000 d2, ?_, ?_⟩
    · obtain ⟨t4, hb4⟩ := g4.box
      have five : ∀ (l : Nat) (v : V), l ≤ 8 → v ∈ [V.int (l : Int), .int (0 - 1), .bl true, .non, .str "0"] → ∃ d, Fl v d ∧ isBel (l : Int) v = false ∧ OkD 0 3000 d := fun l v hl hv => by
        simp only [List.mem_cons, List.not_mem_nil, or_false] at hv
        rcases hv with rfl | rfl | rfl | rfl | rfl
        · exact ⟨_, .int _, no_bel fun i h => by cases h; exact .inr (Int.le_refl _), (okD_small (by omega)).mono (Nat.le_refl _) (by decide)⟩
        · exact ⟨_, .int _, no_bel fun i h => by cases h; exact .inl (by decide), (okD_small (by decide)).mono (Nat.le_refl _) (by decide)⟩
        · exact ⟨_, .bl _, rfl, (okD_bl _).mono (Nat.le_refl _) (by decide)⟩
        · exact ⟨_, .non, rfl, okD_non.mono (Nat.le_refl _) (by decide)⟩
        · exact ⟨_, .str _, rfl, okD_str (by decide +kernel)⟩
      refine ⟨_, rfl, _, rfl, _, _, rfl, rfl, (by show 5 ≤ sizeLine; decide), fun l5 hl5 => ?_⟩
      have e5 := same_new (o := HO.lst [.int (n : Int), .int (0 - 1), .bl true, .non, .str "0"]) hl5
      have hb5 := e5 _ _ hb4
      refine ⟨b, l5, t4, _, rfl, hb5, (fun z => by rw [z, hb4] at hl5; cases hl5), SqL.of upd_same, (by show 0 < 5; decide), (by show 5 < 1073741824; decide), fun od H6 hod m6 => ?_⟩
      obtain ⟨t6, hb6⟩ := m6.2
      refine ⟨_, rfl, _, rfl, _, _, rfl, rfl, (by show 5 ≤ sizeLine; decide), fun l7 hl7 => ?_⟩
      have e7 := same_new (o := HO.lst [.int (ts.length : Int), .int (0 - 1), .bl true, .non, .str "0"]) hl7
      have hb7 := e7 _ _ hb6
      refine ⟨b, l7, t6, _, rfl, hb7, (fun z => by rw [z, hb6] at hl7; cases hl7), SqL.of upd_same, (by show 0 < 5; decide), (by show 5 < 1073741824; decide), fun nn H8 hnn m8 => ?_⟩
      obtain ⟨d1, f1, b1, o1⟩ := five n od (by omega) hod
      obtain ⟨d2, f2, b2, o2⟩ := five ts.length nn (by omega) hnn
      refine ⟨(by show 2 ≤ sizeLine; decide), fun G hG => ⟨G, _, rfl, SqT.of upd_same, rfl, ?_⟩⟩
      refine ⟨_, _, rfl, _, _, rfl, rfl, ?_⟩
      have e9 := same_new (o := HO.tup [od, nn]) hG
      have sq : ∀ {a : Addr} {xs : List V}, SqT K H4 a xs → SqT K (L2.upd H8 G (.tup [od, nn])) a xs := fun z => sqT_same e9 (m8.sqT hb7 (sqT_same e7 (m6.sqT hb5 (sqT_same e5 z))))
      exact ⟨od, nn, d1, d2, rfl, ((((g4.same e5).mv m6).same e7).mv m8).same e9, (m8.mc hb7 ((m6.mc hb5 (mc4.same e5)).same e7)).same e9, sq hbd4, bv4.imp id fun ⟨a, h1, h2⟩ => ⟨a, h1, sq h2⟩, f1, b1, o1, f2, b2, o2⟩
    clear hbd4 bv4 mc4 g4
    rintro σ' H4 ⟨od, nn, d1, d2, rfl, g4, mc4, hbd4, bv4, fo, bo, oo, fn_, bn, on⟩
    let WN : L2.St → Hp → Prop := fun σ' H' => ∃ x10 x11 x12 x13 x14 x15, σ' = sgN b Fa (some (.ref m)) (some (.int (n : Int))) (some (.int (ts.length : Int))) (some (.ref gr)) (some (.int (k0 : Int))) (some (.ref bd)) (some od) (some nn) x10 x11 x12 x13 x14 x15 ∧ Go Ts b H H' ∧ McAt K CM H' m n ts ∧ SqT K H' bd bad ∧ Bv bx_ H'
    have badK : ∀ {H' : Hp}, Bv bx_ H' → Kns K H' (some bad) 400 := fun bv xs q _ x hx => by
      cases q
      rcases List.mem_append.mp hx with hx | hx
      · rcases List.mem_append.mp hx with hx | hx
        · rcases List.mem_append.mp hx with hx | hx
          · obtain ⟨z, _, rfl⟩ := List.mem_map.mp hx
            exact .int z
          · rw [List.mem_singleton.mp hx]
            rcases bv with ⟨d, h⟩ | ⟨a, h1, h2⟩
            · exact h.kn
            · rw [h1]
              exact .seq (.inr h2)
        · obtain ⟨z, _, rfl⟩ := List.mem_map.mp hx
          exact .int z
      · rw [List.mem_singleton.mp hx]
        exact .non
    have badL : bad.length ≤ 400 := by
      show ((row.take k0).map V.int ++ [bx_] ++ (row.drop k0).map V.int ++ [V.non]).length ≤ 400
      simp only [List.length_append, List.length_map, List.length_take, List.length_drop, List.length_singleton]
      omega
    have badAt : rowAt ts.length (some bad) = some (k0 : Int) := by
      show (if bad.length ≤ 400 then (fnb ts.length bad).map (fun (i : Nat) => (i : Int)) else some (-1)) = _
      rw [if_pos badL, fnb_some (i := k0) (fun j z hj hz => ?_) ⟨bx_, ?_, nb⟩]
      · rfl
      · show ((row.take k0).map V.int ++ [bx_] ++ (row.drop k0).map V.int ++ [V.non])[k0]? = some bx_
        rw [List.append_assoc, List.append_assoc, List.getElem?_append_right (by rw [List.length_map, List.length_take]; omega), List.length_map, List.length_take, Nat.min_eq_left hk, Nat.sub_self]
        rfl
      · have hz : ((row.take k0).map V.int ++ [bx_] ++ (row.drop k0).map V.int ++ [V.non])[j]? = some z := hz
        rw [List.append_assoc, List.append_assoc, List.getElem?_append_left (by rw [List.length_map, List.length_take]; omega), List.getElem?_map] at hz
        obtain ⟨y, hy, rfl⟩ := Option.map_eq_some_iff.mp hz
        exact isBel_iff.mpr (rok y (List.mem_of_mem_take (List.mem_of_getElem? hy)))
    have bvE : ∀ {H1 H2 : Hp}, (∀ (a : Addr) (xs : List V), SqT K H1 a xs → SqT K H2 a xs) → Bv bx_ H1 → Bv bx_ H2 := fun e h => h.imp id fun ⟨a, h1, h2⟩ => ⟨a, h1, e _ _ h2⟩
    have st : isBel (n : Int) (.int 0) = true := isBel_iff.mpr (by omega)
    have keepW : ∀ {x10 x11 x12 x13 x14 x15 : Option V} {Ha Hb Hc : Hp}, Go Ts b H Ha → McAt K CM Ha m n ts → SqT K Ha bd bad → Bv bx_ Ha → LamX.ExtN Ha Hb → LamX.Tabs Ts Hb → Same Hb Hc →
        WN (sgN b Fa (some (.ref m)) (some (.int (n : Int))) (some (.int (ts.length : Int))) (some (.ref gr)) (some (.int (k0 : Int))) (some (.ref bd)) (some od) (some nn) x10 x11 x12 x13 x14 x15) Hc := fun g mc hbd bv x tb e =>
      ⟨_, _, _, _, _, _, rfl, (g.ext x tb).same e, (ext_mc x mc).same e, sqT_same e (ext_sqT x hbd), bvE (fun _ _ z => sqT_same e (ext_sqT x z)) bv⟩
    have no : ∀ {P : Prop} {b : Bool}, b = true → b = false → P := fun h1 h2 => by rw [h1] at h2; cases h2
    have no' : ∀ {P : Prop} {b : Bool}, b = false → b = true → P := fun h1 h2 => by rw [h1] at h2; cases h2
    have flat3 : ∀ {s1 : Str} {i : Int} {b1 : Bool}, ∀ v ∈ [V.str s1, .int i, .bl b1], flatB v = true ∨ ∃ c, v = .ref c := fun v hv => by
      simp only [List.mem_cons, List.not_mem_nil, or_false] at hv
      rcases hv with rfl | rfl | rfl <;> exact .inl rfl
    have flat2 : ∀ {s1 s2 : Str}, ∀ v ∈ [V.str s1, .str s2], flatB v = true ∨ ∃ c, v = .ref c := fun v hv => by
      simp only [List.mem_cons, List.not_mem_nil, or_false] at hv
      rcases hv with rfl | rfl <;> exact .inl rfl
    have nokns : ∀ {H' : Hp}, Kns K H' .none 400 := fun xs q => nomatch q
    refine ⟨WN, ?_, ?_⟩
    · refine ⟨g4.tabs, fun H5 x5 tb5 => ?_⟩
      refine ⟨_, rfl, _, rfl, m, n, ts, _, _, rfl, ext_mc x5 mc4, .seq (.inr (ext_sqT x5 hbd4)), badK (bvE (fun _ _ => ext_sqT x5) bv4), fun i z => ?_, fun z => by rw [badAt] at z; cases z⟩
      rw [badAt] at z
      cases z
      refine fun d H6 e6 hd => ⟨d, rfl, .inr (.inl ⟨rfl, _, hd, fun p H7 e7 hp => ?_⟩)⟩
      refine ⟨_, rfl, (by show 3 ≤ sizeLine; decide), fun u hu => ?_⟩
      have e8 := same_new (o := HO.tup [.str "row", .int (k0 : Int), .bl true]) hu
      refine ⟨p, u, _, rfl, rfl, sqT_same e8 hp, SqT.of upd_same, flat3, _, rfl, iteF ?_⟩
      exact keepW g4 mc4 hbd4 bv4 x5 tb5 (e6.trans (e7.trans e8))
    clear g4 mc4 hbd4 bv4
    rintro σ' H4 ⟨x10, x11, x12, x13, x14, x15, rfl, g4, mc4, hbd4, bv4⟩
    refine ⟨WN, ?_, ?_⟩
    · refine ⟨g4.tabs, fun H5 x5 tb5 => ?_⟩
      refine ⟨_, rfl, _, rfl, m, n, ts, _, _, _, rfl, ext_mc x5 mc4, .int _, .seq (.inr (ext_sqT x5 hbd4)), badK (bvE (fun _ _ => ext_sqT x5) bv4), no st, fun _ => ⟨fun i z => ?_, fun z => by rw [badAt] at z; cases z⟩⟩
      rw [badAt] at z
      cases z
      refine fun d H6 e6 hd => ⟨d, rfl, .inr (.inl ⟨rfl, _, hd, fun p H7 e7 hp => ?_⟩)⟩
      refine ⟨_, rfl, (by show 3 ≤ sizeLine; decide), fun u hu => ?_⟩
      have e8 := same_new (o := HO.tup [.str "row", .int (k0 : Int), .bl true]) hu
      refine ⟨p, u, _, rfl, rfl, sqT_same e8 hp, SqT.of upd_same, flat3, _, rfl, iteF ?_⟩
      exact keepW g4 mc4 hbd4 bv4 x5 tb5 (e6.trans (e7.trans e8))
    clear g4 mc4 hbd4 bv4
    rintro σ' H4 ⟨x10, x11, x12, x13, x14, x15, rfl, g4, mc4, hbd4, bv4⟩
    refine ⟨WN, ?_, ?_⟩
    · refine ⟨(by show 3 ≤ sizeLine; decide), fun tv htv => ⟨tv, rfl, ⟨_, SqT.of upd_same⟩, fun D2 hD2 => ?_⟩⟩
      have e5 := same_new (o := HO.tup [.non, .int 0, .str "0"]) htv
      have u5 : SqT K (L2.upd H4 tv (HO.tup [.non, .int 0, .str "0"])) tv [.non, .int 0, .str "0"] := SqT.of upd_same
      generalize L2.upd H4 tv (HO.tup [.non, .int 0, .str "0"]) = H5 at *
      have e6 := same_new (o := HO.lst []) hD2
      have u6 : L2.upd H5 D2 (HO.lst []) D2 = some (HO.lst []) := upd_same
      have tv6 := sqT_same e6 u5
      have e46 := e5.trans e6
      refine lc_tup (xs := [.non, .int 0, .str "0"]) (fun i H' => LamX.ExtN (L2.upd H5 D2 (HO.lst [])) H' ∧ LamX.Tabs Ts H') ⟨.refl _, g4.tabs.ext e46⟩ (fun i H' _ z => ext_sqT z.1 tv6) ?_ ?_
      · rintro i y H7 hy ⟨x7, tb7⟩
        have hy := List.mem_of_getElem? hy
        have ly : Long K H7 y .none := by
          simp only [List.mem_cons, List.not_mem_nil, or_false] at hy
          rcases hy with rfl | rfl | rfl
          · exact .non
          · exact .int 0
          · exact .str _
        refine ⟨rfl, ?_⟩
        refine ⟨tb7, fun H8 x8 tb8 => ?_⟩
        have mc8 := ext_mc x8 (ext_mc x7 (mc4.same e46))
        have ly8 : Long K H8 y .none := by
          cases ly with
          | non => exact .non
          | bl b => exact .bl b
          | int i => exact .int i
          | str z => exact .str z
        refine ⟨_, rfl, _, rfl, m, n, ts, y, .none, rfl, mc8, ly8, nokns, fun j z => ?_, fun z => nomatch z⟩
        cases z
        refine fun d H9 e9 hd => ⟨d, rfl, .inr (.inl ⟨rfl, _, hd, fun p HA eA hp => ?_⟩)⟩
        refine ⟨_, _, rfl, rfl, (by show 3 ≤ sizeLine; decide), fun u hu => ?_⟩
        have eB := same_new (o := HO.tup [.str "row", .int (0 - 1), .bl true]) hu
        refine ⟨p, u, _, rfl, rfl, sqT_same eB hp, SqT.of upd_same, flat3, _, rfl, iteF ?_⟩
        have e9B := e9.trans (eA.trans eB)
        exact ⟨(x7.trans x8).trans (ext_of e9B), tb8.ext e9B⟩
      · rintro H7 ⟨x7, tb7⟩
        refine ⟨(by show 0 ≤ sizeLine; decide), fun l2 hl2 => ?_⟩
        have e8 := same_new (o := HO.lst []) hl2
        refine ⟨_, _, .lst (SqL.of (e8 _ _ (x7 _ _ u6 (fun _ z => nomatch z)))) .nil, .lst (SqL.of upd_same) .nil, shaped_nil, shaped_nil, ?_⟩
        refine ⟨_, rfl, ?_⟩
        have ev : PyData.eqv (.list []) (.list []) = true := by simp only [PyData.eqv, PyData.eqvAll]
        rw [ev]
        exact iteF (keepW (g4.same e46) (mc4.same e46) (sqT_same e46 hbd4) (bvE (fun _ _ => sqT_same e46) bv4) x7 tb7 e8)
    clear g4 mc4 hbd4 bv4
    rintro σ' H4 ⟨x10, x11, x12, x13, x14, x15, rfl, g4, mc4, hbd4, bv4⟩
    refine ⟨WN, ?_, ?_⟩
    · refine ⟨g4.tabs, fun H5 x5 tb5 => ?_⟩
      refine ⟨_, rfl, _, rfl, m, n, ts, _, _, _, rfl, ext_mc x5 mc4, fo.kn, .non, nokns, fun _ => ?_, no' bo⟩
      refine fun d H6 e6 hd => ⟨d, rfl, .inr (.inr (.inl ⟨rfl, _, _, hd, ⟨fo.dp, oo.sh, oo.nd, oo.d60, oo.line⟩, fun p H7 e7 hp => ?_⟩))⟩
      refine ⟨_, rfl, _, _, rfl, fo.dp, oo.sh, oo.nd, oo.d60, oo.line, (by show 2 ≤ sizeLine; decide), fun u hu => ?_⟩
      have e8 := same_new (o := HO.tup [.str "state", .str d1.shown]) hu
      refine ⟨p, u, _, rfl, rfl, sqT_same e8 hp, SqT.of upd_same, flat2, _, rfl, iteF ?_⟩
      exact keepW g4 mc4 hbd4 bv4 x5 tb5 (e6.trans (e7.trans e8))
    clear g4 mc4 hbd4 bv4
    rintro σ' H4 ⟨x10, x11, x12, x13, x14, x15, rfl, g4, mc4, hbd4, bv4⟩
    refine ⟨WN, ?_, ?_⟩
    · refine ⟨g4.tabs, fun H5 x5 tb5 => ?_⟩
      refine ⟨_, rfl, _, rfl, m, n, ts, _, rfl, ext_mc x5 mc4, fo.kn, fun _ => ?_, no' bo⟩
      refine fun d H6 e6 hd => ⟨d, rfl, .inr (.inr (.inl ⟨rfl, _, _, hd, ⟨fo.dp, oo.sh, oo.nd, oo.d60, oo.line⟩, fun p H7 e7 hp => ?_⟩))⟩
      refine ⟨_, rfl, _, _, rfl, fo.dp, oo.sh, oo.nd, oo.d60, oo.line, (by show 2 ≤ sizeLine; decide), fun u hu => ?_⟩
      have e8 := same_new (o := HO.tup [.str "state", .str d1.shown]) hu
      refine ⟨p, u, _, rfl, rfl, sqT_same e8 hp, SqT.of upd_same, flat2, _, rfl, iteF ?_⟩
      exact keepW g4 mc4 hbd4 bv4 x5 tb5 (e6.trans (e7.trans e8))
    clear g4 mc4 hbd4 bv4
    rintro σ' H4 ⟨x10, x11, x12, x13, x14, x15, rfl, g4, mc4, hbd4, bv4⟩
    refine ⟨WN, ?_, ?_⟩
    · refine ⟨g4.tabs, fun H5 x5 tb5 => ?_⟩
      refine ⟨_, rfl, _, rfl, m, n, ts, _, rfl, ext_mc x5 mc4, fo.kn, fun _ => ?_, no' bo⟩
      refine fun d H6 e6 hd => ⟨d, rfl, .inr (.inr (.inl ⟨rfl, _, _, hd, ⟨fo.dp, oo.sh, oo.nd, oo.d60, oo.line⟩, fun p H7 e7 hp => ?_⟩))⟩
      refine ⟨_, rfl, _, _, rfl, fo.dp, oo.sh, oo.nd, oo.d60, oo.line, (by show 2 ≤ sizeLine; decide), fun u hu => ?_⟩
      have e8 := same_new (o := HO.tup [.str "state", .str d1.shown]) hu
      refine ⟨p, u, _, rfl, rfl, sqT_same e8 hp, SqT.of upd_same, flat2, _, rfl, iteF ?_⟩
      exact keepW g4 mc4 hbd4 bv4 x5 tb5 (e6.trans (e7.trans e8))
    clear g4 mc4 hbd4 bv4
    rintro σ' H4 ⟨x10, x11, x12, x13, x14, x15, rfl, g4, mc4, hbd4, bv4⟩
    refine ⟨WN, ?_, ?_⟩
    · refine ⟨g4.tabs, fun H5 x5 tb5 => ?_⟩
      refine ⟨_, rfl, _, rfl, m, n, ts, _, rfl, ext_mc x5 mc4, fn_.kn, fun _ => ?_, no' bn⟩
      refine fun d H6 e6 hd => ⟨d, rfl, .inr (.inr (.inr ⟨rfl, _, _, hd, ⟨fn_.dp, on.sh, on.nd, on.d60, on.line⟩, fun p H7 e7 hp => ?_⟩))⟩
      refine ⟨_, rfl, _, _, rfl, fn_.dp, on.sh, on.nd, on.d60, on.line, (by show 2 ≤ sizeLine; decide), fun u hu => ?_⟩
      have e8 := same_new (o := HO.tup [.str "deed", .str d2.shown]) hu
      refine ⟨p, u, _, rfl, rfl, sqT_same e8 hp, SqT.of upd_same, flat2, _, rfl, iteF ?_⟩
      exact keepW g4 mc4 hbd4 bv4 x5 tb5 (e6.trans (e7.trans e8))
    clear g4 mc4 hbd4 bv4
    rintro σ' H4 ⟨x10, x11, x12, x13, x14, x15, rfl, g4, mc4, hbd4, bv4⟩
    obtain ⟨t4, hb4⟩ := g4.box
    refine ⟨_, rfl, _, rfl, b, t4, _, rfl, hb4, by omega, by omega, fun ra H5 ra0 ra1 m5 => ?_⟩
    obtain ⟨at_, rfl⟩ : ∃ k : Nat, ra = (k : Int) := ⟨ra.toNat, by omega⟩
    have ha : at_ < ts.length := by omega
    have hta : ts[at_]? = some ts[at_] := List.getElem?_eq_getElem ha
    have lna : (ts[at_]).length = n := ok.len _ (List.mem_of_getElem? hta)
    refine ⟨fun σ' H' => ∃ (B0 : Addr) (spot : Nat) (x12 x13 x14 x15 : Option V), σ' = sgN b Fa (some (.ref m)) (some (.int (n : Int))) (some (.int (ts.length : Int))) (some (.ref gr)) (some (.int (at_ : Int))) (some (.ref bd)) (some od) (some nn) (some (.ref B0)) (some (.int (spot : Int))) x12 x13 x14 x15 ∧ Go Ts b H H' ∧ B0 ≠ b ∧ H' B0 = some (.lst ((ts[at_]).map V.int)) ∧ spot < n, ?_, ?_⟩
    · have g5 := g4.mv m5
      obtain ⟨t5, hb5⟩ := g5.box
      have F5 := g5.lst Fb hF
      obtain ⟨qa, hqa, sqa⟩ := (g5.rows hb rows).at_ hta
      refine ⟨_, rfl, _, rfl, Fa, ps, _, _, rfl, rfl, SqL.of F5, atI_nat hqa, qa, _, rfl, .inr sqa, fun B0 hB => ?_⟩
      have e6 := same_new (o := HO.lst ((ts[at_]).map V.int)) hB
      have Bb : B0 ≠ b := fun z => by rw [z, hb5] at hB; cases hB
      refine ⟨_, rfl, _, rfl, b, t5, n, rfl, e6 _ _ hb5, by omega, by omega, fun sp H7 s0 s1 m7 => ?_⟩
      obtain ⟨spot, rfl⟩ : ∃ k : Nat, sp = (k : Int) := ⟨sp.toNat, by omega⟩
      exact ⟨_, _, rfl, B0, spot, _, _, _, _, rfl, (g5.same e6).mv m7, Bb, m7.1 _ _ Bb upd_same, by omega⟩
    clear g4 mc4 hbd4 bv4 x10 x11 x12 x13 x14 x15 hb4
    rintro σ' H4 ⟨B0, spot, x12, x13, x14, x15, rfl, g4, Bb, hB4, hs⟩
    -- what is no table: no object, or a list of known things
    let Uv : V → Hp → Prop := fun v H' => ((∃ d, Fl v d) ∨ ∃ l xs, v = .ref l ∧ l ≠ b ∧ H' l = some (.lst xs) ∧ isTab (if at_ = 0 then xs.length else n) (some xs) = false ∧ (xs.length ≤ 8 → ∀ x ∈ xs, (∃ d, Fl x d) ∨ ∃ a, x = .ref a ∧ SqT K H' a [.int 0]))
    have UvE : ∀ {v : V} {H1 H2 : Hp}, (∀ l xs, l ≠ b → H1 l = some (.lst xs) → H2 l = some (.lst xs)) → (∀ (a : Addr) (xs : List V), SqT K H1 a xs → SqT K H2 a xs) → Uv v H1 → Uv v H2 := fun e1 e2 h => h.imp id fun ⟨l, xs, h1, h2, h3, h4, h5⟩ => ⟨l, xs, h1, h2, e1 _ _ h2 h3, h4, fun z x hx => (h5 z x hx).imp id fun ⟨a, h6, h7⟩ => ⟨a, h6, e2 _ _ h7⟩⟩
    have UvS : ∀ {v : V} {H1 H2 : Hp}, Same H1 H2 → Uv v H1 → Uv v H2 := fun e h => UvE (fun _ _ _ z => e _ _ z) (fun _ _ => sqT_same e) h
    have hx0 : (ts[at_])[spot]? = some (ts[at_])[spot] := List.getElem?_eq_getElem (by omega)
    have cut1 : cutV ((ts[at_]).map V.int) .none (some (spot : Int)) = ((ts[at_]).take spot).map V.int := by rw [cut_to (by rw [List.length_map]; omega), List.map_take]
    have cut2 : cutV ((ts[at_]).map V.int) (some ((spot : Int) + 1)) .none = ((ts[at_]).drop (spot + 1)).map V.int := by
      have := cut_from (xs := (ts[at_]).map V.int) (i := spot + 1) (by rw [List.length_map]; omega)
      rw [List.map_drop]
      exact this
    have cut3 : cutV ((ts[at_]).map V.int) (some 1) .none = ((ts[at_]).drop 1).map V.int := by
      have := cut_from (xs := (ts[at_]).map V.int) (i := 1) (by rw [List.length_map]; omega)
      rw [List.map_drop]
      exact this
    refine ⟨fun σ' H' => ∃ (ls : Addr) (us : List V) (x13 x14 x15 : Option V), σ' = sgN b Fa (some (.ref m)) (some (.int (n : Int))) (some (.int (ts.length : Int))) (some (.ref gr)) (some (.int (at_ : Int))) (some (.ref bd)) (some od) (some nn) (some (.ref B0)) (some (.int (spot : Int))) (some (.ref ls)) x13 x14 x15 ∧ Go Ts b H H' ∧ H' B0 = some (.lst ((ts[at_]).map V.int)) ∧ H' ls = some (.lst us) ∧ us.length = 4 ∧ ∀ v ∈ us, Uv v H', ?_, ?_⟩
    · obtain ⟨t4, hb4⟩ := g4.box
      refine ⟨_, rfl, _, rfl, _, rfl, B0, _, rfl, SqL.of hB4, fun c hc => ?_⟩
      rw [cut1]
      have e5 := same_new (o := HO.lst (((ts[at_]).take spot).map V.int)) hc
      have c5 : L2.upd H4 c (HO.lst (((ts[at_]).take spot).map V.int)) c = some (HO.lst (((ts[at_]).take spot).map V.int)) := upd_same
      have cb : c ≠ b := fun z => by rw [z, hb4] at hc; cases hc
      generalize L2.upd H4 c (HO.lst (((ts[at_]).take spot).map V.int)) = H5 at *
      refine ⟨_, rfl, _, rfl, _, _, rfl, rfl, (by show 1 ≤ sizeLine; decide), fun tw htw => ⟨(by show 6 ≤ sizeLine; decide), fun l5 hl5 => ?_⟩⟩
      have e6 := same_new (o := HO.tup [.int 0]) htw
      have u6 : L2.upd H5 tw (HO.tup [.int 0]) tw = some (HO.tup [.int 0]) := upd_same
      generalize L2.upd H5 tw (HO.tup [.int 0]) = H6 at *
      have e7 := same_new (o := HO.lst [.int (n : Int), .int (0 - 1), .bl true, .non, .str "0", .ref tw]) hl5
      have u7 : L2.upd H6 l5 (HO.lst [.int (n : Int), .int (0 - 1), .bl true, .non, .str "0", .ref tw]) l5 = some (HO.lst [.int (n : Int), .int (0 - 1), .bl true, .non, .str "0", .ref tw]) := upd_same
      have e57 := (e5.trans e6).trans e7
      have lb : l5 ≠ b := fun z => by rw [z, (e5.trans e6) _ _ hb4] at hl5; cases hl5
      generalize L2.upd H6 l5 (HO.lst [.int (n : Int), .int (0 - 1), .bl true, .non, .str "0", .ref tw]) = H7 at *
      have hb7 := e57 _ _ hb4
      refine ⟨b, l5, t4, _, rfl, hb7, lb, SqL.of u7, (by show 0 < 6; decide), (by show 6 < 1073741824; decide), fun x H8 hx m8 => ?_⟩
      have tw8 := m8.sqT hb7 (SqT.of (e7 _ _ u6) : SqT K H7 tw [.int 0])
      have fx : ((∃ d, Fl x d) ∨ ∃ a, x = .ref a ∧ SqT K H8 a [.int 0]) ∧ isBel (n : Int) x = false := by
        simp only [List.mem_cons, List.not_mem_nil, or_false] at hx
        rcases hx with rfl | rfl | rfl | rfl | rfl | rfl
        · exact ⟨.inl ⟨_, .int _⟩, no_bel fun i h => by cases h; exact .inr (Int.le_refl _)⟩
        · exact ⟨.inl ⟨_, .int _⟩, rfl⟩
        · exact ⟨.inl ⟨_, .bl _⟩, rfl⟩
        · exact ⟨.inl ⟨_, .non⟩, rfl⟩
        · exact ⟨.inl ⟨_, .str _⟩, rfl⟩
        · exact ⟨.inr ⟨_, rfl, tw8⟩, rfl⟩
      have c8 := m8.1 _ _ cb ((e6.trans e7) _ _ c5)
      have g8 := (g4.same e57).mv m8
      have B8 := m8.1 _ _ Bb (e57 _ _ hB4)
      clear u6 u7 tw8 c5
      refine ⟨(by show 1 ≤ sizeLine; decide), fun d hd => ?_⟩
      have e9 := same_new (o := HO.lst [x]) hd
      refine ⟨c, d, _, _, rfl, rfl, e9 _ _ c8, upd_same, by rw [List.length_map, List.length_take, sizeLine_eq]; show _ + 1 ≤ _; omega, fun g2 hg2 => ?_⟩
      have eA := e9.trans (same_new (o := HO.lst (((ts[at_]).take spot).map V.int ++ [x])) hg2)
      refine ⟨_, rfl, _, rfl, _, _, rfl, rfl, _, rfl, B0, _, rfl, SqL.of (eA _ _ B8), fun j hj => ?_⟩
      rw [cut2]
      have eB' := same_new (o := HO.lst (((ts[at_]).drop (spot + 1)).map V.int)) hj
      have eB := eA.trans eB'
      refine ⟨g2, j, _, _, rfl, rfl, eB' _ _ upd_same, upd_same, by rw [List.length_append, List.length_map, List.length_map, List.length_take, List.length_drop, sizeLine_eq]; show _ + 1 + _ ≤ _; omega, fun l hl => ?_⟩
      have eC := eB.trans (same_new (o := HO.lst (((ts[at_]).take spot).map V.int ++ [x] ++ ((ts[at_]).drop (spot + 1)).map V.int)) hl)
      have lnb : l ≠ b := fun z => by
        obtain ⟨t8, hb8⟩ := g8.box
        rw [z, eB _ _ hb8] at hl
        cases hl
      refine ⟨_, rfl, n, rfl, rfl, n1, n5, (by show 4 ≤ sizeLine; decide), fun ls hls => ?_⟩
      have eD' := same_new (o := HO.lst [.ref l, .non, .int 0, .str (zeros n)]) hls
      have eD := eC.trans eD'
      refine ⟨ls, _, _, _, _, rfl, g8.same eD, eD _ _ B8, upd_same, rfl, fun v hv => ?_⟩
      simp only [List.mem_cons, List.not_mem_nil, or_false] at hv
      rcases hv with rfl | rfl | rfl | rfl
      · refine .inr ⟨l, _, rfl, lnb, eD' _ _ upd_same, ?_, fun _ z hz => ?_⟩
        · have len : (((ts[at_]).take spot).map V.int ++ [x] ++ ((ts[at_]).drop (spot + 1)).map V.int).length = n := by
            simp only [List.length_append, List.length_map, List.length_take, List.length_drop, List.length_singleton]
            omega
          rw [len, ite_self]
          cases e : isTab n (some (((ts[at_]).take spot).map V.int ++ [x] ++ ((ts[at_]).drop (spot + 1)).map V.int)) with
          | false => rfl
          | true =>
            rw [isTab_some, Bool.and_eq_true, Bool.and_eq_true] at e
            have := fnb_none.mp (Option.isNone_iff_eq_none.mp e.2.2) x (by simp)
            rw [len, fx.2] at this
            cases this
        · rcases List.mem_append.mp hz with hz | hz
          · rcases List.mem_append.mp hz with hz | hz
            · obtain ⟨y, _, rfl⟩ := List.mem_map.mp hz
              exact .inl ⟨_, .int y⟩
            · rw [List.mem_singleton.mp hz]
              exact fx.1.imp id fun ⟨a, h1, h2⟩ => ⟨a, h1, sqT_same eD h2⟩
          · obtain ⟨y, _, rfl⟩ := List.mem_map.mp hz
            exact .inl ⟨_, .int y⟩
      · exact .inl ⟨_, .non⟩
      · exact .inl ⟨_, .int _⟩
      · exact .inl ⟨_, .str _⟩
    clear g4 hB4
    rintro σ' H4 ⟨ls, us, x13, x14, x15, rfl, g4, hB4, hls, lus, hus⟩
    refine ⟨fun σ' H' => ∃ (ls : Addr) (us : List V) (x13 x14 x15 : Option V), σ' = sgN b Fa (some (.ref m)) (some (.int (n : Int))) (some (.int (ts.length : Int))) (some (.ref gr)) (some (.int (at_ : Int))) (some (.ref bd)) (some od) (some nn) (some (.ref B0)) (some (.int (spot : Int))) (some (.ref ls)) x13 x14 x15 ∧ Go Ts b H H' ∧ ls ≠ b ∧ H' ls = some (.lst us) ∧ us.length = 6 ∧ ∀ v ∈ us, Uv v H', ?_, ?_⟩
    · have fin : ∀ (f0 : Addr) (v1 v2 : V) (H5 : Hp), Same H4 H5 → H5 f0 = some (.lst [v1, v2]) → Uv v1 H5 → Uv v2 H5 → ∀ w0, H5 w0 = .none → w0 ≠ b ∧ L2.upd H5 w0 (.lst (us ++ [v1, v2])) w0 = some (.lst (us ++ [v1, v2])) ∧ (us ++ [v1, v2]).length = 6 ∧ Go Ts b H (L2.upd H5 w0 (.lst (us ++ [v1, v2]))) ∧ ∀ v ∈ us ++ [v1, v2], Uv v (L2.upd H5 w0 (.lst (us ++ [v1, v2]))) := fun f0 v1 v2 H5 e hf u1 u2 w0 hw => by
        have e6 := same_new (o := HO.lst (us ++ [v1, v2])) hw
        obtain ⟨t4, hb4⟩ := g4.box
        refine ⟨(fun z => by rw [z, e _ _ hb4] at hw; cases hw), upd_same, (by rw [List.length_append, lus]; rfl), g4.same (e.trans e6), fun v hv => ?_⟩
        rcases List.mem_append.mp hv with hv | hv
        · exact UvS (e.trans e6) (hus v hv)
        · simp only [List.mem_cons, List.not_mem_nil, or_false] at hv
          rcases hv with rfl | rfl
          · exact UvS e6 u1
          · exact UvS e6 u2
      obtain ⟨t4, hb4⟩ := g4.box
      have nob : ∀ {H5 : Hp} {l : Addr}, Same H4 H5 → H5 l = .none → l ≠ b := fun e h z => by rw [z, e _ _ hb4] at h; cases h
      refine ⟨_, rfl, _, rfl, _, _, rfl, rfl, _, rfl, ite2 (fun gt => ?_) (fun le => ?_)⟩
      · have gt : at_ ≠ 0 := by
          have := of_decide_eq_true gt
          omega
        refine ⟨_, rfl, (by show 1 ≤ sizeLine; decide), fun c hc => ?_⟩
        have e5 := same_new (o := HO.lst [.int 0]) hc
        refine ⟨B0, c, _, _, rfl, rfl, e5 _ _ hB4, upd_same, by rw [List.length_map, sizeLine_eq]; show _ + 1 ≤ _; omega, fun d hd => ?_⟩
        have e6' := same_new (o := HO.lst ((ts[at_]).map V.int ++ [.int 0])) hd
        have e6 := e5.trans e6'
        have d6 : L2.upd (L2.upd H4 c (HO.lst [.int 0])) d (HO.lst ((ts[at_]).map V.int ++ [.int 0])) d = some (HO.lst ((ts[at_]).map V.int ++ [.int 0])) := upd_same
        have db := nob e5 hd
        generalize L2.upd (L2.upd H4 c (HO.lst [.int 0])) d (HO.lst ((ts[at_]).map V.int ++ [.int 0])) = H6 at *
        refine ⟨_, rfl, _, rfl, B0, _, rfl, SqL.of (e6 _ _ hB4), fun e he => ?_⟩
        rw [cut3]
        have e7' := same_new (o := HO.lst (((ts[at_]).drop 1).map V.int)) he
        have e7 := e6.trans e7'
        have i7 : L2.upd H6 e (HO.lst (((ts[at_]).drop 1).map V.int)) e = some (HO.lst (((ts[at_]).drop 1).map V.int)) := upd_same
        have eb := nob e6 he
        have d7 := e7' _ _ d6
        generalize L2.upd H6 e (HO.lst (((ts[at_]).drop 1).map V.int)) = H7 at *
        refine ⟨(by show 2 ≤ sizeLine; decide), fun f0 hf => ?_⟩
        have e8' := same_new (o := HO.lst [.ref d, .ref e]) hf
        refine ⟨ls, f0, _, _, rfl, rfl, e8' _ _ (e7 _ _ hls), upd_same, by rw [lus, sizeLine_eq]; show 4 + 2 ≤ _; omega, fun w0 hw => ?_⟩
        have far : ∀ (xs : List Int), xs.length ≠ n → isTab (if at_ = 0 then (xs.map V.int).length else n) (some (xs.map V.int)) = false := fun xs z => by
          rw [if_neg gt, isTab_some, List.length_map, decide_eq_false z]
          simp
        have k1 : Uv (.ref d) H7 := .inr ⟨d, _, rfl, db, d7, by
          have := far (ts[at_] ++ [0]) (by rw [List.length_append, lna]; simp)
          rwa [List.map_append] at this, fun _ z hz => by
          rcases List.mem_append.mp hz with hz | hz
          · obtain ⟨y, _, rfl⟩ := List.mem_map.mp hz
            exact .inl ⟨_, .int y⟩
          · rw [List.mem_singleton.mp hz]
            exact .inl ⟨_, .int 0⟩⟩
        have k2 : Uv (.ref e) H7 := .inr ⟨e, _, rfl, eb, i7, far _ (by rw [List.length_drop, lna]; omega), fun _ z hz => by
          obtain ⟨y, _, rfl⟩ := List.mem_map.mp hz
          exact .inl ⟨_, .int y⟩⟩
        obtain ⟨z1, z2, z3, z4, z5⟩ := fin f0 _ _ _ (e7.trans e8') upd_same (UvS e8' k1) (UvS e8' k2) w0 hw
        exact ⟨w0, _, _, _, _, rfl, z4, z1, z2, z3, z5⟩
      · have at0 : at_ = 0 := by
          have : ¬ ((0 : Int) < (at_ : Int)) := of_decide_eq_false (by simpa using le)
          omega
        refine ⟨(by show 0 ≤ sizeLine; decide), fun c hc => ⟨(by show 1 ≤ sizeLine; decide), fun d hd => ?_⟩⟩
        have e5 := same_new (o := HO.lst []) hc
        have c5 : L2.upd H4 c (HO.lst []) c = some (HO.lst []) := upd_same
        have cb := nob (.refl _) hc
        generalize L2.upd H4 c (HO.lst []) = H5 at *
        have e6' := same_new (o := HO.lst [.int 0]) hd
        refine ⟨d, 9, _, rfl, rfl, upd_same, by decide, by decide, by rw [sizeLine_eq]; decide, fun e he => ?_⟩
        have e7' := same_new (o := HO.lst (List.replicate (9 : Int).toNat [V.int 0]).flatten) he
        have e7 := e5.trans (e6'.trans e7')
        have eb := nob (e5.trans e6') he
        have c7 := e7' _ _ (e6' _ _ c5)
        refine ⟨(by show 2 ≤ sizeLine; decide), fun f0 hf => ?_⟩
        have e8' := same_new (o := HO.lst [.ref c, .ref e]) hf
        refine ⟨ls, f0, _, _, rfl, rfl, e8' _ _ (e7 _ _ hls), upd_same, by rw [lus, sizeLine_eq]; show 4 + 2 ≤ _; omega, fun w0 hw => ?_⟩
        have k1 : Uv (.ref c) (L2.upd (L2.upd H5 d (HO.lst [.int 0])) e (HO.lst (List.replicate (9 : Int).toNat [V.int 0]).flatten)) := .inr ⟨c, [], rfl, cb, c7, by rw [if_pos at0]; rfl, fun _ z hz => nomatch hz⟩
        have k2 : Uv (.ref e) (L2.upd (L2.upd H5 d (HO.lst [.int 0])) e (HO.lst (List.replicate (9 : Int).toNat [V.int 0]).flatten)) := .inr ⟨e, (List.replicate (9 : Int).toNat [V.int 0]).flatten, rfl, eb, upd_same, by rw [if_pos at0]; decide +kernel, fun _ z hz => by
          have : z = V.int 0 := by
            rw [show (List.replicate (9 : Int).toNat [V.int 0]).flatten = List.replicate 9 (V.int 0) from by decide +kernel] at hz
            exact List.eq_of_mem_replicate hz
          rw [this]
          exact .inl ⟨_, .int 0⟩⟩
        obtain ⟨z1, z2, z3, z4, z5⟩ := fin f0 _ _ _ (e7.trans e8') upd_same (UvS e8' k1) (UvS e8' k2) w0 hw
        exact ⟨w0, _, _, _, _, rfl, z4, z1, z2, z3, z5⟩
    clear g4 hB4 hls lus hus
    clear ls us
    rintro σ' H4 ⟨ls, us, x13, x14, x15, rfl, g4, lb, hls, lus, hus⟩
    let WX : L2.St → Hp → Prop := fun σ' H' => ∃ x10 x11 x12 x13 x14 x15, σ' = sgN b Fa (some (.ref m)) (some (.int (n : Int))) (some (.int (ts.length : Int))) (some (.ref gr)) (some (.int (at_ : Int))) (some (.ref bd)) (some od) (some nn) x10 x11 x12 x13 x14 x15 ∧ Go Ts b H H'
    refine ⟨WX, ?_, ?_⟩
    · refine ⟨g4.tabs, fun H5 x5 tb5 => ?_⟩
      have g5 := g4.ext x5 tb5
      obtain ⟨t5, hb5⟩ := g5.box
      have F5 := g5.lst Fb hF
      have rows5 := g5.rows hb rows
      have ls5 : H5 ls = some (.lst us) := x5 _ _ hls (fun _ z => nomatch z)
      have us5 : ∀ v ∈ us, Uv v H5 := fun v hv => UvE (fun _ _ _ z => x5 _ _ z (fun _ z => nomatch z)) (fun _ _ => ext_sqT x5) (hus v hv)
      have cutP : cutV ps .none (some (at_ : Int)) = ps.take at_ := cut_to (by omega)
      have cutQ : cutV ps (some ((at_ : Int) + 1)) .none = ps.drop (at_ + 1) := cut_from (i := at_ + 1) (by omega)
      refine ⟨_, rfl, _, rfl, _, rfl, Fa, ps, rfl, SqL.of F5, fun c hc => ?_⟩
      rw [cutP]
      have e6 := same_new (o := HO.lst (ps.take at_)) hc
      refine ⟨c, _, rfl, .inl (SqL.of upd_same), fun c2 hc2 => ?_⟩
      have e7 := e6.trans (same_new (o := HO.lst (ps.take at_)) hc2)
      have c7 : L2.upd (L2.upd H5 c (HO.lst (ps.take at_))) c2 (HO.lst (ps.take at_)) c2 = some (HO.lst (ps.take at_)) := upd_same
      have cb : c2 ≠ b := fun z => by rw [z, e6 _ _ hb5] at hc2; cases hc2
      generalize L2.upd (L2.upd H5 c (HO.lst (ps.take at_))) c2 (HO.lst (ps.take at_)) = H7 at *
      have hb7 := e7 _ _ hb5
      refine ⟨_, rfl, _, rfl, b, ls, t5, us, rfl, hb7, lb, SqL.of (e7 _ _ ls5), by omega, by omega, fun v H8 hv m8 => ?_⟩
      have uv8 : Uv v H8 := UvE (fun _ _ ne z => m8.1 _ _ ne z) (fun _ _ => m8.sqT hb7) (UvS e7 (us5 v hv))
      have g8 := (g5.same e7).mv m8
      have F8 := m8.1 _ _ Fb (e7 _ _ F5)
      have c8 := m8.1 _ _ cb c7
      have rows8 := g8.rows hb rows
      refine ⟨(by show 1 ≤ sizeLine; decide), fun d hd => ?_⟩
      have e9 := same_new (o := HO.lst [v]) hd
      refine ⟨c2, d, _, _, rfl, rfl, e9 _ _ c8, upd_same, by rw [List.length_take, sizeLine_eq]; show _ + 1 ≤ _; omega, fun g2 hg2 => ?_⟩
      have eA := e9.trans (same_new (o := HO.lst (ps.take at_ ++ [v])) hg2)
      have uA : L2.upd (L2.upd H8 d (HO.lst [v])) g2 (HO.lst (ps.take at_ ++ [v])) g2 = some (HO.lst (ps.take at_ ++ [v])) := upd_same
      generalize L2.upd (L2.upd H8 d (HO.lst [v])) g2 (HO.lst (ps.take at_ ++ [v])) = HA at *
      refine ⟨_, rfl, _, rfl, _, _, rfl, rfl, _, rfl, Fa, ps, rfl, SqL.of (eA _ _ F8), fun e he => ?_⟩
      rw [cutQ]
      have eB' := same_new (o := HO.lst (ps.drop (at_ + 1))) he
      have uB : L2.upd HA e (HO.lst (ps.drop (at_ + 1))) e = some (HO.lst (ps.drop (at_ + 1))) := upd_same
      have uA2 := eB' _ _ uA
      have eB := eA.trans eB'
      generalize L2.upd HA e (HO.lst (ps.drop (at_ + 1))) = HB at *
      refine ⟨e, rfl, ⟨_, SqL.of uB⟩, fun D2 hD2 => ?_⟩
      refine lc_list (xs := ps.drop (at_ + 1)) (fun i H' => H' D2 = some (.lst (List.replicate i .non)) ∧ Same HB H') ⟨upd_same, same_new hD2⟩ (fun i H' _ z => SqL.of (z.2 _ _ uB)) ?_ ?_
      · rintro i y HC hy ⟨hDC, eC⟩
        have hi := (List.getElem?_eq_some_iff.mp hy).1
        rw [List.length_drop] at hi
        refine ⟨rfl, yes ((if_pos rfl).mpr ?_)⟩
        refine ⟨_, hDC, by rw [List.length_replicate, sizeLine_eq]; omega, ?_, fun c o hc => by rw [upd_ne (ne_of_none hc hD2)]; exact eC _ _ hc⟩
        rw [upd_same, List.replicate_succ']
      · rintro HC ⟨hDC, eC⟩
        refine ⟨g2, D2, _, _, rfl, rfl, eC _ _ uA2, hDC, by rw [List.length_append, List.length_take, List.length_replicate, List.length_drop, sizeLine_eq]; show _ + 1 + _ ≤ _; omega, fun L hL => ?_⟩
        have eD := (eB.trans eC).trans (same_new (o := HO.lst (ps.take at_ ++ [v] ++ List.replicate (ps.drop (at_ + 1)).length .non)) hL)
        intro x dx hx hdx ne
        obtain ⟨o, lo, ko, bo_⟩ : ∃ o, Long K (L2.upd HC L (HO.lst (ps.take at_ ++ [v] ++ List.replicate (ps.drop (at_ + 1)).length .non))) v o ∧ Kns K (L2.upd HC L (HO.lst (ps.take at_ ++ [v] ++ List.replicate (ps.drop (at_ + 1)).length .non))) o 8 ∧ isTab (if (ts.take at_).length = 0 then lenO o else n) o = false := by
          rcases UvS eD uv8 with ⟨d0, f0⟩ | ⟨l, xs, rfl, _, h1, h2, h3⟩
          · exact ⟨.none, f0.long, (fun xs q => nomatch q), rfl⟩
          · refine ⟨some xs, .seq (.inl (SqL.of h1)), fun ys q lq z hz => ?_, ?_⟩
            · cases q
              rcases h3 lq z hz with ⟨d0, f0⟩ | ⟨a, rfl, f0⟩
              · exact f0.kn
              · exact .seq (.inr f0)
            · have : ((ts.take at_).length = 0) = (at_ = 0) := by rw [List.length_take]; exact propext (by omega)
              simp only [this]
              exact h2
        have lpre : (ts.take at_).length = at_ := by rw [List.length_take]; omega
        refine make_bad_at (n := n) (pre := ts.take at_) ((rows8.imp fun _ _ z => sqT_same eD z).take at_) (fun t ht => ⟨ok.len t (List.mem_of_mem_take ht), ok.ent t (List.mem_of_mem_take ht)⟩) n1 n8 (by rw [lpre, List.length_drop]; omega) lo ko bo_ (SqL.of upd_same) hx hdx ne ?_
        rw [lpre]
        refine fun d H9 e9 hd => ⟨d, rfl, .inl ⟨rfl, _, hd, fun p HE eE hp => ?_⟩⟩
        refine ⟨_, rfl, (by show 3 ≤ sizeLine; decide), fun u hu => ?_⟩
        have eF := same_new (o := HO.tup [.str "machine", .int (at_ : Int), .bl true]) hu
        refine ⟨p, u, _, rfl, rfl, sqT_same eF hp, SqT.of upd_same, flat3, _, rfl, iteF ?_⟩
        exact ⟨_, _, _, _, _, _, rfl, (g8.same eD).same (e9.trans (eE.trans eF))⟩
    clear g4 hls hus lb lus
    rintro σ' H4 ⟨x10, x11, x12, x13, x14, x15, rfl, g4⟩
    refine ⟨WX, ?_, ?_⟩
    · refine ⟨(by show 0 ≤ sizeLine; decide), fun c hc => ⟨(by show 0 ≤ sizeLine; decide), fun d hd => ⟨(by show 1 ≤ sizeLine; decide), fun e he => ⟨(by show 1 ≤ sizeLine; decide), fun f0 hf => ?_⟩⟩⟩⟩
      have e5 := same_new (o := HO.lst []) hc
      have u5 : L2.upd H4 c (HO.lst []) c = some (HO.lst []) := upd_same
      generalize L2.upd H4 c (HO.lst []) = H5 at *
      have e6 := same_new (o := HO.tup []) hd
      have u6 : L2.upd H5 d (HO.tup []) d = some (HO.tup []) := upd_same
      generalize L2.upd H5 d (HO.tup []) = H6 at *
      have e7 := same_new (o := HO.tup [.int 0]) he
      have u7 : L2.upd H6 e (HO.tup [.int 0]) e = some (HO.tup [.int 0]) := upd_same
      generalize L2.upd H6 e (HO.tup [.int 0]) = H7 at *
      have e8 := same_new (o := HO.lst [.ref e]) hf
      refine ⟨f0, 5, _, rfl, rfl, upd_same, by decide, by decide, by rw [sizeLine_eq]; show 1 * 5 ≤ _; decide, fun g2 hg2 => ?_⟩
      have fl5 : (List.replicate (5 : Int).toNat [V.ref e]).flatten = List.replicate 5 (V.ref e) := rfl
      rw [fl5]
      have e9 := e8.trans (same_new (o := HO.lst (List.replicate 5 (V.ref e))) hg2)
      have u9 : L2.upd (L2.upd H7 f0 (HO.lst [.ref e])) g2 (HO.lst (List.replicate 5 (V.ref e))) g2 = some (HO.lst (List.replicate 5 (V.ref e))) := upd_same
      generalize L2.upd (L2.upd H7 f0 (HO.lst [.ref e])) g2 (HO.lst (List.replicate 5 (V.ref e))) = H9 at *
      refine ⟨(by show 6 ≤ sizeLine; decide), fun tv htv => ⟨tv, rfl, ⟨_, SqT.of upd_same⟩, fun D2 hD2 => ?_⟩⟩
      have eA := same_new (o := HO.tup [.non, .int 0, .str "0", .ref c, .ref d, .ref g2]) htv
      have uA : SqT K (L2.upd H9 tv (HO.tup [.non, .int 0, .str "0", .ref c, .ref d, .ref g2])) tv [.non, .int 0, .str "0", .ref c, .ref d, .ref g2] := SqT.of upd_same
      generalize L2.upd H9 tv (HO.tup [.non, .int 0, .str "0", .ref c, .ref d, .ref g2]) = HA at *
      have eB := same_new (o := HO.lst []) hD2
      have uB : L2.upd HA D2 (HO.lst []) D2 = some (HO.lst []) := upd_same
      have tvB := sqT_same eB uA
      have e4B := e5.trans (e6.trans (e7.trans (e9.trans (eA.trans eB))))
      have cB := (e6.trans (e7.trans (e9.trans (eA.trans eB)))) _ _ u5
      have dB := (e7.trans (e9.trans (eA.trans eB))) _ _ u6
      have gB := (eA.trans eB) _ _ u9
      refine lc_tup (xs := [.non, .int 0, .str "0", .ref c, .ref d, .ref g2]) (fun i H' => LamX.ExtN (L2.upd HA D2 (HO.lst [])) H' ∧ LamX.Tabs Ts H') ⟨.refl _, g4.tabs.ext e4B⟩ (fun i H' _ z => ext_sqT z.1 tvB) ?_ ?_
      · rintro i y HC hy ⟨xC, tbC⟩
        have hy := List.mem_of_getElem? hy
        refine ⟨rfl, ?_⟩
        refine ⟨tbC, fun HD xD tbD => ?_⟩
        have xx := xC.trans xD
        obtain ⟨o, ly, far⟩ : ∃ o, Long K HD y o ∧ inLen 1 4 o = false := by
          simp only [List.mem_cons, List.not_mem_nil, or_false] at hy
          rcases hy with rfl | rfl | rfl | rfl | rfl | rfl
          · exact ⟨_, .non, rfl⟩
          · exact ⟨_, .int 0, rfl⟩
          · exact ⟨_, .str _, rfl⟩
          · exact ⟨_, .seq (.inl (SqL.of (xx _ _ cB (fun _ z => nomatch z)))), rfl⟩
          · exact ⟨_, .seq (.inr (SqT.of (xx _ _ dB (fun _ z => nomatch z)))), rfl⟩
          · exact ⟨_, .seq (.inl (SqL.of (xx _ _ gB (fun _ z => nomatch z)))), rfl⟩
        refine ⟨_, rfl, fun x dx hx hdx ne => make_none ly far hx hdx ne ?_⟩
        refine fun d2 HE eE hd2 => ⟨d2, rfl, .inl ⟨rfl, _, hd2, fun p HF eF hp => ?_⟩⟩
        refine ⟨_, _, rfl, rfl, (by show 3 ≤ sizeLine; decide), fun u hu => ?_⟩
        have eG := same_new (o := HO.tup [.str "machine", .int (0 - 1), .bl true]) hu
        refine ⟨p, u, _, rfl, rfl, sqT_same eG hp, SqT.of upd_same, flat3, _, rfl, iteF ?_⟩
        have eEG := eE.trans (eF.trans eG)
        exact ⟨xx.trans (ext_of eEG), tbD.ext eEG⟩
      · rintro HC ⟨xC, tbC⟩
        refine ⟨(by show 0 ≤ sizeLine; decide), fun l2 hl2 => ?_⟩
        have eD := same_new (o := HO.lst []) hl2
        refine ⟨_, _, .lst (SqL.of (eD _ _ (xC _ _ uB (fun _ z => nomatch z)))) .nil, .lst (SqL.of upd_same) .nil, shaped_nil, shaped_nil, ?_⟩
        refine ⟨_, rfl, ?_⟩
        have ev : PyData.eqv (.list []) (.list []) = true := by simp only [PyData.eqv, PyData.eqvAll]
        rw [ev]
        exact iteF ⟨_, _, _, _, _, _, rfl, ((g4.same e4B).ext xC tbC).same eD⟩
    clear g4
    rintro σ' H4 ⟨x10, x11, x12, x13, x14, x15, rfl, g4⟩
    have okw : Mok 8 (List.replicate 4 (List.replicate 8 7)) := ⟨by decide, by decide, by decide, by decide, fun t ht => by rw [List.eq_of_mem_replicate ht]; rfl, fun t ht x hx => by rw [List.eq_of_mem_replicate ht] at hx; rw [List.eq_of_mem_replicate hx]; decide⟩
    let WW : L2.St → Hp → Prop := fun σ' H' => ∃ (wd : Addr) (x14 x15 : Option V), σ' = sgN b Fa (some (.ref m)) (some (.int (n : Int))) (some (.int (ts.length : Int))) (some (.ref gr)) (some (.int (at_ : Int))) (some (.ref bd)) (some od) (some nn) x10 x11 x12 (some (.ref wd)) x14 x15 ∧ Go Ts b H H' ∧ McAt K CM H' wd 8 (List.replicate 4 (List.replicate 8 7))
    refine ⟨WW, ?_, ?_⟩
    · refine ⟨(by show 1 ≤ sizeLine; decide), fun c hc => ?_⟩
      have e5 := same_new (o := HO.lst [.int 7]) hc
      refine ⟨c, 8, _, rfl, rfl, upd_same, by decide, by decide, by rw [sizeLine_eq]; decide, fun d hd => ?_⟩
      have f8 : (List.replicate (8 : Int).toNat [V.int 7]).flatten = (List.replicate 8 (7 : Int)).map V.int := rfl
      rw [f8]
      have e6' := same_new (o := HO.lst ((List.replicate 8 (7 : Int)).map V.int)) hd
      have u6 : L2.upd (L2.upd H4 c (HO.lst [.int 7])) d (HO.lst ((List.replicate 8 (7 : Int)).map V.int)) d = some (HO.lst ((List.replicate 8 (7 : Int)).map V.int)) := upd_same
      have e6 := e5.trans e6'
      generalize L2.upd (L2.upd H4 c (HO.lst [.int 7])) d (HO.lst ((List.replicate 8 (7 : Int)).map V.int)) = H6 at *
      refine ⟨(by show 1 ≤ sizeLine; decide), fun e he => ?_⟩
      have e7 := same_new (o := HO.lst [.ref d]) he
      refine ⟨e, 4, _, rfl, rfl, upd_same, by decide, by decide, by rw [sizeLine_eq]; show 1 * 4 ≤ _; decide, fun f0 hf => ?_⟩
      have f4 : (List.replicate (4 : Int).toNat [V.ref d]).flatten = List.replicate 4 (V.ref d) := rfl
      rw [f4]
      have e8 := e7.trans (same_new (o := HO.lst (List.replicate 4 (V.ref d))) hf)
      have d8 := e8 _ _ u6
      refine fun x dx hx hdx ne => mc_make okw (.inl (SqL.of upd_same)) ?_ hx hdx ne fun H9 e9 mc9 => ⟨x, _, _, rfl, (g4.same (e6.trans e8)).same e9, mc9⟩
      have one : ∃ q, V.ref d = V.ref q ∧ Sq K (L2.upd (L2.upd H6 e (HO.lst [.ref d])) f0 (HO.lst (List.replicate 4 (V.ref d)))) q ((List.replicate 8 (7 : Int)).map V.int) := ⟨d, rfl, .inl (SqL.of d8)⟩
      exact ⟨one, one, one, one, trivial⟩
    clear g4
    rintro σ' H4 ⟨wd, x14, x15, rfl, g4, mc4⟩
    refine ⟨WW, ?_, ?_⟩
    · obtain ⟨_, dx, tt, qs, c1, c2, c3⟩ := id mc4
      refine ⟨_, rfl, wd, CM, dx, _, _, rfl, c1, TM.cl, TM.n1, rfl, _, rfl, wd, CM, dx, _, _, rfl, c1, TM.cl, TM.n2, rfl, (by show 2 ≤ sizeLine; decide), fun u hu => ⟨(by show 2 ≤ sizeLine; decide), fun u2 hu2 => ?_⟩⟩
      have e5 := same_new (o := HO.tup [.int (4 : Int), .int (8 : Int)]) hu
      have e6 := same_new (o := HO.tup [.int 4, .int 8]) hu2
      refine ⟨u, u2, [4, 8], [4, 8], rfl, rfl, sqT_same e6 (SqT.of upd_same), SqT.of upd_same, _, rfl, iteF ?_⟩
      exact ⟨wd, _, _, rfl, g4.same (e5.trans e6), mc4.same (e5.trans e6)⟩
    clear g4 mc4
    rintro σ' H4 ⟨wd, x14, x15, rfl, g4, mc4⟩
    refine ⟨WW, ?_, ?_⟩
    · obtain ⟨t4, hb4⟩ := g4.box
      refine ⟨_, rfl, b, t4, 8, rfl, hb4, by decide, by decide, fun r H5 r0 r1 m5 => ⟨_, _, rfl, rfl, _, rfl, ite2 (fun _ => ?_) (fun _ => ?_)⟩⟩
      · exact k _ (g4.mv m5)
      · exact ⟨wd, _, _, rfl, g4.mv m5, m5.mc hb4 mc4⟩
    clear g4 mc4
    rintro σ' H4 ⟨wd, x14, x15, rfl, g4, mc4⟩
    have z4 : ∀ {c : Int} {k0 : Nat}, c = (k0 : Int) → (List.replicate c.toNat [V.int 0]).flatten = List.replicate k0 (V.int 0) := fun {c k0} h => by rw [h, Int.toNat_natCast, List.flatten_replicate_singleton]
    have l8 : (((List.replicate 4 (List.replicate 8 (7 : Int))).length : Nat) : Int) = 4 := rfl
    have at4 : rowAt (List.replicate 4 (List.replicate 8 (7 : Int))).length (some (List.replicate 400 (V.int 0))) = none := by
      unfold rowAt
      dsimp only
      rw [if_pos (by rw [List.length_replicate]; exact Nat.le_refl _), fnb_none.mpr fun x hx => by rw [List.eq_of_mem_replicate hx, l8]; rfl]
      rfl
    have at5 : rowAt (List.replicate 4 (List.replicate 8 (7 : Int))).length (some (List.replicate 401 (V.int 0))) = some (-1) := by
      unfold rowAt
      dsimp only
      rw [if_neg (by rw [List.length_replicate]; decide)]
    have kz : ∀ {H' : Hp} (k0 : Nat), Kns K H' (some (List.replicate k0 (V.int 0))) 400 := fun k0 xs q _ x hx => by
      cases q
      rw [List.eq_of_mem_replicate hx]
      exact .int 0
    refine ⟨_, rfl, (by show 1 ≤ sizeLine; decide), fun c hc => ?_⟩
    have e5 := same_new (o := HO.lst [.int 0]) hc
    refine ⟨c, 400, _, rfl, rfl, upd_same, by decide, by decide, by rw [sizeLine_eq]; show 1 * 400 ≤ _; decide, fun d hd => ?_⟩
    rw [z4 (c := 400) (k0 := 400) rfl]
    have e6 := same_new (o := HO.lst (List.replicate 400 (V.int 0))) hd
    have e56 := e5.trans e6
    have u6 : L2.upd (L2.upd H4 c (HO.lst [.int 0])) d (HO.lst (List.replicate 400 (V.int 0))) d = some (HO.lst (List.replicate 400 (V.int 0))) := upd_same
    generalize L2.upd (L2.upd H4 c (HO.lst [.int 0])) d (HO.lst (List.replicate 400 (V.int 0))) = H6 at *
    refine ⟨wd, 8, _, _, _, rfl, mc4.same e56, .seq (.inl (SqL.of u6)), kz 400, fun i z => (by rw [at4] at z; cases z), fun _ => ⟨d, _, rfl, rfl, .inl (SqL.of u6), fun p H7 e7 hp => ?_⟩⟩
    refine ⟨p, _, rfl, .inr hp.sqT, ?_⟩
    rw [List.length_replicate]
    have g7 := (g4.same e56).same e7
    have mc7 := (mc4.same e56).same e7
    refine ⟨rfl, true, congrArg V.bl (decide_eq_true rfl), ite2 (fun _ => ?_) (fun z => absurd rfl z)⟩
    refine ⟨g7.tabs, fun H8 x8 tb8 => ?_⟩
    refine ⟨_, rfl, (by show 1 ≤ sizeLine; decide), fun c2 hc2 => ?_⟩
    have e8 := same_new (o := HO.lst [.int 0]) hc2
    refine ⟨c2, 401, _, rfl, rfl, upd_same, by decide, by decide, by rw [sizeLine_eq]; show 1 * 401 ≤ _; decide, fun d2 hd2 => ?_⟩
    rw [z4 (c := 401) (k0 := 401) rfl]
    have e9 := same_new (o := HO.lst (List.replicate 401 (V.int 0))) hd2
    have e89 := e8.trans e9
    have u9 : L2.upd (L2.upd H8 c2 (HO.lst [.int 0])) d2 (HO.lst (List.replicate 401 (V.int 0))) d2 = some (HO.lst (List.replicate 401 (V.int 0))) := upd_same
    generalize L2.upd (L2.upd H8 c2 (HO.lst [.int 0])) d2 (HO.lst (List.replicate 401 (V.int 0))) = H9 at *
    refine ⟨wd, 8, _, _, _, rfl, (ext_mc x8 mc7).same e89, .seq (.inl (SqL.of u9)), kz 401, fun i z => ?_, fun z => (by rw [at5] at z; cases z)⟩
    rw [at5] at z
    cases z
    refine fun d3 HA eA hd3 => ⟨d3, rfl, .inr (.inl ⟨rfl, _, hd3, fun p3 HB eB hp3 => ?_⟩)⟩
    refine ⟨_, _, rfl, rfl, (by show 3 ≤ sizeLine; decide), fun u hu => ?_⟩
    have eC := same_new (o := HO.tup [.str "row", .int (0 - 1), .bl true]) hu
    refine ⟨p3, u, _, rfl, rfl, sqT_same eC hp3, SqT.of upd_same, flat3, ?_⟩
    exact k _ ((g7.ext x8 tb8).same (e89.trans (eA.trans (eB.trans eC))))

end
end K1
/-! the law -/
namespace K1
open L2 PySem PySem.Spec PyProof.Rows Kx RZ
abbrev sgL (a : Addr) (x1 x2 x3 : Option V) : L2.St := [some (.ref a), x1, x2, x3]
/-- the script stays -/
theorem script_keeps {K : PySem.W.Frag} {Ts : List (Addr × Str)} {a b : Addr} {xs : List V} {H H1 H' : Hp} (e : Same H H1) (n : H b = none) (g : Go Ts b H1 H') (h : SqL K H a xs) : SqL K H' a xs := by
  rcases h with (h | ⟨z, h⟩) | h
  · exact .inl (.inl (g.keep _ _ (ne_of_none h n) (fun _ z => nomatch z) (e _ _ h)))
  · exact .inl (.inr ⟨z, g.keep _ _ (ne_of_none h n) (fun _ z => nomatch z) (e _ _ h)⟩)
  · exact .inr h
def spLaw (K : PySem.W.Frag) (Ts : List (Addr × Str)) : Sp := fun vs H Q _ => ∃ (a : Addr) (ns : List Int), vs = [.ref a] ∧ SqL K H a (ns.map V.int) ∧ ns.length ≤ 63 ∧ LamX.Tabs Ts H ∧ ∀ H', Q (.bl true) H'
section
variable {P : Program} {w : World} {K : PySem.W.Frag} {mg : Str → Option Value} {base : Heap} {f : Addr} {fd : FuncData} {Ts : List (Addr × Str)}
theorem sc_law : FnScope ["script", "k", "box", "tables"] ["script"] (defScope s_law) := ⟨rfl, rfl, rfl, by decide +kernel, rfl, by decide +kernel, by decide +kernel⟩
theorem ok_law (F : FnP K "law" s_law f fd) (T : Mg mg) (c_box : Cal P w K mg base CX0 1 "_law_box" ["script", "k"] (spBox K)) (c_tabs : Cal P w K mg base CX0 3 "_law_tables" ["box", "sizes", "kinds"] (spTables K))
    (c_told : CalG P w K mg base CX0 8 "_law_told_right" ["box", "tables"] (spTold K)) (c_none : CalG P w K mg base CX0 9 "_law_none_right" ["box", "tables"] (spNone K Ts)) :
    FnG P w K mg base CX0 10 f fd ["script"] (spLaw K Ts) := by
  refine okG F sc_law (fun vs H Q E h => ?_) (fun cdv A outer s H vs Q E lone _ hr h => ?_)
  · obtain ⟨a, ns, rfl, _⟩ := h
    rfl
  · obtain ⟨sc, ns, rfl, hs, hl, ht, k⟩ := h
    refine ⟨_, PSs.nox (pss_cons (ps_mid (ps_for PassesOwn.never rfl (pi_range1 (by rfl) T.z_range (pa_cons pe_int pa_nil)) (pg_name (i := 1) sc_law.nd rfl (by first | exact Or.inl rfl | exact Or.inr rfl))
      (pss_cons (ps_set (i := 2) sc_law.nd rfl (by first | exact Or.inl rfl | exact Or.inr rfl) (pe_callC c_box hr pass0 (pa_cons (pv 0) (pa_cons (pv 1) pa_nil))))
      (pss_cons (ps_set (i := 3) sc_law.nd rfl (by first | exact Or.inl rfl | exact Or.inr rfl) (pe_callC c_tabs hr pass0 (pa_cons (pv 2) (pa_cons (pe_lst (pa_cons pe_int (pa_cons pe_int (pa_cons pe_int (pa_cons pe_int (pa_cons pe_int pa_nil)))))) (pa_cons (pe_lst (pa_cons pe_int (pa_cons pe_int (pa_cons pe_int (pa_cons pe_int (pa_cons pe_int pa_nil)))))) pa_nil)))))
      (pss_one (ps_if (PW.pt (pw_or (pt_not (pt_val (pe_callG c_told hr lone pass0 (pa_cons (pv 2) (pa_cons (pv 3) pa_nil))))) (pw_or1 (pt_not (pt_val (pe_callG c_none hr lone pass0 (pa_cons (pv 2) (pa_cons (pv 3) pa_nil))))))))
        (pss_one (ps_ret pe_bl))
        pss_nil))))))
      (pss_one (ps_ret pe_bl))), ?_⟩
    refine ⟨fun σ' H' => True, ?_, fun _ H' _ => k H'⟩
    refine ⟨3, rfl, by decide, by decide, for_range (lo := 0) (n := 3) (fun i σ' H' => ∃ x1 x2 x3, σ' = sgL sc x1 x2 x3 ∧ SqL K H' sc (ns.map V.int) ∧ LamX.Tabs Ts H') ⟨.none, .none, .none, rfl, hs, ht⟩ ?_ ?_⟩
    · rintro i σ' H0 hi ⟨x1, x2, x3, rfl, hs0, ht0⟩
      have i0 : (0 : Int) + (i : Int) = (i : Int) := Int.zero_add _
      rw [i0]
      refine ⟨_, rfl, _, rfl, sc, ns, i, rfl, hs0, hl, fun H1 b t1 e1 nb hb1 => ?_⟩
      have ht1 := ht0.ext e1
      refine ⟨_, rfl, (by show 5 ≤ sizeLine; decide), fun p hp => ⟨(by show 5 ≤ sizeLine; decide), fun q hq => ?_⟩⟩
      have e2 := same_new (o := HO.lst [.int 1, .int 2, .int 3, .int 4, .int 5]) hp
      have u2 : upd H1 p (HO.lst [.int 1, .int 2, .int 3, .int 4, .int 5]) p = some (HO.lst [.int 1, .int 2, .int 3, .int 4, .int 5]) := upd_same
      have pb : p ≠ b := fun z => by rw [z, hb1] at hp; cases hp
      generalize upd H1 p (HO.lst [.int 1, .int 2, .int 3, .int 4, .int 5]) = H2 at *
      have e3 := same_new (o := HO.lst [.int 1, .int 2, .int 2, .int 3, .int 4]) hq
      have u3 : upd H2 q (HO.lst [.int 1, .int 2, .int 2, .int 3, .int 4]) q = some (HO.lst [.int 1, .int 2, .int 2, .int 3, .int 4]) := upd_same
      have qb : q ≠ b := fun z => by rw [z, e2 _ _ hb1] at hq; cases hq
      generalize upd H2 q (HO.lst [.int 1, .int 2, .int 2, .int 3, .int 4]) = H3 at *
      have g3 : Go Ts b H1 H3 := (Go.refl hb1 ht1).same (e2.trans e3)
      refine ⟨b, p, q, t1, rfl, e3 _ _ (e2 _ _ hb1), pb, qb, SqL.of (e3 _ _ u2), SqL.of u3, fun Fa H4 ps n ts m4 Fb nF hF rows ok n5 => ?_⟩
      have g4 := g3.mv m4
      obtain ⟨t4, hb4⟩ := g4.box
      refine ⟨_, rfl, _, rfl, b, Fa, t4, ps, n, ts, rfl, hb4, Fb, hF, rows, ok, n5, fun H5 m5 => ?_⟩
      have g5 := g4.mv m5
      obtain ⟨t5, hb5⟩ := g5.box
      have F5 : H5 Fa = some (.lst ps) := m5.1 _ _ Fb hF
      have rows5 : RowsBy (SqT K H5) ps ts := rows.imp fun _ _ z => m5.sqT hb4 z
      refine ⟨true, rfl, iteF ?_⟩
      refine ⟨_, rfl, _, rfl, b, Fa, t5, ps, n, ts, rfl, hb5, Fb, F5, rows5, ok, n5, g5.tabs, fun H6 g6 => ⟨true, rfl, iteF ?_⟩⟩
      have g := g5.trans g6
      exact ⟨_, _, _, rfl, script_keeps e1 nb g hs0, g6.tabs⟩
    · rintro σ' H0 ⟨x1, x2, x3, rfl, hs0, ht0⟩
      trivial
end
end K1
/-! the top, run -/
namespace K1
open PySem PySem.Spec PyProof.Rows L2 Kx
/-! ### Bools that the head's Hook asks -/
/-- a class's line and slots -/
def tailB (C : Addr) (bm : List Value → Bool) (newId : String) (mro : List Value) (sl : List (Option Value)) : Bool := match mro, sl with
  | .ref C' :: r, [_, _, _, _, some (.builtin n), _] => decide (C' = C) && (decide (n = newId) && bm r)
  | _, _ => false
theorem tailB_ok {C : Addr} {bm : List Value → Bool} {newId : String} {mro : List Value} {sl : List (Option Value)} (h : tailB C bm newId mro sl = true) :
    ∃ r a0 a1 a2 a3 a5, mro = .ref C :: r ∧ sl = [a0, a1, a2, a3, some (.builtin newId), a5] ∧ bm r = true := by
  unfold tailB at h
  split at h
  · obtain ⟨h4, h⟩ := He.ba h
    obtain ⟨h5, h6⟩ := He.ba h
    have h4 := of_decide_eq_true h4
    have h5 := of_decide_eq_true h5
    exact ⟨_, _, _, _, _, _, by rw [h4], by rw [h5], h6⟩
  · cases h
/-- the class at C as the text makes it: an own dict, no __del__, behind it the classes bm -/
def shapeB (K : PySem.W.Frag) (C : Addr) (bm : List Value → Bool) (newId : String) : Bool := match K.lookup C with
  | some ⟨.type c, _, .cls cd, sl⟩ => decide (c = "type") && (cd.hasDict && (!cd.hasDel && tailB C bm newId cd.mro sl.toList))
  | _ => false
theorem shapeB_ok {K : PySem.W.Frag} {C : Addr} {bm : List Value → Bool} {newId : String} (h : shapeB K C bm newId = true) :
    ∃ nm q N bs r sn sub ab col dd k0 k1 k2 k3 k5, K.lookup C = some (excClassObj nm q C N bs r true sn sub ab col dd k0 k1 k2 k3 k5 newId) ∧ bm r = true := by
  unfold shapeB at h
  cases e : K.lookup C with
  | none =>
    rw [e] at h
    cases h
  | some o =>
    obtain ⟨oc, od, dt, sl⟩ := o
    rw [e] at h
    cases oc with
    | type c =>
      cases dt with
      | cls cd =>
        obtain ⟨nm, bs, mro, N, q, hdct, sn, sub, ab, col, del⟩ := cd
        have h : (decide (c = "type") && (hdct && (!del && tailB C bm newId mro sl.toList))) = true := h
        obtain ⟨h1, h⟩ := He.ba h
        obtain ⟨h2, h⟩ := He.ba h
        obtain ⟨h3, h⟩ := He.ba h
        obtain ⟨r, a0, a1, a2, a3, a5, h4, h5, h6⟩ := tailB_ok h
        have k1 := of_decide_eq_true h1
        have k3 : del = false := by
          cases del with
          | false => rfl
          | true => cases h3
        have es : sl = #[a0, a1, a2, a3, some (.builtin newId), a5] := by
          have := congrArg List.toArray h5
          simpa using this
        refine ⟨nm, q, N, bs, r, sn, sub, ab, col, od, a0, a1, a2, a3, a5, ?_, h6⟩
        rw [k1, h2, k3, h4, es]
      | _ => cases h
    | _ => cases dt <;> cases h
/-- an own error over an own base over ValueError, of the field f -/
def oexB (K : PySem.W.Frag) (C : Addr) : Bool := shapeB K C PySem.HandSPX.refsVE "ValueError.__new__" && (He.eqO (PySem.W.findIn K (.ref C) "__setattr__") (some (some (.builtin "object.__setattr__"))) && (decide (PySem.W.subIn K (.ref C) (.type "BaseException") = some true) && (decide (PySem.W.typeIn K (.ref C) = some (.type "type")) && PySem.W.keepIn K (.ref C))))
theorem oexB_ok {K : PySem.W.Frag} {C : Addr} (h : oexB K C = true) : OexC K C := by
  obtain ⟨h1, h⟩ := He.ba h
  obtain ⟨h2, h⟩ := He.ba h
  obtain ⟨h3, h⟩ := He.ba h
  obtain ⟨h4, h5⟩ := He.ba h
  exact ⟨shapeB_ok h1, He.eqO_ok h2, of_decide_eq_true h3, of_decide_eq_true h4, h5⟩
def keyB (K : PySem.W.Frag) (C : Addr) : Bool := shapeB K C (fun r => decide (r = keyTail)) "LookupError.__new__" && (He.eqO (PySem.W.findIn K (.ref C) "__setattr__") (some (some (.builtin "object.__setattr__"))) && (decide (PySem.W.subIn K (.ref C) (.type "BaseException") = some true) && (decide (PySem.W.typeIn K (.ref C) = some (.type "type")) && PySem.W.keepIn K (.ref C))))
theorem keyB_ok {K : PySem.W.Frag} {C : Addr} (h : keyB K C = true) : KeyC K C := by
  obtain ⟨h1, h⟩ := He.ba h
  obtain ⟨h2, h⟩ := He.ba h
  obtain ⟨h3, h⟩ := He.ba h
  obtain ⟨h4, h5⟩ := He.ba h
  obtain ⟨nm, q, N, bs, r, sn, sub, ab, col, dd, k0, k1, k2, k3, k5, e, er⟩ := shapeB_ok h1
  have er := of_decide_eq_true er
  subst er
  exact ⟨⟨nm, q, N, bs, sn, sub, ab, col, dd, k0, k1, k2, k3, k5, e⟩, He.eqO_ok h2, of_decide_eq_true h3, of_decide_eq_true h4, h5⟩
def excB (K : PySem.W.Frag) (D : Addr) : Bool := He.eqO (PySem.W.findIn K (.ref D) "__getattribute__") (some (some (.builtin "BaseException.__getattribute__"))) && (He.eqO (PySem.W.findIn K (.ref D) "__getattr__") (some none) && (decide (PySem.W.subIn K (.ref D) (.type "BaseException") = some true) && (PySem.W.hasDictIn K D &&
  (He.eqO (PySem.W.findIn K (.ref D) "__class__") (some (some (.builtin "object.__class__"))) && (He.eqO (PySem.W.specialIn K (.builtin "object.__class__") "__get__") (some (some (.builtin "getset_descriptor.__get__"))) && (decide (PySem.W.takesIn K (.builtin "object.__class__") = some true) && decide (PySem.W.mroIn K D (.type "object") = some true)))))))
theorem excB_ok {K : PySem.W.Frag} {D : Addr} (h : excB K D = true) : ExcC K D := by
  obtain ⟨h1, h⟩ := He.ba h
  obtain ⟨h2, h⟩ := He.ba h
  obtain ⟨h3, h⟩ := He.ba h
  obtain ⟨h4, h⟩ := He.ba h
  obtain ⟨h5, h⟩ := He.ba h
  obtain ⟨h6, h⟩ := He.ba h
  obtain ⟨h7, h8⟩ := He.ba h
  exact ⟨He.eqO_ok h1, He.eqO_ok h2, of_decide_eq_true h3, h4, He.eqO_ok h5, He.eqO_ok h6, of_decide_eq_true h7, of_decide_eq_true h8⟩
theorem excB_xf {K : PySem.W.Frag} {D : Addr} (h : excB K D = true) : XfC K D := by
  have e := excB_ok h
  exact ⟨e.hg, e.hk, e.hs, e.hd⟩
end K1
/-! the end of a law that holds where nothing that guards itself runs around -/
namespace Kx
open L2 PySem PySem.Spec PyProof.Rows
/-- what is followed at the start: the tables, the script where the written part does not hold it -/
def startH (K : PySem.W.Frag) (a : Addr) (vs : List Value) (ns : List Int) (tabs : List Addr) : Hp := fun b =>
  if b ∈ tabs then some (.tbl #[]) else if b = a ∧ K.lookup a = .none then some (.frz { cls := .type "list", data := .seq vs.toArray } (.lst (ns.map V.int))) else .none
section
variable {P : Program} {w : World} {K : PySem.W.Frag} {mg mb : Str → Option Value} {k : Nat} {fa a : Addr} {cs : List (Addr × Addr)} {fd : FuncData} {x : Str} {sp : Sp} {s : Shared} {vs : List Value} {ns : List Int}
theorem lone_end (X : K.In s.heap) (G : s.heap.Ns mainGlobals mg) (Bn : s.heap.Ns builtinsNs mb) (Bi : ∀ y : Str, y ≠ "__name__" → mb y = bootBuiltins y) (lim : s.heap.NoLimit) (gens : s.gens = #[])
    (tE : ∀ p ∈ cs, s.heap.get? p.2 = some { cls := .none, data := .fields #[] }) (tN : ∀ p ∈ cs, K.lookup p.2 = .none) (tC : ∀ p ∈ cs, PySem.W.CodeHd s.heap p.1 p.2)
    (bmod : ∃ (bm : Addr) (ob : Obj), mg "__builtins__" = some (.ref bm) ∧ bm ≠ builtinsNs ∧ s.heap.get? bm = some ob ∧ ob.cls = .type "module" ∧ ob.dict = some builtinsNs ∧ ob.data = .plain)
    (at_ : s.heap.get? a = some { cls := .type "list", data := .seq vs.toArray }) (isI : IntsAre vs ns) (short : ns.length ≤ sizeLine) (room : Room k callerA)
    (F : ∀ base : Heap, K.In base → base.Ns mainGlobals mg → (∀ p ∈ cs, LamX.TabB base mg p.1 p.2) → FnG P w K mg base CX0 k fa fd [x] sp) (bind : ∀ (s' : Shared) (u : Value), BindsTo s' fd ⟨[u], []⟩ [(x, u)])
    (give : ∀ H : Hp, (∀ p ∈ cs, H p.2 = some (.tbl #[])) → SqL K H a (ns.map V.int) → sp [.ref a] H (fun v _ => v = .bl true) fun _ _ _ => False) :
    codeAny (model P w) callerA (.call (.ref fa) ⟨[.ref a], []⟩) (fun r s' => r = .ok (.ret (.bool true)) ∧ OldK s.heap s'.heap ∧ s'.os = s.os ∧ AllBare s'.gens) s := by
  have rel := vals_ints isI
  have len := isI.length
  have tabIs : ∀ b ∈ cs.map (·.2), s.heap.get? b = some { cls := .none, data := .fields #[] } ∧ K.lookup b = .none := fun b hb => by
    obtain ⟨p, hp, rfl⟩ := List.mem_map.mp hb
    exact ⟨tE p hp, tN p hp⟩
  have apart : a ∉ cs.map (·.2) := fun z => by
    have q := (tabIs a z).1
    rw [at_] at q
    injection q with q
    injection q with _ _ q
    cases q
  let H := startH K a vs ns (cs.map (·.2))
  have hT : ∀ b ∈ cs.map (·.2), H b = some (.tbl #[]) := fun b hb => if_pos hb
  have hTs : ∀ p ∈ cs, H p.2 = some (.tbl #[]) := fun p hp => hT _ (List.mem_map_of_mem hp)
  -- what H follows: a table, the script
  have cases_ : ∀ b, (b ∈ cs.map (·.2) ∧ H b = some (.tbl #[])) ∨ (b = a ∧ K.lookup a = .none ∧ H b = some (.frz { cls := .type "list", data := .seq vs.toArray } (.lst (ns.map V.int)))) ∨ H b = .none := fun b => by
    by_cases h1 : b ∈ cs.map (·.2)
    · exact .inl ⟨h1, hT b h1⟩
    · by_cases h2 : b = a ∧ K.lookup a = .none
      · exact .inr (.inl ⟨h2.1, h2.2, (if_neg h1).trans (if_pos h2)⟩)
      · exact .inr (.inr ((if_neg h1).trans (if_neg h2)))
  have known : ∀ {b : Addr} {o : Obj}, K.lookup b = some o → H b = .none := fun {b o} e => by
    rcases cases_ b with ⟨h, _⟩ | ⟨rfl, h, _⟩ | h
    · rw [(tabIs b h).2] at e
      cases e
    · rw [h] at e
      cases e
    · exact h
  have other : ∀ {b : Addr} {o : Obj}, s.heap.get? b = some o → (∀ us n, o.data ≠ .seq us n) → o.data ≠ .fields #[] → H b = .none := fun {b o} e h1 h2 => by
    rcases cases_ b with ⟨h, _⟩ | ⟨rfl, _, _⟩ | h
    · rw [(tabIs b h).1] at e
      cases e
      exact absurd rfl h2
    · rw [at_] at e
      cases e
      exact absurd rfl (h1 _ _)
    · exact h
  have ns_ : ∀ {b : Addr} {m : Str → Option Value}, s.heap.Ns b m → (hidT s.heap H).Ns b m := fun {b m} ⟨o, es, ep, e, d, r⟩ =>
    ⟨o, es, ep, hidT_get e (other e (fun us n z => by rw [d] at z; cases z) fun z => by rw [d] at z; cases z), d, r⟩
  have Xb : K.In (hidT s.heap H) := fun b o e => hidT_get (X b o e) (known e)
  have holds : HOk P w H s.heap := fun b u z => by
    rcases cases_ b with ⟨h, e⟩ | ⟨rfl, _, e⟩ | e
    · obtain rfl : u = .tbl #[] := Option.some.inj (z.symm.trans e)
      exact (tabIs b h).1
    · obtain rfl := Option.some.inj (z.symm.trans e)
      exact ⟨at_, by rw [List.length_map]; exact short, vs, _, rel, at_⟩
    · rw [e] at z
      cases z
  have script : SqL K H a (ns.map V.int) := by
    cases q : K.lookup a with
    | none =>
      refine .inl (.inr ⟨{ cls := .type "list", data := .seq vs.toArray }, ?_⟩)
      exact (if_neg apart).trans (if_pos ⟨rfl, q⟩)
    | some o =>
      have e := X a o q
      rw [at_] at e
      cases e
      exact .inr ⟨_, vs.toArray, _, q, rfl, rfl, rfl, by rw [List.size_toArray, len]; exact short, by simpa using rel⟩
  have tabs : ∀ p ∈ cs, LamX.TabB (hidT s.heap H) mg p.1 p.2 := fun p hp => by
    refine ⟨?_, ?_, fun z => ?_⟩
    · obtain ⟨o, us, file, tf, flags, tg, inF, text, tt, e, c1, c2, c3, more⟩ := tC p hp
      refine ⟨o, us, file, tf, flags, tg, inF, text, tt, hidT_get e (other e (fun vs n z => by rw [c2] at z; cases z) fun z => ?_), c1, c2, c3, more⟩
      rw [c2] at z
      cases z
      simp at c3
    · obtain ⟨bm, ob, b1, b2, b3, b4, b5, b6⟩ := bmod
      have b7 : H bm = .none := other b3 (fun us n z => by rw [b6] at z; cases z) fun z => by rw [b6] at z; cases z
      refine ⟨bm, ob, b1, b2, fun q => ?_, fun q => ?_, hidT_get b3 b7, b4, b5, b6⟩
      · obtain ⟨o, es, ep, e, d, _⟩ := G
        rw [← q, b3] at e
        cases e
        rw [b6] at d
        cases d
      · rw [q, hTs p hp] at b7
        cases b7
    · obtain ⟨o, es, ep, e, d, _⟩ := G
      rw [z, tE p hp] at e
      cases e
      cases d
  have env : Env0 P w K mg (hidT s.heap H) callerA [] s H :=
    { frames := rfl
      mod := ⟨Xb, ns_ G, ⟨mb, ns_ Bn, Bi⟩, let ⟨mc, h1, h2⟩ := lim; ⟨mc, ns_ h1, h2⟩⟩
      bs := fun b o e => of_hidT e
      bsz := Nat.le_of_eq (hidT_size _ _)
      funs := trivial
      frf := fun b hb => absurd (show b ∈ ([] : List Addr) from hb) (by simp)
      hok := holds
      bare := .of_eq gens }
  refine codeAny_mono ((F _ Xb (ns_ G) tabs).run callerA [] s H ⟨[.ref a], []⟩ [.ref a] [.ref a] _ _ room rfl env (bind s (.ref a)) (.cons rfl .nil) (give H hTs script)) fun r s' z => ?_
  match r, z with
  | .error e, z => exact z.elim
  | .ok .next, z => exact z.elim
  | .ok .brk, z => exact z.elim
  | .ok .cont, z => exact z.elim
  | .ok (.ret u), z =>
    obtain ⟨v, H', os, bare, un, ok', r', ev⟩ := z
    subst ev
    obtain rfl : u = .bool true := r'
    have stay : ∀ b o, b ∉ cs.map (·.2) → s.heap.get? b = some o → s'.heap.get? b = some o := fun b o nb e => by
      rcases cases_ b with ⟨h, _⟩ | ⟨_, _, q⟩ | q
      · exact absurd h nb
      · have old := (holds b _ q).1
        rw [e] at old
        cases old
        exact (ok' b _ (un.frzs b _ _ q)).1
      · exact un.keep b o e q (fun m => absurd (show b ∈ ([] : List Addr) from m) (by simp)) (by simp)
    have grown : ∀ b ∈ cs.map (·.2), ∃ more : Array Value, s'.heap.get? b = some { cls := .none, data := .fields more } := fun b hb => by
      obtain ⟨more, q⟩ := un.tbls b #[] (hT b hb)
      exact ⟨_, ok' b _ q⟩
    refine ⟨rfl, ⟨fun b o eb => ?_, fun b o eb => ?_⟩, os, bare⟩
    · by_cases mb : b ∈ cs.map (·.2)
      · rcases List.mem_map.mp mb with ⟨p, hp, rfl⟩
        obtain ⟨more, hm⟩ := grown _ mb
        rw [tE p hp] at eb
        cases eb
        exact .inr (.inl ⟨((tC p hp).tab (tE p hp)).isCodeTable, rfl, #[], more, rfl, by rw [Array.empty_append]; exact hm⟩)
      · exact .inl (stay b o mb eb)
    · by_cases mb : b ∈ cs.map (·.2)
      · obtain ⟨more, hm⟩ := grown b mb
        exact ⟨_, hm⟩
      · exact ⟨o, stay b o mb eb⟩
end
/-- the law's def, told over the head's heap -/
theorem lone_walk {l : PySem.W.OpenLaw} {n k : Nat} {q : Program} {loose : List Str} {XP : (Str → Option Value) → Heap → Prop} {YP : World → Heap → Prop} {d : DefRec} {x : Str} (most : l.most = some n) (short : n ≤ sizeLine) (plain : d.params.defaults = []) (room : Room k callerA)
    (F : ∀ (w : World) (mg : Str → Option Value) (fa : Addr) (h : Heap), YP w h → h.Ns mainGlobals mg → mg d.name = some (.ref fa) → ∃ (K : PySem.W.Frag) (fd : FuncData) (cs : List (Addr × Addr)) (sp : Sp), K.In h ∧
      (∀ p ∈ cs, h.get? p.2 = some { cls := .none, data := .fields #[] }) ∧ (∀ p ∈ cs, K.lookup p.2 = none) ∧ (∀ p ∈ cs, PySem.W.CodeHd h p.1 p.2) ∧ (∀ (s : Shared) (u : Value), BindsTo s fd ⟨[u], []⟩ [(x, u)]) ∧
      (∀ (H : Hp) (a : Addr) (ns : List Int), ns.length ≤ n → (∀ p ∈ cs, H p.2 = some (.tbl #[])) → SqL K H a (ns.map V.int) → sp [.ref a] H (fun v _ => v = .bl true) fun _ _ _ => False) ∧
      ∀ base : Heap, K.In base → base.Ns mainGlobals mg → (∀ p ∈ cs, LamX.TabB base mg p.1 p.2) → FnG l.prog w K mg base CX0 k fa fd [x] sp) : PySem.W.WalkO q loose XP YP l.row.toRowW d [] (fun f vs => PySem.call f vs) := by
  refine Att.attach_callB most plain fun w s₀ s₁ mg mb fa o pm cd doc a vs ns G Y _ _ _ hmg hobj hints hlen _ hg => ?_
  obtain ⟨K, fd, cs, sp, X, tE, tN, tC, hb, give, hF⟩ := F w mg fa _ Y G.T.g hmg
  exact lone_end X G.T.g G.T.b G.T.builtins G.T.nolimit hg tE tN tC G.T.bmain hobj hints (Nat.le_trans hlen short) room hF hb fun H hH hS => give H a ns hlen hH hS
end Kx
/-! what the head tells -/
namespace K1
open PySem PySem.Spec PyProof.Rows L2 Kx RZ
def iniB (K : PySem.W.Frag) (C : Addr) : Bool := He.eqO (PySem.W.findIn K (.ref C) "__init__") (some (some (.ref (He.ma K C "__init__")))) && decide (PySem.W.typeIn K (.ref (He.ma K C "__init__")) = some (.type "function"))
theorem iniB_ok {K : PySem.W.Frag} {C : Addr} (h : iniB K C = true) : PySem.W.findIn K (.ref C) "__init__" = some (some (.ref (He.ma K C "__init__"))) ∧ PySem.W.typeIn K (.ref (He.ma K C "__init__")) = some (.type "function") := by
  obtain ⟨h1, h2⟩ := He.ba h
  exact ⟨He.eqO_ok h1, of_decide_eq_true h2⟩
def isiB (K : PySem.W.Frag) (C : Addr) : Bool := He.eqO (PySem.W.findIn K (.ref C) "__class__") (some (some (.builtin "object.__class__"))) && (He.eqO (PySem.W.specialIn K (.builtin "object.__class__") "__get__") (some (some (.builtin "getset_descriptor.__get__"))) &&
  (decide (PySem.W.takesIn K (.builtin "object.__class__") = some true) && decide (PySem.W.mroIn K C (.type "object") = some true)))
theorem isiB_ok {K : PySem.W.Frag} {C : Addr} (h : isiB K C = true) : SlX.SIsi K C := by
  obtain ⟨h1, h⟩ := He.ba h
  obtain ⟨h2, h⟩ := He.ba h
  obtain ⟨h3, h4⟩ := He.ba h
  exact ⟨He.eqO_ok h1, He.eqO_ok h2, of_decide_eq_true h3, of_decide_eq_true h4⟩
def kitB (K : PySem.W.Frag) (t c : Value) (b : Bool) : Bool := decide (PySem.W.kitOne K t c = some b)
theorem kitB_ok {K : PySem.W.Frag} {t c : Value} {b : Bool} (h : kitB K t c b = true) : PySem.W.kitOne K t c = some b := of_decide_eq_true h
/-- the class's own names -/
def nsOf (K : PySem.W.Frag) (C : Addr) : Addr := match K.lookup C with
  | some ⟨_, _, .cls cd, _⟩ => cd.ns
  | _ => 0
def strE (e : DictEntry) : Bool := match e.key with
  | .str _ _ => true
  | _ => false
def nsB (K : PySem.W.Frag) (N f : Addr) : Bool := match K.lookup N with
  | some ⟨_, _, .dict es _, _⟩ => es.toList.all strE && (decide (nsFind es "__eq__" = some (.ref f)) && decide (nsFind es "__ne__" = none))
  | _ => false
theorem nsB_ok {K : PySem.W.Frag} {N f : Addr} (h : nsB K N f = true) : ∃ (oN : Obj) (es : Array DictEntry) (ep : Nat), K.lookup N = some oN ∧ oN.data = .dict es ep ∧ StrKeys es ∧ nsFind es "__eq__" = some (.ref f) ∧ nsFind es "__ne__" = none := by
  unfold nsB at h
  split at h
  · rename_i oc od es ep sl e
    obtain ⟨h1, h⟩ := He.ba h
    obtain ⟨h2, h3⟩ := He.ba h
    refine ⟨_, es, ep, e, rfl, fun z hz => ?_, of_decide_eq_true h2, of_decide_eq_true h3⟩
    have := List.all_eq_true.mp h1 z (by simpa using hz)
    unfold strE at this
    split at this
    · rename_i n t q
      exact ⟨n, t, q⟩
    · cases this
  · cases h
def eqB (K : PySem.W.Frag) (C f : Addr) : Bool := He.eqO (PySem.W.findIn K (.ref C) "__eq__") (some (some (.ref f))) && (PySem.W.isFn K (.ref f) && (shapeB K C (fun r => decide (r = [.type "object"])) "object.__new__" && (nsB K (nsOf K C) f &&
  (match K.lookup f with
  | some ⟨.type c, _, _, _⟩ => decide (c = "function")
  | _ => false))))
theorem eqB_ok {K : PySem.W.Frag} {C f : Addr} (h : eqB K C f = true) : EqC K C f := by
  obtain ⟨h1, h⟩ := He.ba h
  obtain ⟨h2, h⟩ := He.ba h
  obtain ⟨h3, h⟩ := He.ba h
  obtain ⟨h4, h5⟩ := He.ba h
  obtain ⟨nm, q, N, bs, r, sn, sub, ab, col, dd, k0, k1, k2, k3, k5, e, er⟩ := shapeB_ok h3
  have er := of_decide_eq_true er
  subst er
  have eN : nsOf K C = N := by
    unfold nsOf
    rw [e]
  rw [eN] at h4
  obtain ⟨oN, es, ep, n1, n2, n3, n4, n5⟩ := nsB_ok h4
  have hf : ∃ oF, K.lookup f = some oF ∧ oF.cls = .type "function" := by
    split at h5
    · rename_i c od dt sl e
      exact ⟨_, e, congrArg Value.type (of_decide_eq_true h5)⟩
    · cases h5
  obtain ⟨oF, f1, f2⟩ := hf
  exact ⟨He.eqO_ok h1, h2, nm, q, N, bs, true, sn, sub, ab, col, dd, k0, k1, k2, k3, k5, "object.__new__", oN, oF, es, ep, e, n1, n2, n3, n4, n5, f1, f2⟩
/-! ### the names, the texts -/
abbrev dNone : He.Defn := ("_law_none_right", none)
abbrev dF (x : Str) (st : Stmt) : He.DefD := ⟨(x, none), x, x, defArgs st, defBody st, defScope st, [], []⟩
abbrev dM (C m q : Str) (st : Stmt) (ds : List He.Dv) : He.DefD := ⟨(C, some m), m, q, defArgs st, defBody st, defScope st, ds, []⟩
def fn : List He.DefD := [
  dF "is_number" s_is_number,
  dF "is_below" s_is_below,
  dF "is_sequence" s_is_sequence,
  dF "first_not_below" s_first_not_below,
  dF "row_of" s_row_of,
  dF "ended" s_ended,
  dF "_is_table" s_is_table,
  dF "need_state" s_need_state,
  dF "need_deed" s_need_deed,
  dF "check_row" s_check_row,
  dF "led" s_led,
  dF "in_coming_order" s_in_coming_order,
  dF "reached" s_reached,
  dF "_law_box" s_law_box,
  dF "_law_take" s_law_take,
  dF "_law_pick" s_law_pick,
  dF "_law_tables" s_law_tables,
  dF "_law_run" s_law_run,
  dF "_law_log" s_law_log,
  dF "_law_heard" s_law_heard,
  dF "_law_others" s_law_others,
  dF "_law_told_right" s_law_told_right,
  dF "_law_none_right" s_law_none_right,
  dF "law" s_law,
  dM "BadMachine" "__init__" "BadMachine.__init__" s_BadMachine_init [],
  dM "BadRow" "__init__" "BadRow.__init__" s_BadRow_init [],
  dM "NoState" "__init__" "NoState.__init__" s_NoState_init [],
  dM "NoDeed" "__init__" "NoDeed.__init__" s_NoDeed_init [],
  dM "Machine" "__init__" "Machine.__init__" s_Machine_init [],
  dM "Machine" "__eq__" "Machine.__eq__" s_Machine_eq []]
def fa : List He.Fa := [
  .glo "is_number", .glo "is_below", .glo "is_sequence", .glo "first_not_below", .glo "row_of", .glo "ended", .glo "_is_table", .glo "need_state",
  .glo "need_deed", .glo "check_row", .glo "led", .glo "in_coming_order", .glo "reached", .glo "_law_box", .glo "_law_take", .glo "_law_pick",
  .glo "_law_tables", .glo "_law_run", .glo "_law_log", .glo "_law_heard", .glo "_law_others", .glo "_law_told_right", .glo "_law_none_right", .glo "law",
  .glo "WitnessError", .glo "BadMachine", .glo "BadRow", .glo "NoState", .glo "NoDeed", .glo "Machine", .free "KeyError", .free "ValueError",
  .free "abs", .free "bool", .free "enumerate", .free "int", .free "isinstance", .free "len", .free "list", .free "max",
  .free "min", .free "range", .free "repr", .free "set", .free "sorted", .free "tuple", .int "DEEDS_MOST" 4, .int "STATES_MOST" 8,
  .int "ROW_MOST" 400, .cls "Machine", .mkr "Machine", .noat "Machine" "deeds", .noat "Machine" "states", .noat "Machine" "tables", .noat "BadMachine" "at", .noat "BadRow" "at",
  .noat "NoState" "state", .noat "NoDeed" "deed", .exm "BadMachine" "BadMachine" true, .exm "BadRow" "BadMachine" false, .exm "BadRow" "BadRow" true, .exm "NoState" "BadMachine" false, .exm "NoState" "BadRow" false, .exm "NoState" "NoState" true,
  .exm "NoDeed" "BadMachine" false, .exm "NoDeed" "BadRow" false, .exm "NoDeed" "NoState" false, .exm "NoDeed" "NoDeed" true]
def tf : List He.Defn := [dNone]
def bools (K : PySem.W.Frag) : List Bool := [
  oexB K (He.ga K "BadMachine"),
  oexB K (He.ga K "BadRow"),
  keyB K (He.ga K "NoState"),
  keyB K (He.ga K "NoDeed"),
  excB K (He.ga K "BadMachine"),
  excB K (He.ga K "BadRow"),
  excB K (He.ga K "NoState"),
  excB K (He.ga K "NoDeed"),
  iniB K (He.ga K "BadMachine"),
  iniB K (He.ga K "BadRow"),
  iniB K (He.ga K "NoState"),
  iniB K (He.ga K "NoDeed"),
  isiB K (He.ga K "Machine"),
  kitB K (.ref (He.ga K "Machine")) (.ref (He.ga K "Machine")) true,
  kitB K (.type "tuple") (.ref (He.ga K "Machine")) false,
  kitB K (.ref (He.ga K "BadMachine")) (.ref (He.ga K "WitnessError")) true,
  kitB K (.ref (He.ga K "BadRow")) (.ref (He.ga K "WitnessError")) true,
  PySem.W.notFirst K (He.ga K "Machine") (.type "tuple"),
  eqB K (He.ga K "Machine") (He.ma K (He.ga K "Machine") "__eq__")]
def ex (K : PySem.W.Frag) : Bool := (bools K).all id
theorem ex_at {K : PySem.W.Frag} (h : ex K = true) (i : Nat) {b : Bool} (e : (bools K)[i]? = some b) : b = true := List.all_eq_true.mp h b (List.mem_of_getElem? e)
/-! ### how arguments are bound -/
theorem vals_getD : ∀ {vs : List V} {us : List Value} (i : Nat), Vals vs us → RelV (vs.getD i .non) (us.getD i .none)
  | [], [], _, _ => rfl
  | _ :: _, _ :: _, 0, .cons h _ => h
  | _ :: _, _ :: _, i + 1, .cons _ h => by
    have := vals_getD i h
    simpa using this
def wk1 : List Value → List Value → List Value := fun _ ws => [ws.getD 0 .none]
def wk2 : List Value → List Value → List Value := fun _ ws => [ws.getD 1 .none, ws.getD 0 .none]
def wkL : List Value → List Value → List Value := fun _ ws => [ws.getD 2 .none, ws.getD 1 .none, ws.getD 0 .none]
section
variable {K : PySem.W.Frag} {x qual : Str} {params : Arguments} {body : List Stmt} {scope : Scope} {kws : List (Str × V)} {f : Addr} {fd : FuncData} {ps ks : List Str} {n : Nat}
theorem kbn_of {g : List Value → List Value → List Value} {gV : List V → List V → List V} (F : FunD K x qual params body scope [] kws f fd) (rel : ∀ {vs us zs ws}, Vals vs us → Vals zs ws → Vals (gV vs zs) (g us ws))
    (h : ∀ (kV doc pm : Value) (an : Option Addr) (cdv ct : Value) (us ws : List Value), us.length = n → ws.length = ks.length → bindArgs (PySem.W.fnOf x qual params body scope .none kV doc pm an cdv ct) ⟨us, ks.zip ws⟩ = pure (ps.zip (g us ws))) : KBn K fd ps n ks g gV := by
  obtain ⟨oc, od, dV, kV, doc, pm, an, cdv, ct, osl, rfl, lk, hcd, hD, -⟩ := F.ex
  rcases hD with ⟨-, rfl⟩ | ⟨e, -⟩
  · exact ⟨fun s us ws _ l1 l2 => .of_eq (h kV doc pm an cdv ct us ws l1 l2), rel⟩
  · exact absurd rfl e
theorem rel1 {vs : List V} {us : List Value} {zs : List V} {ws : List Value} (_ : Vals vs us) (h : Vals zs ws) : Vals (kw1 vs zs) (wk1 us ws) := .cons (vals_getD 0 h) .nil
theorem rel2 {vs : List V} {us : List Value} {zs : List V} {ws : List Value} (_ : Vals vs us) (h : Vals zs ws) : Vals (kw2 vs zs) (wk2 us ws) := .cons (vals_getD 1 h) (.cons (vals_getD 0 h) .nil)
theorem relL {vs : List V} {us : List Value} {zs : List V} {ws : List Value} (_ : Vals vs us) (h : Vals zs ws) : Vals (kwL vs zs) (wkL us ws) := .cons (vals_getD 2 h) (.cons (vals_getD 1 h) (.cons (vals_getD 0 h) .nil))
/-- a def's code object -/
theorem code_of {p : Str × Option Str} {st : Stmt} {z : Str} (F : FnP K z st (He.fAd K p) fd) : fd.code = .ref (He.cT K p).1 := by
  obtain ⟨oc, od, dV, kV, doc, pm, an, cdv, ct, osl, rfl, lk, hcd, -, -⟩ := F.ex
  obtain ⟨c, rfl⟩ := He.codeIn_ref hcd
  show Value.ref c = .ref (He.codeOf K p)
  rw [He.codeOf_eq lk rfl]
end
end K1
/-! the bundles, by what the head tells -/
namespace K1
open PySem PySem.Spec PyProof.Rows L2 Kx RZ
def adOf (K : PySem.W.Frag) : Ad := ⟨He.ga K "BadMachine", He.ga K "BadRow", He.ga K "NoState", He.ma K (He.ga K "NoState") "__init__", He.ga K "NoDeed", He.ma K (He.ga K "NoDeed") "__init__"⟩
abbrev Says (w : World) (h : Heap) (K : PySem.W.Frag) : Prop := He.SaysX fa fn [] tf ex w h K
section
variable {P : Program} {w : World} {K : PySem.W.Frag} {h : Heap} {mg : Str → Option Value}
theorem mg_of (X : K.In h) (G : h.Ns mainGlobals mg) (c : Says w h K) : Mg mg where
  z_KeyError := He.free_ok X G (c.t.d.fact 30 (f := .free "KeyError") rfl)
  z_ValueError := He.free_ok X G (c.t.d.fact 31 (f := .free "ValueError") rfl)
  z_abs := He.free_ok X G (c.t.d.fact 32 (f := .free "abs") rfl)
  z_bool := He.free_ok X G (c.t.d.fact 33 (f := .free "bool") rfl)
  z_enumerate := He.free_ok X G (c.t.d.fact 34 (f := .free "enumerate") rfl)
  z_int := He.free_ok X G (c.t.d.fact 35 (f := .free "int") rfl)
  z_isinstance := He.free_ok X G (c.t.d.fact 36 (f := .free "isinstance") rfl)
  z_len := He.free_ok X G (c.t.d.fact 37 (f := .free "len") rfl)
  z_list := He.free_ok X G (c.t.d.fact 38 (f := .free "list") rfl)
  z_max := He.free_ok X G (c.t.d.fact 39 (f := .free "max") rfl)
  z_min := He.free_ok X G (c.t.d.fact 40 (f := .free "min") rfl)
  z_range := He.free_ok X G (c.t.d.fact 41 (f := .free "range") rfl)
  z_repr := He.free_ok X G (c.t.d.fact 42 (f := .free "repr") rfl)
  z_set := He.free_ok X G (c.t.d.fact 43 (f := .free "set") rfl)
  z_sorted := He.free_ok X G (c.t.d.fact 44 (f := .free "sorted") rfl)
  z_tuple := He.free_ok X G (c.t.d.fact 45 (f := .free "tuple") rfl)
  g_DEEDS_MOST := He.int_ok X G (c.t.d.fact 46 (f := .int "DEEDS_MOST" 4) rfl)
  g_STATES_MOST := He.int_ok X G (c.t.d.fact 47 (f := .int "STATES_MOST" 8) rfl)
  g_ROW_MOST := He.int_ok X G (c.t.d.fact 48 (f := .int "ROW_MOST" 400) rfl)
theorem clsM_of (X : K.In h) (G : h.Ns mainGlobals mg) (c : Says w h K) : ClsM K mg (He.ga K "Machine") where
  at_ := (He.glo_ok X G (c.t.d.fact 29 (f := .glo "Machine") rfl))
  cl := He.cls_ok (c.t.d.fact 49 (f := .cls "Machine") rfl)
  n1 := (He.noat_ok (c.t.d.fact 51 (f := .noat "Machine" "deeds") rfl))
  n2 := (He.noat_ok (c.t.d.fact 52 (f := .noat "Machine" "states") rfl))
  n3 := (He.noat_ok (c.t.d.fact 53 (f := .noat "Machine" "tables") rfl))
  isi := isiB_ok (ex_at c.more 12 rfl)
  yes := kitB_ok (ex_at c.more 13 rfl)
  notT := kitB_ok (ex_at c.more 14 rfl)
  first := (ex_at c.more 17 rfl)
theorem hd_of (X : K.In h) (G : h.Ns mainGlobals mg) (c : Says w h K) : Hd K mg (adOf K) (He.ga K "WitnessError") where
  g_W := (He.glo_ok X G (c.t.d.fact 24 (f := .glo "WitnessError") rfl))
  g_M := (He.glo_ok X G (c.t.d.fact 25 (f := .glo "BadMachine") rfl))
  g_R := (He.glo_ok X G (c.t.d.fact 26 (f := .glo "BadRow") rfl))
  g_N := (He.glo_ok X G (c.t.d.fact 27 (f := .glo "NoState") rfl))
  g_D := (He.glo_ok X G (c.t.d.fact 28 (f := .glo "NoDeed") rfl))
  x_M := excB_xf (ex_at c.more 4 rfl)
  x_R := excB_xf (ex_at c.more 5 rfl)
  x_N := excB_xf (ex_at c.more 6 rfl)
  x_D := excB_xf (ex_at c.more 7 rfl)
  n_M := (He.noat_ok (c.t.d.fact 54 (f := .noat "BadMachine" "at") rfl))
  n_R := (He.noat_ok (c.t.d.fact 55 (f := .noat "BadRow" "at") rfl))
  n_N := (He.noat_ok (c.t.d.fact 56 (f := .noat "NoState" "state") rfl))
  n_D := (He.noat_ok (c.t.d.fact 57 (f := .noat "NoDeed" "deed") rfl))
  e_M := excB_ok (ex_at c.more 4 rfl)
  e_R := excB_ok (ex_at c.more 5 rfl)
  k_M := kitB_ok (ex_at c.more 15 rfl)
  k_R := kitB_ok (ex_at c.more 16 rfl)
  m_MM := (He.exm_ok (c.t.d.fact 58 (f := .exm "BadMachine" "BadMachine" true) rfl))
  m_RM := (He.exm_ok (c.t.d.fact 59 (f := .exm "BadRow" "BadMachine" false) rfl))
  m_RR := (He.exm_ok (c.t.d.fact 60 (f := .exm "BadRow" "BadRow" true) rfl))
  m_NM := (He.exm_ok (c.t.d.fact 61 (f := .exm "NoState" "BadMachine" false) rfl))
  m_NR := (He.exm_ok (c.t.d.fact 62 (f := .exm "NoState" "BadRow" false) rfl))
  m_NN := (He.exm_ok (c.t.d.fact 63 (f := .exm "NoState" "NoState" true) rfl))
  m_DM := (He.exm_ok (c.t.d.fact 64 (f := .exm "NoDeed" "BadMachine" false) rfl))
  m_DR := (He.exm_ok (c.t.d.fact 65 (f := .exm "NoDeed" "BadRow" false) rfl))
  m_DN := (He.exm_ok (c.t.d.fact 66 (f := .exm "NoDeed" "NoState" false) rfl))
  m_DD := (He.exm_ok (c.t.d.fact 67 (f := .exm "NoDeed" "NoDeed" true) rfl))
end
theorem errC_of {P : Program} {w : World} {K : PySem.W.Frag} {mg : Str → Option Value} {base : Heap} {x f qual : Str} {C : Addr} {fd : FuncData} {params : Arguments} {scope : Scope} {p1 p2 p3 p4 : Pos} (at_ : mg x = some (.ref C)) (cls : OexC K C) (no : PySem.W.findIn K (.ref C) f = some none) (ini : iniB K C = true)
    (F : FunD K "__init__" qual params [.Assign [.Attribute (.Name "self" p1) f p2] (.Name f p3) p4] scope [] [] (He.ma K C "__init__") fd)
    (sc : FnScope ["self", f] ["self", f] scope) (hd : (f == ("__debug__" : Str)) = false) (hcd : (f == ("__classdict__" : Str)) = false) (l0 : scope.names.lookup ("self" : Str) = some .local) (l1 : scope.names.lookup f = some .local)
    (b : Binds K fd ["self", f] []) : ErrC P w K mg base 1 x f C :=
  ⟨at_, cls, no, _, fd, (iniB_ok ini).1, (iniB_ok ini).2, b, ok_keep F cls no sc hd hcd l0 l1⟩
theorem sc_BadMachine : FnScope ["self", "at"] ["self", "at"] (defScope s_BadMachine_init) := ⟨rfl, rfl, rfl, by decide +kernel, rfl, by decide +kernel, by decide +kernel⟩
theorem err_BadMachine {P : Program} {w w' : World} {K : PySem.W.Frag} {h base : Heap} {mg : Str → Option Value} (X : K.In h) (G : h.Ns mainGlobals mg) (c : Says w' h K) : ErrC P w K mg base 1 "BadMachine" "at" (He.ga K "BadMachine") := by
  obtain ⟨fd, F⟩ := c.t.d.def_ 24 rfl
  exact errC_of (He.glo_ok X G (c.t.d.fact 25 (f := .glo "BadMachine") rfl)) (oexB_ok (ex_at c.more 0 rfl)) (He.noat_ok (c.t.d.fact 54 (f := .noat "BadMachine" "at") rfl)) (ex_at c.more 8 rfl) F sc_BadMachine (by decide) (by decide) (by decide +kernel) (by decide +kernel) (F.bindsN fun _ _ _ _ _ _ us hl => match us, hl with | [_, _], _ => rfl)
theorem sc_BadRow : FnScope ["self", "at"] ["self", "at"] (defScope s_BadRow_init) := ⟨rfl, rfl, rfl, by decide +kernel, rfl, by decide +kernel, by decide +kernel⟩
theorem err_BadRow {P : Program} {w w' : World} {K : PySem.W.Frag} {h base : Heap} {mg : Str → Option Value} (X : K.In h) (G : h.Ns mainGlobals mg) (c : Says w' h K) : ErrC P w K mg base 1 "BadRow" "at" (He.ga K "BadRow") := by
  obtain ⟨fd, F⟩ := c.t.d.def_ 25 rfl
  exact errC_of (He.glo_ok X G (c.t.d.fact 26 (f := .glo "BadRow") rfl)) (oexB_ok (ex_at c.more 1 rfl)) (He.noat_ok (c.t.d.fact 55 (f := .noat "BadRow" "at") rfl)) (ex_at c.more 9 rfl) F sc_BadRow (by decide) (by decide) (by decide +kernel) (by decide +kernel) (F.bindsN fun _ _ _ _ _ _ us hl => match us, hl with | [_, _], _ => rfl)
theorem txt_NoState {w' : World} {K : PySem.W.Frag} {h : Heap} (c : Says w' h K) : KS.Txt K (He.ga K "NoState") (He.ma K (He.ga K "NoState") "__init__") "NoState.__init__" := by
  obtain ⟨fd, F⟩ := c.t.d.def_ 26 rfl
  obtain ⟨oc, od, dV, kV, doc, pm, an, cdv, ct, osl, rfl, lk, hcd, hD, -⟩ := F.ex
  have z : dV = .none := by
    rcases hD with ⟨_, z⟩ | ⟨z, _⟩
    · exact z
    · exact absurd rfl z
  exact ⟨keyB_ok (ex_at c.more 2 rfl), (He.noat_ok (c.t.d.fact 56 (f := .noat "NoState" "state") rfl)), (iniB_ok (ex_at c.more 10 rfl)).1, (iniB_ok (ex_at c.more 10 rfl)).2, oc, od, dV, kV, doc, pm, an, cdv, ct, osl, _, _, _, _, _, _, lk, hcd, z⟩
theorem txt_NoDeed {w' : World} {K : PySem.W.Frag} {h : Heap} (c : Says w' h K) : KD.Txt K (He.ga K "NoDeed") (He.ma K (He.ga K "NoDeed") "__init__") "NoDeed.__init__" := by
  obtain ⟨fd, F⟩ := c.t.d.def_ 27 rfl
  obtain ⟨oc, od, dV, kV, doc, pm, an, cdv, ct, osl, rfl, lk, hcd, hD, -⟩ := F.ex
  have z : dV = .none := by
    rcases hD with ⟨_, z⟩ | ⟨z, _⟩
    · exact z
    · exact absurd rfl z
  exact ⟨keyB_ok (ex_at c.more 3 rfl), (He.noat_ok (c.t.d.fact 57 (f := .noat "NoDeed" "deed") rfl)), (iniB_ok (ex_at c.more 11 rfl)).1, (iniB_ok (ex_at c.more 11 rfl)).2, oc, od, dV, kV, doc, pm, an, cdv, ct, osl, _, _, _, _, _, _, lk, hcd, z⟩
theorem er_of {P : Program} {w w' : World} {K : PySem.W.Frag} {h base : Heap} {mg : Str → Option Value} (X : K.In h) (G : h.Ns mainGlobals mg) (c : Says w' h K) : Er P w K mg base (adOf K) where
  BadMachine := err_BadMachine X G c
  BadRow := err_BadRow X G c
  NoState := txt_NoState c
  n_NoState := (He.glo_ok X G (c.t.d.fact 27 (f := .glo "NoState") rfl))
  NoDeed := txt_NoDeed c
  n_NoDeed := (He.glo_ok X G (c.t.d.fact 28 (f := .glo "NoDeed") rfl))
section
variable {P : Program} {w : World} {K : PySem.W.Frag} {mg : Str → Option Value} {base : Heap} {x qual : Str} {params : Arguments} {body : List Stmt} {scope : Scope} {f : Addr} {fd : FuncData} {ps ks : List Str} {k n : Nat} {CX : CXT} {sp : Sp}
/-- a def by its name -/
theorem cal_of (at_ : mg x = some (.ref f)) (F : FunD K x qual params body scope [] [] f fd) (ok : FnOk P w K mg base CX k f fd ps sp) (h : ∀ (kV doc pm : Value) (an : Option Addr) (cdv ct : Value) (us : List Value), us.length = ps.length → bindArgs (PySem.W.fnOf x qual params body scope .none kV doc pm an cdv ct) ⟨us, []⟩ = pure (ps.zip us)) :
    Cal P w K mg base CX k x ps sp := ⟨_, _, at_, F.kp, F.bindsN h, ok⟩
theorem calN_of {g : List Value → List Value → List Value} {gV : List V → List V → List V} (at_ : mg x = some (.ref f)) (F : FunD K x qual params body scope [] [] f fd) (ok : FnOk P w K mg base CX k f fd ps sp) (rel : ∀ {vs us zs ws}, Vals vs us → Vals zs ws → Vals (gV vs zs) (g us ws))
    (h : ∀ (kV doc pm : Value) (an : Option Addr) (cdv ct : Value) (us ws : List Value), us.length = n → ws.length = ks.length → bindArgs (PySem.W.fnOf x qual params body scope .none kV doc pm an cdv ct) ⟨us, ks.zip ws⟩ = pure (ps.zip (g us ws))) : CalN P w K mg base CX k n x ps ks gV sp :=
  ⟨_, _, g, at_, F.kp, kbn_of F rel h, ok⟩
end
section
variable {P : Program} {w w' : World} {K : PySem.W.Frag} {h base : Heap} {mg : Str → Option Value}
theorem fns_of (X : K.In h) (G : h.Ns mainGlobals mg) (c : Says w' h K) : Fns P w K mg base (adOf K) (He.ga K "Machine") := by
  have T := mg_of X G c
  have TM := clsM_of X G c
  have R : Er P w K mg base (adOf K) := er_of X G c
  obtain ⟨fdn, Fn⟩ := c.t.d.def_ 0 (d := dF "is_number" s_is_number) rfl
  have fn : FnOk P w K mg base CX0 1 (He.ga K "is_number") fdn ["value"] (spNumber K) := ok_is_number Fn T
  have cn : Cal P w K mg base CX0 1 "is_number" ["value"] (spNumber K) := cal_of (He.glo_ok X G (c.t.d.fact 0 (f := .glo "is_number") rfl)) Fn fn fun _ _ _ _ _ _ us hl => match us, hl with | [_], _ => rfl
  obtain ⟨fdb, Fb⟩ := c.t.d.def_ 1 (d := dF "is_below" s_is_below) rfl
  have fb : FnOk P w K mg base CX0 2 (He.ga K "is_below") fdb ["value", "limit"] (spBelow K) := ok_is_below Fb T cn
  have cb : Cal P w K mg base CX0 2 "is_below" ["value", "limit"] (spBelow K) := cal_of (He.glo_ok X G (c.t.d.fact 1 (f := .glo "is_below") rfl)) Fb fb fun _ _ _ _ _ _ us hl => match us, hl with | [_, _], _ => rfl
  obtain ⟨fds, Fs⟩ := c.t.d.def_ 2 (d := dF "is_sequence" s_is_sequence) rfl
  have fs : FnOk P w K mg base CX0 1 (He.ga K "is_sequence") fds ["value", "least", "most"] (spSeq K) := ok_is_sequence Fs T
  have cs : Cal P w K mg base CX0 1 "is_sequence" ["value", "least", "most"] (spSeq K) := cal_of (He.glo_ok X G (c.t.d.fact 2 (f := .glo "is_sequence") rfl)) Fs fs fun _ _ _ _ _ _ us hl => match us, hl with | [_, _, _], _ => rfl
  obtain ⟨fdl, Fl⟩ := c.t.d.def_ 3 (d := dF "first_not_below" s_first_not_below) rfl
  have fl : FnOk P w K mg base CX0 3 (He.ga K "first_not_below") fdl ["values", "limit"] (spFnb K) := ok_first_not_below Fl T cb
  have cl : Cal P w K mg base CX0 3 "first_not_below" ["values", "limit"] (spFnb K) := cal_of (He.glo_ok X G (c.t.d.fact 3 (f := .glo "first_not_below") rfl)) Fl fl fun _ _ _ _ _ _ us hl => match us, hl with | [_, _], _ => rfl
  obtain ⟨fdr, Fr⟩ := c.t.d.def_ 4 (d := dF "row_of" s_row_of) rfl
  have fr : FnOk P w K mg base (L2.CX P w) 4 (He.ga K "row_of") fdr ["value", "deeds"] (spRowOf K (adOf K)) := ok_row_of Fr T R cs cl
  have cr : Cal P w K mg base (L2.CX P w) 4 "row_of" ["value", "deeds"] (spRowOf K (adOf K)) := cal_of (He.glo_ok X G (c.t.d.fact 4 (f := .glo "row_of") rfl)) Fr fr fun _ _ _ _ _ _ us hl => match us, hl with | [_, _], _ => rfl
  obtain ⟨fdns, Fns⟩ := c.t.d.def_ 7 (d := dF "need_state" s_need_state) rfl
  have fns : FnOk P w K mg base (L2.CX P w) 3 (He.ga K "need_state") fdns ["machine", "state"] (spState K (adOf K) (He.ga K "Machine")) := ok_need_state Fns T R TM cb
  have cns : Cal P w K mg base (L2.CX P w) 3 "need_state" ["machine", "state"] (spState K (adOf K) (He.ga K "Machine")) := cal_of (He.glo_ok X G (c.t.d.fact 7 (f := .glo "need_state") rfl)) Fns fns fun _ _ _ _ _ _ us hl => match us, hl with | [_, _], _ => rfl
  obtain ⟨fdnd, Fnd⟩ := c.t.d.def_ 8 (d := dF "need_deed" s_need_deed) rfl
  have fnd : FnOk P w K mg base (L2.CX P w) 3 (He.ga K "need_deed") fdnd ["machine", "deed"] (spDeed K (adOf K) (He.ga K "Machine")) := ok_need_deed Fnd T R TM cb
  have cnd : Cal P w K mg base (L2.CX P w) 3 "need_deed" ["machine", "deed"] (spDeed K (adOf K) (He.ga K "Machine")) := cal_of (He.glo_ok X G (c.t.d.fact 8 (f := .glo "need_deed") rfl)) Fnd fnd fun _ _ _ _ _ _ us hl => match us, hl with | [_, _], _ => rfl
  obtain ⟨fdck, Fck⟩ := c.t.d.def_ 9 (d := dF "check_row" s_check_row) rfl
  have fck : FnOk P w K mg base (L2.CX P w) 5 (He.ga K "check_row") fdck ["machine", "value"] (spRow K (adOf K) (He.ga K "Machine")) := ok_check_row Fck T TM cr
  have cck : Cal P w K mg base (L2.CX P w) 5 "check_row" ["machine", "value"] (spRow K (adOf K) (He.ga K "Machine")) := cal_of (He.glo_ok X G (c.t.d.fact 9 (f := .glo "check_row") rfl)) Fck fck fun _ _ _ _ _ _ us hl => match us, hl with | [_, _], _ => rfl
  obtain ⟨fden, Fen⟩ := c.t.d.def_ 5 (d := dF "ended" s_ended) rfl
  have fen : FnOk P w K mg base CX0 1 (He.ga K "ended") fden ["tables", "place", "row"] (spEnded K) := ok_ended Fen
  have cen : Cal P w K mg base CX0 1 "ended" ["tables", "place", "row"] (spEnded K) := cal_of (He.glo_ok X G (c.t.d.fact 5 (f := .glo "ended") rfl)) Fen fen fun _ _ _ _ _ _ us hl => match us, hl with | [_, _, _], _ => rfl
  obtain ⟨fdld, Fld⟩ := c.t.d.def_ 10 (d := dF "led" s_led) rfl
  have fld : FnOk P w K mg base (L2.CX P w) 6 (He.ga K "led") fdld ["machine", "state", "row"] (spLed K (adOf K) (He.ga K "Machine")) := ok_led Fld T TM cns cck cen
  have cld : Cal P w K mg base (L2.CX P w) 6 "led" ["machine", "state", "row"] (spLed K (adOf K) (He.ga K "Machine")) := cal_of (He.glo_ok X G (c.t.d.fact 10 (f := .glo "led") rfl)) Fld fld fun _ _ _ _ _ _ us hl => match us, hl with | [_, _, _], _ => rfl
  obtain ⟨fdco, Fco⟩ := c.t.d.def_ 11 (d := dF "in_coming_order" s_in_coming_order) rfl
  have fco : FnOk P w K mg base (L2.CX P w) 5 (He.ga K "in_coming_order") fdco ["machine", "first"] (spComing K (adOf K) (He.ga K "Machine")) := ok_coming Fco T TM cns
  have cco : Cal P w K mg base (L2.CX P w) 5 "in_coming_order" ["machine", "first"] (spComing K (adOf K) (He.ga K "Machine")) := cal_of (He.glo_ok X G (c.t.d.fact 11 (f := .glo "in_coming_order") rfl)) Fco fco fun _ _ _ _ _ _ us hl => match us, hl with | [_, _], _ => rfl
  obtain ⟨fdrc, Frc⟩ := c.t.d.def_ 12 (d := dF "reached" s_reached) rfl
  have frc : FnOk P w K mg base (L2.CX P w) 6 (He.ga K "reached") fdrc ["machine", "first"] (spReached K (adOf K) (He.ga K "Machine")) := ok_reached Frc T cco
  have crc : Cal P w K mg base (L2.CX P w) 6 "reached" ["machine", "first"] (spReached K (adOf K) (He.ga K "Machine")) := cal_of (He.glo_ok X G (c.t.d.fact 12 (f := .glo "reached") rfl)) Frc frc fun _ _ _ _ _ _ us hl => match us, hl with | [_, _], _ => rfl
  obtain ⟨fdlt, Flt⟩ := c.t.d.def_ 14 (d := dF "_law_take" s_law_take) rfl
  have flt : FnOk P w K mg base CX0 1 (He.ga K "_law_take") fdlt ["box", "many"] spTake := ok_take Flt T
  have clt : Cal P w K mg base CX0 1 "_law_take" ["box", "many"] spTake := cal_of (He.glo_ok X G (c.t.d.fact 14 (f := .glo "_law_take") rfl)) Flt flt fun _ _ _ _ _ _ us hl => match us, hl with | [_, _], _ => rfl
  obtain ⟨fdlp, Flp⟩ := c.t.d.def_ 15 (d := dF "_law_pick" s_law_pick) rfl
  have flp : FnOk P w K mg base CX0 2 (He.ga K "_law_pick") fdlp ["box", "some"] (spPick K) := ok_pick Flp T clt
  have clp : Cal P w K mg base CX0 2 "_law_pick" ["box", "some"] (spPick K) := cal_of (He.glo_ok X G (c.t.d.fact 15 (f := .glo "_law_pick") rfl)) Flp flp fun _ _ _ _ _ _ us hl => match us, hl with | [_, _], _ => rfl
  obtain ⟨fdlr, Flr⟩ := c.t.d.def_ 17 (d := dF "_law_run" s_law_run) rfl
  have flr : FnOk P w K mg base CX0 1 (He.ga K "_law_run") fdlr ["tables", "start", "log"] (spRun K) := ok_run Flr
  have clr : Cal P w K mg base CX0 1 "_law_run" ["tables", "start", "log"] (spRun K) := cal_of (He.glo_ok X G (c.t.d.fact 17 (f := .glo "_law_run") rfl)) Flr flr fun _ _ _ _ _ _ us hl => match us, hl with | [_, _, _], _ => rfl
  obtain ⟨fdlg, Flg⟩ := c.t.d.def_ 18 (d := dF "_law_log" s_law_log) rfl
  have flg : FnOk P w K mg base CX0 2 (He.ga K "_law_log") fdlg ["box", "tables", "most"] (spLog K) := ok_log Flg T clt
  have clg : Cal P w K mg base CX0 2 "_law_log" ["box", "tables", "most"] (spLog K) := cal_of (He.glo_ok X G (c.t.d.fact 18 (f := .glo "_law_log") rfl)) Flg flg fun _ _ _ _ _ _ us hl => match us, hl with | [_, _, _], _ => rfl
  obtain ⟨fdlo, Flo⟩ := c.t.d.def_ 20 (d := dF "_law_others" s_law_others) rfl
  have flo : FnOk P w K mg base CX0 2 (He.ga K "_law_others") fdlo ["box", "tables"] (spOthers K) := ok_others Flo T clt
  have clo : Cal P w K mg base CX0 2 "_law_others" ["box", "tables"] (spOthers K) := cal_of (He.glo_ok X G (c.t.d.fact 20 (f := .glo "_law_others") rfl)) Flo flo fun _ _ _ _ _ _ us hl => match us, hl with | [_, _], _ => rfl
  exact {
    take := clt
    pick := clp
    run := clr
    log := clg
    others := clo
    state := cns
    stateK := calN_of (g := wk2) (He.glo_ok X G (c.t.d.fact 7 (f := .glo "need_state") rfl)) Fns fns rel2 fun _ _ _ _ _ _ us ws hl hm => match us, ws, hl, hm with | [], [_, _], _, _ => rfl
    deed := cnd
    deedK := calN_of (g := wk2) (He.glo_ok X G (c.t.d.fact 8 (f := .glo "need_deed") rfl)) Fnd fnd rel2 fun _ _ _ _ _ _ us ws hl hm => match us, ws, hl, hm with | [], [_, _], _, _ => rfl
    row := cck
    rowK := calN_of (g := wk2) (He.glo_ok X G (c.t.d.fact 9 (f := .glo "check_row") rfl)) Fck fck rel2 fun _ _ _ _ _ _ us ws hl hm => match us, ws, hl, hm with | [], [_, _], _, _ => rfl
    led := cld
    ledK := calN_of (g := wkL) (He.glo_ok X G (c.t.d.fact 10 (f := .glo "led") rfl)) Fld fld relL fun _ _ _ _ _ _ us ws hl hm => match us, ws, hl, hm with | [], [_, _, _], _, _ => rfl
    rch := crc
    rchK := calN_of (g := wk2) (He.glo_ok X G (c.t.d.fact 12 (f := .glo "reached") rfl)) Frc frc rel2 fun _ _ _ _ _ _ us ws hl hm => match us, ws, hl, hm with | [], [_, _], _, _ => rfl }
theorem mks_of (X : K.In h) (G : h.Ns mainGlobals mg) (c : Says w' h K) : Mks P w K mg base (adOf K) (He.ga K "Machine") := by
  have T := mg_of X G c
  have TM := clsM_of X G c
  have R : Er P w K mg base (adOf K) := er_of X G c
  obtain ⟨fdn, Fn⟩ := c.t.d.def_ 0 (d := dF "is_number" s_is_number) rfl
  have fn : FnOk P w K mg base CX0 1 (He.ga K "is_number") fdn ["value"] (spNumber K) := ok_is_number Fn T
  have cn : Cal P w K mg base CX0 1 "is_number" ["value"] (spNumber K) := cal_of (He.glo_ok X G (c.t.d.fact 0 (f := .glo "is_number") rfl)) Fn fn fun _ _ _ _ _ _ us hl => match us, hl with | [_], _ => rfl
  obtain ⟨fdb, Fb⟩ := c.t.d.def_ 1 (d := dF "is_below" s_is_below) rfl
  have fb : FnOk P w K mg base CX0 2 (He.ga K "is_below") fdb ["value", "limit"] (spBelow K) := ok_is_below Fb T cn
  have cb : Cal P w K mg base CX0 2 "is_below" ["value", "limit"] (spBelow K) := cal_of (He.glo_ok X G (c.t.d.fact 1 (f := .glo "is_below") rfl)) Fb fb fun _ _ _ _ _ _ us hl => match us, hl with | [_, _], _ => rfl
  obtain ⟨fds, Fs⟩ := c.t.d.def_ 2 (d := dF "is_sequence" s_is_sequence) rfl
  have fs : FnOk P w K mg base CX0 1 (He.ga K "is_sequence") fds ["value", "least", "most"] (spSeq K) := ok_is_sequence Fs T
  have cs : Cal P w K mg base CX0 1 "is_sequence" ["value", "least", "most"] (spSeq K) := cal_of (He.glo_ok X G (c.t.d.fact 2 (f := .glo "is_sequence") rfl)) Fs fs fun _ _ _ _ _ _ us hl => match us, hl with | [_, _, _], _ => rfl
  obtain ⟨fdl, Fl⟩ := c.t.d.def_ 3 (d := dF "first_not_below" s_first_not_below) rfl
  have fl : FnOk P w K mg base CX0 3 (He.ga K "first_not_below") fdl ["values", "limit"] (spFnb K) := ok_first_not_below Fl T cb
  have cl : Cal P w K mg base CX0 3 "first_not_below" ["values", "limit"] (spFnb K) := cal_of (He.glo_ok X G (c.t.d.fact 3 (f := .glo "first_not_below") rfl)) Fl fl fun _ _ _ _ _ _ us hl => match us, hl with | [_, _], _ => rfl
  obtain ⟨fdt, Ft⟩ := c.t.d.def_ 6 (d := dF "_is_table" s_is_table) rfl
  have ft : FnOk P w K mg base CX0 4 (He.ga K "_is_table") fdt ["value", "like"] (spTable K) := ok_is_table Ft T cs cl
  have ct : Cal P w K mg base CX0 4 "_is_table" ["value", "like"] (spTable K) := cal_of (He.glo_ok X G (c.t.d.fact 6 (f := .glo "_is_table") rfl)) Ft ft fun _ _ _ _ _ _ us hl => match us, hl with | [_, _], _ => rfl
  obtain ⟨fdE, FE⟩ := c.t.d.def_ 29 (d := dM "Machine" "__eq__" "Machine.__eq__" s_Machine_eq []) rfl
  obtain ⟨fdM, FM⟩ := c.t.d.def_ 28 (d := dM "Machine" "__init__" "Machine.__init__" s_Machine_init []) rfl
  have okE : FnOk P w K mg base CX0 1 (He.ma K (He.ga K "Machine") "__eq__") fdE ["self", "other"] (spEqM K (He.ga K "Machine")) := ok_eq FE T TM
  have okM : FnOk P w K mg base (L2.CX P w) 5 (He.ma K (He.ga K "Machine") "__init__") fdM ["self", "tables"] (spMachine K (adOf K) (He.ga K "Machine")) := ok_machine FM T R TM cs ct
  have b3 : ∃ g, KBn K fdM ["self", "tables"] 1 ["tables"] g kwM := ⟨fun us ws => us ++ [ws.getD 0 .none], kbn_of FM (fun r1 r2 => r1.append (.cons (vals_getD 0 r2) .nil)) fun _ _ _ _ _ _ us ws hl hm => match us, ws, hl, hm with | [_], [_], _, _ => rfl⟩
  exact {
    mac := ⟨_, fdM, He.mkr_ok (c.t.d.fact 50 (f := .mkr "Machine") rfl), okM, FM.bindsN fun _ _ _ _ _ _ us hl => match us, hl with | [_, _], _ => rfl, b3⟩
    eq := ⟨_, fdE, eqB_ok (ex_at c.more 18 rfl), FE.bindsN fun _ _ _ _ _ _ us hl => match us, hl with | [_, _], _ => rfl, okE⟩ }
end
end K1
/-! the end -/
namespace K1
open PySem PySem.Spec PyProof.Rows L2 Kx RZ
abbrev Rw : PySem.W.OpenRow := PySem.W.OpenLaw.row PySem.Challenge.rw_onewitness_k01_machines_and_what_is_none
abbrev hk : PySem.W.Hook := He.hookX 5 fa fn [] tf ex
def ob (s : PySem.W.SharedT) : He.AlX := He.obsX 5 fa fn [] tf ex (HandSHeadRun.getT s)
theorem ob_eq (s : PySem.W.SharedT) : ob s = hk.obs s.abs := He.obsX_eq (HandSHeadRun.getT_eq s)
def others1 : List Str := ["WitnessError", "BadMachine", "BadRow", "NoState", "NoDeed", "DEEDS_MOST", "STATES_MOST", "ROW_MOST", "is_number", "is_below", "is_sequence", "first_not_below", "row_of", "ended", "Machine", "_is_table", "need_state", "need_deed", "check_row", "led", "in_coming_order", "reached", "_law_box", "_law_take", "_law_pick", "_law_tables", "_law_run", "_law_log", "_law_heard", "_law_others"]
def others2 : List Str := ["_law_told_right", "_law_none_right"]
abbrev others : List Str := others1 ++ others2
theorem top_runs (w : World) : HandSHeadRun.RunEq Rw (PySem.W.view Rw.prog [36]) hk ob 8000 others w := by
  intro os
  kernel_rfl
end K1
/-! the end -/
namespace K1
open PySem PySem.Spec PyProof.Rows L2 Kx RZ
/-- the lambdas' tables and their names -/
def tabsOf (K : PySem.W.Frag) : List (Addr × Str) := [((He.cT K dNone).2, (Str.ofString "_law_none_right" ++ ".<locals>.") ++ "<lambda>")]

theorem ref_same {m : Option Value} {a b : Addr} (h : m = some (.ref a)) (h' : m = some (.ref b)) : a = b := by
  rw [h] at h'
  injection h' with h'
  injection h'
theorem law_told {P : Program} {w : World} {K : PySem.W.Frag} {h : Heap} {mg : Str → Option Value} (X : K.In h) (G : h.Ns mainGlobals mg) (c : Says w h K) :
    ∃ fd : FuncData, (∀ (s : Shared) (u : Value), BindsTo s fd ⟨[u], []⟩ [("script", u)]) ∧ ∀ base : Heap, K.In base → base.Ns mainGlobals mg → (∀ p ∈ tf.map (He.cT K), LamX.TabB base mg p.1 p.2) → FnG P w K mg base CX0 10 (He.ga K "law") fd ["script"] (spLaw K (tabsOf K)) := by
  obtain ⟨fdH, FH⟩ := c.t.d.def_ 19 (d := dF "_law_heard" s_law_heard) rfl
  obtain ⟨fdR, FR⟩ := c.t.d.def_ 21 (d := dF "_law_told_right" s_law_told_right) rfl
  obtain ⟨fdN, FN⟩ := c.t.d.def_ 22 (d := dF "_law_none_right" s_law_none_right) rfl
  obtain ⟨fdlt, Flt⟩ := c.t.d.def_ 14 (d := dF "_law_take" s_law_take) rfl
  obtain ⟨fdlp, Flp⟩ := c.t.d.def_ 15 (d := dF "_law_pick" s_law_pick) rfl
  obtain ⟨fdlb, Flb⟩ := c.t.d.def_ 13 (d := dF "_law_box" s_law_box) rfl
  obtain ⟨fdlu, Flu⟩ := c.t.d.def_ 16 (d := dF "_law_tables" s_law_tables) rfl
  obtain ⟨fdL, FL⟩ := c.t.d.def_ 23 (d := dF "law" s_law) rfl
  have bL := FunD.bindsA (ps := ["script"]) FL fun _ _ _ _ _ _ us hl => match us, hl with | [_], _ => rfl
  refine ⟨fdL, fun s u => bL s [u] rfl, fun base _ _ TB => ?_⟩
  have T := mg_of X G c
  have TM := clsM_of X G c
  have D := hd_of X G c
  have B : Fns P w K mg base (adOf K) (He.ga K "Machine") := fns_of X G c
  have M : Mks P w K mg base (adOf K) (He.ga K "Machine") := mks_of X G c
  have gH := (He.glo_ok X G (c.t.d.fact 19 (f := .glo "_law_heard") rfl))
  have bH : Binds K fdH ["ask"] [] := FH.bindsN fun _ _ _ _ _ _ us hl => match us, hl with | [_], _ => rfl
  have tN : LamX.TabB base mg (He.cT K dNone).1 (He.cT K dNone).2 := TB _ (List.mem_cons_self ..)
  have mN : ((He.cT K dNone).2, (Str.ofString "_law_none_right" ++ ".<locals>.") ++ "<lambda>") ∈ tabsOf K := List.mem_cons_self ..
  have oN : ∀ p ∈ tabsOf K, p.1 = (He.cT K dNone).2 → p.2 = (Str.ofString "_law_none_right" ++ ".<locals>.") ++ "<lambda>" := fun p hp _ => by rw [List.mem_singleton.mp hp]
  have okR : FnG P w K mg base CX0 8 (He.ga K "_law_told_right") fdR ["box", "tables"] (spTold K) := ok_told FR T TM B M
  have okN : FnG P w K mg base CX0 9 (He.ga K "_law_none_right") fdN ["box", "tables"] (spNone K (tabsOf K)) := ok_none FN (code_of (p := dNone) (z := "_law_none_right") (st := s_law_none_right) FN) FH gH bH T TM D tN mN oN B M
  exact ok_law FL T (cal_of (He.glo_ok X G (c.t.d.fact 13 (f := .glo "_law_box") rfl)) Flb (ok_box Flb T) fun _ _ _ _ _ _ us hl => match us, hl with | [_, _], _ => rfl) (cal_of (He.glo_ok X G (c.t.d.fact 16 (f := .glo "_law_tables") rfl)) Flu (ok_tables Flu T B.take B.pick) fun _ _ _ _ _ _ us hl => match us, hl with | [_, _, _], _ => rfl)
    ⟨_, _, (He.glo_ok X G (c.t.d.fact 21 (f := .glo "_law_told_right") rfl)), FR.kp, FR.bindsN fun _ _ _ _ _ _ us hl => match us, hl with | [_, _], _ => rfl, okR⟩ ⟨_, _, (He.glo_ok X G (c.t.d.fact 22 (f := .glo "_law_none_right") rfl)), FN.kp, FN.bindsN fun _ _ _ _ _ _ us hl => match us, hl with | [_, _], _ => rfl, okN⟩
end K1
open PyProof.Rows PySem PySem.W PySem.Calls
theorem PySem.Challenge.cw_onewitness_k01_machines_and_what_is_none_holds : PySem.Challenge.rw_onewitness_k01_machines_and_what_is_none.Holds := by
  w_on; o_law
  refine HandSHeadRun.head_any (r := K1.Rw) (q := view K1.Rw.prog [36]) (H := K1.hk) (ob := K1.ob) (M := 8000) (loose := K1.others) (d := HandSHeadRun.topDef K1.Rw.prog 36) (kwd := []) K1.ob_eq
    (by kernel_rfl) (fun s => by kernel_rfl) K1.top_runs (by kernel_rfl) (by kernel_rfl) (by kernel_rfl) (by rfl) (by first | assumption | decide +kernel) (by decide +kernel) ⟨rfl, rfl, rfl, rfl, rfl, by decide +kernel⟩ ?hw ?hc
  case hw => w_witness2
  case hc =>
    refine Kx.lone_walk (l := PySem.Challenge.rw_onewitness_k01_machines_and_what_is_none) (n := 63) (k := 10) (x := "script") rfl (by decide) (by kernel_rfl) ⟨rfl, by decide, by decide⟩ ?F
    intro w mg fa h Y G hmg
    obtain ⟨K, X, c⟩ := Y
    have en : (HandSHeadRun.topDef K1.Rw.prog 36).name = ("law" : PySem.Str) := by kernel_rfl
    rw [en] at hmg
    have at_ := He.glo_ok X G (c.t.d.fact 23 (f := .glo "law") rfl)
    have ea := K1.ref_same hmg at_
    subst ea
    obtain ⟨fd, b, F⟩ := K1.law_told (P := (PySem.Challenge.rw_onewitness_k01_machines_and_what_is_none).prog) X G c
    refine ⟨K, fd, K1.tf.map (He.cT K), K1.spLaw K (K1.tabsOf K), X, fun p hp => ?_, fun p hp => ?_, fun p hp => ?_, b, fun H a ns l hT hS => ⟨a, ns, rfl, hS, l, fun p hp => ?_, fun _ => rfl⟩, F⟩
    · obtain ⟨q, hq, rfl⟩ := List.mem_map.mp hp
      exact c.empty q hq
    · obtain ⟨q, hq, rfl⟩ := List.mem_map.mp hp
      exact c.out q hq
    · obtain ⟨q, hq, rfl⟩ := List.mem_map.mp hp
      exact PySem.W.codeHd_of_K X (c.hd q hq)
    · rewrite [List.mem_singleton.mp hp]
      exact LamX.TabS.nil (hT _ (List.mem_cons_self ..))
