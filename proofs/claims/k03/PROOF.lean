import PyProof.Rows.All
import Wide.All
import OpenK.AllK
import Wide.FinOn
import HandS.ForMost
import KE.GoesMore
import PyProof.EnumMake
import HandS.ForExc
import HandS.More
import HandS.Defaults
import HandS.IsInst
import HandS.TupAny
import HandS.TupMul
import HandS.Lambda
import HandS.ExcInit
import HandS.ExcField
import PyProof.ExcAttrAll.LookupError
import HandS.HeadHook4
import HandS.Flow
import HandS.OwnEq
import HandS.MakeKw
import HandS.MakeKwOnly
import HandS.Zip
import HandS.SetFor
import PyProof.InstNe
import HandS.List
import HandS.SlotsOwn
import HandS.ExcIs
import KE.KExcIs
import PyProof.NeKinds
import PyProof.EqKinds
import PyProof.StrOps2
import PyProof.Rows.RegStrFacts
import HandS.Head0
import HandS.Head1
import HandS.Head2
import HandS.HeadEnd
import HandS.HeadHook1
import HandS.HeadHook2
import HandS.HeadHook3
import HandS.EndTab
import HandS.HeadWalk
import KE.KStateDown
import PySem.Challenge.RW_onewitness_k03_whole_counters_and_what_t
set_option Elab.async false
set_option linter.all false
set_option maxRecDepth 100000
set_option maxHeartbeats 0
/-! enumerate(t), t a tuple; for i, x in enumerate(xs), xs a list or a tuple. -/
namespace Kx
open PySem PySem.AutoSeq1
/-- the record of a new enumerate over the iterator at j -/
abbrev enumRec (j : Addr) : Obj := { cls := .type "enumerate", data := .fields #[.none, .bool false, .ref j, rawInt 0, .none, .none] }
abbrev tupIter (t : Addr) : Obj := { cls := .type "tuple_iterator", data := .fields #[.ref t, .int 0 0] }
theorem makes_enum (t : Addr) (o : Obj) (items : Array Value) (n : Nat) (hc : o.cls = .type "tuple") (hd : o.data = .seq items n) :
    Meets (Builtin.«enumerate.__new__» ⟨[.type "enumerate", .ref t], []⟩) (fun _ R s => s.heap.get? t = some o ∧
      R (.ok (.ret (.ref (s.heap.push (tupIter t)).objs.size))) { s with heap := (s.heap.push (tupIter t)).push (enumRec s.heap.objs.size) }) := by
  refine .of_wp fun prog w A R s hs => ?_
  obtain ⟨oc, od, odt, os⟩ := o
  have hc' : oc = .type "tuple" := hc
  have hd' : odt = .seq items n := hd
  subst hc' hd'
  obtain ⟨hp, gs, dr, tk, sy⟩ := s
  obtain ⟨ht, hR⟩ := hs
  have subE := sub_enumerate
  have isT : (Shared.heap ⟨hp, gs, dr, tk, sy⟩).IsTuple t items := ⟨_, ht, rfl, n, rfl⟩
  wp_walk using wpAny_loadPart' ht
  refine wpAny_stack_any fun _ => wpAny_pure ?_
  split
  case h_1 c _ _ _ _ _ =>
    cases hq : (c == Value.type "enumerate") <;> (wp_walk using wpAny_loadPart' ht, wpAny_pyIter_tuple isT; exact ⟨_, rfl, hR⟩)
  case h_2 => wp_walk using wpAny_loadPart' ht, wpAny_pyIter_tuple isT; exact ⟨_, rfl, hR⟩
theorem call_enum {prog : Program} {w : World} {A : Around} {E : Value → Shared → Prop} {s : Shared} {t : Addr} {items : Array Value} {Q : Value → Shared → Prop} (hT : s.heap.IsTuple t items)
    (hQ : ∀ g : Heap, IsEnum g (s.heap.objs.size + 1) s.heap.objs.size 0 .none → g.IsTupleIter s.heap.objs.size t 0 → (∀ b o, s.heap.get? b = some o → g.get? b = some o) → Q (.ref (s.heap.objs.size + 1)) { s with heap := g }) :
    wpAny (model prog w) A (call (.type "enumerate") [.ref t]) Q E s := by
  obtain ⟨o, ho, hc, len, hd⟩ := hT
  have two : (s.heap.push (tupIter t)).objs.size = s.heap.objs.size + 1 := Heap.size_push ..
  have atE : ((s.heap.push (tupIter t)).push (enumRec s.heap.objs.size)).get? (s.heap.objs.size + 1) = some (enumRec s.heap.objs.size) := by
    rw [← two]; exact Heap.get?_push_size _ rfl
  have old : ∀ b u, s.heap.get? b = some u → ((s.heap.push (tupIter t)).push (enumRec s.heap.objs.size)).get? b = some u := fun b u z => Heap.get?_push_of_some _ (Heap.get?_push_of_some _ z)
  have it : ((s.heap.push (tupIter t)).push (enumRec s.heap.objs.size)).IsTupleIter s.heap.objs.size t 0 := ⟨_, Heap.get?_push_of_some _ (Heap.get?_push_size _ rfl), rfl, rfl⟩
  refine callType_new F.called_enumerate (by decide) (F.typeCall_enumerate_1 _) (F.newCall_enumerate_1 _) (fun q => F.args_object_init_2 q _) F.entry_enumerate_new (makes_enum t o items len hc hd) ⟨ho, ?_⟩
  show _ ∧ _
  rw [two]
  exact ⟨⟨_, atE, rfl⟩, hQ _ atE it old⟩
end Kx
namespace Kx
open L2 PySem PySem.Spec PyProof.Rows
/-- item i of the tuple at a, with its number, in a new pair -/
def ItPair (K : PySem.W.Frag) (a : Addr) : It where
  go := fun i H => ∃ (xs : List V) (x : V), SqT K H a xs ∧ xs[i]? = some x
  yld := fun i H v H' => ∃ (p : Addr) (x : V), v = .ref p ∧ H p = none ∧ H' = upd H p (.tup [.int (i : Nat), x]) ∧ ∀ xs, SqT K H a xs → xs[i]? = some x
  stop := fun i H => ∃ xs : List V, SqT K H a xs ∧ xs.length ≤ i
theorem one_of {b e j : Addr} (h : b ∈ [e, j]) : b = e ∨ b = j := by simpa using h
theorem turn_pair {P : Program} {w : World} {K : PySem.W.Frag} {es : List Expr} {k0 : Nat} {tp : Pos} (a e j : Addr) (aj : a ≠ j) (ae : a ≠ e) :
    Turn P w K (.Tuple es k0 tp) (ItPair K a) [e, j] e (fun i h => (∃ z, IsEnum h e j ((i : Nat) : Int) z) ∧ h.IsTupleIter j a i ∧ e ≠ j) where
  mem := List.mem_cons_self
  obj := by
    rintro i h ⟨⟨z, hz⟩, ⟨o, ho, _, hd⟩, _⟩ b hb
    rcases one_of hb with q | q <;> rw [q]
    · exact ⟨_, hz, fun _ y => nomatch y⟩
    · exact ⟨o, ho, fun _ y => by rw [hd] at y; cases y⟩
  keep := by
    rintro i h h' ⟨⟨z, hz⟩, hj, ne⟩ k
    exact ⟨⟨z, k e List.mem_cons_self _ hz⟩, hj.at fun o y => k j (by simp) o y, ne⟩
  item := by
    rintro X rfl rfl rfl calm i pins s σ H E I far ⟨⟨z, hz⟩, hj, ne⟩ ⟨xs, x, hx, hi⟩
    obtain ⟨vs, rel, isT, _⟩ := I.tuple hx
    obtain ⟨v, hv, rv⟩ := rel.get hi
    have lt : i < vs.toArray.size := by simpa using (List.getElem?_eq_some_iff.mp hv).1
    have D := Draws.tuple (prog := X.prog) (w := X.w) (A := X.A.in1) (I.ok.hd calm) j a aj vs.toArray
    have e_out : e ∉ [j, a] := by
      simp only [List.mem_cons, List.not_mem_nil, or_false, not_or]
      exact ⟨ne, fun y => ae y.symm⟩
    refine wpAny_pyNext_enum_itemD D hz ⟨hj, isT⟩ lt ne e_out fun y g tk hy out hj' pair _ rest => ?_
    obtain rfl : y = v := by
      have : vs.toArray[i]? = some v := by simpa using hv
      exact Option.some.inj (hy.symm.trans this)
    refine ⟨_, rfl, wpAny_letOwnedTupleGo_enum (s := { s with heap := g, toks := tk + 1 }) out fun g' back but => ?_⟩
    have sz : e < s.heap.objs.size := Heap.lt_size hz
    have szj : j < s.heap.objs.size := let ⟨_, y, _⟩ := hj; Heap.lt_size y
    have pair' : g'.get? s.heap.objs.size = some { cls := .type "tuple", data := .seq #[.int i tk, y] } := (but.2 _ (Nat.ne_of_gt sz)).trans pair
    have laid : ObjOk X.prog X.w (upd H s.heap.objs.size (.tup [.int (i : Nat), x])) g' s.heap.objs.size (.tup [.int (i : Nat), x]) := ⟨(by decide : 2 ≤ sizeLine), [.int i tk, y], .cons ⟨tk, rfl⟩ (.cons rv .nil), _, pair', rfl, _, rfl⟩
    have kept : ∀ b o, b ∉ [e, j] → s.heap.get? b = some o → g'.get? b = some o := fun b o out y => by
      have n1 : b ≠ e := fun q => out (by rw [q]; exact List.mem_cons_self)
      have n2 : b ≠ j := fun q => out (by rw [q]; simp)
      exact (but.2 b n1).trans (rest b o n1 n2 y)
    have J := I.turnedNew (ch := [e, j]) kept far (Nat.le_refl _) laid (t' := tk + 1)
    have num : ((i + 1 : Nat) : Int) = (i : Int) + 1 := by omega
    refine ⟨.ref s.heap.objs.size, _, J, rfl, ⟨_, x, rfl, I.hok.fresh (Nat.le_refl _), rfl, fun ys hys => by rw [I.tuple_inj hys hx]; exact hi⟩, ⟨⟨y, by rw [num]; exact back⟩, hj'.1.at fun o q => (but.2 j ne.symm).trans q, ne⟩, fun b hb => ?_⟩
    have small : b < s.heap.objs.size := by
      rcases one_of hb with q | q <;> rw [q]
      · exact sz
      · exact szj
    rw [upd_ne (Nat.ne_of_lt small)]
    exact (far b hb).1
  done := by
    rintro X rfl rfl rfl calm i pins s σ H E I far ⟨⟨z, hz⟩, hj, ne⟩ ⟨xs, hx, hi⟩
    obtain ⟨vs, rel, isT, _⟩ := I.tuple hx
    obtain ⟨g0, g1, _, g3, g4, g5⟩ := far j (by simp)
    have none_ : vs.toArray[i]? = none := by
      have := rel.length
      simp
      omega
    unfold pyNext
    refine wpAny_bind (wpAny_attempt (wpAny_callSpecial?_slot (s := s) (name := Str.ofString "__next__") ⟨_, hz, rfl⟩ F.slot_enumerate_next (wpAny_call_entry F.slot_enumerate_next ⟨_, hz, rfl⟩ F.entry_enumerate_next ?_ (F.args_enumerate_next_1 _))))
    show wpAny _ _ (field (.ref e) 2 >>= _) _ _ s
    refine wpAny_bind (wpAny_field hz rfl (x := .ref j) rfl (wpAny_bind (wpAny_nextOf_tuple_end (I.ok.hd calm) hj isT none_ fun g x kept stop => ?_)))
    obtain ⟨o, ho, hc⟩ := stop
    exact wpAny_bind (wpAny_isInstance (T := "StopIteration") (b := true) ⟨o, ho, hc⟩ isSubtype_stop (wpAny_pure ⟨rfl, I.turned (t' := s.toks) (fun b o hb y => kept b o hb y) g0 g1 g3 g4 g5⟩))
  self := by
    rintro A i s Q E ⟨⟨z, hz⟩, _⟩ h
    exact wpAny_pyIter_enum hz h
/-- a list or a tuple -/
def Sq (K : PySem.W.Frag) (H : Hp) (a : Addr) (xs : List V) : Prop := SqL K H a xs ∨ SqT K H a xs
def iPairs (K : PySem.W.Frag) (ta : TA) : TI := fun σ H R => ta σ H fun vs H1 => ∃ (a : Addr) (xs : List V), vs = [.ref a] ∧ ((SqL K H1 a xs ∧ R (Ite K a) H1) ∨ (SqT K H1 a xs ∧ R (ItPair K a) H1))
theorem pi_pairs {X : Cx} {e : Expr} {ta : TA} {p pos tp : Pos} {es : List Expr} {k0 : Nat} (hg : Gl X "enumerate") (hm : X.mg "enumerate" = none) (ha : PA X [e] ta) (hs : starEach [e] X.env = [(false, eval e X.env)] := by rfl) :
    PI X (.Tuple es k0 tp) (.Call (.Name "enumerate" p) [e] [] pos) (iPairs X.K ta) := by
  refine ⟨fun pins s σ H R I h => Call_ (ld_blt I hg hm boot_enumerate (PyProof.Rows.callWith_type1 (thn (ha.run pos pins s σ H _ I h) fun us t ⟨vs, H1, J, rel, a, xs, ev, how⟩ => ?_) hs rfl))⟩
  subst ev
  obtain ⟨u, rfl, ru⟩ := vals1 rel
  obtain rfl := (show u = Value.ref a from ru)
  have far : ∀ b ∈ [t.heap.objs.size + 1, t.heap.objs.size], FpOk X pins H1 b := fun b hb => by
    have ge : t.heap.objs.size ≤ b := by
      rcases one_of hb with q | q <;> rw [q]
      · exact Nat.le_succ _
      · exact Nat.le_refl _
    exact J.fpOk ge (J.hok.fresh ge)
  rcases how with ⟨hx, q⟩ | ⟨hx, q⟩
  · obtain ⟨_, _, isL, _⟩ := J.list hx
    refine call_enumerate_list isL.isList fun g hz hj _ k => wpAny_pyIter_enum hz ?_
    exact ⟨_, _, _, _, H1, rfl, J.kept (t' := t.toks) k, turn_enum a _ _, ⟨⟨.none, hz⟩, hj, Nat.succ_ne_self _⟩, far, q⟩
  · obtain ⟨_, _, isT, _⟩ := J.tuple hx
    have lt := isT.lt
    refine call_enum isT fun g hz hj k => wpAny_pyIter_enum hz ?_
    exact ⟨_, _, _, _, H1, rfl, J.kept (t' := t.toks) k, turn_pair a _ _ (Nat.ne_of_lt lt) (Nat.ne_of_lt (Nat.lt_succ_of_lt lt)), ⟨⟨.none, hz⟩, hj, Nat.succ_ne_self _⟩, far, q⟩
end Kx
/-! A try with several clauses «except C as n»: each clause stores what was caught at its own place. -/
namespace Kx
open PySem PyProof.Rows L2 PySem.Spec

/-- an error that came down to this frame and whose flight is over; `old` is the state without it -/
structure Down (X : Cx) (pins : List (Addr × Obj)) (σ : L2.St) (H : Hp) (x : Addr) (cls : Value) (d : Option Addr) (G : Heap) (old now : Shared) : Prop where
  was : Inv X pins σ H old
  low : ∀ b o, old.heap.get? b = some o → b ∉ frs X.stack → G.get? b = some o
  up : old.heap.UpToSlots now.heap
  fly : HandSPX.FlyingZ G (X.env :: X.outer) x (Zc cls d) now.heap
  fresh : H x = none
  sys : now.os = old.os
  bare : AllBare now.gens
section
variable {X : Cx} {pins : List (Addr × Obj)} {σ : L2.St} {H : Hp} {x : Addr} {cls : Value} {d : Option Addr} {G : Heap} {old now : Shared}
theorem Down.inv (D : Down X pins σ H x cls d G old now) : Inv X pins σ H now := D.was.landed D.low D.fly.1 D.up D.sys D.bare
/-- the record, and that it is no frame -/
theorem Down.rec_ (D : Down X pins σ H x cls d G old now) (hf : X.env.frame = some X.env.locals) :
    ∃ (ob : Obj) (vs : Array Value), now.heap.get? x = some ob ∧ Zc cls d ob ∧ ob.data = .fields vs ∧ x ≠ X.env.locals ∧ x ∉ X.fs := by
  obtain ⟨ob, vs, h1, h2, h3⟩ := D.fly.there
  have out : x ∉ frs (X.env :: X.outer) := by
    intro hm
    obtain ⟨_, ob2, h4, h5⟩ := D.fly.2.2.1.mem hm
    rw [h1] at h4
    cases h4
    exact h5 _ h3
  refine ⟨ob, vs, h1, h2, h3, fun z => out ?_, fun hm => out ?_⟩
  · exact List.mem_filterMap.mpr ⟨_, List.mem_cons_self, by rw [hf, z]⟩
  · obtain ⟨e1, h6, h7⟩ := List.mem_filterMap.mp hm
    exact List.mem_filterMap.mpr ⟨e1, List.mem_cons_of_mem _ h6, h7⟩
/-- within a suite -/
theorem Down.held (D : Down X pins σ H x cls d G old now) (hf : X.env.frame = some X.env.locals) :
    ∃ ob : Obj, now.heap.get? x = some ob ∧ Zc cls d ob ∧ (∃ vs, ob.data = .fields vs) ∧ Inv (X.suite x ((x, ob) :: (X.pn ++ pins))) [] σ H now := by
  obtain ⟨ob, vs, h1, h2, h3, h4, h5⟩ := D.rec_ hf
  exact ⟨ob, h1, h2, ⟨vs, h3⟩, D.inv.suite h1 h3 D.fresh h4 h5⟩
/-- no clause takes it: it goes on -/
theorem Down.goes {pos : Pos} {E : Ends} {W : WX} (D : Down X pins σ H x cls d G old now) (hs : X.stack = X.env :: X.outer) (hf : X.env.frame = some X.env.locals) (tk : Takes X W) (hw : W cls d σ H) :
    wpAny (model X.prog X.w) X.A (handleBy (.ref x) X.env []) (SP X pins E) X.xe now := by
  obtain ⟨_, _, _, ob, vs, T, _, _, h1, _, h3, h4, _⟩ := D.fly
  have away : wpAny (model X.prog X.w) X.A (setFlight (.ref x) X.env.frame) (fun _ s => wpAny (model X.prog X.w) X.A (throw (.ref x) : Sem Flow) (SP X pins E) X.xe s) X.xe now := by
    rw [hf]
    refine HandSPX.setFlight_upZ D.fly fun h' held up' => wpAny_throw (tk _ _ ⟨x, G, old, pins, σ, H, cls, d, rfl, D.was, D.low, D.up.trans up', ?_, D.fresh, D.sys, D.bare, hw⟩)
    rw [hs]
    exact .inr (.inr held)
  refine wpAny_handleBy_nil (wpAny_bind (wpAny_field h1 h3 h4 ?_))
  have some_ : ¬ ((Value.ref T == Value.none) = true) := by simp
  rw [if_neg some_]
  first
    | exact wpAny_bind away
    | exact wpAny_bind (wpAny_pure (wpAny_bind away))
end
/-- one clause: the class it names, the place of its name, its suite's reading -/
abbrev Clause : Type := Value × Nat × (Addr → Value → Option Addr → TS)
/-- behind a suite the name at i is gone -/
def bare (E : Ends) (i : Nat) : Ends where
  nx := fun σ H => E.nx (σ.set i none) H
  rt := E.rt
  bk := fun σ H => E.bk (σ.set i none) H
  ct := fun σ H => E.ct (σ.set i none) H
/-- what is asked of an error that the body lets out -/
def asks (K : PySem.W.Frag) (W : WX) (E : Ends) : List Clause → WX
  | [] => W
  | k :: r => fun cls d σ H => ∃ y, PySem.W.exmOne K cls k.1 = some y ∧ (y = true → ∀ x, H x = none → k.2.2 x cls d (bare E k.2.1) (σ.set k.2.1 (some (.ref x))) H) ∧ (y = false → asks K W E r cls d σ H)
inductive Clauses (X : Cx) : List ExceptHandler → List Clause → Prop
  | nil : Clauses X [] []
  | cons {nm n : Str} {i : Nat} {c : Value} {t : Addr → Value → Option Addr → TS} {st : Stmt} {more : List Stmt} {p1 p2 : Pos} {hs : List ExceptHandler} {ks : List Clause} (nd : X.N.Nodup) (at_ : X.N[i]? = some n) (loc : X.env.kindOf n = some .local) (cl : Names X nm c)
      (su : ∀ (x : Addr) (ob : Obj) (cls : Value) (d : Option Addr) (pn : List (Addr × Obj)), Zc cls d ob → (∃ vs, ob.data = .fields vs) → PSs (X.suite x ((x, ob) :: pn)) (st :: more) (t x cls d)) (rest : Clauses X hs ks) :
      Clauses X (.ExceptHandler (some (.Name nm p1)) (some n) (st :: more) p2 :: hs) ((c, i, t) :: ks)
section
variable {X : Cx} {pins : List (Addr × Obj)} {σ : L2.St} {H : Hp} {x : Addr} {cls : Value} {d : Option Addr} {G : Heap} {old now : Shared} {E : Ends} {W : WX}
theorem name_there {nm : Str} {c : Value} {p1 : Pos} {ob : Obj} {Q E' : Value → Shared → Prop} (cl : Names X nm c) (J : Inv (X.suite x ((x, ob) :: (X.pn ++ pins))) [] σ H now) (q : Q c now) :
    wpAny (model X.prog X.w) (X.A.mark (some (.ref x))) (eval (.Name nm p1) X.env) Q E' now := by
  obtain ⟨g, db, m | ⟨m, b, nn⟩⟩ := cl
  · exact ld_glob J g m q db
  · exact ld_blt J g m b q nn db
theorem Down.clauses (D : Down X pins σ H x cls d G old now) (hs : X.stack = X.env :: X.outer) (hf : X.env.frame = some X.env.locals) (tk : Takes X W) {hds : List ExceptHandler} {ks : List Clause} (C : Clauses X hds ks) (w : asks X.K W E ks cls d σ H) :
    wpAny (model X.prog X.w) X.A (handleBy (.ref x) X.env hds) (SP X pins E) X.xe now := by
  induction C with
  | nil => exact D.goes (pos := ⟨0, 0, 0, 0⟩) hs hf tk w
  | @cons nm n i c t st more p1 p2 hs' ks' nd at_ loc cl su rest ih =>
    obtain ⟨y, hy, yes, no⟩ := w
    obtain ⟨ob, h1, h2, h3, J⟩ := D.held hf
    refine wpAny_handleBy_cons (codeAny_handlers_test (name_there cl J ?_)) (fun z => nomatch z)
    have ty : PySem.W.Looks (model X.prog X.w) now.heap (typeOf (.ref x)) cls := fun _ _ _ _ k q => wpAny_typeOf_ref (k _ _ h1) (by rw [h2.1]; exact q)
    refine (PySem.W.exm_one D.inv.kIn ty hy).here ?_
    cases y with
    | false => exact ih (no rfl)
    | true =>
      refine codeAny_handlers_suite_as (HandSPX.lands_againZ D.fly fun h' fl up' => ?_)
      have D' : Down X pins σ H x cls d G old { now with heap := h' } := ⟨D.was, D.low, D.up.trans up', fl, D.fresh, D.sys, D.bare⟩
      obtain ⟨ob', _, g2, g3, J'⟩ := D'.held hf
      refine store_ok (X := X.suite x ((x, ob') :: (X.pn ++ pins))) (v := .ref x) J' nd at_ (.inl loc) rfl (fun s2 J2 => ?_) (.inr loc)
      refine wpAny_mono ((su x ob' cls d (X.pn ++ pins) g2 g3).run [] s2 _ H _ J2 (yes rfl x D.fresh)) (fun f s3 hf3 => ?_) (fun _ _ z => z.elim)
      have gone : ∀ {σ3 : L2.St} {H3 : Hp} {R : Shared → Prop}, Inv (X.suite x ((x, ob') :: (X.pn ++ pins))) [] σ3 H3 s3 → (∀ s4, Inv X pins (σ3.set i none) H3 s4 → R s4) →
          wpAny (model X.prog X.w) X.A (do bindName X.env n .none; unbindBehindTheSuite X.env n p2) (fun _ s4 => R s4) X.xe s3 := fun J3 q => gone_ok (J3.unsuite D.was.ok) nd at_ loc q
      match f, hf3 with
      | .next, ⟨_, _, J3, q⟩ => exact gone J3 fun _ J4 => ⟨_, _, J4, q⟩
      | .brk, ⟨_, _, J3, q⟩ => exact gone J3 fun _ J4 => ⟨_, _, J4, q⟩
      | .cont, ⟨_, _, J3, q⟩ => exact gone J3 fun _ J4 => ⟨_, _, J4, q⟩
      | .ret _, ⟨_, _, _, J3, r, q⟩ => exact gone J3 fun _ J4 => ⟨_, _, _, J4, r, q⟩
end
/-- try: body / except C as n: .. / except D as m: .. -/
theorem ps_tries {X : Cx} {body : List Stmt} {hd : ExceptHandler} {hds : List ExceptHandler} {ks : List Clause} {pos : Pos} {tb : WX → TS} {W : WX} (hs : X.stack = X.env :: X.outer) (hf : X.env.frame = some X.env.locals) (tk : Takes X W)
    (hb : ∀ (U : WX) (pn : List (Addr × Obj)) (xe : Value → Shared → Prop), Takes (X.tr pn xe) U → PassesOwn (model X.prog X.w) X.A X.env xe → PSs (X.tr pn xe) body (tb U)) (C : Clauses X (hd :: hds) ks) :
    PS X (.Try body (hd :: hds) [] [] pos) (fun E σ H => tb (asks X.K W E ks) E σ H) := by
  refine ⟨fun pins s σ H E I h => wpAny_Try_except ?_⟩
  have top : X.A.frames = some (X.env :: X.outer) := by rw [I.ok.frames, hs]
  have inner := hb (asks X.K W E ks) (X.pn ++ pins) (fun e s1 => wpAny (model X.prog X.w) X.A (noteFrame e X.env) (fun _ s2 => wpAny (model X.prog X.w) X.A (setFlight e none)
    (fun _ s3 => wpAny (model X.prog X.w) X.A (handleBy e X.env (hd :: hds)) (SP X pins E) X.xe s3) X.xe s2) X.xe s1) ?_ PassesOwn.looking
  · refine wpAny_mono (inner.run [] s σ H E (I.toTry _) h) (fun f s1 q => ?_) (fun _ _ z => z)
    match f, q with
    | .next, ⟨_, _, J, q⟩ => exact wpAny_execs_nil ⟨_, _, J.ofTry I.ok, q⟩
    | .brk, ⟨_, _, J, q⟩ => exact ⟨_, _, J.ofTry I.ok, q⟩
    | .cont, ⟨_, _, J, q⟩ => exact ⟨_, _, J.ofTry I.ok, q⟩
    | .ret _, ⟨_, _, _, J, r, q⟩ => exact ⟨_, _, _, J.ofTry I.ok, r, q⟩
  · rintro u s1 ⟨x, G, old, _, σ1, H1, cls, d, rfl, J, low, up, sky, fr, sys, bare, w⟩
    rw [show (X.tr (X.pn ++ pins) _).stack = X.env :: X.outer from hs] at sky
    refine Sky.land Zc.steady top hf sky fun h' fl up' => ?_
    exact Down.clauses (now := { s1 with heap := h' }) ⟨J.ofTry I.ok, low, up.trans up', fl, fr, sys, bare⟩ hs hf tk C w
end Kx
/-! Sequences, values of any known kind, calls by a bundle of facts. -/
namespace Kx
open L2 PySem PySem.Spec PyProof.Rows
section
variable {K : PySem.W.Frag} {H H' : Hp} {a b : Addr} {xs ys : List V} {o : HO}
theorem rd_same (e : Same H H') {u : HO} (h : Rd H a u) : Rd H' a u := h.elim (fun q => .inl (e _ _ q)) fun ⟨z, q⟩ => .inr ⟨z, e _ _ q⟩
theorem sqL_same (e : Same H H') (h : SqL K H a xs) : SqL K H' a xs := h.elim (fun q => .inl (rd_same e q)) .inr
theorem sqT_same (e : Same H H') (h : SqT K H a xs) : SqT K H' a xs := h.elim (fun q => .inl (rd_same e q)) .inr
theorem Sq.same (e : Same H H') (h : Sq K H a xs) : Sq K H' a xs := h.elim (fun q => .inl (sqL_same e q)) fun q => .inr (sqT_same e q)
theorem rd_upd (ne : a ≠ b) {u : HO} (h : Rd H a u) : Rd (upd H b o) a u := h.elim (fun q => .inl (by rw [upd_ne ne]; exact q)) fun ⟨z, q⟩ => .inr ⟨z, by rw [upd_ne ne]; exact q⟩
theorem sqL_upd (ne : a ≠ b) (h : SqL K H a xs) : SqL K (upd H b o) a xs := h.elim (fun q => .inl (rd_upd ne q)) .inr
theorem sqT_upd (ne : a ≠ b) (h : SqT K H a xs) : SqT K (upd H b o) a xs := h.elim (fun q => .inl (rd_upd ne q)) .inr
theorem Sq.upd (ne : a ≠ b) (h : Sq K H a xs) : Sq K (L2.upd H b o) a xs := h.elim (fun q => .inl (sqL_upd ne q)) fun q => .inr (sqT_upd ne q)
theorem same_new (h : H b = none) : Same H (upd H b o) := fun c u q => by
  rw [upd_ne (ne_of_none q h)]
  exact q
end
/-! ### loops over a list or a tuple -/
/-- the end of a loop's word: W by a word of the turn -/
theorem for_by {J : It} {n : Nat} {g : TG} {tb : TS} {D : Ends} {σ : L2.St} {H : Hp} (Pv : Nat → L2.St → Hp → Prop) (h0 : Pv 0 σ H)
    (go : ∀ i σ H, i < n → Pv i σ H → J.go i H ∧ ∀ x H', J.yld i H x H' → g x σ H' fun σ2 H2 => tb { D with nx := Pv (i + 1), ct := Pv (i + 1), bk := D.nx } σ2 H2)
    (stop : ∀ σ H, Pv n σ H → J.stop n H ∧ D.nx σ H) :
    ∃ W : Nat → Nat → L2.St → Hp → Prop, (∃ m, W 0 m σ H) ∧ ∀ i m σ H, W i m σ H → (J.stop i H ∧ D.nx σ H) ∨ (J.go i H ∧ ∃ N : L2.St → Hp → Prop, (∀ σ' H', N σ' H' → ∃ m', m' < m ∧ W (i + 1) m' σ' H') ∧ ∀ x H', J.yld i H x H' → g x σ H' fun σ2 H2 => tb { D with nx := N, ct := N, bk := D.nx } σ2 H2) := by
  refine ⟨fun i m σ H => m = n - i ∧ i ≤ n ∧ Pv i σ H, ⟨n, rfl, Nat.zero_le n, h0⟩, ?_⟩
  rintro i m σ H ⟨rfl, le, p⟩
  rcases Nat.lt_or_eq_of_le le with lt | rfl
  · obtain ⟨g1, g2⟩ := go i σ H lt p
    exact .inr ⟨g1, Pv (i + 1), fun σ' H' p' => ⟨n - (i + 1), by omega, rfl, lt, p'⟩, g2⟩
  · exact .inl (stop σ H p)
abbrev forR (g : TG) (tb : TS) (D : Ends) (σ : L2.St) : It → Hp → Prop := fun J H => ∃ W : Nat → Nat → L2.St → Hp → Prop, (∃ m, W 0 m σ H) ∧ ∀ i m σ H, W i m σ H →
  (J.stop i H ∧ D.nx σ H) ∨ (J.go i H ∧ ∃ N : L2.St → Hp → Prop, (∀ σ' H', N σ' H' → ∃ m', m' < m ∧ W (i + 1) m' σ' H') ∧ ∀ x H', J.yld i H x H' → g x σ H' fun σ2 H2 => tb { D with nx := N, ct := N, bk := D.nx } σ2 H2)
/-- for i, x in enumerate(xs) -/
theorem for_pairs {K : PySem.W.Frag} {a : Addr} {xs : List V} {g : TG} {tb : TS} {D : Ends} {σ : L2.St} {H : Hp} (hx : Sq K H a xs) (Pv : Nat → L2.St → Hp → Prop) (h0 : Pv 0 σ H) (hs : ∀ i σ' H', Pv i σ' H' → Same H H')
    (turn : ∀ (i : Nat) (x : V) (p : Addr) σ' H', xs[i]? = some x → Pv i σ' H' → H' p = none → g (.ref p) σ' (upd H' p (.tup [.int (i : Int), x])) fun σ2 H2 => tb { D with nx := Pv (i + 1), ct := Pv (i + 1), bk := D.nx } σ2 H2)
    (hd : ∀ σ' H', Pv xs.length σ' H' → D.nx σ' H') : (SqL K H a xs ∧ forR g tb D σ (Ite K a) H) ∨ (SqT K H a xs ∧ forR g tb D σ (ItPair K a) H) := by
  refine hx.imp (fun q => ⟨q, for_by (n := xs.length) Pv h0 ?_ ?_⟩) fun q => ⟨q, for_by (n := xs.length) Pv h0 ?_ ?_⟩
  · intro i σ' H' lt p
    have q' := sqL_same (hs i σ' H' p) q
    refine ⟨⟨xs, xs[i], q', List.getElem?_eq_getElem lt⟩, ?_⟩
    rintro v H2 ⟨pr, x, rfl, hn, rfl, hx⟩
    exact turn i x pr σ' H' (hx xs q') p hn
  · exact fun σ' H' p => ⟨⟨xs, sqL_same (hs _ σ' H' p) q, Nat.le_refl _⟩, hd σ' H' p⟩
  · intro i σ' H' lt p
    have q' := sqT_same (hs i σ' H' p) q
    refine ⟨⟨xs, xs[i], q', List.getElem?_eq_getElem lt⟩, ?_⟩
    rintro v H2 ⟨pr, x, rfl, hn, rfl, hx⟩
    exact turn i x pr σ' H' (hx xs q') p hn
  · exact fun σ' H' p => ⟨⟨xs, sqT_same (hs _ σ' H' p) q, Nat.le_refl _⟩, hd σ' H' p⟩
/-- for x in xs, xs a list or a tuple -/
def iAny (K : PySem.W.Frag) (tl : TE) : TI := fun σ H R => tl σ H fun x H1 => ∃ (a : Addr) (xs : List V), x = .ref a ∧ ((SqL K H1 a xs ∧ R (Itl K a) H1) ∨ (SqT K H1 a xs ∧ R (Itt K a) H1))
theorem pi_any {X : Cx} {tg e : Expr} {te : TE} (he : PE X e te) : PI X tg e (iAny X.K te) := by
  refine ⟨fun pins s σ H R I h => thn (he.run pins s σ H _ I h) fun u t ⟨x, H1, J, rx, a, xs, ex, how⟩ => ?_⟩
  subst ex
  obtain rfl := (show u = Value.ref a from rx)
  have far : ∀ b ∈ [t.heap.objs.size], FpOk X pins H1 b := fun b hb => by
    obtain rfl := (show b = t.heap.objs.size by simpa using hb)
    exact J.fpOk (Nat.le_refl _) (J.hok.fresh (Nat.le_refl _))
  have kept : ∀ (o : Obj) (b : Addr) (v : Obj), t.heap.get? b = some v → (t.heap.push o).get? b = some v := fun o b v z => Heap.get?_push_of_some _ z
  have new : ∀ (o : Obj), o.isFreed = false → (t.heap.push o).get? t.heap.objs.size = some o := fun o z => Heap.get?_push_size _ z
  rcases how with ⟨hx, q⟩ | ⟨hx, q⟩
  · obtain ⟨_, _, isL, _⟩ := J.list hx
    exact wpAny_pyIter_list isL.isList ⟨_, _, _, _, H1, rfl, J.kept (t' := t.toks) (kept _), turn_list a _, ⟨_, new _ rfl, rfl, rfl⟩, far, q⟩
  · obtain ⟨_, vs, isT, _⟩ := J.tuple hx
    exact wpAny_pyIter_tuple isT ⟨_, _, _, _, H1, rfl, J.kept (t' := t.toks) (kept _), turn_tuple a _, ⟨_, new _ rfl, rfl, rfl⟩, far, q⟩
theorem for_any {K : PySem.W.Frag} {a : Addr} {xs : List V} {g : TG} {tb : TS} {D : Ends} {σ : L2.St} {H : Hp} (hx : Sq K H a xs) (Pv : Nat → L2.St → Hp → Prop) (h0 : Pv 0 σ H)
    (hl : ∀ i σ' H', Pv i σ' H' → SqL K H a xs → SqL K H' a xs) (ht : ∀ i σ' H', Pv i σ' H' → SqT K H a xs → SqT K H' a xs)
    (turn : ∀ (i : Nat) (x : V) σ' H', xs[i]? = some x → Pv i σ' H' → g x σ' H' fun σ2 H2 => tb { D with nx := Pv (i + 1), ct := Pv (i + 1), bk := D.nx } σ2 H2)
    (hd : ∀ σ' H', Pv xs.length σ' H' → D.nx σ' H') : (SqL K H a xs ∧ forR g tb D σ (Itl K a) H) ∨ (SqT K H a xs ∧ forR g tb D σ (Itt K a) H) := by
  refine hx.imp (fun q => ⟨q, for_by (n := xs.length) Pv h0 ?_ ?_⟩) fun q => ⟨q, for_by (n := xs.length) Pv h0 ?_ ?_⟩
  · intro i σ' H' lt p
    have q' := hl i σ' H' p q
    refine ⟨⟨xs, xs[i], q', List.getElem?_eq_getElem lt⟩, ?_⟩
    rintro v H2 ⟨rfl, hv⟩
    exact turn i v σ' _ (hv xs q') p
  · exact fun σ' H' p => ⟨⟨xs, hl _ σ' H' p q, Nat.le_refl _⟩, hd σ' H' p⟩
  · intro i σ' H' lt p
    have q' := ht i σ' H' p q
    refine ⟨⟨xs, xs[i], q', List.getElem?_eq_getElem lt⟩, ?_⟩
    rintro v H2 ⟨rfl, hv⟩
    exact turn i v σ' _ (hv xs q') p
  · exact fun σ' H' p => ⟨⟨xs, ht _ σ' H' p q, Nat.le_refl _⟩, hd σ' H' p⟩
/-! ### values of a known kind -/
/-- v is no object, or a list, or a tuple -/
inductive Kn (K : PySem.W.Frag) (H : Hp) : V → Prop
  | non : Kn K H .non
  | bl (b : Bool) : Kn K H (.bl b)
  | int (i : Int) : Kn K H (.int i)
  | str (x : Str) : Kn K H (.str x)
  | seq {a : Addr} {xs : List V} (h : Sq K H a xs) : Kn K H (.ref a)
theorem Kn.same {K : PySem.W.Frag} {H H' : Hp} {v : V} (e : Same H H') (h : Kn K H v) : Kn K H' v := by
  cases h with
  | non => exact .non
  | bl b => exact .bl b
  | int i => exact .int i
  | str x => exact .str x
  | seq q => exact .seq (q.same e)
theorem tyx_list {K : PySem.W.Frag} {H : Hp} {a : Addr} {xs : List V} (h : SqL K H a xs) : TyX K H (.ref a) (.type "list") := by
  rcases h with (q | ⟨o, q⟩) | q
  · exact .base (.lst q)
  · exact .base (.frz q)
  · obtain ⟨_, _, _, q, r, _⟩ := q
    exact .kList q r
theorem tyx_tuple {K : PySem.W.Frag} {H : Hp} {a : Addr} {xs : List V} (h : SqT K H a xs) : TyX K H (.ref a) (.type "tuple") := by
  rcases h with (q | ⟨o, q⟩) | q
  · exact .base (.tup q)
  · exact .fTuple q
  · obtain ⟨_, _, _, q, r, _⟩ := q
    exact .kTuple q r
/-! ### a def that is known: its name, where it stands, what it takes, what it promises -/
structure Cal (P : Program) (w : World) (K : PySem.W.Frag) (mg : Str → Option Value) (base : Heap) (CX : CXT) (k : Nat) (x : Str) (ps : List Str) (sp : Sp) : Prop where
  ex : ∃ (f : Addr) (fd : FuncData), mg x = some (.ref f) ∧ PySem.W.keepIn K (.ref f) = true ∧ Binds K fd ps [] ∧ FnOk P w K mg base CX k f fd ps sp
section
variable {X : Cx} {CX : CXT} {k j : Nat} {x : Str} {ps : List Str} {sp : Sp} {e : Expr} {es : List Expr} {t : TA} {E : XK} {p pos : Pos}
theorem pe_callC (c : Cal X.prog X.w X.K X.mg X.base CX k x ps sp) (hr : Room j X.A) (hx : Passes CX X E) (ha : PA X (e :: es) t) (hk : k ≤ j := by decide) (hg : Gl X x := by rfl) (hdb : (x == ("__debug__" : Str)) = false := by decide)
    (he : starEach (e :: es) X.env = (false, eval e X.env) :: starEach es X.env := by rfl) (hpl : (backTo pos (starEach es X.env)).any (·.1) = false := by rfl) : PE X (.Call (.Name x p) (e :: es) [] pos) (tCall sp [] E t) := by
  obtain ⟨f, fd, h1, h2, h3, h4⟩ := c.ex
  exact pe_call h4 (hr.mono hk) hg h1 h2 h3 .nil hx ha hdb he hpl
end
end Kx
/-! defs that show a container as a text: their promise holds where no built-in that guards itself runs around. repr of data. -/
namespace Kx
open L2 PySem PySem.Spec PyProof.Rows
/-- nothing that guards itself runs around -/
abbrev Lone (A : Around) : Prop := A.guards = some []
structure FnG (P : Program) (w : World) (K : PySem.W.Frag) (mg : Str → Option Value) (base : Heap) (CX : CXT) (k : Nat) (f : Addr) (fd : FuncData) (ps : List Str) (sp : Sp) : Prop where
  len : ∀ vs H Q E, sp vs H Q E → List.length vs = ps.length
  run : ∀ (A : Around) (outer : List Env) (s : Shared) (H : Hp) (args : Args) (us : List Value) (vs : List V) (Q : VK) (E : XK), Room k A → Lone A → Env0 P w K mg base A outer s H → BindsTo s fd args (ps.zip us) → Vals vs us → sp vs H Q E → codeAny (model P w) A (.call (.ref f) args) (CR CX outer P w H s Q E) s
theorem FnG.of {P : Program} {w : World} {K : PySem.W.Frag} {mg : Str → Option Value} {base : Heap} {CX : CXT} {k : Nat} {f : Addr} {fd : FuncData} {ps : List Str} {sp : Sp} (F : FnOk P w K mg base CX k f fd ps sp) : FnG P w K mg base CX k f fd ps sp :=
  ⟨F.len, fun A outer s H args us vs Q E hr _ he hb hv hs => F.run A outer s H args us vs Q E hr he hb hv hs⟩
section
variable {P : Program} {w : World} {K : PySem.W.Frag} {mg : Str → Option Value} {base : Heap} {f : Addr} {fd : FuncData} {x qual : Str} {params : Arguments} {body : List Stmt} {scope : Scope} {dvs : List V} {kws : List (Str × V)}
/-- a def's body: what stands around is alone -/
theorem okG {CX : CXT} {N ps : List Str} {k : Nat} {sp : Sp} (F : FunD K x qual params body scope dvs kws f fd) (S : FnScope N ps scope) (len : ∀ vs H Q E, sp vs H Q E → vs.length = ps.length)
    (hbody : ∀ (cdv : Value) (A : Around) (outer : List Env) (s : Shared) (H : Hp) (vs : List V) (Q : VK) (E : XK), Lone A → PySem.W.codeIn K cdv qual = true → Room k (A.deeper (envOfC qual scope s.heap.objs.size f cdv)) → sp vs H Q E →
      ∃ t, PSs (cxOf CX P w K mg base N qual scope f cdv A outer s H E) body t ∧ t { nx := fun _ H' => Q .non H', rt := Q } (start N vs) H) : FnG P w K mg base CX (k + 1) f fd ps sp := by
  obtain ⟨oc, od, dV, kV, doc, pm, an, cdv, ct, osl, rfl, lk, hcd, -, -⟩ := F.ex
  exact ⟨len, fun A outer s H args us vs Q E hr lone e0 hb hv hs => LamX.run_ofS lk hcd S hr e0 hb hv (len _ _ _ _ hs) fun hr' => hbody cdv A outer s H vs Q E lone hcd hr' hs⟩
end
structure CalG (P : Program) (w : World) (K : PySem.W.Frag) (mg : Str → Option Value) (base : Heap) (CX : CXT) (k : Nat) (x : Str) (ps : List Str) (sp : Sp) : Prop where
  ex : ∃ (f : Addr) (fd : FuncData), mg x = some (.ref f) ∧ PySem.W.keepIn K (.ref f) = true ∧ Binds K fd ps [] ∧ FnG P w K mg base CX k f fd ps sp
section
variable {X : Cx} {CX : CXT} {k j : Nat} {x : Str} {ps : List Str} {sp : Sp} {e : Expr} {es : List Expr} {t : TA} {E : XK} {p pos : Pos}
theorem pe_callG (c : CalG X.prog X.w X.K X.mg X.base CX k x ps sp) (hr : Room j X.A) (lone : Lone X.A) (hx : Passes CX X E) (ha : PA X (e :: es) t) (hk : k ≤ j := by decide) (hg : Gl X x := by rfl) (hdb : (x == ("__debug__" : Str)) = false := by decide)
    (he : starEach (e :: es) X.env = (false, eval e X.env) :: starEach es X.env := by rfl) (hnp : (backTo pos (starEach es X.env)).any (·.1) = false := by rfl) :
    PE X (.Call (.Name x p) (e :: es) [] pos) (tCall sp [] E t) := by
  obtain ⟨f, fd, at_, keep, binds, F⟩ := c.ex
  refine ⟨fun pins s σ H Q I h => wpAny_Call_Name_kw (ld_glob I hg at_ ?_ hdb)⟩
  refine PySem.W.callWith_K (h₀ := X.base) I.ok.mod.kin keep (thn (ha.run pos pins s σ H _ I h) fun us s1 ⟨vs, H1, J, rel, q⟩ => ⟨J.kIn, ?_⟩) he hnp
  have q : sp (vs ++ []) H1 Q E := q
  rw [List.append_nil] at q
  have n : (us ++ []).length = ps.length := by
    rw [List.append_nil, ← rel.length]
    exact F.len _ _ _ _ q
  have b := binds s1 us J.kIn n
  rw [List.append_nil] at b
  refine wpAny_call (codeAny_mono (F.run X.A X.stack s1 H1 ⟨us, []⟩ us vs Q E (hr.mono hk) lone J.env0 b rel q) fun r s2 z => ?_)
  match r, z with
  | .error _, z => exact hx pins σ H1 s1 _ s2 J z
  | .ok (.ret _), z => exact J.after z
  | .ok .next, z => exact z.elim
  | .ok .brk, z => exact z.elim
  | .ok .cont, z => exact z.elim
end
/-! ### repr of data -/
/-- the text that shows v -/
def rShow (K : PySem.W.Frag) : List V → Hp → VK → Prop := fun vs H Q => ∃ (v : V) (d : PyData), vs = [v] ∧ Dp K H v d ∧ d.showable = true ∧ d.hasDict = false ∧ d.depth ≤ 60 ∧ d.shown.length ≤ sizeLine ∧ Q (.str d.shown) H
theorem call_show {X : Cx} (lone : Lone X.A) (hu : X.A.units + 64 < cLine) : CallR X (.builtin "repr") (rShow X.K) := by
  intro pins s σ H vs us Q I rel h
  obtain ⟨v, d, rfl, data, sh, nd, dep, fit, q⟩ := h
  obtain ⟨u, rfl, ru⟩ := vals1 rel
  obtain ⟨as, reads⟩ := Dp.reads I d v u data ru
  have fin : ∀ (h' : Heap) (z : Tok) (tk : Nat), (∀ b o, s.heap.get? b = some o → h'.get? b = some o) → EP X pins σ Q (.str d.shown z) { s with heap := h', toks := tk } := fun h' z tk keep => ⟨.str d.shown, H, I.kept keep, ⟨z, rfl⟩, q⟩
  cases data with
  | lst hs ha =>
    cases (show u = Value.ref _ from ru)
    exact repr_of_reads' reads sh (PyData.noDict_hsm nd) lone (by omega) (fun _ _ z => z) fin fit
  | tup hs ha =>
    cases (show u = Value.ref _ from ru)
    exact repr_of_reads' reads sh (PyData.noDict_hsm nd) lone (by omega) (fun _ _ z => z) fin fit
  | non =>
    cases (show u = Value.none from ru)
    exact PySem.P.repr_of_none (fin s.heap _ _ fun _ _ z => z)
  | bl b =>
    cases (show u = Value.bool b from ru)
    exact PySem.P.repr_of_bool (fin s.heap _ _ fun _ _ z => z)
  | int i =>
    obtain ⟨z, rfl⟩ := (show ∃ z, u = Value.int i z from ru)
    exact PySem.P.repr_of_int (of_decide_eq_true sh) (fin s.heap _ _ fun _ _ z => z)
  | str y =>
    obtain ⟨z, rfl⟩ := (show ∃ z, u = Value.str y z from ru)
    exact PySem.P.repr_of_str (fin s.heap _ _ fun _ _ z => z) fit
end Kx
/-! own errors of one field, over an own base over ValueError: «self.f = f» alone. -/
namespace Kx
open L2 PySem PySem.Spec PyProof.Rows
/-- __init__ keeps the one thing in f -/
def spKeep (K : PySem.W.Frag) (C : Addr) (f : Str) : Sp := fun vs H Q _ => ∃ (a : Addr) (v : V), vs = [.ref a, v] ∧ H a = some (exo a C none) ∧
  ∀ dx, H dx = none → dx ≠ a → Q .non (upd (upd H dx (exd dx [(f, v)])) a (exo a C (some dx)))
/-- what the module holds of such a class: at C, its __init__ at fI -/
structure ErrC (P : Program) (w : World) (K : PySem.W.Frag) (mg : Str → Option Value) (base : Heap) (k : Nat) (x f : Str) (C : Addr) : Prop where
  at_ : mg x = some (.ref C)
  cls : OexC K C
  no : PySem.W.findIn K (.ref C) f = some none
  ini : ∃ (fI : Addr) (fd : FuncData), PySem.W.findIn K (.ref C) "__init__" = some (some (.ref fI)) ∧ PySem.W.typeIn K (.ref fI) = some (.type "function") ∧ Binds K fd ["self", f] [] ∧ FnOk P w K mg base CX0 k fI fd ["self", f] (spKeep K C f)
theorem heap_made {fs : List (Str × V)} {H : Hp} {a d : Addr} {u v z : HO} (ha : H a = none) (hne : d ≠ a) : upd (del (upd (upd (upd H a u) d v) a z) a) d (.xd fs) = upd H d (.xd fs) := by
  funext b
  by_cases e1 : b = d
  · rw [e1, upd_same, upd_same]
  · rw [upd_ne e1, upd_ne e1]
    by_cases e2 : b = a
    · rw [e2, del_same, ha]
    · rw [del_ne e2, upd_ne e2, upd_ne e1, upd_ne e2]
/-- raise C(e): what is asked behind e -/
theorem thrown {K : PySem.W.Frag} {C : Addr} {f : Str} {v : V} {H : Hp} {R : XK} (h : ∀ d, H d = none → R (.ref C) (some d) (upd H d (.xd [(f, v)]))) :
    [v].length ≤ 1000 ∧ ∀ a, H a = none → spKeep K C f (.ref a :: ([v] ++ [])) (upd H a (exo a C none))
      (fun y H2 => y = .non ∧ ∃ (d : Addr) (fs : List (Str × V)), H2 a = some (exo a C (some d)) ∧ H2 d = some (exd d fs) ∧ H d = none ∧ R (.ref C) (some d) (upd (del H2 a) d (.xd fs))) (fun _ _ _ => False) := by
  refine ⟨Nat.succ_le_of_lt (by simp), fun a ha => ⟨a, v, rfl, upd_same, fun d hd ne => ⟨rfl, d, [(f, v)], upd_same, ?_, ?_, ?_⟩⟩⟩
  · rw [upd_ne ne, upd_same]
  · rwa [upd_ne ne] at hd
  · rw [heap_made ha ne]
    rw [upd_ne ne] at hd
    exact h d hd
section
variable {X : Cx} {k j : Nat} {x f : Str} {C : Addr} {e : Expr} {ta : TA} {W : WX} {p pos p2 : Pos}
theorem ps_throw (T : ErrC X.prog X.w X.K X.mg X.base k x f C) (hc : X.calm = true) (hr : Room j X.A) (tk : Takes X W) (ha : PA X [e] ta) (hk : k + 1 ≤ j := by decide) (hg : Gl X x := by rfl) (hdb : (x == ("__debug__" : Str)) = false := by decide)
    (he : starEach (e :: []) X.env = (false, eval e X.env) :: starEach [] X.env := by rfl) (hpl : (backTo pos (starEach [] X.env)).any (·.1) = false := by rfl) :
    PS X (.Raise (some (.Call (.Name x p) [e] [] pos)) none p2) (fun _ σ H => tMkO C (spKeep X.K C f) [] ta σ H fun cls d H' => W cls d σ H') := by
  obtain ⟨fI, fd, h1, h2, h3, h4⟩ := T.ini
  exact ps_raise (pos := p2) hc tk (pmk_oex (p := p) (pos := pos) (es := []) T.cls h1 h2 h4 (hr.mono hk) h3 .nil pass0 hg T.at_ ha hdb he hpl)
end
/-! ### the init itself -/
theorem ok_keep {P : Program} {w : World} {K : PySem.W.Frag} {mg : Str → Option Value} {base : Heap} {C fI : Addr} {fd : FuncData} {f qual : Str} {params : Arguments} {scope : Scope} {p1 p2 p3 p4 : Pos}
    (F : FunD K "__init__" qual params [.Assign [.Attribute (.Name "self" p1) f p2] (.Name f p3) p4] scope [] [] fI fd) (T : OexC K C) (no : PySem.W.findIn K (.ref C) f = some none)
    (sc : FnScope ["self", f] ["self", f] scope) (hd : (f == ("__debug__" : Str)) = false) (hcd : (f == ("__classdict__" : Str)) = false) (l0 : scope.names.lookup ("self" : Str) = some .local) (l1 : scope.names.lookup f = some .local) :
    FnOk P w K mg base CX0 1 fI fd ["self", f] (spKeep K C f) := by
  refine F.ok sc (fun vs H Q E h => ?_) (fun cdv A outer s H vs Q E hr h => ?_)
  · obtain ⟨a, v, rfl, _⟩ := h
    rfl
  · obtain ⟨a, v, rfl, ha, k⟩ := h
    refine ⟨_, pss_one (ps_ost (pe_var (i := 0) rfl (.inl l0)) (pe_var (i := 1) rfl (.inl l1) hd hcd)), ?_⟩
    exact ⟨_, rfl, _, rfl, a, C, rfl, T, no, .inl ⟨ha, fun dx n1 n2 => k dx n1 n2⟩⟩
end Kx
/-! own errors right over KeyError (made by LookupError's maker), with an own __init__. -/
namespace Kx
open PySem PySem.W PySem.Calls PyProof.Rows PySem.HandSPX
abbrev keyTail : List Value := [.type "KeyError", .type "LookupError", .type "Exception", .type "BaseException", .type "object"]
abbrev keyObj (nm q : Str) (C N : Addr) (bs : List Value) (sn : List Str) (sub : List Value) (ab : Bool) (col : Option Bool) (dd : Option Addr) (k0 k1 k2 k3 k5 : Option Value) : Obj :=
  excClassObj nm q C N bs keyTail true sn sub ab col dd k0 k1 k2 k3 k5 "LookupError.__new__"
theorem in_tail {C : Addr} {n : String} {b : Bool} (h : keyTail.contains (.type n) = b) : (Value.ref C :: keyTail).contains (.type n) = b := by
  rw [List.contains_cons, h]
  rfl
section
variable {h : Heap} {g : Array GenState} {d : Drawn} {t : Nat} {os : OsState} {prog : Program} {w : World} {A : Around} {R : Result → Shared → Prop} {E : Value → Shared → Prop}
variable {nm q : Str} {C N : Addr} {bs : List Value} {sn : List Str} {sub : List Value} {ab : Bool} {col : Option Bool} {dd : Option Addr} {k0 k1 k2 k3 k5 : Option Value} {more : List Value}
theorem key_check {M : Model} {Q : Unit → Shared → Prop} (stands : h.get? C = some (keyObj nm q C N bs sn sub ab col dd k0 k1 k2 k3 k5)) (done : Q () ⟨h, g, d, t, os⟩) :
    wpAny M A (checkBuiltinCall "LookupError.__new__" ⟨.ref C :: more, []⟩) Q E ⟨h, g, d, t, os⟩ := by
  have isB : (Value.ref C :: keyTail).contains (.type "LookupError") = true := in_tail (by decide +kernel)
  have short := PySem.F.excBase_LookupError.noStar
  simp only [checkBuiltinCall, PySem.F.excBase_LookupError.newKind, PySem.F.excBase_LookupError.newSplit, PySem.F.excBase_LookupError.newRow]
  repeat (first
    | refine wpAny_loadPart_at stands ?_
    | (refine wpAny_isSubtype_exc stands ?_; rw [isB])
    | refine wpAny_staticBase_exc stands ?_
    | refine wpAny_madeBy_exc stands ?_
    | simp only [bne_self_eq_false, Bool.false_eq_true, if_false]
    | wp_step)
  exact done
theorem key_new (stands : h.get? C = some (keyObj nm q C N bs sn sub ab col dd k0 k1 k2 k3 k5)) (fits : more.length ≤ sizeLine)
    (done : R (.ok (.ret (.ref (h.objs.size + 1)))) ⟨(h.push (kdv_tup more)).push (excO C h.objs.size), g, d, t, os⟩) : codeAny (model prog w) A (.builtin "LookupError.__new__" ⟨.ref C :: more, []⟩) R ⟨h, g, d, t, os⟩ := by
  have ends := PySem.F.excBase_LookupError.ends
  have isB : (Value.ref C :: keyTail).contains (.type "LookupError") = true := in_tail (by decide +kernel)
  have noA : (Value.ref C :: keyTail).contains (.type "AttributeError") = false := in_tail (by decide +kernel)
  have noN : (Value.ref C :: keyTail).contains (.type "NameError") = false := in_tail (by decide +kernel)
  refine codeAny_builtinAt PySem.F.excBase_LookupError.entry ?_
  unfold Builtin.«BaseException.__new__»; refine PySem.wpAt_bind ?_
  show PySem.wpAt _ _ _ (stack >>= _) _ _ _
  refine PySem.wpAt_bind (PySem.wpAt_stack fun _ _ => PySem.wpAt_of_wpAny ?_)
  wp_walk
  refine PySem.wpAt_of_wpAny ?_
  rw [PySem.F.excBase_LookupError.owner]
  repeat (first
    | with_reducible refine wpAny_madeHere_exc PySem.F.excBase_LookupError.canon stands ?_
    | with_reducible refine wpAny_loadPart_at stands ?_
    | (with_reducible refine wpAny_isSubtype_exc stands ?_; first | rw [isB] | rw [noA] | rw [noN])
    | wp_step)
  show R _ _
  rw [Heap.size_push]
  exact done
theorem key_call {fI : Addr} (stands : h.get? C = some (keyObj nm q C N bs sn sub ab col dd k0 k1 k2 k3 k5)) (hi : Looks (model prog w) h (typeLookup (.ref C) "__init__") (some (.ref fI)))
    (hb : ∀ self, Looks (model prog w) h (bindSpecial (.ref fI) self) (.ref fI, [self])) (fits : more.length ≤ sizeLine)
    (done : codeAny (model prog w) (A.under (.builtin "type.__call__" ⟨.ref C :: more, []⟩)) (.call (.ref fI) ⟨.ref (h.objs.size + 1) :: more, []⟩) (InitBack (h.objs.size + 1) R) ⟨(h.push (kdv_tup more)).push (excO C h.objs.size), g, d, t, os⟩) :
    codeAny (model prog w) A (.call (.ref C) ⟨more, []⟩) R ⟨h, g, d, t, os⟩ := by
  have l1 := tc_lookup
  have l2 := tc_bind (.ref C)
  have isTy : (⟨h, g, d, t, os⟩ : Shared).TypeIs (.ref C) "type" := ⟨_, stands, rfl⟩
  have all : ∀ b o, h.get? b = some o → ((h.push (kdv_tup more)).push (excO C h.objs.size)).get? b = some o := fun b o z => Heap.get?_push_of_some _ (Heap.get?_push_of_some _ z)
  refine codeAny_of_tree ?_
  show wpAny _ _ (callAny (.ref C) _) _ _ _; repeat (any_goals (first | assumption | with_reducible refine wpAny_loadPart_at stands ?_ | wp_step))
  refine ⟨rfl, ?_⟩
  refine codeAny_call_builtin_at (Code.quiet_builtin _ (by decide +kernel)) entry_typeCall (wpAny_check_type_call_sub stands ?_)
  repeat (first | with_reducible refine wpAny_loadPart_at stands ?_ | with_reducible refine wpAny_madeBy_exc stands ?_ | wp_step)
  refine codeAny_call_builtin_code (Code.quiet_builtin _ PySem.F.excBase_LookupError.quiet) (key_check stands (key_new stands fits ?_))
  show wpAny _ _ _ _ _ _
  have hC1 := all _ _ stands
  have made : ((h.push (kdv_tup more)).push (excO C h.objs.size)).get? (h.objs.size + 1) = some (excO C h.objs.size) := by heap_get
  have own : (Value.ref C :: keyTail).contains (.ref C) = true := by simp
  have i1 := hi.keeps all
  have b1 := (hb (.ref (h.objs.size + 1))).keeps all
  unfold isInstance
  repeat (first | with_reducible refine wpAny_loadPart_at made ?_ | wp_step)
  show wpAny _ _ (isSubtype (.ref C) (.ref C)) _ _ ⟨(h.push (kdv_tup more)).push (excO C h.objs.size), g, d, t, os⟩
  refine wpAny_isSubtype_exc hC1 ?_
  rw [own]
  repeat wp_step
  show wpAny _ _ (typeLookup (.ref C) _) _ _ _; refine i1.at (wpAny_holding (wpAny_bind (b1.at (wpAny_bind (wpAny_call (codeAny_mono done fun r s' z => ?_))))))
  match r, z with
  | .error _, z => exact z
  | .ok .next, z => exact z.elim
  | .ok .brk, z => exact z.elim
  | .ok .cont, z => exact z.elim
  | .ok (.ret _), ⟨e1, z⟩ =>
    subst e1
    first | (wp_walk; exact z) | exact wpAny_pure (wpAny_pure z)
end
/-! ### x.name = v on such an error that has no dict yet -/
theorem key_passes (self : Value) : refuseLoop self "__setattr__" keyTail = pure () := by kernel_rfl
/-- what the written part holds of such a class -/
structure KeyC (K : Frag) (C : Addr) : Prop where
  cls : ∃ nm q N bs sn sub ab col dd k0 k1 k2 k3 k5, K.lookup C = some (keyObj nm q C N bs sn sub ab col dd k0 k1 k2 k3 k5)
  sa : findIn K (.ref C) "__setattr__" = some (some (.builtin "object.__setattr__"))
  exC : subIn K (.ref C) (.type "BaseException") = some true
  tyC : typeIn K (.ref C) = some (.type "type")
  kC : keepIn K (.ref C) = true
section
open Builtin.ObjectAttr Builtin
variable {mem : Heap} {g : Array GenState} {d : Drawn} {t : Nat} {os : OsState} {prog : Program} {w : World} {A : Around} {R : Result → Shared → Prop} {E : Value → Shared → Prop}
theorem key_osa {K : Frag} {name : Str} {tk : Tok} {v : Value} {x C : Addr} {fv : Array Value} (T : KeyC K C) (X : K.In mem) (hx : mem.get? x = some { cls := .ref C, data := .fields fv }) (no : findIn K (.ref C) name = some none)
    (done : ∀ (h' : Heap) (tk' : Nat) (dx : Addr), (∀ b o, b ≠ x → mem.get? b = some o → h'.get? b = some o) → mem.objs.size ≤ dx → dx ≠ x → h'.get? x = some { cls := .ref C, dict := some dx, data := .fields fv } → h'.Ns1 dx (fun y => if y = name then some v else none) → R (.ok (.ret .none)) ⟨h', g, d, tk', os⟩) : codeAny (model prog w) A (.call (.builtin "object.__setattr__") ⟨[.ref x, .str name tk, v], []⟩) R ⟨mem, g, d, t, os⟩ := by
  obtain ⟨nm, q, N, bs, sn, sub, ab, col, dd, k0, k1, k2, k3, k5, stands⟩ := T.cls
  have cd : clsIn K C = some { name := nm, bases := bs, mro := .ref C :: keyTail, ns := N, qualname := q, hasDict := true, slotNames := sn, subclasses := sub, abstract := ab, collection := col, hasDel := false } := by
    unfold clsIn
    rw [stands]
  have I : InstAt mem x { cls := .ref C, data := .fields fv } C none := ⟨hx, rfl, rfl, trivial⟩
  have SF := PySem.F.store_object -- the store
  have obj : (Value.ref C :: keyTail).contains (.type "object") = true := in_tail (by decide +kernel)
  have apart : x ≠ mem.objs.size := Nat.ne_of_lt (Heap.lt_size hx)
  have sub' : Looks (model prog w) mem (isInstance (.ref x) (.type "object")) true := I.type.andThen (looks_mroIn X (by
    unfold mroIn
    rw [cd, Option.bind_some]
    show (if (Value.ref C :: keyTail).isEmpty = true then none else some ((Value.ref C :: keyTail).contains (.type "object"))) = some true
    rw [obj]
    rfl))
  refine codeAny_call_builtin SF.slot.plain SF.entry (@check_slot (model prog w) _ _ ⟨mem, g, d, t, os⟩ "object.__setattr__" "object" "__setattr__" (.ref x) [.str name tk, v] [] _ SF.kind SF.split sub' (SF.args (.ref x) (.str name tk) v) ?_)
  have mro : Looks (model prog w) mem (mroOf (.ref C)) (.ref C :: keyTail) := (looks_clsIn X cd).andThen .now
  have taker : Looks (model prog w) mem (storeTaker? none) none := .now
  have data : Looks (model prog w) mem (classData C) _ := looks_clsIn X cd
  rw [osa_eq, refuse_eq]
  refine wpAny_bind (wpAny_bind (I.type.at (wpAny_bind (mro.at ?_))))
  rw [refuseLoop_ref, key_passes]
  refine wpAny_pure (wpAny_bind (I.type.at (wpAny_bind ((looks_findIn X no).at (wpAny_bind (taker.at ?_))))))
  show wpAny _ _ (storeInOwnDict (.ref x) (.ref C) (.str name tk) name v false) _ _ _; unfold storeInOwnDict ownDictForStores
  repeat (first
    | with_reducible refine store_in_new ?_ ?_
    | with_reducible refine wpAny_loadPart_at hx ?_
    | with_reducible refine data.at ?_
    | wp_step)
  · exact ⟨_, #[], _, (Heap.get?_update_ne _ _ _ _ apart.symm).trans (Heap.get?_push_at rfl rfl), rfl, fun e he => absurd he (by simp), fun _ => rfl⟩
  · intro h' tk' ns but
    have here := Heap.get?_push_of_some { cls := .type "dict", data := .dict #[] } hx
    refine done h' tk' mem.objs.size (fun b o ne ho => ?_) (Nat.le_refl _) apart.symm ((but.2 x apart).trans (Heap.get?_update_self _ here rfl)) ns
    exact (but.2 b (Nat.ne_of_lt (Heap.lt_size ho))).trans ((Heap.get?_update_ne _ _ _ _ ne).trans (Heap.get?_push_of_some _ ho))
end
end Kx
/-! NoState and NoDeed: raised with their one thing. -/
namespace PySem
namespace LowZ
open PySem.HandSPX PySem.W PySem.Calls PyProof.Rows
theorem one_fits (v : Value) : [v].length ≤ sizeLine := by
  rw [sizeLine_eq]
  exact (by decide : 1 ≤ 16777216)
theorem ld_here {M : Model} {s : Shared} {name : Str} {scope : Scope} {L a : Addr} {cd : Value} {m : Str → Option Value} {x : Str} {pos : Pos} {v : Value} {Q : Value → Shared → Prop} {A : Around} {E : Value → Shared → Prop} (hn : s.heap.Ns L m) (hv : m x = some v) (h : Q v s)
    (hk : scope.kind = .function := by rfl) (hl : (envOfC name scope L a cd).kindOf x = some .local := by rfl) (hd : (x == ("__debug__" : Str)) = false := by decide) : wpAny M A (eval (.Name x pos) (envOfC name scope L a cd)) Q E s := wpAny_Name (wpAny_loadName_local hk hl hn hv h) hd
end LowZ
end PySem

namespace Kx
namespace KS
open PySem PySem.W PySem.Calls PyProof.Rows PySem.HandSPX PySem.LowZ
/-! __init__(self, state): self.state = state -/
def tArgs (p1 p2 : Pos) : Arguments := { posonlyargs := [], args := [{ arg := "self", annotation := none, pos := p1 }, { arg := "state", annotation := none, pos := p2 }], vararg := none, kwonlyargs := [], kw_defaults := [], kwarg := none, defaults := [] }
def tBody (q1 q2 q3 q4 : Pos) : List Stmt := [.Assign [.Attribute (.Name "self" q1) "state" q2] (.Name "state" q3) q4]
def tScope : Scope := { kind := .function, names := [(Str.ofString "self", .local), (Str.ofString "state", .local)], isGenerator := false, isCoroutine := false, more := [] }
structure Txt (K : Frag) (C fI : Addr) (qual : Str) : Prop where
  key : KeyC K C
  no : findIn K (.ref C) "state" = some none
  ini : findIn K (.ref C) "__init__" = some (some (.ref fI))
  tyI : typeIn K (.ref fI) = some (.type "function")
  fn : ∃ (oc : Value) (od : Option Addr) (dV kV doc pm : Value) (an : Option Addr) (cdv ct : Value) (osl : Array (Option Value)) (p1 p2 q1 q2 q3 q4 : Pos),
    K.lookup fI = some ⟨oc, od, .func (fnOf "__init__" qual (tArgs p1 p2) (tBody q1 q2 q3 q4) tScope dV kV doc pm an cdv ct), osl⟩ ∧ codeIn K cdv qual = true ∧ dV = .none
/-- what a made one is -/
structure Made (h h' : Heap) (e C d : Addr) (v : Value) : Prop where
  keep : ∀ b o, h.get? b = some o → h'.get? b = some o
  new : h.objs.size ≤ e
  obj : ∃ oe vs, h'.get? e = some oe ∧ oe.cls = .ref C ∧ oe.dict = some d ∧ oe.data = .fields vs ∧ vs[1]? = some .none
  dbig : h.objs.size ≤ d
  dne : d ≠ e
  ns : h'.Ns1 d (fun y => if y = "state" then some v else none)
section
variable {prog : Program} {w : World} {A : Around} {R : Result → Shared → Prop} {s : Shared} {K : Frag} {C fI : Addr} {qual : Str}
theorem inits (T : Txt K C fI qual) {x t0 : Addr} {v : Value} (X : K.In s.heap) (lim : s.heap.NoLimit) (hx : s.heap.get? x = some (excO C t0)) (room : A.depth < recursionLimit)
    (done : ∀ (h' : Heap) (tk : Nat) (dx : Addr), (∀ b o, b ≠ x → s.heap.get? b = some o → h'.get? b = some o) → h'.get? x = some { cls := .ref C, dict := some dx, data := .fields #[.ref t0, .none, .none, .none, .bool false, .none] } → s.heap.objs.size ≤ dx → dx ≠ x →
      h'.Ns1 dx (fun y => if y = "state" then some v else none) → R (.ok (.ret .none)) { s with heap := h', toks := tk }) :
    codeAny (model prog w) A (.call (.ref fI) ⟨[.ref x, v], []⟩) R s := by
  obtain ⟨oc, od, dV, kV, doc, pm, an, cdv, ct, osl, p1, p2, q1, q2, q3, q4, lk, hcd, rfl⟩ := T.fn
  refine Att.call_fn (binds := [("self", .ref x), ("state", v)]) X lim lk hcd room (BindsTo.of_eq (by first | rfl | with_unfolding_all rfl)) (by first | rfl | decide | with_unfolding_all rfl) (fun s1 IC => ?_) rfl rfl rfl
  obtain ⟨h1, tk1, rfl⟩ := IC.toInCall.same
  have keep : ∀ b o, s.heap.get? b = some o → h1.get? b = some o := IC.toInCall.keep
  have ns := IC.toInCall.ns
  show wpAny _ _ (execs _ _) _ _ _
  refine wpAny_execs_cons (plainObj_wpAny_Assign_Attribute ?_)
  refine ld_here (v := v) ns (by first | rfl | with_unfolding_all rfl | kernel_rfl) (ld_here (v := .ref x) ns (by first | rfl | with_unfolding_all rfl | kernel_rfl) ?_)
  refine set_plain (X.keeps keep) (ox := excO C t0) (od := none) ⟨keep _ _ hx, rfl, rfl, trivial⟩ T.key.sa ?_
  refine key_osa T.key (X.keeps keep) (keep _ _ hx) T.no (fun h3 tk3 dx k3 dn dne hx3 hn3 => ?_)
  show wpAny _ _ (execs _ _) _ _ _
  have z : s.heap.objs.size < h1.objs.size := ns.lt
  exact wpAny_execs_nil (done h3 tk3 dx (fun b o hb e => k3 b o hb (keep b o e)) hx3 (Nat.le_of_lt (Nat.lt_of_lt_of_le z dn)) dne hn3)
theorem makes (T : Txt K C fI qual) {v : Value} (X : K.In s.heap) (lim : s.heap.NoLimit) (room : A.depth + 1 < recursionLimit)
    (done : ∀ h' tk e d, Made s.heap h' e C d v → R (.ok (.ret (.ref e))) { s with heap := h', toks := tk }) : codeAny (model prog w) A (.call (.ref C) ⟨[v], []⟩) R s := by
  obtain ⟨nm, q, N, bs, sn, sub, ab, col, dd, k0, k1, k2, k3, k5, hC⟩ := T.key.cls
  obtain ⟨hp, gs, dr, tk, os⟩ := s
  have keep : ∀ b o, hp.get? b = some o → ((hp.push (kdv_tup [v])).push (excO C hp.objs.size)).get? b = some o := fun b o e => Heap.get?_push_of_some _ (Heap.get?_push_of_some _ e)
  have here : ((hp.push (kdv_tup [v])).push (excO C hp.objs.size)).get? (hp.objs.size + 1) = some (excO C hp.objs.size) := by heap_get
  refine key_call (X _ _ hC) (looks_findIn X T.ini) (fun self => bind_fn X self T.tyI) (one_fits v) ?_
  refine inits (s := ⟨(hp.push (kdv_tup [v])).push (excO C hp.objs.size), gs, dr, tk, os⟩) T (X.keeps keep) (lim.keeps keep) here ?_ fun h' tk' dx k' hx dn dne hns => ?_
  · show A.depth + 1 < recursionLimit
    exact room
  · have old : ∀ b o, hp.get? b = some o → h'.get? b = some o := fun b o e => k' b o (Nat.ne_of_lt (Nat.lt_succ_of_lt (Heap.lt_size e))) (keep b o e)
    have z : hp.objs.size + 1 + 1 ≤ dx := by
      have q := dn
      simp only [Heap.size_push] at q
      exact q
    exact ⟨rfl, done h' tk' (hp.objs.size + 1) dx ⟨old, Nat.le_succ _, ⟨_, _, hx, rfl, rfl, rfl, rfl⟩, Nat.le_trans (Nat.le_trans (Nat.le_succ _) (Nat.le_succ _)) z, dne, hns⟩⟩
end
end KS
end Kx
namespace Kx
namespace KS
open L2 PySem PySem.Spec PyProof.Rows
theorem rel_one {v : V} {v' : Value} (r : RelV v v') (y : Str) : RelO (List.lookup y [(("state" : Str), v)]) (if y = "state" then some v' else none) := by
  rw [lookup_put]
  by_cases h : y = "state"
  · rw [if_pos h, if_pos h]
    exact r
  · rw [if_neg h, if_neg h]
    trivial
section
variable {X : Cx} {C fI : Addr} {qual x : Str}
/-- C(e) -/
def tMk (C : Addr) (ta : TA) : L2.St → Hp → XK → Prop := fun σ H Q => ta σ H fun vs H1 => ∃ v, vs = [v] ∧ ∀ d, H1 d = none → Q (.ref C) (some d) (upd H1 d (.xd [(("state" : Str), v)]))
theorem pmk {a : Expr} {ta : TA} {p pos : Pos} {k : Nat} (T : Txt X.K C fI qual) (at_ : X.mg x = some (.ref C)) (hr : Room k X.A) (ha : PA X [a] ta) (hg : Gl X x) (hdb : (x == ("__debug__" : Str)) = false)
    (he : starEach (a :: []) X.env = (false, eval a X.env) :: starEach [] X.env) (hpl : (backTo pos (starEach [] X.env)).any (·.1) = false) : PMk X (.Call (.Name x p) [a] [] pos) (tMk C ta) := by
  intro pins s σ H Q I h
  refine wpAny_Call_Name_kw (ld_glob I hg at_ ?_ hdb)
  refine PySem.W.callWith_K (h₀ := X.base) I.ok.mod.kin T.key.kC (thn (ha.run pos pins s σ H _ I h) fun us s1 hh => ?_) he hpl
  obtain ⟨vs, H1, I1, r1, v, ev, q1⟩ := hh
  subst ev
  refine ⟨I1.kIn, ?_⟩
  obtain ⟨v', rfl, rv⟩ := vals1 r1
  show wpAny _ _ (call (.ref C) [v']) _ _ _
  have lim := I1.nolimit
  obtain ⟨hp, gs, dr, tk, os⟩ := s1
  refine wpAny_call (makes T I1.kIn lim (by have := hr.dp; omega) fun h' tk' e d M => ?_)
  show MkP X pins σ Q (.ref e) ⟨h', gs, dr, tk', os⟩
  obtain ⟨oe, fv, hoe, hc, hd, hdat, h1⟩ := M.obj
  have hns := M.ns
  obtain ⟨G, g1, g2⟩ := restrict h' fun b => decide (b ≠ e)
  have gk : ∀ b, b ≠ e → G.get? b = h'.get? b := fun b hb => g1 b (decide_eq_true hb)
  have ge : G.get? e = none := g2 e (by simp)
  have old : ∀ b o, hp.get? b = some o → G.get? b = some o := fun b o q => (gk b (Nat.ne_of_lt (Nat.lt_of_lt_of_le (Heap.lt_size q) M.new))).trans (M.keep b o q)
  have ob : ObjOk X.prog X.w (upd H1 d (.xd [(("state" : Str), v)])) G d (.xd [(("state" : Str), v)]) := ⟨_, hns.at (fun o q => (gk d M.dne).trans q), fun y => rel_one rv y⟩
  have J : Inv X pins σ (upd H1 d (.xd [(("state" : Str), v)])) ⟨G, gs, dr, tk', os⟩ := I1.laid (t' := tk') old M.dbig ob
  refine ⟨e, oe, fv, ⟨G, gs, dr, tk', os⟩, _, .ref C, some d, rfl, J, fun b o q => ?_, ge, hoe, ⟨hc, hd⟩, hdat, h1, ?_, rfl, I1.bare, raises_own T.key.exC T.key.tyC, q1 d (I1.hok.fresh M.dbig)⟩
  · by_cases hb : b = e
    · have q' : G.get? b = some o := q
      rw [hb, ge] at q'
      cases q'
    · exact (gk b hb).symm.trans q
  · rw [upd_ne (Ne.symm M.dne)]
    exact I1.hok.fresh M.new
/-- raise C(e) -/
theorem ps_throw {a : Expr} {ta : TA} {W : WX} {p pos p2 : Pos} {k : Nat} (T : Txt X.K C fI qual) (at_ : X.mg x = some (.ref C)) (hc : X.calm = true) (hr : Room k X.A) (tk : Takes X W) (ha : PA X [a] ta) (hg : Gl X x := by rfl) (hdb : (x == ("__debug__" : Str)) = false := by decide)
    (he : starEach (a :: []) X.env = (false, eval a X.env) :: starEach [] X.env := by rfl) (hpl : (backTo pos (starEach [] X.env)).any (·.1) = false := by rfl) :
    PS X (.Raise (some (.Call (.Name x p) [a] [] pos)) none p2) (fun _ σ H => tMk C ta σ H fun cls d H' => W cls d σ H') := ps_raise hc tk (pmk T at_ hr ha hg hdb he hpl)
end
end KS
end Kx

namespace Kx
namespace KD
open PySem PySem.W PySem.Calls PyProof.Rows PySem.HandSPX PySem.LowZ
/-! __init__(self, deed): self.deed = deed -/
def tArgs (p1 p2 : Pos) : Arguments := { posonlyargs := [], args := [{ arg := "self", annotation := none, pos := p1 }, { arg := "deed", annotation := none, pos := p2 }], vararg := none, kwonlyargs := [], kw_defaults := [], kwarg := none, defaults := [] }
def tBody (q1 q2 q3 q4 : Pos) : List Stmt := [.Assign [.Attribute (.Name "self" q1) "deed" q2] (.Name "deed" q3) q4]
def tScope : Scope := { kind := .function, names := [(Str.ofString "self", .local), (Str.ofString "deed", .local)], isGenerator := false, isCoroutine := false, more := [] }
structure Txt (K : Frag) (C fI : Addr) (qual : Str) : Prop where
  key : KeyC K C
  no : findIn K (.ref C) "deed" = some none
  ini : findIn K (.ref C) "__init__" = some (some (.ref fI))
  tyI : typeIn K (.ref fI) = some (.type "function")
  fn : ∃ (oc : Value) (od : Option Addr) (dV kV doc pm : Value) (an : Option Addr) (cdv ct : Value) (osl : Array (Option Value)) (p1 p2 q1 q2 q3 q4 : Pos),
    K.lookup fI = some ⟨oc, od, .func (fnOf "__init__" qual (tArgs p1 p2) (tBody q1 q2 q3 q4) tScope dV kV doc pm an cdv ct), osl⟩ ∧ codeIn K cdv qual = true ∧ dV = .none
/-- what a made one is -/
structure Made (h h' : Heap) (e C d : Addr) (v : Value) : Prop where
  keep : ∀ b o, h.get? b = some o → h'.get? b = some o
  new : h.objs.size ≤ e
  obj : ∃ oe vs, h'.get? e = some oe ∧ oe.cls = .ref C ∧ oe.dict = some d ∧ oe.data = .fields vs ∧ vs[1]? = some .none
  dbig : h.objs.size ≤ d
  dne : d ≠ e
  ns : h'.Ns1 d (fun y => if y = "deed" then some v else none)
section
variable {prog : Program} {w : World} {A : Around} {R : Result → Shared → Prop} {s : Shared} {K : Frag} {C fI : Addr} {qual : Str}
theorem inits (T : Txt K C fI qual) {x t0 : Addr} {v : Value} (X : K.In s.heap) (lim : s.heap.NoLimit) (hx : s.heap.get? x = some (excO C t0)) (room : A.depth < recursionLimit)
    (done : ∀ (h' : Heap) (tk : Nat) (dx : Addr), (∀ b o, b ≠ x → s.heap.get? b = some o → h'.get? b = some o) → h'.get? x = some { cls := .ref C, dict := some dx, data := .fields #[.ref t0, .none, .none, .none, .bool false, .none] } → s.heap.objs.size ≤ dx → dx ≠ x →
      h'.Ns1 dx (fun y => if y = "deed" then some v else none) → R (.ok (.ret .none)) { s with heap := h', toks := tk }) :
    codeAny (model prog w) A (.call (.ref fI) ⟨[.ref x, v], []⟩) R s := by
  obtain ⟨oc, od, dV, kV, doc, pm, an, cdv, ct, osl, p1, p2, q1, q2, q3, q4, lk, hcd, rfl⟩ := T.fn
  refine Att.call_fn (binds := [("self", .ref x), ("deed", v)]) X lim lk hcd room (BindsTo.of_eq (by first | rfl | with_unfolding_all rfl)) (by first | rfl | decide | with_unfolding_all rfl) (fun s1 IC => ?_) rfl rfl rfl
  obtain ⟨h1, tk1, rfl⟩ := IC.toInCall.same
  have keep : ∀ b o, s.heap.get? b = some o → h1.get? b = some o := IC.toInCall.keep
  have ns := IC.toInCall.ns
  show wpAny _ _ (execs _ _) _ _ _
  refine wpAny_execs_cons (plainObj_wpAny_Assign_Attribute ?_)
  refine ld_here (v := v) ns (by first | rfl | with_unfolding_all rfl | kernel_rfl) (ld_here (v := .ref x) ns (by first | rfl | with_unfolding_all rfl | kernel_rfl) ?_)
  refine set_plain (X.keeps keep) (ox := excO C t0) (od := none) ⟨keep _ _ hx, rfl, rfl, trivial⟩ T.key.sa ?_
  refine key_osa T.key (X.keeps keep) (keep _ _ hx) T.no (fun h3 tk3 dx k3 dn dne hx3 hn3 => ?_)
  show wpAny _ _ (execs _ _) _ _ _
  have z : s.heap.objs.size < h1.objs.size := ns.lt
  exact wpAny_execs_nil (done h3 tk3 dx (fun b o hb e => k3 b o hb (keep b o e)) hx3 (Nat.le_of_lt (Nat.lt_of_lt_of_le z dn)) dne hn3)
theorem makes (T : Txt K C fI qual) {v : Value} (X : K.In s.heap) (lim : s.heap.NoLimit) (room : A.depth + 1 < recursionLimit)
    (done : ∀ h' tk e d, Made s.heap h' e C d v → R (.ok (.ret (.ref e))) { s with heap := h', toks := tk }) : codeAny (model prog w) A (.call (.ref C) ⟨[v], []⟩) R s := by
  obtain ⟨nm, q, N, bs, sn, sub, ab, col, dd, k0, k1, k2, k3, k5, hC⟩ := T.key.cls
  obtain ⟨hp, gs, dr, tk, os⟩ := s
  have keep : ∀ b o, hp.get? b = some o → ((hp.push (kdv_tup [v])).push (excO C hp.objs.size)).get? b = some o := fun b o e => Heap.get?_push_of_some _ (Heap.get?_push_of_some _ e)
  have here : ((hp.push (kdv_tup [v])).push (excO C hp.objs.size)).get? (hp.objs.size + 1) = some (excO C hp.objs.size) := by heap_get
  refine key_call (X _ _ hC) (looks_findIn X T.ini) (fun self => bind_fn X self T.tyI) (one_fits v) ?_
  refine inits (s := ⟨(hp.push (kdv_tup [v])).push (excO C hp.objs.size), gs, dr, tk, os⟩) T (X.keeps keep) (lim.keeps keep) here ?_ fun h' tk' dx k' hx dn dne hns => ?_
  · show A.depth + 1 < recursionLimit
    exact room
  · have old : ∀ b o, hp.get? b = some o → h'.get? b = some o := fun b o e => k' b o (Nat.ne_of_lt (Nat.lt_succ_of_lt (Heap.lt_size e))) (keep b o e)
    have z : hp.objs.size + 1 + 1 ≤ dx := by
      have q := dn
      simp only [Heap.size_push] at q
      exact q
    exact ⟨rfl, done h' tk' (hp.objs.size + 1) dx ⟨old, Nat.le_succ _, ⟨_, _, hx, rfl, rfl, rfl, rfl⟩, Nat.le_trans (Nat.le_trans (Nat.le_succ _) (Nat.le_succ _)) z, dne, hns⟩⟩
end
end KD
end Kx
namespace Kx
namespace KD
open L2 PySem PySem.Spec PyProof.Rows
theorem rel_one {v : V} {v' : Value} (r : RelV v v') (y : Str) : RelO (List.lookup y [(("deed" : Str), v)]) (if y = "deed" then some v' else none) := by
  rw [lookup_put]
  by_cases h : y = "deed"
  · rw [if_pos h, if_pos h]
    exact r
  · rw [if_neg h, if_neg h]
    trivial
section
variable {X : Cx} {C fI : Addr} {qual x : Str}
/-- C(e) -/
def tMk (C : Addr) (ta : TA) : L2.St → Hp → XK → Prop := fun σ H Q => ta σ H fun vs H1 => ∃ v, vs = [v] ∧ ∀ d, H1 d = none → Q (.ref C) (some d) (upd H1 d (.xd [(("deed" : Str), v)]))
theorem pmk {a : Expr} {ta : TA} {p pos : Pos} {k : Nat} (T : Txt X.K C fI qual) (at_ : X.mg x = some (.ref C)) (hr : Room k X.A) (ha : PA X [a] ta) (hg : Gl X x) (hdb : (x == ("__debug__" : Str)) = false)
    (he : starEach (a :: []) X.env = (false, eval a X.env) :: starEach [] X.env) (hpl : (backTo pos (starEach [] X.env)).any (·.1) = false) : PMk X (.Call (.Name x p) [a] [] pos) (tMk C ta) := by
  intro pins s σ H Q I h
  refine wpAny_Call_Name_kw (ld_glob I hg at_ ?_ hdb)
  refine PySem.W.callWith_K (h₀ := X.base) I.ok.mod.kin T.key.kC (thn (ha.run pos pins s σ H _ I h) fun us s1 hh => ?_) he hpl
  obtain ⟨vs, H1, I1, r1, v, ev, q1⟩ := hh
  subst ev
  refine ⟨I1.kIn, ?_⟩
  obtain ⟨v', rfl, rv⟩ := vals1 r1
  show wpAny _ _ (call (.ref C) [v']) _ _ _
  have lim := I1.nolimit
  obtain ⟨hp, gs, dr, tk, os⟩ := s1
  refine wpAny_call (makes T I1.kIn lim (by have := hr.dp; omega) fun h' tk' e d M => ?_)
  show MkP X pins σ Q (.ref e) ⟨h', gs, dr, tk', os⟩
  obtain ⟨oe, fv, hoe, hc, hd, hdat, h1⟩ := M.obj
  have hns := M.ns
  obtain ⟨G, g1, g2⟩ := restrict h' fun b => decide (b ≠ e)
  have gk : ∀ b, b ≠ e → G.get? b = h'.get? b := fun b hb => g1 b (decide_eq_true hb)
  have ge : G.get? e = none := g2 e (by simp)
  have old : ∀ b o, hp.get? b = some o → G.get? b = some o := fun b o q => (gk b (Nat.ne_of_lt (Nat.lt_of_lt_of_le (Heap.lt_size q) M.new))).trans (M.keep b o q)
  have ob : ObjOk X.prog X.w (upd H1 d (.xd [(("deed" : Str), v)])) G d (.xd [(("deed" : Str), v)]) := ⟨_, hns.at (fun o q => (gk d M.dne).trans q), fun y => rel_one rv y⟩
  have J : Inv X pins σ (upd H1 d (.xd [(("deed" : Str), v)])) ⟨G, gs, dr, tk', os⟩ := I1.laid (t' := tk') old M.dbig ob
  refine ⟨e, oe, fv, ⟨G, gs, dr, tk', os⟩, _, .ref C, some d, rfl, J, fun b o q => ?_, ge, hoe, ⟨hc, hd⟩, hdat, h1, ?_, rfl, I1.bare, raises_own T.key.exC T.key.tyC, q1 d (I1.hok.fresh M.dbig)⟩
  · by_cases hb : b = e
    · have q' : G.get? b = some o := q
      rw [hb, ge] at q'
      cases q'
    · exact (gk b hb).symm.trans q
  · rw [upd_ne (Ne.symm M.dne)]
    exact I1.hok.fresh M.new
/-- raise C(e) -/
theorem ps_throw {a : Expr} {ta : TA} {W : WX} {p pos p2 : Pos} {k : Nat} (T : Txt X.K C fI qual) (at_ : X.mg x = some (.ref C)) (hc : X.calm = true) (hr : Room k X.A) (tk : Takes X W) (ha : PA X [a] ta) (hg : Gl X x := by rfl) (hdb : (x == ("__debug__" : Str)) = false := by decide)
    (he : starEach (a :: []) X.env = (false, eval a X.env) :: starEach [] X.env := by rfl) (hpl : (backTo pos (starEach [] X.env)).any (·.1) = false := by rfl) :
    PS X (.Raise (some (.Call (.Name x p) [a] [] pos)) none p2) (fun _ σ H => tMk C ta σ H fun cls d H' => W cls d σ H') := ps_raise hc tk (pmk T at_ hr ha hg hdb he hpl)
end
end KD
end Kx
/-! the text by places -/
namespace K3
open L2 PySem PySem.Spec PyProof.Rows Kx
def top (i : Nat) : Stmt := PySem.Challenge.pw_onewitness_k03_whole_counters_and_what_t.main.body.getD i (.Pass ⟨0, 0, 0, 0⟩)
abbrev s_BadMachine_init : Stmt := inClass (top 2) 0
abbrev s_BadRow_init : Stmt := inClass (top 3) 0
abbrev s_BadShowing_init : Stmt := inClass (top 4) 0
abbrev s_Refused_init : Stmt := inClass (top 5) 0
abbrev s_TooGreat_init : Stmt := inClass (top 6) 0
abbrev s_NoDeed_init : Stmt := inClass (top 7) 0
abbrev s_is_number : Stmt := top 12
abbrev s_is_below : Stmt := top 13
abbrev s_is_sequence : Stmt := top 14
abbrev s_first_not_below : Stmt := top 15
abbrev s_row_of : Stmt := top 16
abbrev s_Counters_init : Stmt := inClass (top 20) 0
abbrev s_Counters_eq : Stmt := inClass (top 20) 1
abbrev s_are_rests : Stmt := top 21
abbrev s_need_fit : Stmt := top 22
abbrev s_is_finite : Stmt := top 23
abbrev s_need_kind : Stmt := top 24
abbrev s_shows : Stmt := top 25
abbrev s_shown_number : Stmt := top 26
abbrev s_showing_of : Stmt := top 27
abbrev s_shown_of : Stmt := top 28
abbrev s_shown : Stmt := top 29
abbrev s_can_show : Stmt := top 30
abbrev s_check_showing : Stmt := top 31
abbrev s_shown_on : Stmt := top 32
abbrev s_sizes : Stmt := top 33
abbrev s_showings_many : Stmt := top 34
abbrev s_all_showings : Stmt := top 35
abbrev s_Machine_init : Stmt := inClass (top 37) 0
abbrev s_Machine_eq : Stmt := inClass (top 37) 1
abbrev s_is_table : Stmt := top 38
abbrev s_law_box : Stmt := top 40
abbrev s_law_take : Stmt := top 41
abbrev s_law_pick : Stmt := top 42
abbrev s_law_later : Stmt := top 43
abbrev s_law_shows : Stmt := top 44
abbrev s_law_all : Stmt := top 45
abbrev s_law_heard : Stmt := top 46
abbrev s_law_row_right : Stmt := top 47
abbrev s_law_all_right : Stmt := top 48
abbrev s_law_wide_right : Stmt := top 49
abbrev s_law_none_right : Stmt := top 50
abbrev s_law : Stmt := top 51
abbrev FnP (K : PySem.W.Frag) (x : Str) (st : Stmt) (f : Addr) (fd : FuncData) : Prop := FunD K x x (defArgs st) (defBody st) (defScope st) [] [] f fd
/-- the built-in names that the module leaves alone, its numbers -/
structure Mg (mg : Str → Option Value) : Prop where
  z_KeyError : mg "KeyError" = none
  z_ValueError : mg "ValueError" = none
  z_abs : mg "abs" = none
  z_bool : mg "bool" = none
  z_enumerate : mg "enumerate" = none
  z_int : mg "int" = none
  z_isinstance : mg "isinstance" = none
  z_len : mg "len" = none
  z_list : mg "list" = none
  z_min : mg "min" = none
  z_range : mg "range" = none
  z_repr : mg "repr" = none
  z_tuple : mg "tuple" = none
  z_zip : mg "zip" = none
  g_DEEDS_MOST : ∃ t, mg "DEEDS_MOST" = some (.int 4 t)
  g_STATES_MOST : ∃ t, mg "STATES_MOST" = some (.int 8 t)
  g_ROW_MOST : ∃ t, mg "ROW_MOST" = some (.int 400 t)
  g_ROUND_MOST : ∃ t, mg "ROUND_MOST" = some (.int 60 t)
  g_REST_MOST : ∃ t, mg "REST_MOST" = some (.int 6 t)
theorem pe_constI {X : Cx} {x : Str} {i : Int} {pos : Pos} (h : ∃ t, X.mg x = some (.int i t)) (hg : Gl X x := by rfl) (hd : (x == ("__debug__" : Str)) = false := by decide) : PE X (.Name x pos) (tC (.int i)) := by
  obtain ⟨t, ht⟩ := h
  exact pe_glob hg ht ⟨t, rfl⟩ hd
theorem pe_ty {X : Cx} {x : Str} {n : String} {pos : Pos} (hm : X.mg x = none) (hv : bootBuiltins x = some (.type n)) (hg : Gl X x := by rfl) (hn : x ≠ "__name__" := by decide) (hd : (x == ("__debug__" : Str)) = false := by decide) : PE X (.Name x pos) (tC (.ty n)) :=
  pe_bltn hg hm hv rfl hn hd
theorem bt_int : bootBuiltins "int" = some (.type "int") := by decide +kernel
theorem bt_bool : bootBuiltins "bool" = some (.type "bool") := by decide +kernel
theorem bt_list : bootBuiltins "list" = some (.type "list") := by decide +kernel
theorem bt_tuple : bootBuiltins "tuple" = some (.type "tuple") := by decide +kernel
end K3
/-! t.count(k): a tuple known to have no attributes of its own; tuple(xs) makes such a one. -/
namespace Kx
open L2 PySem PySem.Spec PyProof.Rows
/-- a tuple without attributes -/
def TupD (H : Hp) (a : Addr) (xs : List V) : Prop := ∃ o : Obj, H a = some (.frz o (.tup xs)) ∧ o.dict = none
def SqD (K : PySem.W.Frag) (H : Hp) (a : Addr) (xs : List V) : Prop := SqL K H a xs ∨ TupD H a xs
section
variable {K : PySem.W.Frag} {H H' : Hp} {a : Addr} {xs : List V}
theorem TupD.sqT (h : TupD H a xs) : SqT K H a xs := h.elim fun o h => .inl (.inr ⟨o, h.1⟩)
theorem TupD.same (e : Same H H') (h : TupD H a xs) : TupD H' a xs := h.elim fun o h => ⟨o, e _ _ h.1, h.2⟩
theorem SqD.sq (h : SqD K H a xs) : Sq K H a xs := h.imp id TupD.sqT
theorem SqD.same (e : Same H H') (h : SqD K H a xs) : SqD K H' a xs := h.imp (sqL_same e) (TupD.same e)
end
section
variable {X : Cx}
/-- tuple(xs) -/
theorem call_tupD : CallR X (.type "tuple") (fun xs H Q => ∃ p ys, xs = [.ref p] ∧ SqD X.K H p ys ∧ ∀ q H', Same H H' → TupD H' q ys → Q (.ref q) H') := by
  intro pins st σ H xs us Q I r h
  obtain ⟨p, ys, rfl, h, q⟩ := h
  rcases h with hq | hq
  · obtain ⟨u, rfl, rx⟩ := vals1 r
    obtain rfl : u = .ref p := rx
    obtain ⟨its, rv, pl, fits⟩ := I.list hq
    have len := rv.length
    refine call_tuple_list pl.isList (fun mem kp => ?_) (by simp only [List.size_toArray]; omega)
    have J : Inv X pins σ H { st with heap := mem } := I.kept (t' := st.toks) kp
    have here := Heap.get?_push_size (h := mem) (o := { cls := .type "tuple", data := .seq its.toArray }) rfl
    have J2 : Inv X pins σ (upd H mem.objs.size (.frz { cls := .type "tuple", data := .seq its.toArray } (.tup ys))) { st with heap := mem.push { cls := .type "tuple", data := .seq its.toArray } } :=
      J.laid (t' := st.toks) (fun b o e => Heap.get?_push_of_some _ e) (Nat.le_refl _) ⟨here, fits, its, rv, IsTup.new _ _⟩
    exact ⟨.ref mem.objs.size, _, J2, rfl, q _ _ (same_new (J.hok.fresh (Nat.le_refl _))) ⟨_, upd_same, rfl⟩⟩
  · exact call_tuple_of pins st σ H _ us Q I r ⟨p, ys, rfl, .inr ⟨hq.sqT, q p H (Same.refl H) hq⟩⟩
/-- t.count(k) -/
def tCount (to : TE) (t : TA) : TE := fun σ H Q => to σ H fun x H1 => ∃ (p : Addr) (ns : List Int), x = .ref p ∧ TupD H1 p (ns.map V.int) ∧ t σ H1 fun ks H2 => ∃ k : Int, ks = [.int k] ∧ Same H1 H2 ∧ Q (.int (ns.count k : Nat)) H2
theorem pe_count {o e : Expr} {to : TE} {t : TA} {apos cpos : Pos} (ho : PE X o to) (ha : PA X [e] t)
    (hbase : attributeBase o "count" X.env (eval o X.env) = eval o X.env := by rfl)
    (hfew : ((backTo cpos (starEach [e] X.env)).all (fun x => !x.1) && (backToKw cpos (keywordEach [] X.env)).all (fun x => x.1.isSome) && decide ([e].length + ([] : List Keyword).length + (if ([] : List Keyword).isEmpty then 0 else 1) < 30)) = true := by rfl)
    (hline : (apos.endLine == cpos.line) = true := by exact rfl)
    (hs : starEach [e] X.env = (false, eval e X.env) :: starEach [] X.env := by rfl) (hplain : (backTo cpos (starEach [] X.env)).any (·.1) = false := by rfl) :
    PE X (.Call (.Attribute o "count" apos) [e] [] cpos) (tCount to t) := by
  refine ⟨fun pins st σ H Q I h => ?_⟩
  refine wpAny_Call_method_late hbase hfew hline rfl (thn (ho.run pins st σ H _ I h) fun v s1 ⟨x, H1, I1, r1, p, ns, ex, ⟨o, hp, od⟩, q1⟩ => ?_)
  subst ex
  obtain rfl : v = .ref p := r1
  obtain ⟨at_, _, its, rv, ⟨ot, ot1, ot2, _⟩⟩ := (show ObjOk X.prog X.w H1 s1.heap p (.frz o (.tup (ns.map V.int))) from I1.hok p _ hp)
  rw [at_] at ot1
  cases ot1
  refine ⟨"tuple", "tuple.count", PySem.F.plainAttrs_tuple, PySem.F.slot_tuple_count, PySem.F.type_tuple_count, ⟨o, at_, ot2⟩, fun a ea => ?_, ?_⟩
  · cases ea
    exact ⟨o, at_, od⟩
  have arg := ha.run cpos pins s1 σ H1 _ I1 q1
  rw [hs] at arg ⊢
  have plain : (false || (backTo cpos (starEach [] X.env)).any (·.1)) = false := by rw [hplain] <;> rfl
  refine Calls.callWith_builtin plain (Calls.evalArgs_plain ?_)
  refine thn arg fun us s2 ⟨ks, H2, I2, r2, k, ek, sm, q2⟩ => ?_
  subst ek
  obtain ⟨u, rfl, ru⟩ := r2.one
  obtain ⟨tk, rfl⟩ := ru
  obtain ⟨o2, hp2, od2⟩ := TupD.same sm (show TupD H1 p (ns.map V.int) from ⟨o, hp, od⟩)
  obtain ⟨at2, _, its2, rv2, ⟨ot2', ot3, ot4, n2, ot5⟩⟩ := (show ObjOk X.prog X.w H2 s2.heap p (.frz o2 (.tup (ns.map V.int))) from I2.hok p _ hp2)
  rw [at2] at ot3
  cases ot3
  obtain ⟨cls, dct, data, slo⟩ := o2
  simp only at ot4 ot5
  subst ot4 ot5
  have hi := ints_of_vals rv2
  refine call_meets PySem.F.slot_tuple_count ⟨_, at2, rfl⟩ PySem.F.entry_tuple_count (PySem.F.args_tuple_count_2 _ _)
    (SeqAt.tuple_countAt p its2.toArray n2 dct slo (.int k tk) (eqk k)) ⟨at2, fun y hy => (eqk_gives hi y (by simpa using hy)).at _ _, ?_⟩
  have ec : its2.toArray.toList.countP (eqk k) = ns.count k := eqk_count hi
  refine ⟨.int (ns.count k : Nat), H2, I2.tok _, ⟨s2.toks, ?_⟩, q2⟩
  rw [ec]
end
end Kx
/-! a tuple, that is not empty, times 0, 1, more -/
namespace Kx
open L2 PySem PySem.Spec PyProof.Rows
theorem times_one (t : Addr) (its : Array Value) (n : Nat) (dct : Option Addr) (slo : Array (Option Value)) (tk : Tok) :
    Meets (Builtin.«tuple.__mul__» ⟨[.ref t, .int 1 tk], []⟩) (fun _ R s => s.heap.get? t = some { cls := .type "tuple", dict := dct, data := .seq its n, slots := slo } ∧ R (.ok (.ret (.ref t))) s) :=
  .of_wp fun prog wo A R s h => by
    obtain ⟨mem, g, d, k, os⟩ := s
    obtain ⟨here, h⟩ := h
    have idx := AutoSeq1.idx_int
    have yes : (its.isEmpty || (1 : Int) == 1) = true := by rw [Bool.or_eq_true]; exact .inr rfl
    wp_walk using wpAny_loadPart' here
    repeat (first
      | (refine wpAny_ite_false (by decide) ?_; wp_walk using wpAny_loadPart' here)
      | (refine wpAny_ite_true (decide_eq_true yes) ?_; wp_walk using wpAny_loadPart' here))
    exact ⟨_, rfl, h⟩
theorem times_nought (t : Addr) (its : Array Value) (n : Nat) (dct : Option Addr) (slo : Array (Option Value)) (tk : Tok) (some_ : its.isEmpty = false) :
    Meets (Builtin.«tuple.__mul__» ⟨[.ref t, .int 0 tk], []⟩) (fun _ R s => s.heap.get? t = some { cls := .type "tuple", dict := dct, data := .seq its n, slots := slo } ∧ R (.ok (.ret (.ref s.heap.objs.size))) { s with heap := s.heap.push { cls := .type "tuple", data := .seq #[] } }) :=
  .of_wp fun prog wo A R s h => by
    obtain ⟨mem, g, d, k, os⟩ := s
    obtain ⟨here, h⟩ := h
    have idx := AutoSeq1.idx_int
    have no : (its.isEmpty || (0 : Int) == 1) = false := by rw [some_]; rfl
    have yes : (decide ((0 : Int) ≤ 0) || its.isEmpty) = true := rfl
    wp_walk using wpAny_loadPart' here
    repeat (first
      | (refine wpAny_ite_false (by decide) ?_; wp_walk using wpAny_loadPart' here)
      | (refine wpAny_ite_false (decide_eq_false (by rw [no]; exact Bool.false_ne_true)) ?_; wp_walk using wpAny_loadPart' here)
      | (refine wpAny_ite_true (decide_eq_true yes) ?_; wp_walk using wpAny_loadPart' here))
    exact ⟨_, rfl, h⟩
/-- t * k, t not empty -/
def rTimes (K : PySem.W.Frag) : R2 := fun x y H Q => ∃ (t : Addr) (k : Nat) (xs : List V), x = .ref t ∧ y = .int (k : Int) ∧ SqT K H t xs ∧ xs ≠ [] ∧ k ≤ 1000 ∧ xs.length ≤ 1000 ∧
  ∀ p H', Same H H' → SqT K H' p (List.replicate k xs).flatten → Q (.ref p) H'
theorem op_times {X : Cx} : OpR X (binaryOp .Mult) (rTimes X.K) := by
  intro pins st σ H x y v u Q I rx ry h
  obtain ⟨t, k, xs, rfl, rfl, hT, ne, hk, hz, q⟩ := h
  match k with
  | k + 2 =>
    refine op_repT pins st σ H _ _ v u Q I rx ry ⟨t, _, xs, rfl, rfl, hT, ne, by omega, by omega, hz, fun p hp => ?_⟩
    exact q p _ (same_new hp) (SqT.of upd_same)
  | 1 =>
    cases rx
    obtain ⟨tk, rfl⟩ := ry
    obtain ⟨its, r, ⟨⟨cls, dct, data, slo⟩, ho, hc, n, hd⟩, hs⟩ := I.tuple hT
    simp only at hc hd
    subst hc hd
    refine wpAny_binaryOp_repeat_ref (T := "tuple") (U := "int") (by decide) ⟨_, ho, rfl⟩ (fun s' => typeIs_int s' 1 tk) noFill_tuple_mul F.fills_int_mul F.slot_int_rmul repeat_tuple F.slot_int_index.lookup
      (call_meets F.slot_int_rmul (typeIs_int st 1 tk) F.entry_int_rmul (F.args_int_rmul_2 _ _) (int_rmul_tuple 1 tk t its.toArray n dct slo)
        ⟨ho, rfl, ⟨_, ho, rfl⟩, call_meets F.slot_tuple_mul ⟨_, ho, rfl⟩ F.entry_tuple_mul (F.args_tuple_mul_2 _ _) (times_one t its.toArray n dct slo tk) ⟨ho, ?_⟩⟩)
    have e : (List.replicate 1 xs).flatten = xs := by simp
    rw [e] at q
    exact ⟨.ref t, H, I, rfl, q t H (Same.refl H) hT⟩
  | 0 =>
    cases rx
    obtain ⟨tk, rfl⟩ := ry
    obtain ⟨its, r, ⟨⟨cls, dct, data, slo⟩, ho, hc, n, hd⟩, hs⟩ := I.tuple hT
    simp only at hc hd
    subst hc hd
    have full : its.toArray.isEmpty = false := by
      cases its with
      | nil =>
        cases r
        exact absurd rfl ne
      | cons a b => rfl
    refine wpAny_binaryOp_repeat_ref (T := "tuple") (U := "int") (by decide) ⟨_, ho, rfl⟩ (fun s' => typeIs_int s' 0 tk) noFill_tuple_mul F.fills_int_mul F.slot_int_rmul repeat_tuple F.slot_int_index.lookup
      (call_meets F.slot_int_rmul (typeIs_int st 0 tk) F.entry_int_rmul (F.args_int_rmul_2 _ _) (int_rmul_tuple 0 tk t its.toArray n dct slo)
        ⟨ho, rfl, ⟨_, ho, rfl⟩, call_meets F.slot_tuple_mul ⟨_, ho, rfl⟩ F.entry_tuple_mul (F.args_tuple_mul_2 _ _) (times_nought t its.toArray n dct slo tk full) ⟨ho, ?_⟩⟩)
    refine ⟨.ref st.heap.objs.size, _, I.laid (t' := st.toks) (o := .tup []) (fun b ob q => Heap.get?_push_of_some _ q) (Nat.le_refl _) ?_, rfl, q _ _ (same_new (I.hok.fresh (Nat.le_refl _))) (SqT.of upd_same)⟩
    exact ⟨Nat.zero_le _, _, .nil, IsTup.new _ _⟩
end Kx
/-! an own ==, and the != that comes of it: both answers. -/
namespace Kx
open L2 PySem PySem.Spec PyProof.Rows
/-- x == y (x != y), x an instance of the class at C, y another one or a tuple: what its own == promises, by k the answer -/
def rOwnAsk (K : PySem.W.Frag) (C : Addr) (sp : Sp) (E : XK) (neg : Bool) : R2 := fun x y H Q => ∃ (a b dx : Addr) (fs : List (Str × V)), x = .ref a ∧ y = .ref b ∧ H a = some (.ins C dx fs) ∧
  ((∃ (dy : Addr) (gs : List (Str × V)), H b = some (.ins C dy gs)) ∨ (neg = false ∧ (∃ ys, SqT K H b ys) ∧ PySem.W.notFirst K C (.type "tuple") = true)) ∧
  sp [x, y] H (fun v H' => ∃ k, v = .bl k ∧ Q (.bl (neg != k)) H') E
/-- what ==, != ask of the class at C, whose own == is at f -/
structure EqC (K : PySem.W.Frag) (C f : Addr) : Prop where
  eq : PySem.W.findIn K (.ref C) "__eq__" = some (some (.ref f))
  isFn : PySem.W.isFn K (.ref f) = true
  ne : ∃ (nm q : Str) (N : Addr) (bs : List Value) (hdct : Bool) (sn : List Str) (sub : List Value) (ab : Bool) (col : Option Bool) (dd : Option Addr) (k0 k1 k2 k3 k5 : Option Value) (newId : String) (oN oF : Obj) (es : Array DictEntry) (ep : Nat),
    K.lookup C = some (excClassObj nm q C N bs [.type "object"] hdct sn sub ab col dd k0 k1 k2 k3 k5 newId) ∧ K.lookup N = some oN ∧ oN.data = .dict es ep ∧ StrKeys es ∧ nsFind es "__eq__" = some (.ref f) ∧ nsFind es "__ne__" = none ∧ K.lookup f = some oF ∧ oF.cls = .type "function"
section
variable {X : Cx} {CX : CXT} {C f : Addr} {fd : FuncData} {ps : List Str} {n : Nat} {sp : Sp} {E : XK}
theorem own_eq (F : FnOk X.prog X.w X.K X.mg X.base CX n f fd ps sp) (T : EqC X.K C f) (hb : Binds X.K fd ps []) (hr : Room n X.A) (hx : Passes CX X E) : OpR X (compareOp .Eq) (rOwnAsk X.K C sp E false) := by
  intro pins st σ H x y v u Q I rx ry h
  obtain ⟨a, b, dx, fs, rfl, rfl, ha, hy, q⟩ := h
  obtain rfl : v = .ref a := rx
  obtain rfl : u = .ref b := ry
  obtain ⟨m1, J, _⟩ := ins_get I.hok ha
  obtain ⟨od, J, _⟩ := J.look
  obtain ⟨m, hF⟩ := I.fr
  have go : wpAny (model X.prog X.w) X.A (call (.ref f) [.ref a, .ref b]) (PySem.W.CmpBack (EP X pins σ Q)) X.xe st := by
    have hl := F.len _ _ _ _ q
    have both : Vals [V.ref a, V.ref b] [.ref a, .ref b] := .cons rfl (.cons rfl .nil)
    refine wpAny_call (codeAny_mono (F.run X.A X.stack st H ⟨[.ref a, .ref b], []⟩ [.ref a, .ref b] [.ref a, .ref b] _ E hr I.env0 (by
      have := hb st [.ref a, .ref b] I.kIn (by simpa using hl)
      simpa using this) both q) fun r s' z => ?_)
    match r, z with
    | .error e, z => exact hx pins σ H st e s' I z
    | .ok (.ret w), z =>
      obtain ⟨z', H', I', rz, k, ez, qz⟩ := I.after z
      subst ez
      cases rz
      refine (show EP X pins σ Q (.bool k) s' from ⟨.bl k, H', I', rfl, ?_⟩)
      have e : (false != k) = k := by cases k <;> rfl
      rw [e] at qz
      exact qz
    | .ok .next, z => exact z.elim
    | .ok .brk, z => exact z.elim
    | .ok .cont, z => exact z.elim
  show wpAny (model X.prog X.w) X.A (richCompare .Eq (.ref a) (.ref b)) (EP X pins σ Q) X.xe st
  rcases hy with ⟨dy, gs, hb'⟩ | ⟨_, ⟨ys, hT⟩, nf⟩
  · obtain ⟨m2, J2, _⟩ := ins_get I.hok hb'
    obtain ⟨od2, J2, _⟩ := J2.look
    exact PySem.W.cmp_K (op := .Eq) (tb := .ref C) hr.units0 hF I.ok.mod.kin J J2.type (by simp [PySem.W.notFirst]) T.eq T.isFn go
  · obtain ⟨its, _, ⟨o, ho, hc, _⟩, _⟩ := I.tuple hT
    exact PySem.W.cmp_K (op := .Eq) (tb := .type "tuple") hr.units0 hF I.ok.mod.kin J (fun A' Q' E' s' kp q' => wpAny_typeOf_ref (kp _ _ ho) (by rw [hc]; exact q')) nf T.eq T.isFn go
theorem own_ne (F : FnOk X.prog X.w X.K X.mg X.base CX n f fd ps sp) (T : EqC X.K C f) (hb : Binds X.K fd ps []) (hr : Room (n + 1) X.A) (hx : Passes CX X E) : OpR X (compareOp .NotEq) (rOwnAsk X.K C sp E true) := by
  intro pins st σ H x y v u Q I rx ry h
  obtain ⟨a, b, dx, fs, rfl, rfl, ha, hy, q⟩ := h
  obtain rfl : v = .ref a := rx
  obtain rfl : u = .ref b := ry
  obtain ⟨dy, gs, hb'⟩ : ∃ (dy : Addr) (gs : List (Str × V)), H b = some (.ins C dy gs) := hy.elim id fun z => nomatch z.1
  obtain ⟨m1, J, _⟩ := ins_get I.hok ha
  obtain ⟨m2, J2, _⟩ := ins_get I.hok hb'
  obtain ⟨od, J, _⟩ := J.look
  obtain ⟨od2, J2, _⟩ := J2.look
  obtain ⟨nm, qn, N, bs, hdct, sn, sub, ab, col, dd, k0, k1, k2, k3, k5, newId, oN, oF, es, ep, hC, hN, dN, sk, e1, e2, hF, cF⟩ := T.ne
  have O : st.heap.OwnEqNoNe a C f "object" [.type "object"] := ⟨_, oF, nm, qn, N, bs, hdct, sn, sub, ab, col, dd, k0, k1, k2, k3, k5, newId, fun y => nsFind es y, _, J.at_, J.cls, I.kIn _ _ hC, ⟨oN, es, ep, I.kIn _ _ hN, dN, sk, fun _ => rfl⟩, e1, I.kIn _ _ hF, cF, PySem.F.cmp_object.mro, PySem.F.cmp_object.eq.lookup, e2⟩
  obtain ⟨hp, g, d, t, os⟩ := st
  refine compareOp_ne_ownEq PySem.F.cmp_object O J2.at_ J2.cls (by have := hr.un; omega) ?_
  have hl := F.len _ _ _ _ q
  have both : Vals [V.ref a, V.ref b] [.ref a, .ref b] := .cons rfl (.cons rfl .nil)
  refine wpAny_call (codeAny_mono (F.run X.A.in1 X.stack _ H ⟨[.ref a, .ref b], []⟩ [.ref a, .ref b] [.ref a, .ref b] _ E hr.in1 I.env0.in1 (by
    have := hb ⟨hp, g, d, t, os⟩ [.ref a, .ref b] I.kIn (by simpa using hl)
    simpa using this) both q) fun r s' z => ?_)
  match r, z with
  | .error e, z => exact hx pins σ H _ e s' I z
  | .ok (.ret w), z =>
    obtain ⟨z', H', I', rz, k, ez, qz⟩ := I.after z
    subst ez
    cases rz
    refine ⟨k, rfl, .bl (!k), H', I', rfl, ?_⟩
    have e : (true != k) = !k := by cases k <;> rfl
    rw [e] at qz
    exact qz
  | .ok .next, z => exact z.elim
  | .ok .brk, z => exact z.elim
  | .ok .cont, z => exact z.elim
end
end Kx
/-! tuples of whole numbers, and tuples of such: as data, ==, != -/
namespace Kx
open L2 PySem PySem.Spec PyProof.Rows
abbrev dNums (ns : List Int) : PyData := .tuple (ns.map PyData.int)
abbrev dRows (rs : List (List Int)) : PyData := .tuple (rs.map dNums)
theorem dpAll_nums {K : PySem.W.Frag} {H : Hp} : ∀ (ns : List Int), DpAll K H (ns.map V.int) (ns.map PyData.int)
  | [] => .nil
  | n :: ns => .cons (.int n) (dpAll_nums ns)
theorem dp_nums {K : PySem.W.Frag} {H : Hp} {a : Addr} {ns : List Int} (h : SqT K H a (ns.map V.int)) : Dp K H (.ref a) (dNums ns) := .tup h (dpAll_nums ns)
theorem lay_nums : ∀ (ns : List Int), PyData.canLayAll0 (ns.map PyData.int) = true
  | [] => by simp only [List.map_nil, PyData.canLayAll0]
  | n :: ns => by simp only [List.map_cons, PyData.canLayAll0, PyData.canLay0, lay_nums ns, Bool.and_self]
theorem deep_nums : ∀ (ns : List Int), PyData.depthAll (ns.map PyData.int) = 0
  | [] => by simp only [List.map_nil, PyData.depthAll]
  | n :: ns => by simp only [List.map_cons, PyData.depthAll, PyData.depth, deep_nums ns, Nat.max_self]
theorem shaped_nums (ns : List Int) : SeqAt.shaped (dNums ns) = true := by
  unfold SeqAt.shaped
  simp only [PyData.canLay0, PyData.depth, lay_nums, deep_nums]
  decide
theorem eqv_nums : ∀ (xs ys : List Int), PyData.eqvAll (xs.map PyData.int) (ys.map PyData.int) = decide (xs = ys)
  | [], ys => by cases ys <;> simp [PyData.eqvAll]
  | n :: ns, [] => by simp [PyData.eqvAll]
  | x :: xs, y :: ys => by
    simp only [List.map_cons, PyData.eqvAll, PyData.eqv, eqv_nums xs ys]
    rw [Bool.eq_iff_iff]
    simp
theorem lay_rows : ∀ (rs : List (List Int)), PyData.canLayAll0 (rs.map dNums) = true
  | [] => by simp only [List.map_nil, PyData.canLayAll0]
  | n :: ns => by simp only [List.map_cons, PyData.canLayAll0, PyData.canLay0, lay_nums, lay_rows ns, Bool.and_self]
theorem deep_rows : ∀ (rs : List (List Int)), PyData.depthAll (rs.map dNums) ≤ 1
  | [] => by simp only [List.map_nil, PyData.depthAll]; decide
  | n :: ns => by
    have := deep_rows ns
    simp only [List.map_cons, PyData.depthAll, PyData.depth, deep_nums]
    omega
theorem shaped_rows (rs : List (List Int)) : SeqAt.shaped (dRows rs) = true := by
  unfold SeqAt.shaped
  have := deep_rows rs
  simp only [PyData.canLay0, PyData.depth, lay_rows, Bool.true_and]
  exact decide_eq_true (show _ ≤ 64 by omega)
theorem eqv_rows : ∀ (xs ys : List (List Int)), PyData.eqvAll (xs.map dNums) (ys.map dNums) = decide (xs = ys)
  | [], ys => by cases ys <;> simp [PyData.eqvAll]
  | n :: ns, [] => by simp [PyData.eqvAll]
  | x :: xs, y :: ys => by
    simp only [List.map_cons, PyData.eqvAll, PyData.eqv, eqv_nums x y, eqv_rows xs ys]
    rw [Bool.eq_iff_iff]
    simp
/-- t == u, t != u: tuples of whole numbers -/
def rNumsEq (K : PySem.W.Frag) (neg : Bool) : R2 := fun x y H Q => ∃ (a b : Addr) (xs ys : List Int), x = .ref a ∧ y = .ref b ∧ SqT K H a (xs.map V.int) ∧ SqT K H b (ys.map V.int) ∧ Q (.bl (neg != decide (xs = ys))) H
theorem op_eqNums {X : Cx} (hu : X.A.units + 64 < cLine) : OpR X (compareOp .Eq) (rNumsEq X.K false) := by
  intro pins st σ H x y v u Q I rx ry h
  obtain ⟨a, b, xs, ys, rfl, rfl, h1, h2, q⟩ := h
  refine op_eqD hu pins st σ H _ _ v u Q I rx ry ⟨_, _, dp_nums h1, dp_nums h2, shaped_nums xs, shaped_nums ys, ?_⟩
  simp only [PyData.eqv, eqv_nums]
  rwa [Bool.false_bne] at q
theorem op_neNums {X : Cx} (hu : X.A.units + 64 < cLine) : OpR X (compareOp .NotEq) (rNumsEq X.K true) := by
  intro pins st σ H x y v u Q I rx ry h
  obtain ⟨a, b, xs, ys, rfl, rfl, h1, h2, q⟩ := h
  refine op_neD hu pins st σ H _ _ v u Q I rx ry ⟨_, _, dp_nums h1, dp_nums h2, shaped_nums xs, shaped_nums ys, ?_⟩
  simp only [PyData.eqv, eqv_nums]
  rwa [Bool.true_bne] at q
end Kx
/-! numbers, sequences, rows -/
namespace K3
open PySem PySem.Spec PyProof.Rows L2 Kx
def isNum : V → Bool
  | .int i => decide (0 ≤ i)
  | _ => false
def isBel (l : Int) : V → Bool
  | .int i => decide (0 ≤ i) && decide (i < l)
  | _ => false
/-- what a value of known kind is as a sequence: its items, none where it is none -/
inductive Long (K : PySem.W.Frag) (H : Hp) : V → Option (List V) → Prop
  | seq {a : Addr} {xs : List V} (h : Sq K H a xs) : Long K H (.ref a) (some xs)
  | non : Long K H .non none
  | bl (b : Bool) : Long K H (.bl b) none
  | int (i : Int) : Long K H (.int i) none
  | str (x : Str) : Long K H (.str x) none
def inLen (l m : Int) : Option (List V) → Bool
  | some xs => decide (l ≤ (xs.length : Int)) && decide ((xs.length : Int) ≤ m)
  | none => false
theorem Long.same {K : PySem.W.Frag} {H H' : Hp} {v : V} {o : Option (List V)} (e : Same H H') (h : Long K H v o) : Long K H' v o := by
  cases h with
  | seq q => exact .seq (q.same e)
  | non => exact .non
  | bl b => exact .bl b
  | int i => exact .int i
  | str x => exact .str x
theorem Kn.long {K : PySem.W.Frag} {H : Hp} {v : V} (h : Kn K H v) : ∃ o, Long K H v o := by
  cases h with
  | seq q => exact ⟨_, .seq q⟩
  | non => exact ⟨_, .non⟩
  | bl b => exact ⟨_, .bl b⟩
  | int i => exact ⟨_, .int i⟩
  | str x => exact ⟨_, .str x⟩
theorem Long.kn {K : PySem.W.Frag} {H : Hp} {v : V} {o : Option (List V)} (h : Long K H v o) : Kn K H v := by
  cases h with
  | seq q => exact .seq q
  | non => exact .non
  | bl b => exact .bl b
  | int i => exact .int i
  | str x => exact .str x
/-- the first item that is not below l -/
def fnb (l : Int) : List V → Option Nat
  | [] => none
  | x :: xs => if isBel l x = true then (fnb l xs).map (· + 1) else some 0
def optV : Option Nat → V
  | some n => .int n
  | none => .non
/-- none: a row of deeds below n; else where it is wrong -/
def rowAt (n : Int) : Option (List V) → Option Int
  | some xs => if xs.length ≤ 400 then (fnb n xs).map (fun (i : Nat) => (i : Int)) else some (-1)
  | none => some (-1)
/-- every item is of a known kind, where the sequence is no longer than m -/
def Kns (K : PySem.W.Frag) (H : Hp) (o : Option (List V)) (m : Nat) : Prop := ∀ xs, o = some xs → xs.length ≤ m → ∀ x ∈ xs, Kn K H x
theorem Kns.same {K : PySem.W.Frag} {H H' : Hp} {o : Option (List V)} {m : Nat} (e : Same H H') (h : Kns K H o m) : Kns K H' o m := fun xs q l x hx => (h xs q l x hx).same e
/-- an error C of the one field f is raised -/
def Thrown (E : XK) (H : Hp) (C : Addr) (f : Str) (v : V) : Prop := ∀ d H', Same H H' → H' d = some (.xd [(f, v)]) → E (.ref C) (some d) H'
theorem Thrown.same {E : XK} {H H' : Hp} {C : Addr} {f : Str} {v : V} (e : Same H H') (h : Thrown E H C f v) : Thrown E H' C f v := fun d H2 e2 q => h d H2 (e.trans e2) q
theorem Thrown.at_ {E : XK} {H : Hp} {C : Addr} {f : Str} {v : V} (h : Thrown E H C f v) : ∀ d, H d = none → E (.ref C) (some d) (upd H d (.xd [(f, v)])) := fun d q => h d _ (same_new q) upd_same
theorem fnb_none {l : Int} : ∀ {xs : List V}, fnb l xs = none ↔ ∀ x ∈ xs, isBel l x = true
  | [] => by simp [fnb]
  | x :: xs => by
    unfold fnb
    by_cases h : isBel l x = true
    · rw [if_pos h, Option.map_eq_none_iff, fnb_none]
      exact ⟨fun q y hy => (List.mem_cons.mp hy).elim (fun e => e ▸ h) (q y), fun q y hy => q y (List.mem_cons_of_mem _ hy)⟩
    · rw [if_neg h]
      exact ⟨fun q => (nomatch q), fun q => absurd (q x (List.mem_cons_self ..)) h⟩
theorem fnb_some {l : Int} : ∀ {xs : List V} {i : Nat}, (∀ j x, j < i → xs[j]? = some x → isBel l x = true) → (∃ x, xs[i]? = some x ∧ isBel l x = false) → fnb l xs = some i
  | [], i, _, h => by obtain ⟨x, h, _⟩ := h; simp at h
  | x :: xs, 0, _, h => by
    obtain ⟨y, h1, h2⟩ := h
    have e : x = y := by simpa using h1
    unfold fnb
    rw [e, if_neg (by rw [h2]; exact Bool.false_ne_true)]
  | x :: xs, i + 1, hl, h => by
    unfold fnb
    rw [if_pos (hl 0 x (Nat.succ_pos i) rfl), fnb_some (i := i) (fun j y hj hy => hl (j + 1) y (Nat.succ_lt_succ hj) (by simpa using hy)) (by simpa using h)]
    rfl
/-- the errors' classes -/
structure Ad where
  cM : Addr
  cR : Addr
  cS : Addr
  cF : Addr
  cG : Addr
  cD : Addr
  iD : Addr
/-- what the module holds of its errors -/
structure Er (P : Program) (w : World) (K : PySem.W.Frag) (mg : Str → Option Value) (base : Heap) (a : Ad) : Prop where
  BadMachine : ErrC P w K mg base 1 "BadMachine" "at" a.cM
  BadRow : ErrC P w K mg base 1 "BadRow" "at" a.cR
  BadShowing : ErrC P w K mg base 1 "BadShowing" "at" a.cS
  Refused : ErrC P w K mg base 1 "Refused" "at" a.cF
  TooGreat : ErrC P w K mg base 1 "TooGreat" "most" a.cG
  NoDeed : KD.Txt K a.cD a.iD "NoDeed.__init__"
  n_NoDeed : mg "NoDeed" = some (.ref a.cD)
def spNumber (K : PySem.W.Frag) : Sp := fun vs H Q _ => ∃ v, vs = [v] ∧ Kn K H v ∧ Q (.bl (isNum v)) H
def spBelow (K : PySem.W.Frag) : Sp := fun vs H Q _ => ∃ v l, vs = [v, .int l] ∧ Kn K H v ∧ Q (.bl (isBel l v)) H
def spSeq (K : PySem.W.Frag) : Sp := fun vs H Q _ => ∃ v l m o, vs = [v, .int l, .int m] ∧ Long K H v o ∧ ∀ H', Same H H' → Q (.bl (inLen l m o)) H'
def spFnb (K : PySem.W.Frag) : Sp := fun vs H Q _ => ∃ a xs l, vs = [.ref a, .int l] ∧ Sq K H a xs ∧ (∀ x ∈ xs, Kn K H x) ∧ ∀ H', Same H H' → Q (optV (fnb l xs)) H'
def spRowOf (K : PySem.W.Frag) (a : Ad) : Sp := fun vs H Q E => ∃ b xs n, vs = [.ref b, .int n] ∧ SqD K H b xs ∧ Kns K H (some xs) 400 ∧ (∀ i, rowAt n (some xs) = some i → Thrown E H a.cR "at" (.int i)) ∧
  (rowAt n (some xs) = none → ∀ p H', Same H H' → TupD H' p xs → Q (.ref p) H')
/-- the type's name of such a value, where it is no int -/
theorem kn_ty {K : PySem.W.Frag} {H : Hp} {v : V} (h : Kn K H v) : (∃ i, v = .int i) ∨ ∃ n : String, TyX K H v (.type n) ∧ (n = "NoneType" ∨ n = "bool" ∨ n = "str" ∨ n = "list" ∨ n = "tuple") ∧ isNum v = false ∧ ∀ l, isBel l v = false := by
  cases h with
  | int i => exact .inl ⟨i, rfl⟩
  | non => exact .inr ⟨_, .base .non, by simp, rfl, fun _ => rfl⟩
  | bl b => exact .inr ⟨_, .base (.bl b), by simp, rfl, fun _ => rfl⟩
  | str x => exact .inr ⟨_, .base (.str x), by simp, rfl, fun _ => rfl⟩
  | seq q =>
    rcases q with q | q
    · exact .inr ⟨_, tyx_list q, by simp, rfl, fun _ => rfl⟩
    · exact .inr ⟨_, tyx_tuple q, by simp, rfl, fun _ => rfl⟩
theorem kit_int {K : PySem.W.Frag} {n : String} (h : n = "NoneType" ∨ n = "bool" ∨ n = "str" ∨ n = "list" ∨ n = "tuple") : ∃ b, PySem.W.kitOne K (.type n) (.type "int") = some b ∧ (b = true → PySem.W.kitOne K (.type n) (.type "bool") = some true) := by
  rcases h with rfl | rfl | rfl | rfl | rfl
  · exact ⟨false, kit_ty (by decide +kernel), fun z => nomatch z⟩
  · exact ⟨true, kit_ty (by decide +kernel), fun _ => kit_ty (by decide +kernel)⟩
  · exact ⟨false, kit_ty (by decide +kernel), fun z => nomatch z⟩
  · exact ⟨false, kit_ty (by decide +kernel), fun z => nomatch z⟩
  · exact ⟨false, kit_ty (by decide +kernel), fun z => nomatch z⟩
section
variable {P : Program} {w : World} {K : PySem.W.Frag} {mg : Str → Option Value} {base : Heap} {f : Addr} {fd : FuncData} {a : Ad}
theorem scis_number : FnScope ["value"] ["value"] (defScope s_is_number) := ⟨rfl, rfl, rfl, by decide +kernel, rfl, by decide +kernel, by decide +kernel⟩
theorem ok_is_number (F : FnP K "is_number" s_is_number f fd) (T : Mg mg) : FnOk P w K mg base CX0 1 f fd ["value"] (spNumber K) := by
  refine F.ok scis_number (fun vs H Q E h => ?_) (fun cdv A outer s H vs Q E hr h => ?_)
  · obtain ⟨v, rfl, _⟩ := h
    rfl
  · obtain ⟨v, rfl, hv, k⟩ := h
    refine ⟨_, PSs.nox (pss_one (ps_ret (pe_and (pe_callB call_isi (by rfl) T.z_isinstance (by decide +kernel) (pa_cons (pv 0) (pa_cons (pe_ty T.z_int bt_int) pa_nil))) (pe_and (pe_not (pe_callB call_isi (by rfl) T.z_isinstance (by decide +kernel) (pa_cons (pv 0) (pa_cons (pe_ty T.z_bool bt_bool) pa_nil)))) (pe_one (pe_cmpR op_ge (pv 0) pe_int (nomark _))))))), ?_⟩
    rcases kn_ty hv with ⟨i, rfl⟩ | ⟨n, ht, hn, e, _⟩
    · refine ⟨_, rfl, _, .ty "int", _, _, true, rfl, .ty _, .base (.int i), kit_ty (by decide +kernel), true, rfl, iteT ?_⟩
      refine ⟨_, rfl, _, .ty "bool", _, _, false, rfl, .ty _, .base (.int i), kit_ty (by decide +kernel), false, rfl, true, rfl, iteT ⟨_, rfl, _, _, rfl, rfl, ?_⟩⟩
      exact k
    · obtain ⟨b, hb, hb2⟩ := kit_int (K := K) hn
      rw [e] at k
      refine ⟨_, rfl, _, .ty "int", _, _, b, rfl, .ty _, ht, hb, b, rfl, ?_⟩
      cases b with
      | false => exact iteF k
      | true => exact iteT ⟨_, rfl, _, .ty "bool", _, _, true, rfl, .ty _, ht, hb2 rfl, true, rfl, false, rfl, iteF k⟩
theorem sc_is_below : FnScope ["value", "limit"] ["value", "limit"] (defScope s_is_below) := ⟨rfl, rfl, rfl, by decide +kernel, rfl, by decide +kernel, by decide +kernel⟩
theorem ok_is_below (F : FnP K "is_below" s_is_below f fd) (T : Mg mg) (c_is_number : Cal P w K mg base CX0 1 "is_number" ["value"] (spNumber K)) : FnOk P w K mg base CX0 2 f fd ["value", "limit"] (spBelow K) := by
  refine F.ok sc_is_below (fun vs H Q E h => ?_) (fun cdv A outer s H vs Q E hr h => ?_)
  · obtain ⟨v, l, rfl, _⟩ := h
    rfl
  · obtain ⟨v, l, rfl, hv, k⟩ := h
    refine ⟨_, PSs.nox (pss_one (ps_ret (pe_and (pe_callC c_is_number hr pass0 (pa_cons (pv 0) pa_nil)) (pe_one (pe_cmpR op_lt (pv 0) (pv 1) (nomark _)))))), ?_⟩
    refine ⟨_, rfl, v, rfl, hv, isNum v, rfl, ?_⟩
    cases e : isNum v with
    | false =>
      refine iteF ?_
      have e2 : isBel l v = false := by
        cases v <;> first | rfl | (have e' : decide _ = false := e; show (decide _ && decide _) = false; rw [e']; rfl)
      rw [e2] at k
      exact k
    | true =>
      refine iteT ?_
      obtain ⟨i, rfl⟩ : ∃ i, v = .int i := by
        cases v with
        | int i => exact ⟨i, rfl⟩
        | _ => cases e
      refine ⟨_, rfl, _, rfl, _, _, rfl, rfl, ?_⟩
      have e2 : isBel l (.int i) = decide (i < l) := by
        show (decide _ && decide _) = _
        rw [show decide (0 ≤ i) = true from e]
        rfl
      rw [e2] at k
      exact k
theorem sc_is_sequence : FnScope ["value", "least", "most"] ["value", "least", "most"] (defScope s_is_sequence) := ⟨rfl, rfl, rfl, by decide +kernel, rfl, by decide +kernel, by decide +kernel⟩
theorem kit_seq {K : PySem.W.Frag} {n : String} {b : Bool} (h1 : n = "list" ∨ n = "tuple" → b = true) (h2 : n = "NoneType" ∨ n = "bool" ∨ n = "str" ∨ n = "int" → b = false) (hn : (n = "list" ∨ n = "tuple") ∨ n = "NoneType" ∨ n = "bool" ∨ n = "str" ∨ n = "int") :
    PySem.W.kitAny K (.type n) [.type "list", .type "tuple"] = some b := by
  rcases hn with hn | hn
  · obtain rfl := h1 hn
    rcases hn with rfl | rfl
    · exact kitAny_cons (b := true) (kit_ty (by decide +kernel)) (fun z => nomatch z) (fun _ => rfl)
    · exact kitAny_cons (b := false) (kit_ty (by decide +kernel)) (fun _ => kitAny_cons (b := true) (kit_ty (by decide +kernel)) (fun z => nomatch z) (fun _ => rfl)) (fun z => nomatch z)
  · obtain rfl := h2 hn
    rcases hn with rfl | rfl | rfl | rfl
    · exact kitAny_cons (b := false) (kit_ty (by decide +kernel)) (fun _ => kitAny_cons (b := false) (kit_ty (by decide +kernel)) (fun _ => kitAny_nil) (fun z => nomatch z)) (fun z => nomatch z)
    · exact kitAny_cons (b := false) (kit_ty (by decide +kernel)) (fun _ => kitAny_cons (b := false) (kit_ty (by decide +kernel)) (fun _ => kitAny_nil) (fun z => nomatch z)) (fun z => nomatch z)
    · exact kitAny_cons (b := false) (kit_ty (by decide +kernel)) (fun _ => kitAny_cons (b := false) (kit_ty (by decide +kernel)) (fun _ => kitAny_nil) (fun z => nomatch z)) (fun z => nomatch z)
    · exact kitAny_cons (b := false) (kit_ty (by decide +kernel)) (fun _ => kitAny_cons (b := false) (kit_ty (by decide +kernel)) (fun _ => kitAny_nil) (fun z => nomatch z)) (fun z => nomatch z)
theorem long_ty {H : Hp} {v : V} {o : Option (List V)} (h : Long K H v o) : ∃ n : String, TyX K H v (.type n) ∧ PySem.W.kitAny K (.type n) [.type "list", .type "tuple"] = some o.isSome := by
  cases h with
  | non => exact ⟨_, .base .non, kit_seq (by simp) (by simp) (by simp)⟩
  | bl b => exact ⟨_, .base (.bl b), kit_seq (by simp) (by simp) (by simp)⟩
  | int i => exact ⟨_, .base (.int i), kit_seq (by simp) (by simp) (by simp)⟩
  | str x => exact ⟨_, .base (.str x), kit_seq (by simp) (by simp) (by simp)⟩
  | seq q =>
    rcases q with q | q
    · exact ⟨_, tyx_list q, kit_seq (by simp) (by simp) (by simp)⟩
    · exact ⟨_, tyx_tuple q, kit_seq (by simp) (by simp) (by simp)⟩
theorem ok_is_sequence (F : FnP K "is_sequence" s_is_sequence f fd) (T : Mg mg) : FnOk P w K mg base CX0 1 f fd ["value", "least", "most"] (spSeq K) := by
  refine F.ok sc_is_sequence (fun vs H Q E h => ?_) (fun cdv A outer s H vs Q E hr h => ?_)
  · obtain ⟨v, l, m, o, rfl, _⟩ := h
    rfl
  · obtain ⟨v, l, m, o, rfl, hv, k⟩ := h
    refine ⟨_, PSs.nox (pss_one (ps_ret (pe_and (pe_callB call_isiT (by rfl) T.z_isinstance (by decide +kernel) (pa_cons (pv 0) (pa_cons (pe_tup (pa_cons (pe_ty T.z_list bt_list) (pa_cons (pe_ty T.z_tuple bt_tuple) pa_nil))) pa_nil))) (pe_one (pe_chain op_le op_le (pv 1) (pe_callB call_len_seq (by rfl) T.z_len PySem.boot_len (pa_cons (pv 0) pa_nil)) (pv 2)))))), ?_⟩
    refine ⟨_, rfl, (by show 2 ≤ sizeLine; decide), fun p hp => ?_⟩
    have e := same_new (o := HO.tup [.ty "list", .ty "tuple"]) hp
    obtain ⟨n, ht, hk⟩ := long_ty (hv.same e)
    refine ⟨v, p, _, .type n, _, o.isSome, rfl, upd_same, .cons (.ty _) (.cons (.ty _) .nil), ht, hk, _, rfl, ?_⟩
    cases o with
    | none => exact iteF (k _ e)
    | some xs =>
      refine iteT ?_
      cases hv with
      | seq q =>
        have q' := q.same e
        refine ⟨_, rfl, _, rfl, _, _, rfl, q', _, _, rfl, rfl, decide (l ≤ (xs.length : Int)), rfl, ?_⟩
        refine ite2 (fun h1 => ?_) (fun h1 => ?_)
        · refine ⟨_, rfl, _, _, rfl, rfl, ?_⟩
          have k2 := k _ e
          rw [show inLen l m (some xs) = decide ((xs.length : Int) ≤ m) from by show (decide _ && _) = _; rw [h1]; rfl] at k2
          exact k2
        · have k2 := k _ e
          rw [show inLen l m (some xs) = false from by show (decide _ && _) = _; rw [Bool.eq_false_iff.mpr h1]; rfl] at k2
          exact k2
end
end K3
namespace K3
open PySem PySem.Spec PyProof.Rows L2 Kx
section
variable {P : Program} {w : World} {K : PySem.W.Frag} {mg : Str → Option Value} {base : Heap} {f : Addr} {fd : FuncData} {a : Ad}
theorem passC {X : Cx} {W : WX} {E : XK} (tk : Takes X W) (h : ∀ cls d σ H, E cls d H → W cls d σ H) : Passes (L2.CX X.prog X.w) X E := passes_call tk h
theorem inLen_some {l m : Int} {xs : List V} : inLen l m (some xs) = (decide (l ≤ (xs.length : Int)) && decide ((xs.length : Int) ≤ m)) := rfl
theorem optV_non {o : Option Nat} : decide (optV o = V.non) = o.isNone := by
  cases o with
  | none => rfl
  | some n => exact decide_eq_false (fun z => nomatch z)
theorem sc_first_not_below : FnScope ["values", "limit", "at", "value"] ["values", "limit"] (defScope s_first_not_below) := ⟨rfl, rfl, rfl, by decide +kernel, rfl, by decide +kernel, by decide +kernel⟩
theorem ok_first_not_below (F : FnP K "first_not_below" s_first_not_below f fd) (T : Mg mg) (c_is_below : Cal P w K mg base CX0 2 "is_below" ["value", "limit"] (spBelow K)) : FnOk P w K mg base CX0 3 f fd ["values", "limit"] (spFnb K) := by
  refine F.ok sc_first_not_below (fun vs H Q E h => ?_) (fun cdv A outer s H vs Q E hr h => ?_)
  · obtain ⟨a, xs, l, rfl, _⟩ := h
    rfl
  · obtain ⟨a, xs, l, rfl, hx, hk, k⟩ := h
    refine ⟨_, PSs.nox (pss_cons (ps_for PassesOwn.never rfl (pi_pairs (by rfl) T.z_enumerate (pa_cons (pv 0) pa_nil)) (pg_tup rfl (pgs_cons (pg_name (i := 2) sc_first_not_below.nd rfl (by first | exact Or.inl rfl | exact Or.inr rfl)) (pgs_cons (pg_name (i := 3) sc_first_not_below.nd rfl (by first | exact Or.inl rfl | exact Or.inr rfl)) pgs_nil)))
        (pss_one (ps_if (pt_not (pt_val (pe_callC c_is_below hr pass0 (pa_cons (pv 3) (pa_cons (pv 1) pa_nil)))))
          (pss_one (ps_ret (pv 2)))
          pss_nil)))
      (pss_one (ps_ret pe_non))), ?_⟩
    refine ⟨_, rfl, a, xs, rfl, for_pairs hx (fun i σ' H' => ∃ x y, σ' = [some (.ref a), some (.int l), x, y] ∧ Same H H' ∧ ∀ j z, j < i → xs[j]? = some z → isBel l z = true) ⟨_, _, rfl, Same.refl H, fun j z hj => absurd hj (Nat.not_lt_zero j)⟩ (fun i σ' H' q => q.elim fun _ q => q.elim fun _ q => q.2.1) ?_ ?_⟩
    · rintro i x p σ' H' hx' ⟨_, _, rfl, e, hl⟩ hp
      refine ⟨p, _, rfl, SqT.of upd_same, rfl, ?_⟩
      refine ⟨_, _, rfl, _, _, rfl, rfl, ?_⟩
      refine ⟨x, rfl, _, rfl, x, l, rfl, ((hk x (List.mem_of_getElem? hx')).same e).same (same_new hp), isBel l x, rfl, ?_⟩
      cases eb : isBel l x with
      | true =>
        refine iteF ⟨_, _, rfl, e.trans (same_new hp), fun j z hj hz => ?_⟩
        rcases Nat.lt_or_eq_of_le (Nat.le_of_lt_succ hj) with h | rfl
        · exact hl j z h hz
        · rw [hx'] at hz
          cases hz
          exact eb
      | false =>
        refine iteT ⟨_, rfl, ?_⟩
        rw [fnb_some (i := i) hl ⟨x, hx', eb⟩] at k
        exact k _ (e.trans (same_new hp))
    · rintro σ' H' ⟨_, _, rfl, e, hl⟩
      have := k _ e
      rw [fnb_none.mpr fun x hx => by
        obtain ⟨j, hj⟩ := List.getElem?_of_mem (hx : x ∈ xs)
        exact hl j x (List.getElem?_eq_some_iff.mp hj).1 hj] at this
      exact this
theorem sc_row_of : FnScope ["value", "deeds", "at"] ["value", "deeds"] (defScope s_row_of) := ⟨rfl, rfl, rfl, by decide +kernel, rfl, by decide +kernel, by decide +kernel⟩
theorem ok_row_of (F : FnP K "row_of" s_row_of f fd) (T : Mg mg) (R : Er P w K mg base a) (c_is_sequence : Cal P w K mg base CX0 1 "is_sequence" ["value", "least", "most"] (spSeq K)) (c_first_not_below : Cal P w K mg base CX0 3 "first_not_below" ["values", "limit"] (spFnb K)) :
    FnOk P w K mg base (L2.CX P w) 4 f fd ["value", "deeds"] (spRowOf K a) := by
  refine F.ok sc_row_of (fun vs H Q E h => ?_) (fun cdv A outer s H vs Q E hr h => ?_)
  · obtain ⟨b, xs, n, rfl, _⟩ := h
    rfl
  · obtain ⟨b, xs, n, rfl, hv, hk, bad, good⟩ := h
    refine ⟨_, (pss_cons (ps_if (pt_not (pt_val (pe_callC c_is_sequence hr pass0 (pa_cons (pv 0) (pa_cons pe_int (pa_cons (pe_constI T.g_ROW_MOST) pa_nil))))))
        (pss_one (ps_throw R.BadRow rfl hr (takes_of rfl rfl rfl rfl) (pa_cons (pe_un un_neg pe_int) pa_nil)))
        pss_nil)
      (pss_cons (ps_set (i := 2) sc_row_of.nd rfl (by first | exact Or.inl rfl | exact Or.inr rfl) (pe_callC c_first_not_below hr pass0 (pa_cons (pv 0) (pa_cons (pv 1) pa_nil))))
      (pss_cons (ps_if (pt_cmpR op_notN (pv 2) pe_non (nomark _))
        (pss_one (ps_throw R.BadRow rfl hr (takes_of rfl rfl rfl rfl) (pa_cons (pv 2) pa_nil)))
        pss_nil)
      (pss_one (ps_ret (pe_callTy call_tupD (by rfl) T.z_tuple (by decide +kernel) (pa_cons (pv 0) pa_nil))))))), ?_⟩
    refine ⟨_, rfl, _, 0, 400, some xs, rfl, .seq hv.sq, fun H1 e1 => ⟨inLen 0 400 (some xs), rfl, ?_⟩⟩
    cases ei : inLen 0 400 (some xs) with
    | false =>
      have far : rowAt n (some xs) = some (-1) := if_neg fun z => by
        rw [inLen_some, decide_eq_true (by omega), decide_eq_true (by omega)] at ei
        cases ei
      exact iteT ⟨1, rfl, thrown ((bad _ far).same e1).at_⟩
    | true =>
      refine iteF ?_
      have hl : xs.length ≤ 400 := by
        have z := ei
        rw [inLen_some, Bool.and_eq_true] at z
        have := of_decide_eq_true z.2
        omega
      have ra : rowAt n (some xs) = (fnb n xs).map (fun (i : Nat) => (i : Int)) := if_pos hl
      rw [ra] at bad good
      refine ⟨_, rfl, _, rfl, b, xs, n, rfl, hv.sq.same e1, fun x hx => (hk _ rfl hl x hx).same e1, fun H2 e2 => ?_⟩
      have e3 := e1.trans e2
      refine ⟨optV (fnb n xs), rfl, rfl, ?_⟩
      cases ef : fnb n xs with
      | some i =>
        rw [ef] at bad
        refine ⟨true, rfl, iteT ?_⟩
        exact ⟨_, rfl, thrown ((bad _ rfl).same e3).at_⟩
      | none =>
        rw [ef] at good
        refine ⟨false, rfl, iteF ?_⟩
        exact ⟨_, rfl, b, xs, rfl, hv.same e3, fun p H4 e4 hp => good rfl p H4 (e3.trans e4) hp⟩
end
end K3
/-! counters are made, compared -/
namespace K3
open PySem PySem.Spec PyProof.Rows L2 Kx
/-- rounds and rests that counters may have -/
structure Cok (rs es : List Int) : Prop where
  l1 : 1 ≤ rs.length
  l4 : rs.length ≤ 4
  le : es.length = rs.length
  r : ∀ x ∈ rs, 0 ≤ x ∧ x ≤ 60
  e : ∀ x ∈ es, 0 ≤ x ∧ x ≤ 6
structure CnAt (K : PySem.W.Frag) (C : Addr) (H : Hp) (c : Addr) (rs es : List Int) : Prop where
  ok : Cok rs es
  ex : ∃ dx p q, H c = some (.ins C dx [("rounds", .ref p), ("rests", .ref q)]) ∧ SqT K H p (rs.map V.int) ∧ SqT K H q (es.map V.int)
theorem CnAt.same {K : PySem.W.Frag} {C : Addr} {H H' : Hp} {c : Addr} {rs es : List Int} (e : Same H H') (h : CnAt K C H c rs es) : CnAt K C H' c rs es := by
  obtain ⟨ok, dx, p, q, h1, h2, h3⟩ := h
  exact ⟨ok, dx, p, q, e _ _ h1, sqT_same e h2, sqT_same e h3⟩
/-- what the module holds of such a class -/
structure ClsC (K : PySem.W.Frag) (mg : Str → Option Value) (C : Addr) : Prop where
  at_ : mg "Counters" = some (.ref C)
  cl : Cls K C
  n1 : NoAttr K C "rounds"
  n2 : NoAttr K C "rests"
  isi : SlX.SIsi K C
  yes : PySem.W.kitOne K (.ref C) (.ref C) = some true
  notT : PySem.W.kitOne K (.type "tuple") (.ref C) = some false
  first : PySem.W.notFirst K C (.type "tuple") = true
def roundsOk : Option (List V) → Bool
  | some xs => inLen 1 4 (some xs) && (fnb 61 xs).isNone
  | none => false
theorem roundsOk_some {xs : List V} : roundsOk (some xs) = (inLen 1 4 (some xs) && (fnb 61 xs).isNone) := rfl
def restsOk (k : Nat) : Option (List V) → Bool
  | some ys => ys.isEmpty || (decide (ys.length = k) && (fnb 7 ys).isNone)
  | none => false
theorem restsOk_some {k : Nat} {ys : List V} : restsOk k (some ys) = (ys.isEmpty || (decide (ys.length = k) && (fnb 7 ys).isNone)) := rfl
def spRests (K : PySem.W.Frag) : Sp := fun vs H Q _ => ∃ (v : V) (k : Nat) (o : Option (List V)), vs = [v, .int (k : Int)] ∧ k ≤ 4 ∧ Long K H v o ∧ Kns K H o 4 ∧ ∀ H', Same H H' → Q (.bl (restsOk k o)) H'
def spInit (K : PySem.W.Frag) (a : Ad) (C : Addr) : Sp := fun vs H Q E => ∃ (x dx : Addr) (v1 v2 : V) (o1 o2 : Option (List V)), vs = [.ref x, v1, v2] ∧ H x = some (.ins C dx []) ∧ Long K H v1 o1 ∧ Kns K H o1 4 ∧ Long K H v2 o2 ∧ Kns K H o2 4 ∧
  (roundsOk o1 = false → Thrown E H a.cF "at" v1) ∧ (∀ xs, o1 = some xs → roundsOk o1 = true → restsOk xs.length o2 = false → Thrown E H a.cF "at" v2) ∧
  (∀ rs es, Cok rs es → o1 = some (rs.map V.int) → (o2 = some [] ∧ es = List.replicate rs.length 0 ∨ o2 = some (es.map V.int)) → ∀ H', (∀ b o, b ≠ x → H b = some o → H' b = some o) → CnAt K C H' x rs es → Q .non H')
theorem r64 {k : Nat} {A : Around} (r : Room k A) : A.units + 64 < cLine := by have := r.un; omega
theorem fnb_ints {l : Int} : ∀ {xs : List V}, fnb l xs = none → ∃ ns : List Int, xs = ns.map V.int ∧ ∀ n ∈ ns, 0 ≤ n ∧ n < l
  | [], _ => ⟨[], rfl, fun _ h => nomatch h⟩
  | x :: xs, h => by
    have h' := fnb_none.mp h
    obtain ⟨ns, rfl, hn⟩ := fnb_ints (xs := xs) (fnb_none.mpr fun y hy => h' y (List.mem_cons_of_mem _ hy))
    have hx := h' x (List.mem_cons_self ..)
    cases x with
    | int i =>
      have hx : (decide (0 ≤ i) && decide (i < l)) = true := hx
      rw [Bool.and_eq_true] at hx
      refine ⟨i :: ns, rfl, fun n hn' => (List.mem_cons.mp hn').elim (fun e => ?_) (hn n)⟩
      subst e
      exact ⟨of_decide_eq_true hx.1, of_decide_eq_true hx.2⟩
    | _ => exact absurd hx Bool.false_ne_true
theorem fnb_of {l : Int} {ns : List Int} (h : ∀ n ∈ ns, 0 ≤ n ∧ n < l) : fnb l (ns.map V.int) = none := fnb_none.mpr fun x hx => by
  obtain ⟨n, hn, rfl⟩ := List.mem_map.mp hx
  show (decide (0 ≤ n) && decide (n < l)) = true
  rw [decide_eq_true (h n hn).1, decide_eq_true (h n hn).2]
  rfl
theorem tup_of {K : PySem.W.Frag} {H : Hp} {a : Addr} {xs : List V} {Q : VK} (q : Sq K H a xs) (key : ∀ p H', Same H H' → SqT K H' p xs → Q (.ref p) H') : (SqL K H a xs ∧ ∀ l, H l = none → Q (.ref l) (upd H l (.tup xs))) ∨ (SqT K H a xs ∧ Q (.ref a) H) :=
  q.imp (fun q => ⟨q, fun l hl => key l _ (same_new hl) (SqT.of upd_same)⟩) fun q => ⟨q, key a H (Same.refl H) q⟩
/-- tuple(xs), xs a list or a tuple -/
theorem call_tup {X : Cx} : CallR X (.type "tuple") (fun xs H Q => ∃ p ys, xs = [.ref p] ∧ Sq X.K H p ys ∧ ∀ q H', Same H H' → SqT X.K H' q ys → Q (.ref q) H') := fun pins s σ H vs us Q I r ⟨p, ys, e, q, key⟩ =>
  call_tuple_of pins s σ H vs us Q I r ⟨p, ys, e, tup_of q key⟩
theorem restsOk_true {k : Nat} {o : Option (List V)} (h : restsOk k o = true) : o = some [] ∨ ∃ es : List Int, o = some (es.map V.int) ∧ es.length = k ∧ ∀ x ∈ es, 0 ≤ x ∧ x ≤ 6 := by
  cases o with
  | none => cases h
  | some ys =>
    rw [restsOk_some, Bool.or_eq_true, Bool.and_eq_true] at h
    rcases h with h | ⟨h1, h2⟩
    · rw [List.isEmpty_iff.mp h]
      exact .inl rfl
    · obtain ⟨es, rfl, he⟩ := fnb_ints (Option.isNone_iff_eq_none.mp h2)
      refine .inr ⟨es, rfl, ?_, fun x hx => ⟨(he x hx).1, by have := (he x hx).2; omega⟩⟩
      have := of_decide_eq_true h1
      rwa [List.length_map] at this
/-- a sequence stands as it was where an instance changes -/
theorem rd_ins {H : Hp} {x a C dx : Addr} {fs gs : List (Str × V)} {u : HO} (hx : H x = some (.ins C dx fs)) (n1 : ∀ C dx fs, u ≠ .ins C dx fs) (q : Rd H a u) : Rd (upd H x (.ins C dx gs)) a u :=
  q.elim (fun q => .inl (by rw [upd_ne (ne_of q hx (n1 _ _ _))]; exact q)) fun ⟨z, q⟩ => .inr ⟨z, by rw [upd_ne (ne_of q hx (fun z => nomatch z))]; exact q⟩
theorem sqL_ins {K : PySem.W.Frag} {H : Hp} {x a C dx : Addr} {fs gs : List (Str × V)} {xs : List V} (hx : H x = some (.ins C dx fs)) (h : SqL K H a xs) : SqL K (upd H x (.ins C dx gs)) a xs := h.imp (rd_ins hx fun _ _ _ z => nomatch z) id
theorem sqT_ins {K : PySem.W.Frag} {H : Hp} {x a C dx : Addr} {fs gs : List (Str × V)} {xs : List V} (hx : H x = some (.ins C dx fs)) (h : SqT K H a xs) : SqT K (upd H x (.ins C dx gs)) a xs := h.imp (rd_ins hx fun _ _ _ z => nomatch z) id
theorem sq_ins {K : PySem.W.Frag} {H : Hp} {x a C dx : Addr} {fs gs : List (Str × V)} {xs : List V} (hx : H x = some (.ins C dx fs)) (h : Sq K H a xs) : Sq K (upd H x (.ins C dx gs)) a xs := h.imp (sqL_ins hx) (sqT_ins hx)
theorem tru_sq {K : PySem.W.Frag} {H : Hp} {b : Addr} {xs : List V} (h : Sq K H b xs) : TruV K (.ref b) H (!xs.isEmpty) := h.elim (fun h => .inl ⟨xs, h, rfl⟩) fun h => .inr (.inl ⟨xs, h, rfl⟩)
section
variable {P : Program} {w : World} {K : PySem.W.Frag} {mg : Str → Option Value} {base : Heap} {f : Addr} {fd : FuncData} {a : Ad} {C : Addr}
theorem sc__are_rests : FnScope ["value", "kinds"] ["value", "kinds"] (defScope s_are_rests) := ⟨rfl, rfl, rfl, by decide +kernel, rfl, by decide +kernel, by decide +kernel⟩
theorem optV_isN {o : Option Nat} : decide (optV o = V.non) = o.isNone := optV_non
theorem inLen_00 {xs : List V} : inLen 0 0 (some xs) = xs.isEmpty := by
  cases xs with
  | nil => rfl
  | cons x xs =>
    rw [inLen_some, decide_eq_true (by omega), decide_eq_false (by simp only [List.length_cons]; omega)]
    rfl
theorem inLen_kk {k : Nat} {xs : List V} : inLen (k : Int) (k : Int) (some xs) = decide (xs.length = k) := by
  rw [inLen_some, Bool.eq_iff_iff, Bool.and_eq_true, decide_eq_true_eq, decide_eq_true_eq, decide_eq_true_eq]
  omega
theorem ok_are_rests (F : FnP K "_are_rests" s_are_rests f fd) (T : Mg mg) (c_is_sequence : Cal P w K mg base CX0 1 "is_sequence" ["value", "least", "most"] (spSeq K)) (c_first_not_below : Cal P w K mg base CX0 3 "first_not_below" ["values", "limit"] (spFnb K)) :
    FnOk P w K mg base CX0 4 f fd ["value", "kinds"] (spRests K) := by
  refine F.ok sc__are_rests (fun vs H Q E h => ?_) (fun cdv A outer s H vs Q E hr h => ?_)
  · obtain ⟨v, k, o, rfl, _⟩ := h
    rfl
  · obtain ⟨v, k, o, rfl, hk, hv, kn, q⟩ := h
    refine ⟨_, PSs.nox (pss_cons (ps_if (pt_val (pe_callC c_is_sequence hr pass0 (pa_cons (pv 0) (pa_cons pe_int (pa_cons pe_int pa_nil)))))
        (pss_one (ps_ret pe_bl))
        pss_nil)
      (pss_one (ps_ret (pe_and (pe_callC c_is_sequence hr pass0 (pa_cons (pv 0) (pa_cons (pv 1) (pa_cons (pv 1) pa_nil)))) (pe_one (pe_cmpR op_isN (pe_callC c_first_not_below hr pass0 (pa_cons (pv 0) (pa_cons (pe_op op_add (pe_constI T.g_REST_MOST) pe_int) pa_nil))) pe_non (nomark _))))))), ?_⟩
    refine ⟨v, rfl, v, 0, 0, o, rfl, hv, fun H1 e1 => ⟨inLen 0 0 o, rfl, ?_⟩⟩
    cases o with
    | none =>
      refine iteF ?_
      exact ⟨v, rfl, _, rfl, _, rfl, v, _, _, none, rfl, hv.same e1, fun H2 e2 => ⟨_, rfl, iteF (q _ (e1.trans e2))⟩⟩
    | some xs =>
      rw [inLen_00]
      cases hz : xs.isEmpty with
      | true =>
        refine iteT ?_
        have e : restsOk k (some xs) = true := by rw [restsOk_some, hz] <;> rfl
        rw [e] at q
        exact q _ e1
      | false =>
        refine iteF ?_
        have e : restsOk k (some xs) = (decide (xs.length = k) && (fnb 7 xs).isNone) := by rw [restsOk_some, hz] <;> rfl
        rw [e] at q
        refine ⟨v, rfl, _, rfl, _, rfl, v, _, _, some xs, rfl, hv.same e1, fun H2 e2 => ⟨_, rfl, ?_⟩⟩
        rw [inLen_kk]
        cases hl : decide (xs.length = k) with
        | false =>
          rw [hl] at q
          exact iteF (q _ (e1.trans e2))
        | true =>
          rw [hl] at q
          refine iteT ?_
          have e12 := e1.trans e2
          cases hv with
          | seq qs =>
            refine ⟨_, rfl, _, _, rfl, rfl, _, xs, 7, rfl, qs.same e12, fun x hx => (kn _ rfl (by have := of_decide_eq_true hl; omega) x hx).same e12, fun H3 e3 => ⟨rfl, ?_⟩⟩
            have q3 := q _ (e12.trans e3)
            rw [← optV_non] at q3
            exact q3
theorem sc_init : FnScope ["self", "rounds", "rests"] ["self", "rounds", "rests"] (defScope s_Counters_init) := ⟨rfl, rfl, rfl, by decide +kernel, rfl, by decide +kernel, by decide +kernel⟩
theorem ok_init {dvs : List V} (F : FunD K "__init__" "Counters.__init__" (defArgs s_Counters_init) (defBody s_Counters_init) (defScope s_Counters_init) dvs [] f fd) (T : Mg mg) (R : Er P w K mg base a) (TC : ClsC K mg C)
    (c_is_sequence : Cal P w K mg base CX0 1 "is_sequence" ["value", "least", "most"] (spSeq K)) (c_first_not_below : Cal P w K mg base CX0 3 "first_not_below" ["values", "limit"] (spFnb K))
    (c__are_rests : Cal P w K mg base CX0 4 "_are_rests" ["value", "kinds"] (spRests K)) : FnOk P w K mg base (L2.CX P w) 5 f fd ["self", "rounds", "rests"] (spInit K a C) := by
  refine F.ok sc_init (fun vs H Q E h => ?_) (fun cdv A outer s H vs Q E hr h => ?_)
  · obtain ⟨x, dx, v1, v2, o1, o2, rfl, _⟩ := h
    rfl
  · obtain ⟨x, dx, v1, v2, o1, o2, rfl, hx, h1, k1, h2, k2, bad1, bad2, good⟩ := h
    refine ⟨_, (pss_cons (ps_if (PW.pt (pw_or (pt_not (pt_val (pe_callC c_is_sequence hr pass0 (pa_cons (pv 1) (pa_cons pe_int (pa_cons (pe_constI T.g_DEEDS_MOST) pa_nil)))))) (pw_or1 (pt_cmpR op_notN (pe_callC c_first_not_below hr pass0 (pa_cons (pv 1) (pa_cons (pe_op op_add (pe_constI T.g_ROUND_MOST) pe_int) pa_nil))) pe_non (nomark _)))))
        (pss_one (ps_throw R.Refused rfl hr (takes_of rfl rfl rfl rfl) (pa_cons (pv 1) pa_nil)))
        pss_nil)
      (pss_cons (ps_if (pt_not (pt_val (pe_callC c__are_rests hr pass0 (pa_cons (pv 2) (pa_cons (pe_callB call_len_seq (by rfl) T.z_len PySem.boot_len (pa_cons (pv 1) pa_nil)) pa_nil)))))
        (pss_one (ps_throw R.Refused rfl hr (takes_of rfl rfl rfl rfl) (pa_cons (pv 2) pa_nil)))
        pss_nil)
      (PSs.nox (pss_cons (ps_fld (pv 0) (pe_callTy call_tup (by rfl) T.z_tuple (by decide +kernel) (pa_cons (pv 1) pa_nil)) rfl)
      (pss_one (ps_fld (pv 0) (pe_ifExp (pt_truth (pv 2) (by intro _; rfl)) (pe_callTy call_tup (by rfl) T.z_tuple (by decide +kernel) (pa_cons (pv 2) pa_nil)) (pe_op op_times (pe_tup (pa_cons pe_int pa_nil)) (pe_callB call_len_seq (by rfl) T.z_len PySem.boot_len (pa_cons (pv 1) pa_nil)))) rfl)))))), ?_⟩
    refine ⟨v1, rfl, v1, 1, 4, o1, rfl, h1, fun H1 e1 => ⟨inLen 1 4 o1, rfl, ?_⟩⟩
    cases i1 : inLen 1 4 o1 with
    | false =>
      have r1 : roundsOk o1 = false := by
        cases o1 with
        | none => rfl
        | some xs => rw [roundsOk_some, i1] <;> rfl
      exact iteT ⟨v1, rfl, thrown ((bad1 r1).same e1).at_⟩
    | true =>
      refine iteF ?_
      cases h1 with
      | seq q1 =>
        rename_i b1 xs
        have len : 1 ≤ xs.length ∧ xs.length ≤ 4 := by
          have z := i1
          rw [inLen_some, Bool.and_eq_true] at z
          have := of_decide_eq_true z.1
          have := of_decide_eq_true z.2
          omega
        refine ⟨_, rfl, _, _, rfl, rfl, b1, xs, 61, rfl, q1.same e1, fun x hx => (k1 _ rfl len.2 x hx).same e1, fun H2 e2 => ⟨rfl, !(fnb 61 xs).isNone, ?_, ?_⟩⟩
        · rw [← optV_non]
        · have e12 := e1.trans e2
          cases ef : (fnb 61 xs).isNone with
          | false =>
            have r1 : roundsOk (some xs) = false := by rw [roundsOk_some, i1, ef] <;> rfl
            exact iteT ⟨_, rfl, thrown ((bad1 r1).same e12).at_⟩
          | true =>
            have r1 : roundsOk (some xs) = true := by rw [roundsOk_some, i1, ef] <;> rfl
            refine iteF ?_
            refine ⟨v2, rfl, _, rfl, _, xs, rfl, q1.same e12, v2, xs.length, o2, rfl, len.2, h2.same e12, fun ys q l x hx => (k2 ys q l x hx).same e12, fun H3 e3 => ⟨restsOk xs.length o2, rfl, ?_⟩⟩
            have e13 := e12.trans e3
            cases r2 : restsOk xs.length o2 with
            | false => exact iteT ⟨v2, rfl, thrown ((bad2 xs rfl r1 r2).same e13).at_⟩
            | true =>
              refine iteF ?_
              obtain ⟨rs, rfl, hrs⟩ := fnb_ints (Option.isNone_iff_eq_none.mp ef)
              have q1' := q1.same e13
              have hx' := e13 _ _ hx
              have fin : ∀ (p q : Addr) (es : List Int) (Hz : Hp), Cok rs es → (o2 = some [] ∧ es = List.replicate rs.length 0 ∨ o2 = some (es.map V.int)) → (∀ b o, b ≠ x → H b = some o → Hz b = some o) → SqT K Hz p (rs.map V.int) → SqT K Hz q (es.map V.int) → Hz x = some (.ins C dx [("rounds", .ref p), ("rests", .ref q)]) → Q .non Hz := fun p q es Hz ok2 ho keep hp hq hz =>
                good rs es ok2 rfl ho Hz keep ⟨ok2, dx, p, q, hz, hp, hq⟩
              refine ⟨_, rfl, b1, _, rfl, q1', fun p H4 e4 hp => ?_⟩
              have e14 := e13.trans e4
              refine ⟨_, rfl, x, C, dx, _, rfl, e14 _ _ hx, TC.cl, TC.n1, (by decide), ?_⟩
              have hx4 := e14 _ _ hx
              generalize eH : upd H4 x (.ins C dx (putF "rounds" (.ref p) [])) = H5
              have hx5 : H5 x = some (.ins C dx [("rounds", .ref p)]) := by rw [← eH]; exact upd_same
              have q15 : Sq K H5 b1 (rs.map V.int) := by rw [← eH]; exact sq_ins hx4 (q1.same e14)
              have p5 : SqT K H5 p (rs.map V.int) := by rw [← eH]; exact sqT_ins hx4 hp
              have keep5 : ∀ b o, b ≠ x → H b = some o → H5 b = some o := fun b o ne hb => by rw [← eH, upd_ne ne]; exact e14 _ _ hb
              obtain ⟨b2, ys, rfl, rfl, q2⟩ : ∃ b2 ys, v2 = .ref b2 ∧ o2 = some ys ∧ Sq K H b2 ys := by
                cases h2 with
                | seq q => exact ⟨_, _, rfl, rfl, q⟩
                | _ => cases r2
              have q25 : Sq K H5 b2 ys := by rw [← eH]; exact sq_ins hx4 (q2.same e14)
              have last : ∀ (q : Addr) (es : List Int) (H7 : Hp), Same H5 H7 → SqT K H7 q (es.map V.int) → Cok rs es → (some ys = some [] ∧ es = List.replicate rs.length 0 ∨ some ys = some (es.map V.int)) → Q .non (upd H7 x (.ins C dx (putF "rests" (.ref q) [("rounds", .ref p)]))) := fun q es H7 e7 hq ok2 ho =>
                fin p q es _ ok2 ho (fun b o ne hb => by rw [upd_ne ne]; exact e7 _ _ (keep5 b o ne hb)) (sqT_ins (e7 _ _ hx5) (sqT_same e7 p5)) (sqT_ins (e7 _ _ hx5) hq) upd_same
              have lrs : 1 ≤ rs.length ∧ rs.length ≤ 4 := by rw [List.length_map] at len; exact len
              have brs : ∀ n ∈ rs, 0 ≤ n ∧ n ≤ 60 := fun n hn => ⟨(hrs n hn).1, by have := (hrs n hn).2; omega⟩
              refine ⟨_, rfl, _, tru_sq q25, ?_⟩
              rcases restsOk_true r2 with e | ⟨es, e, le, be⟩
              · cases e
                refine iteF ⟨(by show 1 ≤ sizeLine; decide), fun t ht => ?_⟩
                have e6 := same_new (o := HO.tup [.int 0]) ht
                refine ⟨_, rfl, b1, _, rfl, q15.same e6, ?_⟩
                refine ⟨t, rs.length, [.int 0], rfl, by rw [List.length_map], SqT.of upd_same, (by simp), by omega, (by decide), fun q H7 e7 hq => ?_⟩
                have e57 := e6.trans e7
                refine ⟨_, rfl, x, C, dx, _, rfl, e57 _ _ hx5, TC.cl, TC.n2, (Nat.lt_of_succ_lt (by show 2 < 1000; decide)), ?_⟩
                refine last q (List.replicate rs.length 0) H7 e57 ?_ ⟨lrs.1, lrs.2, List.length_replicate, brs, fun n hn => by rw [List.eq_of_mem_replicate hn]; decide⟩ (.inl ⟨rfl, rfl⟩)
                have e8 : (List.replicate rs.length [V.int 0]).flatten = (List.replicate rs.length (0 : Int)).map V.int := by rw [List.map_replicate, List.flatten_replicate_singleton]
                rw [e8] at hq
                exact hq
              · cases e
                have ne : (!(es.map V.int).isEmpty) = true := by
                  cases es with
                  | nil => simp at le; omega
                  | cons _ _ => rfl
                rw [ne]
                refine iteT ⟨_, rfl, b2, _, rfl, q25, fun q H7 e7 hq => ?_⟩
                refine ⟨_, rfl, x, C, dx, _, rfl, e7 _ _ hx5, TC.cl, TC.n2, (Nat.lt_of_succ_lt (by show 2 < 1000; decide)), ?_⟩
                rw [List.length_map] at le
                exact last q es H7 e7 hq ⟨lrs.1, lrs.2, le, brs, be⟩ (.inr rfl)
      | non => cases i1
      | bl _ => cases i1
      | int _ => cases i1
      | str _ => cases i1
/-- own ==: of other counters, of a tuple -/
def spEqC (K : PySem.W.Frag) (C : Addr) : Sp := fun vs H Q _ => ∃ c rs es d, vs = [.ref c, .ref d] ∧ CnAt K C H c rs es ∧
  ((∃ rs' es', CnAt K C H d rs' es' ∧ ∀ H', Same H H' → Q (.bl (decide (rs = rs' ∧ es = es'))) H') ∨ ((∃ xs, SqT K H d xs) ∧ ∀ H', Same H H' → Q (.bl false) H'))
theorem ty_cn {H : Hp} {c : Addr} {rs es : List Int} (TC : ClsC K mg C) (h : CnAt K C H c rs es) : TyX K H (.ref c) (.ref C) := by
  obtain ⟨_, dx, p, q, e, _⟩ := h
  exact .base (.ins e TC.cl TC.isi.ca TC.isi.cn TC.isi.ct TC.isi.cm)
theorem sc_eq : FnScope ["self", "other"] ["self", "other"] (defScope s_Counters_eq) := ⟨rfl, rfl, rfl, by decide +kernel, rfl, by decide +kernel, by decide +kernel⟩
theorem ok_eq (F : FunD K "__eq__" "Counters.__eq__" (defArgs s_Counters_eq) (defBody s_Counters_eq) (defScope s_Counters_eq) [] [] f fd) (T : Mg mg) (TC : ClsC K mg C) : FnOk P w K mg base CX0 1 f fd ["self", "other"] (spEqC K C) := by
  refine F.ok sc_eq (fun vs H Q E h => ?_) (fun cdv A outer s H vs Q E hr h => ?_)
  · obtain ⟨c, rs, es, d, rfl, _⟩ := h
    rfl
  · obtain ⟨c, rs, es, d, rfl, hc, how⟩ := h
    refine ⟨_, PSs.nox (pss_one (ps_ret (pe_and (pe_callB call_isi (by rfl) T.z_isinstance (by decide +kernel) (pa_cons (pv 1) (pa_cons (pe_glob (v := V.ref C) rfl TC.at_ rfl) pa_nil))) (pe_and (pe_cmpR (op_eqNums (r64 hr)) (pe_fld (pv 0) rfl) (pe_fld (pv 1) rfl) (nomark _)) (pe_one (pe_cmpR (op_eqNums (r64 hr)) (pe_fld (pv 0) rfl) (pe_fld (pv 1) rfl) (nomark _))))))), ?_⟩
    rcases how with ⟨rs', es', hd, k⟩ | ⟨⟨xs, hd⟩, k⟩
    · refine ⟨_, rfl, _, .ref C, _, _, true, rfl, .own C, ty_cn TC hd, TC.yes, true, rfl, iteT ?_⟩
      obtain ⟨_, dx, p, q, c1, c2, c3⟩ := hc
      obtain ⟨_, dx', p', q', d1, d2, d3⟩ := hd
      refine ⟨_, rfl, c, C, dx, _, _, rfl, c1, TC.cl, TC.n1, rfl, _, rfl, d, C, dx', _, _, rfl, d1, TC.cl, TC.n1, rfl, p, p', rs, rs', rfl, rfl, c2, d2, _, rfl, ?_⟩
      have k := k H (Same.refl H)
      refine ite2 (fun h => ?_) (fun h => ?_)
      · have e : rs = rs' := by simpa using h
        refine ⟨_, rfl, c, C, dx, _, _, rfl, c1, TC.cl, TC.n2, rfl, _, rfl, d, C, dx', _, _, rfl, d1, TC.cl, TC.n2, rfl, q, q', es, es', rfl, rfl, c3, d3, ?_⟩
        have e2 : (false != decide (es = es')) = decide (rs = rs' ∧ es = es') := by rw [Bool.false_bne, Bool.eq_iff_iff]; simp [e]
        rw [← e2] at k
        exact k
      · have e : ¬ rs = rs' := by simpa using h
        have e2 : decide (rs = rs' ∧ es = es') = false := decide_eq_false fun z => e z.1
        rw [e2] at k
        exact k
    · exact ⟨_, rfl, _, .ref C, _, _, false, rfl, .own C, tyx_tuple hd, TC.notT, false, rfl, iteF (k H (Same.refl H))⟩
end
end K3
/-! what counters show -/
namespace K3
open PySem PySem.Spec PyProof.Rows L2 Kx
/-- what a counter of round r and rest e shows of n -/
def shows (r e n : Int) : Int := if r = 0 ∨ n < e then n else e + (n - e) % r
def spFinite (K : PySem.W.Frag) (C : Addr) : Sp := fun vs H Q _ => ∃ c rs es, vs = [.ref c] ∧ CnAt K C H c rs es ∧ Q (.bl (decide ((0 : Int) ∉ rs))) H
def spNeedFit (K : PySem.W.Frag) (a : Ad) (C CM : Addr) : Sp := fun vs H Q E => ∃ (m c dx : Addr) (fs : List (Str × V)) (n : Nat) (rs es : List Int), vs = [.ref m, .ref c] ∧ H m = some (.ins CM dx fs) ∧ Cls K CM ∧ NoAttr K CM ("deeds" : Str) ∧ fs.lookup ("deeds" : Str) = some (V.int (n : Int)) ∧ CnAt K C H c rs es ∧
  (rs.length ≠ n → Thrown E H a.cF "at" (.ref c)) ∧ (rs.length = n → Q (.ref c) H)
def spNeedKind (K : PySem.W.Frag) (a : Ad) (C : Addr) : Sp := fun vs H Q E => ∃ c rs es v, vs = [.ref c, v] ∧ CnAt K C H c rs es ∧ Kn K H v ∧ (isBel rs.length v = false → Thrown E H a.cD "deed" v) ∧ (isBel rs.length v = true → Q .non H)
def spShows (K : PySem.W.Frag) (C : Addr) : Sp := fun vs H Q _ => ∃ c rs es, ∃ i : Nat, ∃ n r e : Int, vs = [.ref c, .int (i : Int), .int n] ∧ CnAt K C H c rs es ∧ rs[i]? = some r ∧ es[i]? = some e ∧ Q (.int (shows r e n)) H
def spShownNumber (K : PySem.W.Frag) (a : Ad) (C : Addr) : Sp := fun vs H Q E => ∃ c rs es v m, vs = [.ref c, v, m] ∧ CnAt K C H c rs es ∧ Kn K H v ∧ Kn K H m ∧ (isBel rs.length v = false → Thrown E H a.cD "deed" v) ∧ (isBel rs.length v = true → isNum m = false → Thrown E H a.cF "at" m) ∧
  ∀ (i : Nat) (n r e : Int), v = .int (i : Int) → m = .int n → 0 ≤ n → rs[i]? = some r → es[i]? = some e → Q (.int (shows r e n)) H
def showOf (rs es : List Int) (row : List Int) : List Int := (List.range rs.length).map fun i => shows (rs.getD i 0) (es.getD i 0) (row.count (i : Int) : Nat)
def spShown (K : PySem.W.Frag) (a : Ad) (C : Addr) : Sp := fun vs H Q E => ∃ c rs es b xs, vs = [.ref c, .ref b] ∧ CnAt K C H c rs es ∧ SqD K H b xs ∧ Kns K H (some xs) 400 ∧ (∀ i, rowAt rs.length (some xs) = some i → Thrown E H a.cR "at" (.int i)) ∧
  (∀ row, xs = row.map V.int → rowAt rs.length (some xs) = none → ∀ p H', Same H H' → SqT K H' p ((showOf rs es row).map V.int) → Q (.ref p) H')
def canShow (r e : Int) (v : V) : Bool := if r = 0 then isNum v else isBel (e + r) v
def spCanShow (K : PySem.W.Frag) (C : Addr) : Sp := fun vs H Q _ => ∃ c rs es, ∃ i : Nat, ∃ v r e, vs = [.ref c, .int (i : Int), v] ∧ CnAt K C H c rs es ∧ Kn K H v ∧ rs[i]? = some r ∧ es[i]? = some e ∧ Q (.bl (canShow r e v)) H
section
variable {K : PySem.W.Frag} {C c : Addr} {H : Hp} {rs es : List Int}
theorem op_notIn_nums {xs : List Int} {k : Int} : (!inV (.int k) (xs.map V.int)) = decide (k ∉ xs) := by
  induction xs with
  | nil => rfl
  | cons x xs ih =>
    have e : inV (.int k) ((x :: xs).map V.int) = ((x == k) || inV (.int k) (xs.map V.int)) := rfl
    rw [e, Bool.not_or, ih, Bool.eq_iff_iff, Bool.and_eq_true, decide_eq_true_eq, decide_eq_true_eq, List.mem_cons, not_or, Bool.not_eq_true', beq_eq_false_iff_ne]
    exact ⟨fun ⟨h1, h2⟩ => ⟨fun z => h1 z.symm, h2⟩, fun ⟨h1, h2⟩ => ⟨fun z => h1 z.symm, h2⟩⟩
end
section
variable {P : Program} {w : World} {K : PySem.W.Frag} {mg : Str → Option Value} {base : Heap} {f : Addr} {fd : FuncData} {a : Ad} {C CM : Addr}
theorem sc_is_finite : FnScope ["counters"] ["counters"] (defScope s_is_finite) := ⟨rfl, rfl, rfl, by decide +kernel, rfl, by decide +kernel, by decide +kernel⟩
theorem ok_is_finite (F : FnP K "is_finite" s_is_finite f fd) (T : Mg mg) (TC : ClsC K mg C) : FnOk P w K mg base CX0 1 f fd ["counters"] (spFinite K C) := by
  refine F.ok sc_is_finite (fun vs H Q E h => ?_) (fun cdv A outer s H vs Q E hr h => ?_)
  · obtain ⟨c, rs, es, rfl, _⟩ := h
    rfl
  · obtain ⟨c, rs, es, rfl, ⟨ok, dx, p, q, h1, h2, h3⟩, k⟩ := h
    refine ⟨_, PSs.nox (pss_one (ps_ret (pe_cmpR op_notIn_seq pe_int (pe_fld (pv 0) rfl) (by rfl)))), ?_⟩
    refine ⟨_, rfl, c, C, dx, _, _, rfl, h1, TC.cl, TC.n1, rfl, p, _, rfl, .inr h2, rfl, ?_, ?_⟩
    · rw [List.all_map]
      exact List.all_eq_true.mpr fun x _ => rfl
    · rw [← op_notIn_nums] at k
      exact k
theorem sc_need_fit : FnScope ["machine", "counters"] ["machine", "counters"] (defScope s_need_fit) := ⟨rfl, rfl, rfl, by decide +kernel, rfl, by decide +kernel, by decide +kernel⟩
theorem ok_need_fit (F : FnP K "need_fit" s_need_fit f fd) (T : Mg mg) (R : Er P w K mg base a) (TC : ClsC K mg C) : FnOk P w K mg base (L2.CX P w) 3 f fd ["machine", "counters"] (spNeedFit K a C CM) := by
  refine F.ok sc_need_fit (fun vs H Q E h => ?_) (fun cdv A outer s H vs Q E hr h => ?_)
  · obtain ⟨m, c, dx, fs, n, rs, es, rfl, _⟩ := h
    rfl
  · obtain ⟨m, c, dx, fs, n, rs, es, rfl, hm, cl, na, hd, ⟨ok, dy, p, q, h1, h2, h3⟩, bad, good⟩ := h
    refine ⟨_, (pss_cons (ps_if (pt_cmpR op_ne (pe_callB call_len_seq (by rfl) T.z_len PySem.boot_len (pa_cons (pe_fld (pv 1) rfl) pa_nil)) (pe_fld (pv 0) rfl) (nomark _))
        (pss_one (ps_throw R.Refused rfl hr (takes_of rfl rfl rfl rfl) (pa_cons (pv 1) pa_nil)))
        pss_nil)
      (PSs.nox (pss_one (ps_ret (pv 1))))), ?_⟩
    refine ⟨_, rfl, c, C, dy, _, _, rfl, h1, TC.cl, TC.n1, rfl, p, _, rfl, .inr h2, _, rfl, m, CM, dx, _, _, rfl, hm, cl, na, hd, rfl, _, rfl, ?_⟩
    rw [List.length_map]
    refine ite2 (fun h => ?_) (fun h => ?_)
    · have ne : rs.length ≠ n := fun e => by subst e; simp at h
      exact ⟨_, rfl, thrown (bad ne).at_⟩
    · have e : rs.length = n := by
        simp at h
        omega
      exact ⟨_, rfl, good e⟩
theorem sc_need_kind : FnScope ["counters", "kind"] ["counters", "kind"] (defScope s_need_kind) := ⟨rfl, rfl, rfl, by decide +kernel, rfl, by decide +kernel, by decide +kernel⟩
theorem ok_need_kind (F : FnP K "_need_kind" s_need_kind f fd) (T : Mg mg) (R : Er P w K mg base a) (TC : ClsC K mg C) (c_is_below : Cal P w K mg base CX0 2 "is_below" ["value", "limit"] (spBelow K)) : FnOk P w K mg base (L2.CX P w) 3 f fd ["counters", "kind"] (spNeedKind K a C) := by
  refine F.ok sc_need_kind (fun vs H Q E h => ?_) (fun cdv A outer s H vs Q E hr h => ?_)
  · obtain ⟨c, rs, es, v, rfl, _⟩ := h
    rfl
  · obtain ⟨c, rs, es, v, rfl, ⟨ok, dy, p, q, h1, h2, h3⟩, hv, bad, good⟩ := h
    refine ⟨_, (pss_one (ps_if (pt_not (pt_val (pe_callC c_is_below hr pass0 (pa_cons (pv 1) (pa_cons (pe_callB call_len_seq (by rfl) T.z_len PySem.boot_len (pa_cons (pe_fld (pv 0) rfl) pa_nil)) pa_nil)))))
        (pss_one (KD.ps_throw R.NoDeed R.n_NoDeed rfl hr (takes_of rfl rfl rfl rfl) (pa_cons (pv 1) pa_nil)))
        pss_nil)), ?_⟩
    refine ⟨v, rfl, _, rfl, c, C, dy, _, _, rfl, h1, TC.cl, TC.n1, rfl, p, _, rfl, .inr h2, v, _, rfl, hv, _, rfl, ?_⟩
    rw [List.length_map]
    cases e : isBel rs.length v with
    | false => exact iteT ⟨v, rfl, v, rfl, (bad e).at_⟩
    | true => exact iteF (good e)
theorem sc_shows : FnScope ["counters", "kind", "many", "turn", "rest"] ["counters", "kind", "many"] (defScope s_shows) := ⟨rfl, rfl, rfl, by decide +kernel, rfl, by decide +kernel, by decide +kernel⟩
theorem ok_shows (F : FnP K "_shows" s_shows f fd) (T : Mg mg) (TC : ClsC K mg C) : FnOk P w K mg base CX0 1 f fd ["counters", "kind", "many"] (spShows K C) := by
  refine F.ok sc_shows (fun vs H Q E h => ?_) (fun cdv A outer s H vs Q E hr h => ?_)
  · obtain ⟨c, rs, es, i, n, r, e, rfl, _⟩ := h
    rfl
  · obtain ⟨c, rs, es, i, n, r, e, rfl, ⟨ok, dy, p, q, h1, h2, h3⟩, hr', he, k⟩ := h
    refine ⟨_, PSs.nox (pss_cons (ps_par (i := 3) (j := 4) (by rfl) sc_shows.nd rfl rfl (by decide) rfl rfl (pa_cons (pe_ix ix_tup (pe_fld (pv 0) rfl) (pv 1) (fun _ _ => rfl)) (pa_cons (pe_ix ix_tup (pe_fld (pv 0) rfl) (pv 1) (fun _ _ => rfl)) pa_nil)) (by rfl))
      (pss_cons (ps_if (PW.pt (pw_or (pt_cmpR op_eq (pv 3) pe_int (nomark _)) (pw_or1 (pt_cmpR op_lt (pv 2) (pv 4) (nomark _)))))
        (pss_one (ps_ret (pv 2)))
        pss_nil)
      (pss_one (ps_ret (pe_op op_add (pv 4) (pe_op op_mod (pe_op op_sub (pv 2) (pv 4)) (pv 3))))))), ?_⟩
    have hi : i < rs.length := (List.getElem?_eq_some_iff.mp hr').1
    have hr2 : (rs.map V.int)[i]? = some (.int r) := by rw [List.getElem?_map, hr']; rfl
    have he2 : (es.map V.int)[i]? = some (.int e) := by rw [List.getElem?_map, he]; rfl
    refine ⟨_, rfl, c, C, dy, _, _, rfl, h1, TC.cl, TC.n1, rfl, _, rfl, p, _, _, _, rfl, rfl, h2, atI_nat hr2, _, rfl, c, C, dy, _, _, rfl, h1, TC.cl, TC.n2, rfl, _, rfl, q, _, _, _, rfl, rfl, h3, atI_nat he2, _, _, rfl, ?_⟩
    have br := ok.r r (List.mem_of_getElem? hr')
    refine ⟨_, rfl, rfl, _, rfl, ?_⟩
    refine ite2 (fun h => ?_) (fun h => ?_)
    · have e0 : r = 0 := by simpa using h
      have z : shows r e n = n := if_pos (.inl e0)
      rw [z] at k
      exact ⟨_, rfl, k⟩
    · have n0 : r ≠ 0 := by simpa using h
      refine ⟨_, rfl, _, rfl, _, _, rfl, rfl, _, rfl, ?_⟩
      refine ite2 (fun h => ?_) (fun h => ?_)
      · have z : shows r e n = n := if_pos (.inr (of_decide_eq_true h))
        rw [z] at k
        exact ⟨_, rfl, k⟩
      · have z : shows r e n = e + (n - e) % r := if_neg fun z => z.elim n0 fun z => h (decide_eq_true z)
        rw [z] at k
        exact ⟨_, rfl, _, rfl, _, rfl, _, _, rfl, rfl, _, rfl, _, _, rfl, rfl, (by show (0 : Int) < r; omega), _, _, rfl, rfl, k⟩
end
end K3
/-! comprehensions whose list is known ahead, item by item -/
namespace Kx
open L2 PySem PySem.Spec PyProof.Rows
/-- i items of out are made, at D -/
def Part (H1 : Hp) (D : Addr) (out : List V) (i : Nat) (H : Hp) : Prop := H D = some (.lst (out.take i)) ∧ Same H1 H
section
variable {H1 H H' : Hp} {D : Addr} {out : List V} {i : Nat} {y : V}
theorem Part.zero (hD : H1 D = none) : Part H1 D out 0 (upd H1 D (.lst [])) := ⟨upd_same, same_new hD⟩
theorem Part.step (p : Part H1 D out i H) (hD : H1 D = none) (e : Same H H') (hy : out[i]? = some y) (fits : out.length ≤ sizeLine) :
    ∃ acc, H' D = some (.lst acc) ∧ acc.length < sizeLine ∧ Part H1 D out (i + 1) (upd H' D (.lst (acc ++ [y]))) := by
  have lt := (List.getElem?_eq_some_iff.mp hy).1
  refine ⟨_, e _ _ p.1, by rw [List.length_take]; omega, ?_, fun b o hb => ?_⟩
  · rw [upd_same, List.take_add_one, hy] <;> rfl
  · rw [upd_ne (ne_of_none hb hD)]
    exact e _ _ (p.2 _ _ hb)
theorem Part.done {n : Nat} (p : Part H1 D out n H) (h : out.length ≤ n) : H D = some (.lst out) ∧ Same H1 H := by
  have q := p.1
  rw [List.take_of_length_le h] at q
  exact ⟨q, p.2⟩
end
theorem yes {σ : L2.St} {H : Hp} {Q : Bool → Hp → Prop} (h : Q true H) : tYes σ H Q := h
/-- a comprehension's W by a word of the turn -/
theorem lc_by {J : It} {n : Nat} {g : TG} {tt : TT} {te : TE} {vs : List Nat} {σ : L2.St} {Q : VK} {D : Addr} {H0 : Hp} (Pv : Nat → Hp → Prop) (h0 : Pv 0 H0)
    (go : ∀ i H, i < n → Pv i H → J.go i H ∧ ∀ x H', J.yld i H x H' → g x (wipe σ vs) H' fun σ2 H2 => wipe σ2 vs = wipe σ vs ∧ tt σ2 H2 fun b H3 =>
      if b = true then te σ2 H3 fun y H4 => ∃ acc, H4 D = some (.lst acc) ∧ acc.length < sizeLine ∧ Pv (i + 1) (upd H4 D (.lst (acc ++ [y]))) else Pv (i + 1) H3)
    (stop : ∀ H, Pv n H → J.stop n H ∧ Q (.ref D) H) :
    ∃ W : Nat → Nat → Hp → Prop, (∃ m, W 0 m H0) ∧ ∀ i m H, W i m H → (J.stop i H ∧ Q (.ref D) H) ∨ (J.go i H ∧ ∃ Nx : Hp → Prop, (∀ H', Nx H' → ∃ m', m' < m ∧ W (i + 1) m' H') ∧ ∀ x H', J.yld i H x H' → g x (wipe σ vs) H' fun σ2 H2 => wipe σ2 vs = wipe σ vs ∧ tt σ2 H2 fun b H3 =>
      if b = true then te σ2 H3 (fun y H4 => ∃ acc, H4 D = some (.lst acc) ∧ acc.length < sizeLine ∧ Nx (upd H4 D (.lst (acc ++ [y])))) else Nx H3) := by
  refine ⟨fun i m H => m = n - i ∧ i ≤ n ∧ Pv i H, ⟨n, rfl, Nat.zero_le n, h0⟩, ?_⟩
  rintro i m H ⟨rfl, le, p⟩
  rcases Nat.lt_or_eq_of_le le with lt | rfl
  · obtain ⟨g1, g2⟩ := go i H lt p
    exact .inr ⟨g1, Pv (i + 1), fun H' p' => ⟨n - (i + 1), by omega, rfl, lt, p'⟩, g2⟩
  · exact .inl (stop H p)
/-- the same for any body of the turn -/
theorem turns {J : It} {n : Nat} {Z : Hp → Prop} {H0 : Hp} {B : (Hp → Prop) → V → Hp → Prop} (Pv : Nat → Hp → Prop) (h0 : Pv 0 H0) (go : ∀ i H, i < n → Pv i H → J.go i H ∧ ∀ x H', J.yld i H x H' → B (Pv (i + 1)) x H') (stop : ∀ H, Pv n H → J.stop n H ∧ Z H) :
    ∃ W : Nat → Nat → Hp → Prop, (∃ m, W 0 m H0) ∧ ∀ i m H, W i m H → (J.stop i H ∧ Z H) ∨ (J.go i H ∧ ∃ Nx : Hp → Prop, (∀ H', Nx H' → ∃ m', m' < m ∧ W (i + 1) m' H') ∧ ∀ x H', J.yld i H x H' → B Nx x H') := by
  refine ⟨fun i m H => m = n - i ∧ i ≤ n ∧ Pv i H, ⟨n, rfl, Nat.zero_le n, h0⟩, ?_⟩
  rintro i m H ⟨rfl, le, p⟩
  rcases Nat.lt_or_eq_of_le le with lt | rfl
  · obtain ⟨g1, g2⟩ := go i H lt p
    exact .inr ⟨g1, Pv (i + 1), fun H' p' => ⟨n - (i + 1), by omega, rfl, lt, p'⟩, g2⟩
  · exact .inl (stop H p)
/-- t + u, any tuples -/
def rCatS (K : PySem.W.Frag) : R2 := fun x y H Q => ∃ (a b : Addr) (xs ys : List V), x = .ref a ∧ y = .ref b ∧ SqT K H a xs ∧ SqT K H b ys ∧ xs.length + ys.length ≤ sizeLine ∧ ∀ p H', Same H H' → SqT K H' p (xs ++ ys) → Q (.ref p) H'
theorem op_catS {X : Cx} {K : PySem.W.Frag} (hK : X.K = K := by rfl) : OpR X (binaryOp .Add) (rCatS K) := by
  subst hK
  intro pins st σ H x y v u Q I rx ry h
  obtain ⟨a, b, xs, ys, rfl, rfl, h1, h2, fits, key⟩ := h
  refine op_catA pins st σ H _ _ v u Q I rx ry ⟨a, b, xs, ys, rfl, rfl, h1, h2, fits, fun e => ?_, fun _ e => ?_, fun _ _ p hp => key p _ (same_new hp) (SqT.of upd_same)⟩
  · subst e
    exact key b H (Same.refl H) h2
  · subst e
    exact key a H (Same.refl H) (by rw [List.append_nil]; exact h1)
end Kx
namespace K3
open PySem PySem.Spec PyProof.Rows L2 Kx
theorem Cok.at_ {rs es : List Int} (h : Cok rs es) {i : Nat} (hi : i < rs.length) : rs[i]? = some (rs.getD i 0) ∧ es[i]? = some (es.getD i 0) ∧ 0 ≤ rs.getD i 0 ∧ rs.getD i 0 ≤ 60 ∧ 0 ≤ es.getD i 0 ∧ es.getD i 0 ≤ 6 := by
  have he : i < es.length := by rw [h.le]; exact hi
  have a1 : rs[i]? = some (rs.getD i 0) := by rw [List.getD_eq_getElem?_getD, List.getElem?_eq_getElem hi] <;> rfl
  have a2 : es[i]? = some (es.getD i 0) := by rw [List.getD_eq_getElem?_getD, List.getElem?_eq_getElem he] <;> rfl
  have b1 := h.r _ (List.mem_of_getElem? a1)
  have b2 := h.e _ (List.mem_of_getElem? a2)
  exact ⟨a1, a2, b1.1, b1.2, b2.1, b2.2⟩
theorem showOf_at {rs es row : List Int} {i : Nat} (hi : i < rs.length) : ((showOf rs es row).map V.int)[i]? = some (.int (shows (rs.getD i 0) (es.getD i 0) (row.count (i : Int) : Nat))) := by
  unfold showOf
  rw [List.getElem?_map, List.getElem?_map, List.getElem?_range hi]
  rfl
theorem showOf_length {rs es row : List Int} : (showOf rs es row).length = rs.length := by unfold showOf; rw [List.length_map, List.length_range]
section
variable {P : Program} {w : World} {K : PySem.W.Frag} {mg : Str → Option Value} {base : Heap} {f : Addr} {fd : FuncData} {a : Ad} {C CM : Addr}
theorem sc_shown_number : FnScope ["counters", "kind", "many"] ["counters", "kind", "many"] (defScope s_shown_number) := ⟨rfl, rfl, rfl, by decide +kernel, rfl, by decide +kernel, by decide +kernel⟩
theorem ok_shown_number (F : FnP K "shown_number" s_shown_number f fd) (T : Mg mg) (R : Er P w K mg base a) (c_is_number : Cal P w K mg base CX0 1 "is_number" ["value"] (spNumber K))
    (c__need_kind : Cal P w K mg base (L2.CX P w) 3 "_need_kind" ["counters", "kind"] (spNeedKind K a C)) (c__shows : Cal P w K mg base CX0 1 "_shows" ["counters", "kind", "many"] (spShows K C)) : FnOk P w K mg base (L2.CX P w) 4 f fd ["counters", "kind", "many"] (spShownNumber K a C) := by
  refine F.ok sc_shown_number (fun vs H Q E h => ?_) (fun cdv A outer s H vs Q E hr h => ?_)
  · obtain ⟨c, rs, es, v, m, rfl, _⟩ := h
    rfl
  · obtain ⟨c, rs, es, v, m, rfl, hc, hv, hm, bad1, bad2, good⟩ := h
    refine ⟨_, (pss_cons (ps_expr (pe_callC c__need_kind hr (passes_call (takes_of rfl rfl rfl rfl) (fun _ _ _ _ z => z)) (pa_cons (pv 0) (pa_cons (pv 1) pa_nil))))
      (pss_cons (ps_if (pt_not (pt_val (pe_callC c_is_number hr pass0 (pa_cons (pv 2) pa_nil))))
        (pss_one (ps_throw R.Refused rfl hr (takes_of rfl rfl rfl rfl) (pa_cons (pv 2) pa_nil)))
        pss_nil)
      (pss_one (ps_ret (pe_callC c__shows hr pass0 (pa_cons (pv 0) (pa_cons (pv 1) (pa_cons (pv 2) pa_nil)))))))), ?_⟩
    refine ⟨_, rfl, v, rfl, c, rs, es, v, rfl, hc, hv, bad1, fun hb => ?_⟩
    refine ⟨m, rfl, m, rfl, hm, _, rfl, ?_⟩
    cases e : isNum m with
    | false => exact iteT ⟨m, rfl, thrown (bad2 hb e).at_⟩
    | true =>
      refine iteF ?_
      obtain ⟨n, rfl⟩ : ∃ n, m = .int n := by
        cases m with
        | int n => exact ⟨n, rfl⟩
        | _ => cases e
      have n0 : 0 ≤ n := of_decide_eq_true e
      obtain ⟨i, rfl, hi⟩ : ∃ i : Nat, v = .int (i : Int) ∧ i < rs.length := by
        cases v with
        | int j =>
          have hb : (decide (0 ≤ j) && decide (j < rs.length)) = true := hb
          rw [Bool.and_eq_true, decide_eq_true_eq, decide_eq_true_eq] at hb
          exact ⟨j.toNat, by rw [Int.toNat_of_nonneg hb.1], by omega⟩
        | _ => cases hb
      obtain ⟨a1, a2, _⟩ := hc.ok.at_ hi
      exact ⟨_, rfl, _, rfl, _, rfl, c, rs, es, i, n, _, _, rfl, hc, a1, a2, good i n _ _ rfl rfl n0 a1 a2⟩
/-- what counters show of the numbers ns -/
def showNs (rs es ns : List Int) : List Int := (List.range ns.length).map fun i => shows (rs.getD i 0) (es.getD i 0) (ns.getD i 0)
theorem showNs_length {rs es ns : List Int} : (showNs rs es ns).length = ns.length := by unfold showNs; rw [List.length_map, List.length_range]
theorem showNs_at {rs es ns : List Int} {i : Nat} {n : Int} (h : ns[i]? = some n) : ((showNs rs es ns).map V.int)[i]? = some (.int (shows (rs.getD i 0) (es.getD i 0) n)) := by
  have lt := (List.getElem?_eq_some_iff.mp h).1
  unfold showNs
  rw [List.getElem?_map, List.getElem?_map, List.getElem?_range lt]
  show some (V.int (shows _ _ (ns.getD i 0))) = _
  rw [List.getD_eq_getElem?_getD (l := ns), h]
  rfl
def countsOf (k : Nat) (row : List Int) : List Int := (List.range k).map fun (i : Nat) => ((row.count (i : Int) : Nat) : Int)
theorem countsOf_length {k : Nat} {row : List Int} : (countsOf k row).length = k := by unfold countsOf; rw [List.length_map, List.length_range]
theorem countsOf_at {k i : Nat} {row : List Int} (h : i < k) : (countsOf k row)[i]? = some ((row.count (i : Int) : Nat) : Int) := by
  unfold countsOf
  rw [List.getElem?_map, List.getElem?_range h]
  rfl
theorem showNs_counts {rs es row : List Int} : showNs rs es (countsOf rs.length row) = showOf rs es row := by
  unfold showNs showOf
  rw [countsOf_length]
  refine List.map_congr_left fun i hi => ?_
  rw [List.getD_eq_getElem?_getD (l := countsOf _ _), countsOf_at (List.mem_range.mp hi)]
  rfl
def spShowingOf (K : PySem.W.Frag) (C : Addr) : Sp := fun vs H Q _ => ∃ (c t : Addr) (rs es ns : List Int), vs = [.ref c, .ref t] ∧ CnAt K C H c rs es ∧ Sq K H t (ns.map V.int) ∧ ns.length = rs.length ∧ ∀ r H', Same H H' → SqT K H' r ((showNs rs es ns).map V.int) → Q (.ref r) H'
theorem sc_showing_of : FnScope ["counters", "counts", "kind", "many"] ["counters", "counts"] (defScope s_showing_of) := ⟨rfl, rfl, rfl, by decide +kernel, rfl, by decide +kernel, by decide +kernel⟩
theorem ok_showing_of (F : FnP K "showing_of" s_showing_of f fd) (T : Mg mg) (TC : ClsC K mg C) (c__shows : Cal P w K mg base CX0 1 "_shows" ["counters", "kind", "many"] (spShows K C)) : FnOk P w K mg base CX0 2 f fd ["counters", "counts"] (spShowingOf K C) := by
  refine F.ok sc_showing_of (fun vs H Q E h => ?_) (fun cdv A outer s H vs Q E hr h => ?_)
  · obtain ⟨c, t, rs, es, ns, rfl, _⟩ := h
    rfl
  · obtain ⟨c, t, rs, es, ns, rfl, hc, ht, ln, good⟩ := h
    refine ⟨_, PSs.nox (pss_one (ps_ret (pe_callTy call_tup (by rfl) T.z_tuple (by decide +kernel) (pa_cons (pe_lc (own := [("kind", 2), ("many", 3)]) (g := gTup K 2 (gCons (gName 2) (gCons (gName 3) gNil))) (by rfl) sc_showing_of.nd (pi_pairs (by rfl) T.z_enumerate (pa_cons (pv 1) pa_nil)) (blkOk_by (own := [("kind", 2), ("many", 3)]) (N := ["counters", "counts", "kind", "many"]) (sc := defScope s_showing_of) (by decide +kernel))
        (fun _ _ _ _ _ => pg_tup rfl (pgs_cons (pg_name (i := 2) sc_showing_of.nd rfl (by first | exact Or.inl rfl | exact Or.inr rfl)) (pgs_cons (pg_name (i := 3) sc_showing_of.nd rfl (by first | exact Or.inl rfl | exact Or.inr rfl)) pgs_nil))) (fun _ _ _ _ _ => pts_nil)
        (fun _ _ _ _ _ => pe_callC c__shows hr pass0 (pa_cons (pv 0) (pa_cons (pv 2) (pa_cons (pv 3) pa_nil))))) pa_nil)))), ?_⟩
    have ok := hc.ok
    have l4 := ok.l4
    have fin : ∀ (D : Addr) (H2 : Hp), H D = none → Part H D ((showNs rs es ns).map V.int) ns.length H2 → ∃ p ys, [V.ref D] = [V.ref p] ∧ Sq K H2 p ys ∧ ∀ q H', Same H2 H' → SqT K H' q ys → Q (.ref q) H' := fun D H2 hD pt => by
      obtain ⟨hl, e2⟩ := pt.done (by rw [List.length_map, showNs_length]; exact Nat.le_refl _)
      exact ⟨D, _, rfl, .inl (SqL.of hl), fun r H3 e3 hr3 => good r H3 (e2.trans e3) hr3⟩
    have turn : ∀ (i : Nat) (n : Int) (D : Addr) (H2 H3 : Hp), H D = none → ns[i]? = some n → Part H D ((showNs rs es ns).map V.int) i H2 → Same H2 H3 →
        ∃ (c' : Addr) (rs' es' : List Int) (i' : Nat) (m r e : Int), [V.ref c, V.int (i : Nat), V.int n] = [V.ref c', .int (i' : Int), .int m] ∧ CnAt K C H3 c' rs' es' ∧ rs'[i']? = some r ∧ es'[i']? = some e ∧ (∃ acc, H3 D = some (.lst acc) ∧ acc.length < sizeLine ∧ Part H D ((showNs rs es ns).map V.int) (i + 1) (upd H3 D (.lst (acc ++ [.int (shows r e m)])))) :=
      fun i n D H2 H3 hD hn pt e3 => by
        have lt : i < rs.length := by rw [← ln]; exact (List.getElem?_eq_some_iff.mp hn).1
        obtain ⟨a1, a2, _⟩ := ok.at_ lt
        exact ⟨c, rs, es, i, n, _, _, rfl, (hc.same pt.2).same e3, a1, a2, pt.step hD e3 (showNs_at hn) (by rw [List.length_map, showNs_length, sizeLine_eq]; omega)⟩
    refine ⟨_, rfl, t, ns.map V.int, rfl, ?_⟩
    rcases ht with ht | ht
    · refine .inl ⟨ht, fun D hD => turns (n := ns.length) (Part H D ((showNs rs es ns).map V.int)) (Part.zero hD) ?_ ?_⟩
      · intro i H2 hi pt
        have b1 : (ns.map V.int)[i]? = some (.int (ns.getD i 0)) := by rw [List.getElem?_map, List.getD_eq_getElem?_getD, List.getElem?_eq_getElem hi]; rfl
        have b0 : ns[i]? = some (ns.getD i 0) := by rw [List.getD_eq_getElem?_getD, List.getElem?_eq_getElem hi]; rfl
        have q2 := sqL_same pt.2 ht
        refine ⟨⟨_, _, q2, b1⟩, ?_⟩
        rintro v H3 ⟨p, x, rfl, hp, rfl, hx⟩
        have ex := hx _ q2
        rw [b1] at ex
        cases ex
        refine ⟨p, _, rfl, SqT.of upd_same, rfl, ?_⟩
        refine ⟨_, _, rfl, _, _, rfl, rfl, rfl, yes ((if_pos rfl).mpr ?_)⟩
        exact ⟨_, rfl, _, rfl, _, rfl, turn i _ D H2 _ hD b0 pt (same_new hp)⟩
      · intro H2 pt
        exact ⟨⟨_, sqL_same pt.2 ht, by rw [List.length_map]; exact Nat.le_refl _⟩, fin D H2 hD pt⟩
    · refine .inr ⟨ht, fun D hD => turns (n := ns.length) (Part H D ((showNs rs es ns).map V.int)) (Part.zero hD) ?_ ?_⟩
      · intro i H2 hi pt
        have b1 : (ns.map V.int)[i]? = some (.int (ns.getD i 0)) := by rw [List.getElem?_map, List.getD_eq_getElem?_getD, List.getElem?_eq_getElem hi]; rfl
        have b0 : ns[i]? = some (ns.getD i 0) := by rw [List.getD_eq_getElem?_getD, List.getElem?_eq_getElem hi]; rfl
        have q2 := sqT_same pt.2 ht
        refine ⟨⟨_, _, q2, b1⟩, ?_⟩
        rintro v H3 ⟨p, x, rfl, hp, rfl, hx⟩
        have ex := hx _ q2
        rw [b1] at ex
        cases ex
        refine ⟨p, _, rfl, SqT.of upd_same, rfl, ?_⟩
        refine ⟨_, _, rfl, _, _, rfl, rfl, rfl, yes ((if_pos rfl).mpr ?_)⟩
        exact ⟨_, rfl, _, rfl, _, rfl, turn i _ D H2 _ hD b0 pt (same_new hp)⟩
      · intro H2 pt
        exact ⟨⟨_, sqT_same pt.2 ht, by rw [List.length_map]; exact Nat.le_refl _⟩, fin D H2 hD pt⟩
def spShownOf (K : PySem.W.Frag) (C : Addr) : Sp := fun vs H Q _ => ∃ (c t : Addr) (rs es row : List Int), vs = [.ref c, .ref t] ∧ CnAt K C H c rs es ∧ TupD H t (row.map V.int) ∧ ∀ r H', Same H H' → SqT K H' r ((showOf rs es row).map V.int) → Q (.ref r) H'
theorem sc_shown_of : FnScope ["counters", "deeds", "kind"] ["counters", "deeds"] (defScope s_shown_of) := ⟨rfl, rfl, rfl, by decide +kernel, rfl, by decide +kernel, by decide +kernel⟩
theorem ok_shown_of (F : FnP K "shown_of" s_shown_of f fd) (T : Mg mg) (TC : ClsC K mg C) (c_showing_of : Cal P w K mg base CX0 2 "showing_of" ["counters", "counts"] (spShowingOf K C)) : FnOk P w K mg base CX0 3 f fd ["counters", "deeds"] (spShownOf K C) := by
  refine F.ok sc_shown_of (fun vs H Q E h => ?_) (fun cdv A outer s H vs Q E hr h => ?_)
  · obtain ⟨c, t, rs, es, row, rfl, _⟩ := h
    rfl
  · obtain ⟨c, t, rs, es, row, rfl, hc, ht, good⟩ := h
    refine ⟨_, PSs.nox (pss_one (ps_ret (pe_callC c_showing_of hr pass0 (pa_cons (pv 0) (pa_cons (pe_lc (own := [("kind", 2)]) (by rfl) sc_shown_of.nd (pi_range1 (by rfl) T.z_range (pa_cons (pe_callB call_len_seq (by rfl) T.z_len PySem.boot_len (pa_cons (pe_fld (pv 0) rfl) pa_nil)) pa_nil)) (blkOk_by (own := [("kind", 2)]) (N := ["counters", "deeds", "kind"]) (sc := defScope s_shown_of) (by decide +kernel))
        (fun _ _ _ _ _ => pg_name (i := 2) sc_shown_of.nd rfl (by first | exact Or.inl rfl | exact Or.inr rfl)) (fun _ _ _ _ _ => pts_nil)
        (fun _ _ _ _ _ => pe_count (pv 1) (pa_cons (pv 2) pa_nil))) pa_nil))))), ?_⟩
    obtain ⟨ok, dx, p, q, h1, h2, h3⟩ := id hc
    refine ⟨_, rfl, _, rfl, c, C, dx, _, _, rfl, h1, TC.cl, TC.n1, rfl, p, _, rfl, .inr h2, ?_⟩
    rw [List.length_map]
    have l4 := ok.l4
    refine ⟨_, rfl, by omega, by omega, fun D hD => lc_range (lo := 0) (n := rs.length) (Part H D ((countsOf rs.length row).map V.int)) (Part.zero hD) ?_ ?_⟩
    · intro i H2 hi pt
      refine ⟨rfl, yes ?_⟩
      refine (if_pos rfl).mpr ?_
      refine ⟨_, rfl, t, row, rfl, ht.same pt.2, _, rfl, _, rfl, Same.refl _, ?_⟩
      rw [Int.zero_add]
      exact pt.step hD (Same.refl H2) (by rw [List.getElem?_map, countsOf_at hi]; rfl) (by rw [List.length_map, countsOf_length, sizeLine_eq]; omega)
    · intro H2 pt
      obtain ⟨hl, e2⟩ := pt.done (by rw [List.length_map, countsOf_length]; exact Nat.le_refl _)
      exact ⟨c, D, rs, es, countsOf rs.length row, rfl, hc.same e2, .inl (SqL.of hl), countsOf_length, fun r H3 e3 hr3 => good r H3 (e2.trans e3) (by rw [← showNs_counts]; exact hr3)⟩
theorem sc_shown : FnScope ["counters", "row"] ["counters", "row"] (defScope s_shown) := ⟨rfl, rfl, rfl, by decide +kernel, rfl, by decide +kernel, by decide +kernel⟩
theorem ok_shown (F : FnP K "shown" s_shown f fd) (T : Mg mg) (TC : ClsC K mg C) (c_row_of : Cal P w K mg base (L2.CX P w) 4 "row_of" ["value", "deeds"] (spRowOf K a))
    (c_of : Cal P w K mg base CX0 3 "shown_of" ["counters", "deeds"] (spShownOf K C)) : FnOk P w K mg base (L2.CX P w) 5 f fd ["counters", "row"] (spShown K a C) := by
  refine F.ok sc_shown (fun vs H Q E h => ?_) (fun cdv A outer s H vs Q E hr h => ?_)
  · obtain ⟨c, rs, es, b, xs, rfl, _⟩ := h
    rfl
  · obtain ⟨c, rs, es, b, xs, rfl, hc, hx, kn, bad, good⟩ := h
    refine ⟨_, (pss_one (ps_ret (pe_callC c_of hr pass0 (pa_cons (pv 0) (pa_cons (pe_callC c_row_of hr (passes_call (takes_of rfl rfl rfl rfl) (fun _ _ _ _ z => z)) (pa_cons (pv 1) (pa_cons (pe_callB call_len_seq (by rfl) T.z_len PySem.boot_len (pa_cons (pe_fld (pv 0) rfl) pa_nil)) pa_nil))) pa_nil))))), ?_⟩
    obtain ⟨ok, dx, p, q, h1, h2, h3⟩ := id hc
    refine ⟨_, rfl, _, rfl, _, rfl, c, C, dx, _, _, rfl, h1, TC.cl, TC.n1, rfl, p, _, rfl, .inr h2, ?_⟩
    rw [List.length_map]
    refine ⟨b, xs, rs.length, rfl, hx, kn, bad, fun hrow t H1 e1 ht => ?_⟩
    obtain ⟨row, rfl, hr2⟩ : ∃ row : List Int, xs = row.map V.int ∧ ∀ n ∈ row, 0 ≤ n ∧ n < rs.length := by
      have z := hrow
      by_cases h : xs.length ≤ 400
      · rw [show rowAt rs.length (some xs) = (fnb rs.length xs).map (fun (i : Nat) => (i : Int)) from if_pos h, Option.map_eq_none_iff] at z
        exact fnb_ints z
      · rw [show rowAt rs.length (some xs) = some (-1) from if_neg h] at z
        cases z
    exact ⟨c, t, rs, es, row, rfl, hc.same e1, ht, fun r H3 e3 hr3 => good row rfl hrow r H3 (e1.trans e3) hr3⟩
end
end K3
/-! showings of any value, the showing one deed later -/
namespace K3
open PySem PySem.Spec PyProof.Rows L2 Kx
/-- all items can be shown -/
def AllShow (rs es : List Int) (xs : List V) : Prop := ∀ j x, xs[j]? = some x → canShow (rs.getD j 0) (es.getD j 0) x = true
/-- item i is the first that can't be shown -/
def FirstWrong (rs es : List Int) (xs : List V) (i : Nat) : Prop := (∀ j x, j < i → xs[j]? = some x → canShow (rs.getD j 0) (es.getD j 0) x = true) ∧ ∃ x, xs[i]? = some x ∧ canShow (rs.getD i 0) (es.getD i 0) x = false
/-- what is asked of a value that is to be a showing -/
structure ShowArg (K : PySem.W.Frag) (a : Ad) (H : Hp) (E : XK) (rs es : List Int) (v : V) (o : Option (List V)) : Prop where
  long : Long K H v o
  kn : ∀ xs, o = some xs → xs.length = rs.length → ∀ x ∈ xs, Kn K H x
  far : (o = none ∨ ∃ xs, o = some xs ∧ xs.length ≠ rs.length) → Thrown E H a.cS "at" (.int (-1))
  near : ∀ xs i, o = some xs → xs.length = rs.length → FirstWrong rs es xs i → Thrown E H a.cS "at" (.int (i : Int))
def spCheck (K : PySem.W.Frag) (a : Ad) (C : Addr) : Sp := fun vs H Q E => ∃ c rs es v o, vs = [.ref c, v] ∧ CnAt K C H c rs es ∧ ShowArg K a H E rs es v o ∧
  ∀ xs, o = some xs → xs.length = rs.length → AllShow rs es xs → ∀ p H', Same H H' → SqT K H' p xs → Q (.ref p) H'
def spShownOn (K : PySem.W.Frag) (a : Ad) (C : Addr) : Sp := fun vs H Q E => ∃ c rs es v o d, vs = [.ref c, v, d] ∧ CnAt K C H c rs es ∧ ShowArg K a H E rs es v o ∧ Kn K H d ∧
  ∀ ns : List Int, o = some (ns.map V.int) → ns.length = rs.length → AllShow rs es (ns.map V.int) →
    (isBel rs.length d = false → Thrown E H a.cD "deed" d) ∧ ∀ i : Nat, d = .int (i : Int) → i < rs.length → ∀ p H', Same H H' → SqT K H' p ((ns.set i (shows (rs.getD i 0) (es.getD i 0) (ns.getD i 0 + 1))).map V.int) → Q (.ref p) H'
theorem canShow_int {r e : Int} {v : V} (h : canShow r e v = true) : ∃ n, v = .int n ∧ 0 ≤ n := by
  unfold canShow at h
  by_cases z : r = 0
  · rw [if_pos z] at h
    cases v with
    | int n => exact ⟨n, rfl, of_decide_eq_true h⟩
    | _ => cases h
  · rw [if_neg z] at h
    cases v with
    | int n =>
      have h : (decide (0 ≤ n) && decide (n < e + r)) = true := h
      rw [Bool.and_eq_true] at h
      exact ⟨n, rfl, of_decide_eq_true h.1⟩
    | _ => cases h
theorem all_ints : ∀ {xs : List V}, (∀ (j : Nat) (x : V), xs[j]? = some x → ∃ n, x = V.int n ∧ 0 ≤ n) → ∃ ns : List Int, xs = ns.map V.int ∧ ∀ n ∈ ns, 0 ≤ n
  | [], _ => ⟨[], rfl, fun _ h => nomatch h⟩
  | x :: xs, h => by
    obtain ⟨n, rfl, hn⟩ := h 0 x rfl
    obtain ⟨ns, rfl, hns⟩ := all_ints (xs := xs) fun j y hy => h (j + 1) y (by simpa using hy)
    exact ⟨n :: ns, rfl, fun m hm => (List.mem_cons.mp hm).elim (fun e => e ▸ hn) (hns m)⟩
section
variable {P : Program} {w : World} {K : PySem.W.Frag} {mg : Str → Option Value} {base : Heap} {f : Addr} {fd : FuncData} {a : Ad} {C CM : Addr}
theorem sc_can_show : FnScope ["counters", "kind", "value", "turn"] ["counters", "kind", "value"] (defScope s_can_show) := ⟨rfl, rfl, rfl, by decide +kernel, rfl, by decide +kernel, by decide +kernel⟩
theorem ok_can_show (F : FnP K "_can_show" s_can_show f fd) (T : Mg mg) (TC : ClsC K mg C) (c_is_number : Cal P w K mg base CX0 1 "is_number" ["value"] (spNumber K)) (c_is_below : Cal P w K mg base CX0 2 "is_below" ["value", "limit"] (spBelow K)) :
    FnOk P w K mg base CX0 3 f fd ["counters", "kind", "value"] (spCanShow K C) := by
  refine F.ok sc_can_show (fun vs H Q E h => ?_) (fun cdv A outer s H vs Q E hr h => ?_)
  · obtain ⟨c, rs, es, i, v, r, e, rfl, _⟩ := h
    rfl
  · obtain ⟨c, rs, es, i, v, r, e, rfl, ⟨ok, dx, p, q, h1, h2, h3⟩, hv, hr', he, k⟩ := h
    refine ⟨_, PSs.nox (pss_cons (ps_set (i := 3) sc_can_show.nd rfl (by first | exact Or.inl rfl | exact Or.inr rfl) (pe_ix ix_tup (pe_fld (pv 0) rfl) (pv 1) (fun _ _ => rfl)))
      (pss_cons (ps_if (pt_cmpR op_eq (pv 3) pe_int (nomark _))
        (pss_one (ps_ret (pe_callC c_is_number hr pass0 (pa_cons (pv 2) pa_nil))))
        pss_nil)
      (pss_one (ps_ret (pe_callC c_is_below hr pass0 (pa_cons (pv 2) (pa_cons (pe_op op_add (pe_ix ix_tup (pe_fld (pv 0) rfl) (pv 1) (fun _ _ => rfl)) (pv 3)) pa_nil))))))), ?_⟩
    have hr2 : (rs.map V.int)[i]? = some (.int r) := by rw [List.getElem?_map, hr']; rfl
    have he2 : (es.map V.int)[i]? = some (.int e) := by rw [List.getElem?_map, he]; rfl
    refine ⟨_, rfl, c, C, dx, _, _, rfl, h1, TC.cl, TC.n1, rfl, _, rfl, p, _, _, _, rfl, rfl, h2, atI_nat hr2, ?_⟩
    refine ⟨_, rfl, rfl, _, rfl, ?_⟩
    refine ite2 (fun h => ?_) (fun h => ?_)
    · have z : canShow r e v = isNum v := if_pos (by simpa using h)
      rw [z] at k
      exact ⟨v, rfl, v, rfl, hv, k⟩
    · have z : canShow r e v = isBel (e + r) v := if_neg (by simpa using h)
      rw [z] at k
      exact ⟨v, rfl, _, rfl, c, C, dx, _, _, rfl, h1, TC.cl, TC.n2, rfl, _, rfl, q, _, _, _, rfl, rfl, h3, atI_nat he2, _, rfl, _, _, rfl, rfl, v, _, rfl, hv, k⟩
theorem sc_check : FnScope ["counters", "value", "kinds", "kind", "item"] ["counters", "value"] (defScope s_check_showing) := ⟨rfl, rfl, rfl, by decide +kernel, rfl, by decide +kernel, by decide +kernel⟩
theorem ok_check (F : FnP K "check_showing" s_check_showing f fd) (T : Mg mg) (R : Er P w K mg base a) (TC : ClsC K mg C) (c_is_sequence : Cal P w K mg base CX0 1 "is_sequence" ["value", "least", "most"] (spSeq K))
    (c__can_show : Cal P w K mg base CX0 3 "_can_show" ["counters", "kind", "value"] (spCanShow K C)) : FnOk P w K mg base (L2.CX P w) 4 f fd ["counters", "value"] (spCheck K a C) := by
  refine F.ok sc_check (fun vs H Q E h => ?_) (fun cdv A outer s H vs Q E hr h => ?_)
  · obtain ⟨c, rs, es, v, o, rfl, _⟩ := h
    rfl
  · obtain ⟨c, rs, es, v, o, rfl, hc, sa, good⟩ := h
    obtain ⟨ok, dx, p, q, h1, h2, h3⟩ := id hc
    refine ⟨_, (pss_cons (ps_set (i := 2) sc_check.nd rfl (by first | exact Or.inl rfl | exact Or.inr rfl) (pe_callB call_len_seq (by rfl) T.z_len PySem.boot_len (pa_cons (pe_fld (pv 0) rfl) pa_nil)))
      (pss_cons (ps_if (pt_not (pt_val (pe_callC c_is_sequence hr pass0 (pa_cons (pv 1) (pa_cons (pv 2) (pa_cons (pv 2) pa_nil))))))
        (pss_one (ps_throw R.BadShowing rfl hr (takes_of rfl rfl rfl rfl) (pa_cons (pe_un un_neg pe_int) pa_nil)))
        pss_nil)
      (pss_cons (ps_for (passes_of rfl) rfl (pi_pairs (by rfl) T.z_enumerate (pa_cons (pv 1) pa_nil)) (pg_tup rfl (pgs_cons (pg_name (i := 3) sc_check.nd rfl (by first | exact Or.inl rfl | exact Or.inr rfl)) (pgs_cons (pg_name (i := 4) sc_check.nd rfl (by first | exact Or.inl rfl | exact Or.inr rfl)) pgs_nil)))
        (pss_one (ps_if (pt_not (pt_val (pe_callC c__can_show hr pass0 (pa_cons (pv 0) (pa_cons (pv 3) (pa_cons (pv 4) pa_nil))))))
          (pss_one (ps_throw R.BadShowing rfl hr (takes_of rfl rfl rfl rfl) (pa_cons (pv 3) pa_nil)))
          pss_nil)))
      (pss_one (ps_ret (pe_callTy call_tup (by rfl) T.z_tuple (by decide +kernel) (pa_cons (pv 1) pa_nil))))))), ?_⟩
    refine ⟨_, rfl, c, C, dx, _, _, rfl, h1, TC.cl, TC.n1, rfl, p, _, rfl, .inr h2, ?_⟩
    rw [List.length_map]
    refine ⟨v, rfl, _, rfl, _, rfl, v, _, _, o, rfl, sa.long, fun H1 e1 => ⟨inLen rs.length rs.length o, rfl, ?_⟩⟩
    cases ei : inLen rs.length rs.length o with
    | false =>
      refine iteT ⟨1, rfl, thrown ((sa.far ?_).same e1).at_⟩
      cases o with
      | none => exact .inl rfl
      | some xs =>
        rw [inLen_kk] at ei
        exact .inr ⟨xs, rfl, of_decide_eq_false ei⟩
    | true =>
      refine iteF ?_
      obtain ⟨long, kn, far, near⟩ := sa
      cases long with
      | seq hx =>
        rename_i b xs
        rw [inLen_kk] at ei
        have hl := of_decide_eq_true ei
        refine ⟨_, rfl, b, xs, rfl, for_pairs (hx.same e1) (fun i σ' H' => ∃ x y, σ' = [some (.ref c), some (.ref b), some (.int rs.length), x, y] ∧ Same H H' ∧ Same H1 H' ∧ ∀ j z, j < i → xs[j]? = some z → canShow (rs.getD j 0) (es.getD j 0) z = true) ⟨_, _, rfl, e1, Same.refl _, fun j z hj => absurd hj (Nat.not_lt_zero j)⟩ (fun i σ' H' q => q.elim fun _ q => q.elim fun _ q => q.2.2.1) ?_ ?_⟩
        · rintro i x t σ' H' hx' ⟨_, _, rfl, e, e', hs⟩ ht
          have hi : i < rs.length := by have := (List.getElem?_eq_some_iff.mp hx').1; omega
          obtain ⟨a1, a2, _⟩ := ok.at_ hi
          refine ⟨t, _, rfl, SqT.of upd_same, rfl, ?_⟩
          refine ⟨_, _, rfl, _, _, rfl, rfl, ?_⟩
          have e2 := e.trans (same_new (o := HO.tup [.int (i : Int), x]) ht)
          refine ⟨_, rfl, _, rfl, x, rfl, c, rs, es, i, x, _, _, rfl, hc.same e2, (kn xs rfl hl x (List.mem_of_getElem? hx')).same e2, a1, a2, _, rfl, ?_⟩
          cases eb : canShow (rs.getD i 0) (es.getD i 0) x with
          | false => exact iteT ⟨_, rfl, thrown ((near xs i rfl hl ⟨hs, x, hx', eb⟩).same e2).at_⟩
          | true =>
            refine iteF ⟨_, _, rfl, e2, e'.trans (same_new ht), fun j z hj hz => ?_⟩
            rcases Nat.lt_or_eq_of_le (Nat.le_of_lt_succ hj) with h | rfl
            · exact hs j z h hz
            · rw [hx'] at hz
              cases hz
              exact eb
        · rintro σ' H' ⟨_, _, rfl, e, e', hs⟩
          exact ⟨_, rfl, b, xs, rfl, hx.same e, fun t H4 e4 ht => good xs rfl hl (fun j z hz => hs j z (List.getElem?_eq_some_iff.mp hz).1 hz) t H4 (e.trans e4) ht⟩
      | non => cases ei
      | bl _ => cases ei
      | int _ => cases ei
      | str _ => cases ei
end
end K3
/-! one deed later; how many showings -/
namespace K3
open PySem PySem.Spec PyProof.Rows L2 Kx RZ
def sizesOf (rs es : List Int) : List Int := List.zipWith (· + ·) rs es
def prodOf (xs : List Int) : Int := xs.foldl (· * ·) 1
def spSizes (K : PySem.W.Frag) (a : Ad) (C : Addr) : Sp := fun vs H Q E => ∃ c rs es, vs = [.ref c] ∧ CnAt K C H c rs es ∧ (0 ∈ rs → Thrown E H a.cF "at" (.ref c)) ∧
  (0 ∉ rs → ∀ p H', H p = none → Same H H' → H' p = some (.lst ((sizesOf rs es).map V.int)) → Q (.ref p) H')
def spMany (K : PySem.W.Frag) (a : Ad) (C : Addr) : Sp := fun vs H Q E => ∃ c rs es, vs = [.ref c] ∧ CnAt K C H c rs es ∧ (0 ∈ rs → Thrown E H a.cF "at" (.ref c)) ∧
  (0 ∉ rs → ∀ H', Same H H' → Q (.int (prodOf (sizesOf rs es))) H')
theorem ixN_here {n i : Nat} (h : i < n) : ixN n (i : Int) = some i := by
  unfold ixN
  rw [if_pos (by omega), if_pos (by omega), Int.toNat_natCast]
theorem isBel_some {l : Nat} {v : V} (h : isBel l v = true) : ∃ i : Nat, v = .int (i : Int) ∧ i < l := by
  cases v with
  | int j =>
    have h : (decide (0 ≤ j) && decide (j < l)) = true := h
    rw [Bool.and_eq_true, decide_eq_true_eq, decide_eq_true_eq] at h
    exact ⟨j.toNat, by rw [Int.toNat_of_nonneg h.1], by omega⟩
  | _ => cases h
section
variable {P : Program} {w : World} {K : PySem.W.Frag} {mg : Str → Option Value} {base : Heap} {f : Addr} {fd : FuncData} {a : Ad} {C CM : Addr}
theorem sc_shown_on : FnScope ["counters", "showing", "deed", "items"] ["counters", "showing", "deed"] (defScope s_shown_on) := ⟨rfl, rfl, rfl, by decide +kernel, rfl, by decide +kernel, by decide +kernel⟩
theorem ok_shown_on (F : FnP K "shown_on" s_shown_on f fd) (T : Mg mg) (TC : ClsC K mg C) (c_check_showing : Cal P w K mg base (L2.CX P w) 4 "check_showing" ["counters", "value"] (spCheck K a C))
    (c__need_kind : Cal P w K mg base (L2.CX P w) 3 "_need_kind" ["counters", "kind"] (spNeedKind K a C)) (c__shows : Cal P w K mg base CX0 1 "_shows" ["counters", "kind", "many"] (spShows K C)) : FnOk P w K mg base (L2.CX P w) 5 f fd ["counters", "showing", "deed"] (spShownOn K a C) := by
  refine F.ok sc_shown_on (fun vs H Q E h => ?_) (fun cdv A outer s H vs Q E hr h => ?_)
  · obtain ⟨c, rs, es, v, o, d, rfl, _⟩ := h
    rfl
  · obtain ⟨c, rs, es, v, o, d, rfl, hc, sa, kd, good⟩ := h
    refine ⟨_, (pss_cons (ps_set (i := 3) sc_shown_on.nd rfl (by first | exact Or.inl rfl | exact Or.inr rfl) (pe_callTy call_list_of (by rfl) T.z_list (by decide +kernel) (pa_cons (pe_callC c_check_showing hr (passes_call (takes_of rfl rfl rfl rfl) (fun _ _ _ _ z => z)) (pa_cons (pv 0) (pa_cons (pv 1) pa_nil))) pa_nil)))
      (pss_cons (ps_expr (pe_callC c__need_kind hr (passes_call (takes_of rfl rfl rfl rfl) (fun _ _ _ _ z => z)) (pa_cons (pv 0) (pa_cons (pv 2) pa_nil))))
      (pss_cons (ps_asg (pe_callC c__shows hr pass0 (pa_cons (pv 0) (pa_cons (pv 2) (pa_cons (pe_op op_add (pe_ix ix_list (pv 3) (pv 2) (fun _ _ => rfl)) pe_int) pa_nil)))) (pg_sub (pv 3) (pv 2) set_list))
      (pss_one (ps_ret (pe_callTy call_tup (by rfl) T.z_tuple (by decide +kernel) (pa_cons (pv 3) pa_nil))))))), ?_⟩
    refine ⟨_, rfl, v, rfl, c, rs, es, v, o, rfl, hc, sa, fun xs ho hl all t H1 e1 ht => ?_⟩
    obtain ⟨ns, rfl, hns⟩ := all_ints fun j x hx => canShow_int (all j x hx)
    rw [List.length_map] at hl
    obtain ⟨bad, good⟩ := good ns ho hl all
    refine ⟨t, _, rfl, .inr ht, fun l hl0 => ?_⟩
    have e2 := same_new (o := HO.lst (ns.map V.int)) hl0
    have e12 := e1.trans e2
    refine ⟨_, rfl, d, rfl, c, rs, es, d, rfl, hc.same e12, kd.same e12, fun hb => (bad hb).same e12, fun hb => ?_⟩
    obtain ⟨i, rfl, hi⟩ := isBel_some hb
    obtain ⟨a1, a2, _⟩ := hc.ok.at_ hi
    have hi2 : i < ns.length := by omega
    have hn : (ns.map V.int)[i]? = some (.int (ns.getD i 0)) := by rw [List.getElem?_map, List.getElem?_eq_getElem hi2, List.getD_eq_getElem?_getD, List.getElem?_eq_getElem hi2] <;> rfl
    have hL : upd H1 l (.lst (ns.map V.int)) l = some (.lst (ns.map V.int)) := upd_same
    refine ⟨_, rfl, _, rfl, _, rfl, _, rfl, l, _, _, _, rfl, rfl, SqL.of hL, atI_nat hn, _, _, rfl, rfl, ?_⟩
    refine ⟨c, rs, es, i, _, _, _, rfl, hc.same e12, a1, a2, ?_⟩
    refine ⟨_, rfl, _, rfl, l, _, _, i, rfl, rfl, hL, ?_, ?_⟩
    · exact ixN_here (by rw [List.length_map]; exact hi2)
    · rw [upd_upd]
      refine ⟨_, rfl, l, _, rfl, .inl (SqL.of upd_same), fun r H3 e3 hr3 => ?_⟩
      refine good i rfl hi r H3 (e1.trans ?_) ?_
      · exact fun b o hb => e3 _ _ (by rw [upd_ne (ne_of_none hb hl0)]; exact hb)
      · rw [List.map_set]
        exact hr3
theorem sizes_at {rs es : List Int} {i : Nat} {x y : Int} (hx : rs[i]? = some x) (hy : es[i]? = some y) : (sizesOf rs es)[i]? = some (x + y) := by
  unfold sizesOf
  rw [List.getElem?_zipWith, hx, hy]
theorem sizes_length {rs es : List Int} (h : Cok rs es) : (sizesOf rs es).length = rs.length := by
  unfold sizesOf
  rw [List.length_zipWith, h.le, Nat.min_self]
theorem sc_sizes : FnScope ["counters", "turn", "rest"] ["counters"] (defScope s_sizes) := ⟨rfl, rfl, rfl, by decide +kernel, rfl, by decide +kernel, by decide +kernel⟩
theorem ok_sizes (F : FnP K "_sizes" s_sizes f fd) (T : Mg mg) (R : Er P w K mg base a) (TC : ClsC K mg C) (c_is_finite : Cal P w K mg base CX0 1 "is_finite" ["counters"] (spFinite K C)) : FnOk P w K mg base (L2.CX P w) 3 f fd ["counters"] (spSizes K a C) := by
  refine F.ok sc_sizes (fun vs H Q E h => ?_) (fun cdv A outer s H vs Q E hr h => ?_)
  · obtain ⟨c, rs, es, rfl, _⟩ := h
    rfl
  · obtain ⟨c, rs, es, rfl, hc, bad, good⟩ := h
    refine ⟨_, (pss_cons (ps_if (pt_not (pt_val (pe_callC c_is_finite hr pass0 (pa_cons (pv 0) pa_nil))))
        (pss_one (ps_throw R.Refused rfl hr (takes_of rfl rfl rfl rfl) (pa_cons (pv 0) pa_nil)))
        pss_nil)
      (PSs.nox (pss_one (ps_ret (pe_lc (own := [("turn", 1), ("rest", 2)]) (g := gTup K 2 (gCons (gName 1) (gCons (gName 2) gNil))) (by rfl) sc_sizes.nd (pi_zipA (by rfl) T.z_zip (pa_cons (pe_fld (pv 0) rfl) (pa_cons (pe_fld (pv 0) rfl) pa_nil))) (blkOk_by (own := [("turn", 1), ("rest", 2)]) (N := ["counters", "turn", "rest"]) (sc := defScope s_sizes) (by decide +kernel))
        (fun _ _ _ _ _ => pg_tup rfl (pgs_cons (pg_name (i := 1) sc_sizes.nd rfl (by first | exact Or.inl rfl | exact Or.inr rfl)) (pgs_cons (pg_name (i := 2) sc_sizes.nd rfl (by first | exact Or.inl rfl | exact Or.inr rfl)) pgs_nil))) (fun _ _ _ _ _ => pts_nil) (fun _ _ _ _ _ => pe_op op_add (pv 1) (pv 2))))))), ?_⟩
    obtain ⟨ok, dx, p, q, h1, h2, h3⟩ := id hc
    refine ⟨_, rfl, c, rs, es, rfl, hc, _, rfl, ?_⟩
    by_cases h0 : 0 ∈ rs
    · rw [decide_eq_false (fun z => z h0)]
      exact iteT ⟨_, rfl, thrown (bad h0).at_⟩
    · rw [decide_eq_true h0]
      refine iteF ?_
      refine ⟨_, rfl, c, C, dx, _, _, rfl, h1, TC.cl, TC.n1, rfl, _, rfl, c, C, dx, _, _, rfl, h1, TC.cl, TC.n2, rfl, p, q, _, _, rfl, .inr ⟨h2, h3, fun D hD => lc_by (n := rs.length) (Part H D ((sizesOf rs es).map V.int)) (Part.zero hD) ?_ ?_⟩⟩
      · intro i H2 hi pt
        obtain ⟨a1, a2, _⟩ := ok.at_ hi
        have b1 : (rs.map V.int)[i]? = some (.int (rs.getD i 0)) := by rw [List.getElem?_map, a1]; rfl
        have b2 : (es.map V.int)[i]? = some (.int (es.getD i 0)) := by rw [List.getElem?_map, a2]; rfl
        have q2 := sqT_same pt.2 h2
        have q3 := sqT_same pt.2 h3
        refine ⟨⟨_, _, _, _, q2, q3, b1, b2⟩, ?_⟩
        rintro v H3 ⟨t, x, y, rfl, ht, rfl, hx, hy⟩
        have ex := hx _ q2
        have ey := hy _ q3
        rw [b1] at ex
        rw [b2] at ey
        cases ex
        cases ey
        refine ⟨t, _, rfl, SqT.of upd_same, rfl, ?_⟩
        refine ⟨_, _, rfl, _, _, rfl, rfl, rfl, yes ((if_pos rfl).mpr ?_)⟩
        refine ⟨_, rfl, _, rfl, _, _, rfl, rfl, pt.step hD (same_new ht) ?_ ?_⟩
        · rw [List.getElem?_map, sizes_at a1 a2]
          rfl
        · have := ok.l4
          rw [List.length_map, sizes_length ok, sizeLine_eq]
          omega
      · intro H2 pt
        obtain ⟨hl, e2⟩ := pt.done (by rw [List.length_map, sizes_length ok]; exact Nat.le_refl _)
        refine ⟨⟨_, _, sqT_same e2 h2, sqT_same e2 h3, .inl (by rw [List.length_map]; exact Nat.le_refl _)⟩, good h0 D H2 hD e2 hl⟩
theorem prod_low : ∀ {xs : List Int} {z b : Int}, (∀ x ∈ xs, 1 ≤ x ∧ x ≤ 66) → 0 ≤ z → z ≤ b → 0 ≤ xs.foldl (· * ·) z ∧ xs.foldl (· * ·) z ≤ b * 66 ^ xs.length
  | [], z, b, _, h0, h1 => ⟨h0, by simpa using h1⟩
  | x :: xs, z, b, h, h0, h1 => by
    have hx := h x (List.mem_cons_self ..)
    have := prod_low (xs := xs) (z := z * x) (b := b * 66) (fun y hy => h y (List.mem_cons_of_mem _ hy)) (Int.mul_nonneg h0 (by omega)) (Int.mul_le_mul h1 hx.2 (by omega) (by omega))
    refine ⟨this.1, ?_⟩
    rw [List.length_cons, Int.pow_succ, Int.mul_comm (66 ^ xs.length) 66, ← Int.mul_assoc]
    exact this.2
theorem size_range {rs es : List Int} (ok : Cok rs es) (h0 : (0 : Int) ∉ rs) : ∀ x ∈ sizesOf rs es, 1 ≤ x ∧ x ≤ 66 := fun x hx => by
  obtain ⟨i, hi⟩ := List.getElem?_of_mem hx
  have lt := (List.getElem?_eq_some_iff.mp hi).1
  rw [sizes_length ok] at lt
  obtain ⟨a1, a2, b1, b2, b3, b4⟩ := ok.at_ lt
  rw [sizes_at a1 a2] at hi
  have ne : rs.getD i 0 ≠ 0 := fun z => h0 (by rw [z] at a1; exact List.mem_of_getElem? a1)
  cases hi
  omega
theorem sc_many : FnScope ["counters", "many", "size"] ["counters"] (defScope s_showings_many) := ⟨rfl, rfl, rfl, by decide +kernel, rfl, by decide +kernel, by decide +kernel⟩
theorem ok_many (F : FnP K "showings_many" s_showings_many f fd) (T : Mg mg) (c__sizes : Cal P w K mg base (L2.CX P w) 3 "_sizes" ["counters"] (spSizes K a C)) : FnOk P w K mg base (L2.CX P w) 4 f fd ["counters"] (spMany K a C) := by
  refine F.ok sc_many (fun vs H Q E h => ?_) (fun cdv A outer s H vs Q E hr h => ?_)
  · obtain ⟨c, rs, es, rfl, _⟩ := h
    rfl
  · obtain ⟨c, rs, es, rfl, hc, bad, good⟩ := h
    refine ⟨_, (pss_cons (ps_set (i := 1) sc_many.nd rfl (by first | exact Or.inl rfl | exact Or.inr rfl) pe_int)
      (pss_cons (ps_for (passes_of rfl) rfl (pi_list (pe_callC c__sizes hr (passes_call (takes_of rfl rfl rfl rfl) (fun _ _ _ _ z => z)) (pa_cons (pv 0) pa_nil))) (pg_name (i := 2) sc_many.nd rfl (by first | exact Or.inl rfl | exact Or.inr rfl))
        (pss_one (ps_set (i := 1) sc_many.nd rfl (by first | exact Or.inl rfl | exact Or.inr rfl) (pe_op op_mul (pv 1) (pv 2)))))
      (pss_one (ps_ret (pv 1))))), ?_⟩
    refine ⟨_, rfl, c, rs, es, rfl, hc, bad, fun h0 p H1 hp e1 hl => ?_⟩
    have l4 := hc.ok.l4
    refine ⟨p, rfl, ⟨_, SqL.of hl⟩, for_list (xs := (sizesOf rs es).map V.int) (fun i σ' H' => ∃ y, σ' = [some (.ref c), some (.int (((sizesOf rs es).take i).foldl (· * ·) 1)), y] ∧ H' = H1) ⟨_, rfl, rfl⟩ ?_ ?_ ?_⟩
    · rintro i σ' H' _ ⟨_, _, rfl⟩
      exact SqL.of hl
    · rintro i x σ' H' hx ⟨_, rfl, rfl⟩
      obtain ⟨n, hn, rfl⟩ : ∃ n, (sizesOf rs es)[i]? = some n ∧ x = .int n := by
        rw [List.getElem?_map, Option.map_eq_some_iff] at hx
        obtain ⟨n, h1, h2⟩ := hx
        exact ⟨n, h1, h2.symm⟩
      have hi := (List.getElem?_eq_some_iff.mp hn).1
      rw [sizes_length hc.ok] at hi
      have low := prod_low (xs := (sizesOf rs es).take i) (z := 1) (b := 1) (fun x hx => size_range hc.ok h0 x (List.mem_of_mem_take hx)) (by decide) (by decide)
      have cap : (66 : Int) ^ ((sizesOf rs es).take i).length ≤ 66 ^ 4 := by
        have e : ((sizesOf rs es).take i).length ≤ 4 := by rw [List.length_take]; omega
        have : ((66 : Nat) ^ ((sizesOf rs es).take i).length) ≤ 66 ^ 4 := Nat.pow_le_pow_right (by decide) e
        exact_mod_cast this
      have e : ((sizesOf rs es).take i).foldl (· * ·) 1 * n = ((sizesOf rs es).take (i + 1)).foldl (· * ·) 1 := by rw [List.take_add_one, hn, Option.toList_some, List.foldl_append] <;> rfl
      refine ⟨_, rfl, _, rfl, _, _, rfl, rfl, .inl ⟨by omega, by omega⟩, ?_⟩
      exact ⟨some (.int n), by rw [← e] <;> rfl, rfl⟩
    · rintro σ' H' ⟨_, rfl, rfl⟩
      rw [List.length_map, List.take_length]
      exact ⟨_, rfl, good h0 _ e1⟩
end
end K3
/-! all showings -/
namespace K3
open PySem PySem.Spec PyProof.Rows L2 Kx RZ
/-- rows stand as tuples -/
def Rows (K : PySem.W.Frag) (H : Hp) : List V → List (List Int) → Prop
  | [], [] => True
  | v :: vs, r :: rs => (∃ q, v = .ref q ∧ SqT K H q (r.map V.int)) ∧ Rows K H vs rs
  | _, _ => False
def oneMore (r : List Int) (n : Nat) : List (List Int) := (List.range n).map fun (i : Nat) => r ++ [(i : Int)]
def more (rows : List (List Int)) (n : Nat) : List (List Int) := rows.flatMap fun r => oneMore r n
def rowsOf (sizes : List Int) : List (List Int) := sizes.foldl (fun rows s => more rows s.toNat) [[]]
section
variable {K : PySem.W.Frag} {H H' : Hp} {D : Addr}
theorem Rows.mono (e : ∀ (q : Addr) (r : List Int), SqT K H q (r.map V.int) → SqT K H' q (r.map V.int)) : ∀ {vs : List V} {rs : List (List Int)}, Rows K H vs rs → Rows K H' vs rs
  | [], [], _ => trivial
  | v :: vs, r :: rs, ⟨⟨q, h1, h2⟩, h3⟩ => ⟨⟨q, h1, e q r h2⟩, Rows.mono e h3⟩
  | [], _ :: _, h => h.elim
  | _ :: _, [], h => h.elim
theorem Rows.same (e : Same H H') {vs : List V} {rs : List (List Int)} (h : Rows K H vs rs) : Rows K H' vs rs := Rows.mono (fun _ _ => sqT_same e) h
theorem sqT_lst {u u' : List V} {q : Addr} {xs : List V} (hD : H D = some (.lst u)) (h : SqT K H q xs) : SqT K (upd H D (.lst u')) q xs := by
  refine h.imp (fun h => ?_) id
  rcases h with h | ⟨z, h⟩
  · exact .inl (by rw [upd_ne (ne_of h hD (fun z => nomatch z))]; exact h)
  · exact .inr ⟨z, by rw [upd_ne (ne_of h hD (fun z => nomatch z))]; exact h⟩
theorem Rows.lst {u u' : List V} (hD : H D = some (.lst u)) {vs : List V} {rs : List (List Int)} (h : Rows K H vs rs) : Rows K (upd H D (.lst u')) vs rs := Rows.mono (fun _ _ => sqT_lst hD) h
theorem Rows.length : ∀ {vs : List V} {rs : List (List Int)}, Rows K H vs rs → vs.length = rs.length
  | [], [], _ => rfl
  | _ :: _, _ :: _, ⟨_, h⟩ => congrArg Nat.succ (Rows.length h)
  | [], _ :: _, h => h.elim
  | _ :: _, [], h => h.elim
theorem Rows.snoc {v : V} {r : List Int} {q : Addr} (hv : v = .ref q) (hq : SqT K H q (r.map V.int)) : ∀ {vs : List V} {rs : List (List Int)}, Rows K H vs rs → Rows K H (vs ++ [v]) (rs ++ [r])
  | [], [], _ => ⟨⟨q, hv, hq⟩, trivial⟩
  | _ :: _, _ :: _, ⟨h1, h⟩ => ⟨h1, Rows.snoc hv hq h⟩
  | [], _ :: _, h => h.elim
  | _ :: _, [], h => h.elim
theorem Rows.get : ∀ {vs : List V} {rs : List (List Int)} {i : Nat} {v : V}, Rows K H vs rs → vs[i]? = some v → ∃ q r, v = .ref q ∧ rs[i]? = some r ∧ SqT K H q (r.map V.int)
  | [], [], _, _, _, e => nomatch e
  | _ :: _, r :: _, 0, _, ⟨⟨q, h1, h2⟩, _⟩, e => by
    cases e
    exact ⟨q, r, h1, rfl, h2⟩
  | _ :: _, _ :: _, i + 1, _, ⟨_, h⟩, e => by
    obtain ⟨q, r, h1, h2, h3⟩ := Rows.get (i := i) h (by simpa using e)
    exact ⟨q, r, h1, by simpa using h2, h3⟩
  | [], _ :: _, _, _, h, _ => h.elim
  | _ :: _, [], _, _, h, _ => h.elim
end
theorem oneMore_length {r : List Int} {n : Nat} : (oneMore r n).length = n := by unfold oneMore; rw [List.length_map, List.length_range]
theorem more_length : ∀ {rows : List (List Int)} {n : Nat}, (more rows n).length = rows.length * n
  | [], n => by simp [more]
  | r :: rows, n => by
    have := more_length (rows := rows) (n := n)
    unfold more at this ⊢
    rw [List.flatMap_cons, List.length_append, oneMore_length, this, List.length_cons, Nat.succ_mul, Nat.add_comm]
theorem prods_length : ∀ (sizes : List Int) (rows : List (List Int)) (z : Int), (∀ x ∈ sizes, 1 ≤ x) → (rows.length : Int) = z → ((sizes.foldl (fun rows s => more rows s.toNat) rows).length : Int) = sizes.foldl (· * ·) z
  | [], _, _, _, h => h
  | s :: sizes, rows, z, hs, h => by
    refine prods_length sizes _ _ (fun x hx => hs x (List.mem_cons_of_mem _ hx)) ?_
    have h1 := hs s (List.mem_cons_self ..)
    rw [more_length, Int.natCast_mul, h, Int.toNat_of_nonneg (by omega)]
theorem prods_grow : ∀ (sizes : List Int) (z : Int), (∀ x ∈ sizes, 1 ≤ x) → 0 ≤ z → z ≤ sizes.foldl (· * ·) z
  | [], z, _, _ => Int.le_refl z
  | s :: sizes, z, hs, h => by
    have h1 := hs s (List.mem_cons_self ..)
    have h2 : z * 1 ≤ z * s := Int.mul_le_mul_of_nonneg_left h1 h
    have h3 := prods_grow sizes (z * s) (fun x hx => hs x (List.mem_cons_of_mem _ hx)) (by omega)
    rw [List.foldl_cons]
    omega
theorem more_take {rows : List (List Int)} {n i : Nat} {r : List Int} (h : rows[i]? = some r) : more (rows.take (i + 1)) n = more (rows.take i) n ++ oneMore r n := by
  unfold more
  rw [List.take_add_one, h, Option.toList_some, List.flatMap_append, List.flatMap_cons, List.flatMap_nil, List.append_nil]
theorem oneMore_take {r : List Int} {n j : Nat} (h : j < n) : (oneMore r n).take (j + 1) = (oneMore r n).take j ++ [r ++ [(j : Int)]] := by
  unfold oneMore
  rw [List.take_add_one, List.getElem?_map, List.getElem?_range h] <;> rfl
theorem rows_len : ∀ (sizes : List Int) (rows : List (List Int)) (k : Nat), (∀ r ∈ rows, r.length = k) → ∀ r ∈ sizes.foldl (fun rows s => more rows s.toNat) rows, r.length = k + sizes.length
  | [], _, _, h => h
  | s :: sizes, rows, k, h => by
    have := rows_len sizes (more rows s.toNat) (k + 1) fun r hr => by
      obtain ⟨r', h1, h2⟩ := List.mem_flatMap.mp hr
      obtain ⟨i, _, rfl⟩ := List.mem_map.mp h2
      rw [List.length_append, h r' h1]
      rfl
    intro r hr
    rw [this r hr, List.length_cons]
    omega
def spAll (K : PySem.W.Frag) (a : Ad) (C : Addr) : Sp := fun vs H Q E => ∃ c rs es m, vs = [.ref c, .int m] ∧ CnAt K C H c rs es ∧ m ≤ 20000 ∧ (0 ∈ rs → Thrown E H a.cF "at" (.ref c)) ∧ (0 ∉ rs → m < prodOf (sizesOf rs es) → Thrown E H a.cG "most" (.int m)) ∧
  (0 ∉ rs → prodOf (sizesOf rs es) ≤ m → ∀ p H' vs, Same H H' → SqT K H' p vs → Rows K H' vs (rowsOf (sizesOf rs es)) → Q (.ref p) H')
section
variable {P : Program} {w : World} {K : PySem.W.Frag} {mg : Str → Option Value} {base : Heap} {f : Addr} {fd : FuncData} {a : Ad} {C CM : Addr}
theorem sc_all : FnScope ["counters", "most", "showings", "size", "showing", "item"] ["counters", "most"] (defScope s_all_showings) := ⟨rfl, rfl, rfl, by decide +kernel, rfl, by decide +kernel, by decide +kernel⟩
theorem ok_all (F : FnP K "all_showings" s_all_showings f fd) (T : Mg mg) (R : Er P w K mg base a) (c_showings_many : Cal P w K mg base (L2.CX P w) 4 "showings_many" ["counters"] (spMany K a C)) (c__sizes : Cal P w K mg base (L2.CX P w) 3 "_sizes" ["counters"] (spSizes K a C)) : FnOk P w K mg base (L2.CX P w) 5 f fd ["counters", "most"] (spAll K a C) := by
  refine F.ok sc_all (fun vs H Q E h => ?_) (fun cdv A outer s H vs Q E hr h => ?_)
  · obtain ⟨c, rs, es, m, rfl, _⟩ := h
    rfl
  · obtain ⟨c, rs, es, m, rfl, hc, hm, bad1, bad2, good⟩ := h
    refine ⟨_, (pss_cons (ps_if (pt_cmpR op_gt (pe_callC c_showings_many hr (passes_call (takes_of rfl rfl rfl rfl) (fun _ _ _ _ z => z)) (pa_cons (pv 0) pa_nil)) (pv 1) (nomark _))
        (pss_one (ps_throw R.TooGreat rfl hr (takes_of rfl rfl rfl rfl) (pa_cons (pv 1) pa_nil)))
        pss_nil)
      (pss_cons (ps_set (i := 2) sc_all.nd rfl (by first | exact Or.inl rfl | exact Or.inr rfl) (pe_lst (pa_cons (pe_tup pa_nil) pa_nil)))
      (pss_cons (ps_for (passes_of rfl) rfl (pi_list (pe_callC c__sizes hr (passes_call (takes_of rfl rfl rfl rfl) (fun _ _ _ _ z => z)) (pa_cons (pv 0) pa_nil))) (pg_name (i := 3) sc_all.nd rfl (by first | exact Or.inl rfl | exact Or.inr rfl))
        (PSs.nox (pss_one (ps_setLc2 (i := 2) (vs1 := [5]) (own := [("showing", 4), ("item", 5)]) (by rfl) sc_all.nd rfl rfl (sw_true rfl rfl rfl (by decide +kernel)) (pi_list (pv 2)) (blkOk_by (own := [("showing", 4), ("item", 5)]) (N := ["counters", "most", "showings", "size", "showing", "item"]) (sc := defScope s_all_showings) (by decide +kernel)) (by decide)
          (fun _ _ _ _ _ => pg_name (i := 4) sc_all.nd rfl (by first | exact Or.inl rfl | exact Or.inr rfl)) (fun _ _ _ _ _ => pts_nil)
          (fun _ _ _ _ _ => pi_range1 (by rfl) T.z_range (pa_cons (pv 3) pa_nil))
          (fun _ _ _ _ _ => pg_name (i := 5) sc_all.nd rfl (by first | exact Or.inl rfl | exact Or.inr rfl)) (fun _ _ _ _ _ => pts_nil)
          (fun _ _ _ _ _ => pe_op (op_catS (K := K)) (pv 4) (pe_tup (pa_cons (pv 5) pa_nil)))))))
      (pss_one (ps_ret (pe_callTy call_tup (by rfl) T.z_tuple (by decide +kernel) (pa_cons (pv 2) pa_nil))))))), ?_⟩
    refine ⟨_, rfl, c, rs, es, rfl, hc, bad1, fun h0 H1 e1 => ?_⟩
    generalize hz : sizesOf rs es = sizes at *
    have rng : ∀ x ∈ sizes, 1 ≤ x ∧ x ≤ 66 := by rw [← hz]; exact size_range hc.ok h0
    refine ⟨_, rfl, _, _, rfl, rfl, _, rfl, ?_⟩
    refine ite2 (fun hgt => ?_) (fun hgt => ?_)
    · exact ⟨_, rfl, thrown ((bad2 h0 (by simpa using hgt)).same e1).at_⟩
    · have le : prodOf sizes ≤ m := by simpa using hgt
      refine ⟨Nat.zero_le _, fun t ht => ⟨(by show 1 ≤ sizeLine; decide), fun l hl => ?_⟩⟩
      have e2 : Same H1 (upd (upd H1 t (.tup [])) l (.lst [.ref t])) := (same_new ht).trans (same_new hl)
      have rows0 : Rows K (upd (upd H1 t (.tup [])) l (.lst [.ref t])) [.ref t] [[]] := ⟨⟨t, rfl, sqT_same (same_new hl) (SqT.of upd_same)⟩, trivial⟩
      have hl2 : upd (upd H1 t (.tup [])) l (.lst [.ref t]) l = some (.lst [.ref t]) := upd_same
      generalize upd (upd H1 t (.tup [])) l (.lst [.ref t]) = H2 at e2 rows0 hl2 ⊢
      have e12 := e1.trans e2
      refine ⟨_, rfl, c, rs, es, rfl, hc.same e12, fun z => absurd z h0, fun _ p H3 hp e3 hpl => ?_⟩
      rw [hz] at hpl
      refine ⟨p, rfl, ⟨_, SqL.of hpl⟩, for_list (xs := sizes.map V.int) (fun i σ' H' => ∃ s y vs, σ' = [some (.ref c), some (.int m), some (.ref s), y, none, none] ∧ Same H3 H' ∧ H' s = some (.lst vs) ∧ Rows K H' vs (rowsOf (sizes.take i))) ⟨l, none, _, rfl, Same.refl _, e3 _ _ hl2, rows0.same e3⟩ ?_ ?_ ?_⟩
      · rintro i σ' H' _ ⟨_, _, _, _, e4, _⟩
        exact SqL.of (e4 _ _ hpl)
      · rintro i x σ' H' hx ⟨sa, y, vs, rfl, e4, hs, hrows⟩
        obtain ⟨n, hn, rfl⟩ : ∃ n, sizes[i]? = some n ∧ x = .int n := by
          rw [List.getElem?_map, Option.map_eq_some_iff] at hx
          obtain ⟨n, h1, h2⟩ := hx
          exact ⟨n, h1, h2.symm⟩
        have hn1 := rng n (List.mem_of_getElem? hn)
        generalize hrw : rowsOf (sizes.take i) = rows at hrows
        have next : rowsOf (sizes.take (i + 1)) = more rows n.toNat := by
          unfold rowsOf at hrw ⊢
          rw [List.take_add_one, hn, Option.toList_some, List.foldl_append, hrw] <;> rfl
        have few : rows.length * n.toNat ≤ 20000 := by
          have a1 := prods_length (sizes.take (i + 1)) [[]] 1 (fun x hx => (rng x (List.mem_of_mem_take hx)).1) rfl
          have a2 := prods_grow (sizes.drop (i + 1)) ((sizes.take (i + 1)).foldl (· * ·) 1) (fun x hx => (rng x (List.mem_of_mem_drop hx)).1) (by rw [← a1]; omega)
          rw [← List.foldl_append, List.take_append_drop] at a2
          have a3 : ((rowsOf (sizes.take (i + 1))).length : Int) = (sizes.take (i + 1)).foldl (· * ·) 1 := a1
          rw [next, more_length] at a3
          have : prodOf sizes = sizes.foldl (· * ·) 1 := rfl
          omega
        refine ⟨_, rfl, sa, rfl, ⟨_, SqL.of hs⟩, fun D hD => ?_⟩
        refine turns (n := vs.length) (fun i' H5 => ∃ acc, H5 D = some (.lst acc) ∧ Same H' H5 ∧ Rows K H5 acc (more (rows.take i') n.toNat)) ⟨[], upd_same, same_new hD, trivial⟩ ?_ ?_
        · rintro i' H5 hi' ⟨acc, hD5, e5, hacc⟩
          have hs5 := e5 _ _ hs
          refine ⟨⟨vs, vs[i'], SqL.of hs5, List.getElem?_eq_getElem hi'⟩, ?_⟩
          rintro x H6 ⟨rfl, hx6⟩
          obtain ⟨q, r, rfl, hr6, hq⟩ := hrows.get (hx6 vs (SqL.of hs5))
          refine ⟨rfl, yes ((if_pos rfl).mpr ?_)⟩
          have lv := hrows.length
          have lr : r.length = i := by
            have z := rows_len (sizes.take i) [[]] 0 (fun r hr => by rw [List.mem_singleton.mp hr]; rfl) r (by have := List.mem_of_getElem? hr6; rw [← hrw] at this; exact this)
            have := (List.getElem?_eq_some_iff.mp hn).1
            rw [List.length_take] at z
            omega
          have li : i < 5 := by
            have := (List.getElem?_eq_some_iff.mp hn).1
            have := hc.ok.l4
            rw [← hz, sizes_length hc.ok] at *
            omega
          refine ⟨_, rfl, n, rfl, by omega, by omega, ?_⟩
          refine turns (n := n.toNat) (fun j H7 => ∃ acc, H7 D = some (.lst acc) ∧ Same H' H7 ∧ Rows K H7 acc (more (rows.take i') n.toNat ++ (oneMore r n.toNat).take j)) ⟨acc, hD5, e5, by rw [List.take_zero, List.append_nil]; exact hacc⟩ ?_ ?_
          · rintro j H7 hj ⟨acc, hD7, e7, hacc⟩
            refine ⟨hj, ?_⟩
            rintro x H8 ⟨rfl, rfl⟩
            refine ⟨rfl, yes ((if_pos rfl).mpr ?_)⟩
            refine ⟨_, rfl, _, rfl, (by show 1 ≤ sizeLine; decide), fun t ht => ?_⟩
            have et := same_new (o := HO.tup [.int (0 + (j : Int))]) ht
            refine ⟨q, t, r.map V.int, _, rfl, rfl, sqT_same (e7.trans et) hq, SqT.of upd_same, ?_, fun p H9 e9 hp9 => ?_⟩
            · rw [List.length_map, sizeLine_eq]
              simp only [List.length_nil, List.length_cons]
              omega
            · have e79 := et.trans e9
              have la := hacc.length
              rw [List.length_append, more_length, List.length_take, List.length_take, oneMore_length] at la
              refine ⟨acc, e79 _ _ hD7, ?_, acc ++ [.ref p], upd_same, ?_, ?_⟩
              · have : (min i' rows.length + 1) * n.toNat ≤ rows.length * n.toNat := Nat.mul_le_mul_right _ (by omega)
                rw [Nat.add_mul] at this
                rw [sizeLine_eq]
                omega
              · intro b o hb
                rw [upd_ne (ne_of_none hb hD)]
                exact e79 _ _ (e7 _ _ hb)
              · rw [oneMore_take hj, ← List.append_assoc]
                refine Rows.lst (e79 _ _ hD7) (Rows.snoc rfl ?_ (hacc.same e79))
                rw [Int.zero_add] at hp9
                rw [List.map_append]
                exact hp9
          · rintro H7 ⟨acc, hD7, e7, hacc⟩
            refine ⟨Nat.le_refl _, acc, hD7, e7, ?_⟩
            have whole : (oneMore r n.toNat).take n.toNat = oneMore r n.toNat := List.take_of_length_le (by rw [oneMore_length]; exact Nat.le_refl _)
            rw [whole] at hacc
            rw [more_take hr6]
            exact hacc
        · rintro H5 ⟨acc, hD5, e5, hacc⟩
          have lv := hrows.length
          rw [lv, List.take_length] at hacc
          refine ⟨⟨vs, SqL.of (e5 _ _ hs), Nat.le_refl _⟩, D, _, acc, rfl, e4.trans e5, hD5, ?_⟩
          rw [next]
          exact hacc
      · rintro σ' H' ⟨sa, y, vs, rfl, e4, hs, hrows⟩
        rw [List.length_map, List.take_length] at hrows
        refine ⟨_, rfl, sa, vs, rfl, .inl (SqL.of hs), fun p2 H9 e9 hp9 => ?_⟩
        exact good h0 le p2 H9 vs ((e12.trans e3).trans (e4.trans e9)) hp9 (hrows.same e9)
end
end K3
/-! machines of one state -/
namespace K3
open PySem PySem.Spec PyProof.Rows L2 Kx RZ
def spTable (K : PySem.W.Frag) : Sp := fun vs H Q _ => ∃ b c, vs = [.ref b, .ref c] ∧ Sq K H b [.int 0] ∧ Sq K H c [.int 0] ∧ ∀ H', Same H H' → Q (.bl true) H'
def spMachine (K : PySem.W.Frag) (CM : Addr) : Sp := fun vs H Q _ => ∃ (x dx b q : Addr) (k : Nat), vs = [.ref x, .ref b] ∧ H x = some (.ins CM dx []) ∧ SqL K H b (List.replicate k (.ref q)) ∧ SqT K H q [.int 0] ∧ 1 ≤ k ∧ k ≤ 4 ∧
  ∀ t H', (∀ c o, c ≠ x → H c = some o → H' c = some o) → H' x = some (.ins CM dx [("deeds", .int (k : Int)), ("states", .int 1), ("tables", .ref t)]) → Q .non H'
structure ClsM (K : PySem.W.Frag) (mg : Str → Option Value) (CM : Addr) : Prop where
  at_ : mg "Machine" = some (.ref CM)
  cl : Cls K CM
  n1 : NoAttr K CM "deeds"
  n2 : NoAttr K CM "states"
  n3 : NoAttr K CM "tables"
/-- tuple(t) is t -/
theorem call_tupK {X : Cx} {K : PySem.W.Frag} (hK : X.K = K := by rfl) : CallR X (.type "tuple") (fun xs H Q => ∃ p ys, xs = [.ref p] ∧ SqT K H p ys ∧ Q (.ref p) H) := by
  subst hK
  exact call_tupleT
section
variable {P : Program} {w : World} {K : PySem.W.Frag} {mg : Str → Option Value} {base : Heap} {f : Addr} {fd : FuncData} {a : Ad} {C CM : Addr}
theorem sc_is_table : FnScope ["value", "like"] ["value", "like"] (defScope s_is_table) := ⟨rfl, rfl, rfl, by decide +kernel, rfl, by decide +kernel, by decide +kernel⟩
theorem ok_is_table (F : FnP K "_is_table" s_is_table f fd) (T : Mg mg) (c_is_sequence : Cal P w K mg base CX0 1 "is_sequence" ["value", "least", "most"] (spSeq K)) (c_first_not_below : Cal P w K mg base CX0 3 "first_not_below" ["values", "limit"] (spFnb K)) : FnOk P w K mg base CX0 4 f fd ["value", "like"] (spTable K) := by
  refine F.ok sc_is_table (fun vs H Q E h => ?_) (fun cdv A outer s H vs Q E hr h => ?_)
  · obtain ⟨b, c, rfl, _⟩ := h
    rfl
  · obtain ⟨b, c, rfl, hb, hc, k⟩ := h
    refine ⟨_, PSs.nox (pss_cons (ps_if (pt_not (pt_val (pe_callC c_is_sequence hr pass0 (pa_cons (pv 0) (pa_cons pe_int (pa_cons (pe_constI T.g_STATES_MOST) pa_nil))))))
        (pss_one (ps_ret pe_bl))
        pss_nil)
      (pss_one (ps_ret (pe_and (pe_cmpR op_eq (pe_callB call_len_seq (by rfl) T.z_len PySem.boot_len (pa_cons (pv 0) pa_nil)) (pe_callB call_len_seq (by rfl) T.z_len PySem.boot_len (pa_cons (pv 1) pa_nil)) (nomark _)) (pe_one (pe_cmpR op_isN (pe_callC c_first_not_below hr pass0 (pa_cons (pv 0) (pa_cons (pe_callB call_len_seq (by rfl) T.z_len PySem.boot_len (pa_cons (pv 0) pa_nil)) pa_nil))) pe_non (nomark _))))))), ?_⟩
    refine ⟨_, rfl, _, 1, 8, _, rfl, .seq hb, fun H1 e1 => ⟨true, rfl, iteF ?_⟩⟩
    refine ⟨_, rfl, b, _, rfl, hb.same e1, _, rfl, c, _, rfl, hc.same e1, rfl, true, rfl, iteT ?_⟩
    refine ⟨_, rfl, _, rfl, b, _, rfl, hb.same e1, b, _, 1, rfl, hb.same e1, fun x hx => ?_, fun H2 e2 => ⟨rfl, ?_⟩⟩
    · rw [List.mem_singleton.mp hx]
      exact .int 0
    · exact k H2 (e1.trans e2)
theorem sc_machine : FnScope ["self", "tables", "at", "table"] ["self", "tables"] (defScope s_Machine_init) := ⟨rfl, rfl, rfl, by decide +kernel, rfl, by decide +kernel, by decide +kernel⟩
theorem ok_machine (F : FunD K "__init__" "Machine.__init__" (defArgs s_Machine_init) (defBody s_Machine_init) (defScope s_Machine_init) [] [] f fd) (T : Mg mg) (TM : ClsM K mg CM)
    (c_is_sequence : Cal P w K mg base CX0 1 "is_sequence" ["value", "least", "most"] (spSeq K)) (c__is_table : Cal P w K mg base CX0 4 "_is_table" ["value", "like"] (spTable K)) : FnOk P w K mg base CX0 5 f fd ["self", "tables"] (spMachine K CM) := by
  refine F.ok sc_machine (fun vs H Q E h => ?_) (fun cdv A outer s H vs Q E hr h => ?_)
  · obtain ⟨x, dx, b, q, k, rfl, _⟩ := h
    rfl
  · obtain ⟨x, dx, b, q, k, rfl, hx, hb, hq, k1, k4, good⟩ := h
    refine ⟨_, PSs.nox (pss_cons (ps_if (pt_not (pt_val (pe_callC c_is_sequence hr pass0 (pa_cons (pv 1) (pa_cons pe_int (pa_cons (pe_constI T.g_DEEDS_MOST) pa_nil))))))
        (pss_one ps_never)
        pss_nil)
      (pss_cons (ps_for PassesOwn.never rfl (pi_pairs (by rfl) T.z_enumerate (pa_cons (pv 1) pa_nil)) (pg_tup rfl (pgs_cons (pg_name (i := 2) sc_machine.nd rfl (by first | exact Or.inl rfl | exact Or.inr rfl)) (pgs_cons (pg_name (i := 3) sc_machine.nd rfl (by first | exact Or.inl rfl | exact Or.inr rfl)) pgs_nil)))
        (pss_one (ps_if (pt_not (pt_val (pe_callC c__is_table hr pass0 (pa_cons (pv 3) (pa_cons (pe_ix ix_list (pv 1) pe_int (fun _ _ => rfl)) pa_nil)))))
          (pss_one ps_never)
          pss_nil)))
      (pss_cons (ps_fld (pv 0) (pe_callB call_len_seq (by rfl) T.z_len PySem.boot_len (pa_cons (pv 1) pa_nil)) rfl)
      (pss_cons (ps_fld (pv 0) (pe_callB call_len_seq (by rfl) T.z_len PySem.boot_len (pa_cons (pe_ix ix_list (pv 1) pe_int (fun _ _ => rfl)) pa_nil)) rfl)
      (pss_one (ps_fld (pv 0) (pe_callTy call_tup (by rfl) T.z_tuple (by decide +kernel) (pa_cons (pe_lc (own := [("table", 3)]) (by rfl) sc_machine.nd (pi_list (pv 1)) (blkOk_by (own := [("table", 3)]) (N := ["self", "tables", "at", "table"]) (sc := defScope s_Machine_init) (by decide +kernel))
        (fun _ _ _ _ _ => pg_name (i := 3) sc_machine.nd rfl (by first | exact Or.inl rfl | exact Or.inr rfl)) (fun _ _ _ _ _ => pts_nil) (fun _ _ _ _ _ => pe_callTy (call_tupK (K := K)) (by rfl) T.z_tuple bt_tuple (pa_cons (pv 3) pa_nil))) pa_nil)) rfl)))))), ?_⟩
    have kk : inLen 1 4 (some (List.replicate k (V.ref q))) = true := by
      rw [inLen_some, List.length_replicate, decide_eq_true (by omega), decide_eq_true (by omega)]
      rfl
    have r0 : (List.replicate k (V.ref q))[0]? = some (.ref q) := by rw [List.getElem?_replicate, if_pos (by omega)]
    refine ⟨_, rfl, _, 1, 4, _, rfl, .seq (.inl hb), fun H1 e1 => ⟨true, by rw [← kk], iteF ?_⟩⟩
    refine ⟨_, rfl, b, _, rfl, for_pairs (.inl (sqL_same e1 hb)) (fun i σ' H' => ∃ y z, σ' = [some (.ref x), some (.ref b), y, z] ∧ Same H H' ∧ Same H1 H') ⟨_, _, rfl, e1, Same.refl _⟩ (fun i σ' H' q => q.elim fun _ q => q.elim fun _ q => q.2.2) ?_ ?_⟩
    · rintro i y t σ' H' hy ⟨_, _, rfl, e, e'⟩ ht
      have ey : y = .ref q := List.eq_of_mem_replicate (List.mem_of_getElem? hy)
      subst ey
      refine ⟨t, _, rfl, SqT.of upd_same, rfl, ?_⟩
      refine ⟨_, _, rfl, _, _, rfl, rfl, ?_⟩
      have e2 := e.trans (same_new (o := HO.tup [.int (i : Int), .ref q]) ht)
      refine ⟨_, rfl, _, rfl, b, _, 0, _, rfl, rfl, sqL_same e2 hb, atI_nat r0, q, q, rfl, .inr (sqT_same e2 hq), .inr (sqT_same e2 hq), fun H3 e3 => ⟨true, rfl, iteF ⟨_, _, rfl, e2.trans e3, (e'.trans (same_new ht)).trans e3⟩⟩⟩
    · rintro σ' H' ⟨_, _, rfl, e, e'⟩
      have hx1 := e _ _ hx
      have hb1 := sqL_same e hb
      have hq1 := sqT_same e hq
      refine ⟨_, rfl, b, _, rfl, .inl hb1, _, rfl, x, CM, dx, _, rfl, hx1, TM.cl, TM.n1, (by decide), ?_⟩
      rw [List.length_replicate]
      generalize hH2 : upd H' x (.ins CM dx (putF "deeds" (.int (k : Int)) [])) = H2
      have hx2 : H2 x = some (.ins CM dx [("deeds", .int (k : Int))]) := by rw [← hH2]; exact upd_same
      have hb2 : SqL K H2 b (List.replicate k (.ref q)) := by rw [← hH2]; exact sqL_ins hx1 hb1
      have hq2 : SqT K H2 q [.int 0] := by rw [← hH2]; exact sqT_ins hx1 hq1
      have keep2 : ∀ c o, c ≠ x → H c = some o → H2 c = some o := fun c o ne hc => by rw [← hH2, upd_ne ne]; exact e _ _ hc
      refine ⟨_, rfl, b, _, 0, _, rfl, rfl, hb2, atI_nat r0, q, _, rfl, .inr hq2, _, rfl, x, CM, dx, _, rfl, hx2, TM.cl, TM.n2, (Nat.lt_of_succ_lt (by show 2 < 1000; decide)), ?_⟩
      generalize hH3 : upd H2 x (.ins CM dx (putF "states" (.int (([V.int 0] : List V).length : Nat)) [("deeds", .int (k : Int))])) = H3
      have hx3 : H3 x = some (.ins CM dx [("deeds", .int (k : Int)), ("states", .int 1)]) := by rw [← hH3]; exact upd_same
      have hb3 : SqL K H3 b (List.replicate k (.ref q)) := by rw [← hH3]; exact sqL_ins hx2 hb2
      have hq3 : SqT K H3 q [.int 0] := by rw [← hH3]; exact sqT_ins hx2 hq2
      have keep3 : ∀ c o, c ≠ x → H c = some o → H3 c = some o := fun c o ne hc => by rw [← hH3, upd_ne ne]; exact keep2 _ _ ne hc
      refine ⟨_, rfl, b, rfl, ⟨_, hb3⟩, fun D hD => lc_list (xs := List.replicate k (V.ref q)) (Part H3 D (List.replicate k (V.ref q))) (Part.zero hD) (fun i H4 _ p => sqL_same p.2 hb3) ?_ ?_⟩
      · intro i y H4 hy p
        have ey : y = .ref q := List.eq_of_mem_replicate (List.mem_of_getElem? hy)
        refine ⟨rfl, yes ((if_pos rfl).mpr ?_)⟩
        subst ey
        exact ⟨_, rfl, q, _, rfl, sqT_same p.2 hq3, p.step hD (Same.refl H4) hy (by rw [List.length_replicate, sizeLine_eq]; omega)⟩
      · intro H4 p
        obtain ⟨hl, e4⟩ := p.done (Nat.le_refl _)
        refine ⟨D, _, rfl, .inl (SqL.of hl), fun t H5 e5 ht => ?_⟩
        have hx5 := e5 _ _ (e4 _ _ hx3)
        refine ⟨_, rfl, x, CM, dx, _, rfl, hx5, TM.cl, TM.n3, (Nat.lt_of_succ_lt (by show 3 < 1000; decide)), ?_⟩
        exact good t _ (fun c o ne hc => by rw [upd_ne ne]; exact e5 _ _ (e4 _ _ (keep3 _ _ ne hc))) upd_same
end
end K3
/-! the law's draws -/
namespace K3
open PySem PySem.Spec PyProof.Rows L2 Kx RZ
/-- a source of draws -/
def bx (t : Int × Int × Int) : HO := .lst [.int t.1, .int t.2.1, .int t.2.2]
/-- from H to H' only the source at b has moved, things were made -/
def Mv (b : Addr) (H H' : Hp) : Prop := (∀ c o, c ≠ b → H c = some o → H' c = some o) ∧ ∃ t, H' b = some (bx t)
theorem Mv.refl {b : Addr} {H : Hp} {t : Int × Int × Int} (h : H b = some (bx t)) : Mv b H H := ⟨fun _ _ _ h => h, t, h⟩
theorem Mv.trans {b : Addr} {H H1 H2 : Hp} (h : Mv b H H1) (g : Mv b H1 H2) : Mv b H H2 := ⟨fun c o ne q => g.1 c o ne (h.1 c o ne q), g.2⟩
theorem Mv.same {b : Addr} {H H1 H2 : Hp} (h : Mv b H H1) (g : Same H1 H2) : Mv b H H2 := ⟨fun c o ne q => g c o (h.1 c o ne q), h.2.elim fun t q => ⟨t, g _ _ q⟩⟩
theorem Mv.upd {b : Addr} {H : Hp} (t : Int × Int × Int) : Mv b H (L2.upd H b (bx t)) := ⟨fun c o ne q => by rw [upd_ne ne]; exact q, t, upd_same⟩
section
variable {K : PySem.W.Frag} {b a : Addr} {H H' : Hp} {t : Int × Int × Int} {xs : List V}
theorem Mv.rd {u : HO} (m : Mv b H H') (hb : H b = some (bx t)) (n1 : ∀ ys, u ≠ .lst ys) (h : Rd H a u) : Rd H' a u := by
  rcases h with h | ⟨z, h⟩
  · exact .inl (m.1 _ _ (ne_of h hb (n1 _)) h)
  · exact .inr ⟨z, m.1 _ _ (ne_of h hb (fun z => nomatch z)) h⟩
theorem Mv.sqT (m : Mv b H H') (hb : H b = some (bx t)) (h : SqT K H a xs) : SqT K H' a xs := h.imp (m.rd hb fun _ z => nomatch z) id
theorem Mv.sqL (m : Mv b H H') (ne : a ≠ b) (h : SqL K H a xs) : SqL K H' a xs := h.imp (fun h => h.elim (fun h => .inl (m.1 _ _ ne h)) fun ⟨z, h⟩ => .inr ⟨z, m.1 _ _ ne h⟩) id
theorem Mv.tupD (m : Mv b H H') (hb : H b = some (bx t)) (h : TupD H a xs) : TupD H' a xs := h.elim fun o h => ⟨o, m.1 _ _ (ne_of h.1 hb (fun z => nomatch z)) h.1, h.2⟩
theorem Mv.cn {C c : Addr} {rs es : List Int} (m : Mv b H H') (hb : H b = some (bx t)) (h : CnAt K C H c rs es) : CnAt K C H' c rs es := by
  obtain ⟨ok, dx, p, q, h1, h2, h3⟩ := h
  exact ⟨ok, dx, p, q, m.1 _ _ (ne_of h1 hb (fun z => nomatch z)) h1, m.sqT hb h2, m.sqT hb h3⟩
end
def spTake : Sp := fun vs H Q _ => ∃ (b : Addr) (t : Int × Int × Int) (many : Int), vs = [.ref b, .int many] ∧ H b = some (bx t) ∧ 0 < many ∧ many < 1073741824 ∧
  ∀ (r : Int) (H' : Hp), 0 ≤ r → r < many → Mv b H H' → Q (.int r) H'
def spPick (K : PySem.W.Frag) : Sp := fun vs H Q _ => ∃ (b a : Addr) (t : Int × Int × Int) (xs : List V), vs = [.ref b, .ref a] ∧ H b = some (bx t) ∧ a ≠ b ∧ SqL K H a xs ∧ 0 < xs.length ∧ xs.length < 1073741824 ∧
  ∀ (v : V) (H' : Hp), v ∈ xs → Mv b H H' → Q v H'
def spBox (K : PySem.W.Frag) : Sp := fun vs H Q _ => ∃ (a : Addr) (ns : List Int) (k : Nat), vs = [.ref a, .int (k : Int)] ∧ SqL K H a (ns.map V.int) ∧ ns.length ≤ 63 ∧
  ∀ (H' : Hp) (b : Addr) (t : Int × Int × Int), Same H H' → H b = none → H' b = some (bx t) → Q (.ref b) H'
section
variable {P : Program} {w : World} {K : PySem.W.Frag} {mg : Str → Option Value} {base : Heap} {f : Addr} {fd : FuncData} {a : Ad} {C CM : Addr}
theorem sc_law_take : FnScope ["box", "many", "digit", "raw"] ["box", "many"] (defScope s_law_take) := ⟨rfl, rfl, rfl, by decide +kernel, rfl, by decide +kernel, by decide +kernel⟩
theorem ok_take (F : FnP K "_law_take" s_law_take f fd) (T : Mg mg) : FnOk P w K mg base CX0 1 f fd ["box", "many"] spTake := by
  refine F.ok sc_law_take (fun vs H Q E h => ?_) (fun cdv A outer s H vs Q E hr h => ?_)
  · obtain ⟨b, t, many, rfl, _⟩ := h
    rfl
  · obtain ⟨b, ⟨x, y, z⟩, many, rfl, hb, h0, h1, k⟩ := h
    refine ⟨_, PSs.nox (pss_cons (ps_if (pt_cmpR op_gt (pe_ix ix_list (pv 0) pe_int (fun _ _ => rfl)) pe_int (nomark _))
        (pss_cons (ps_set (i := 2) sc_law_take.nd rfl (by first | exact Or.inl rfl | exact Or.inr rfl) (pe_op op_mod (pe_callTy call_int1 (by rfl) T.z_int (by decide +kernel) (pa_cons (pe_ix ix_list (pv 0) pe_int (fun _ _ => rfl)) pa_nil)) (pv 1)))
        (pss_cons (ps_asg (pe_op op_fdivN (pe_ix ix_list (pv 0) pe_int (fun _ _ => rfl)) (pv 1)) (pg_sub (pv 0) pe_int set_list))
        (pss_one (ps_ret (pv 2)))))
        pss_nil)
      (pss_cons (ps_asg (pe_op op_add (pe_ix ix_list (pv 0) pe_int (fun _ _ => rfl)) pe_int) (pg_sub (pv 0) pe_int set_list))
      (pss_cons (ps_set (i := 3) sc_law_take.nd rfl (by first | exact Or.inl rfl | exact Or.inr rfl) (pe_op op_mod (pe_callTy call_int1 (by rfl) T.z_int (by decide +kernel) (pa_cons (pe_op op_add (pe_op op_mul (pe_op op_add (pe_ix ix_list (pv 0) pe_int (fun _ _ => rfl)) (pe_op op_mul pe_int (pe_ix ix_list (pv 0) pe_int (fun _ _ => rfl)))) pe_int) pe_int) pa_nil)) pe_int))
      (pss_cons (ps_asg (pe_op op_add (pe_op op_mod (pe_callTy call_int1 (by rfl) T.z_int (by decide +kernel) (pa_cons (pe_op op_add (pe_op op_mul (pv 3) pe_int) pe_int) pa_nil)) pe_int) pe_int) (pg_sub (pv 0) pe_int set_list))
      (pss_one (ps_ret (pe_op op_mod (pe_callTy call_int1 (by rfl) T.z_int (by decide +kernel) (pa_cons (pe_op op_fdiv (pe_op op_add (pe_op op_mul (pv 3) pe_int) (pe_ix ix_list (pv 0) pe_int (fun _ _ => rfl))) pe_int) pa_nil)) (pv 1)))))))), ?_⟩
    refine ⟨_, rfl, b, _, 0, _, rfl, rfl, SqL.of hb, rfl, _, _, rfl, rfl, _, rfl, ?_⟩
    refine ite2 (fun hx => ?_) (fun hx => ?_)
    · refine ⟨_, rfl, b, _, 0, _, rfl, rfl, SqL.of hb, rfl, .inl ⟨_, rfl, _, rfl, _, _, rfl, rfl, h0, ?_⟩⟩
      refine ⟨_, rfl, b, _, 0, _, rfl, rfl, SqL.of hb, rfl, _, rfl, _, _, rfl, rfl, ⟨by omega, by omega⟩, ?_⟩
      refine ⟨_, rfl, b, _, 0, 0, rfl, rfl, hb, rfl, ?_⟩
      exact ⟨_, rfl, k _ _ (Int.emod_nonneg _ (by omega)) (Int.emod_lt_of_pos _ h0) (Mv.upd (x.fdiv many, y, z))⟩
    · refine ⟨_, rfl, b, _, 2, _, rfl, rfl, SqL.of hb, rfl, _, _, rfl, rfl, ?_⟩
      refine ⟨_, rfl, b, _, 2, 2, rfl, rfl, hb, rfl, ?_⟩
      have e1 : L2.upd H b (.lst (([V.int x, V.int y, V.int z] : List V).set 2 (V.int (z + 1)))) b = some (.lst [V.int x, V.int y, V.int (z + 1)]) := upd_same
      refine ⟨_, rfl, b, _, 1, _, rfl, rfl, SqL.of e1, rfl, ?_⟩
      refine ⟨_, rfl, b, _, 2, _, rfl, rfl, SqL.of e1, rfl, _, _, rfl, rfl, .inl ⟨by decide, by decide⟩, _, _, rfl, rfl, _, _, rfl, rfl, .inr ⟨by decide, by decide⟩, _, _, rfl, rfl, ?_⟩
      refine .inl ⟨_, rfl, _, _, rfl, rfl, (by show (0 : Int) < 2147483423; decide), ?_⟩
      generalize hraw : ((y + 66029 * (z + 1)) * 55249 + 67) % 2147483423 = raw
      refine ⟨_, rfl, _, _, rfl, rfl, .inr ⟨by decide, by decide⟩, _, _, rfl, rfl, .inl ⟨_, rfl, _, _, rfl, rfl, (by show (0 : Int) < 2147483477; decide), _, _, rfl, rfl, ?_⟩⟩
      refine ⟨_, rfl, b, _, 1, 1, rfl, rfl, e1, rfl, ?_⟩
      rw [upd_upd]
      refine ⟨_, rfl, _, _, rfl, rfl, .inr ⟨by decide, by decide⟩, ?_⟩
      refine ⟨_, rfl, b, _, 1, _, rfl, rfl, SqL.of upd_same, rfl, _, _, rfl, rfl, _, _, rfl, rfl, ⟨by decide, by decide⟩, .inl ⟨_, rfl, _, rfl, _, _, rfl, rfl, h0, ?_⟩⟩
      exact k _ _ (Int.emod_nonneg _ (by omega)) (Int.emod_lt_of_pos _ h0) (Mv.upd (x, _, z + 1))
theorem sc_law_pick : FnScope ["box", "some"] ["box", "some"] (defScope s_law_pick) := ⟨rfl, rfl, rfl, by decide +kernel, rfl, by decide +kernel, by decide +kernel⟩
theorem ok_pick (F : FnP K "_law_pick" s_law_pick f fd) (T : Mg mg) (c__law_take : Cal P w K mg base CX0 1 "_law_take" ["box", "many"] spTake) : FnOk P w K mg base CX0 2 f fd ["box", "some"] (spPick K) := by
  refine F.ok sc_law_pick (fun vs H Q E h => ?_) (fun cdv A outer s H vs Q E hr h => ?_)
  · obtain ⟨b, a, t, xs, rfl, _⟩ := h
    rfl
  · obtain ⟨b, a, t, xs, rfl, hb, ne, hs, h0, h1, k⟩ := h
    refine ⟨_, PSs.nox (pss_one (ps_ret (pe_ix ix_list (pv 1) (pe_callC c__law_take hr pass0 (pa_cons (pv 0) (pa_cons (pe_callB call_len_seq (by rfl) T.z_len PySem.boot_len (pa_cons (pv 1) pa_nil)) pa_nil))) (fun _ _ => rfl)))), ?_⟩
    refine ⟨_, rfl, _, rfl, _, rfl, a, xs, rfl, .inl hs, b, t, _, rfl, hb, by omega, by omega, fun r H' r0 r1 m => ?_⟩
    obtain ⟨i, rfl⟩ : ∃ i : Nat, r = (i : Int) := ⟨r.toNat, by omega⟩
    have hx : xs[i]? = some xs[i] := List.getElem?_eq_getElem (by omega)
    exact ⟨a, xs, _, _, rfl, rfl, m.sqL ne hs, atI_nat hx, k _ H' (List.mem_of_getElem? hx) m⟩
theorem sc_law_box : FnScope ["script", "k", "cell"] ["script", "k"] (defScope s_law_box) := ⟨rfl, rfl, rfl, by decide +kernel, rfl, by decide +kernel, by decide +kernel⟩
theorem ok_box (F : FnP K "_law_box" s_law_box f fd) (T : Mg mg) : FnOk P w K mg base CX0 1 f fd ["script", "k"] (spBox K) := by
  refine F.ok sc_law_box (fun vs H Q E h => ?_) (fun cdv A outer s H vs Q E hr h => ?_)
  · obtain ⟨a, ns, kk, rfl, _⟩ := h
    rfl
  · obtain ⟨a, ns, kk, rfl, hs, hl, k⟩ := h
    refine ⟨_, PSs.nox (pss_cons (ps_set (i := 2) sc_law_box.nd rfl (by first | exact Or.inl rfl | exact Or.inr rfl) (pe_op op_add (pe_op op_mul pe_int (pv 1)) pe_int))
      (pss_cons (ps_if (pt_cmpR op_lt (pv 1) (pe_callB call_len_seq (by rfl) T.z_len PySem.boot_len (pa_cons (pv 0) pa_nil)) (nomark _))
        (pss_one (ps_set (i := 2) sc_law_box.nd rfl (by first | exact Or.inl rfl | exact Or.inr rfl) (pe_callB call_abs (by rfl) T.z_abs (by decide +kernel) (pa_cons (pe_ix ix_list (pv 0) (pv 1) (fun _ _ => rfl)) pa_nil))))
        (pss_one (ps_if (pt_cmpR op_gt (pe_callB call_len_seq (by rfl) T.z_len PySem.boot_len (pa_cons (pv 0) pa_nil)) pe_int (nomark _))
          (pss_one (ps_set (i := 2) sc_law_box.nd rfl (by first | exact Or.inl rfl | exact Or.inr rfl) (pe_op op_add (pv 2) (pe_op op_mul (pe_op op_mod (pe_callTy call_int1 (by rfl) T.z_int (by decide +kernel) (pa_cons (pe_callB call_abs (by rfl) T.z_abs (by decide +kernel) (pa_cons (pe_ix ix_list (pv 0) (pe_op op_mod (pe_callTy call_int1 (by rfl) T.z_int (by decide +kernel) (pa_cons (pv 1) pa_nil)) (pe_callB call_len_seq (by rfl) T.z_len PySem.boot_len (pa_cons (pv 0) pa_nil))) (fun _ _ => rfl)) pa_nil)) pa_nil)) pe_int) pe_int))))
          pss_nil)))
      (pss_one (ps_ret (pe_lst (pa_cons (pe_ix ix_list (pe_lst (pa_cons pe_int (pa_cons (pv 2) pa_nil))) (pe_callTy call_int1 (by rfl) T.z_int (by decide +kernel) (pa_cons (pe_cmpR op_ge (pv 2) (pe_op op_pow pe_int pe_int) (nomark _)) pa_nil)) (fun _ _ => rfl)) (pa_cons (pe_op op_add (pe_op op_mod (pe_callTy call_int1 (by rfl) T.z_int (by decide +kernel) (pa_cons (pe_op op_add (pe_op op_mul (pe_op op_mod (pe_callTy call_int1 (by rfl) T.z_int (by decide +kernel) (pa_cons (pv 2) pa_nil)) pe_int) pe_int) (pe_op op_mul pe_int (pv 1))) pa_nil)) pe_int) pe_int) (pa_cons pe_int pa_nil)))))))), ?_⟩
    refine ⟨_, rfl, _, _, rfl, rfl, .inl ⟨by decide, by decide⟩, _, _, rfl, rfl, ?_⟩
    refine ⟨_, rfl, _, rfl, a, _, rfl, .inl hs, _, _, rfl, rfl, _, rfl, ?_⟩
    rw [List.length_map]
    have tail : ∀ c : Int, ∀ b : Bool, ∃ v, atI [V.int 0, V.int c] (if b = true then 1 else 0) = some (V.int v) := fun c b => by cases b <;> exact ⟨_, rfl⟩
    refine ite2 (fun h1 => ?_) (fun h1 => ?_)
    · have hk : kk < ns.length := by simpa using h1
      have hx : (ns.map V.int)[kk]? = some (V.int ns[kk]) := by rw [List.getElem?_map, List.getElem?_eq_getElem hk]; rfl
      refine ⟨_, rfl, _, rfl, a, _, _, _, rfl, rfl, hs, atI_nat hx, _, rfl, ?_⟩
      refine ⟨_, rfl, (by show 2 ≤ sizeLine; decide), fun l hl0 => ?_⟩
      refine ⟨_, rfl, _, _, rfl, rfl, ⟨by decide, by decide, by decide⟩, _, _, rfl, rfl, .inr ⟨_, rfl, l, _, _, _, rfl, rfl, SqL.of upd_same, (tail _ _).choose_spec, ?_⟩⟩
      refine ⟨_, rfl, .inl ⟨_, rfl, _, _, rfl, rfl, (by show (0 : Int) < 2147483477; decide), _, _, rfl, rfl, .inr ⟨by decide, by decide⟩, ?_⟩⟩
      refine ⟨_, rfl, _, _, rfl, rfl, .inl ⟨by decide, by decide⟩, _, _, rfl, rfl, .inl ⟨_, rfl, _, _, rfl, rfl, (by show (0 : Int) < 2147483477; decide), _, _, rfl, rfl, ?_⟩⟩
      refine ⟨(by show 3 ≤ sizeLine; decide), fun p hp => ?_⟩
      exact k _ p (_, _, 0) ((same_new hl0).trans (same_new hp)) ((same_new hl0).free hp) upd_same
    · refine ⟨_, rfl, a, _, rfl, .inl hs, _, _, rfl, rfl, _, rfl, ?_⟩
      rw [List.length_map]
      refine ite2 (fun h2 => ?_) (fun h2 => ?_)
      · have hk : 0 < ns.length := by simpa using h2
        have hm : (kk : Int) % (ns.length : Int) = ((kk % ns.length : Nat) : Int) := rfl
        have lt : kk % ns.length < ns.length := Nat.mod_lt _ hk
        have hx : (ns.map V.int)[kk % ns.length]? = some (V.int ns[kk % ns.length]) := by rw [List.getElem?_map, List.getElem?_eq_getElem lt]; rfl
        refine ⟨_, rfl, _, rfl, _, rfl, .inl ⟨_, rfl, _, rfl, a, _, rfl, .inl hs, _, _, rfl, rfl, ?_, ?_⟩⟩
        · rw [List.length_map]
          omega
        · have hat : atI (ns.map V.int) ((kk : Int) % (((ns.map V.int).length : Nat) : Int)) = some (V.int ns[kk % ns.length]) := by
            rw [List.length_map, hm]
            exact atI_nat hx
          refine ⟨a, _, _, _, rfl, rfl, hs, hat, _, rfl, .inl ⟨_, rfl, _, _, rfl, rfl, (by show (0 : Int) < 2147483477; decide), _, _, rfl, rfl, .inr ⟨by decide, by decide⟩, _, _, rfl, rfl, ?_⟩⟩
          refine ⟨_, rfl, (by show 2 ≤ sizeLine; decide), fun l hl0 => ?_⟩
          refine ⟨_, rfl, _, _, rfl, rfl, ⟨by decide, by decide, by decide⟩, _, _, rfl, rfl, .inr ⟨_, rfl, l, _, _, _, rfl, rfl, SqL.of upd_same, (tail _ _).choose_spec, ?_⟩⟩
          refine ⟨_, rfl, .inl ⟨_, rfl, _, _, rfl, rfl, (by show (0 : Int) < 2147483477; decide), _, _, rfl, rfl, .inr ⟨by decide, by decide⟩, ?_⟩⟩
          refine ⟨_, rfl, _, _, rfl, rfl, .inl ⟨by decide, by decide⟩, _, _, rfl, rfl, .inl ⟨_, rfl, _, _, rfl, rfl, (by show (0 : Int) < 2147483477; decide), _, _, rfl, rfl, ?_⟩⟩
          refine ⟨(by show 3 ≤ sizeLine; decide), fun p hp => ?_⟩
          exact k _ p (_, _, 0) ((same_new hl0).trans (same_new hp)) ((same_new hl0).free hp) upd_same
      · generalize (9533 * (kk : Int) + 463) = c
        refine ⟨_, rfl, (by show 2 ≤ sizeLine; decide), fun l hl0 => ?_⟩
        refine ⟨_, rfl, _, _, rfl, rfl, ⟨by decide, by decide, by decide⟩, _, _, rfl, rfl, .inr ⟨_, rfl, l, _, _, _, rfl, rfl, SqL.of upd_same, (tail _ _).choose_spec, ?_⟩⟩
        refine ⟨_, rfl, .inl ⟨_, rfl, _, _, rfl, rfl, (by show (0 : Int) < 2147483477; decide), _, _, rfl, rfl, .inr ⟨by decide, by decide⟩, ?_⟩⟩
        refine ⟨_, rfl, _, _, rfl, rfl, .inl ⟨by decide, by decide⟩, _, _, rfl, rfl, .inl ⟨_, rfl, _, _, rfl, rfl, (by show (0 : Int) < 2147483477; decide), _, _, rfl, rfl, ?_⟩⟩
        refine ⟨(by show 3 ≤ sizeLine; decide), fun p hp => ?_⟩
        exact k _ p (_, _, 0) ((same_new hl0).trans (same_new hp)) ((same_new hl0).free hp) upd_same
end
end K3
/-! what the law itself counts -/
namespace K3
open PySem PySem.Spec PyProof.Rows L2 Kx RZ
def later (r e n : Int) : Int := if r = 0 ∨ n + 1 < e + r then n + 1 else e
theorem later_shows {r e n : Int} (hr : 0 ≤ r) (he : 0 ≤ e) (hn : 0 ≤ n) : later r e (shows r e n) = shows r e (n + 1) := by
  unfold later shows
  by_cases h0 : r = 0
  · simp only [h0, true_or, if_true]
  · have hpos : 0 < r := by omega
    by_cases h1 : n < e
    · rw [if_pos (.inr h1 : r = 0 ∨ n < e), if_pos (.inr (by omega) : r = 0 ∨ n + 1 < e + r)]
      by_cases h2 : n + 1 < e
      · rw [if_pos (.inr h2)]
      · rw [if_neg (by omega)]
        have : n + 1 - e = 0 := by omega
        rw [this, Int.zero_emod]
        omega
    · rw [if_neg (by omega : ¬ (r = 0 ∨ n < e)), if_neg (by omega : ¬ (r = 0 ∨ n + 1 < e))]
      have m0 := Int.emod_nonneg (n - e) h0
      have m1 := Int.emod_lt_of_pos (n - e) hpos
      have step : (n + 1 - e) % r = ((n - e) % r + 1) % r := by
        rw [Int.emod_add_emod]
        congr 1
        omega
      by_cases h3 : (n - e) % r + 1 < r
      · rw [if_pos (.inr (by omega)), step, Int.emod_eq_of_lt (by omega) h3]
        omega
      · rw [if_neg (by omega), step]
        have : (n - e) % r + 1 = r := by omega
        rw [this, Int.emod_self]
        omega
theorem shows_zero {r e : Int} (he : 0 ≤ e) : shows r e 0 = 0 := by
  unfold shows
  by_cases h : r = 0 ∨ (0 : Int) < e
  · rw [if_pos h]
  · rw [if_neg h]
    have : e = 0 := by omega
    subst this
    simp
theorem shows_one {n : Int} : shows 1 0 n = 0 ∨ n < 0 := by
  unfold shows
  by_cases h : n < 0
  · exact .inr h
  · left
    rw [if_neg (by omega)]
    omega
def spLater : Sp := fun vs H Q _ => ∃ r e n, vs = [.int r, .int e, .int n] ∧ Q (.int (later r e n)) H
/-- what the law counts along a row -/
def spLawShows (K : PySem.W.Frag) : Sp := fun vs H Q _ => ∃ (p q b : Addr) (rs es row : List Int), vs = [.ref p, .ref q, .ref b] ∧ Cok rs es ∧ SqT K H p (rs.map V.int) ∧ SqT K H q (es.map V.int) ∧ Sq K H b (row.map V.int) ∧
  ∀ r H', Same H H' → SqT K H' r ((showOf rs es row).map V.int) → Q (.ref r) H'
/-- the list while the first i kinds are counted -/
def half (S : Nat → Int) (n i : Nat) : List Int := (List.range n).map fun j => if j < i then S j else 0
theorem half_zero {S : Nat → Int} {n : Nat} : half S n 0 = List.replicate n 0 := by
  unfold half
  apply List.ext_getElem
  · simp
  · intro j h1 h2
    simp
theorem half_set {S : Nat → Int} {n i : Nat} (hi : i < n) : (half S n i).set i (S i) = half S n (i + 1) := by
  unfold half
  apply List.ext_getElem
  · simp
  · intro j h1 h2
    rw [List.getElem_set]
    simp only [List.getElem_map, List.getElem_range]
    by_cases e : i = j
    · rw [if_pos e, if_pos (by omega), e]
    · rw [if_neg e]
      by_cases l : j < i
      · rw [if_pos l, if_pos (by omega)]
      · rw [if_neg l, if_neg (by omega)]
theorem half_same {S : Nat → Int} {n i : Nat} (h : S i = 0) : half S n (i + 1) = half S n i := by
  unfold half
  apply List.map_congr_left
  intro j _
  by_cases e : j = i
  · rw [if_pos (by omega), if_neg (by omega), e, h]
  · by_cases l : j < i
    · rw [if_pos l, if_pos (by omega)]
    · rw [if_neg l, if_neg (by omega)]
theorem half_full {S : Nat → Int} {n : Nat} : half S n n = (List.range n).map S := by
  unfold half
  apply List.map_congr_left
  intro j hj
  rw [if_pos (List.mem_range.mp hj)]
theorem half_length {S : Nat → Int} {n i : Nat} : (half S n i).length = n := by simp [half]
section
variable {P : Program} {w : World} {K : PySem.W.Frag} {mg : Str → Option Value} {base : Heap} {f : Addr} {fd : FuncData} {a : Ad} {C CM : Addr}
theorem sc_law_later : FnScope ["turn", "rest", "number"] ["turn", "rest", "number"] (defScope s_law_later) := ⟨rfl, rfl, rfl, by decide +kernel, rfl, by decide +kernel, by decide +kernel⟩
theorem ok_later (F : FnP K "_law_later" s_law_later f fd) (T : Mg mg) : FnOk P w K mg base CX0 1 f fd ["turn", "rest", "number"] spLater := by
  refine F.ok sc_law_later (fun vs H Q E h => ?_) (fun cdv A outer s H vs Q E hr h => ?_)
  · obtain ⟨r, e, n, rfl, _⟩ := h
    rfl
  · obtain ⟨r, e, n, rfl, k⟩ := h
    refine ⟨_, PSs.nox (pss_cons (ps_if (PW.pt (pw_or (pt_cmpR op_eq (pv 0) pe_int (nomark _)) (pw_or1 (pt_cmpR op_lt (pe_op op_add (pv 2) pe_int) (pe_op op_add (pv 1) (pv 0)) (nomark _)))))
      (pss_one (ps_ret (pe_op op_add (pv 2) pe_int)))
      pss_nil)
      (pss_one (ps_ret (pv 1)))), ?_⟩
    refine ⟨_, rfl, rfl, _, rfl, ?_⟩
    refine ite2 (fun h => ?_) (fun h => ?_)
    · have e0 : r = 0 := by simpa using h
      have z : later r e n = n + 1 := if_pos (.inl e0)
      rw [z] at k
      exact ⟨_, rfl, _, _, rfl, rfl, k⟩
    · have n0 : r ≠ 0 := by simpa using h
      refine ⟨_, rfl, _, _, rfl, rfl, _, rfl, _, rfl, _, _, rfl, rfl, _, _, rfl, rfl, _, rfl, ?_⟩
      refine ite2 (fun h => ?_) (fun h => ?_)
      · have z : later r e n = n + 1 := if_pos (.inr (of_decide_eq_true h))
        rw [z] at k
        exact ⟨_, rfl, _, _, rfl, rfl, k⟩
      · have z : later r e n = e := if_neg fun z => z.elim n0 fun z => h (decide_eq_true z)
        rw [z] at k
        exact ⟨_, rfl, k⟩
theorem sc_law_shows : FnScope ["rounds", "rests", "row", "found", "kind", "number", "deed"] ["rounds", "rests", "row"] (defScope s_law_shows) := ⟨rfl, rfl, rfl, by decide +kernel, rfl, by decide +kernel, by decide +kernel⟩
theorem ok_law_shows (F : FnP K "_law_shows" s_law_shows f fd) (T : Mg mg) (c__law_later : Cal P w K mg base CX0 1 "_law_later" ["turn", "rest", "number"] spLater) : FnOk P w K mg base CX0 2 f fd ["rounds", "rests", "row"] (spLawShows K) := by
  refine F.ok sc_law_shows (fun vs H Q E h => ?_) (fun cdv A outer s H vs Q E hr h => ?_)
  · obtain ⟨p, q, b, rs, es, row, rfl, _⟩ := h
    rfl
  · obtain ⟨p, q, b, rs, es, row, rfl, ok, hp, hq, hb, k⟩ := h
    refine ⟨_, PSs.nox (pss_cons (ps_set (i := 3) sc_law_shows.nd rfl (by first | exact Or.inl rfl | exact Or.inr rfl) (pe_op op_rep (pe_lst (pa_cons pe_int pa_nil)) (pe_callB call_len_seq (by rfl) T.z_len PySem.boot_len (pa_cons (pv 0) pa_nil))))
      (pss_cons (ps_for PassesOwn.never rfl (pi_range1 (by rfl) T.z_range (pa_cons (pe_callB call_len_seq (by rfl) T.z_len PySem.boot_len (pa_cons (pv 0) pa_nil)) pa_nil)) (pg_name (i := 4) sc_law_shows.nd rfl (by first | exact Or.inl rfl | exact Or.inr rfl))
      (pss_cons (ps_set (i := 5) sc_law_shows.nd rfl (by first | exact Or.inl rfl | exact Or.inr rfl) pe_int)
      (pss_cons (ps_if (PW.pt (pw_and (pt_cmpR op_gt (pe_ix ix_tup (pv 0) (pv 4) (fun _ _ => rfl)) pe_int (nomark _)) (pw_and1 (pt_cmpR op_eq (pe_op op_add (pe_ix ix_tup (pv 1) (pv 4) (fun _ _ => rfl)) (pe_ix ix_tup (pv 0) (pv 4) (fun _ _ => rfl))) pe_int (nomark _)))))
      (pss_one ps_continue)
      pss_nil)
      (pss_cons (ps_for PassesOwn.never rfl (pi_any (pv 2)) (pg_name (i := 6) sc_law_shows.nd rfl (by first | exact Or.inl rfl | exact Or.inr rfl))
      (pss_one (ps_set (i := 5) sc_law_shows.nd rfl (by first | exact Or.inl rfl | exact Or.inr rfl) (pe_ifExp (pt_cmpR op_eq (pv 6) (pv 4) (nomark _)) (pe_callC c__law_later hr pass0 (pa_cons (pe_ix ix_tup (pv 0) (pv 4) (fun _ _ => rfl)) (pa_cons (pe_ix ix_tup (pv 1) (pv 4) (fun _ _ => rfl)) (pa_cons (pv 5) pa_nil)))) (pv 5)))))
      (pss_one (ps_asg (pv 5) (pg_sub (pv 3) (pv 4) set_list)))))))
      (pss_one (ps_ret (pe_callTy call_tup (by rfl) T.z_tuple (by decide +kernel) (pa_cons (pv 3) pa_nil)))))), ?_⟩
    have l4 := ok.l4
    refine ⟨(by show 1 ≤ sizeLine; decide), fun l0 hl0 => ?_⟩
    have e1 := same_new (o := HO.lst [.int 0]) hl0
    refine ⟨_, rfl, p, _, rfl, .inr (sqT_same e1 hp), ?_⟩
    rw [List.length_map]
    refine ⟨l0, _, _, rfl, rfl, upd_same, by omega, by omega, ?_, fun l hl => ?_⟩
    · show 1 * _ ≤ _
      rw [sizeLine_eq]
      omega
    have e2 := e1.trans (same_new (o := HO.lst (List.replicate ((rs.length : Int)).toNat [V.int 0]).flatten) hl)
    have nl : H l = none := e1.free hl
    have hl2 : (List.replicate ((rs.length : Int)).toNat [V.int 0]).flatten = (half (fun i => shows (rs.getD i 0) (es.getD i 0) (row.count (i : Int) : Nat)) rs.length 0).map V.int := by
      rw [half_zero, Int.toNat_natCast, List.map_replicate, List.flatten_replicate_singleton]
    rw [hl2] at e2 ⊢
    generalize hS : (fun i : Nat => shows (rs.getD i 0) (es.getD i 0) (row.count (i : Int) : Nat)) = S at *
    refine ⟨_, rfl, p, _, rfl, .inr (sqT_same e2 hp), ?_⟩
    rw [List.length_map]
    refine ⟨_, rfl, by omega, by omega, for_range (lo := 0) (n := rs.length) (fun i σ' H' => ∃ x y z, σ' = [some (.ref p), some (.ref q), some (.ref b), some (.ref l), x, y, z] ∧ Same H H' ∧ H' l = some (.lst ((half S rs.length i).map V.int))) ⟨_, _, _, rfl, e2, upd_same⟩ ?_ ?_⟩
    · rintro i σ' H' hi ⟨x, y, z, rfl, e3, hl3⟩
      have hi : i < rs.length := hi
      obtain ⟨a1, a2, b1, b2, b3, b4⟩ := ok.at_ hi
      have g1 : (rs.map V.int)[i]? = some (.int (rs.getD i 0)) := by rw [List.getElem?_map, a1]; rfl
      have g2 : (es.map V.int)[i]? = some (.int (es.getD i 0)) := by rw [List.getElem?_map, a2]; rfl
      have Si : S i = shows (rs.getD i 0) (es.getD i 0) (row.count (i : Int) : Nat) := by rw [← hS]
      generalize hr0 : rs.getD i 0 = r at *
      generalize he0 : es.getD i 0 = e at *
      have hp3 := sqT_same e3 hp
      have hq3 := sqT_same e3 hq
      have i0 : (0 : Int) + (i : Int) = (i : Int) := Int.zero_add _
      rw [i0]
      refine ⟨_, rfl, _, rfl, p, _, _, _, rfl, rfl, hp3, atI_nat g1, _, _, rfl, rfl, _, rfl, ?_⟩
      refine ite2 (fun h1 => ?_) (fun h1 => ?_)
      focus
        refine ⟨_, rfl, _, rfl, q, _, _, _, rfl, rfl, hq3, atI_nat g2, _, rfl, _, rfl, p, _, _, _, rfl, rfl, hp3, atI_nat g1, _, _, rfl, rfl, rfl, _, rfl, ?_⟩
        refine ite2 (fun h2 => ?_) (fun h2 => ?_)
        focus
          refine ⟨_, _, _, rfl, e3, ?_⟩
          have r0 : 0 < r := of_decide_eq_true h1
          have e1' : e + r = 1 := by simpa using h2
          have : S i = 0 := by
            have er : r = 1 := by omega
            have ee : e = 0 := by omega
            rw [Si, er, ee]
            exact shows_one.resolve_right (by omega)
          rw [half_same this]
          exact hl3
      all_goals
        refine ⟨_, rfl, b, _, rfl, for_any (hb.same e3) (fun j σ'' H'' => ∃ d, σ'' = [some (.ref p), some (.ref q), some (.ref b), some (.ref l), some (.int (i : Int)), some (.int (shows r e ((row.take j).count (i : Int) : Nat))), d] ∧ H'' = H') ⟨z, by rw [List.take_zero, List.count_nil, Int.natCast_zero, shows_zero b3] <;> rfl, rfl⟩ ?_ ?_ ?_ ?_⟩
        · rintro j σ'' H'' ⟨_, _, rfl⟩ z
          exact z
        · rintro j σ'' H'' ⟨_, _, rfl⟩ z
          exact z
        · rintro j x2 σ'' H'' hx2 ⟨d, rfl, rfl⟩
          obtain ⟨n, hn, rfl⟩ : ∃ n, row[j]? = some n ∧ x2 = .int n := by
            rw [List.getElem?_map, Option.map_eq_some_iff] at hx2
            obtain ⟨n, h1, h2⟩ := hx2
            exact ⟨n, h1, h2.symm⟩
          have next : row.take (j + 1) = row.take j ++ [n] := by rw [List.take_add_one, hn]; rfl
          refine ⟨_, rfl, _, rfl, rfl, _, rfl, ?_⟩
          refine ite2 (fun h3 => ?_) (fun h3 => ?_)
          · have en : n = (i : Int) := by simpa using h3
            refine ⟨_, rfl, _, rfl, p, _, _, _, rfl, rfl, hp3, atI_nat g1, _, rfl, _, rfl, q, _, _, _, rfl, rfl, hq3, atI_nat g2, _, rfl, r, e, _, rfl, some (.int n), ?_, rfl⟩
            rw [later_shows b1 b3 (Int.natCast_nonneg _), next, List.count_append, en, List.count_singleton_self]
            rfl
          · have en : n ≠ (i : Int) := by simpa using h3
            refine ⟨_, rfl, some (.int n), ?_, rfl⟩
            rw [next, List.count_append, List.count_singleton, if_neg (by simpa using en)]
            rfl
        · rintro σ'' H'' ⟨d, rfl, rfl⟩
          rw [List.length_map, List.take_length, ← Si]
          refine ⟨_, rfl, _, rfl, _, rfl, l, _, _, i, rfl, rfl, hl3, ?_, ?_⟩
          · exact ixN_here (by rw [List.length_map, half_length]; exact hi)
          · refine ⟨_, _, _, rfl, fun c o hc => ?_, ?_⟩
            · rw [upd_ne (ne_of_none hc nl)]
              exact e3 _ _ hc
            · rw [upd_same, ← List.map_set, half_set hi]
    · rintro σ' H' ⟨x, y, z, rfl, e3, hl3⟩
      refine ⟨_, rfl, l, _, rfl, .inl (SqL.of hl3), fun t H4 e4 ht => k t H4 (e3.trans e4) ?_⟩
      rw [half_full, ← hS] at ht
      exact ht
/-- for x, y in zip(t, u), two tuples of one length -/
theorem for_zipT {K : PySem.W.Frag} {a b : Addr} {xs ys : List V} {g : TG} {tb : TS} {D : Ends} {σ : L2.St} {H : Hp} (hl : ys.length = xs.length) (Pv : Nat → L2.St → Hp → Prop) (h0 : Pv 0 σ H)
    (hq : ∀ i σ' H', Pv i σ' H' → SqT K H' a xs ∧ SqT K H' b ys)
    (turn : ∀ (i : Nat) (x y : V) (t : Addr) σ' H', xs[i]? = some x → ys[i]? = some y → Pv i σ' H' → H' t = none → g (.ref t) σ' (upd H' t (.tup [x, y])) fun σ2 H2 => tb { D with nx := Pv (i + 1), ct := Pv (i + 1), bk := D.nx } σ2 H2)
    (hd : ∀ σ' H', Pv xs.length σ' H' → D.nx σ' H') : forR g tb D σ (ItzT K a b) H := by
  refine for_by (n := xs.length) Pv h0 ?_ ?_
  · intro i σ' H' lt p
    obtain ⟨q1, q2⟩ := hq i σ' H' p
    refine ⟨⟨_, _, _, _, q1, q2, List.getElem?_eq_getElem lt, List.getElem?_eq_getElem (by omega)⟩, ?_⟩
    rintro v H3 ⟨t, x, y, rfl, ht, rfl, hx, hy⟩
    exact turn i x y t σ' H' (hx _ q1) (hy _ q2) p ht
  · intro σ' H' p
    obtain ⟨q1, q2⟩ := hq _ σ' H' p
    exact ⟨⟨_, _, q1, q2, .inl (Nat.le_refl _)⟩, hd σ' H' p⟩
/-- all showings, as the law makes them -/
def spLawAll (K : PySem.W.Frag) : Sp := fun vs H Q _ => ∃ (p q : Addr) (rs es : List Int), vs = [.ref p, .ref q] ∧ Cok rs es ∧ (0 : Int) ∉ rs ∧ prodOf (sizesOf rs es) ≤ 20000 ∧ SqT K H p (rs.map V.int) ∧ SqT K H q (es.map V.int) ∧
  ∀ r H' vs, Same H H' → SqT K H' r vs → Rows K H' vs (rowsOf (sizesOf rs es)) → Q (.ref r) H'
theorem Rows.append {K : PySem.W.Frag} {H : Hp} : ∀ {vs us : List V} {rs ss : List (List Int)}, Rows K H vs rs → Rows K H us ss → Rows K H (vs ++ us) (rs ++ ss)
  | [], _, [], _, _, h => h
  | _ :: _, _, _ :: _, _, ⟨h1, h⟩, k => ⟨h1, Rows.append h k⟩
  | [], _, _ :: _, _, h, _ => h.elim
  | _ :: _, _, [], _, h, _ => h.elim
theorem few_rows {sizes : List Int} {i : Nat} {n : Int} (rng : ∀ x ∈ sizes, 1 ≤ x ∧ x ≤ 66) (hn : sizes[i]? = some n) (hp : prodOf sizes ≤ 20000) : rowsOf (sizes.take (i + 1)) = more (rowsOf (sizes.take i)) n.toNat ∧ (rowsOf (sizes.take i)).length * n.toNat ≤ 20000 := by
  have next : rowsOf (sizes.take (i + 1)) = more (rowsOf (sizes.take i)) n.toNat := by
    unfold rowsOf
    rw [List.take_add_one, hn, Option.toList_some, List.foldl_append] <;> rfl
  refine ⟨next, ?_⟩
  have a1 := prods_length (sizes.take (i + 1)) [[]] 1 (fun x hx => (rng x (List.mem_of_mem_take hx)).1) rfl
  have a2 := prods_grow (sizes.drop (i + 1)) ((sizes.take (i + 1)).foldl (· * ·) 1) (fun x hx => (rng x (List.mem_of_mem_drop hx)).1) (by rw [← a1]; omega)
  rw [← List.foldl_append, List.take_append_drop] at a2
  have a3 : ((rowsOf (sizes.take (i + 1))).length : Int) = (sizes.take (i + 1)).foldl (· * ·) 1 := a1
  rw [next, more_length] at a3
  have : prodOf sizes = sizes.foldl (· * ·) 1 := rfl
  omega
theorem sc_law_all : FnScope ["rounds", "rests", "found", "turn", "rest", "longer", "row", "number"] ["rounds", "rests"] (defScope s_law_all) := ⟨rfl, rfl, rfl, by decide +kernel, rfl, by decide +kernel, by decide +kernel⟩
theorem ok_law_all (F : FnP K "_law_all" s_law_all f fd) (T : Mg mg) : FnOk P w K mg base CX0 1 f fd ["rounds", "rests"] (spLawAll K) := by
  refine F.ok sc_law_all (fun vs H Q E h => ?_) (fun cdv A outer s H vs Q E hr h => ?_)
  · obtain ⟨p, q, rs, es, rfl, _⟩ := h
    rfl
  · obtain ⟨p, q, rs, es, rfl, ok, h0, hprod, hp, hq, k⟩ := h
    refine ⟨_, PSs.nox (pss_cons (ps_set (i := 2) sc_law_all.nd rfl (by first | exact Or.inl rfl | exact Or.inr rfl) (pe_lst (pa_cons (pe_tup pa_nil) pa_nil)))
      (pss_cons (ps_for PassesOwn.never rfl (pi_zipA (by rfl) T.z_zip (pa_cons (pv 0) (pa_cons (pv 1) pa_nil))) (pg_tup rfl (pgs_cons (pg_name (i := 3) sc_law_all.nd rfl (by first | exact Or.inl rfl | exact Or.inr rfl)) (pgs_cons (pg_name (i := 4) sc_law_all.nd rfl (by first | exact Or.inl rfl | exact Or.inr rfl)) pgs_nil)))
      (pss_cons (ps_set (i := 5) sc_law_all.nd rfl (by first | exact Or.inl rfl | exact Or.inr rfl) (pe_lst pa_nil))
      (pss_cons (ps_for PassesOwn.never rfl (pi_list (pv 2)) (pg_name (i := 6) sc_law_all.nd rfl (by first | exact Or.inl rfl | exact Or.inr rfl))
      (pss_one (ps_set (i := 5) sc_law_all.nd rfl (by first | exact Or.inl rfl | exact Or.inr rfl) (pe_op op_cat (pv 5) (pe_lc (own := [("number", 7)]) (by rfl) sc_law_all.nd (pi_range1 (by rfl) T.z_range (pa_cons (pe_op op_add (pv 4) (pv 3)) pa_nil)) (blkOk_by (own := [("number", 7)]) (N := ["rounds", "rests", "found", "turn", "rest", "longer", "row", "number"]) (sc := defScope s_law_all) (by decide +kernel)) (fun _ _ _ _ _ => (pg_name (i := 7) sc_law_all.nd rfl (by first | exact Or.inl rfl | exact Or.inr rfl))) (fun _ _ _ _ _ => pts_nil) (fun _ _ _ _ _ => (pe_op (op_catS (K := K)) (pv 6) (pe_tup (pa_cons (pv 7) pa_nil)))))))))
      (pss_one (ps_set (i := 2) sc_law_all.nd rfl (by first | exact Or.inl rfl | exact Or.inr rfl) (pv 5))))))
      (pss_one (ps_ret (pe_callTy call_tup (by rfl) T.z_tuple (by decide +kernel) (pa_cons (pv 2) pa_nil)))))), ?_⟩
    refine ⟨Nat.zero_le _, fun t ht => ⟨(by show 1 ≤ sizeLine; decide), fun l hl => ?_⟩⟩
    have e2 : Same H (upd (upd H t (.tup [])) l (.lst [.ref t])) := (same_new ht).trans (same_new hl)
    have rows0 : Rows K (upd (upd H t (.tup [])) l (.lst [.ref t])) [.ref t] [[]] := ⟨⟨t, rfl, sqT_same (same_new hl) (SqT.of upd_same)⟩, trivial⟩
    have hl2 : upd (upd H t (.tup [])) l (.lst [.ref t]) l = some (.lst [.ref t]) := upd_same
    generalize upd (upd H t (.tup [])) l (.lst [.ref t]) = H2 at e2 rows0 hl2 ⊢
    generalize hz : sizesOf rs es = sizes at *
    have rng : ∀ x ∈ sizes, 1 ≤ x ∧ x ≤ 66 := by rw [← hz]; exact size_range ok h0
    have ls : sizes.length = rs.length := by rw [← hz]; exact sizes_length ok
    have l4 := ok.l4
    refine ⟨_, rfl, _, rfl, p, q, _, _, rfl, .inr ⟨sqT_same e2 hp, sqT_same e2 hq, for_zipT (xs := rs.map V.int) (ys := es.map V.int) (by rw [List.length_map, List.length_map, ok.le]) (fun i σ' H' => ∃ fnd x y z u vs, σ' = [some (.ref p), some (.ref q), some (.ref fnd), x, y, z, u, none] ∧ Same H H' ∧ H' fnd = some (.lst vs) ∧ Rows K H' vs (rowsOf (sizes.take i))) ⟨l, none, none, none, none, _, rfl, e2, hl2, rows0⟩ ?_ ?_ ?_⟩⟩
    · rintro i σ' H' ⟨_, _, _, _, _, _, _, e, _⟩
      exact ⟨sqT_same e hp, sqT_same e hq⟩
    · rintro i x y t2 σ' H' hx hy ⟨fnd, x0, y0, z0, u0, vs, rfl, e3, hf, hrows⟩ ht2
      obtain ⟨r, hr', rfl⟩ : ∃ n, rs[i]? = some n ∧ x = .int n := by
        rw [List.getElem?_map, Option.map_eq_some_iff] at hx
        obtain ⟨n, h1, h2⟩ := hx
        exact ⟨n, h1, h2.symm⟩
      obtain ⟨e, he', rfl⟩ : ∃ n, es[i]? = some n ∧ y = .int n := by
        rw [List.getElem?_map, Option.map_eq_some_iff] at hy
        obtain ⟨n, h1, h2⟩ := hy
        exact ⟨n, h1, h2.symm⟩
      have hn : sizes[i]? = some (r + e) := by rw [← hz]; exact sizes_at hr' he'
      have hn1 := rng _ (List.mem_of_getElem? hn)
      obtain ⟨next, few⟩ := few_rows rng hn hprod
      have li : i < sizes.length := (List.getElem?_eq_some_iff.mp hn).1
      have rl : ∀ r ∈ rowsOf (sizes.take i), r.length = i := fun r hr => by
        have z := rows_len (sizes.take i) [[]] 0 (fun r hr => by rw [List.mem_singleton.mp hr]; rfl) r hr
        rw [List.length_take] at z
        omega
      generalize hrw : rowsOf (sizes.take i) = rows at *
      refine ⟨t2, _, rfl, SqT.of upd_same, rfl, ?_⟩
      refine ⟨_, _, rfl, _, _, rfl, rfl, ?_⟩
      have e4 := e3.trans (same_new (o := HO.tup [.int r, .int e]) ht2)
      have hf4 := same_new (o := HO.tup [.int r, .int e]) ht2 _ _ hf
      have hrows4 := hrows.same (same_new (o := HO.tup [.int r, .int e]) ht2)
      generalize upd H' t2 (.tup [.int r, .int e]) = H4 at e4 hf4 hrows4 ⊢
      refine ⟨Nat.zero_le _, fun lg hlg => ?_⟩
      have e5 := same_new (o := HO.lst []) hlg
      refine ⟨_, rfl, fnd, rfl, ⟨_, SqL.of (e5 _ _ hf4)⟩, for_list (xs := vs) (fun j σ'' H'' => ∃ lg u acc, σ'' = [some (.ref p), some (.ref q), some (.ref fnd), some (.int r), some (.int e), some (.ref lg), u, none] ∧ Same H4 H'' ∧ H'' lg = some (.lst acc) ∧ Rows K H'' acc (more (rows.take j) (r + e).toNat)) ⟨lg, u0, [], rfl, e5, upd_same, trivial⟩ ?_ ?_ ?_⟩
      · rintro j σ'' H'' _ ⟨_, _, _, _, e6, _⟩
        exact SqL.of (e6 _ _ hf4)
      · rintro j x2 σ'' H'' hx2 ⟨lg, u, acc, rfl, e6, hlg6, hacc⟩
        obtain ⟨w2, r2, rfl, hr6, hq6⟩ := hrows4.get hx2
        have lr : r2.length = i := rl r2 (List.mem_of_getElem? hr6)
        refine ⟨_, rfl, _, rfl, _, rfl, _, _, rfl, rfl, ?_⟩
        refine ⟨_, rfl, by omega, by omega, fun D hD => ?_⟩
        refine lc_range (lo := 0) (n := (e + r).toNat) (fun j2 H7 => ∃ acc2, H7 D = some (.lst acc2) ∧ Same H'' H7 ∧ Rows K H7 acc2 ((oneMore r2 (r + e).toNat).take j2)) ⟨[], upd_same, same_new hD, by rw [List.take_zero]; trivial⟩ ?_ ?_
        · rintro j2 H7 hj2 ⟨acc2, hD7, e7, hacc2⟩
          have hj3 : j2 < (r + e).toNat := by rw [Int.add_comm]; exact hj2
          refine ⟨rfl, yes ((if_pos rfl).mpr ?_)⟩
          refine ⟨_, rfl, _, rfl, (by show 1 ≤ sizeLine; decide), fun t ht => ?_⟩
          have et := same_new (o := HO.tup [.int (0 + (j2 : Int))]) ht
          refine ⟨w2, t, r2.map V.int, _, rfl, rfl, sqT_same ((e6.trans e7).trans et) hq6, SqT.of upd_same, ?_, fun p9 H9 e9 hp9 => ?_⟩
          · rw [List.length_map, sizeLine_eq]
            simp only [List.length_nil, List.length_cons]
            omega
          · have e79 := et.trans e9
            have la := hacc2.length
            rw [List.length_take, oneMore_length] at la
            refine ⟨acc2, e79 _ _ hD7, by rw [sizeLine_eq]; omega, acc2 ++ [.ref p9], upd_same, ?_, ?_⟩
            · intro c o hc
              rw [upd_ne (ne_of_none hc hD)]
              exact e79 _ _ (e7 _ _ hc)
            · rw [oneMore_take hj3]
              refine Rows.lst (e79 _ _ hD7) (Rows.snoc rfl ?_ (hacc2.same e79))
              rw [Int.zero_add] at hp9
              rw [List.map_append]
              exact hp9
        · rintro H7 ⟨acc2, hD7, e7, hacc2⟩
          have whole : (oneMore r2 (r + e).toNat).take (e + r).toNat = oneMore r2 (r + e).toNat := List.take_of_length_le (by rw [oneMore_length, Int.add_comm]; exact Nat.le_refl _)
          rw [whole] at hacc2
          have la := hacc.length
          have lb := hacc2.length
          rw [more_length, List.length_take] at la
          rw [oneMore_length] at lb
          have lv := hrows4.length
          have jl := (List.getElem?_eq_some_iff.mp hx2).1
          refine ⟨lg, D, acc, acc2, rfl, rfl, e7 _ _ hlg6, hD7, ?_, fun p9 hp9 => ?_⟩
          · have : (min j rows.length + 1) * (r + e).toNat ≤ rows.length * (r + e).toNat := Nat.mul_le_mul_right _ (by omega)
            rw [Nat.add_mul] at this
            rw [sizeLine_eq]
            omega
          · refine ⟨p9, some (.ref w2), acc ++ acc2, rfl, (e6.trans e7).trans (same_new hp9), upd_same, ?_⟩
            rw [more_take hr6]
            exact ((hacc.same e7).append hacc2).same (same_new hp9)
      · rintro σ'' H'' ⟨lg, u, acc, rfl, e6, hlg6, hacc⟩
        have lv := hrows4.length
        rw [lv, List.take_length] at hacc
        refine ⟨_, rfl, lg, some (.int r), some (.int e), some (.ref lg), u, acc, rfl, e4.trans e6, hlg6, ?_⟩
        rw [next]
        exact hacc
    · rintro σ' H' ⟨fnd, x, y, z, u, vs, rfl, e3, hf, hrows⟩
      have full : sizes.take (rs.map V.int).length = sizes := List.take_of_length_le (by rw [List.length_map, ls]; exact Nat.le_refl _)
      rw [full] at hrows
      refine ⟨_, rfl, fnd, vs, rfl, .inl (SqL.of hf), fun p9 H9 e9 hp9 => ?_⟩
      exact k p9 H9 vs (e3.trans e9) hp9 (hrows.same e9)
end
end K3
/-! tuples of the same things compared; isinstance of a caught error that has a field; "0" times a number; calls with keywords alone. -/
namespace Kx
open L2 PySem PySem.Spec PyProof.Rows
/-- two tuples that hold, place by place, the same flat thing or the same object -/
def rSame (K : PySem.W.Frag) (b : Bool) : R2 := fun x y H Q => ∃ (p q : Addr) (xs : List V), x = .ref p ∧ y = .ref q ∧ SqT K H p xs ∧ SqT K H q xs ∧ (∀ v ∈ xs, flatB v = true ∨ ∃ c, v = .ref c) ∧ Q (.bl b) H
theorem same_at {A : Around} {s : Shared} : ∀ {xs : List V} {us ws : List Value}, (∀ v ∈ xs, flatB v = true ∨ ∃ c, v = .ref c) → Vals xs us → Vals xs ws → ∀ j (h1 : j < us.length) (h2 : j < ws.length), SeqAt.EqAt A s us[j] ws[j] true
  | [], _, _, _, .nil, .nil, _, h1, _ => absurd h1 (Nat.not_lt_zero _)
  | x :: xs, _, _, f, .cons r1 k1, .cons r2 k2, 0, _, _ => by
    rcases f x List.mem_cons_self with h | ⟨c, rfl⟩
    · exact eqAt_same r1 r2 h
    · cases r1
      cases r2
      exact SeqAt.EqAt.same _
  | x :: xs, _, _, f, .cons r1 k1, .cons r2 k2, j + 1, h1, h2 => same_at (fun v hv => f v (List.mem_cons_of_mem _ hv)) k1 k2 j (Nat.lt_of_succ_lt_succ h1) (Nat.lt_of_succ_lt_succ h2)
theorem all_range (n : Nat) : ((List.range n).all fun _ => true) = true := List.all_eq_true.mpr fun _ _ => rfl
section
variable {X : Cx}
theorem op_eqSame (hu : X.A.units + 64 < cLine) : OpR X (compareOp .Eq) (rSame X.K true) := by
  intro pins st σ H x y v u Q I rx ry h
  obtain ⟨p, q, xs, rfl, rfl, h1, h2, f, k⟩ := h
  cases rx
  cases ry
  obtain ⟨us, r1, t1, _⟩ := I.tuple h1
  obtain ⟨ws, r2, t2, _⟩ := I.tuple h2
  have e : us.toArray.size = ws.toArray.size := by simp only [List.size_toArray]; rw [← r1.length, ← r2.length]
  refine SeqAt.RcAt.tuples (e := fun _ => true) t1 t2 (by omega) (fun j a1 a2 => ?_) _ _ _ _ ?_
  · simpa using same_at f r1 r2 j (by simpa using a1) (by simpa using a2)
  · rw [all_range, e, beq_self_eq_true]
    exact ⟨.bl true, H, I, rfl, k⟩
theorem op_neSame (hu : X.A.units + 64 < cLine) : OpR X (compareOp .NotEq) (rSame X.K false) := by
  intro pins st σ H x y v u Q I rx ry h
  obtain ⟨p, q, xs, rfl, rfl, h1, h2, f, k⟩ := h
  cases rx
  cases ry
  obtain ⟨us, r1, t1, _⟩ := I.tuple h1
  obtain ⟨ws, r2, t2, _⟩ := I.tuple h2
  have e : us.toArray.size = ws.toArray.size := by simp only [List.size_toArray]; rw [← r1.length, ← r2.length]
  refine SeqAt.RcNeAt.tuples (e := fun _ => true) t1 t2 (by omega) (fun j a1 a2 => ?_) _ _ _ _ ?_
  · simpa using same_at f r1 r2 j (by simpa using a1) (by simpa using a2)
  · rw [all_range, e, beq_self_eq_true]
    exact ⟨.bl false, H, I, rfl, k⟩
/-- isinstance(e, c), e the error that the suite holds, its own dict at d -/
theorem call_isEd {a D d : Addr} {oe : Obj} {pn : List (Addr × Obj)} (C : ExcC X.K D) (hz : Zc (.ref D) (some d) oe) (hf : ∃ vs, oe.data = .fields vs) :
    CallR (X.suite a ((a, oe) :: pn)) (.builtin "isinstance") (fun xs H Q => (∃ fs, H d = some (.xd fs)) ∧ rIsE X.K D a xs H Q) := by
  rintro pins s σ H xs us Q I r h
  obtain ⟨⟨fs, hd⟩, c, cv, b, rfl, hcv, e, q⟩ := h
  cases r with
  | cons rx rr =>
    cases rr with
    | cons rt rr =>
      cases rr
      cases rx
      have ec := hcv _ rt
      subst ec
      obtain ⟨hget, -⟩ := I.pin (a, oe) (List.mem_append.mpr (.inl List.mem_cons_self))
      obtain ⟨vs, hv⟩ := hf
      obtain ⟨mA, hns, _⟩ := (show ObjOk X.prog X.w H s.heap d (.xd fs) from I.hok d _ hd)
      obtain ⟨od, ho, _⟩ := lookIn_ns hns
      have J : PySem.W.InstAt s.heap a oe D (some od) := by
        obtain ⟨oc, od', oda, osl⟩ := oe
        obtain ⟨h1, h2⟩ := hz
        dsimp only at h1 h2 hv
        subst h1 h2 hv
        exact ⟨hget, rfl, rfl, ho⟩
      have cl : (PySem.W.clsIn X.K D).isSome = true := by
        obtain ⟨cd, hc, _⟩ := PySem.W.any_some C.hd
        rw [hc]
        rfl
      exact PySem.W.kia_one (PySem.W.kitx_exc cl C.hg C.hk C.hs C.ha C.hn C.ht C.hm) I.kIn J e (fun z => nomatch z) fun tk => ⟨.bl b, H, I.kept (t' := tk) fun _ _ z => z, rfl, q⟩
/-! ### "0" * k -/
def noughts : Nat → Str
  | 1 => "0"
  | 2 => "00"
  | 3 => "000"
  | _ => "0000"
theorem op_noughts : OpR X (binaryOp .Mult) (fun x y H Q => ∃ k : Nat, x = .str "0" ∧ y = .int (k : Int) ∧ 1 ≤ k ∧ k ≤ 4 ∧ Q (.str (noughts k)) H) := by
  intro pins st σ H x y v u Q I rx ry h
  obtain ⟨k, rfl, rfl, k1, k4, q⟩ := h
  obtain ⟨t, rfl⟩ := (show ∃ t, v = Value.str "0" t from rx)
  obtain ⟨t2, rfl⟩ := (show ∃ t, u = Value.int (k : Int) t from ry)
  have cases_ : k = 1 ∨ k = 2 ∨ k = 3 ∨ k = 4 := by omega
  have fin : ∀ (z : Str) (tk tk2 : Nat), z = noughts k → EP X pins σ Q (.str z tk) { st with toks := tk2 } := fun z tk tk2 e => by
    subst e
    exact ⟨.str (noughts k), H, I.kept (t' := tk2) fun _ _ z => z, ⟨tk, rfl⟩, q⟩
  refine P.mul_str ?_ ?_ ?_ ?_
  · rcases cases_ with rfl | rfl | rfl | rfl <;> decide +kernel
  · rcases cases_ with rfl | rfl | rfl | rfl <;> decide +kernel
  · rcases cases_ with rfl | rfl | rfl | rfl <;> decide +kernel
  · rcases cases_ with rfl | rfl | rfl | rfl
    · rw [if_neg (by decide), if_pos (by decide +kernel)]
      exact ⟨.str (noughts 1), H, I, ⟨t, rfl⟩, q⟩
    · rw [if_neg (by decide), if_neg (by decide +kernel)]
      exact ⟨by decide +kernel, fin _ _ _ (by decide +kernel)⟩
    · rw [if_neg (by decide), if_neg (by decide +kernel)]
      exact ⟨by decide +kernel, fin _ _ _ (by decide +kernel)⟩
    · rw [if_neg (by decide), if_neg (by decide +kernel)]
      exact ⟨by decide +kernel, fin _ _ _ (by decide +kernel)⟩
end
/-! ### calls with keywords -/
structure CalN (P : Program) (w : World) (K : PySem.W.Frag) (mg : Str → Option Value) (base : Heap) (CX : CXT) (k n : Nat) (x : Str) (ps ks : List Str) (gV : List V → List V → List V) (sp : Sp) : Prop where
  ex : ∃ (f : Addr) (fd : FuncData) (g : List Value → List Value → List Value), mg x = some (.ref f) ∧ PySem.W.keepIn K (.ref f) = true ∧ KBn K fd ps n ks g gV ∧ FnOk P w K mg base CX k f fd ps sp
section
variable {X : Cx} {CX : CXT} {k j n : Nat} {x : Str} {ps ks : List Str} {gV : List V → List V → List V} {sp : Sp} {e : Expr} {es : List Expr} {kws : List Keyword} {t tk : TA} {E : XK} {p pos : Pos}
theorem pe_callN0 (c : CalN X.prog X.w X.K X.mg X.base CX k 0 x ps ks gV sp) (hr : Room j X.A) (hx : Passes CX X E) (hkw : PK X kws tk) (hk : k ≤ j := by decide) (hg : Gl X x := by rfl)
    (hal : (backToKw pos (keywordEach kws X.env)).all (·.1.isSome) = true := by rfl) (hky : (backToKw pos (keywordEach kws X.env)).filterMap (·.1) = ks := by rfl) (hdb : (x == ("__debug__" : Str)) = false := by decide)
    (hnp : ((backTo pos (starEach [] X.env)).any (·.1) || (backToKw pos (keywordEach kws X.env)).any (·.1.isNone)) = false := by rfl) :
    PE X (.Call (.Name x p) [] kws pos) (tCallN 0 ks.length sp gV E tNil tk) := by
  obtain ⟨f, fd, g, h1, h2, h3, h4⟩ := c.ex
  refine ⟨fun pins s σ H Q I h => wpAny_Call_Name_kw (ld_glob I hg h1 ?_ hdb)⟩
  refine PySem.W.callWith_KW0 (h₀ := X.base) I.ok.mod.kin h2 hal ?_ hnp
  refine thn (hkw.run pos pins s σ H _ I h) fun ws s2 ⟨zs, H2, I2, rz, _, l2, q2⟩ => ⟨I2.kIn, ?_⟩
  rw [hky]
  exact run_fnN (us := []) (vs := []) h4 (hr.mono hk) h3 hx I2 .nil rz rfl l2 q2
theorem pe_callNn (c : CalN X.prog X.w X.K X.mg X.base CX k n x ps ks gV sp) (hr : Room j X.A) (hx : Passes CX X E) (ha : PA X (e :: es) t) (hkw : PK X kws tk) (hk : k ≤ j := by decide) (hg : Gl X x := by rfl)
    (hal : (backToKw pos (keywordEach kws X.env)).all (·.1.isSome) = true := by rfl) (hky : (backToKw pos (keywordEach kws X.env)).filterMap (·.1) = ks := by rfl) (hdb : (x == ("__debug__" : Str)) = false := by decide)
    (he : starEach (e :: es) X.env = (false, eval e X.env) :: starEach es X.env := by rfl)
    (hnp : ((backTo pos (starEach (e :: es) X.env)).any (·.1) || (backToKw pos (keywordEach kws X.env)).any (·.1.isNone)) = false := by rfl) : PE X (.Call (.Name x p) (e :: es) kws pos) (tCallN n ks.length sp gV E t tk) := by
  obtain ⟨f, fd, g, h1, h2, h3, h4⟩ := c.ex
  exact pe_callN h4 (hr.mono hk) hg h1 h2 h3 hx ha hkw hal hky hdb he hnp
end
end Kx
/-! what is heard of a call -/
namespace K3
open PySem PySem.Spec PyProof.Rows L2 Kx RZ
theorem takes_len {X : Cx} {W : WX} (t : Takes X W) : Takes X fun c d σ H => σ.length = X.N.length → W c d σ H := fun u s ⟨x, B, o, pins, σ, H, cls, d, e, I, r1, r2, r3, r4, r5, r6, q⟩ => t u s ⟨x, B, o, pins, σ, H, cls, d, e, I, r1, r2, r3, r4, r5, r6, q I.len⟩
/-- v shows as the text of dt -/
structure ShowD (K : PySem.W.Frag) (H : Hp) (v : V) (dt : PyData) : Prop where
  dp : Dp K H v dt
  sh : dt.showable = true
  nd : dt.hasDict = false
  deep : dt.depth ≤ 60
  fit : dt.shown.length ≤ sizeLine
/-- what is heard of an error -/
def Out (K : PySem.W.Frag) (a : Ad) (C : Addr) (cls : Value) (d : Option Addr) (H : Hp) (Q : VK) : Prop := ∃ dd, d = some dd ∧
  ((cls = .ref a.cR ∧ ∃ i : Int, H dd = some (.xd [("at", .int i)]) ∧ ∀ p H2, Same H H2 → SqT K H2 p [.str "row", .int i, .bl true] → Q (.ref p) H2) ∨
  (cls = .ref a.cS ∧ ∃ i : Int, H dd = some (.xd [("at", .int i)]) ∧ ∀ p H2, Same H H2 → SqT K H2 p [.str "showing", .int i, .bl true] → Q (.ref p) H2) ∨
  (cls = .ref a.cF ∧ ∃ v, H dd = some (.xd [("at", v)]) ∧ ((∃ c rs es, v = .ref c ∧ CnAt K C H c rs es ∧ ∀ p H2, Same H H2 → SqT K H2 p [.str "refused", .ref c, .bl true] → Q (.ref p) H2) ∨
    (Kn K H v ∧ ∃ dt, ShowD K H v dt ∧ ∀ p H2, Same H H2 → SqT K H2 p [.str "refused", .str dt.shown, .bl true] → Q (.ref p) H2))) ∨
  (cls = .ref a.cG ∧ ∃ i : Int, H dd = some (.xd [("most", .int i)]) ∧ ∀ p H2, Same H H2 → SqT K H2 p [.str "great", .int i, .bl true] → Q (.ref p) H2) ∨
  (cls = .ref a.cD ∧ ∃ v dt, H dd = some (.xd [("deed", v)]) ∧ ShowD K H v dt ∧ ∀ p H2, Same H H2 → SqT K H2 p [.str "deed", .str dt.shown] → Q (.ref p) H2))
/-- what is heard of a call tl -/
def TTh (K : PySem.W.Frag) (a : Ad) (C : Addr) : (XK → Hp → VK → Prop) → Hp → VK → Prop := fun tl H Q => tl (fun cls d H' => Out K a C cls d H' Q) H (fun _ H' => Q .non H')
/-- the errors as they are caught and asked -/
structure Hd (K : PySem.W.Frag) (mg : Str → Option Value) (a : Ad) (C cW : Addr) : Prop where
  g_W : mg "WitnessError" = some (.ref cW)
  g_R : mg "BadRow" = some (.ref a.cR)
  g_S : mg "BadShowing" = some (.ref a.cS)
  g_F : mg "Refused" = some (.ref a.cF)
  g_G : mg "TooGreat" = some (.ref a.cG)
  g_D : mg "NoDeed" = some (.ref a.cD)
  x_R : XfC K a.cR
  x_S : XfC K a.cS
  x_F : XfC K a.cF
  x_G : XfC K a.cG
  x_D : XfC K a.cD
  n_R : PySem.W.findIn K (.ref a.cR) "at" = some none
  n_S : PySem.W.findIn K (.ref a.cS) "at" = some none
  n_F : PySem.W.findIn K (.ref a.cF) "at" = some none
  n_G : PySem.W.findIn K (.ref a.cG) "most" = some none
  n_D : PySem.W.findIn K (.ref a.cD) "deed" = some none
  e_R : ExcC K a.cR
  e_S : ExcC K a.cS
  e_F : ExcC K a.cF
  e_G : ExcC K a.cG
  k_R : PySem.W.kitOne K (.ref a.cR) (.ref cW) = some true
  k_S : PySem.W.kitOne K (.ref a.cS) (.ref cW) = some true
  k_F : PySem.W.kitOne K (.ref a.cF) (.ref cW) = some true
  k_G : PySem.W.kitOne K (.ref a.cG) (.ref cW) = some true
  m_RR : PySem.W.exmOne K (.ref a.cR) (.ref a.cR) = some true
  m_SR : PySem.W.exmOne K (.ref a.cS) (.ref a.cR) = some false
  m_SS : PySem.W.exmOne K (.ref a.cS) (.ref a.cS) = some true
  m_FR : PySem.W.exmOne K (.ref a.cF) (.ref a.cR) = some false
  m_FS : PySem.W.exmOne K (.ref a.cF) (.ref a.cS) = some false
  m_FF : PySem.W.exmOne K (.ref a.cF) (.ref a.cF) = some true
  m_GR : PySem.W.exmOne K (.ref a.cG) (.ref a.cR) = some false
  m_GS : PySem.W.exmOne K (.ref a.cG) (.ref a.cS) = some false
  m_GF : PySem.W.exmOne K (.ref a.cG) (.ref a.cF) = some false
  m_GG : PySem.W.exmOne K (.ref a.cG) (.ref a.cG) = some true
  m_DR : PySem.W.exmOne K (.ref a.cD) (.ref a.cR) = some false
  m_DS : PySem.W.exmOne K (.ref a.cD) (.ref a.cS) = some false
  m_DF : PySem.W.exmOne K (.ref a.cD) (.ref a.cF) = some false
  m_DG : PySem.W.exmOne K (.ref a.cD) (.ref a.cG) = some false
  m_DD : PySem.W.exmOne K (.ref a.cD) (.ref a.cD) = some true
  not_non : PySem.W.kitOne K (.type "NoneType") (.ref C) = some false
  not_bl : PySem.W.kitOne K (.type "bool") (.ref C) = some false
  not_int : PySem.W.kitOne K (.type "int") (.ref C) = some false
  not_str : PySem.W.kitOne K (.type "str") (.ref C) = some false
  not_lst : PySem.W.kitOne K (.type "list") (.ref C) = some false
  not_tup : PySem.W.kitOne K (.type "tuple") (.ref C) = some false
/-- isinstance(e, c), whatever the error's class is said to be -/
theorem call_isEw {X : Cx} {x D : Addr} {oe : Obj} {cls : Value} {d : Option Addr} {pn : List (Addr × Obj)} (C : ExcC X.K D) (hz : Zc cls d oe) (hf : ∃ vs, oe.data = .fields vs) :
    CallR (X.suite x ((x, oe) :: pn)) (.builtin "isinstance") (fun xs H Q => cls = .ref D ∧ (∃ dd, d = some dd ∧ ∃ fs, H dd = some (.xd fs)) ∧ rIsE X.K D x xs H Q) := by
  rintro pins s σ H xs us Q I r h
  obtain ⟨rfl, ⟨dd, rfl, fs, h1⟩, h2⟩ := h
  exact call_isEd C hz hf pins s σ H xs us Q I r ⟨⟨fs, h1⟩, h2⟩
theorem kn_not {K : PySem.W.Frag} {mg : Str → Option Value} {a : Ad} {C cW : Addr} {H : Hp} {v : V} (T : Hd K mg a C cW) (h : Kn K H v) : ∃ t, TyX K H v t ∧ PySem.W.kitOne K t (.ref C) = some false := by
  cases h with
  | non => exact ⟨_, .base .non, T.not_non⟩
  | bl b => exact ⟨_, .base (.bl b), T.not_bl⟩
  | int i => exact ⟨_, .base (.int i), T.not_int⟩
  | str x => exact ⟨_, .base (.str x), T.not_str⟩
  | seq q =>
    rcases q with q | q
    · exact ⟨_, tyx_list q, T.not_lst⟩
    · exact ⟨_, tyx_tuple q, T.not_tup⟩
section
variable {P : Program} {w : World} {K : PySem.W.Frag} {mg : Str → Option Value} {base : Heap} {f : Addr} {fd : FuncData} {a : Ad} {C CM cW : Addr}
theorem sc_law_heard : FnScope ["ask", "e"] ["ask"] (defScope s_law_heard) := ⟨rfl, rfl, rfl, by decide +kernel, rfl, by decide +kernel, by decide +kernel⟩
theorem heard_gives {X : Cx} {g : Addr} {cdg : Value} {k : Nat} {q : Str} (T : Mg X.mg) (TC : ClsC X.K X.mg C) (D : Hd X.K X.mg a C cW) (lone : Lone X.A) (hr : Room (k + 2) X.A) :
    LamX.GivesTo X ["ask", "e"] "_law_heard" (defScope s_law_heard) g cdg (defBody s_law_heard) "ask" q (TTh X.K a C) := by
  intro fl c' s H Q tl act hc h
  have hr1 : Room (k + 1) (X.A.deeper (envOfC "_law_heard" (defScope s_law_heard) s.heap.objs.size g cdg)) := hr.deeper _
  have un := hr1.un
  have cs : ∀ (x : Addr) (ob : Obj) (pn : List (Addr × Obj)), CallR ((cxOf C8.CX0 X.prog X.w X.K X.mg X.base ["ask", "e"] "_law_heard" (defScope s_law_heard) g cdg X.A X.stack s H C8.E0).nox.suite x ((x, ob) :: pn)) (.builtin "repr") (rShow X.K) :=
    fun x ob pn => call_show lone (by show (X.A.deeper (envOfC "_law_heard" (defScope s_law_heard) s.heap.objs.size g cdg)).units + 64 < _; omega)
  have ci : ∀ (x : Addr) (ob : Obj) (pn : List (Addr × Obj)), CallR ((cxOf C8.CX0 X.prog X.w X.K X.mg X.base ["ask", "e"] "_law_heard" (defScope s_law_heard) g cdg X.A X.stack s H C8.E0).nox.suite x ((x, ob) :: pn)) (.builtin "isinstance") (rIsi X.K) := fun x ob pn => call_isi
  refine ⟨_, pss_cons (ps_tries (W := fun _ _ _ _ => False)
      (tb := fun U E σ H => ∃ Ech : XK, (∀ cls d σ' H', Ech cls d H' → σ'.length = 2 → U cls d σ' H') ∧ σ[0]? = some (some (.ref fl)) ∧ H c' = some (LamX.CodeO c' q) ∧ tl Ech H (fun _ H' => E.nx σ H'))
      rfl rfl LamX.takes0 (fun U pn xe tk own => ?_)
      (Clauses.cons (i := 1) sc_law_heard.nd rfl rfl ⟨rfl, by decide, .inl D.g_R⟩
        (fun x ob cls d pn hz hf => pss_one (ps_ret (pe_tup (pa_cons pe_str (pa_cons (pe_xf D.x_R D.n_R hz hf (pv 1)) (pa_cons (pe_callB (call_isEw D.e_R hz hf) (by rfl) T.z_isinstance (by decide +kernel) (pa_cons (pv 1) (pa_cons (pe_glob (v := V.ref cW) rfl D.g_W rfl) pa_nil))) pa_nil))))))
      (Clauses.cons (i := 1) sc_law_heard.nd rfl rfl ⟨rfl, by decide, .inl D.g_S⟩
        (fun x ob cls d pn hz hf => pss_one (ps_ret (pe_tup (pa_cons pe_str (pa_cons (pe_xf D.x_S D.n_S hz hf (pv 1)) (pa_cons (pe_callB (call_isEw D.e_S hz hf) (by rfl) T.z_isinstance (by decide +kernel) (pa_cons (pv 1) (pa_cons (pe_glob (v := V.ref cW) rfl D.g_W rfl) pa_nil))) pa_nil))))))
      (Clauses.cons (i := 1) sc_law_heard.nd rfl rfl ⟨rfl, by decide, .inl D.g_F⟩
        (fun x ob cls d pn hz hf => pss_one (ps_ret (pe_tup (pa_cons pe_str (pa_cons (pe_ifExp (pt_val (pe_callB (ci x ob pn) (by rfl) T.z_isinstance (by decide +kernel) (pa_cons (pe_xf D.x_F D.n_F hz hf (pv 1)) (pa_cons (pe_glob (v := V.ref C) rfl TC.at_ rfl) pa_nil)))) (pe_xf D.x_F D.n_F hz hf (pv 1)) (pe_callB (cs x ob pn) (by rfl) T.z_repr (by decide +kernel) (pa_cons (pe_xf D.x_F D.n_F hz hf (pv 1)) pa_nil))) (pa_cons (pe_callB (call_isEw D.e_F hz hf) (by rfl) T.z_isinstance (by decide +kernel) (pa_cons (pv 1) (pa_cons (pe_glob (v := V.ref cW) rfl D.g_W rfl) pa_nil))) pa_nil))))))
      (Clauses.cons (i := 1) sc_law_heard.nd rfl rfl ⟨rfl, by decide, .inl D.g_G⟩
        (fun x ob cls d pn hz hf => pss_one (ps_ret (pe_tup (pa_cons pe_str (pa_cons (pe_xf D.x_G D.n_G hz hf (pv 1)) (pa_cons (pe_callB (call_isEw D.e_G hz hf) (by rfl) T.z_isinstance (by decide +kernel) (pa_cons (pv 1) (pa_cons (pe_glob (v := V.ref cW) rfl D.g_W rfl) pa_nil))) pa_nil))))))
      (Clauses.cons (i := 1) sc_law_heard.nd rfl rfl ⟨rfl, by decide, .inl D.g_D⟩
        (fun x ob cls d pn hz hf => pss_one (ps_ret (pe_tup (pa_cons pe_str (pa_cons (pe_callB (cs x ob pn) (by rfl) T.z_repr (by decide +kernel) (pa_cons (pe_xf D.x_D D.n_D hz hf (pv 1)) pa_nil)) pa_nil)))))
      Clauses.nil))))))
    (pss_one (ps_ret pe_non)), ?_⟩
  · refine ⟨fun pins s' σ H' E I h' => ?_⟩
    rcases h' with ⟨Ech, hW, h1, h2, h3⟩
    have hp := fun p1 p2 => act (fun c d σ H => σ.length = _ → U c d σ H) pn xe Ech p1 p2 (takes_len tk) (fun cls d σ' H' he hlen => hW cls d σ' H' he hlen)
    exact (pss_one (ps_expr (hp _ _))).run pins s' σ H' E I ⟨h1, h2, h3⟩
  · refine ⟨fun cls d H' => Out X.K a C cls d H' Q, ?_, rfl, hc, h⟩
    rintro cls d σ' H' ⟨dd, rfl, o⟩ hlen
    obtain ⟨v0, v1, rfl⟩ : ∃ v0 v1, σ' = [v0, v1] := by
      match σ', hlen with
      | [v0, v1], _ => exact ⟨v0, v1, rfl⟩
    have no : ∀ {P : Prop}, true = false → P := fun z => nomatch z
    have no' : ∀ {P : Prop}, false = true → P := fun z => nomatch z
    rcases o with ⟨rfl, i, hd, k⟩ | ⟨rfl, i, hd, k⟩ | ⟨rfl, v, hd, k⟩ | ⟨rfl, i, hd, k⟩ | ⟨rfl, v, dt, hd, sd, k⟩
    · refine ⟨true, D.m_RR, fun _ x hx => ?_, no⟩
      exact ⟨_, rfl, rfl, rfl, dd, _, _, rfl, hd, rfl, _, rfl, rfl, ⟨dd, rfl, _, hd⟩, _, _, true, rfl, fun u r => r, D.k_R, (by show 3 ≤ sizeLine; decide), fun p hp => k p _ (same_new hp) (SqT.of upd_same)⟩
    · refine ⟨false, D.m_SR, no', fun _ => ⟨true, D.m_SS, fun _ x hx => ?_, no⟩⟩
      exact ⟨_, rfl, rfl, rfl, dd, _, _, rfl, hd, rfl, _, rfl, rfl, ⟨dd, rfl, _, hd⟩, _, _, true, rfl, fun u r => r, D.k_S, (by show 3 ≤ sizeLine; decide), fun p hp => k p _ (same_new hp) (SqT.of upd_same)⟩
    · refine ⟨false, D.m_FR, no', fun _ => ⟨false, D.m_FS, no', fun _ => ⟨true, D.m_FF, fun _ x hx => ?_, no⟩⟩⟩
      rcases k with ⟨c, rs, es, rfl, hcn, k⟩ | ⟨kn, dt, sd, k⟩
      · refine ⟨_, rfl, rfl, rfl, dd, _, _, rfl, hd, rfl, _, _, _, _, true, rfl, .own C, ty_cn TC hcn, TC.yes, true, rfl, iteT ?_⟩
        exact ⟨_, rfl, rfl, rfl, dd, _, _, rfl, hd, rfl, _, rfl, rfl, ⟨dd, rfl, _, hd⟩, _, _, true, rfl, fun u r => r, D.k_F, (by show 3 ≤ sizeLine; decide), fun p hp => k p _ (same_new hp) (SqT.of upd_same)⟩
      · obtain ⟨t, ty, kt⟩ := kn_not D kn
        refine ⟨_, rfl, rfl, rfl, dd, _, _, rfl, hd, rfl, _, _, _, _, false, rfl, .own C, ty, kt, false, rfl, iteF ?_⟩
        exact ⟨_, rfl, rfl, rfl, dd, _, _, rfl, hd, rfl, _, dt, rfl, sd.dp, sd.sh, sd.nd, sd.deep, sd.fit, _, rfl, rfl, ⟨dd, rfl, _, hd⟩, _, _, true, rfl, fun u r => r, D.k_F, (by show 3 ≤ sizeLine; decide), fun p hp => k p _ (same_new hp) (SqT.of upd_same)⟩
    · refine ⟨false, D.m_GR, no', fun _ => ⟨false, D.m_GS, no', fun _ => ⟨false, D.m_GF, no', fun _ => ⟨true, D.m_GG, fun _ x hx => ?_, no⟩⟩⟩⟩
      exact ⟨_, rfl, rfl, rfl, dd, _, _, rfl, hd, rfl, _, rfl, rfl, ⟨dd, rfl, _, hd⟩, _, _, true, rfl, fun u r => r, D.k_G, (by show 3 ≤ sizeLine; decide), fun p hp => k p _ (same_new hp) (SqT.of upd_same)⟩
    · refine ⟨false, D.m_DR, no', fun _ => ⟨false, D.m_DS, no', fun _ => ⟨false, D.m_DF, no', fun _ => ⟨false, D.m_DG, no', fun _ => ⟨true, D.m_DD, fun _ x hx => ?_, no⟩⟩⟩⟩⟩
      exact ⟨_, rfl, rfl, rfl, dd, _, _, rfl, hd, rfl, _, dt, rfl, sd.dp, sd.sh, sd.nd, sd.deep, sd.fit, (by show 2 ≤ sizeLine; decide), fun p hp => k p _ (same_new hp) (SqT.of upd_same)⟩
end
end K3
/-! how long the texts of data are; a word between two statements; parts of lists -/
namespace Kx
open L2 PySem PySem.Spec PyProof.Rows
/-- behind a statement a word of one's own -/
theorem ps_mid {X : Cx} {st : Stmt} {t : TS} (h : PS X st t) : PS X st fun E σ H => ∃ N : L2.St → Hp → Prop, t { E with nx := N } σ H ∧ ∀ σ' H', N σ' H' → E.nx σ' H' := by
  refine ⟨fun pins s σ H E I ⟨N, q, k⟩ => wpAny_mono (h.run pins s σ H { E with nx := N } I q) (fun f s' z => ?_) fun _ _ z => z⟩
  match f, z with
  | .next, ⟨σ', H', J, n⟩ => exact ⟨σ', H', J, k σ' H' n⟩
  | .brk, z => exact z
  | .cont, z => exact z
  | .ret _, z => exact z
theorem ends_nx {E : Ends} {N : L2.St → Hp → Prop} : ({ E with nx := N } : Ends).nx = N := rfl
section
variable {xs : List V} {i : Nat}
theorem cut_to (h : i ≤ xs.length) : cutV xs none (some (i : Int)) = xs.take i := by
  unfold cutV
  rw [HT.sIx_none, HT.sIx_nat, List.drop_zero, Nat.sub_zero, Nat.min_eq_left h]
theorem cut_from (h : i ≤ xs.length) : cutV xs (some (i : Int)) none = xs.drop i := by
  unfold cutV
  rw [HT.sIx_none, HT.sIx_nat, Nat.min_eq_left h]
  exact List.take_of_length_le (by rw [List.length_drop]; exact Nat.le_refl _)
end
/-- d shows, within m levels, as a text of at most L signs -/
structure OkD (m L : Nat) (d : PyData) : Prop where
  sh : d.showable = true
  nd : d.hasDict = false
  deep : d.depth ≤ m
  fit : d.shown.length ≤ L
structure OkA (m L : Nat) (ds : List PyData) : Prop where
  sh : PyData.showableAll ds = true
  nd : PyData.hasDictAll ds = false
  deep : PyData.depthAll ds ≤ m
  fit : piled (PyData.shownAll ds) ≤ L
theorem OkD.mono {m n L M : Nat} {d : PyData} (h : OkD m L d) (h1 : m ≤ n) (h2 : L ≤ M) : OkD n M d := ⟨h.sh, h.nd, Nat.le_trans h.deep h1, Nat.le_trans h.fit h2⟩
theorem OkA.mono {m n L M : Nat} {d : List PyData} (h : OkA m L d) (h1 : m ≤ n) (h2 : L ≤ M) : OkA n M d := ⟨h.sh, h.nd, Nat.le_trans h.deep h1, Nat.le_trans h.fit h2⟩
theorem okD_int {i : Int} (h : i.natAbs < 2 ^ 200) : OkD 0 1921 (.int i) := by
  have lg : i.natAbs.log2 < 1920 := by
    by_cases z : i.natAbs = 0
    · rw [z]
      decide
    · exact (Nat.log2_lt z).mpr (Nat.lt_of_lt_of_le h (Nat.pow_le_pow_right (by decide) (by decide)))
  refine ⟨?_, by simp only [PyData.hasDict], by simp only [PyData.depth]; exact Nat.le_refl _, ?_⟩
  · simp only [PyData.showable]
    exact decide_eq_true lg
  · simp only [PyData.shown]
    exact int_text_len_1921 lg
theorem okD_small {i : Int} (h : -1000000 ≤ i ∧ i ≤ 1000000) : OkD 0 1921 (.int i) := okD_int (Nat.lt_of_lt_of_le (show i.natAbs < 2 ^ 20 by omega) (Nat.pow_le_pow_right (by decide) (by decide)))
theorem okD_non : OkD 0 4 .none := ⟨rfl, by simp only [PyData.hasDict], by simp only [PyData.depth]; exact Nat.le_refl _, by decide +kernel⟩
theorem okD_bl (b : Bool) : OkD 0 5 (.bool b) := ⟨rfl, by simp only [PyData.hasDict], by simp only [PyData.depth]; exact Nat.le_refl _, by cases b <;> decide +kernel⟩
theorem okD_str {z : Str} {L : Nat} (h : (reprText z).length ≤ L) : OkD 0 L (.str z) := ⟨rfl, by simp only [PyData.hasDict], by simp only [PyData.depth]; exact Nat.le_refl _, by simp only [PyData.shown]; exact h⟩
theorem okA_nil {m : Nat} : OkA m 0 [] := ⟨by simp only [PyData.showableAll], by simp only [PyData.hasDictAll], by simp only [PyData.depthAll]; exact Nat.zero_le _, by simp only [PyData.shownAll]; exact Nat.le_refl _⟩
theorem okA_cons {m L M : Nat} {d : PyData} {ds : List PyData} (h : OkD m L d) (k : OkA m M ds) : OkA m (L + 2 + M) (d :: ds) := by
  refine ⟨?_, ?_, ?_, ?_⟩
  · simp only [PyData.showableAll, h.sh, k.sh, Bool.and_self]
  · simp only [PyData.hasDictAll, h.nd, k.nd, Bool.or_self]
  · simp only [PyData.depthAll]
    exact Nat.max_le.mpr ⟨h.deep, k.deep⟩
  · simp only [PyData.shownAll]
    rw [piled_cons]
    have := h.fit
    have := k.fit
    omega
theorem textFrom_most : ∀ (ts : List Str) (k : Nat) (acc : Str), (textFrom k acc ts).length ≤ acc.length + piled ts
  | [], k, acc => Nat.le_refl _
  | t :: r, k, acc => by
    have ih := textFrom_most r (k + 1) (acc ++ (if k > 0 then ", " else "" : String) ++ t)
    rw [strLen_append, strLen_append] at ih
    have e : (((if k > 0 then ", " else "" : String) : Str)).length ≤ 2 := by split <;> decide
    rw [piled_cons]
    change (textFrom (k + 1) _ r).length ≤ _
    omega
theorem okD_list {m L : Nat} {ds : List PyData} (h : OkA m L ds) : OkD (m + 1) (L + 4) (.list ds) := by
  refine ⟨by simp only [PyData.showable]; exact h.sh, by simp only [PyData.hasDict]; exact h.nd, by simp only [PyData.depth]; exact Nat.succ_le_succ h.deep, ?_⟩
  simp only [PyData.shown]
  unfold listText
  have := textFrom_most (PyData.shownAll ds) 0 "["
  have e1 : (("[" : String) : Str).length = 1 := rfl
  have e2 : (("]" : String) : Str).length = 1 := rfl
  have := h.fit
  rw [strLen_append, e2]
  have e3 : (Str.ofString "[").length = 1 := rfl
  omega
theorem okD_tuple {m L : Nat} {ds : List PyData} (h : OkA m L ds) : OkD (m + 1) (L + 4) (.tuple ds) := by
  refine ⟨by simp only [PyData.showable]; exact h.sh, by simp only [PyData.hasDict]; exact h.nd, by simp only [PyData.depth]; exact Nat.succ_le_succ h.deep, ?_⟩
  simp only [PyData.shown]
  unfold tupleText
  have e1 : (("(" : String) : Str).length = 1 := rfl
  have e3 : (((if (PyData.shownAll ds).length == 1 then ",)" else ")" : String) : Str)).length ≤ 2 := by split <;> decide
  have := h.fit
  simp only [strLen_append, e1]
  by_cases z : PyData.shownAll ds = []
  · have e4 : (Str.join ", " (PyData.shownAll ds)).length = 0 := by rw [z]; rfl
    omega
  · have := join_length_add _ z
    omega
theorem okA_ints : ∀ {ns : List Int}, (∀ n ∈ ns, -1000000 ≤ n ∧ n ≤ 1000000) → OkA 0 (1923 * ns.length) (ns.map PyData.int)
  | [], _ => okA_nil
  | n :: ns, h => (okA_cons (okD_small (h n List.mem_cons_self)) (okA_ints fun x hx => h x (List.mem_cons_of_mem _ hx))).mono (Nat.le_refl _) (by rw [List.length_cons]; omega)
theorem okD_nums {ns : List Int} (h : ∀ n ∈ ns, -1000000 ≤ n ∧ n ≤ 1000000) (l : ns.length ≤ 8) : OkD 1 15400 (dNums ns) := (okD_tuple (okA_ints h)).mono (Nat.le_refl _) (by omega)
theorem okA_rows : ∀ {rs : List (List Int)}, (∀ r ∈ rs, r.length ≤ 8 ∧ ∀ n ∈ r, -1000000 ≤ n ∧ n ≤ 1000000) → OkA 1 (15402 * rs.length) (rs.map dNums)
  | [], _ => okA_nil
  | r :: rs, h => (okA_cons (okD_nums (h r List.mem_cons_self).2 (h r List.mem_cons_self).1) (okA_rows fun x hx => h x (List.mem_cons_of_mem _ hx))).mono (Nat.le_refl _) (by rw [List.length_cons]; omega)
theorem okD_rows {rs : List (List Int)} (h : ∀ r ∈ rs, r.length ≤ 8 ∧ ∀ n ∈ r, -1000000 ≤ n ∧ n ≤ 1000000) (l : rs.length ≤ 1000) : OkD 2 15402004 (dRows rs) := (okD_tuple (okA_rows h)).mono (Nat.le_refl _) (by omega)
end Kx
/-! rows, as the law asks them -/
namespace K3
open PySem PySem.Spec PyProof.Rows L2 Kx RZ
def kw1 : List V → List V → List V := fun _ zs => [zs.getD 0 .non]
def kw2 : List V → List V → List V := fun _ zs => [zs.getD 1 .non, zs.getD 0 .non]
def kw3 : List V → List V → List V := fun _ zs => [zs.getD 2 .non, zs.getD 1 .non, zs.getD 0 .non]
/-- the program's functions, as the law calls them -/
structure Fns (P : Program) (w : World) (K : PySem.W.Frag) (mg : Str → Option Value) (base : Heap) (a : Ad) (C CM : Addr) : Prop where
  take : Cal P w K mg base CX0 1 "_law_take" ["box", "many"] spTake
  pick : Cal P w K mg base CX0 2 "_law_pick" ["box", "some"] (spPick K)
  box : Cal P w K mg base CX0 1 "_law_box" ["script", "k"] (spBox K)
  lshows : Cal P w K mg base CX0 2 "_law_shows" ["rounds", "rests", "row"] (spLawShows K)
  lall : Cal P w K mg base CX0 1 "_law_all" ["rounds", "rests"] (spLawAll K)
  shown : Cal P w K mg base (L2.CX P w) 5 "shown" ["counters", "row"] (spShown K a C)
  shownK : CalN P w K mg base (L2.CX P w) 5 0 "shown" ["counters", "row"] ["row", "counters"] kw2 (spShown K a C)
  check : Cal P w K mg base (L2.CX P w) 4 "check_showing" ["counters", "value"] (spCheck K a C)
  checkK : CalN P w K mg base (L2.CX P w) 4 0 "check_showing" ["counters", "value"] ["value", "counters"] kw2 (spCheck K a C)
  on : Cal P w K mg base (L2.CX P w) 5 "shown_on" ["counters", "showing", "deed"] (spShownOn K a C)
  onK : CalN P w K mg base (L2.CX P w) 5 0 "shown_on" ["counters", "showing", "deed"] ["deed", "showing", "counters"] kw3 (spShownOn K a C)
  num : Cal P w K mg base (L2.CX P w) 4 "shown_number" ["counters", "kind", "many"] (spShownNumber K a C)
  numK : CalN P w K mg base (L2.CX P w) 4 0 "shown_number" ["counters", "kind", "many"] ["many", "kind", "counters"] kw3 (spShownNumber K a C)
  fin : Cal P w K mg base CX0 1 "is_finite" ["counters"] (spFinite K C)
  finK : CalN P w K mg base CX0 1 0 "is_finite" ["counters"] ["counters"] kw1 (spFinite K C)
  many : Cal P w K mg base (L2.CX P w) 4 "showings_many" ["counters"] (spMany K a C)
  manyK : CalN P w K mg base (L2.CX P w) 4 0 "showings_many" ["counters"] ["counters"] kw1 (spMany K a C)
  allM : CalN P w K mg base (L2.CX P w) 5 1 "all_showings" ["counters", "most"] ["most"] (fun vs zs => vs ++ zs) (spAll K a C)
  allK : CalN P w K mg base (L2.CX P w) 5 0 "all_showings" ["counters", "most"] ["most", "counters"] kw2 (spAll K a C)
  fit : Cal P w K mg base (L2.CX P w) 3 "need_fit" ["machine", "counters"] (spNeedFit K a C CM)
  fitK : CalN P w K mg base (L2.CX P w) 3 0 "need_fit" ["machine", "counters"] ["counters", "machine"] kw2 (spNeedFit K a C CM)
/-- nothing is raised here -/
theorem pz {X : Cx} : Passes (L2.CX X.prog X.w) X fun _ _ _ => False := passes_call LamX.takes0 fun _ _ _ _ z => z
theorem shows_range {r e n : Int} (hr : 0 ≤ r) (he : 0 ≤ e) (hn : 0 ≤ n) : 0 ≤ shows r e n ∧ (r ≠ 0 → shows r e n < e + r) ∧ shows r e n ≤ n := by
  unfold shows
  by_cases h : r = 0 ∨ n < e
  · rw [if_pos h]
    exact ⟨hn, fun z => by omega, Int.le_refl _⟩
  · rw [if_neg h]
    have m0 := Int.emod_nonneg (n - e) (show r ≠ 0 by omega)
    have m1 := Int.emod_lt_of_pos (n - e) (show 0 < r by omega)
    have m2 := Int.emod_add_mul_ediv (n - e) r
    have m3 := Int.mul_nonneg hr (Int.ediv_nonneg (show 0 ≤ n - e by omega) hr)
    omega
theorem shows_same {r e n : Int} (h : r = 0 ∨ n < e + r) (hr : 0 ≤ r) (hn : 0 ≤ n) : shows r e n = n := by
  unfold shows
  by_cases z : r = 0 ∨ n < e
  · rw [if_pos z]
  · rw [if_neg z, Int.emod_eq_of_lt (by omega) (by omega)]
    omega
theorem shows_step {r e n : Int} (hr : 0 ≤ r) (he : 0 ≤ e) (hn : 0 ≤ n) : shows r e (shows r e n + 1) = shows r e (n + 1) := by
  unfold shows
  by_cases h0 : r = 0
  · simp only [h0, true_or, if_true]
  · have hpos : 0 < r := by omega
    by_cases h1 : n < e
    · rw [if_pos (.inr h1 : r = 0 ∨ n < e)]
    · rw [if_neg (by omega : ¬ (r = 0 ∨ n < e))]
      have m0 := Int.emod_nonneg (n - e) h0
      rw [if_neg (by omega)]
      rw [if_neg (by omega)]
      congr 1
      have : e + (n - e) % r + 1 - e = (n - e) % r + 1 := by omega
      rw [this, Int.emod_add_emod]
      congr 1
      omega
theorem allShow_of {rs es row : List Int} (ok : Cok rs es) : AllShow rs es ((showOf rs es row).map V.int) := fun j x hx => by
  have hj : j < rs.length := by
    have := (List.getElem?_eq_some_iff.mp hx).1
    rwa [List.length_map, showOf_length] at this
  rw [showOf_at hj] at hx
  cases hx
  obtain ⟨_, _, b1, _, b3, _⟩ := ok.at_ hj
  obtain ⟨c1, c2, _⟩ := shows_range b1 b3 (Int.natCast_nonneg (row.count (j : Int)))
  unfold canShow
  by_cases z : rs.getD j 0 = 0
  · rw [if_pos z]
    exact decide_eq_true c1
  · rw [if_neg z]
    show (decide _ && decide _) = true
    rw [decide_eq_true c1, decide_eq_true (c2 z)]
    rfl
theorem showArg_good {K : PySem.W.Frag} {a : Ad} {H : Hp} {E : XK} {rs es ns : List Int} {v : V} (h : Long K H v (some (ns.map V.int))) (l : ns.length = rs.length) (all : AllShow rs es (ns.map V.int)) : ShowArg K a H E rs es v (some (ns.map V.int)) where
  long := h
  kn := fun xs q _ x hx => by
    cases q
    obtain ⟨n, _, rfl⟩ := List.mem_map.mp hx
    exact .int n
  far := fun z => by
    rcases z with z | ⟨xs, q, z⟩
    · cases z
    · cases q
      rw [List.length_map] at z
      exact absurd l z
  near := fun xs i q _ z => by
    cases q
    obtain ⟨x, h1, h2⟩ := z.2
    rw [all i x h1] at h2
    cases h2
theorem row_good {rs row : List Int} (h : ∀ z ∈ row, 0 ≤ z ∧ z < rs.length) (l : row.length ≤ 400) : rowAt rs.length (some (row.map V.int)) = none := by
  show (if (row.map V.int).length ≤ 400 then _ else _) = _
  rw [if_pos (by rw [List.length_map]; exact l), fnb_of h]
  rfl
theorem kns_ints {K : PySem.W.Frag} {H : Hp} {ns : List Int} {m : Nat} : Kns K H (some (ns.map V.int)) m := fun xs q _ x hx => by
  cases q
  obtain ⟨n, _, rfl⟩ := List.mem_map.mp hx
  exact .int n
theorem showOf_nil {rs es : List Int} (ok : Cok rs es) : showOf rs es [] = List.replicate rs.length 0 := by
  unfold showOf
  apply List.ext_getElem
  · simp
  · intro j h1 h2
    have hj : j < rs.length := by simpa using h1
    obtain ⟨_, _, _, _, b3, _⟩ := ok.at_ hj
    simp only [List.getElem_map, List.getElem_range, List.count_nil, List.getElem_replicate]
    exact shows_zero b3
theorem showOf_snoc {rs es row : List Int} {d : Nat} (ok : Cok rs es) (hd : d < rs.length) : (showOf rs es row).set d (shows (rs.getD d 0) (es.getD d 0) ((showOf rs es row).getD d 0 + 1)) = showOf rs es (row ++ [(d : Int)]) := by
  have at_ : (showOf rs es row).getD d 0 = shows (rs.getD d 0) (es.getD d 0) (row.count (d : Int) : Nat) := by
    unfold showOf
    rw [List.getD_eq_getElem?_getD, List.getElem?_map, List.getElem?_range hd] <;> rfl
  obtain ⟨_, _, b1, _, b3, _⟩ := ok.at_ hd
  rw [at_, shows_step b1 b3 (Int.natCast_nonneg _)]
  unfold showOf
  apply List.ext_getElem
  · simp
  · intro j h1 h2
    rw [List.getElem_set]
    simp only [List.getElem_map, List.getElem_range, List.count_append]
    by_cases e : d = j
    · subst e
      rw [if_pos rfl, List.count_singleton_self]
      rfl
    · rw [if_neg e, List.count_singleton, if_neg (by simp only [beq_iff_eq]; omega)]
      rfl
theorem showOf_small {rs es row : List Int} (ok : Cok rs es) (l : row.length ≤ 100000) : ∀ n ∈ showOf rs es row, -1000000 ≤ n ∧ n ≤ 1000000 := fun n hn => by
  unfold showOf at hn
  obtain ⟨j, hj, rfl⟩ := List.mem_map.mp hn
  obtain ⟨_, _, b1, _, b3, _⟩ := ok.at_ (List.mem_range.mp hj)
  have c := shows_range b1 b3 (Int.natCast_nonneg (row.count (j : Int)))
  have := List.count_le_length (a := (j : Int)) (l := row)
  omega
theorem okD_show {rs es row : List Int} (ok : Cok rs es) (l : row.length ≤ 100000) : OkD 1 15400 (dNums (showOf rs es row)) := okD_nums (showOf_small ok l) (by rw [showOf_length]; have := ok.l4; omega)
theorem shows_as {K : PySem.W.Frag} {H : Hp} {v : V} {d : PyData} {m L : Nat} {Q : VK} (h : Dp K H v d) (o : OkD m L d) (hm : m ≤ 60) (hL : L ≤ 16777216) (q : Q (.str d.shown) H) : rShow K [v] H Q :=
  ⟨v, d, rfl, h, o.sh, o.nd, Nat.le_trans o.deep hm, by rw [sizeLine_eq]; exact Nat.le_trans o.fit hL, q⟩
theorem _root_.Kx.OkD.d60 {m L : Nat} {d : PyData} (o : OkD m L d) (hm : m ≤ 60 := by decide) : d.depth ≤ 60 := Nat.le_trans o.deep hm
theorem _root_.Kx.OkD.line {m L : Nat} {d : PyData} (o : OkD m L d) (hL : L ≤ 16777216 := by decide) : d.shown.length ≤ sizeLine := by rw [sizeLine_eq]; exact Nat.le_trans o.fit hL
theorem isBel_nat {l k : Nat} (h : k < l) : isBel (l : Int) (.int (k : Int)) = true := by
  unfold isBel
  simp only [decide_eq_true_eq, Bool.and_eq_true]
  omega
theorem ints_inj : ∀ {xs ys : List Int}, xs.map V.int = ys.map V.int → xs = ys
  | [], [], _ => rfl
  | [], _ :: _, h => nomatch h
  | _ :: _, [], h => nomatch h
  | x :: xs, y :: ys, h => by
    rw [List.map_cons] at h
    rw [List.map_cons] at h
    injection h with h1 h2
    cases h1
    rw [ints_inj h2]
theorem Mv.none {b D : Addr} {H H' : Hp} (m : Mv b H H') (h : H' D = none) : H D = none ∧ D ≠ b := by
  have ne : D ≠ b := fun z => by
    obtain ⟨t, ht⟩ := m.2
    rw [z, ht] at h
    cases h
  refine ⟨?_, ne⟩
  cases e : H D with
  | none => rfl
  | some o =>
    have := m.1 D o ne e
    rw [h] at this
    cases this
theorem Mv.put {b D : Addr} {H H' : Hp} {o : HO} (m : Mv b H H') (h1 : H D = .none) (h2 : D ≠ b) : Mv b H (L2.upd H' D o) := ⟨fun c u ne q => by
  rw [upd_ne (ne_of_none q h1)]
  exact m.1 c u ne q, by
  obtain ⟨t, ht⟩ := m.2
  exact ⟨t, by rw [upd_ne (Ne.symm h2)]; exact ht⟩⟩
theorem rep_one {x : Nat} {r : Int} : (List.replicate x [V.int r]).flatten = (List.replicate x r).map V.int := by rw [List.flatten_replicate_singleton, List.map_replicate]
def spRowRight (K : PySem.W.Frag) (C : Addr) : Sp := fun vs H Q _ => ∃ (b c p q : Addr) (t : Int × Int × Int) (rs es : List Int), vs = [.ref b, .ref c, .ref p, .ref q] ∧ H b = some (bx t) ∧ CnAt K C H c rs es ∧ SqT K H p (rs.map V.int) ∧ SqT K H q (es.map V.int) ∧
  ∀ H', Mv b H H' → Q (.bl true) H'
section
variable {P : Program} {w : World} {K : PySem.W.Frag} {mg : Str → Option Value} {base : Heap} {f : Addr} {fd : FuncData} {a : Ad} {C CM cW : Addr}
theorem sc_law_row_right : FnScope ["box", "counters", "rounds", "rests", "kinds", "row", "here", "at", "due", "kind", "many", "far", "turn"] ["box", "counters", "rounds", "rests"] (defScope s_law_row_right) := ⟨rfl, rfl, rfl, by decide +kernel, rfl, by decide +kernel, by decide +kernel⟩
theorem ok_row_right (F : FnP K "_law_row_right" s_law_row_right f fd) (T : Mg mg) (TC : ClsC K mg C) (B : Fns P w K mg base a C CM) : FnG P w K mg base CX0 6 f fd ["box", "counters", "rounds", "rests"] (spRowRight K C) := by
  refine okG F sc_law_row_right (fun vs H Q E h => ?_) (fun cdv A outer s H vs Q E lone _ hr h => ?_)
  · obtain ⟨b, c, p, q, t, rs, es, rfl, _⟩ := h
    rfl
  · obtain ⟨b, c, p, q, t, rs, es, rfl, hb, hc, hp, hq, k⟩ := h
    have cs : CallR (cxOf CX0 P w K mg base ["box", "counters", "rounds", "rests", "kinds", "row", "here", "at", "due", "kind", "many", "far", "turn"] "_law_row_right" (defScope s_law_row_right) f cdv A outer s H E).nox (.builtin "repr") (rShow K) := call_show lone (r64 hr)
    refine ⟨_, PSs.nox (pss_cons (ps_set (i := 4) sc_law_row_right.nd rfl (by first | exact Or.inl rfl | exact Or.inr rfl) (pe_callB call_len_seq (by rfl) T.z_len PySem.boot_len (pa_cons (pv 2) pa_nil)))
      (pss_cons (ps_mid (ps_set (i := 5) sc_law_row_right.nd rfl (by first | exact Or.inl rfl | exact Or.inr rfl) (pe_op op_cat (pe_lc (own := [("turn", 12)]) (by rfl) sc_law_row_right.nd (pi_range1 (by rfl) T.z_range (pa_cons (pe_callC B.take hr pass0 (pa_cons (pv 0) (pa_cons pe_int pa_nil))) pa_nil)) (blkOk_by (own := [("turn", 12)]) (N := ["box", "counters", "rounds", "rests", "kinds", "row", "here", "at", "due", "kind", "many", "far", "turn"]) (sc := defScope s_law_row_right) (by decide +kernel)) (fun _ _ _ _ _ => (pg_name (i := 12) sc_law_row_right.nd rfl (by first | exact Or.inl rfl | exact Or.inr rfl))) (fun _ _ _ _ _ => pts_nil) (fun _ _ _ _ _ => (pe_callC B.take hr pass0 (pa_cons (pv 0) (pa_cons (pv 4) pa_nil))))) (pe_op op_rep (pe_lst (pa_cons (pe_callC B.take hr pass0 (pa_cons (pv 0) (pa_cons (pv 4) pa_nil))) pa_nil)) (pe_callC B.pick hr pass0 (pa_cons (pv 0) (pa_cons (pe_lst (pa_cons pe_int (pa_cons pe_int (pa_cons pe_int pa_nil)))) pa_nil)))))))
      (pss_cons (ps_set (i := 6) sc_law_row_right.nd rfl (by first | exact Or.inl rfl | exact Or.inr rfl) (pe_op op_times (pe_tup (pa_cons pe_int pa_nil)) (pv 4)))
      (pss_cons (ps_mid (ps_for PassesOwn.never rfl (pi_range1 (by rfl) T.z_range (pa_cons (pe_op op_add (pe_callB call_len_seq (by rfl) T.z_len PySem.boot_len (pa_cons (pv 5) pa_nil)) pe_int) pa_nil)) (pg_name (i := 7) sc_law_row_right.nd rfl (by first | exact Or.inl rfl | exact Or.inr rfl))
        (pss_cons (ps_set (i := 8) sc_law_row_right.nd rfl (by first | exact Or.inl rfl | exact Or.inr rfl) (pe_callC B.lshows hr pass0 (pa_cons (pv 2) (pa_cons (pv 3) (pa_cons (pe_slice sl_list (pv 5) po_none (po_some (pv 7))) pa_nil)))))
        (pss_cons (ps_mid (ps_if (PW.pt (pw_or (pt_cmpR op_lt (pv 7) pe_int (nomark _)) (pw_or1 (pt_cmpR op_eq (pv 7) (pe_callB call_len_seq (by rfl) T.z_len PySem.boot_len (pa_cons (pv 5) pa_nil)) (nomark _)))))
          (pss_cons (ps_mid (ps_if (PW.pt (pw_or (pt_cmpR op_ne (pe_callB cs (by rfl) T.z_repr (by decide +kernel) (pa_cons (pe_callC B.shown hr pz (pa_cons (pv 1) (pa_cons (pe_slice sl_list (pv 5) po_none (po_some (pv 7))) pa_nil))) pa_nil)) (pe_callB cs (by rfl) T.z_repr (by decide +kernel) (pa_cons (pv 8) pa_nil)) (nomark _)) (pw_or (pt_cmpR (op_neNums (r64 hr)) (pe_callN0 B.shownK hr pz (pk_cons (pe_callTy call_tupD (by rfl) T.z_tuple (by decide +kernel) (pa_cons (pe_slice sl_list (pv 5) po_none (po_some (pv 7))) pa_nil)) (pk_cons (pv 1) pk_nil))) (pv 8) (nomark _)) (pw_or1 (pt_cmpR (op_neNums (r64 hr)) (pv 6) (pv 8) (nomark _))))))
            (pss_one (ps_ret pe_bl))
            pss_nil))
          (pss_one (ps_if (PW.pt (pw_or (pt_cmpR op_ne (pe_callB cs (by rfl) T.z_repr (by decide +kernel) (pa_cons (pe_callC B.check hr pz (pa_cons (pv 1) (pa_cons (pe_callTy call_list_of (by rfl) T.z_list (by decide +kernel) (pa_cons (pv 8) pa_nil)) pa_nil))) pa_nil)) (pe_callB cs (by rfl) T.z_repr (by decide +kernel) (pa_cons (pv 8) pa_nil)) (nomark _)) (pw_or1 (pt_cmpR (op_neNums (r64 hr)) (pe_callN0 B.checkK hr pz (pk_cons (pv 8) (pk_cons (pv 1) pk_nil))) (pv 8) (nomark _)))))
            (pss_one (ps_ret pe_bl))
            pss_nil)))
          pss_nil))
        (pss_one (ps_if (pt_cmpR op_lt (pv 7) (pe_callB call_len_seq (by rfl) T.z_len PySem.boot_len (pa_cons (pv 5) pa_nil)) (nomark _))
          (pss_one (ps_set (i := 6) sc_law_row_right.nd rfl (by first | exact Or.inl rfl | exact Or.inr rfl) (pe_ifExp (pt_cmpR op_eq (pe_op op_mod (pe_callTy call_int1 (by rfl) T.z_int (by decide +kernel) (pa_cons (pv 7) pa_nil)) pe_int) pe_int (nomark _)) (pe_callC B.on hr pz (pa_cons (pv 1) (pa_cons (pe_callTy call_list_of (by rfl) T.z_list (by decide +kernel) (pa_cons (pv 6) pa_nil)) (pa_cons (pe_ix ix_list (pv 5) (pv 7) (fun _ _ => rfl)) pa_nil)))) (pe_callN0 B.onK hr pz (pk_cons (pe_ix ix_list (pv 5) (pv 7) (fun _ _ => rfl)) (pk_cons (pv 6) (pk_cons (pv 1) pk_nil)))))))
          pss_nil))))))
      (pss_cons (ps_par (i := 9) (j := 10) (by rfl) sc_law_row_right.nd rfl rfl (by decide) rfl rfl (pa_cons (pe_callC B.take hr pass0 (pa_cons (pv 0) (pa_cons (pv 4) pa_nil))) (pa_cons (pe_callC B.take hr pass0 (pa_cons (pv 0) (pa_cons pe_int pa_nil))) pa_nil)) (by rfl))
      (pss_cons (ps_set (i := 8) sc_law_row_right.nd rfl (by first | exact Or.inl rfl | exact Or.inr rfl) (pe_ix ix_tup (pe_callC B.lshows hr pass0 (pa_cons (pv 2) (pa_cons (pv 3) (pa_cons (pe_op op_times (pe_tup (pa_cons (pv 9) pa_nil)) (pv 10)) pa_nil)))) (pv 9) (fun _ _ => rfl)))
      (pss_cons (ps_if (PW.pt (pw_or (pt_cmpR op_ne (pe_callB cs (by rfl) T.z_repr (by decide +kernel) (pa_cons (pe_callC B.num hr pz (pa_cons (pv 1) (pa_cons (pv 9) (pa_cons (pv 10) pa_nil)))) pa_nil)) (pe_callB cs (by rfl) T.z_repr (by decide +kernel) (pa_cons (pv 8) pa_nil)) (nomark _)) (pw_or1 (pt_cmpR op_ne (pe_callN0 B.numK hr pz (pk_cons (pv 10) (pk_cons (pv 9) (pk_cons (pv 1) pk_nil)))) (pv 8) (nomark _)))))
        (pss_one (ps_ret pe_bl))
        pss_nil)
      (pss_cons (ps_set (i := 11) sc_law_row_right.nd rfl (by first | exact Or.inl rfl | exact Or.inr rfl) (pe_op op_sub (pe_op op_pow pe_int pe_int) (pv 10)))
      (pss_cons (ps_set (i := 8) sc_law_row_right.nd rfl (by first | exact Or.inl rfl | exact Or.inr rfl) (pe_ifExp (pt_cmpR op_eq (pe_ix ix_tup (pv 2) (pv 9) (fun _ _ => rfl)) pe_int (nomark _)) (pv 11) (pe_op op_add (pe_ix ix_tup (pv 3) (pv 9) (fun _ _ => rfl)) (pe_op op_mod (pe_callTy call_int1 (by rfl) T.z_int (by decide +kernel) (pa_cons (pe_op op_sub (pv 11) (pe_ix ix_tup (pv 3) (pv 9) (fun _ _ => rfl))) pa_nil)) (pe_ix ix_tup (pv 2) (pv 9) (fun _ _ => rfl))))))
      (pss_one (ps_ret (pe_cmpR op_eq (pe_callB cs (by rfl) T.z_repr (by decide +kernel) (pa_cons (pe_callC B.num hr pz (pa_cons (pv 1) (pa_cons (pv 9) (pa_cons (pv 11) pa_nil)))) pa_nil)) (pe_callB cs (by rfl) T.z_repr (by decide +kernel) (pa_cons (pv 8) pa_nil)) (nomark _))))))))))))), ?_⟩
    have ok := hc.ok
    have l1 := ok.l1
    have l4 := ok.l4
    refine ⟨_, rfl, p, _, rfl, .inr hp, ?_⟩
    rw [List.length_map]
    refine ⟨fun σ' H' => ∃ (l : Addr) (row : List Int), σ' = [some (.ref b), some (.ref c), some (.ref p), some (.ref q), some (.int rs.length), some (.ref l), .none, .none, .none, .none, .none, .none, .none] ∧ Mv b H H' ∧ H' l = some (.lst (row.map V.int)) ∧ row.length ≤ 100 ∧ ∀ z ∈ row, 0 ≤ z ∧ z < rs.length, ?_, ?_⟩
    · refine ⟨_, rfl, b, t, 20, rfl, hb, by decide, by decide, fun m H1 m0 m1 mv1 => ⟨m, rfl, by omega, by omega, fun D hD => ?_⟩⟩
      obtain ⟨nD, Db⟩ := mv1.none hD
      refine lc_range (lo := 0) (n := m.toNat) (fun i H2 => ∃ ns : List Int, ns.length = i ∧ (∀ z ∈ ns, 0 ≤ z ∧ z < (rs.length : Int)) ∧ H2 D = some (.lst (ns.map V.int)) ∧ Mv b H H2) ⟨[], rfl, (fun z hz => nomatch hz), upd_same, mv1.put nD Db⟩ ?_ ?_
      · rintro i H2 hi ⟨ns, hl, hns, hD2, mv2⟩
        have hi : i < m.toNat := hi
        obtain ⟨t2, hb2⟩ := mv2.2
        refine ⟨rfl, yes ((if_pos rfl).mpr ?_)⟩
        refine ⟨_, rfl, _, rfl, b, t2, _, rfl, hb2, by omega, by omega, fun r H3 r0 r1 mv3 => ?_⟩
        have hD3 := mv3.1 D _ Db hD2
        refine ⟨_, hD3, by rw [List.length_map, sizeLine_eq]; omega, ns ++ [r], ?_, ?_, ?_, ?_⟩
        · rw [List.length_append, hl]
          rfl
        · intro z hz
          rcases List.mem_append.mp hz with hz | hz
          · exact hns z hz
          · rw [List.mem_singleton.mp hz]
            exact ⟨r0, r1⟩
        · rw [upd_same, List.map_append]
          rfl
        · exact (mv2.trans mv3).put nD Db
      · rintro H2 ⟨ns, hl, hns, hD2, mv2⟩
        obtain ⟨t2, hb2⟩ := mv2.2
        refine ⟨_, rfl, _, rfl, b, t2, _, rfl, hb2, by omega, by omega, fun r H3 r0 r1 mv3 => ⟨(by show 1 ≤ sizeLine; decide), fun l0 hl0 => ?_⟩⟩
        have mv3' := (mv2.trans mv3).same (same_new (o := HO.lst [.int r]) hl0)
        have hD3 := same_new (o := HO.lst [.int r]) hl0 _ _ (mv3.1 D _ Db hD2)
        obtain ⟨t3, hb3⟩ := mv3'.2
        have l0b : l0 ≠ b := (mv3.none hl0).2
        have hl03 : upd H3 l0 (.lst [.int r]) l0 = some (.lst [.int r]) := upd_same
        generalize upd H3 l0 (.lst [.int r]) = H4 at *
        refine ⟨_, rfl, (by show 3 ≤ sizeLine; decide), fun l1 hl1 => ?_⟩
        have e5 := same_new (o := HO.lst [.int 0, .int 3, .int 70]) hl1
        refine ⟨b, l1, t3, _, rfl, e5 _ _ hb3, (fun z => by rw [z, hb3] at hl1; cases hl1), SqL.of upd_same, by decide, by decide, fun v H6 hv mv6 => ?_⟩
        obtain ⟨x, rfl, hx⟩ : ∃ x : Nat, v = .int (x : Int) ∧ x ≤ 70 := by
          simp only [List.mem_cons, List.not_mem_nil, or_false] at hv
          rcases hv with rfl | rfl | rfl
          · exact ⟨0, rfl, by decide⟩
          · exact ⟨3, rfl, by decide⟩
          · exact ⟨70, rfl, by decide⟩
        refine ⟨l0, _, _, rfl, rfl, mv6.1 _ _ l0b (e5 _ _ hl03), by omega, by omega, ?_, fun l2 hl2 => ?_⟩
        · show 1 * _ ≤ _
          rw [sizeLine_eq]
          omega
        · rw [Int.toNat_natCast, rep_one]
          have e7 := same_new (o := HO.lst ((List.replicate x r).map V.int)) hl2
          refine ⟨D, l2, _, _, rfl, rfl, e7 _ _ (mv6.1 _ _ Db (e5 _ _ hD3)), upd_same, ?_, fun l3 hl3 => ?_⟩
          · rw [List.length_map, List.length_map, List.length_replicate, sizeLine_eq]
            omega
          · refine ⟨l3, ns ++ List.replicate x r, rfl, (((mv3'.same e5).trans mv6).same e7).same (same_new hl3), ?_, ?_, ?_⟩
            · rw [upd_same, List.map_append]
            · rw [List.length_append, List.length_replicate]
              omega
            · intro z hz
              rcases List.mem_append.mp hz with hz | hz
              · exact hns z hz
              · rw [List.eq_of_mem_replicate hz]
                exact ⟨r0, r1⟩
    · rintro σ' H1 ⟨l, row, rfl, mv1, hl, hlen, hrow⟩
      have hc1 := mv1.cn hb hc
      have hp1 := mv1.sqT hb hp
      have hq1 := mv1.sqT hb hq
      refine ⟨(by show 1 ≤ sizeLine; decide), fun t0 ht0 => ?_⟩
      refine ⟨_, rfl, t0, rs.length, [.int 0], rfl, rfl, SqT.of upd_same, by simp, by omega, by decide, fun h0 H2 e2 hh0 => ?_⟩
      have e12 := (same_new (o := HO.tup [.int 0]) ht0).trans e2
      have hh0' : SqT K H2 h0 ((showOf rs es []).map V.int) := by
        rw [showOf_nil ok, ← rep_one]
        exact hh0
      refine ⟨fun σ' H' => ∃ h x y, σ' = [some (.ref b), some (.ref c), some (.ref p), some (.ref q), some (.int rs.length), some (.ref l), some (.ref h), x, y, .none, .none, .none, .none] ∧ Same H1 H', ?_, ?_⟩
      · refine ⟨_, rfl, l, _, rfl, .inl (SqL.of (e12 _ _ hl)), _, _, rfl, rfl, ?_⟩
        rw [List.length_map]
        refine ⟨_, rfl, by omega, by omega, for_range (lo := 0) (n := row.length + 1) (fun i σ' H' => ∃ h x y, σ' = [some (.ref b), some (.ref c), some (.ref p), some (.ref q), some (.int rs.length), some (.ref l), some (.ref h), x, y, .none, .none, .none, .none] ∧ Same H1 H' ∧ SqT K H' h ((showOf rs es (row.take i)).map V.int)) ⟨h0, .none, .none, rfl, e12, hh0'⟩ ?_ ?_⟩
        · rintro i σ' H' hi ⟨h, x, y, rfl, e, hh⟩
          have hi : i < row.length + 1 := hi
          have i0 : (0 : Int) + (i : Int) = (i : Int) := Int.zero_add _
          rw [i0]
          have cut : cutV (row.map V.int) none (some (i : Int)) = (row.take i).map V.int := by rw [cut_to (by rw [List.length_map]; omega), List.map_take]
          have small : (row.take i).length ≤ 400 := by rw [List.length_take]; omega
          have hrow' : ∀ z ∈ row.take i, 0 ≤ z ∧ z < rs.length := fun z hz => hrow z (List.mem_of_mem_take hz)
          refine ⟨_, rfl, _, rfl, _, rfl, _, rfl, _, rfl, l, _, rfl, SqL.of (e _ _ hl), fun s1 hs1 => ?_⟩
          rw [cut]
          have e3 := e.trans (same_new (o := HO.lst ((row.take i).map V.int)) hs1)
          have hh3 := sqT_same (same_new (o := HO.lst ((row.take i).map V.int)) hs1) hh
          refine ⟨p, q, s1, rs, es, row.take i, rfl, ok, sqT_same e3 hp1, sqT_same e3 hq1, .inl (SqL.of upd_same), fun d H4 e4 hd => ?_⟩
          have e14 := e3.trans e4
          have hh4 := sqT_same e4 hh3
          refine ⟨fun σ'' H'' => σ'' = [some (.ref b), some (.ref c), some (.ref p), some (.ref q), some (.int rs.length), some (.ref l), some (.ref h), some (.int (i : Int)), some (.ref d), .none, .none, .none, .none] ∧ Same H4 H'', ?_, ?_⟩
          · refine ⟨_, rfl, _, _, rfl, rfl, _, rfl, ?_⟩
            refine ite2 (fun h1 => ?_) (fun h1 => ?_)
            rotate_left
            refine ⟨_, rfl, _, rfl, l, _, rfl, .inl (SqL.of (e14 _ _ hl)), rfl, _, rfl, ?_⟩
            refine ite2 (fun h2 => ?_) (fun h2 => ?_)
            rotate_left
            exact ⟨rfl, Same.refl _⟩
            all_goals
              have hc4 := hc1.same e14
              refine ⟨fun σ'' H'' => σ'' = [some (.ref b), some (.ref c), some (.ref p), some (.ref q), some (.int rs.length), some (.ref l), some (.ref h), some (.int (i : Int)), some (.ref d), .none, .none, .none, .none] ∧ Same H4 H'', ?_, ?_⟩
              · refine ⟨_, rfl, _, rfl, _, rfl, _, rfl, l, _, rfl, SqL.of (e14 _ _ hl), fun s2 hs2 => ?_⟩
                rw [cut]
                have e5 := same_new (o := HO.lst ((row.take i).map V.int)) hs2
                refine ⟨c, rs, es, s2, _, rfl, hc4.same e5, .inl (SqL.of upd_same), kns_ints, (fun j z => by rw [row_good hrow' small] at z; cases z), fun row' er _ r H6 e6 hr6 => ?_⟩
                have er' := ints_inj er
                subst er'
                have o6 := okD_show (row := row.take i) ok (by omega)
                refine ⟨_, _, rfl, dp_nums hr6, o6.sh, o6.nd, o6.d60, o6.line, ?_⟩
                have e56 := e5.trans e6
                refine ⟨_, rfl, _, _, rfl, dp_nums (sqT_same e56 hd), o6.sh, o6.nd, o6.d60, o6.line, rfl, _, rfl, ?_⟩
                rw [decide_eq_true rfl]
                refine iteF ?_
                refine ⟨_, rfl, _, rfl, _, rfl, l, _, rfl, SqL.of (e56 _ _ (e14 _ _ hl)), fun s3 hs3 => ?_⟩
                rw [cut]
                have e7 := same_new (o := HO.lst ((row.take i).map V.int)) hs3
                refine ⟨s3, _, rfl, .inl (SqL.of upd_same), fun q8 H8 e8 hq8 => ?_⟩
                have e58 := (e56.trans e7).trans e8
                refine ⟨_, rfl, rfl, rfl, c, rs, es, q8, _, rfl, hc4.same e58, .inr hq8, kns_ints, (fun j z => by rw [row_good hrow' small] at z; cases z), fun row' er _ r9 H9 e9 hr9 => ?_⟩
                have er' := ints_inj er
                subst er'
                have e59 := e58.trans e9
                refine ⟨_, rfl, r9, d, _, _, rfl, rfl, hr9, sqT_same e59 hd, _, rfl, ?_⟩
                rw [decide_eq_true rfl]
                refine iteF ?_
                refine ⟨_, rfl, _, rfl, h, d, _, _, rfl, rfl, sqT_same e59 hh4, sqT_same e59 hd, _, rfl, ?_⟩
                rw [decide_eq_true rfl]
                exact iteF ⟨rfl, e59⟩
              · rintro σ'' H5 ⟨rfl, e5⟩
                have hd5 := sqT_same e5 hd
                refine ⟨_, rfl, _, rfl, d, _, rfl, .inr hd5, fun l6 hl6 => ?_⟩
                have e6 := same_new (o := HO.lst ((showOf rs es (row.take i)).map V.int)) hl6
                refine ⟨c, rs, es, .ref l6, _, rfl, (hc4.same e5).same e6, showArg_good (.seq (.inl (SqL.of upd_same))) showOf_length (allShow_of ok), fun xs ex _ _ r7 H7 e7 hr7 => ?_⟩
                cases ex
                have e67 := e6.trans e7
                have o6 := okD_show (row := row.take i) ok (by omega)
                refine ⟨_, _, rfl, dp_nums hr7, o6.sh, o6.nd, o6.d60, o6.line, ?_⟩
                refine ⟨_, rfl, _, _, rfl, dp_nums (sqT_same e67 hd5), o6.sh, o6.nd, o6.d60, o6.line, rfl, _, rfl, ?_⟩
                rw [decide_eq_true rfl]
                refine iteF ?_
                refine ⟨_, rfl, _, rfl, rfl, rfl, c, rs, es, .ref d, _, rfl, (hc4.same e5).same e67, showArg_good (.seq (.inr (sqT_same e67 hd5))) showOf_length (allShow_of ok), fun xs ex _ _ r8 H8 e8 hr8 => ?_⟩
                cases ex
                have e58 := e67.trans e8
                refine ⟨_, rfl, r8, d, _, _, rfl, rfl, hr8, sqT_same e58 hd5, _, rfl, ?_⟩
                rw [decide_eq_true rfl]
                exact iteF ⟨rfl, e5.trans e58⟩
          · rintro σ'' H5 ⟨rfl, e5⟩
            have e15 := e14.trans e5
            have hh5 := sqT_same e5 hh4
            refine ⟨_, rfl, _, rfl, l, _, rfl, .inl (SqL.of (e15 _ _ hl)), _, _, rfl, rfl, _, rfl, ?_⟩
            rw [List.length_map]
            refine ite2 (fun h1 => ?_) (fun h1 => ?_)
            · have hi2 : i < row.length := by simpa using h1
              obtain ⟨z0, z1⟩ := hrow _ (List.getElem_mem hi2)
              obtain ⟨dd, hdd⟩ : ∃ dd : Nat, row[i] = (dd : Int) := ⟨row[i].toNat, by omega⟩
              have hdl : dd < rs.length := by omega
              have next : row.take (i + 1) = row.take i ++ [(dd : Int)] := by rw [List.take_add_one, List.getElem?_eq_getElem hi2, hdd] <;> rfl
              have at_ : (row.map V.int)[i]? = some (.int (dd : Int)) := by rw [List.getElem?_map, List.getElem?_eq_getElem hi2, hdd] <;> rfl
              have hc5 := hc1.same e15
              have fin : ∀ r H6, Same H5 H6 → SqT K H6 r (((showOf rs es (row.take i)).set dd (shows (rs.getD dd 0) (es.getD dd 0) ((showOf rs es (row.take i)).getD dd 0 + 1))).map V.int) → Same H1 H6 ∧ SqT K H6 r ((showOf rs es (row.take (i + 1))).map V.int) := fun r H6 e6 hr6 => ⟨e15.trans e6, by rw [next, ← showOf_snoc ok hdl]; exact hr6⟩
              refine ⟨_, rfl, .inl ⟨_, rfl, _, _, rfl, rfl, (by show (0 : Int) < 2; decide), rfl, _, rfl, ?_⟩⟩
              refine ite2 (fun h2 => ?_) (fun h2 => ?_)
              · refine ⟨_, rfl, _, rfl, h, _, rfl, .inr hh5, fun l6 hl6 => ?_⟩
                have e6 := same_new (o := HO.lst ((showOf rs es (row.take i)).map V.int)) hl6
                refine ⟨_, rfl, _, rfl, l, _, _, _, rfl, rfl, SqL.of (e6 _ _ (e15 _ _ hl)), atI_nat at_, ?_⟩
                refine ⟨c, rs, es, .ref l6, _, _, rfl, hc5.same e6, showArg_good (.seq (.inl (SqL.of upd_same))) showOf_length (allShow_of ok), .int _, fun ns ex _ _ => ⟨fun z => ?_, fun j ej hj r7 H7 e7 hr7 => ?_⟩⟩
                · exfalso
                  have : (decide (0 ≤ (dd : Int)) && decide ((dd : Int) < rs.length)) = false := z
                  rw [decide_eq_true (by omega), decide_eq_true (by omega)] at this
                  cases this
                · have ex' := ints_inj (Option.some.inj ex)
                  subst ex'
                  have ej' : dd = j := by
                    injection ej with ej
                    exact Int.ofNat.inj ej
                  subst ej'
                  obtain ⟨f1, f2⟩ := fin r7 H7 (e6.trans e7) hr7
                  exact ⟨r7, some (.int (i : Int)), some (.ref d), rfl, f1, f2⟩
              · refine ⟨_, rfl, _, rfl, l, _, _, _, rfl, rfl, SqL.of (e15 _ _ hl), atI_nat at_, ?_⟩
                refine ⟨_, rfl, _, rfl, rfl, rfl, ?_⟩
                refine ⟨c, rs, es, .ref h, _, _, rfl, hc5, showArg_good (.seq (.inr hh5)) showOf_length (allShow_of ok), .int _, fun ns ex _ _ => ⟨fun z => ?_, fun j ej hj r7 H7 e7 hr7 => ?_⟩⟩
                · exfalso
                  have : (decide (0 ≤ (dd : Int)) && decide ((dd : Int) < rs.length)) = false := z
                  rw [decide_eq_true (by omega), decide_eq_true (by omega)] at this
                  cases this
                · have ex' := ints_inj (Option.some.inj ex)
                  subst ex'
                  have ej' : dd = j := by
                    injection ej with ej
                    exact Int.ofNat.inj ej
                  subst ej'
                  obtain ⟨f1, f2⟩ := fin r7 H7 e7 hr7
                  exact ⟨r7, some (.int (i : Int)), some (.ref d), rfl, f1, f2⟩
            · have hi2 : row.length ≤ i := by simpa using h1
              refine ⟨h, some (.int (i : Int)), some (.ref d), rfl, e15, ?_⟩
              rw [List.take_of_length_le (by omega : row.length ≤ i + 1), ← List.take_of_length_le hi2]
              exact hh5
        · rintro σ' H' ⟨h, x, y, rfl, e, _⟩
          exact ⟨h, x, y, rfl, e⟩
      · rintro σ' H3 ⟨h, x, y, rfl, e3⟩
        have mv3 := mv1.same e3
        obtain ⟨t3, hb3⟩ := mv3.2
        refine ⟨_, rfl, _, rfl, b, t3, _, rfl, hb3, by omega, by omega, fun kind H4 k0 k1 mv4 => ?_⟩
        obtain ⟨t4, hb4⟩ := mv4.2
        refine ⟨_, rfl, b, t4, 200, rfl, hb4, by decide, by decide, fun many H5 m0 m1 mv5 => ?_⟩
        have mv := (mv3.trans mv4).trans mv5
        obtain ⟨kd, rfl⟩ : ∃ n : Nat, kind = (n : Int) := ⟨kind.toNat, by omega⟩
        obtain ⟨my, rfl⟩ : ∃ n : Nat, many = (n : Int) := ⟨many.toNat, by omega⟩
        have hkd : kd < rs.length := by omega
        have hc5 := mv.cn hb hc
        have hp5 := mv.sqT hb hp
        have hq5 := mv.sqT hb hq
        refine ⟨_, _, rfl, ?_⟩
        refine ⟨_, rfl, _, rfl, _, rfl, (by show 1 ≤ sizeLine; decide), fun t6 ht6 => ?_⟩
        have e6 := same_new (o := HO.tup [.int (kd : Int)]) ht6
        refine ⟨_, rfl, t6, my, [.int (kd : Int)], rfl, rfl, SqT.of upd_same, by simp, by omega, (by show 1 ≤ 1000; decide), fun t7 H7 e7 ht7 => ?_⟩
        have e57 := e6.trans e7
        rw [rep_one] at ht7
        refine ⟨p, q, t7, rs, es, _, rfl, ok, sqT_same e57 hp5, sqT_same e57 hq5, .inr ht7, fun d H8 e8 hd => ?_⟩
        have e58 := e57.trans e8
        obtain ⟨a1, a2, b1, b2, b3, b4⟩ := ok.at_ hkd
        have at_ := showOf_at (es := es) (row := List.replicate my (kd : Int)) hkd
        rw [List.count_replicate_self] at at_
        have hc8 := hc5.same e58
        generalize hr0 : rs.getD kd 0 = r0 at *
        generalize he0 : es.getD kd 0 = e0 at *
        have rng := shows_range b1 b3 (Int.natCast_nonneg my)
        have bel : isBel rs.length (.int (kd : Int)) = true := isBel_nat hkd
        have nob : isBel rs.length (.int (kd : Int)) = false → False := fun z => by rw [bel] at z; cases z
        have num : ∀ z : Int, 0 ≤ z → isNum (.int z) = false → False := fun z h0 h => by
          have : decide (0 ≤ z) = false := h
          rw [decide_eq_true h0] at this
          cases this
        refine ⟨_, rfl, d, _, _, _, rfl, rfl, hd, atI_nat at_, ?_⟩
        refine ⟨_, rfl, _, rfl, _, rfl, c, rs, es, _, _, rfl, hc8, .int _, .int _, fun z => (nob z).elim, fun _ z => (num _ (Int.natCast_nonneg _) z).elim, fun i n r e ei en _ er ee => ?_⟩
        injection ei with ei
        injection en with en
        have ei := Int.ofNat.inj ei
        subst ei en
        rw [a1] at er
        rw [a2] at ee
        cases er
        cases ee
        have sm : OkD 0 1921 (.int (shows r0 e0 (my : Int))) := okD_small (by omega)
        refine ⟨_, _, rfl, .int _, sm.sh, sm.nd, sm.d60, sm.line, ?_⟩
        refine ⟨_, rfl, _, _, rfl, .int _, sm.sh, sm.nd, sm.d60, sm.line, rfl, _, rfl, ?_⟩
        rw [decide_eq_true rfl]
        refine iteF ?_
        refine ⟨_, rfl, _, rfl, _, rfl, rfl, rfl, c, rs, es, _, _, rfl, hc8, .int _, .int _, fun z => (nob z).elim, fun _ z => (num _ (Int.natCast_nonneg _) z).elim, fun i n r' e' ei en _ er ee => ?_⟩
        injection ei with ei
        injection en with en
        have ei := Int.ofNat.inj ei
        subst ei en
        rw [a1] at er
        rw [a2] at ee
        cases er
        cases ee
        refine ⟨_, rfl, rfl, _, rfl, ?_⟩
        rw [decide_eq_true rfl]
        refine iteF ?_
        refine ⟨_, _, rfl, rfl, ⟨by decide, by decide, by decide⟩, _, rfl, _, _, rfl, rfl, ?_⟩
        have big : (10 : Int) ^ (30 : Int).toNat = 1000000000000000000000000000000 := by decide
        rw [big]
        have farp : 0 ≤ (1000000000000000000000000000000 : Int) - (my : Int) := by omega
        have rng2 := shows_range b1 b3 farp
        have g1 : (rs.map V.int)[kd]? = some (.int r0) := by rw [List.getElem?_map, a1]; rfl
        have g2 : (es.map V.int)[kd]? = some (.int e0) := by rw [List.getElem?_map, a2]; rfl
        have hp8 := sqT_same e58 hp5
        have hq8 := sqT_same e58 hq5
        have bigD : OkD 0 1921 (.int (shows r0 e0 ((1000000000000000000000000000000 : Int) - (my : Int)))) := okD_int (Nat.lt_of_lt_of_le (show _ < 2 ^ 110 by omega) (Nat.pow_le_pow_right (by decide) (by decide)))
        refine ⟨_, rfl, _, rfl, p, _, _, _, rfl, rfl, hp8, atI_nat g1, rfl, _, rfl, ?_⟩
        have inj : ∀ (i : Nat) (n n' r e : Int), V.int (kd : Int) = V.int (i : Int) → V.int n' = V.int n → rs[i]? = some r → es[i]? = some e → shows r e n = shows r0 e0 n' := fun i n n' r e ei en er ee => by
          injection ei with ei
          injection en with en
          have ei := Int.ofNat.inj ei
          subst ei en
          rw [a1] at er
          rw [a2] at ee
          cases er
          cases ee
          rfl
        refine ite2 (fun z => ?_) (fun z => ?_)
        · have z0 : r0 = 0 := by simpa using z
          have val : shows r0 e0 ((1000000000000000000000000000000 : Int) - (my : Int)) = 1000000000000000000000000000000 - (my : Int) := if_pos (.inl z0)
          refine ⟨_, rfl, ?_⟩
          refine ⟨_, rfl, _, rfl, _, rfl, c, rs, es, _, _, rfl, hc8, .int _, .int _, fun z => (nob z).elim, fun _ z => (num _ farp z).elim, fun i n r' e' ei en _ er ee => ?_⟩
          rw [inj i n _ r' e' ei en er ee, val]
          rw [val] at bigD
          refine ⟨_, _, rfl, .int _, bigD.sh, bigD.nd, bigD.d60, bigD.line, ?_⟩
          refine ⟨_, rfl, _, _, rfl, .int _, bigD.sh, bigD.nd, bigD.d60, bigD.line, rfl, ?_⟩
          rw [decide_eq_true rfl]
          exact k H8 (mv.same e58)
        · have z0 : r0 ≠ 0 := by simpa using z
          have e6' : e0 ≤ 6 := b4
          have val : shows r0 e0 ((1000000000000000000000000000000 : Int) - (my : Int)) = e0 + ((1000000000000000000000000000000 : Int) - (my : Int) - e0) % r0 := if_neg (by omega)
          refine ⟨_, rfl, _, rfl, q, _, _, _, rfl, rfl, hq8, atI_nat g2, ?_⟩
          refine ⟨_, rfl, _, rfl, _, rfl, q, _, _, _, rfl, rfl, hq8, atI_nat g2, _, _, rfl, rfl, .inl ⟨_, rfl, ?_⟩⟩
          refine ⟨_, rfl, _, rfl, p, _, _, _, rfl, rfl, hp8, atI_nat g1, _, _, rfl, rfl, (by show (0 : Int) < r0; omega), _, _, rfl, rfl, ?_⟩
          refine ⟨_, rfl, _, rfl, _, rfl, c, rs, es, _, _, rfl, hc8, .int _, .int _, fun z => (nob z).elim, fun _ z => (num _ farp z).elim, fun i n r' e' ei en _ er ee => ?_⟩
          rw [inj i n _ r' e' ei en er ee, val]
          rw [val] at bigD
          refine ⟨_, _, rfl, .int _, bigD.sh, bigD.nd, bigD.d60, bigD.line, ?_⟩
          refine ⟨_, rfl, _, _, rfl, .int _, bigD.sh, bigD.nd, bigD.d60, bigD.line, rfl, ?_⟩
          rw [decide_eq_true rfl]
          exact k H8 (mv.same e58)
end
end K3
/-! a lambda heard; all showings, as the law asks them -/
namespace Kx
open L2 PySem PySem.Spec PyProof.Rows
section
variable {P : Program} {w : World} {K : PySem.W.Frag} {mg : Str → Option Value} {base : Heap} {x qual : Str} {params : Arguments} {body : List Stmt} {scope : Scope} {dvs : List V} {kws : List (Str × V)} {f c : Addr} {fd : FuncData}
/-- a def's body, its code object known -/
theorem okGc {CX : CXT} {N ps : List Str} {k : Nat} {sp : Sp} (F : FunD K x qual params body scope dvs kws f fd) (hc : fd.code = .ref c) (S : FnScope N ps scope) (len : ∀ vs H Q E, sp vs H Q E → vs.length = ps.length)
    (hbody : ∀ (A : Around) (outer : List Env) (s : Shared) (H : Hp) (vs : List V) (Q : VK) (E : XK), Lone A → Room k (A.deeper (envOfC qual scope s.heap.objs.size f (.ref c))) → sp vs H Q E →
      ∃ t, PSs (cxOf CX P w K mg base N qual scope f (.ref c) A outer s H E) body t ∧ t { nx := fun _ H' => Q .non H', rt := Q } (start N vs) H) : FnG P w K mg base CX (k + 1) f fd ps sp := by
  obtain ⟨oc, od, dV, kV, doc, pm, an, cdv, ct, osl, rfl, lk, hcd, -, -⟩ := F.ex
  have hc : cdv = .ref c := hc
  subst hc
  exact ⟨len, fun A outer s H args us vs Q E hr lone e0 hb hv hs => LamX.run_ofS lk hcd S hr e0 hb hv (len _ _ _ _ hs) fun hr' => hbody A outer s H vs Q E lone hr' hs⟩
end
/-! ### where only tables move -/
section
variable {K : PySem.W.Frag} {H H' : Hp} {a : Addr} {xs : List V}
theorem ext_rd (e : LamX.ExtN H H') {u : HO} (n : ∀ ps, u ≠ .tbl ps) (h : Rd H a u) : Rd H' a u := h.elim (fun q => .inl (e _ _ q n)) fun ⟨z, q⟩ => .inr ⟨z, e _ _ q fun _ z => nomatch z⟩
theorem ext_sqT (e : LamX.ExtN H H') (h : SqT K H a xs) : SqT K H' a xs := h.imp (ext_rd e fun _ z => nomatch z) id
theorem ext_sqL (e : LamX.ExtN H H') (h : SqL K H a xs) : SqL K H' a xs := h.imp (ext_rd e fun _ z => nomatch z) id
theorem ext_sq (e : LamX.ExtN H H') (h : Sq K H a xs) : Sq K H' a xs := h.imp (ext_sqL e) (ext_sqT e)
theorem ext_of (e : Same H H') : LamX.ExtN H H' := fun b o q _ => e b o q
theorem ext_kn {v : V} (e : LamX.ExtN H H') (h : Kn K H v) : Kn K H' v := by
  cases h with
  | non => exact .non
  | bl b => exact .bl b
  | int i => exact .int i
  | str x => exact .str x
  | seq q => exact .seq (ext_sq e q)
theorem tabs_same {T : List (Addr × Str)} (t : LamX.Tabs T H) (e : Same H H') : LamX.Tabs T H' := t.ext e
/-- t == u, t != u: tuples of rows -/
def rRowsEq (K : PySem.W.Frag) (neg : Bool) : R2 := fun x y H Q => ∃ (xs ys : List (List Int)), Dp K H x (dRows xs) ∧ Dp K H y (dRows ys) ∧ Q (.bl (neg != decide (xs = ys))) H
theorem op_eqRows {X : Cx} (hu : X.A.units + 64 < cLine) : OpR X (compareOp .Eq) (rRowsEq X.K false) := by
  intro pins st σ H x y v u Q I rx ry ⟨xs, ys, h1, h2, q⟩
  refine op_eqD hu pins st σ H _ _ v u Q I rx ry ⟨_, _, h1, h2, shaped_rows xs, shaped_rows ys, ?_⟩
  simp only [PyData.eqv, eqv_rows]
  rwa [Bool.false_bne] at q
theorem op_neRows {X : Cx} (hu : X.A.units + 64 < cLine) : OpR X (compareOp .NotEq) (rRowsEq X.K true) := by
  intro pins st σ H x y v u Q I rx ry ⟨xs, ys, h1, h2, q⟩
  refine op_neD hu pins st σ H _ _ v u Q I rx ry ⟨_, _, h1, h2, shaped_rows xs, shaped_rows ys, ?_⟩
  simp only [PyData.eqv, eqv_rows]
  rwa [Bool.true_bne] at q
end
end Kx
namespace K3
open PySem PySem.Spec PyProof.Rows L2 Kx RZ
theorem ext_cn {K : PySem.W.Frag} {C : Addr} {H H' : Hp} {c : Addr} {rs es : List Int} (e : LamX.ExtN H H') (h : CnAt K C H c rs es) : CnAt K C H' c rs es := by
  obtain ⟨ok, dx, p, q, h1, h2, h3⟩ := h
  exact ⟨ok, dx, p, q, e _ _ h1 (fun _ z => nomatch z), ext_sqT e h2, ext_sqT e h3⟩
theorem dp_rows {K : PySem.W.Frag} {H : Hp} {p : Addr} {vs : List V} {rs : List (List Int)} (hp : SqT K H p vs) (h : Rows K H vs rs) : Dp K H (.ref p) (dRows rs) := .tup hp (go h) where
  go : ∀ {vs : List V} {rs : List (List Int)}, Rows K H vs rs → DpAll K H vs (rs.map dNums)
    | [], [], _ => .nil
    | _ :: _, _ :: _, ⟨⟨q, h1, h2⟩, h⟩ => .cons (by rw [h1]; exact dp_nums h2) (go h)
    | [], _ :: _, h => h.elim
    | _ :: _, [], h => h.elim
/-- what a def that hears lambdas must know: c, Pt its code object and table -/
structure HF (X : Cx) (a : Ad) (C cW : Addr) (Ts : List (Addr × Str)) (g : Addr) (fdg : FuncData) (c Pt : Addr) (st : Stmt) : Prop where
  FH : FnP X.K "_law_heard" s_law_heard g fdg
  gH : X.mg "_law_heard" = some (.ref g)
  bH : Binds X.K fdg ["ask"] []
  T : Mg X.mg
  TC : ClsC X.K X.mg C
  D : Hd X.K X.mg a C cW
  lone : Lone X.A
  TB : LamX.TabB X.base X.mg c Pt
  code : X.env.code = .ref c
  sc : X.env.scope = defScope st
  mem : (Pt, X.env.qual ++ "<lambda>") ∈ Ts
  only : ∀ p ∈ Ts, p.1 = Pt → p.2 = X.env.qual ++ "<lambda>"
theorem pe_heard {X : Cx} {a : Ad} {C cW : Addr} {Ts : List (Addr × Str)} {g : Addr} {fdg : FuncData} {c Pt : Addr} {st : Stmt} {k : Nat} {params : Arguments} {body : Expr} {scope : Scope} {t : XK → TE} {p lpos pos : Pos} (h : HF X a C cW Ts g fdg c Pt st) (hr : Room (k + 2) X.A)
    (hbody : ∀ (A : Around) (outer : List Env) (s : Shared) (H : Hp) (E : XK) (f c' : Addr), Room k (A.deeper (LamX.lamEnv X scope s.heap.objs.size f c')) → PE (LamX.lamCx X A outer s H E scope f c') body (t E))
    (hg : Gl X "_law_heard" := by rfl) (hL : LamX.lamSB (defScope st) scope = true := by decide +kernel) (hdef : defaultsOf params X.env = ([], []) := by rfl)
    (hbind : ∀ (q : Str) (cl : List (Str × Addr)) (pm cv ctv : Value), bindArgs (PySem.W.kla_fn "<lambda>" q params body scope cl pm cv ctv) ⟨[], []⟩ = pure [] := by intros; rfl) :
    PE X (.Call (.Name "_law_heard" p) [.Lambda params body scope lpos] [] pos) (LamX.tLam Ts (TTh X.K a C) t) := by
  obtain ⟨oc, od, dV, kV, doc, pm, an, cdv, ct, osl, rfl, lk, hcd, _, _⟩ := h.FH.ex
  exact LamX.pe_lamcall (k := k) hg h.gH h.FH.kp lk hcd h.bH sc_law_heard rfl (.inl rfl) (heard_gives h.T h.TC h.D h.lone hr) h.TB h.code h.mem h.only hr (by rw [h.sc]; exact LamX.lamS_by hL) hdef hbind hbody
/-- an error that is raised is heard -/
theorem passL {X : Cx} {A : Around} {outer : List Env} {s : Shared} {H : Hp} {E : XK} {scope : Scope} {f c' : Addr} : Passes (L2.CX (LamX.lamCx X A outer s H E scope f c').prog (LamX.lamCx X A outer s H E scope f c').w) (LamX.lamCx X A outer s H E scope f c') E :=
  passes_call (takes_of (E := E) rfl rfl rfl rfl) (fun _ _ _ _ z => z)
theorem inV_nums {xs : List Int} {k : Int} : inV (.int k) (xs.map V.int) = decide (k ∈ xs) := by
  have h := op_notIn_nums (xs := xs) (k := k)
  cases e : inV (.int k) (xs.map V.int) with
  | true =>
    rw [e] at h
    have : ¬ (k ∉ xs) := of_decide_eq_false h.symm
    exact (decide_eq_true (Decidable.not_not.mp this)).symm
  | false =>
    rw [e] at h
    exact (decide_eq_false (of_decide_eq_true h.symm)).symm
theorem flat_nums {xs : List Int} : (xs.map V.int).all flatV = true := by
  rw [List.all_map]
  exact List.all_eq_true.mpr fun x _ => rfl
theorem prod_cap {rs es : List Int} (ok : Cok rs es) (h0 : (0 : Int) ∉ rs) (i : Nat) : 1 ≤ ((sizesOf rs es).take i).foldl (· * ·) 1 ∧ ((sizesOf rs es).take i).foldl (· * ·) 1 ≤ 18974736 := by
  have rng := size_range ok h0
  have low := prod_low (xs := (sizesOf rs es).take i) (z := 1) (b := 1) (fun x hx => rng x (List.mem_of_mem_take hx)) (by decide) (by decide)
  have g := prods_grow ((sizesOf rs es).take i) 1 (fun x hx => (rng x (List.mem_of_mem_take hx)).1) (by decide)
  have cap : (66 : Int) ^ ((sizesOf rs es).take i).length ≤ 66 ^ 4 := by
    have e : ((sizesOf rs es).take i).length ≤ 4 := by
      have := ok.l4
      rw [List.length_take, sizes_length ok]
      omega
    have : ((66 : Nat) ^ ((sizesOf rs es).take i).length) ≤ 66 ^ 4 := Nat.pow_le_pow_right (by decide) e
    exact_mod_cast this
  have e4 : (66 : Int) ^ 4 = 18974736 := by decide
  omega
theorem prod_capF {rs es : List Int} (ok : Cok rs es) (h0 : (0 : Int) ∉ rs) : 1 ≤ prodOf (sizesOf rs es) ∧ prodOf (sizesOf rs es) ≤ 18974736 := by
  have := prod_cap ok h0 (sizesOf rs es).length
  rwa [List.take_length] at this
/-- each row is one of what its sizes say -/
theorem rows_small : ∀ (sizes : List Int) (rows : List (List Int)) (done : List Int), (∀ r ∈ rows, r.length = done.length ∧ ∀ (j : Nat) (x : Int), r[j]? = some x → 0 ≤ x ∧ x < done.getD j 0) →
    ∀ r ∈ sizes.foldl (fun rows s => more rows s.toNat) rows, r.length = (done ++ sizes).length ∧ ∀ (j : Nat) (x : Int), r[j]? = some x → 0 ≤ x ∧ x < (done ++ sizes).getD j 0
  | [], rows, done, h => by simpa using h
  | s :: sizes, rows, done, h => by
    have := rows_small sizes (more rows s.toNat) (done ++ [s]) fun r hr => by
      obtain ⟨r', h1, h2⟩ := List.mem_flatMap.mp hr
      obtain ⟨i, hi, rfl⟩ := List.mem_map.mp h2
      obtain ⟨l, q⟩ := h r' h1
      have hi := List.mem_range.mp hi
      refine ⟨by rw [List.length_append, List.length_append, l]; rfl, fun j x hx => ?_⟩
      by_cases hj : j < r'.length
      · rw [List.getElem?_append_left hj] at hx
        have := q j x hx
        rw [List.getD_eq_getElem?_getD, List.getElem?_append_left (by omega), ← List.getD_eq_getElem?_getD]
        exact this
      · have ej : j = r'.length := by
          have := (List.getElem?_eq_some_iff.mp hx).1
          rw [List.length_append] at this
          have : ([(i : Int)] : List Int).length = 1 := rfl
          omega
        subst ej
        rw [List.getElem?_concat_length] at hx
        cases hx
        rw [l, List.getD_eq_getElem?_getD, List.getElem?_concat_length]
        show 0 ≤ (i : Int) ∧ (i : Int) < s
        omega
    rewrite [List.append_assoc] at this
    exact this
theorem rows_of {sizes : List Int} : ∀ r ∈ rowsOf sizes, r.length = sizes.length ∧ ∀ (j : Nat) (x : Int), r[j]? = some x → 0 ≤ x ∧ x < sizes.getD j 0 := fun r hr => by
  have := rows_small sizes [[]] [] (fun r hr => by
    rw [List.mem_singleton.mp hr]
    exact ⟨rfl, fun j x hx => by simp at hx⟩) r hr
  simpa using this
theorem okD_rowsOf {rs es : List Int} (ok : Cok rs es) (h0 : (0 : Int) ∉ rs) (l : (rowsOf (sizesOf rs es)).length ≤ 1000) : OkD 2 15402004 (dRows (rowsOf (sizesOf rs es))) := by
  refine okD_rows (fun r hr => ?_) l
  obtain ⟨h1, h2⟩ := rows_of r hr
  rw [sizes_length ok] at h1
  have := ok.l4
  refine ⟨by omega, fun n hn => ?_⟩
  obtain ⟨j, hj⟩ := List.getElem?_of_mem hn
  have q := h2 j n hj
  have hjl := (List.getElem?_eq_some_iff.mp hj).1
  obtain ⟨a1, a2, b1, b2, b3, b4⟩ := ok.at_ (show j < rs.length by omega)
  have e := sizes_at a1 a2
  rw [List.getD_eq_getElem?_getD, e] at q
  have : n < rs.getD j 0 + es.getD j 0 := q.2
  omega
theorem rows_count {rs es : List Int} (ok : Cok rs es) (h0 : (0 : Int) ∉ rs) : ((rowsOf (sizesOf rs es)).length : Int) = prodOf (sizesOf rs es) := prods_length (sizesOf rs es) [[]] 1 (fun x hx => (size_range ok h0 x hx).1) rfl
/-- the row that shows a row -/
def rowFor (r : List Int) (i : Nat) : List Int := ((List.range i).map fun (k : Nat) => List.replicate (r.getD k 0).toNat (k : Int)).flatten
theorem rowFor_succ {r : List Int} {i : Nat} : rowFor r (i + 1) = rowFor r i ++ List.replicate (r.getD i 0).toNat (i : Int) := by
  unfold rowFor
  rw [List.range_succ, List.map_append, List.flatten_append]
  simp
theorem rowFor_count {r : List Int} : ∀ {i k : Nat}, (rowFor r i).count (k : Int) = if k < i then (r.getD k 0).toNat else 0
  | 0, k => by simp [rowFor]
  | i + 1, k => by
    rw [rowFor_succ, List.count_append, rowFor_count, List.count_replicate]
    by_cases e : k = i
    · subst e
      simp
    · have ne : ¬ ((i : Int) == (k : Int)) = true := by simp only [beq_iff_eq]; omega
      rw [if_neg ne]
      by_cases l : k < i
      · rw [if_pos l, if_pos (by omega)]
        rfl
      · rw [if_neg l, if_neg (by omega)]
theorem rowFor_length {r : List Int} {b : Nat} (h : ∀ k, (r.getD k 0).toNat ≤ b) : ∀ i, (rowFor r i).length ≤ b * i
  | 0 => by simp [rowFor]
  | i + 1 => by
    rw [rowFor_succ, List.length_append, List.length_replicate, Nat.mul_succ]
    have := rowFor_length h i
    have := h i
    omega
theorem rowFor_shows {rs es r : List Int} (ok : Cok rs es) (h0 : (0 : Int) ∉ rs) (hr : r ∈ rowsOf (sizesOf rs es)) : showOf rs es (rowFor r rs.length) = r := by
  obtain ⟨h1, h2⟩ := rows_of r hr
  rw [sizes_length ok] at h1
  unfold showOf
  apply List.ext_getElem
  · rw [List.length_map, List.length_range, h1]
  · intro j a1 a2
    have hj : j < rs.length := by omega
    obtain ⟨c1, c2, b1, b2, b3, b4⟩ := ok.at_ hj
    simp only [List.getElem_map, List.getElem_range]
    rw [rowFor_count, if_pos hj]
    have e : r[j]? = some r[j] := List.getElem?_eq_getElem a2
    obtain ⟨q1, q2⟩ := h2 j _ e
    have es' := sizes_at c1 c2
    rw [List.getD_eq_getElem?_getD, es'] at q2
    have q2 : r[j] < rs.getD j 0 + es.getD j 0 := q2
    have g : r.getD j 0 = r[j] := by rw [List.getD_eq_getElem?_getD, e] <;> rfl
    rw [g, Int.toNat_of_nonneg q1]
    exact shows_same (.inr (by omega)) b1 q1
def spAllRight (K : PySem.W.Frag) (C : Addr) (Ts : List (Addr × Str)) : Sp := fun vs H Q _ => ∃ (c p q : Addr) (rs es : List Int), vs = [.ref c, .ref p, .ref q] ∧ CnAt K C H c rs es ∧ SqT K H p (rs.map V.int) ∧ SqT K H q (es.map V.int) ∧ LamX.Tabs Ts H ∧
  ∀ H', LamX.ExtN H H' → LamX.Tabs Ts H' → Q (.bl true) H'
section
variable {P : Program} {w : World} {K : PySem.W.Frag} {mg : Str → Option Value} {base : Heap} {f : Addr} {fd : FuncData} {a : Ad} {C CM cW : Addr} {Ts : List (Addr × Str)} {g cc Pt : Addr} {fdg : FuncData}
theorem sc_law_all_right : FnScope ["counters", "rounds", "rests", "due", "many", "turn", "rest", "showing", "row", "kind", "few"] ["counters", "rounds", "rests"] (defScope s_law_all_right) := ⟨rfl, rfl, rfl, by decide +kernel, rfl, by decide +kernel, by decide +kernel⟩
theorem ok_all_right (F : FnP K "_law_all_right" s_law_all_right f fd) (hcode : fd.code = .ref cc) (FH : FnP K "_law_heard" s_law_heard g fdg) (gH : mg "_law_heard" = some (.ref g)) (bH : Binds K fdg ["ask"] []) (T : Mg mg) (TC : ClsC K mg C) (D : Hd K mg a C cW) (TB : LamX.TabB base mg cc Pt)
    (mem : (Pt, (Str.ofString "_law_all_right" ++ ".<locals>.") ++ "<lambda>") ∈ Ts) (only : ∀ p ∈ Ts, p.1 = Pt → p.2 = (Str.ofString "_law_all_right" ++ ".<locals>.") ++ "<lambda>") (B : Fns P w K mg base a C CM) : FnG P w K mg base CX0 9 f fd ["counters", "rounds", "rests"] (spAllRight K C Ts) := by
  refine okGc F hcode sc_law_all_right (fun vs H Q E h => ?_) (fun A outer s H vs Q E lone hr h => ?_)
  · obtain ⟨c, p, q, rs, es, rfl, _⟩ := h
    rfl
  · obtain ⟨c, p, q, rs, es, rfl, hc, hp, hq, ht, k⟩ := h
    have cs : CallR (cxOf CX0 P w K mg base ["counters", "rounds", "rests", "due", "many", "turn", "rest", "showing", "row", "kind", "few"] "_law_all_right" (defScope s_law_all_right) f (.ref cc) A outer s H E).nox (.builtin "repr") (rShow K) := call_show lone (r64 hr)
    have hf : HF (cxOf CX0 P w K mg base ["counters", "rounds", "rests", "due", "many", "turn", "rest", "showing", "row", "kind", "few"] "_law_all_right" (defScope s_law_all_right) f (.ref cc) A outer s H E).nox a C cW Ts g fdg cc Pt s_law_all_right := ⟨FH, gH, bH, T, TC, D, lone, TB, rfl, rfl, mem, only⟩
    refine ⟨_, PSs.nox (pss_cons (ps_mid (ps_if (pt_cmpR op_ne (pe_callB cs (by rfl) T.z_repr (by decide +kernel) (pa_cons (pe_lst (pa_cons (pe_callC B.fin hr pass0 (pa_cons (pv 0) pa_nil)) (pa_cons (pe_callN0 B.finK hr pass0 (pk_cons (pv 0) pk_nil)) pa_nil))) pa_nil)) (pe_callB cs (by rfl) T.z_repr (by decide +kernel) (pa_cons (pe_op op_rep (pe_lst (pa_cons (pe_cmpR op_notIn_seq pe_int (pv 1) (by rfl)) pa_nil)) pe_int) pa_nil)) (nomark _))
        (pss_one (ps_ret pe_bl))
        pss_nil))
      (pss_cons (ps_mid (ps_if (pt_cmpR op_in_seq pe_int (pv 1) (by rfl))
        (pss_cons (ps_set (i := 3) sc_law_all_right.nd rfl (by first | exact Or.inl rfl | exact Or.inr rfl) (pe_tup (pa_cons pe_str (pa_cons (pv 0) (pa_cons pe_bl pa_nil)))))
        (pss_cons (ps_mid (ps_if (pt_cmpR (op_neSame (r64 hr)) (pe_heard (k := 6) hf hr (fun A outer s H E f c' hr' => pe_callC B.many hr' passL (pa_cons (pv 0) pa_nil))) (pv 3) (nomark _))
          (pss_one (ps_ret pe_bl))
          pss_nil))
        (pss_one (ps_ret (pe_cmpR (op_eqSame (r64 hr)) (pe_heard (k := 6) hf hr (fun A outer s H E f c' hr' => pe_callNn B.allM hr' passL (pa_cons (pv 0) pa_nil) (pk_cons pe_int pk_nil))) (pv 3) (nomark _))))))
        pss_nil))
      (pss_cons (ps_set (i := 4) sc_law_all_right.nd rfl (by first | exact Or.inl rfl | exact Or.inr rfl) pe_int)
      (pss_cons (ps_mid (ps_for PassesOwn.never rfl (pi_zipA (by rfl) T.z_zip (pa_cons (pv 1) (pa_cons (pv 2) pa_nil))) (pg_tup rfl (pgs_cons (pg_name (i := 5) sc_law_all_right.nd rfl (by first | exact Or.inl rfl | exact Or.inr rfl)) (pgs_cons (pg_name (i := 6) sc_law_all_right.nd rfl (by first | exact Or.inl rfl | exact Or.inr rfl)) pgs_nil)))
        (pss_one (ps_set (i := 4) sc_law_all_right.nd rfl (by first | exact Or.inl rfl | exact Or.inr rfl) (pe_op op_mul (pv 4) (pe_op op_add (pv 5) (pv 6)))))))
      (pss_cons (ps_mid (ps_if (pt_cmpR op_ne (pe_callB cs (by rfl) T.z_repr (by decide +kernel) (pa_cons (pe_lst (pa_cons (pe_callC B.many hr pz (pa_cons (pv 0) pa_nil)) (pa_cons (pe_callN0 B.manyK hr pz (pk_cons (pv 0) pk_nil)) pa_nil))) pa_nil)) (pe_callB cs (by rfl) T.z_repr (by decide +kernel) (pa_cons (pe_lst (pa_cons (pv 4) (pa_cons (pv 4) pa_nil))) pa_nil)) (nomark _))
        (pss_one (ps_ret pe_bl))
        pss_nil))
      (pss_cons (ps_mid (ps_if (PW.pt (pw_and (pt_cmpR op_lt (pv 4) pe_int (nomark _)) (pw_and1 (PW.pt (pw_or (pt_cmpR op_ne (pe_callB cs (by rfl) T.z_repr (by decide +kernel) (pa_cons (pe_callNn B.allM hr pz (pa_cons (pv 0) pa_nil) (pk_cons (pv 4) pk_nil)) pa_nil)) (pe_callB cs (by rfl) T.z_repr (by decide +kernel) (pa_cons (pe_callC B.lall hr pass0 (pa_cons (pv 1) (pa_cons (pv 2) pa_nil))) pa_nil)) (nomark _)) (pw_or1 (pt_cmpR (op_neRows (r64 hr)) (pe_callN0 B.allK hr pz (pk_cons pe_int (pk_cons (pv 0) pk_nil))) (pe_callC B.lall hr pass0 (pa_cons (pv 1) (pa_cons (pv 2) pa_nil))) (nomark _))))))))
        (pss_one (ps_ret pe_bl))
        pss_nil))
      (pss_cons (ps_mid (ps_if (pt_cmpR op_lt (pv 4) pe_int (nomark _))
        (pss_one (ps_for PassesOwn.never rfl (pi_any (pe_callC B.lall hr pass0 (pa_cons (pv 1) (pa_cons (pv 2) pa_nil)))) (pg_name (i := 7) sc_law_all_right.nd rfl (by first | exact Or.inl rfl | exact Or.inr rfl))
          (pss_cons (ps_set (i := 8) sc_law_all_right.nd rfl (by first | exact Or.inl rfl | exact Or.inr rfl) (pe_lst pa_nil))
          (pss_cons (ps_mid (ps_for PassesOwn.never rfl (pi_range1 (by rfl) T.z_range (pa_cons (pe_callB call_len_seq (by rfl) T.z_len PySem.boot_len (pa_cons (pv 1) pa_nil)) pa_nil)) (pg_name (i := 9) sc_law_all_right.nd rfl (by first | exact Or.inl rfl | exact Or.inr rfl))
            (pss_one (ps_set (i := 8) sc_law_all_right.nd rfl (by first | exact Or.inl rfl | exact Or.inr rfl) (pe_op op_cat (pv 8) (pe_op op_rep (pe_lst (pa_cons (pv 9) pa_nil)) (pe_ix ix_tup (pv 7) (pv 9) (fun _ _ => rfl))))))))
          (pss_one (ps_if (pt_cmpR (op_neNums (r64 hr)) (pe_callC B.lshows hr pass0 (pa_cons (pv 1) (pa_cons (pv 2) (pa_cons (pv 8) pa_nil)))) (pv 7) (nomark _))
            (pss_one (ps_ret pe_bl))
            pss_nil))))))
        pss_nil))
      (pss_cons (ps_set (i := 10) sc_law_all_right.nd rfl (by first | exact Or.inl rfl | exact Or.inr rfl) (pe_callB (call_min2 rfl) (by rfl) T.z_min (by decide +kernel) (pa_cons (pe_op op_sub (pv 4) pe_int) (pa_cons pe_int pa_nil))))
      (pss_one (ps_ret (pe_or (pe_cmpR op_eq (pv 4) pe_int (nomark _)) (pe_one (pe_cmpR (op_eqSame (r64 hr)) (pe_heard (k := 6) hf hr (fun A outer s H E f c' hr' => pe_callNn B.allM hr' passL (pa_cons (pv 0) pa_nil) (pk_cons (pv 10) pk_nil))) (pe_tup (pa_cons pe_str (pa_cons (pv 10) (pa_cons pe_bl pa_nil)))) (nomark _)))))))))))))), ?_⟩
    have ok := hc.ok
    have l1 := ok.l1
    have l4 := ok.l4
    have bb : ∀ b : Bool, OkD 1 100 (.list [.bool b, .bool b]) := fun b => (okD_list (okA_cons (okD_bl b) (okA_cons (okD_bl b) okA_nil))).mono (Nat.le_refl _) (by decide)
    have ob := bb (decide ((0 : Int) ∉ rs))
    refine ⟨fun σ' H' => σ' = [some (.ref c), some (.ref p), some (.ref q), .none, .none, .none, .none, .none, .none, .none, .none] ∧ Same H H', ?_, ?_⟩
    · refine ⟨_, rfl, c, rs, es, rfl, hc, _, rfl, rfl, rfl, c, rs, es, rfl, hc, (by show 2 ≤ sizeLine; decide), fun l hl => ?_⟩
      have e1 := same_new (o := HO.lst [.bl (decide ((0 : Int) ∉ rs)), .bl (decide ((0 : Int) ∉ rs))]) hl
      refine ⟨_, _, rfl, .lst (SqL.of upd_same) (.cons (.bl _) (.cons (.bl _) .nil)), ob.sh, ob.nd, ob.d60, ob.line, ?_⟩
      refine ⟨_, rfl, p, _, rfl, .inr (sqT_same e1 hp), rfl, flat_nums, ?_⟩
      rw [op_notIn_nums]
      refine ⟨(by show 1 ≤ sizeLine; decide), fun l2 hl2 => ?_⟩
      have e2 := same_new (o := HO.lst [.bl (decide ((0 : Int) ∉ rs))]) hl2
      refine ⟨l2, 2, _, rfl, rfl, upd_same, by decide, by decide, (by show 2 ≤ sizeLine; decide), fun l3 hl3 => ?_⟩
      refine ⟨_, .list [.bool (decide ((0 : Int) ∉ rs)), .bool (decide ((0 : Int) ∉ rs))], rfl, .lst (SqL.of upd_same) (.cons (.bl _) (.cons (.bl _) .nil)), ob.sh, ob.nd, ob.d60, ob.line, rfl, _, rfl, ?_⟩
      rw [decide_eq_true rfl]
      exact iteF ⟨rfl, (e1.trans e2).trans (same_new hl3)⟩
    · rintro σ' H1 ⟨rfl, e1⟩
      have hc1 := hc.same e1
      have hp1 := sqT_same e1 hp
      have hq1 := sqT_same e1 hq
      have ht1 := ht.ext e1
      have x1 := ext_of e1
      refine ⟨fun σ' H' => σ' = [some (.ref c), some (.ref p), some (.ref q), .none, .none, .none, .none, .none, .none, .none, .none] ∧ H' = H1 ∧ (0 : Int) ∉ rs, ?_, ?_⟩
      · refine ⟨_, rfl, p, _, rfl, .inr hp1, rfl, flat_nums, _, rfl, ?_⟩
        rw [inV_nums]
        refine ite2 (fun h0 => ?_) (fun h0 => ?_)
        · have z := of_decide_eq_true h0
          refine ⟨_, rfl, (by show 3 ≤ sizeLine; decide), fun t2 ht2 => ?_⟩
          have e2 := same_new (o := HO.tup [.str "refused", .ref c, .bl true]) ht2
          have hd2 : SqT K (upd H1 t2 (.tup [.str "refused", .ref c, .bl true])) t2 [.str "refused", .ref c, .bl true] := SqT.of upd_same
          have hc2 := hc1.same e2
          have ht2' := ht1.ext e2
          have x2 := x1.trans (ext_of e2)
          generalize upd H1 t2 (.tup [.str "refused", .ref c, .bl true]) = H2 at *
          have items : ∀ v ∈ ([.str "refused", .ref c, .bl true] : List V), flatB v = true ∨ ∃ c, v = .ref c := fun v hv => by
            simp only [List.mem_cons, List.not_mem_nil, or_false] at hv
            rcases hv with rfl | rfl | rfl
            · exact .inl rfl
            · exact .inr ⟨_, rfl⟩
            · exact .inl rfl
          refine ⟨fun σ' H' => σ' = [some (.ref c), some (.ref p), some (.ref q), some (.ref t2), .none, .none, .none, .none, .none, .none, .none] ∧ LamX.ExtN H2 H' ∧ LamX.Tabs Ts H', ?_, ?_⟩
          · refine ⟨ht2', fun H3 x3 t3 => ?_⟩
            have hc3 := ext_cn x3 hc2
            refine ⟨_, rfl, c, rs, es, rfl, hc3, fun _ d H4 e4 hd4 => ?_, fun z' => absurd z z'⟩
            refine ⟨d, rfl, .inr (.inr (.inl ⟨rfl, _, hd4, .inl ⟨c, rs, es, rfl, hc3.same e4, fun r H5 e5 hr5 => ?_⟩⟩))⟩
            have e45 := e4.trans e5
            refine ⟨_, rfl, r, t2, _, rfl, rfl, hr5, sqT_same e45 (ext_sqT x3 hd2), items, _, rfl, ?_⟩
            exact iteF ⟨rfl, x3.trans (ext_of e45), t3.ext e45⟩
          · rintro σ' H3 ⟨rfl, x3, t3⟩
            refine ⟨t3, fun H4 x4 t4 => ?_⟩
            have hc4 := ext_cn (x3.trans x4) hc2
            refine ⟨_, rfl, rfl, rfl, c, rs, es, 9, rfl, hc4, by decide, fun _ d H5 e5 hd5 => ?_, fun z' => absurd z z', fun z' => absurd z z'⟩
            refine ⟨d, rfl, .inr (.inr (.inl ⟨rfl, _, hd5, .inl ⟨c, rs, es, rfl, hc4.same e5, fun r H6 e6 hr6 => ?_⟩⟩))⟩
            have e56 := e5.trans e6
            refine ⟨_, rfl, r, t2, _, rfl, rfl, hr6, sqT_same e56 (ext_sqT (x3.trans x4) hd2), items, ?_⟩
            exact k _ (((x2.trans x3).trans x4).trans (ext_of e56)) (t4.ext e56)
        · exact ⟨rfl, rfl, of_decide_eq_false (Bool.eq_false_iff.mpr h0)⟩
      · rintro σ' H1' ⟨rfl, rfl, h0⟩
        have rng := size_range ok h0
        obtain ⟨pf1, pf2⟩ := prod_capF ok h0
        have cnt := rows_count ok h0
        generalize hS : sizesOf rs es = sizes at *
        have ls : sizes.length = rs.length := by rw [← hS]; exact sizes_length ok
        refine ⟨fun σ' H' => ∃ x y, σ' = [some (.ref c), some (.ref p), some (.ref q), .none, some (.int (prodOf sizes)), x, y, .none, .none, .none, .none] ∧ Same H1' H', ?_, ?_⟩
        · refine ⟨_, rfl, _, rfl, p, q, _, _, rfl, .inr ⟨hp1, hq1, for_zipT (xs := rs.map V.int) (ys := es.map V.int) (by rw [List.length_map, List.length_map, ok.le]) (fun i σ' H' => ∃ x y, σ' = [some (.ref c), some (.ref p), some (.ref q), .none, some (.int ((sizes.take i).foldl (· * ·) 1)), x, y, .none, .none, .none, .none] ∧ Same H1' H') ⟨.none, .none, rfl, Same.refl _⟩ ?_ ?_ ?_⟩⟩
          · rintro i σ' H' ⟨_, _, _, e⟩
            exact ⟨sqT_same e hp1, sqT_same e hq1⟩
          · rintro i x y t2 σ' H' hx hy ⟨x0, y0, rfl, e3⟩ ht2
            obtain ⟨r, hr', rfl⟩ : ∃ n, rs[i]? = some n ∧ x = .int n := by
              rw [List.getElem?_map, Option.map_eq_some_iff] at hx
              obtain ⟨n, h1, h2⟩ := hx
              exact ⟨n, h1, h2.symm⟩
            obtain ⟨e, he', rfl⟩ : ∃ n, es[i]? = some n ∧ y = .int n := by
              rw [List.getElem?_map, Option.map_eq_some_iff] at hy
              obtain ⟨n, h1, h2⟩ := hy
              exact ⟨n, h1, h2.symm⟩
            have hn : sizes[i]? = some (r + e) := by rw [← hS]; exact sizes_at hr' he'
            have cap := prod_cap ok h0 i
            rw [hS] at cap
            refine ⟨t2, _, rfl, SqT.of upd_same, rfl, ?_⟩
            refine ⟨_, _, rfl, _, _, rfl, rfl, ?_⟩
            refine ⟨_, rfl, _, rfl, _, rfl, _, _, rfl, rfl, _, _, rfl, rfl, .inl ⟨by omega, by omega⟩, some (.int r), some (.int e), ?_, e3.trans (same_new ht2)⟩
            rw [List.take_add_one, hn, Option.toList_some, List.foldl_append]
            rfl
          · rintro σ' H' ⟨x0, y0, rfl, e3⟩
            have full : sizes.take (rs.map V.int).length = sizes := List.take_of_length_le (by rw [List.length_map, ls]; exact Nat.le_refl _)
            rw [full]
            exact ⟨x0, y0, rfl, e3⟩
        · rintro σ' H2 ⟨x0, y0, rfl, e2⟩
          have hc2 := hc1.same e2
          have om : OkD 0 1921 (.int (prodOf sizes)) := okD_int (Nat.lt_of_lt_of_le (show _ < 2 ^ 30 by omega) (Nat.pow_le_pow_right (by decide) (by decide)))
          have o2 : OkD 1 4000 (.list [.int (prodOf sizes), .int (prodOf sizes)]) := (okD_list (okA_cons om (okA_cons om okA_nil))).mono (Nat.le_refl _) (by decide)
          refine ⟨fun σ' H' => σ' = [some (.ref c), some (.ref p), some (.ref q), .none, some (.int (prodOf sizes)), x0, y0, .none, .none, .none, .none] ∧ Same H2 H', ?_, ?_⟩
          · refine ⟨_, rfl, c, rs, es, rfl, hc2, fun z => absurd z h0, fun _ H3 e3 => ?_⟩
            rw [hS]
            refine ⟨_, rfl, rfl, rfl, c, rs, es, rfl, hc2.same e3, fun z => absurd z h0, fun _ H4 e4 => ?_⟩
            rw [hS]
            refine ⟨(by show 2 ≤ sizeLine; decide), fun l5 hl5 => ?_⟩
            refine ⟨_, _, rfl, .lst (SqL.of upd_same) (.cons (.int _) (.cons (.int _) .nil)), o2.sh, o2.nd, o2.d60, o2.line, ?_⟩
            refine ⟨_, rfl, _, rfl, (by show 2 ≤ sizeLine; decide), fun l6 hl6 => ?_⟩
            refine ⟨_, _, rfl, .lst (SqL.of upd_same) (.cons (.int _) (.cons (.int _) .nil)), o2.sh, o2.nd, o2.d60, o2.line, rfl, _, rfl, ?_⟩
            rw [decide_eq_true rfl]
            exact iteF ⟨rfl, ((e3.trans e4).trans (same_new hl5)).trans (same_new hl6)⟩
          · rintro σ' H3 ⟨rfl, e3⟩
            have e13 := e2.trans e3
            have hc3 := hc1.same e13
            have hp3 := sqT_same e13 hp1
            have hq3 := sqT_same e13 hq1
            have rowsOk : (rowsOf sizes).length ≤ 1000 → OkD 2 15402004 (dRows (rowsOf sizes)) := fun l => by
              have := okD_rowsOf (es := es) ok h0 (by rw [hS]; exact l)
              rwa [hS] at this
            refine ⟨fun σ' H' => σ' = [some (.ref c), some (.ref p), some (.ref q), .none, some (.int (prodOf sizes)), x0, y0, .none, .none, .none, .none] ∧ Same H3 H', ?_, ?_⟩
            · refine ⟨_, rfl, _, _, rfl, rfl, _, rfl, ?_⟩
              refine ite2 (fun h1 => ?_) (fun h1 => ?_)
              · have l4' : prodOf sizes < 400 := of_decide_eq_true h1
                have orw := rowsOk (by omega)
                refine ⟨_, rfl, _, rfl, rfl, rfl, c, rs, es, _, rfl, hc3, by omega, fun z => absurd z h0, fun _ z => ?_, fun _ _ r H4 vs e4 hr4 rows4 => ?_⟩
                · rw [hS] at z
                  omega
                rw [hS] at rows4
                refine ⟨_, _, rfl, dp_rows hr4 rows4, orw.sh, orw.nd, orw.d60, orw.line, ?_⟩
                refine ⟨_, rfl, _, rfl, p, q, rs, es, rfl, ok, h0, by rw [hS]; omega, sqT_same e4 hp3, sqT_same e4 hq3, fun r5 H5 vs5 e5 hr5 rows5 => ?_⟩
                rw [hS] at rows5
                refine ⟨_, _, rfl, dp_rows hr5 rows5, orw.sh, orw.nd, orw.d60, orw.line, rfl, _, rfl, ?_⟩
                rw [decide_eq_true rfl]
                refine iteF ?_
                have e45 := e4.trans e5
                refine ⟨_, rfl, rfl, rfl, c, rs, es, 9999, rfl, hc3.same e45, by decide, fun z => absurd z h0, fun _ z => ?_, fun _ _ r6 H6 vs6 e6 hr6 rows6 => ?_⟩
                · rw [hS] at z
                  omega
                rw [hS] at rows6
                have e46 := e45.trans e6
                refine ⟨_, rfl, _, rfl, p, q, rs, es, rfl, ok, h0, by rw [hS]; omega, sqT_same e46 hp3, sqT_same e46 hq3, fun r7 H7 vs7 e7 hr7 rows7 => ?_⟩
                rw [hS] at rows7
                refine ⟨_, _, dp_rows (sqT_same e7 hr6) (rows6.same e7), dp_rows hr7 rows7, _, rfl, ?_⟩
                rw [decide_eq_true rfl]
                exact iteF ⟨rfl, e46.trans e7⟩
              · exact ⟨rfl, Same.refl _⟩
            · rintro σ' H4 ⟨rfl, e4⟩
              have e14 := e13.trans e4
              have hp4 := sqT_same e14 hp1
              have hq4 := sqT_same e14 hq1
              refine ⟨fun σ' H' => ∃ x7 x8 x9, σ' = [some (.ref c), some (.ref p), some (.ref q), .none, some (.int (prodOf sizes)), x0, y0, x7, x8, x9, .none] ∧ Same H4 H', ?_, ?_⟩
              · refine ⟨_, rfl, _, _, rfl, rfl, _, rfl, ?_⟩
                refine ite2 (fun h1 => ?_) (fun h1 => ?_)
                · have l80 : prodOf sizes < 80 := of_decide_eq_true h1
                  refine ⟨_, rfl, _, rfl, p, q, rs, es, rfl, ok, h0, by rw [hS]; omega, hp4, hq4, fun r5 H5 vs5 e5 hr5 rows5 => ?_⟩
                  rw [hS] at rows5
                  refine ⟨r5, vs5, rfl, for_any (.inr hr5) (fun i σ' H' => ∃ x7 x8 x9, σ' = [some (.ref c), some (.ref p), some (.ref q), .none, some (.int (prodOf sizes)), x0, y0, x7, x8, x9, .none] ∧ Same H5 H') ⟨_, _, _, rfl, Same.refl _⟩ ?_ ?_ ?_ ?_⟩
                  · rintro i σ' H' ⟨_, _, _, _, e⟩ z
                    exact sqL_same e z
                  · rintro i σ' H' ⟨_, _, _, _, e⟩ z
                    exact sqT_same e z
                  · rintro i x σ' H6 hx ⟨x7, x8, x9, rfl, e6⟩
                    obtain ⟨rq, row, rfl, hrow, hq6⟩ := rows5.get hx
                    have mem := List.mem_of_getElem? hrow
                    obtain ⟨m1, m2⟩ := rows_of row mem
                    have hq6 := sqT_same e6 hq6
                    refine ⟨Nat.zero_le _, fun l hl => ?_⟩
                    have e7 := same_new (o := HO.lst []) hl
                    have small : ∀ k, (row.getD k 0).toNat ≤ 66 := fun k => by
                      rewrite [List.getD_eq_getElem?_getD]
                      cases e : row[k]? with
                      | none => exact Nat.zero_le _
                      | some x =>
                        obtain ⟨q1, q2⟩ := m2 k x e
                        have kl := (List.getElem?_eq_some_iff.mp e).1
                        have hk : k < sizes.length := by omega
                        rw [List.getD_eq_getElem?_getD, List.getElem?_eq_getElem hk] at q2
                        have q3 := rng sizes[k] (List.getElem_mem hk)
                        have q2 : x < sizes[k] := q2
                        show x.toNat ≤ 66
                        omega
                    refine ⟨fun σ' H' => ∃ l y9, σ' = [some (.ref c), some (.ref p), some (.ref q), .none, some (.int (prodOf sizes)), x0, y0, some (.ref rq), some (.ref l), y9, .none] ∧ Same H6 H' ∧ H' l = some (.lst ((rowFor row rs.length).map V.int)), ?_, ?_⟩
                    · refine ⟨_, rfl, p, _, rfl, .inr (sqT_same (((e5.trans e6)).trans e7) hp4), ?_⟩
                      rw [List.length_map]
                      refine ⟨_, rfl, by omega, by omega, for_range (lo := 0) (n := rs.length) (fun i σ' H' => ∃ l y9, σ' = [some (.ref c), some (.ref p), some (.ref q), .none, some (.int (prodOf sizes)), x0, y0, some (.ref rq), some (.ref l), y9, .none] ∧ Same H6 H' ∧ H' l = some (.lst ((rowFor row i).map V.int))) ⟨l, x9, rfl, e7, upd_same⟩ ?_ ?_⟩
                      · rintro j σ' H8 hj ⟨l, y9, rfl, e8, hl8⟩
                        have hj : j < rs.length := hj
                        have hj2 : j < row.length := by omega
                        have at_ : (row.map V.int)[j]? = some (.int (row.getD j 0)) := by rw [List.getElem?_map, List.getElem?_eq_getElem hj2, List.getD_eq_getElem?_getD, List.getElem?_eq_getElem hj2] <;> rfl
                        have q0 : 0 ≤ row.getD j 0 := by
                          rw [List.getD_eq_getElem?_getD, List.getElem?_eq_getElem hj2]
                          exact (m2 j _ (List.getElem?_eq_getElem hj2)).1
                        have sm := small j
                        have i0 : (0 : Int) + (j : Int) = (j : Int) := Int.zero_add _
                        rw [i0]
                        refine ⟨_, rfl, _, rfl, (by show 1 ≤ sizeLine; decide), fun l9 hl9 => ?_⟩
                        have e9 := same_new (o := HO.lst [.int (j : Int)]) hl9
                        refine ⟨_, rfl, _, rfl, rq, _, _, _, rfl, rfl, sqT_same (e8.trans e9) hq6, atI_nat at_, ?_⟩
                        refine ⟨l9, _, _, rfl, rfl, upd_same, by omega, by omega, ?_, fun l10 hl10 => ?_⟩
                        · show 1 * _ ≤ _
                          rw [sizeLine_eq]
                          omega
                        · rw [rep_one]
                          have e10 := same_new (o := HO.lst ((List.replicate (row.getD j 0).toNat (j : Int)).map V.int)) hl10
                          have len := rowFor_length small j
                          refine ⟨l, l10, _, _, rfl, rfl, e10 _ _ (e9 _ _ hl8), upd_same, ?_, fun l11 hl11 => ?_⟩
                          · rw [List.length_map, List.length_map, List.length_replicate, sizeLine_eq]
                            have : 66 * j ≤ 66 * 4 := Nat.mul_le_mul_left _ (by omega)
                            omega
                          · refine ⟨l11, some (.int (j : Int)), rfl, ((e8.trans e9).trans e10).trans (same_new hl11), ?_⟩
                            rw [upd_same, rowFor_succ, List.map_append]
                      · rintro σ' H8 ⟨l, y9, rfl, e8, hl8⟩
                        exact ⟨l, y9, rfl, e8, hl8⟩
                    · rintro σ' H8 ⟨l, y9, rfl, e8, hl8⟩
                      have e58 := (e5.trans e6).trans e8
                      refine ⟨_, rfl, _, rfl, _, rfl, p, q, l, rs, es, _, rfl, ok, sqT_same e58 hp4, sqT_same e58 hq4, .inl (SqL.of hl8), fun r9 H9 e9 hr9 => ?_⟩
                      have same := rowFor_shows (es := es) ok h0 (by rw [hS]; exact mem)
                      rw [same] at hr9
                      refine ⟨_, rfl, r9, rq, _, _, rfl, rfl, hr9, sqT_same (e8.trans e9) hq6, _, rfl, ?_⟩
                      rw [decide_eq_true rfl]
                      exact iteF ⟨_, _, _, rfl, (e6.trans e8).trans e9⟩
                  · rintro σ' H' ⟨x7, x8, x9, rfl, e6⟩
                    exact ⟨x7, x8, x9, rfl, e5.trans e6⟩
                · exact ⟨.none, .none, .none, rfl, Same.refl _⟩
              · rintro σ' H5 ⟨x7, x8, x9, rfl, e5⟩
                have e15 := e14.trans e5
                have hc5 := hc1.same e15
                have ht5 := ht1.ext e15
                have x5 := x1.trans (ext_of e15)
                refine ⟨_, rfl, _, _, rfl, rfl, _, _, rfl, ?_⟩
                refine ⟨_, rfl, rfl, _, rfl, ?_⟩
                refine ite2 (fun h1 => ?_) (fun h1 => ?_)
                · exact k _ x5 ht5
                · have ne1 : prodOf sizes ≠ 1 := fun z => h1 (by rw [z]; exact decide_eq_true rfl)
                  have hfew : ∃ few : Int, (if (20000 : Int) < prodOf sizes - 1 then (20000 : Int) else prodOf sizes - 1) = few ∧ few ≤ 20000 ∧ few < prodOf sizes := by
                    by_cases z : (20000 : Int) < prodOf sizes - 1
                    · exact ⟨_, if_pos z, by omega, by omega⟩
                    · exact ⟨_, if_neg z, by omega, by omega⟩
                  obtain ⟨few, ef, f1, f2⟩ := hfew
                  refine ⟨ht5, fun H6 x6 t6 => ?_⟩
                  have hc6 := ext_cn x6 hc5
                  refine ⟨_, rfl, _, rfl, rfl, rfl, c, rs, es, few, ?_, hc6, f1, fun z => absurd z h0, fun _ _ d H7 e7 hd7 => ?_, fun _ z => ?_⟩
                  · rw [← ef]
                    rfl
                  · refine ⟨d, rfl, .inr (.inr (.inr (.inl ⟨rfl, few, hd7, fun r H8 e8 hr8 => ?_⟩)))⟩
                    have e78 := e7.trans e8
                    refine ⟨_, rfl, (by show 3 ≤ sizeLine; decide), fun t9 ht9 => ?_⟩
                    have e9 := same_new (o := HO.tup [.str "great", .int few, .bl true]) ht9
                    refine ⟨r, t9, [.str "great", .int few, .bl true], rfl, rfl, sqT_same (same_new ht9) hr8, ?_, ?_, ?_⟩
                    · rw [← ef]
                      exact SqT.of upd_same
                    · intro v hv
                      simp only [List.mem_cons, List.not_mem_nil, or_false] at hv
                      rcases hv with rfl | rfl | rfl <;> exact .inl rfl
                    · exact k _ ((x5.trans x6).trans (ext_of (e78.trans (same_new ht9)))) (t6.ext (e78.trans (same_new ht9)))
                  · rw [hS] at z
                    omega
end
end K3
/-! counters and machines are made, compared; the law's widest showings -/
namespace K3
open PySem PySem.Spec PyProof.Rows L2 Kx RZ
def kwC : List V → List V → List V := fun vs zs => vs ++ [zs.getD 1 .non, zs.getD 0 .non]
/-- how the classes are made, compared; t0 the default of rests -/
structure Mks (P : Program) (w : World) (K : PySem.W.Frag) (mg : Str → Option Value) (base : Heap) (a : Ad) (C CM t0 : Addr) : Prop where
  cnt : ∃ (f : Addr) (fd : FuncData), Mk K C f ∧ FnOk P w K mg base (L2.CX P w) 5 f fd ["self", "rounds", "rests"] (spInit K a C) ∧ Binds K fd ["self", "rounds", "rests"] [] ∧ Binds K fd ["self", "rounds", "rests"] [.ref t0] ∧
    ∃ g, KBn K fd ["self", "rounds", "rests"] 1 ["rests", "rounds"] g kwC
  mac : ∃ (f : Addr) (fd : FuncData), mg "Machine" = some (.ref CM) ∧ Mk K CM f ∧ FnOk P w K mg base CX0 5 f fd ["self", "tables"] (spMachine K CM) ∧ Binds K fd ["self", "tables"] []
  eq : ∃ (f : Addr) (fd : FuncData), EqC K C f ∧ Binds K fd ["self", "other"] [] ∧ FnOk P w K mg base CX0 1 f fd ["self", "other"] (spEqC K C)
  nil : ∀ H, SqT K H t0 []
section
variable {X : Cx} {a : Ad} {C CM t0 : Addr} {E : XK} {p pos : Pos} {e e2 : Expr} {t tk : TA} {kws : List Keyword} {n : Nat}
theorem pe_cnt2 (M : Mks X.prog X.w X.K X.mg X.base a C CM t0) (TC : ClsC X.K X.mg C) (hr : Room n X.A) (hx : Passes (L2.CX X.prog X.w) X E) (ha : PA X [e, e2] t) (hn : 6 ≤ n := by decide) (hg : Gl X "Counters" := by rfl)
    (he : starEach [e, e2] X.env = (false, eval e X.env) :: starEach [e2] X.env := by rfl) (hpl : (backTo pos (starEach [e2] X.env)).any (·.1) = false := by rfl) {K : PySem.W.Frag} (hK : X.K = K := by rfl) : PE X (.Call (.Name "Counters" p) [e, e2] [] pos) (tMake C (spInit K a C) [] E t) := by
  subst hK
  obtain ⟨f, fd, h1, h2, h3, _⟩ := M.cnt
  exact pe_make h1 h2 (hr.mono hn) hg TC.at_ h3 .nil hx ha (by decide) he hpl
theorem pe_cnt1 (M : Mks X.prog X.w X.K X.mg X.base a C CM t0) (TC : ClsC X.K X.mg C) (hr : Room n X.A) (hx : Passes (L2.CX X.prog X.w) X E) (ha : PA X [e] t) (hn : 6 ≤ n := by decide) (hg : Gl X "Counters" := by rfl)
    (he : starEach [e] X.env = (false, eval e X.env) :: starEach [] X.env := by rfl) (hpl : (backTo pos (starEach [] X.env)).any (·.1) = false := by rfl) : PE X (.Call (.Name "Counters" p) [e] [] pos) (tMake C (spInit X.K a C) [.ref t0] E t) := by
  obtain ⟨f, fd, h1, h2, _, h3, _⟩ := M.cnt
  exact pe_make h1 h2 (hr.mono hn) hg TC.at_ h3 (.cons rfl .nil) hx ha (by decide) he hpl
theorem pe_cntK (M : Mks X.prog X.w X.K X.mg X.base a C CM t0) (TC : ClsC X.K X.mg C) (hr : Room n X.A) (hx : Passes (L2.CX X.prog X.w) X E) (hkw : PK X kws tk) (hn : 6 ≤ n := by decide) (hg : Gl X "Counters" := by rfl)
    (hall : (backToKw pos (keywordEach kws X.env)).all (·.1.isSome) = true := by rfl) (hks : (backToKw pos (keywordEach kws X.env)).filterMap (·.1) = (["rests", "rounds"] : List Str) := by rfl)
    (hpl : ((backTo pos (starEach [] X.env)).any (·.1) || (backToKw pos (keywordEach kws X.env)).any (·.1.isNone)) = false := by rfl) : PE X (.Call (.Name "Counters" p) [] kws pos) (tMakeK C 0 2 (spInit X.K a C) kwC E tNil tk) := by
  obtain ⟨f, fd, h1, h2, _, _, g, h3⟩ := M.cnt
  exact pe_makeK0 h1 h2 (hr.mono hn) hg TC.at_ h3 hx hkw hall hks (by decide) hpl
theorem pe_mac (M : Mks X.prog X.w X.K X.mg X.base a C CM t0) (hr : Room n X.A) (ha : PA X [e] t) (hn : 6 ≤ n := by decide) (hg : Gl X "Machine" := by rfl)
    (he : starEach [e] X.env = (false, eval e X.env) :: starEach [] X.env := by rfl) (hpl : (backTo pos (starEach [] X.env)).any (·.1) = false := by rfl) : PE X (.Call (.Name "Machine" p) [e] [] pos) (tMake CM (spMachine X.K CM) [] E0 t) := by
  obtain ⟨f, fd, h0, h1, h2, h3⟩ := M.mac
  exact pe_make h1 h2 (hr.mono hn) hg h0 h3 .nil pass0 ha (by decide) he hpl
/-- c == d, c != d, both counters -/
def rCn (K : PySem.W.Frag) (C : Addr) (neg : Bool) : R2 := fun x y H Q => ∃ c d rs es rs' es', x = .ref c ∧ y = .ref d ∧ CnAt K C H c rs es ∧ CnAt K C H d rs' es' ∧ ∀ H', Same H H' → Q (.bl (neg != decide (rs = rs' ∧ es = es'))) H'
/-- c == t, t a tuple -/
def rCnT (K : PySem.W.Frag) (C : Addr) : R2 := fun x y H Q => ∃ c rs es d xs, x = .ref c ∧ y = .ref d ∧ CnAt K C H c rs es ∧ SqT K H d xs ∧ ∀ H', Same H H' → Q (.bl false) H'
theorem op_eqCn (M : Mks X.prog X.w X.K X.mg X.base a C CM t0) (hr : Room n X.A) (hn : 2 ≤ n := by decide) : OpR X (compareOp .Eq) (rCn X.K C false) := by
  obtain ⟨f, fd, h1, h2, h3⟩ := M.eq
  intro pins st σ H x y v u Q I rx ry ⟨c, d, rs, es, rs', es', ex, ey, hc, hd, q⟩
  obtain ⟨_, dx, _, _, c1, _⟩ := id hc
  obtain ⟨_, dy, _, _, d1, _⟩ := id hd
  exact own_eq h3 h1 h2 (hr.mono (by omega)) pass0 pins st σ H x y v u Q I rx ry ⟨c, d, dx, _, ex, ey, c1, .inl ⟨dy, _, d1⟩, c, rs, es, d, by rw [ex, ey], hc, .inl ⟨rs', es', hd, fun H' e => ⟨_, rfl, q H' e⟩⟩⟩
theorem op_neCn (M : Mks X.prog X.w X.K X.mg X.base a C CM t0) (hr : Room n X.A) (hn : 2 ≤ n := by decide) : OpR X (compareOp .NotEq) (rCn X.K C true) := by
  obtain ⟨f, fd, h1, h2, h3⟩ := M.eq
  intro pins st σ H x y v u Q I rx ry ⟨c, d, rs, es, rs', es', ex, ey, hc, hd, q⟩
  obtain ⟨_, dx, _, _, c1, _⟩ := id hc
  obtain ⟨_, dy, _, _, d1, _⟩ := id hd
  exact own_ne h3 h1 h2 (hr.mono (by omega)) pass0 pins st σ H x y v u Q I rx ry ⟨c, d, dx, _, ex, ey, c1, .inl ⟨dy, _, d1⟩, c, rs, es, d, by rw [ex, ey], hc, .inl ⟨rs', es', hd, fun H' e => ⟨_, rfl, q H' e⟩⟩⟩
theorem op_eqCnT (M : Mks X.prog X.w X.K X.mg X.base a C CM t0) (TC : ClsC X.K X.mg C) (hr : Room n X.A) (hn : 2 ≤ n := by decide) : OpR X (compareOp .Eq) (rCnT X.K C) := by
  obtain ⟨f, fd, h1, h2, h3⟩ := M.eq
  intro pins st σ H x y v u Q I rx ry ⟨c, rs, es, d, xs, ex, ey, hc, hd, q⟩
  obtain ⟨_, dx, _, _, c1, _⟩ := id hc
  exact own_eq h3 h1 h2 (hr.mono (by omega)) pass0 pins st σ H x y v u Q I rx ry ⟨c, d, dx, _, ex, ey, c1, .inr ⟨rfl, ⟨xs, hd⟩, TC.first⟩, c, rs, es, d, by rw [ex, ey], hc, .inr ⟨⟨xs, hd⟩, fun H' e => ⟨_, rfl, q H' e⟩⟩⟩
end
/-! what __init__ asks of a new one -/
section
variable {K : PySem.W.Frag} {a : Ad} {C x dx : Addr} {H : Hp} {v1 v2 : V} {E : XK} {o1 o2 : Option (List V)} {rs es : List Int}
theorem new_ins (hx : H x = none) (hd : H dx = none) (ne : dx ≠ x) : Same H (upd (upd H dx (.own x)) x (.ins C dx [])) := (same_new hd).trans (same_new (by rw [upd_ne (Ne.symm ne)]; exact hx))
theorem rounds_ok (ok : Cok rs es) : roundsOk (some (rs.map V.int)) = true := by
  rw [roundsOk_some, inLen_some, fnb_of (l := 61) fun n hn => ⟨(ok.r n hn).1, by have := (ok.r n hn).2; omega⟩, List.length_map]
  have := ok.l1
  have := ok.l4
  rw [decide_eq_true (by omega), decide_eq_true (by omega)]
  rfl
theorem rests_ok (ok : Cok rs es) : restsOk rs.length (some (es.map V.int)) = true := by
  rw [restsOk_some, fnb_of (l := 7) fun n hn => ⟨(ok.e n hn).1, by have := (ok.e n hn).2; omega⟩, List.length_map, decide_eq_true ok.le]
  simp
theorem make_good {Q : Hp → Prop} (ok : Cok rs es) (h1 : Long K H v1 (some (rs.map V.int))) (h2 : (Long K H v2 (some []) ∧ es = List.replicate rs.length 0) ∨ Long K H v2 (some (es.map V.int))) (hx : H x = none) (hd : H dx = none) (ne : dx ≠ x)
    (q : ∀ H', Same H H' → CnAt K C H' x rs es → Q H') : spInit K a C [.ref x, v1, v2] (upd (upd H dx (.own x)) x (.ins C dx [])) (fun v H2 => v = .non ∧ Q H2) E := by
  have e := new_ins (C := C) hx hd ne
  have last : ∀ rs' es', some (rs.map V.int) = some (rs'.map V.int) → es' = es → ∀ H', (∀ b o, b ≠ x → upd (upd H dx (.own x)) x (.ins C dx []) b = some o → H' b = some o) → CnAt K C H' x rs' es' → V.non = V.non ∧ Q H' := fun rs' es' er ee H' keep cn => by
    have er := ints_inj (Option.some.inj er)
    subst er ee
    exact ⟨rfl, q H' (fun b o hb => keep b o (ne_of_none hb hx) (e _ _ hb)) cn⟩
  rcases h2 with ⟨h2, ee⟩ | h2
  · refine ⟨x, dx, v1, v2, _, some [], rfl, upd_same, h1.same e, kns_ints, h2.same e, fun xs q _ x hx => by cases q; simp at hx, fun z => ?_, fun xs e1 _ z => ?_, fun rs' es' ok' er how => ?_⟩
    · rw [rounds_ok ok] at z
      cases z
    · cases e1
      rw [restsOk_some] at z
      cases z
    · rcases how with ⟨_, e3⟩ | e3
      · exact last rs' es' er (by rw [e3, ee, ints_inj (Option.some.inj er)])
      · exfalso
        have z : es'.length = 0 := by cases es' with
          | nil => rfl
          | cons _ _ => cases e3
        have := ok'.le
        have := ok'.l1
        omega
  · refine ⟨x, dx, v1, v2, _, _, rfl, upd_same, h1.same e, kns_ints, h2.same e, kns_ints, fun z => ?_, fun xs e1 _ z => ?_, fun rs' es' ok' er how => ?_⟩
    · rw [rounds_ok ok] at z
      cases z
    · cases e1
      rw [List.length_map, rests_ok ok] at z
      cases z
    · rcases how with ⟨e3, _⟩ | e3
      · exfalso
        have z : es.length = 0 := by cases es with
          | nil => rfl
          | cons _ _ => cases e3
        have := ok.le
        have := ok.l1
        omega
      · exact last rs' es' er (ints_inj (Option.some.inj e3)).symm
theorem make_bad1 {Q : VK} (h1 : Long K H v1 o1) (k1 : Kns K H o1 4) (h2 : Long K H v2 o2) (k2 : Kns K H o2 4) (bad : roundsOk o1 = false) (hx : H x = none) (hd : H dx = none) (ne : dx ≠ x) (q : Thrown E H a.cF "at" v1) :
    spInit K a C [.ref x, v1, v2] (upd (upd H dx (.own x)) x (.ins C dx [])) Q E := by
  have e := new_ins (C := C) hx hd ne
  refine ⟨x, dx, v1, v2, o1, o2, rfl, upd_same, h1.same e, k1.same e, h2.same e, k2.same e, fun _ => q.same e, fun xs _ z => ?_, fun rs' es' ok' er _ => ?_⟩
  · rw [bad] at z
    cases z
  · rw [er, rounds_ok ok'] at bad
    cases bad
theorem make_bad2 {Q : VK} (ok : Cok rs es) (h1 : Long K H v1 (some (rs.map V.int))) (h2 : Long K H v2 o2) (k2 : Kns K H o2 4) (bad : restsOk rs.length o2 = false) (hx : H x = none) (hd : H dx = none) (ne : dx ≠ x) (q : Thrown E H a.cF "at" v2) :
    spInit K a C [.ref x, v1, v2] (upd (upd H dx (.own x)) x (.ins C dx [])) Q E := by
  have e := new_ins (C := C) hx hd ne
  refine ⟨x, dx, v1, v2, _, o2, rfl, upd_same, h1.same e, kns_ints, h2.same e, k2.same e, fun z => ?_, fun xs _ _ _ => q.same e, fun rs' es' ok' er how => ?_⟩
  · rw [rounds_ok ok] at z
    cases z
  · have er := ints_inj (Option.some.inj er)
    subst er
    rcases how with ⟨e3, _⟩ | e3
    · rw [e3, restsOk_some] at bad
      cases bad
    · rw [e3, rests_ok ok'] at bad
      cases bad
end
end K3
/-! the law's widest showings -/
namespace K3
open PySem PySem.Spec PyProof.Rows L2 Kx RZ
def spWideRight (K : PySem.W.Frag) : Sp := fun vs H Q _ => ∃ (b : Addr) (t : Int × Int × Int), vs = [.ref b] ∧ H b = some (bx t) ∧ ∀ H', Mv b H H' → Q (.bl true) H'
theorem Mv.news {b : Addr} {H H' : Hp} {t : Int × Int × Int} (hb : H b = some (bx t)) (e : Same H H') : Mv b H H' := ⟨fun c o _ q => e c o q, t, e _ _ hb⟩
section
variable {P : Program} {w : World} {K : PySem.W.Frag} {mg : Str → Option Value} {base : Heap} {f : Addr} {fd : FuncData} {a : Ad} {C CM t0 : Addr}
theorem sc_law_wide_right : FnScope ["box", "rounds", "rests", "due", "counters"] ["box"] (defScope s_law_wide_right) := ⟨rfl, rfl, rfl, by decide +kernel, rfl, by decide +kernel, by decide +kernel⟩
theorem ok_wide_right (F : FnP K "_law_wide_right" s_law_wide_right f fd) (T : Mg mg) (TC : ClsC K mg C) (B : Fns P w K mg base a C CM) (M : Mks P w K mg base a C CM t0) : FnOk P w K mg base CX0 7 f fd ["box"] (spWideRight K) := by
  refine F.ok sc_law_wide_right (fun vs H Q E h => ?_) (fun cdv A outer s H vs Q E hr h => ?_)
  · obtain ⟨b, t, rfl, _⟩ := h
    rfl
  · obtain ⟨b, t, rfl, hb, k⟩ := h
    refine ⟨_, PSs.nox (pss_cons (ps_asg (pe_callC B.pick hr pass0 (pa_cons (pv 0) (pa_cons (pe_lst (pa_cons (pe_tup (pa_cons (pe_tup (pa_cons pe_int (pa_cons pe_int pa_nil))) (pa_cons (pe_tup (pa_cons pe_int (pa_cons pe_int pa_nil))) pa_nil))) (pa_cons (pe_tup (pa_cons (pe_tup (pa_cons pe_int (pa_cons pe_int (pa_cons pe_int pa_nil)))) (pa_cons (pe_tup (pa_cons pe_int (pa_cons pe_int (pa_cons pe_int pa_nil)))) pa_nil))) (pa_cons (pe_tup (pa_cons (pe_tup (pa_cons pe_int (pa_cons pe_int (pa_cons pe_int (pa_cons pe_int pa_nil))))) (pa_cons (pe_tup (pa_cons pe_int (pa_cons pe_int (pa_cons pe_int (pa_cons pe_int pa_nil))))) pa_nil))) pa_nil)))) pa_nil))) (pg_tup rfl (pgs_cons (pg_name (i := 1) sc_law_wide_right.nd rfl (by first | exact Or.inl rfl | exact Or.inr rfl)) (pgs_cons (pg_name (i := 2) sc_law_wide_right.nd rfl (by first | exact Or.inl rfl | exact Or.inr rfl)) pgs_nil))))
      (pss_cons (ps_par (i := 3) (j := 4) (by rfl) sc_law_wide_right.nd rfl rfl (by decide) rfl rfl (pa_cons (pe_callC B.lall hr pass0 (pa_cons (pv 1) (pa_cons (pv 2) pa_nil))) (pa_cons (pe_cnt2 (K := K) M TC hr pz (pa_cons (pv 1) (pa_cons (pv 2) pa_nil))) pa_nil)) (by rfl))
      (pss_one (ps_ret (pe_and (pe_callB call_isi (by rfl) T.z_isinstance (by decide +kernel) (pa_cons (pe_callNn B.allM hr pz (pa_cons (pv 4) pa_nil) (pk_cons (pe_callB call_len_seq (by rfl) T.z_len PySem.boot_len (pa_cons (pv 3) pa_nil)) pk_nil)) (pa_cons (pe_ty T.z_tuple bt_tuple) pa_nil))) (pe_one (pe_cmpR (op_eqRows (r64 hr)) (pe_callNn B.allM hr pz (pa_cons (pv 4) pa_nil) (pk_cons pe_int pk_nil)) (pv 3) (nomark _)))))))), ?_⟩
    refine ⟨_, rfl, (by show 2 ≤ sizeLine; decide), fun t1 h1 => ⟨(by show 2 ≤ sizeLine; decide), fun t2 h2 => ⟨(by show 2 ≤ sizeLine; decide), fun t3 h3 => ⟨(by show 3 ≤ sizeLine; decide), fun t4 h4 => ⟨(by show 3 ≤ sizeLine; decide), fun t5 h5 => ⟨(by show 2 ≤ sizeLine; decide), fun t6 h6 => ⟨(by show 4 ≤ sizeLine; decide), fun t7 h7 => ⟨(by show 4 ≤ sizeLine; decide), fun t8 h8 => ⟨(by show 2 ≤ sizeLine; decide), fun t9 h9 => ⟨(by show 3 ≤ sizeLine; decide), fun l hl => ?_⟩⟩⟩⟩⟩⟩⟩⟩⟩⟩
    have e1 := same_new (o := HO.tup [.int 60, .int 60]) h1
    have u1 : upd H t1 (HO.tup [.int 60, .int 60]) t1 = some (HO.tup [.int 60, .int 60]) := upd_same
    generalize upd H t1 (HO.tup [.int 60, .int 60]) = G1 at *
    have e2 := same_new (o := HO.tup [.int 6, .int 3]) h2
    have u2 : upd G1 t2 (HO.tup [.int 6, .int 3]) t2 = some (HO.tup [.int 6, .int 3]) := upd_same
    generalize upd G1 t2 (HO.tup [.int 6, .int 3]) = G2 at *
    have e3 := same_new (o := HO.tup [.ref t1, .ref t2]) h3
    have u3 : upd G2 t3 (HO.tup [.ref t1, .ref t2]) t3 = some (HO.tup [.ref t1, .ref t2]) := upd_same
    generalize upd G2 t3 (HO.tup [.ref t1, .ref t2]) = G3 at *
    have e4 := same_new (o := HO.tup [.int 20, .int 19, .int 10]) h4
    have u4 : upd G3 t4 (HO.tup [.int 20, .int 19, .int 10]) t4 = some (HO.tup [.int 20, .int 19, .int 10]) := upd_same
    generalize upd G3 t4 (HO.tup [.int 20, .int 19, .int 10]) = G4 at *
    have e5 := same_new (o := HO.tup [.int 0, .int 1, .int 0]) h5
    have u5 : upd G4 t5 (HO.tup [.int 0, .int 1, .int 0]) t5 = some (HO.tup [.int 0, .int 1, .int 0]) := upd_same
    generalize upd G4 t5 (HO.tup [.int 0, .int 1, .int 0]) = G5 at *
    have e6 := same_new (o := HO.tup [.ref t4, .ref t5]) h6
    have u6 : upd G5 t6 (HO.tup [.ref t4, .ref t5]) t6 = some (HO.tup [.ref t4, .ref t5]) := upd_same
    generalize upd G5 t6 (HO.tup [.ref t4, .ref t5]) = G6 at *
    have e7 := same_new (o := HO.tup [.int 9, .int 8, .int 9, .int 11]) h7
    have u7 : upd G6 t7 (HO.tup [.int 9, .int 8, .int 9, .int 11]) t7 = some (HO.tup [.int 9, .int 8, .int 9, .int 11]) := upd_same
    generalize upd G6 t7 (HO.tup [.int 9, .int 8, .int 9, .int 11]) = G7 at *
    have e8 := same_new (o := HO.tup [.int 0, .int 1, .int 1, .int 0]) h8
    have u8 : upd G7 t8 (HO.tup [.int 0, .int 1, .int 1, .int 0]) t8 = some (HO.tup [.int 0, .int 1, .int 1, .int 0]) := upd_same
    generalize upd G7 t8 (HO.tup [.int 0, .int 1, .int 1, .int 0]) = G8 at *
    have e9 := same_new (o := HO.tup [.ref t7, .ref t8]) h9
    have u9 : upd G8 t9 (HO.tup [.ref t7, .ref t8]) t9 = some (HO.tup [.ref t7, .ref t8]) := upd_same
    generalize upd G8 t9 (HO.tup [.ref t7, .ref t8]) = G9 at *
    have e10 := same_new (o := HO.lst [.ref t3, .ref t6, .ref t9]) hl
    have u10 : upd G9 l (HO.lst [.ref t3, .ref t6, .ref t9]) l = some (HO.lst [.ref t3, .ref t6, .ref t9]) := upd_same
    generalize upd G9 l (HO.lst [.ref t3, .ref t6, .ref t9]) = G at *
    have e : Same H G := e1.trans (e2.trans (e3.trans (e4.trans (e5.trans (e6.trans (e7.trans (e8.trans (e9.trans e10))))))))
    have hb' := e _ _ hb
    have lb : l ≠ b := fun z => by rw [z, hb'] at u10; cases u10
    have at_ : ∀ {c : Addr} {o : HO} {H' : Hp}, G c = some o → (∀ ys, o ≠ .lst ys) → Mv b G H' → H' c = some o := fun q n m => m.1 _ _ (ne_of q hb' (n _)) q
    refine ⟨b, l, t, _, rfl, hb', lb, SqL.of u10, (by show 0 < 3; decide), (by show 3 < 1073741824; decide), fun v H' hv mv => ?_⟩
    have tt : ∀ {c : Addr} {xs : List V}, G c = some (.tup xs) → SqT K H' c xs := fun q => SqT.of (at_ q (fun _ z => nomatch z) mv)
    obtain ⟨tp, p, q, rs, es, rfl, s1, s2, s3, ok, z0, big⟩ : ∃ tp p q rs es, v = .ref tp ∧ SqT K H' tp [.ref p, .ref q] ∧ SqT K H' p (rs.map V.int) ∧ SqT K H' q (es.map V.int) ∧ Cok rs es ∧ (0 : Int) ∉ rs ∧ prodOf (sizesOf rs es) ≤ 20000 := by
      simp only [List.mem_cons, List.not_mem_nil, or_false] at hv
      rcases hv with rfl | rfl | rfl
      · exact ⟨t3, t1, t2, [60, 60], [6, 3], rfl, tt ((e4.trans (e5.trans (e6.trans (e7.trans (e8.trans (e9.trans e10)))))) _ _ u3), tt ((e2.trans (e3.trans (e4.trans (e5.trans (e6.trans (e7.trans (e8.trans (e9.trans e10)))))))) _ _ u1), tt ((e3.trans (e4.trans (e5.trans (e6.trans (e7.trans (e8.trans (e9.trans e10))))))) _ _ u2),
          ⟨by decide, by decide, rfl, by decide, by decide⟩, by decide, by decide⟩
      · exact ⟨t6, t4, t5, [20, 19, 10], [0, 1, 0], rfl, tt ((e7.trans (e8.trans (e9.trans e10))) _ _ u6), tt ((e5.trans (e6.trans (e7.trans (e8.trans (e9.trans e10))))) _ _ u4), tt ((e6.trans (e7.trans (e8.trans (e9.trans e10)))) _ _ u5),
          ⟨by decide, by decide, rfl, by decide, by decide⟩, by decide, by decide⟩
      · exact ⟨t9, t7, t8, [9, 8, 9, 11], [0, 1, 1, 0], rfl, tt (e10 _ _ u9), tt ((e8.trans (e9.trans e10)) _ _ u7), tt ((e9.trans e10) _ _ u8),
          ⟨by decide, by decide, rfl, by decide, by decide⟩, by decide, by decide⟩
    refine ⟨tp, _, rfl, s1, rfl, ?_⟩
    refine ⟨_, _, rfl, _, _, rfl, rfl, ?_⟩
    refine ⟨_, rfl, _, rfl, p, q, rs, es, rfl, ok, z0, big, s2, s3, fun r H1 vs f1 hr1 rows1 => ?_⟩
    refine ⟨_, rfl, _, rfl, fun x dx hx hdx ne => ?_⟩
    refine make_good ok (.seq (.inr (sqT_same f1 s2))) (.inr (.seq (.inr (sqT_same f1 s3)))) hx hdx ne fun H2 f2 cn2 => ?_
    have hr2 := sqT_same f2 hr1
    have rows2 := rows1.same f2
    have len := rows1.length
    have cnt := rows_count ok z0
    refine ⟨_, _, rfl, ?_⟩
    refine ⟨_, rfl, _, rfl, r, _, rfl, .inr hr2, rfl, rfl, x, rs, es, _, rfl, cn2, by omega, fun z => absurd z z0, fun _ z => by omega, fun _ _ r3 H3 vs3 f3 hr3 rows3 => ?_⟩
    refine ⟨_, .ty "tuple", _, _, true, rfl, .ty _, tyx_tuple hr3, kit_ty (by decide +kernel), true, rfl, iteT ?_⟩
    refine ⟨_, rfl, rfl, rfl, x, rs, es, 20000, rfl, cn2.same f3, by decide, fun z => absurd z z0, fun _ z => by omega, fun _ _ r4 H4 vs4 f4 hr4 rows4 => ?_⟩
    refine ⟨_, rfl, _, _, dp_rows hr4 rows4, dp_rows (sqT_same (f3.trans f4) hr2) (rows2.same (f3.trans f4)), ?_⟩
    rw [decide_eq_true rfl]
    exact k _ ((Mv.news hb e).trans (mv.same ((f1.trans f2).trans (f3.trans f4))))
end
end K3
/-! what is none, as the law asks it: values, heaps -/
namespace Kx
open L2 PySem PySem.Spec PyProof.Rows
/-- t[lo:hi] -/
def rCut (K : PySem.W.Frag) : V → Option Int → Option Int → Hp → VK → Prop := fun x lo hi H Q => ∃ a xs, x = .ref a ∧ SqT K H a xs ∧ ∀ p H', Same H H' → SqT K H' p (cutV xs lo hi) → Q (.ref p) H'
theorem sl_cut {X : Cx} {K : PySem.W.Frag} (hK : X.K = K := by rfl) : SlR X (rCut K) := by
  subst hK
  intro pins s σ H x v vl vu lo hi sl Q I rx hs pl pu ⟨a, xs, e, h, q⟩
  refine sl_tupA pins s σ H x v vl vu lo hi sl Q I rx hs pl pu ⟨a, xs, e, h, fun ⟨z1, z2⟩ => q a H (Same.refl H) ?_, fun _ p hp => q p _ (same_new hp) (SqT.of upd_same)⟩
  unfold cutV
  rw [z1, z2, List.drop_zero, Nat.sub_zero, List.take_length]
  exact h
end Kx
namespace K3
open PySem PySem.Spec PyProof.Rows L2 Kx RZ
/-- the source moved, tables grew, things were made -/
structure Go (Ts : List (Addr × Str)) (b : Addr) (H H' : Hp) : Prop where
  keep : ∀ c o, c ≠ b → (∀ ps, o ≠ .tbl ps) → H c = some o → H' c = some o
  box : ∃ t, H' b = some (bx t)
  tabs : LamX.Tabs Ts H'
section
variable {K : PySem.W.Frag} {Ts : List (Addr × Str)} {b a : Addr} {H H' H2 : Hp} {t : Int × Int × Int} {xs : List V} {C c : Addr} {rs es : List Int}
theorem tabs_mv (m : Mv b H H') (hb : H b = some (bx t)) (h : LamX.Tabs Ts H) : LamX.Tabs Ts H' := fun p hp => by
  obtain ⟨ps, h1, h2, h3⟩ := h p hp
  refine ⟨ps, m.1 _ _ (ne_of h1 hb (fun z => nomatch z)) h1, h2, fun pos cv hcv => ?_⟩
  obtain ⟨c, e1, e2⟩ := h3 pos cv hcv
  refine ⟨c, e1, m.1 _ _ (ne_of e2 hb (fun z => ?_)) e2⟩
  unfold LamX.CodeO bx at z
  cases z
theorem Go.refl (hb : H b = some (bx t)) (h : LamX.Tabs Ts H) : Go Ts b H H := ⟨fun _ _ _ _ q => q, ⟨t, hb⟩, h⟩
theorem Go.same (g : Go Ts b H H') (e : Same H' H2) : Go Ts b H H2 := ⟨fun c o n1 n2 q => e _ _ (g.keep c o n1 n2 q), g.box.elim fun t q => ⟨t, e _ _ q⟩, g.tabs.ext e⟩
theorem Go.mv (g : Go Ts b H H') (m : Mv b H' H2) : Go Ts b H H2 := ⟨fun c o n1 n2 q => m.1 _ _ n1 (g.keep c o n1 n2 q), m.2, g.box.elim fun t q => tabs_mv m q g.tabs⟩
theorem Go.ext (g : Go Ts b H H') (e : LamX.ExtN H' H2) (h : LamX.Tabs Ts H2) : Go Ts b H H2 := ⟨fun c o n1 n2 q => e _ _ (g.keep c o n1 n2 q) n2, g.box.elim fun t q => ⟨t, e _ _ q (fun _ z => nomatch z)⟩, h⟩
theorem Go.trans (g : Go Ts b H H') (k : Go Ts b H' H2) : Go Ts b H H2 := ⟨fun c o n1 n2 q => k.keep c o n1 n2 (g.keep c o n1 n2 q), k.box, k.tabs⟩
theorem Go.rd {u : HO} (g : Go Ts b H H') (hb : H b = some (bx t)) (n1 : ∀ ys, u ≠ .lst ys) (n2 : ∀ ps, u ≠ .tbl ps) (h : Rd H a u) : Rd H' a u := by
  rcases h with h | ⟨z, h⟩
  · exact .inl (g.keep _ _ (ne_of h hb (n1 _)) n2 h)
  · exact .inr ⟨z, g.keep _ _ (ne_of h hb (fun z => nomatch z)) (fun _ z => nomatch z) h⟩
theorem Go.sqT (g : Go Ts b H H') (hb : H b = some (bx t)) (h : SqT K H a xs) : SqT K H' a xs := h.imp (g.rd hb (fun _ z => nomatch z) fun _ z => nomatch z) id
theorem Go.sqL (g : Go Ts b H H') (ne : a ≠ b) (h : SqL K H a xs) : SqL K H' a xs := h.imp (fun h => h.elim (fun h => .inl (g.keep _ _ ne (fun _ z => nomatch z) h)) fun ⟨z, h⟩ => .inr ⟨z, g.keep _ _ ne (fun _ z => nomatch z) h⟩) id
theorem Go.cn (g : Go Ts b H H') (hb : H b = some (bx t)) (h : CnAt K C H c rs es) : CnAt K C H' c rs es := by
  obtain ⟨ok, dx, p, q, h1, h2, h3⟩ := h
  exact ⟨ok, dx, p, q, g.keep _ _ (ne_of h1 hb (fun z => nomatch z)) (fun _ z => nomatch z) h1, g.sqT hb h2, g.sqT hb h3⟩
end
/-- no object -/
inductive Fl : V → PyData → Prop
  | non : Fl .non .none
  | bl (b : Bool) : Fl (.bl b) (.bool b)
  | int (i : Int) : Fl (.int i) (.int i)
  | str (z : Str) : Fl (.str z) (.str z)
inductive Fls : List V → List PyData → Prop
  | nil : Fls [] []
  | cons {v : V} {d : PyData} {vs : List V} {ds : List PyData} (h : Fl v d) (k : Fls vs ds) : Fls (v :: vs) (d :: ds)
section
variable {K : PySem.W.Frag} {Ts : List (Addr × Str)} {b : Addr} {H H' : Hp} {t : Int × Int × Int}
theorem Fl.dp {v : V} {d : PyData} (h : Fl v d) : Dp K H v d := by
  cases h with
  | non => exact .non
  | bl b => exact .bl b
  | int i => exact .int i
  | str z => exact .str z
theorem Fl.kn {v : V} {d : PyData} (h : Fl v d) : Kn K H v := by
  cases h with
  | non => exact .non
  | bl b => exact .bl b
  | int i => exact .int i
  | str z => exact .str z
theorem Fl.long {v : V} {d : PyData} (h : Fl v d) : Long K H v none := by
  cases h with
  | non => exact .non
  | bl b => exact .bl b
  | int i => exact .int i
  | str z => exact .str z
theorem Fl.flat {v : V} {d : PyData} (h : Fl v d) : flatB v = true := by
  cases h <;> rfl
theorem Fls.dp : ∀ {vs : List V} {ds : List PyData}, Fls vs ds → DpAll K H vs ds
  | _, _, .nil => .nil
  | _, _, .cons h k => .cons h.dp k.dp
theorem Fls.kn : ∀ {vs : List V} {ds : List PyData}, Fls vs ds → ∀ x ∈ vs, Kn K H x
  | _, _, .nil => fun x hx => nomatch hx
  | _, _, .cons h k => fun x hx => (List.mem_cons.mp hx).elim (fun e => e ▸ h.kn) (k.kn x)
theorem Fls.append : ∀ {vs us : List V} {ds es : List PyData}, Fls vs ds → Fls us es → Fls (vs ++ us) (ds ++ es)
  | _, _, _, _, .nil, k => k
  | _, _, _, _, .cons h k, k2 => .cons h (k.append k2)
theorem fls_ints : ∀ (ns : List Int), Fls (ns.map V.int) (ns.map PyData.int)
  | [] => .nil
  | n :: ns => .cons (.int n) (fls_ints ns)
/-- a value that shows as d: no object, a list (not at b), a tuple of such -/
inductive Sv (K : PySem.W.Frag) (b : Addr) (H : Hp) : V → PyData → Option (List V) → Prop
  | flat {v : V} {d : PyData} (h : Fl v d) : Sv K b H v d none
  | lst {l : Addr} {xs : List V} {ds : List PyData} (ne : l ≠ b) (h : SqL K H l xs) (f : Fls xs ds) : Sv K b H (.ref l) (.list ds) (some xs)
  | tup {l : Addr} {xs : List V} {ds : List PyData} (h : SqT K H l xs) (f : Fls xs ds) : Sv K b H (.ref l) (.tuple ds) (some xs)
variable {v : V} {d : PyData} {o : Option (List V)}
theorem Sv.dp (h : Sv K b H v d o) : Dp K H v d := by
  cases h with
  | flat h => exact h.dp
  | lst _ h f => exact .lst h f.dp
  | tup h f => exact .tup h f.dp
theorem Sv.long (h : Sv K b H v d o) : Long K H v o := by
  cases h with
  | flat h => exact h.long
  | lst _ h f => exact .seq (.inl h)
  | tup h f => exact .seq (.inr h)
theorem Sv.kn (h : Sv K b H v d o) : Kn K H v := h.long.kn
theorem Sv.kns (h : Sv K b H v d o) {m : Nat} : Kns K H o m := fun xs q _ x hx => by
  cases h with
  | flat h => cases q
  | lst _ h f => cases q; exact f.kn x hx
  | tup h f => cases q; exact f.kn x hx
theorem Sv.go (g : Go Ts b H H') (hb : H b = some (bx t)) (h : Sv K b H v d o) : Sv K b H' v d o := by
  cases h with
  | flat h => exact .flat h
  | lst ne h f => exact .lst ne (g.sqL ne h) f
  | tup h f => exact .tup (g.sqT hb h) f
theorem Sv.same (e : Same H H') (h : Sv K b H v d o) : Sv K b H' v d o := by
  cases h with
  | flat h => exact .flat h
  | lst ne h f => exact .lst ne (sqL_same e h) f
  | tup h f => exact .tup (sqT_same e h) f
theorem Sv.ext (e : LamX.ExtN H H') (h : Sv K b H v d o) : Sv K b H' v d o := by
  cases h with
  | flat h => exact .flat h
  | lst ne h f => exact .lst ne (ext_sqL e h) f
  | tup h f => exact .tup (ext_sqT e h) f
/-- a value that is no showing: no object, or a tuple, whose items may be (0,) -/
inductive Tv (K : PySem.W.Frag) (H : Hp) : V → Option (List V) → Prop
  | flat {v : V} {d : PyData} (h : Fl v d) : Tv K H v none
  | tup {l : Addr} {xs : List V} (h : SqT K H l xs) (f : ∀ x ∈ xs, (∃ d, Fl x d) ∨ ∃ a, x = .ref a ∧ SqT K H a [.int 0]) : Tv K H (.ref l) (some xs)
theorem Tv.long (h : Tv K H v o) : Long K H v o := by
  cases h with
  | flat h => exact h.long
  | tup h f => exact .seq (.inr h)
theorem Tv.kn (h : Tv K H v o) : ∀ xs, o = some xs → ∀ x ∈ xs, Kn K H x := fun xs q x hx => by
  cases h with
  | flat h => cases q
  | tup h f =>
    cases q
    rcases f x hx with ⟨d, h⟩ | ⟨a, rfl, h⟩
    · exact h.kn
    · exact .seq (.inr h)
theorem Tv.map (e : ∀ (a : Addr) (xs : List V), SqT K H a xs → SqT K H' a xs) (h : Tv K H v o) : Tv K H' v o := by
  cases h with
  | flat h => exact .flat h
  | tup h f => exact .tup (e _ _ h) fun x hx => (f x hx).imp id fun ⟨a, h1, h2⟩ => ⟨a, h1, e _ _ h2⟩
/-- v is no showing, told at spot -/
structure Bd (K : PySem.W.Frag) (rs es : List Int) (H : Hp) (v : V) (spot : Int) : Prop where
  ex : ∃ o, Tv K H v o ∧ ((o = none ∨ ∃ xs, o = some xs ∧ xs.length ≠ rs.length) → spot = -1) ∧ (∀ xs (i : Nat), o = some xs → xs.length = rs.length → FirstWrong rs es xs i → spot = (i : Int)) ∧ ∀ xs, o = some xs → xs.length = rs.length → ¬ AllShow rs es xs
theorem Bd.map {rs es : List Int} {spot : Int} (e : ∀ (a : Addr) (xs : List V), SqT K H a xs → SqT K H' a xs) (h : Bd K rs es H v spot) : Bd K rs es H' v spot := by
  obtain ⟨o, h1, h2⟩ := h.ex
  exact ⟨o, h1.map e, h2⟩
theorem Bd.arg {rs es : List Int} {spot : Int} {a : Ad} {E : XK} (h : Bd K rs es H v spot) (q : Thrown E H a.cS "at" (.int spot)) : ∃ o, ShowArg K a H E rs es v o ∧ ∀ xs, o = some xs → xs.length = rs.length → ¬ AllShow rs es xs := by
  obtain ⟨o, h1, h2, h3, h4⟩ := h.ex
  refine ⟨o, ⟨h1.long, fun xs e _ => h1.kn xs e, fun z => ?_, fun xs i e l w => ?_⟩, h4⟩
  · rw [h2 z] at q
    exact q
  · rw [h3 xs i e l w] at q
    exact q
theorem Bd.far {rs es : List Int} (h : Tv K H v o) (n : o = none ∨ ∃ xs, o = some xs ∧ xs.length ≠ rs.length) : Bd K rs es H v (-1) := by
  refine ⟨o, h, fun _ => rfl, fun xs i e l _ => ?_, fun xs e l => ?_⟩
  · rcases n with n | ⟨ys, n, z⟩
    · rw [e] at n; cases n
    · rw [e] at n; cases n; exact absurd l z
  · rcases n with n | ⟨ys, n, z⟩
    · rw [e] at n; cases n
    · rw [e] at n; cases n; exact absurd l z
end
theorem canShow_zero {r e : Int} (hr : 0 ≤ r) (he : 0 ≤ e) : canShow r e (.int 0) = true := by
  unfold canShow
  by_cases z : r = 0
  · rw [if_pos z]
    rfl
  · rw [if_neg z]
    unfold isBel
    simp only [decide_eq_true_eq, Bool.and_eq_true]
    omega
/-- one item of a showing of noughts is wrong -/
def spoilt (n i : Nat) (w : V) : List V := (List.replicate i (V.int 0) ++ [w]) ++ List.replicate (n - (i + 1)) (V.int 0)
theorem spoilt_length {n i : Nat} {w : V} (h : i < n) : (spoilt n i w).length = n := by
  unfold spoilt
  simp only [List.length_append, List.length_replicate, List.length_cons, List.length_nil]
  omega
theorem spoilt_at {n i : Nat} {w : V} : (spoilt n i w)[i]? = some w := by
  unfold spoilt
  rw [List.getElem?_append_left (by simp), List.getElem?_append_right (by simp)]
  simp
theorem spoilt_low {n i j : Nat} {w : V} (h : j < i) : (spoilt n i w)[j]? = some (.int 0) := by
  unfold spoilt
  rw [List.getElem?_append_left (by simp; omega), List.getElem?_append_left (by simp; omega), List.getElem?_replicate, if_pos h]
theorem spoilt_bad {K : PySem.W.Frag} {H : Hp} {rs es : List Int} {l : Addr} {i : Nat} {w : V} (ok : Cok rs es) (hi : i < rs.length) (hl : SqT K H l (spoilt rs.length i w)) (fw : (∃ d, Fl w d) ∨ ∃ a, w = .ref a ∧ SqT K H a [.int 0]) (bad : canShow (rs.getD i 0) (es.getD i 0) w = false) :
    Bd K rs es H (.ref l) (i : Int) := by
  refine ⟨_, .tup hl fun x hx => ?_, fun z => ?_, fun xs j e _ fwr => ?_, fun xs e _ all => ?_⟩
  · unfold spoilt at hx
    simp only [List.mem_append, List.mem_replicate, List.mem_cons, List.not_mem_nil, or_false] at hx
    rcases hx with (⟨_, rfl⟩ | rfl) | ⟨_, rfl⟩
    · exact .inl ⟨_, .int 0⟩
    · exact fw
    · exact .inl ⟨_, .int 0⟩
  · rcases z with z | ⟨xs, e, n⟩
    · cases z
    · cases e
      exact absurd (spoilt_length hi) n
  · cases e
    obtain ⟨low, x, hx, hb⟩ := fwr
    rcases Nat.lt_trichotomy j i with h | rfl | h
    · rw [spoilt_low h] at hx
      cases hx
      obtain ⟨_, _, b1, _, b3, _⟩ := ok.at_ (show j < rs.length by omega)
      rw [canShow_zero b1 b3] at hb
      cases hb
    · rfl
    · have := low i w h spoilt_at
      rw [bad] at this
      cases this
  · cases e
    have := all i w spoilt_at
    rw [bad] at this
    cases this
end K3
/-! what is none, as the law asks it -/
namespace K3
open PySem PySem.Spec PyProof.Rows L2 Kx RZ
theorem Bd.args {K : PySem.W.Frag} {H : Hp} {v : V} {rs es : List Int} {spot : Int} {a : Ad} (h : Bd K rs es H v spot) : ∃ o, (∀ E, Thrown E H a.cS "at" (.int spot) → ShowArg K a H E rs es v o) ∧ ∀ xs, o = some xs → xs.length = rs.length → ¬ AllShow rs es xs := by
  obtain ⟨o, h1, h2, h3, h4⟩ := h.ex
  refine ⟨o, fun E q => ⟨h1.long, fun xs e _ => h1.kn xs e, fun z => ?_, fun xs i e l w => ?_⟩, h4⟩
  · rw [h2 z] at q
    exact q
  · rw [h3 xs i e l w] at q
    exact q
theorem items3 {z : Str} {v : V} {k : Bool} (h : flatB v = true ∨ ∃ c, v = .ref c) : ∀ x ∈ ([.str z, v, .bl k] : List V), flatB x = true ∨ ∃ c, x = .ref c := fun x hx => by
  simp only [List.mem_cons, or_false, List.not_mem_nil] at hx
  rcases hx with rfl | rfl | rfl
  · exact .inl rfl
  · exact h
  · exact .inl rfl
theorem items2 {z y : Str} : ∀ x ∈ ([.str z, .str y] : List V), flatB x = true ∨ ∃ c, x = .ref c := fun x hx => by
  simp only [List.mem_cons, or_false, List.not_mem_nil] at hx
  rcases hx with rfl | rfl <;> exact .inl rfl
abbrev sgN (b c p q : Addr) (n : Nat) (x5 x6 x7 x8 x9 x10 x11 x12 : Option V) : L2.St := [some (.ref b), some (.ref c), some (.ref p), some (.ref q), some (.int n), x5, x6, x7, x8, x9, x10, x11, x12]
abbrev noughts0 (n : Nat) : List V := (List.replicate n (0 : Int)).map V.int
theorem fours_mem {m : Nat} {x : Int} {v : V} (h : v ∈ (List.replicate (4 : Int).toNat ((List.replicate m x).map V.int)).flatten) : v = .int x ∧ m ≠ 0 := by
  obtain ⟨l, h1, h2⟩ := List.mem_flatten.mp h
  rw [List.eq_of_mem_replicate h1] at h2
  obtain ⟨y, h3, rfl⟩ := List.mem_map.mp h2
  exact ⟨by rw [List.eq_of_mem_replicate h3], fun z => by rw [z] at h3; simp at h3⟩
theorem fours_len {m : Nat} {x : Int} (h : m ≤ 1) : ((List.replicate (4 : Int).toNat ((List.replicate m x).map V.int)).flatten).length ≤ 4 := by
  rw [List.length_flatten, List.map_replicate, List.length_map, List.length_replicate, List.sum_replicate_nat]
  show 4 * m ≤ 4
  omega
theorem no_show {r e : Int} {v : V} (h : ∀ i, v = .int i → i < 0) : canShow r e v = false := by
  unfold canShow
  cases v with
  | int i =>
    have := h i rfl
    by_cases z : r = 0
    · rw [if_pos z]
      refine decide_eq_false ?_
      omega
    · rw [if_neg z]
      show (decide (0 ≤ i) && decide (i < e + r)) = false
      rewrite [decide_eq_false (by omega)]
      rfl
  | _ => by_cases z : r = 0 <;> simp [z, isNum, isBel]
theorem no_bel {l : Int} {v : V} (h : ∀ i, v = .int i → i < 0 ∨ l ≤ i) : isBel l v = false := by
  cases v with
  | int i =>
    have := h i rfl
    unfold isBel
    rw [Bool.and_eq_false_iff]
    rcases this with h | h
    · exact .inl (decide_eq_false (by omega))
    · exact .inr (decide_eq_false (by omega))
  | _ => rfl
theorem rowAt_near {n : Int} {xs : List V} (l : xs.length ≤ 400) : rowAt n (some xs) = (fnb n xs).map (fun (i : Nat) => (i : Int)) := if_pos l
theorem rowAt_far {n : Int} {xs : List V} (l : ¬ xs.length ≤ 400) : rowAt n (some xs) = some (-1) := if_neg l
theorem okA_all {m L : Nat} : ∀ {ds : List PyData}, (∀ d ∈ ds, OkD m L d) → OkA m ((L + 2) * ds.length) ds
  | [], _ => okA_nil
  | d :: ds, h => (okA_cons (h d List.mem_cons_self) (okA_all fun x hx => h x (List.mem_cons_of_mem _ hx))).mono (Nat.le_refl _) (by rw [List.length_cons, Nat.mul_succ]; omega)
theorem fnb_bad {l : Int} {xs : List V} {v : V} (hv : v ∈ xs) (h : isBel l v = false) : (fnb l xs).isNone = false := by
  cases e : fnb l xs with
  | none =>
    have := fnb_none.mp e v hv
    rw [h] at this
    cases this
  | some _ => rfl
theorem rounds_bad {xs : List V} {v : V} (hv : v ∈ xs) (h : isBel 61 v = false) : roundsOk (some xs) = false := by
  rw [roundsOk_some, fnb_bad hv h, Bool.and_false]
theorem rests_bad {k : Nat} {xs : List V} {v : V} (hv : v ∈ xs) (h : isBel 7 v = false) : restsOk k (some xs) = false := by
  rw [restsOk_some, fnb_bad hv h, Bool.and_false, Bool.or_false]
  cases xs with
  | nil => cases hv
  | cons _ _ => rfl
theorem rests_long {k : Nat} {xs : List V} (h : xs.length = k + 1) : restsOk k (some xs) = false := by
  rw [restsOk_some]
  cases xs with
  | nil => cases h
  | cons _ _ =>
    rw [decide_eq_false (by rw [h]; omega)]
    rfl
theorem okD_flats {ns : List Int} {d : PyData} (hn : ∀ n ∈ ns, -1000000 ≤ n ∧ n ≤ 1000000) (l : ns.length ≤ 6) (hd : OkD 0 2000 d) : OkD 2 20000 (.list (ns.map PyData.int ++ [d])) := by
  refine (okD_list (okA_all (m := 0) (L := 2000) fun x hx => ?_)).mono (by decide) ?_
  · rcases List.mem_append.mp hx with h | h
    · obtain ⟨n, h1, rfl⟩ := List.mem_map.mp h
      exact (okD_small (hn n h1)).mono (Nat.le_refl _) (by decide)
    · rw [List.mem_singleton.mp h]
      exact hd
  · rw [List.length_append, List.length_map]
    show 2002 * (_ + 1) + 4 ≤ _
    omega
theorem fls_snoc {ns : List Int} {v : V} {d : PyData} (h : Fl v d) : Fls (ns.map V.int ++ [v]) (ns.map PyData.int ++ [d]) := (fls_ints ns).append (.cons h .nil)
theorem last_mem {ns : List Int} {v : V} : v ∈ ns.map V.int ++ [v] := List.mem_append_right _ List.mem_cons_self
def spNoneRight (K : PySem.W.Frag) (C : Addr) (Ts : List (Addr × Str)) : Sp := fun vs H Q _ => ∃ (b c p q : Addr) (t : Int × Int × Int) (rs es : List Int), vs = [.ref b, .ref c, .ref p, .ref q] ∧ H b = some (bx t) ∧ CnAt K C H c rs es ∧ SqT K H p (rs.map V.int) ∧ SqT K H q (es.map V.int) ∧ LamX.Tabs Ts H ∧
  ∀ H', Go Ts b H H' → Q (.bl true) H'
section
variable {P : Program} {w : World} {K : PySem.W.Frag} {mg : Str → Option Value} {base : Heap} {f : Addr} {fd : FuncData} {a : Ad} {C CM cW t0 : Addr} {Ts : List (Addr × Str)} {g cc Pt : Addr} {fdg : FuncData}
theorem sc_law_none_right : FnScope ["box", "counters", "rounds", "rests", "kinds", "good", "odd", "at", "wrong", "value", "spot", "bad", "other"] ["box", "counters", "rounds", "rests"] (defScope s_law_none_right) := ⟨rfl, rfl, rfl, by decide +kernel, rfl, by decide +kernel, by decide +kernel⟩
theorem ok_none_right (F : FnP K "_law_none_right" s_law_none_right f fd) (hcode : fd.code = .ref cc) (FH : FnP K "_law_heard" s_law_heard g fdg) (gH : mg "_law_heard" = some (.ref g)) (bH : Binds K fdg ["ask"] []) (T : Mg mg) (TC : ClsC K mg C) (TM : ClsM K mg CM) (D : Hd K mg a C cW) (TB : LamX.TabB base mg cc Pt)
    (mem : (Pt, (Str.ofString "_law_none_right" ++ ".<locals>.") ++ "<lambda>") ∈ Ts) (only : ∀ p ∈ Ts, p.1 = Pt → p.2 = (Str.ofString "_law_none_right" ++ ".<locals>.") ++ "<lambda>") (B : Fns P w K mg base a C CM) (M : Mks P w K mg base a C CM t0) :
    FnG P w K mg base CX0 9 f fd ["box", "counters", "rounds", "rests"] (spNoneRight K C Ts) := by
  refine okGc F hcode sc_law_none_right (fun vs H Q E h => ?_) (fun A outer s H vs Q E lone hr h => ?_)
  · obtain ⟨b, c, p, q, t, rs, es, rfl, _⟩ := h
    rfl
  · obtain ⟨b, c, p, q, t, rs, es, rfl, hb, hc, hp, hq, ht, k⟩ := h
    have cs : CallR (cxOf CX0 P w K mg base ["box", "counters", "rounds", "rests", "kinds", "good", "odd", "at", "wrong", "value", "spot", "bad", "other"] "_law_none_right" (defScope s_law_none_right) f (.ref cc) A outer s H E).nox (.builtin "repr") (rShow K) := call_show lone (r64 hr)
    have hf : HF (cxOf CX0 P w K mg base ["box", "counters", "rounds", "rests", "kinds", "good", "odd", "at", "wrong", "value", "spot", "bad", "other"] "_law_none_right" (defScope s_law_none_right) f (.ref cc) A outer s H E).nox a C cW Ts g fdg cc Pt s_law_none_right := ⟨FH, gH, bH, T, TC, D, lone, TB, rfl, rfl, mem, only⟩
    refine ⟨_, PSs.nox (pss_cons (ps_set (i := 4) sc_law_none_right.nd rfl (by first | exact Or.inl rfl | exact Or.inr rfl) (pe_callB call_len_seq (by rfl) T.z_len PySem.boot_len (pa_cons (pv 2) pa_nil)))
      (pss_cons (ps_set (i := 5) sc_law_none_right.nd rfl (by first | exact Or.inl rfl | exact Or.inr rfl) (pe_callTy call_tup (by rfl) T.z_tuple (by decide +kernel) (pa_cons (pe_op op_rep (pe_lst (pa_cons pe_int pa_nil)) (pv 4)) pa_nil)))
      (pss_cons (ps_set (i := 6) sc_law_none_right.nd rfl (by first | exact Or.inl rfl | exact Or.inr rfl) (pe_callC B.pick hr pass0 (pa_cons (pv 0) (pa_cons (pe_lst (pa_cons (pv 4) (pa_cons (pe_op op_sub pe_int pe_int) (pa_cons pe_non (pa_cons pe_bl (pa_cons pe_str pa_nil)))))) pa_nil))))
      (pss_cons (ps_set (i := 7) sc_law_none_right.nd rfl (by first | exact Or.inl rfl | exact Or.inr rfl) (pe_callC B.take hr pass0 (pa_cons (pv 0) (pa_cons (pv 4) pa_nil))))
      (pss_cons (ps_mid (ps_set (i := 8) sc_law_none_right.nd rfl (by first | exact Or.inl rfl | exact Or.inr rfl) (pe_callC B.pick hr pass0 (pa_cons (pv 0) (pa_cons (pe_op op_cat (pe_lst (pa_cons (pe_op op_sub pe_int pe_int) (pa_cons pe_non (pa_cons pe_bl (pa_cons pe_str (pa_cons (pe_tup (pa_cons pe_int pa_nil)) pa_nil)))))) (pe_op op_rep (pe_op op_rep (pe_lst (pa_cons (pe_op op_add (pe_ix ix_tup (pv 3) (pv 7) (fun _ _ => rfl)) (pe_ix ix_tup (pv 2) (pv 7) (fun _ _ => rfl))) pa_nil)) (pe_callTy call_int1 (by rfl) T.z_int (by decide +kernel) (pa_cons (pe_cmpR op_gt (pe_ix ix_tup (pv 2) (pv 7) (fun _ _ => rfl)) pe_int (nomark _)) pa_nil))) pe_int)) pa_nil)))))
      (pss_cons (ps_mid (ps_for PassesOwn.never rfl (pi_any (pe_tup (pa_cons (pe_tup (pa_cons (pe_op (op_catS (K := K)) (pe_op (op_catS (K := K)) (pe_slice (sl_cut (K := K)) (pv 5) po_none (po_some (pv 7))) (pe_tup (pa_cons (pv 8) pa_nil))) (pe_slice (sl_cut (K := K)) (pv 5) (po_some (pe_op op_add (pv 7) pe_int)) po_none)) (pa_cons (pv 7) pa_nil))) (pa_cons (pe_tup (pa_cons pe_non (pa_cons (pe_un un_neg pe_int) pa_nil))) (pa_cons (pe_tup (pa_cons pe_int (pa_cons (pe_un un_neg pe_int) pa_nil))) (pa_cons (pe_tup (pa_cons (pe_op (op_catS (K := K)) (pv 5) (pe_tup (pa_cons pe_int pa_nil))) (pa_cons (pe_un un_neg pe_int) pa_nil))) (pa_cons (pe_tup (pa_cons (pe_slice (sl_cut (K := K)) (pv 5) (po_some pe_int) po_none) (pa_cons (pe_un un_neg pe_int) pa_nil))) (pa_cons (pe_tup (pa_cons (pe_op op_noughts pe_str (pv 4)) (pa_cons (pe_un un_neg pe_int) pa_nil))) pa_nil)))))))) (pg_tup rfl (pgs_cons (pg_name (i := 9) sc_law_none_right.nd rfl (by first | exact Or.inl rfl | exact Or.inr rfl)) (pgs_cons (pg_name (i := 10) sc_law_none_right.nd rfl (by first | exact Or.inl rfl | exact Or.inr rfl)) pgs_nil)))
        (pss_cons (ps_mid (ps_if (pt_cmpR (op_neSame (r64 hr)) (pe_heard (k := 6) hf hr (fun A outer s H E f c' hr' => pe_callC B.check hr' passL (pa_cons (pv 1) (pa_cons (pv 9) pa_nil)))) (pe_tup (pa_cons pe_str (pa_cons (pv 10) (pa_cons pe_bl pa_nil)))) (nomark _))
          (pss_one (ps_ret pe_bl))
          pss_nil))
        (pss_one (ps_if (pt_cmpR (op_neSame (r64 hr)) (pe_heard (k := 6) hf hr (fun A outer s H E f c' hr' => pe_callC B.on hr' passL (pa_cons (pv 1) (pa_cons (pv 9) (pa_cons (pv 6) pa_nil))))) (pe_tup (pa_cons pe_str (pa_cons (pv 10) (pa_cons pe_bl pa_nil)))) (nomark _))
          (pss_one (ps_ret pe_bl))
          pss_nil)))))
      (pss_cons (ps_mid (ps_if (pt_cmpR (op_neSame (r64 hr)) (pe_heard (k := 6) hf hr (fun A outer s H E f c' hr' => pe_callC B.on hr' passL (pa_cons (pv 1) (pa_cons (pv 5) (pa_cons (pv 6) pa_nil))))) (pe_tup (pa_cons pe_str (pa_cons (pe_callB cs (by rfl) T.z_repr (by decide +kernel) (pa_cons (pv 6) pa_nil)) pa_nil))) (nomark _))
        (pss_one (ps_ret pe_bl))
        pss_nil))
      (pss_cons (ps_mid (ps_if (pt_cmpR (op_neSame (r64 hr)) (pe_heard (k := 6) hf hr (fun A outer s H E f c' hr' => pe_callC B.num hr' passL (pa_cons (pv 1) (pa_cons (pv 6) (pa_cons pe_non pa_nil))))) (pe_tup (pa_cons pe_str (pa_cons (pe_callB cs (by rfl) T.z_repr (by decide +kernel) (pa_cons (pv 6) pa_nil)) pa_nil))) (nomark _))
        (pss_one (ps_ret pe_bl))
        pss_nil))
      (pss_cons (ps_mid (ps_set (i := 11) sc_law_none_right.nd rfl (by first | exact Or.inl rfl | exact Or.inr rfl) (pe_callC B.pick hr pass0 (pa_cons (pv 0) (pa_cons (pe_lst (pa_cons (pe_op op_sub pe_int pe_int) (pa_cons pe_non (pa_cons pe_bl (pa_cons pe_str pa_nil))))) pa_nil)))))
      (pss_cons (ps_mid (ps_if (pt_cmpR (op_neSame (r64 hr)) (pe_heard (k := 6) hf hr (fun A outer s H E f c' hr' => pe_callC B.num hr' passL (pa_cons (pv 1) (pa_cons pe_int (pa_cons (pv 11) pa_nil))))) (pe_tup (pa_cons pe_str (pa_cons (pe_callB cs (by rfl) T.z_repr (by decide +kernel) (pa_cons (pv 11) pa_nil)) (pa_cons pe_bl pa_nil)))) (nomark _))
        (pss_one (ps_ret pe_bl))
        pss_nil))
      (pss_cons (ps_mid (ps_if (pt_cmpR (op_neSame (r64 hr)) (pe_heard (k := 6) hf hr (fun A outer s H E f c' hr' => pe_callC B.shown hr' passL (pa_cons (pv 1) (pa_cons (pe_lst (pa_cons pe_int (pa_cons (pv 6) (pa_cons pe_non pa_nil)))) pa_nil)))) (pe_tup (pa_cons pe_str (pa_cons pe_int (pa_cons pe_bl pa_nil)))) (nomark _))
        (pss_one (ps_ret pe_bl))
        pss_nil))
      (pss_cons (ps_mid (ps_if (pt_cmpR (op_neSame (r64 hr)) (pe_heard (k := 6) hf hr (fun A outer s H E f c' hr' => pe_callC B.shown hr' passL (pa_cons (pv 1) (pa_cons (pe_op op_rep (pe_lst (pa_cons pe_int pa_nil)) pe_int) pa_nil)))) (pe_tup (pa_cons pe_str (pa_cons (pe_un un_neg pe_int) (pa_cons pe_bl pa_nil)))) (nomark _))
        (pss_one (ps_ret pe_bl))
        pss_nil))
      (pss_cons (ps_mid (ps_set (i := 11) sc_law_none_right.nd rfl (by first | exact Or.inl rfl | exact Or.inr rfl) (pe_callC B.pick hr pass0 (pa_cons (pv 0) (pa_cons (pe_lst (pa_cons pe_non (pa_cons (pe_tup pa_nil) (pa_cons pe_int (pa_cons pe_str (pa_cons (pe_op op_rep (pe_lst (pa_cons pe_int pa_nil)) pe_int) (pa_cons (pe_op op_cat (pe_callTy call_list_of (by rfl) T.z_list (by decide +kernel) (pa_cons (pe_slice (sl_cut (K := K)) (pv 2) (po_some pe_int) po_none) pa_nil)) (pe_lst (pa_cons pe_int pa_nil))) (pa_cons (pe_op op_cat (pe_callTy call_list_of (by rfl) T.z_list (by decide +kernel) (pa_cons (pe_slice (sl_cut (K := K)) (pv 2) (po_some pe_int) po_none) pa_nil)) (pe_lst (pa_cons pe_bl pa_nil))) (pa_cons (pe_op op_cat (pe_callTy call_list_of (by rfl) T.z_list (by decide +kernel) (pa_cons (pe_slice (sl_cut (K := K)) (pv 2) (po_some pe_int) po_none) pa_nil)) (pe_lst (pa_cons (pe_op op_sub pe_int pe_int) pa_nil))) (pa_cons (pe_op op_cat (pe_callTy call_list_of (by rfl) T.z_list (by decide +kernel) (pa_cons (pe_slice (sl_cut (K := K)) (pv 2) (po_some pe_int) po_none) pa_nil)) (pe_lst (pa_cons pe_non pa_nil))) pa_nil)))))))))) pa_nil)))))
      (pss_cons (ps_mid (ps_if (pt_cmpR (op_neSame (r64 hr)) (pe_heard (k := 6) hf hr (fun A outer s H E f c' hr' => pe_cnt2 (K := K) M TC hr' passL (pa_cons (pv 11) (pa_cons pe_non pa_nil)))) (pe_tup (pa_cons pe_str (pa_cons (pe_callB cs (by rfl) T.z_repr (by decide +kernel) (pa_cons (pv 11) pa_nil)) (pa_cons pe_bl pa_nil)))) (nomark _))
        (pss_one (ps_ret pe_bl))
        pss_nil))
      (pss_cons (ps_mid (ps_set (i := 11) sc_law_none_right.nd rfl (by first | exact Or.inl rfl | exact Or.inr rfl) (pe_callC B.pick hr pass0 (pa_cons (pv 0) (pa_cons (pe_lst (pa_cons pe_non (pa_cons pe_int (pa_cons (pe_op op_noughts pe_str (pv 4)) (pa_cons (pe_op op_cat (pe_callTy call_list_of (by rfl) T.z_list (by decide +kernel) (pa_cons (pv 3) pa_nil)) (pe_lst (pa_cons pe_int pa_nil))) (pa_cons (pe_op op_cat (pe_callTy call_list_of (by rfl) T.z_list (by decide +kernel) (pa_cons (pe_slice (sl_cut (K := K)) (pv 3) (po_some pe_int) po_none) pa_nil)) (pe_lst (pa_cons pe_int pa_nil))) (pa_cons (pe_op op_cat (pe_callTy call_list_of (by rfl) T.z_list (by decide +kernel) (pa_cons (pe_slice (sl_cut (K := K)) (pv 3) (po_some pe_int) po_none) pa_nil)) (pe_lst (pa_cons pe_bl pa_nil))) (pa_cons (pe_op op_cat (pe_callTy call_list_of (by rfl) T.z_list (by decide +kernel) (pa_cons (pe_slice (sl_cut (K := K)) (pv 3) (po_some pe_int) po_none) pa_nil)) (pe_lst (pa_cons pe_non pa_nil))) (pa_cons (pe_op op_times (pe_tup (pa_cons (pe_op op_sub pe_int pe_int) pa_nil)) (pv 4)) pa_nil))))))))) pa_nil)))))
      (pss_cons (ps_mid (ps_if (pt_cmpR (op_neSame (r64 hr)) (pe_heard (k := 6) hf hr (fun A outer s H E f c' hr' => pe_cnt2 (K := K) M TC hr' passL (pa_cons (pv 2) (pa_cons (pv 11) pa_nil)))) (pe_tup (pa_cons pe_str (pa_cons (pe_callB cs (by rfl) T.z_repr (by decide +kernel) (pa_cons (pv 11) pa_nil)) (pa_cons pe_bl pa_nil)))) (nomark _))
        (pss_one (ps_ret pe_bl))
        pss_nil))
      (pss_cons (ps_mid (ps_set (i := 12) sc_law_none_right.nd rfl (by first | exact Or.inl rfl | exact Or.inr rfl) (pe_mac M hr (pa_cons (pe_op op_rep (pe_lst (pa_cons (pe_tup (pa_cons pe_int pa_nil)) pa_nil)) (pe_ifExp (pt_cmpR op_lt (pv 4) pe_int (nomark _)) (pe_op op_add (pv 4) pe_int) pe_int)) pa_nil))))
      (pss_one (ps_ret (pe_and (pe_cmpR (op_eqSame (r64 hr)) (pe_heard (k := 6) hf hr (fun A outer s H E f c' hr' => pe_callC B.fit hr' passL (pa_cons (pv 12) (pa_cons (pv 1) pa_nil)))) (pe_tup (pa_cons pe_str (pa_cons (pv 1) (pa_cons pe_bl pa_nil)))) (nomark _)) (pe_one (pe_cmpR (op_eqCn M hr) (pe_callN0 B.fitK hr pz (pk_cons (pv 1) (pk_cons (pe_mac M hr (pa_cons (pe_op op_rep (pe_lst (pa_cons (pe_tup (pa_cons pe_int pa_nil)) pa_nil)) (pv 4)) pa_nil)) pk_nil))) (pv 1) (nomark _))))))))))))))))))))))), ?_⟩
    have ok := hc.ok
    have l1 := ok.l1
    have l4 := ok.l4
    refine ⟨_, rfl, p, _, rfl, .inr hp, ?_⟩
    rw [List.length_map]
    refine ⟨(by show 1 ≤ sizeLine; decide), fun l0 hl0 => ?_⟩
    have f0 := same_new (o := HO.lst [.int 0]) hl0
    refine ⟨_, rfl, l0, _, _, rfl, rfl, upd_same, by omega, by omega, ?_, fun l1' hl1 => ?_⟩
    · show 1 * _ ≤ _
      rw [sizeLine_eq]
      omega
    rw [Int.toNat_natCast, rep_one]
    have f1 := same_new (o := HO.lst (noughts0 rs.length)) hl1
    refine ⟨l1', _, rfl, .inl (SqL.of upd_same), fun gd H1 f2 hgd => ?_⟩
    have g1 : Go Ts b H H1 := (Go.refl hb ht).same ((f0.trans f1).trans f2)
    obtain ⟨t1, hb1⟩ := g1.box
    refine ⟨_, rfl, _, rfl, _, _, rfl, rfl, (by show 5 ≤ sizeLine; decide), fun l2 hl2 => ?_⟩
    have f3 := same_new (o := HO.lst [.int rs.length, .int (0 - 1), .non, .bl true, .str "0"]) hl2
    refine ⟨b, l2, t1, _, rfl, f3 _ _ hb1, (fun z => by rw [z, hb1] at hl2; cases hl2), SqL.of upd_same, (by show 0 < 5; decide), (by show 5 < 1073741824; decide), fun od H2 hod m2 => ?_⟩
    have g2 := (g1.same f3).mv m2
    obtain ⟨dod, fod, bod, ood⟩ : ∃ d, Fl od d ∧ isBel rs.length od = false ∧ OkD 0 3000 d := by
      simp only [List.mem_cons, List.not_mem_nil, or_false] at hod
      rcases hod with rfl | rfl | rfl | rfl | rfl
      · exact ⟨_, .int _, no_bel fun i h => by cases h; exact .inr (Int.le_refl _), (okD_small (by omega)).mono (Nat.le_refl _) (by decide)⟩
      · exact ⟨_, .int _, no_bel fun i h => by cases h; exact .inl (by decide), (okD_small (by decide)).mono (Nat.le_refl _) (by decide)⟩
      · exact ⟨_, .non, rfl, okD_non.mono (Nat.le_refl _) (by decide)⟩
      · exact ⟨_, .bl _, rfl, (okD_bl _).mono (Nat.le_refl _) (by decide)⟩
      · exact ⟨_, .str _, rfl, okD_str (by decide +kernel)⟩
    have hgd2 := m2.sqT (f3 _ _ hb1) (sqT_same f3 hgd)
    obtain ⟨t2, hb2⟩ := g2.box
    refine ⟨_, rfl, _, rfl, b, t2, _, rfl, hb2, by omega, by omega, fun at0 H3 a0 a1 m3 => ?_⟩
    obtain ⟨i, rfl⟩ : ∃ i : Nat, at0 = (i : Int) := ⟨at0.toNat, by omega⟩
    have hi : i < rs.length := by omega
    have g3 := g2.mv m3
    have hgd3 := m3.sqT hb2 hgd2
    obtain ⟨t3, hb3⟩ := g3.box
    obtain ⟨i1, i2, b1, b2, b3, b4⟩ := ok.at_ hi
    have x1 : (rs.map V.int)[i]? = some (.int (rs.getD i 0)) := by rw [List.getElem?_map, i1]; rfl
    have x2 : (es.map V.int)[i]? = some (.int (es.getD i 0)) := by rw [List.getElem?_map, i2]; rfl
    have hp3 := g3.sqT hb hp
    have hq3 := g3.sqT hb hq
    refine ⟨fun σ' H' => ∃ wr, σ' = sgN b c p q rs.length (some (.ref gd)) (some od) (some (.int (i : Int))) (some wr) .none .none .none .none ∧ Go Ts b H H' ∧ SqT K H' gd (noughts0 rs.length) ∧ ((∃ d, Fl wr d) ∨ ∃ a, wr = .ref a ∧ SqT K H' a [.int 0]) ∧ canShow (rs.getD i 0) (es.getD i 0) wr = false, ?_, ?_⟩
    · generalize rs.getD i 0 = r0 at *
      generalize es.getD i 0 = e0 at *
      refine ⟨_, rfl, _, _, rfl, rfl, (by show 1 ≤ sizeLine; decide), fun tw htw => ⟨(by show 5 ≤ sizeLine; decide), fun l5 hl5 => ?_⟩⟩
      have f5 := same_new (o := HO.tup [.int 0]) htw
      have u5 : upd H3 tw (HO.tup [.int 0]) tw = some (HO.tup [.int 0]) := upd_same
      generalize upd H3 tw (HO.tup [.int 0]) = G5 at *
      have f6 := same_new (o := HO.lst [.int (0 - 1), .non, .bl true, .str "0", .ref tw]) hl5
      have u6 : upd G5 l5 (HO.lst [.int (0 - 1), .non, .bl true, .str "0", .ref tw]) l5 = some (HO.lst [.int (0 - 1), .non, .bl true, .str "0", .ref tw]) := upd_same
      generalize upd G5 l5 (HO.lst [.int (0 - 1), .non, .bl true, .str "0", .ref tw]) = G6 at *
      have f36 := f5.trans f6
      refine ⟨_, rfl, _, rfl, q, _, _, _, rfl, rfl, sqT_same f36 hq3, atI_nat x2, _, rfl, _, rfl, p, _, _, _, rfl, rfl, sqT_same f36 hp3, atI_nat x1, _, _, rfl, rfl, (by show 1 ≤ sizeLine; decide), fun l6 hl6 => ?_⟩
      have f7 := same_new (o := HO.lst [.int (e0 + r0)]) hl6
      refine ⟨_, rfl, _, rfl, p, _, _, _, rfl, rfl, sqT_same (f36.trans f7) hp3, atI_nat x1, _, _, rfl, rfl, .inr ⟨_, rfl, ?_⟩⟩
      obtain ⟨m, em, hm1, hmr⟩ : ∃ m : Nat, (if decide (0 < r0) = true then (1 : Int) else 0) = (m : Int) ∧ m ≤ 1 ∧ (m ≠ 0 → 0 < r0) := by
        by_cases z : 0 < r0
        · exact ⟨1, if_pos (decide_eq_true z), by decide, fun _ => z⟩
        · exact ⟨0, if_neg (by rw [decide_eq_false z]; exact Bool.false_ne_true), by decide, fun z => absurd rfl z⟩
      rw [em]
      refine ⟨l6, _, _, rfl, rfl, upd_same, by omega, by omega, ?_, fun l7 hl7 => ?_⟩
      · show 1 * _ ≤ _
        rw [sizeLine_eq]
        omega
      rw [Int.toNat_natCast, rep_one]
      have f8 := same_new (o := HO.lst ((List.replicate m (e0 + r0)).map V.int)) hl7
      refine ⟨l7, 4, _, rfl, rfl, upd_same, by decide, by decide, ?_, fun l8 hl8 => ?_⟩
      · rw [List.length_map, List.length_replicate, sizeLine_eq]
        show m * 4 ≤ _
        omega
      have f9 := same_new (o := HO.lst (List.replicate (4 : Int).toNat ((List.replicate m (e0 + r0)).map V.int)).flatten) hl8
      have f69 := (f7.trans f8).trans f9
      have len4 := fours_len (x := e0 + r0) hm1
      refine ⟨l5, l8, _, _, rfl, rfl, f69 _ _ u6, upd_same, ?_, fun l9 hl9 => ?_⟩
      · rw [sizeLine_eq]
        show 5 + _ ≤ _
        omega
      generalize hfl : (List.replicate (4 : Int).toNat ((List.replicate m (e0 + r0)).map V.int)).flatten = fl at *
      have f10 := same_new (o := HO.lst ([.int (0 - 1), .non, .bl true, .str "0", .ref tw] ++ fl)) hl9
      have f310 := (f36.trans f69).trans f10
      have hb10 := f310 _ _ hb3
      refine ⟨b, l9, t3, _, rfl, hb10, (fun z => by rw [z, f36.trans f69 _ _ hb3] at hl9; cases hl9), SqL.of upd_same, ?_, ?_, fun wr H10 hwr m10 => ?_⟩
      · rw [List.length_append]
        show 0 < 5 + _
        omega
      · rw [List.length_append]
        show 5 + _ < _
        omega
      have utw := m10.sqT hb10 (SqT.of (((f6.trans f69).trans f10) _ _ u5) : SqT K _ tw [.int 0])
      refine ⟨wr, rfl, (g3.same f310).mv m10, m10.sqT hb10 (sqT_same f310 hgd3), ?_, ?_⟩
      · rcases List.mem_append.mp hwr with h | h
        · simp only [List.mem_cons, List.not_mem_nil, or_false] at h
          rcases h with rfl | rfl | rfl | rfl | rfl
          · exact .inl ⟨_, .int _⟩
          · exact .inl ⟨_, .non⟩
          · exact .inl ⟨_, .bl _⟩
          · exact .inl ⟨_, .str _⟩
          · exact .inr ⟨_, rfl, utw⟩
        · rw [← hfl] at h
          rw [(fours_mem h).1]
          exact .inl ⟨_, .int _⟩
      · rcases List.mem_append.mp hwr with h | h
        · simp only [List.mem_cons, List.not_mem_nil, or_false] at h
          rcases h with rfl | rfl | rfl | rfl | rfl
          · exact no_show fun i h => by cases h; decide
          · exact no_show fun i h => nomatch h
          · exact no_show fun i h => nomatch h
          · exact no_show fun i h => nomatch h
          · exact no_show fun i h => nomatch h
        · rw [← hfl] at h
          obtain ⟨h1, h2⟩ := fours_mem h
          have pos := hmr h2
          rw [h1]
          unfold canShow
          rw [if_neg (by omega)]
          exact no_bel fun i h => by cases h; exact .inr (Int.le_refl _)
    · rintro σ' H4 ⟨wr, rfl, g4, hgd4, fwr, cwr⟩
      obtain ⟨t4, hb4⟩ := g4.box
      refine ⟨fun σ' H' => ∃ x9 x10, σ' = sgN b c p q rs.length (some (.ref gd)) (some od) (some (.int (i : Int))) (some wr) x9 x10 .none .none ∧ Go Ts b H H' ∧ SqT K H' gd (noughts0 rs.length), ?_, ?_⟩
      · have cutA : cutV (noughts0 rs.length) none (some (i : Int)) = noughts0 i := by
          rw [cut_to (by rw [List.length_map, List.length_replicate]; omega), ← List.map_take, List.take_replicate, Nat.min_eq_left (by omega)]
        have cutB : cutV (noughts0 rs.length) (some ((i : Int) + 1)) none = noughts0 (rs.length - (i + 1)) := by
          rw [show (i : Int) + 1 = ((i + 1 : Nat) : Int) from rfl, cut_from (by rw [List.length_map, List.length_replicate]; omega), ← List.map_drop, List.drop_replicate]
        have cutC : cutV (noughts0 rs.length) (some 1) none = noughts0 (rs.length - 1) := by
          rw [show (1 : Int) = ((1 : Nat) : Int) from rfl, cut_from (by rw [List.length_map, List.length_replicate]; omega), ← List.map_drop, List.drop_replicate]
        refine ⟨_, rfl, _, rfl, _, rfl, gd, _, rfl, hgd4, fun p1 G1 e1 hp1 => ?_⟩
        rw [cutA] at hp1
        refine ⟨_, rfl, (by show 1 ≤ sizeLine; decide), fun p2 hp2 => ?_⟩
        have e2 := same_new (o := HO.tup [wr]) hp2
        refine ⟨p1, p2, _, _, rfl, rfl, sqT_same e2 hp1, SqT.of upd_same, ?_, fun p3 G3 e3 hp3 => ?_⟩
        · rw [List.length_map, List.length_replicate, sizeLine_eq]
          show i + 1 ≤ _
          omega
        have e13 := (e1.trans e2).trans e3
        refine ⟨_, rfl, _, rfl, _, _, rfl, rfl, _, rfl, gd, _, rfl, sqT_same e13 hgd4, fun p4 G4 e4 hp4 => ?_⟩
        rw [cutB] at hp4
        refine ⟨p3, p4, _, _, rfl, rfl, sqT_same e4 hp3, hp4, ?_, fun p5 G5 e5 hp5 => ?_⟩
        · rw [List.length_append, List.length_map, List.length_map, List.length_replicate, List.length_replicate, sizeLine_eq]
          show i + 1 + _ ≤ _
          omega
        have e15 := (e13.trans e4).trans e5
        have hsp : SqT K G5 p5 (spoilt rs.length i wr) := by
          unfold spoilt
          simp only [List.map_replicate] at hp5
          exact hp5
        refine ⟨_, rfl, (by show 2 ≤ sizeLine; decide), fun u1 hu1 => ?_⟩
        have v1 := same_new (o := HO.tup [.ref p5, .int (i : Int)]) hu1
        have w1 : upd G5 u1 (HO.tup [.ref p5, .int (i : Int)]) u1 = some (HO.tup [.ref p5, .int (i : Int)]) := upd_same
        generalize upd G5 u1 (HO.tup [.ref p5, .int (i : Int)]) = A1 at *
        refine ⟨_, rfl, (by show 2 ≤ sizeLine; decide), fun u2 hu2 => ?_⟩
        have v2 := same_new (o := HO.tup [.non, .int (-1)]) hu2
        have w2 : upd A1 u2 (HO.tup [.non, .int (-1)]) u2 = some (HO.tup [.non, .int (-1)]) := upd_same
        generalize upd A1 u2 (HO.tup [.non, .int (-1)]) = A2 at *
        refine ⟨_, rfl, (by show 2 ≤ sizeLine; decide), fun u3 hu3 => ?_⟩
        have v3 := same_new (o := HO.tup [.int 0, .int (-1)]) hu3
        have w3 : upd A2 u3 (HO.tup [.int 0, .int (-1)]) u3 = some (HO.tup [.int 0, .int (-1)]) := upd_same
        generalize upd A2 u3 (HO.tup [.int 0, .int (-1)]) = A3 at *
        have e1A3 := e15.trans (v1.trans (v2.trans v3))
        refine ⟨_, rfl, (by show 1 ≤ sizeLine; decide), fun p6 hp6 => ?_⟩
        have v4 := same_new (o := HO.tup [.int 0]) hp6
        refine ⟨gd, p6, _, _, rfl, rfl, sqT_same (e1A3.trans v4) hgd4, SqT.of upd_same, ?_, fun p7 A4 v5 hp7 => ?_⟩
        · rw [List.length_map, List.length_replicate, sizeLine_eq]
          show _ + 1 ≤ _
          omega
        refine ⟨_, rfl, (by show 2 ≤ sizeLine; decide), fun u4 hu4 => ?_⟩
        have v6 := same_new (o := HO.tup [.ref p7, .int (-1)]) hu4
        have w4 : upd A4 u4 (HO.tup [.ref p7, .int (-1)]) u4 = some (HO.tup [.ref p7, .int (-1)]) := upd_same
        generalize upd A4 u4 (HO.tup [.ref p7, .int (-1)]) = A5 at *
        have v46 := (v4.trans v5).trans v6
        refine ⟨_, rfl, _, rfl, gd, _, rfl, sqT_same (e1A3.trans v46) hgd4, fun p8 A6 v7 hp8 => ?_⟩
        rw [cutC] at hp8
        refine ⟨_, rfl, (by show 2 ≤ sizeLine; decide), fun u5 hu5 => ?_⟩
        have v8 := same_new (o := HO.tup [.ref p8, .int (-1)]) hu5
        have w5 : upd A6 u5 (HO.tup [.ref p8, .int (-1)]) u5 = some (HO.tup [.ref p8, .int (-1)]) := upd_same
        generalize upd A6 u5 (HO.tup [.ref p8, .int (-1)]) = A7 at *
        refine ⟨_, rfl, rs.length, rfl, rfl, by omega, by omega, _, rfl, (by show 2 ≤ sizeLine; decide), fun u6 hu6 => ?_⟩
        have v9 := same_new (o := HO.tup [.str (noughts rs.length), .int (-1)]) hu6
        have w6 : upd A7 u6 (HO.tup [.str (noughts rs.length), .int (-1)]) u6 = some (HO.tup [.str (noughts rs.length), .int (-1)]) := upd_same
        generalize upd A7 u6 (HO.tup [.str (noughts rs.length), .int (-1)]) = A8 at *
        refine ⟨(by show 6 ≤ sizeLine; decide), fun tt htt => ?_⟩
        have v10 := same_new (o := HO.tup [.ref u1, .ref u2, .ref u3, .ref u4, .ref u5, .ref u6]) htt
        have w7 : upd A8 tt (HO.tup [.ref u1, .ref u2, .ref u3, .ref u4, .ref u5, .ref u6]) tt = some (HO.tup [.ref u1, .ref u2, .ref u3, .ref u4, .ref u5, .ref u6]) := upd_same
        generalize upd A8 tt (HO.tup [.ref u1, .ref u2, .ref u3, .ref u4, .ref u5, .ref u6]) = A9 at *
        have f89 := v9.trans v10
        have f79 := v8.trans f89
        have f69 := v7.trans f79
        have f59 := v46.trans f69
        have f29 := v3.trans f59
        have f19 := v2.trans f29
        have all := e1A3.trans f59
        have each : ∀ x ∈ ([.ref u1, .ref u2, .ref u3, .ref u4, .ref u5, .ref u6] : List V), ∃ u v spot, x = .ref u ∧ SqT K A9 u [v, .int spot] ∧ Bd K rs es A9 v spot := by
          intro x hx
          simp only [List.mem_cons, or_false, List.not_mem_nil] at hx
          rcases hx with rfl | rfl | rfl | rfl | rfl | rfl
          · refine ⟨u1, _, _, rfl, SqT.of (f19 _ _ w1), spoilt_bad ok hi (sqT_same (v1.trans f19) hsp) ?_ cwr⟩
            exact fwr.imp id fun ⟨a, h1, h2⟩ => ⟨a, h1, sqT_same all h2⟩
          · exact ⟨u2, _, _, rfl, SqT.of (f29 _ _ w2), Bd.far (.flat .non) (.inl rfl)⟩
          · exact ⟨u3, _, _, rfl, SqT.of (f59 _ _ w3), Bd.far (.flat (.int 0)) (.inl rfl)⟩
          · refine ⟨u4, _, _, rfl, SqT.of (f69 _ _ w4), Bd.far (.tup (sqT_same (v6.trans f69) hp7) fun x hx => ?_) (.inr ⟨_, rfl, ?_⟩)⟩
            · rcases List.mem_append.mp hx with h | h
              · obtain ⟨n, _, rfl⟩ := List.mem_map.mp h
                exact .inl ⟨_, .int _⟩
              · rw [List.mem_singleton.mp h]
                exact .inl ⟨_, .int _⟩
            · rw [List.length_append, List.length_map, List.length_replicate]
              show _ + 1 ≠ _
              omega
          · refine ⟨u5, _, _, rfl, SqT.of (f89 _ _ w5), Bd.far (.tup (sqT_same f79 hp8) fun x hx => ?_) (.inr ⟨_, rfl, ?_⟩)⟩
            · obtain ⟨n, _, rfl⟩ := List.mem_map.mp hx
              exact .inl ⟨_, .int _⟩
            · rw [List.length_map, List.length_replicate]
              omega
          · exact ⟨u6, _, _, rfl, SqT.of (v10 _ _ w6), Bd.far (.flat (.str _)) (.inl rfl)⟩
        have g9 := g4.same all
        obtain ⟨t9, hb9⟩ := g9.box
        have hgd9 := sqT_same all hgd4
        refine ⟨tt, _, rfl, for_any (.inr (SqT.of w7)) (fun j σ' H' => ∃ x9 x10, σ' = sgN b c p q rs.length (some (.ref gd)) (some od) (some (.int (i : Int))) (some wr) x9 x10 .none .none ∧ Go Ts b A9 H') ⟨.none, .none, rfl, Go.refl hb9 g9.tabs⟩ ?_ ?_ ?_ ?_⟩
        · rintro j σ' H' ⟨_, _, _, g⟩ z
          exact g.sqL (fun z' => by rw [z', hb9] at w7; cases w7) z
        · rintro j σ' H' ⟨_, _, _, g⟩ z
          exact g.sqT hb9 z
        · rintro j x σ' H5 hx ⟨x9, x10, rfl, g5⟩
          obtain ⟨u, v, spot, rfl, hu, bd⟩ := each x (List.mem_of_getElem? hx)
          obtain ⟨o, sa, nall⟩ := (bd.map fun a xs h => g5.sqT hb9 h : Bd K rs es H5 v spot).args (a := a)
          refine ⟨u, _, rfl, g5.sqT hb9 hu, rfl, ?_⟩
          refine ⟨_, _, rfl, _, _, rfl, rfl, ?_⟩
          refine ⟨fun σ' H' => σ' = sgN b c p q rs.length (some (.ref gd)) (some od) (some (.int (i : Int))) (some wr) (some v) (some (.int spot)) .none .none ∧ Go Ts b A9 H', ?_, ?_⟩
          · refine ⟨g5.tabs, fun H6 x6 t6 => ?_⟩
            have g6 := g5.ext x6 t6
            have hc6 := (g9.trans g6).cn hb hc
            obtain ⟨o, sa, nall⟩ := (bd.map fun a xs h => g6.sqT hb9 h : Bd K rs es H6 v spot).args (a := a)
            refine ⟨_, rfl, _, rfl, c, rs, es, v, o, rfl, hc6, sa _ fun d H7 e7 hd7 => ⟨d, rfl, .inr (.inl ⟨rfl, spot, hd7, fun r H8 e8 hr8 => ?_⟩)⟩, fun xs e l all => absurd all (nall xs e l)⟩
            refine ⟨_, rfl, (by show 3 ≤ sizeLine; decide), fun t10 ht10 => ?_⟩
            refine ⟨r, t10, _, rfl, rfl, sqT_same (same_new ht10) hr8, SqT.of upd_same, items3 (.inl rfl), _, rfl, ?_⟩
            exact iteF ⟨rfl, g6.same ((e7.trans e8).trans (same_new ht10))⟩
          · rintro σ' H6 ⟨rfl, g6⟩
            refine ⟨g6.tabs, fun H7 x7 t7 => ?_⟩
            have g7 := g6.ext x7 t7
            have hc7 := (g9.trans g7).cn hb hc
            obtain ⟨o, sa, nall⟩ := (bd.map fun a xs h => g7.sqT hb9 h : Bd K rs es H7 v spot).args (a := a)
            refine ⟨_, rfl, _, rfl, _, rfl, c, rs, es, v, o, od, rfl, hc7, sa _ fun d H8 e8 hd8 => ⟨d, rfl, .inr (.inl ⟨rfl, spot, hd8, fun r H9 e9 hr9 => ?_⟩)⟩, fod.kn, fun ns e l all => absurd all (nall _ e (by rw [List.length_map]; exact l))⟩
            refine ⟨_, rfl, (by show 3 ≤ sizeLine; decide), fun t10 ht10 => ?_⟩
            refine ⟨r, t10, _, rfl, rfl, sqT_same (same_new ht10) hr9, SqT.of upd_same, items3 (.inl rfl), _, rfl, ?_⟩
            exact iteF ⟨_, _, rfl, g7.same ((e8.trans e9).trans (same_new ht10))⟩
        · rintro σ' H' ⟨x9, x10, rfl, g⟩
          exact ⟨x9, x10, rfl, g9.trans g, g.sqT hb9 hgd9⟩
      · rintro σ' H5 ⟨x9, x10, rfl, g5, hgd5⟩
        have sod : ∀ {G : Hp}, ShowD K G od dod := ⟨fod.dp, ood.sh, ood.nd, ood.d60, ood.line⟩
        have zl : (List.replicate rs.length (0 : Int)).length = rs.length := List.length_replicate
        have zall : AllShow rs es (noughts0 rs.length) := by
          have := allShow_of (row := []) ok
          rwa [showOf_nil ok] at this
        -- the deed is none
        refine ⟨fun σ' H' => σ' = sgN b c p q rs.length (some (.ref gd)) (some od) (some (.int (i : Int))) (some wr) x9 x10 .none .none ∧ Go Ts b H H', ?_, ?_⟩
        · refine ⟨g5.tabs, fun H6 y6 t6 => ?_⟩
          have g6 := g5.ext y6 t6
          have hc6 := g6.cn hb hc
          refine ⟨_, rfl, _, rfl, _, rfl, c, rs, es, .ref gd, _, od, rfl, hc6, showArg_good (.seq (.inr (ext_sqT y6 hgd5))) zl zall, fod.kn, fun ns e l all => ⟨fun _ d H7 e7 hd7 => ⟨d, rfl, .inr (.inr (.inr (.inr ⟨rfl, od, dod, hd7, sod, fun r H8 e8 hr8 => ?_⟩)))⟩, fun j ej hj => ?_⟩⟩
          · refine ⟨_, rfl, _, _, rfl, fod.dp, ood.sh, ood.nd, ood.d60, ood.line, (by show 2 ≤ sizeLine; decide), fun t10 ht10 => ?_⟩
            refine ⟨r, t10, _, rfl, rfl, sqT_same (same_new ht10) hr8, SqT.of upd_same, items2, _, rfl, ?_⟩
            exact iteF ⟨rfl, g6.same ((e7.trans e8).trans (same_new ht10))⟩
          · rw [ej, isBel_nat hj] at bod
            cases bod
        rintro σ' H6 ⟨rfl, g6⟩
        -- the kind is none
        refine ⟨fun σ' H' => σ' = sgN b c p q rs.length (some (.ref gd)) (some od) (some (.int (i : Int))) (some wr) x9 x10 .none .none ∧ Go Ts b H H', ?_, ?_⟩
        · refine ⟨g6.tabs, fun H7 y7 t7 => ?_⟩
          have g7 := g6.ext y7 t7
          have hc7 := g7.cn hb hc
          refine ⟨_, rfl, _, rfl, c, rs, es, od, .non, rfl, hc7, fod.kn, .non, fun _ d H8 e8 hd8 => ⟨d, rfl, .inr (.inr (.inr (.inr ⟨rfl, od, dod, hd8, sod, fun r H9 e9 hr9 => ?_⟩)))⟩, fun z => ?_, fun j n r' e' _ en => nomatch en⟩
          · refine ⟨_, rfl, _, _, rfl, fod.dp, ood.sh, ood.nd, ood.d60, ood.line, (by show 2 ≤ sizeLine; decide), fun t10 ht10 => ?_⟩
            refine ⟨r, t10, _, rfl, rfl, sqT_same (same_new ht10) hr9, SqT.of upd_same, items2, _, rfl, ?_⟩
            exact iteF ⟨rfl, g7.same ((e8.trans e9).trans (same_new ht10))⟩
          · rw [bod] at z
            cases z
        rintro σ' H7 ⟨rfl, g7⟩
        -- a number that is none
        refine ⟨fun σ' H' => ∃ bd dbd, σ' = sgN b c p q rs.length (some (.ref gd)) (some od) (some (.int (i : Int))) (some wr) x9 x10 (some bd) .none ∧ Go Ts b H H' ∧ Fl bd dbd ∧ isNum bd = false ∧ OkD 0 3000 dbd, ?_, ?_⟩
        · obtain ⟨t7, hb7⟩ := g7.box
          refine ⟨_, rfl, _, _, rfl, rfl, (by show 4 ≤ sizeLine; decide), fun l8 hl8 => ?_⟩
          have f8 := same_new (o := HO.lst [.int (0 - 1), .non, .bl true, .str "0"]) hl8
          refine ⟨b, l8, t7, _, rfl, f8 _ _ hb7, (fun z => by rw [z, hb7] at hl8; cases hl8), SqL.of upd_same, (by show 0 < 4; decide), (by show 4 < 1073741824; decide), fun bd H8 hbd m8 => ?_⟩
          have g8 := (g7.same f8).mv m8
          simp only [List.mem_cons, List.not_mem_nil, or_false] at hbd
          rcases hbd with rfl | rfl | rfl | rfl
          · exact ⟨_, _, rfl, g8, .int _, rfl, (okD_small (by decide)).mono (Nat.le_refl _) (by decide)⟩
          · exact ⟨_, _, rfl, g8, .non, rfl, okD_non.mono (Nat.le_refl _) (by decide)⟩
          · exact ⟨_, _, rfl, g8, .bl _, rfl, (okD_bl _).mono (Nat.le_refl _) (by decide)⟩
          · exact ⟨_, _, rfl, g8, .str _, rfl, okD_str (by decide +kernel)⟩
        rintro σ' H8 ⟨bd, dbd, rfl, g8, fbd, nbd, obd⟩
        have sbd : ∀ {G : Hp}, ShowD K G bd dbd := ⟨fbd.dp, obd.sh, obd.nd, obd.d60, obd.line⟩
        refine ⟨fun σ' H' => σ' = sgN b c p q rs.length (some (.ref gd)) (some od) (some (.int (i : Int))) (some wr) x9 x10 (some bd) .none ∧ Go Ts b H H', ?_, ?_⟩
        · refine ⟨g8.tabs, fun H9 y9 t9 => ?_⟩
          have g9 := g8.ext y9 t9
          have hc9 := g9.cn hb hc
          refine ⟨_, rfl, _, rfl, c, rs, es, .int 0, bd, rfl, hc9, .int 0, fbd.kn, fun z => ?_, fun _ _ d H10 e10 hd10 => ⟨d, rfl, .inr (.inr (.inl ⟨rfl, bd, hd10, .inr ⟨fbd.kn, dbd, sbd, fun r H11 e11 hr11 => ?_⟩⟩))⟩, fun j n r' e' _ en n0 => ?_⟩
          · rw [show V.int 0 = V.int ((0 : Nat) : Int) from rfl, isBel_nat l1] at z
            cases z
          · refine ⟨_, rfl, _, _, rfl, fbd.dp, obd.sh, obd.nd, obd.d60, obd.line, (by show 3 ≤ sizeLine; decide), fun t10 ht10 => ?_⟩
            refine ⟨r, t10, _, rfl, rfl, sqT_same (same_new ht10) hr11, SqT.of upd_same, items3 (.inl rfl), _, rfl, ?_⟩
            exact iteF ⟨rfl, g9.same ((e10.trans e11).trans (same_new ht10))⟩
          · rw [en] at nbd
            have : decide (0 ≤ n) = false := nbd
            rw [decide_eq_true n0] at this
            cases this
        rintro σ' H9 ⟨rfl, g9⟩
        -- a row that is none
        refine ⟨fun σ' H' => σ' = sgN b c p q rs.length (some (.ref gd)) (some od) (some (.int (i : Int))) (some wr) x9 x10 (some bd) .none ∧ Go Ts b H H', ?_, ?_⟩
        · refine ⟨g9.tabs, fun H10 y10 t10 => ?_⟩
          have g10 := g9.ext y10 t10
          have hc10 := g10.cn hb hc
          refine ⟨_, rfl, _, rfl, (by show 3 ≤ sizeLine; decide), fun l11 hl11 => ?_⟩
          have f11 := same_new (o := HO.lst [.int 0, od, .non]) hl11
          have spot1 : rowAt rs.length (some [.int 0, od, .non]) = some 1 := by
            rw [rowAt_near (by show 3 ≤ 400; decide), fnb_some (i := 1) (fun j x hj hx => ?_) ⟨od, rfl, bod⟩]
            · rfl
            · have : j = 0 := by omega
              subst this
              cases hx
              exact isBel_nat l1
          refine ⟨c, rs, es, l11, _, rfl, hc10.same f11, .inl (SqL.of upd_same), fun xs e _ x hx => ?_, fun j ej d H11 e11 hd11 => ⟨d, rfl, .inl ⟨rfl, j, hd11, fun r H12 e12 hr12 => ?_⟩⟩, fun row _ z => ?_⟩
          · cases e
            simp only [List.mem_cons, or_false, List.not_mem_nil] at hx
            rcases hx with rfl | rfl | rfl
            · exact .int 0
            · exact fod.kn
            · exact .non
          · rw [spot1] at ej
            cases ej
            refine ⟨(by show 3 ≤ sizeLine; decide), fun t10 ht10 => ?_⟩
            refine ⟨r, t10, _, rfl, rfl, sqT_same (same_new ht10) hr12, SqT.of upd_same, items3 (.inl rfl), _, rfl, ?_⟩
            exact iteF ⟨rfl, g10.same (((f11.trans e11).trans e12).trans (same_new ht10))⟩
          · rw [spot1] at z
            cases z
        rintro σ' H10 ⟨rfl, g10⟩
        -- a row that is too long
        refine ⟨fun σ' H' => σ' = sgN b c p q rs.length (some (.ref gd)) (some od) (some (.int (i : Int))) (some wr) x9 x10 (some bd) .none ∧ Go Ts b H H', ?_, ?_⟩
        · refine ⟨g10.tabs, fun H11 y11 t11 => ?_⟩
          have g11 := g10.ext y11 t11
          have hc11 := g11.cn hb hc
          refine ⟨_, rfl, (by show 1 ≤ sizeLine; decide), fun l12 hl12 => ?_⟩
          refine ⟨l12, 401, _, rfl, rfl, upd_same, by decide, by decide, (by show 401 ≤ sizeLine; decide), fun l13 hl13 => ?_⟩
          have f13 := (same_new (o := HO.lst [.int 0]) hl12).trans (same_new (o := HO.lst (List.replicate (401 : Int).toNat [V.int 0]).flatten) hl13)
          have e401 : (List.replicate (401 : Int).toNat [V.int 0]).flatten = noughts0 401 := rep_one
          have spot1 : rowAt rs.length (some (List.replicate (401 : Int).toNat [V.int 0]).flatten) = some (-1) := by
            rw [e401]
            exact rowAt_far (by rw [List.length_map, List.length_replicate]; decide)
          refine ⟨c, rs, es, l13, _, rfl, hc11.same f13, .inl (SqL.of upd_same), by rw [e401]; exact kns_ints, fun j ej d H12 e12 hd12 => ⟨d, rfl, .inl ⟨rfl, j, hd12, fun r H13 e13 hr13 => ?_⟩⟩, fun row _ z => ?_⟩
          · rw [spot1] at ej
            cases ej
            refine ⟨_, rfl, (by show 3 ≤ sizeLine; decide), fun t10 ht10 => ?_⟩
            refine ⟨r, t10, _, rfl, rfl, sqT_same (same_new ht10) hr13, SqT.of upd_same, items3 (.inl rfl), _, rfl, ?_⟩
            exact iteF ⟨rfl, g11.same (((f13.trans e12).trans e13).trans (same_new ht10))⟩
          · rw [spot1] at z
            cases z
        rintro σ' H11 ⟨rfl, g11⟩
        have cutR : cutV (rs.map V.int) (some 1) none = (rs.drop 1).map V.int := by
          rw [show (1 : Int) = ((1 : Nat) : Int) from rfl, cut_from (by rw [List.length_map]; exact l1), List.map_drop]
        have cutE : cutV (es.map V.int) (some 1) none = (es.drop 1).map V.int := by
          rw [show (1 : Int) = ((1 : Nat) : Int) from rfl, cut_from (by rw [List.length_map, ok.le]; exact l1), List.map_drop]
        have smR : ∀ n ∈ rs.drop 1, -1000000 ≤ n ∧ n ≤ 1000000 := fun n hn => by
          have := ok.r n (List.mem_of_mem_drop hn)
          omega
        have smE : ∀ n ∈ es, -1000000 ≤ n ∧ n ≤ 1000000 := fun n hn => by
          have := ok.e n hn
          omega
        have lR : (rs.drop 1).length ≤ 6 := by rw [List.length_drop]; omega
        have lE : (es.drop 1).length ≤ 6 := by rw [List.length_drop, ok.le]; omega
        refine ⟨fun σ' H' => ∃ bd dbd o, σ' = sgN b c p q rs.length (some (.ref gd)) (some od) (some (.int (i : Int))) (some wr) x9 x10 (some bd) .none ∧ Go Ts b H H' ∧ Sv K b H' bd dbd o ∧ roundsOk o = false ∧ OkD 2 20000 dbd, ?_, ?_⟩
        · obtain ⟨t11, hb11⟩ := g11.box
          have hp11 := g11.sqT hb hp
          refine ⟨_, rfl, Nat.zero_le _, fun te hte => ?_⟩
          have e0 := same_new (o := HO.tup []) hte
          have u0 : upd H11 te (HO.tup []) te = some (HO.tup []) := upd_same
          generalize upd H11 te (HO.tup []) = G0 at *
          refine ⟨(by show 1 ≤ sizeLine; decide), fun la hla => ?_⟩
          have ela := same_new (o := HO.lst [.int 1]) hla
          refine ⟨la, 5, _, rfl, rfl, upd_same, by decide, by decide, (by show 5 ≤ sizeLine; decide), fun lb hlb => ?_⟩
          have e1 := ela.trans (same_new (o := HO.lst (List.replicate (5 : Int).toNat [.int 1]).flatten) hlb)
          have n1 : H11 lb = none := (e0.trans ela).free hlb
          have u1 : upd (upd G0 la (HO.lst [.int 1])) lb (HO.lst (List.replicate (5 : Int).toNat [.int 1]).flatten) lb = some (HO.lst (([1, 1, 1, 1, 1] : List Int).map V.int)) := upd_same
          generalize upd (upd G0 la (HO.lst [.int 1])) lb (HO.lst (List.replicate (5 : Int).toNat [.int 1]).flatten) = G1 at *
          have f1 := e0.trans e1
          refine ⟨_, rfl, _, rfl, p, _, rfl, sqT_same f1 hp11, fun ax6 Ax6 eax6 hax6 => ?_⟩
          rw [cutR] at hax6
          refine ⟨ax6, _, rfl, .inr hax6, fun bx6 hbx6 => ?_⟩
          have ebx6 := same_new (o := HO.lst ((rs.drop 1).map V.int)) hbx6
          have ubx6 : upd Ax6 bx6 (HO.lst ((rs.drop 1).map V.int)) bx6 = some (HO.lst ((rs.drop 1).map V.int)) := upd_same
          generalize upd Ax6 bx6 (HO.lst ((rs.drop 1).map V.int)) = Bx6 at *
          refine ⟨(by show 1 ≤ sizeLine; decide), fun cx6 hcx6 => ?_⟩
          have ecx6 := same_new (o := HO.lst [.int 61]) hcx6
          refine ⟨bx6, cx6, _, _, rfl, rfl, ecx6 _ _ ubx6, upd_same, ?_, fun dx6 hdx6 => ?_⟩
          · rw [List.length_map, List.length_drop, sizeLine_eq]
            show _ + 1 ≤ _
            omega
          have edx6 := same_new (o := HO.lst ((rs.drop 1).map V.int ++ [.int 61])) hdx6
          have udx6 : upd (upd Bx6 cx6 (HO.lst [.int 61])) dx6 (HO.lst ((rs.drop 1).map V.int ++ [.int 61])) dx6 = some (HO.lst ((rs.drop 1).map V.int ++ [.int 61])) := upd_same
          have esx6 := (((eax6.trans ebx6).trans ecx6).trans edx6)
          have ndx6 := (((eax6.trans ebx6).trans ecx6).free hdx6)
          generalize upd (upd Bx6 cx6 (HO.lst [.int 61])) dx6 (HO.lst ((rs.drop 1).map V.int ++ [.int 61])) = G2 at *
          have f2 := f1.trans esx6
          refine ⟨_, rfl, _, rfl, p, _, rfl, sqT_same f2 hp11, fun ax7 Ax7 eax7 hax7 => ?_⟩
          rw [cutR] at hax7
          refine ⟨ax7, _, rfl, .inr hax7, fun bx7 hbx7 => ?_⟩
          have ebx7 := same_new (o := HO.lst ((rs.drop 1).map V.int)) hbx7
          have ubx7 : upd Ax7 bx7 (HO.lst ((rs.drop 1).map V.int)) bx7 = some (HO.lst ((rs.drop 1).map V.int)) := upd_same
          generalize upd Ax7 bx7 (HO.lst ((rs.drop 1).map V.int)) = Bx7 at *
          refine ⟨(by show 1 ≤ sizeLine; decide), fun cx7 hcx7 => ?_⟩
          have ecx7 := same_new (o := HO.lst [.bl true]) hcx7
          refine ⟨bx7, cx7, _, _, rfl, rfl, ecx7 _ _ ubx7, upd_same, ?_, fun dx7 hdx7 => ?_⟩
          · rw [List.length_map, List.length_drop, sizeLine_eq]
            show _ + 1 ≤ _
            omega
          have edx7 := same_new (o := HO.lst ((rs.drop 1).map V.int ++ [.bl true])) hdx7
          have udx7 : upd (upd Bx7 cx7 (HO.lst [.bl true])) dx7 (HO.lst ((rs.drop 1).map V.int ++ [.bl true])) dx7 = some (HO.lst ((rs.drop 1).map V.int ++ [.bl true])) := upd_same
          have esx7 := (((eax7.trans ebx7).trans ecx7).trans edx7)
          have ndx7 := (((eax7.trans ebx7).trans ecx7).free hdx7)
          generalize upd (upd Bx7 cx7 (HO.lst [.bl true])) dx7 (HO.lst ((rs.drop 1).map V.int ++ [.bl true])) = G3 at *
          have f3 := f2.trans esx7
          refine ⟨_, rfl, _, rfl, p, _, rfl, sqT_same f3 hp11, fun ax8 Ax8 eax8 hax8 => ?_⟩
          rw [cutR] at hax8
          refine ⟨ax8, _, rfl, .inr hax8, fun bx8 hbx8 => ?_⟩
          have ebx8 := same_new (o := HO.lst ((rs.drop 1).map V.int)) hbx8
          have ubx8 : upd Ax8 bx8 (HO.lst ((rs.drop 1).map V.int)) bx8 = some (HO.lst ((rs.drop 1).map V.int)) := upd_same
          generalize upd Ax8 bx8 (HO.lst ((rs.drop 1).map V.int)) = Bx8 at *
          refine ⟨_, _, rfl, rfl, (by show 1 ≤ sizeLine; decide), fun cx8 hcx8 => ?_⟩
          have ecx8 := same_new (o := HO.lst [.int (0 - 1)]) hcx8
          refine ⟨bx8, cx8, _, _, rfl, rfl, ecx8 _ _ ubx8, upd_same, ?_, fun dx8 hdx8 => ?_⟩
          · rw [List.length_map, List.length_drop, sizeLine_eq]
            show _ + 1 ≤ _
            omega
          have edx8 := same_new (o := HO.lst ((rs.drop 1).map V.int ++ [.int (0 - 1)])) hdx8
          have udx8 : upd (upd Bx8 cx8 (HO.lst [.int (0 - 1)])) dx8 (HO.lst ((rs.drop 1).map V.int ++ [.int (0 - 1)])) dx8 = some (HO.lst ((rs.drop 1).map V.int ++ [.int (0 - 1)])) := upd_same
          have esx8 := (((eax8.trans ebx8).trans ecx8).trans edx8)
          have ndx8 := (((eax8.trans ebx8).trans ecx8).free hdx8)
          generalize upd (upd Bx8 cx8 (HO.lst [.int (0 - 1)])) dx8 (HO.lst ((rs.drop 1).map V.int ++ [.int (0 - 1)])) = G4 at *
          have f4 := f3.trans esx8
          refine ⟨_, rfl, _, rfl, p, _, rfl, sqT_same f4 hp11, fun ax9 Ax9 eax9 hax9 => ?_⟩
          rw [cutR] at hax9
          refine ⟨ax9, _, rfl, .inr hax9, fun bx9 hbx9 => ?_⟩
          have ebx9 := same_new (o := HO.lst ((rs.drop 1).map V.int)) hbx9
          have ubx9 : upd Ax9 bx9 (HO.lst ((rs.drop 1).map V.int)) bx9 = some (HO.lst ((rs.drop 1).map V.int)) := upd_same
          generalize upd Ax9 bx9 (HO.lst ((rs.drop 1).map V.int)) = Bx9 at *
          refine ⟨(by show 1 ≤ sizeLine; decide), fun cx9 hcx9 => ?_⟩
          have ecx9 := same_new (o := HO.lst [.non]) hcx9
          refine ⟨bx9, cx9, _, _, rfl, rfl, ecx9 _ _ ubx9, upd_same, ?_, fun dx9 hdx9 => ?_⟩
          · rw [List.length_map, List.length_drop, sizeLine_eq]
            show _ + 1 ≤ _
            omega
          have edx9 := same_new (o := HO.lst ((rs.drop 1).map V.int ++ [.non])) hdx9
          have udx9 : upd (upd Bx9 cx9 (HO.lst [.non])) dx9 (HO.lst ((rs.drop 1).map V.int ++ [.non])) dx9 = some (HO.lst ((rs.drop 1).map V.int ++ [.non])) := upd_same
          have esx9 := (((eax9.trans ebx9).trans ecx9).trans edx9)
          have ndx9 := (((eax9.trans ebx9).trans ecx9).free hdx9)
          generalize upd (upd Bx9 cx9 (HO.lst [.non])) dx9 (HO.lst ((rs.drop 1).map V.int ++ [.non])) = G5 at *
          have f5 := f4.trans esx9
          refine ⟨(by show 9 ≤ sizeLine; decide), fun l hl => ?_⟩
          have e6 := same_new (o := HO.lst [.non, .ref te, .int 0, .str "2", .ref lb, .ref dx6, .ref dx7, .ref dx8, .ref dx9]) hl
          have hbl := e6 _ _ (f5 _ _ hb11)
          refine ⟨b, l, t11, _, rfl, hbl, (fun z => by rw [z, f5 _ _ hb11] at hl; cases hl), SqL.of upd_same, (by show 0 < 9; decide), (by show 9 < 1073741824; decide), fun bd H12 hbd m12 => ?_⟩
          have g12 := ((g11.same f5).same e6).mv m12
          have nb : ∀ {x : Addr}, H11 x = none → x ≠ b := fun hx z => by rw [z, hb11] at hx; cases hx
          have keep : ∀ {x : Addr} {xs : List V}, H11 x = none → G5 x = some (.lst xs) → SqL K H12 x xs := fun hx q => SqL.of (m12.1 _ _ (nb hx) (e6 _ _ q))
          have nx6 := f1.free ndx6
          have nx7 := f2.free ndx7
          have nx8 := f3.free ndx8
          have nx9 := f4.free ndx9
          simp only [List.mem_cons, List.not_mem_nil, or_false] at hbd
          rcases hbd with rfl | rfl | rfl | rfl | rfl | rfl | rfl | rfl | rfl
          · exact ⟨_, _, _, rfl, g12, .flat .non, rfl, okD_non.mono (by decide) (by decide)⟩
          · exact ⟨_, _, _, rfl, g12, .tup (m12.sqT hbl (SqT.of (e6 _ _ (((e1.trans esx6).trans esx7).trans (esx8.trans esx9) _ _ u0)))) .nil, rfl, (okD_tuple (m := 0) okA_nil).mono (by decide) (by decide)⟩
          · exact ⟨_, _, _, rfl, g12, .flat (.int _), rfl, (okD_small (by decide)).mono (by decide) (by decide)⟩
          · exact ⟨_, _, _, rfl, g12, .flat (.str _), rfl, (okD_str (L := 20000) (by decide +kernel)).mono (by decide) (by decide)⟩
          · exact ⟨_, _, _, rfl, g12, .lst (nb n1) (keep n1 (((esx6.trans esx7).trans (esx8.trans esx9)) _ _ u1)) (fls_ints _), rfl, (okD_list (m := 0) (okA_ints (ns := [1, 1, 1, 1, 1]) (by decide))).mono (by decide) (by decide)⟩
          · exact ⟨_, _, _, rfl, g12, .lst (nb nx6) (keep nx6 ((esx7.trans (esx8.trans esx9)) _ _ udx6)) (fls_snoc (.int _)), rounds_bad last_mem (no_bel fun i h => by cases h; exact .inr (by decide)), okD_flats smR lR ((okD_small (by decide)).mono (Nat.le_refl _) (by decide))⟩
          · exact ⟨_, _, _, rfl, g12, .lst (nb nx7) (keep nx7 ((esx8.trans esx9) _ _ udx7)) (fls_snoc (.bl _)), rounds_bad last_mem rfl, okD_flats smR lR ((okD_bl _).mono (Nat.le_refl _) (by decide))⟩
          · exact ⟨_, _, _, rfl, g12, .lst (nb nx8) (keep nx8 (esx9 _ _ udx8)) (fls_snoc (.int _)), rounds_bad last_mem (no_bel fun i h => by cases h; exact .inl (by decide)), okD_flats smR lR ((okD_small (by decide)).mono (Nat.le_refl _) (by decide))⟩
          · exact ⟨_, _, _, rfl, g12, .lst (nb nx9) (keep nx9 udx9) (fls_snoc .non), rounds_bad last_mem rfl, okD_flats smR lR (okD_non.mono (Nat.le_refl _) (by decide))⟩
        rintro σ' H12 ⟨bd, dbd, o, rfl, g12, sv12, bad12, obd⟩
        -- rounds that are none
        refine ⟨fun σ' H' => σ' = sgN b c p q rs.length (some (.ref gd)) (some od) (some (.int (i : Int))) (some wr) x9 x10 (some bd) .none ∧ Go Ts b H H', ?_, ?_⟩
        · refine ⟨g12.tabs, fun H13 y13 t13 => ?_⟩
          have g13 := g12.ext y13 t13
          have sv13 := sv12.ext y13
          refine ⟨_, rfl, fun x dx hx hdx ne => make_bad1 sv13.long sv13.kns .non (fun xs e _ _ _ => nomatch e) bad12 hx hdx ne fun d H14 e14 hd14 => ⟨d, rfl, .inr (.inr (.inl ⟨rfl, bd, hd14, .inr ⟨(sv13.same e14).kn, dbd, ⟨(sv13.same e14).dp, obd.sh, obd.nd, obd.d60, obd.line⟩, fun r H15 e15 hr15 => ?_⟩⟩))⟩⟩
          have sv15 := (sv13.same e14).same e15
          refine ⟨_, rfl, _, _, rfl, sv15.dp, obd.sh, obd.nd, obd.d60, obd.line, (by show 3 ≤ sizeLine; decide), fun t10 ht10 => ?_⟩
          refine ⟨r, t10, _, rfl, rfl, sqT_same (same_new ht10) hr15, SqT.of upd_same, items3 (.inl rfl), _, rfl, ?_⟩
          exact iteF ⟨rfl, g13.same ((e14.trans e15).trans (same_new ht10))⟩
        clear sv12
        rintro σ' H13 ⟨rfl, g13⟩
        -- rests that are none
        refine ⟨fun σ' H' => ∃ bd dbd o, σ' = sgN b c p q rs.length (some (.ref gd)) (some od) (some (.int (i : Int))) (some wr) x9 x10 (some bd) .none ∧ Go Ts b H H' ∧ Sv K b H' bd dbd o ∧ restsOk rs.length o = false ∧ OkD 2 20000 dbd, ?_, ?_⟩
        · obtain ⟨t13, hb13⟩ := g13.box
          have hq13 := g13.sqT hb hq
          refine ⟨_, rfl, _, rfl, rs.length, rfl, rfl, l1, l4, ?_⟩
          refine ⟨_, rfl, q, _, rfl, .inr hq13, fun la hla => ?_⟩
          have ela := same_new (o := HO.lst (es.map V.int)) hla
          have ula : upd H13 la (HO.lst (es.map V.int)) la = some (HO.lst (es.map V.int)) := upd_same
          generalize upd H13 la (HO.lst (es.map V.int)) = B0 at *
          refine ⟨(by show 1 ≤ sizeLine; decide), fun lb hlb => ?_⟩
          have elb := same_new (o := HO.lst [.int 0]) hlb
          refine ⟨la, lb, _, _, rfl, rfl, elb _ _ ula, upd_same, ?_, fun lc hlc => ?_⟩
          · rw [List.length_map, ok.le, sizeLine_eq]
            show _ + 1 ≤ _
            omega
          have elc := same_new (o := HO.lst (es.map V.int ++ [.int 0])) hlc
          have ulc : upd (upd B0 lb (HO.lst [.int 0])) lc (HO.lst (es.map V.int ++ [.int 0])) lc = some (HO.lst (es.map V.int ++ [.int 0])) := upd_same
          have f1 := (ela.trans elb).trans elc
          have n1 : H13 lc = none := (ela.trans elb).free hlc
          generalize upd (upd B0 lb (HO.lst [.int 0])) lc (HO.lst (es.map V.int ++ [.int 0])) = G1 at *
          refine ⟨_, rfl, _, rfl, q, _, rfl, sqT_same f1 hq13, fun ax6 Ax6 eax6 hax6 => ?_⟩
          rw [cutE] at hax6
          refine ⟨ax6, _, rfl, .inr hax6, fun bx6 hbx6 => ?_⟩
          have ebx6 := same_new (o := HO.lst ((es.drop 1).map V.int)) hbx6
          have ubx6 : upd Ax6 bx6 (HO.lst ((es.drop 1).map V.int)) bx6 = some (HO.lst ((es.drop 1).map V.int)) := upd_same
          generalize upd Ax6 bx6 (HO.lst ((es.drop 1).map V.int)) = Bx6 at *
          refine ⟨(by show 1 ≤ sizeLine; decide), fun cx6 hcx6 => ?_⟩
          have ecx6 := same_new (o := HO.lst [.int 7]) hcx6
          refine ⟨bx6, cx6, _, _, rfl, rfl, ecx6 _ _ ubx6, upd_same, ?_, fun dx6 hdx6 => ?_⟩
          · rw [List.length_map, List.length_drop, ok.le, sizeLine_eq]
            show _ + 1 ≤ _
            omega
          have edx6 := same_new (o := HO.lst ((es.drop 1).map V.int ++ [.int 7])) hdx6
          have udx6 : upd (upd Bx6 cx6 (HO.lst [.int 7])) dx6 (HO.lst ((es.drop 1).map V.int ++ [.int 7])) dx6 = some (HO.lst ((es.drop 1).map V.int ++ [.int 7])) := upd_same
          have esx6 := (((eax6.trans ebx6).trans ecx6).trans edx6)
          have ndx6 := (((eax6.trans ebx6).trans ecx6).free hdx6)
          generalize upd (upd Bx6 cx6 (HO.lst [.int 7])) dx6 (HO.lst ((es.drop 1).map V.int ++ [.int 7])) = G2 at *
          have f2 := f1.trans esx6
          refine ⟨_, rfl, _, rfl, q, _, rfl, sqT_same f2 hq13, fun ax7 Ax7 eax7 hax7 => ?_⟩
          rw [cutE] at hax7
          refine ⟨ax7, _, rfl, .inr hax7, fun bx7 hbx7 => ?_⟩
          have ebx7 := same_new (o := HO.lst ((es.drop 1).map V.int)) hbx7
          have ubx7 : upd Ax7 bx7 (HO.lst ((es.drop 1).map V.int)) bx7 = some (HO.lst ((es.drop 1).map V.int)) := upd_same
          generalize upd Ax7 bx7 (HO.lst ((es.drop 1).map V.int)) = Bx7 at *
          refine ⟨(by show 1 ≤ sizeLine; decide), fun cx7 hcx7 => ?_⟩
          have ecx7 := same_new (o := HO.lst [.bl true]) hcx7
          refine ⟨bx7, cx7, _, _, rfl, rfl, ecx7 _ _ ubx7, upd_same, ?_, fun dx7 hdx7 => ?_⟩
          · rw [List.length_map, List.length_drop, ok.le, sizeLine_eq]
            show _ + 1 ≤ _
            omega
          have edx7 := same_new (o := HO.lst ((es.drop 1).map V.int ++ [.bl true])) hdx7
          have udx7 : upd (upd Bx7 cx7 (HO.lst [.bl true])) dx7 (HO.lst ((es.drop 1).map V.int ++ [.bl true])) dx7 = some (HO.lst ((es.drop 1).map V.int ++ [.bl true])) := upd_same
          have esx7 := (((eax7.trans ebx7).trans ecx7).trans edx7)
          have ndx7 := (((eax7.trans ebx7).trans ecx7).free hdx7)
          generalize upd (upd Bx7 cx7 (HO.lst [.bl true])) dx7 (HO.lst ((es.drop 1).map V.int ++ [.bl true])) = G3 at *
          have f3 := f2.trans esx7
          refine ⟨_, rfl, _, rfl, q, _, rfl, sqT_same f3 hq13, fun ax8 Ax8 eax8 hax8 => ?_⟩
          rw [cutE] at hax8
          refine ⟨ax8, _, rfl, .inr hax8, fun bx8 hbx8 => ?_⟩
          have ebx8 := same_new (o := HO.lst ((es.drop 1).map V.int)) hbx8
          have ubx8 : upd Ax8 bx8 (HO.lst ((es.drop 1).map V.int)) bx8 = some (HO.lst ((es.drop 1).map V.int)) := upd_same
          generalize upd Ax8 bx8 (HO.lst ((es.drop 1).map V.int)) = Bx8 at *
          refine ⟨(by show 1 ≤ sizeLine; decide), fun cx8 hcx8 => ?_⟩
          have ecx8 := same_new (o := HO.lst [.non]) hcx8
          refine ⟨bx8, cx8, _, _, rfl, rfl, ecx8 _ _ ubx8, upd_same, ?_, fun dx8 hdx8 => ?_⟩
          · rw [List.length_map, List.length_drop, ok.le, sizeLine_eq]
            show _ + 1 ≤ _
            omega
          have edx8 := same_new (o := HO.lst ((es.drop 1).map V.int ++ [.non])) hdx8
          have udx8 : upd (upd Bx8 cx8 (HO.lst [.non])) dx8 (HO.lst ((es.drop 1).map V.int ++ [.non])) dx8 = some (HO.lst ((es.drop 1).map V.int ++ [.non])) := upd_same
          have esx8 := (((eax8.trans ebx8).trans ecx8).trans edx8)
          have ndx8 := (((eax8.trans ebx8).trans ecx8).free hdx8)
          generalize upd (upd Bx8 cx8 (HO.lst [.non])) dx8 (HO.lst ((es.drop 1).map V.int ++ [.non])) = G4 at *
          have f4 := f3.trans esx8
          refine ⟨_, _, rfl, rfl, (by show 1 ≤ sizeLine; decide), fun t9 ht9 => ?_⟩
          have e9 := same_new (o := HO.tup [.int (0 - 1)]) ht9
          refine ⟨_, rfl, t9, rs.length, [.int (0 - 1)], rfl, rfl, SqT.of upd_same, by simp, by omega, (by show 1 ≤ 1000; decide), fun q9 G5 e10 hq9 => ?_⟩
          rw [rep_one] at hq9
          have f5 := (f4.trans e9).trans e10
          refine ⟨(by show 8 ≤ sizeLine; decide), fun l hl => ?_⟩
          have e6 := same_new (o := HO.lst [.non, .int 0, .str (noughts rs.length), .ref lc, .ref dx6, .ref dx7, .ref dx8, .ref q9]) hl
          have hbl := e6 _ _ (f5 _ _ hb13)
          refine ⟨b, l, t13, _, rfl, hbl, (fun z => by rw [z, f5 _ _ hb13] at hl; cases hl), SqL.of upd_same, (by show 0 < 8; decide), (by show 8 < 1073741824; decide), fun bd H14 hbd m14 => ?_⟩
          have g14 := ((g13.same f5).same e6).mv m14
          have nb : ∀ {x : Addr}, H13 x = none → x ≠ b := fun hx z => by rw [z, hb13] at hx; cases hx
          have keep : ∀ {x : Addr} {xs : List V}, H13 x = none → G4 x = some (.lst xs) → SqL K H14 x xs := fun hx q => SqL.of (m14.1 _ _ (nb hx) (e6 _ _ ((e9.trans e10) _ _ q)))
          have nx6 := f1.free ndx6
          have nx7 := f2.free ndx7
          have nx8 := f3.free ndx8
          simp only [List.mem_cons, List.not_mem_nil, or_false] at hbd
          have n4 : rs.length = 1 ∨ rs.length = 2 ∨ rs.length = 3 ∨ rs.length = 4 := by omega
          rcases hbd with rfl | rfl | rfl | rfl | rfl | rfl | rfl | rfl
          · exact ⟨_, _, _, rfl, g14, .flat .non, rfl, okD_non.mono (by decide) (by decide)⟩
          · exact ⟨_, _, _, rfl, g14, .flat (.int _), rfl, (okD_small (by decide)).mono (by decide) (by decide)⟩
          · refine ⟨_, _, _, rfl, g14, .flat (.str _), rfl, (okD_str (L := 20000) ?_).mono (by decide) (by decide)⟩
            rcases n4 with z | z | z | z <;> rw [z] <;> decide +kernel
          · exact ⟨_, _, _, rfl, g14, .lst (nb n1) (keep n1 (((esx6.trans esx7).trans esx8) _ _ ulc)) (fls_snoc (.int _)), rests_long (by rw [List.length_append, List.length_map, ok.le]; rfl), okD_flats smE (by rw [ok.le]; omega) ((okD_small (by decide)).mono (Nat.le_refl _) (by decide))⟩
          · exact ⟨_, _, _, rfl, g14, .lst (nb nx6) (keep nx6 ((esx7.trans esx8) _ _ udx6)) (fls_snoc (.int _)), rests_bad last_mem (no_bel fun i h => by cases h; exact .inr (by decide)), okD_flats (fun n hn => smE n (List.mem_of_mem_drop hn)) lE ((okD_small (by decide)).mono (Nat.le_refl _) (by decide))⟩
          · exact ⟨_, _, _, rfl, g14, .lst (nb nx7) (keep nx7 (esx8 _ _ udx7)) (fls_snoc (.bl _)), rests_bad last_mem rfl, okD_flats (fun n hn => smE n (List.mem_of_mem_drop hn)) lE ((okD_bl _).mono (Nat.le_refl _) (by decide))⟩
          · exact ⟨_, _, _, rfl, g14, .lst (nb nx8) (keep nx8 udx8) (fls_snoc .non), rests_bad last_mem rfl, okD_flats (fun n hn => smE n (List.mem_of_mem_drop hn)) lE (okD_non.mono (Nat.le_refl _) (by decide))⟩
          · refine ⟨_, _, _, rfl, g14, .tup (m14.sqT hbl (sqT_same e6 hq9)) (fls_ints _), rests_bad (v := .int (0 - 1)) (List.mem_map.mpr ⟨_, List.mem_replicate.mpr ⟨by omega, rfl⟩, rfl⟩) (no_bel fun i h => by cases h; exact .inl (by decide)), (okD_tuple (m := 0) (okA_ints (ns := List.replicate rs.length (0 - 1)) fun n hn => ?_)).mono (by decide) ?_⟩
            · rw [List.eq_of_mem_replicate hn]
              decide
            · rw [List.length_replicate]
              omega
        rintro σ' H14 ⟨bd, dbd, o, rfl, g14, sv14, bad14, obd⟩
        refine ⟨fun σ' H' => σ' = sgN b c p q rs.length (some (.ref gd)) (some od) (some (.int (i : Int))) (some wr) x9 x10 (some bd) .none ∧ Go Ts b H H', ?_, ?_⟩
        · refine ⟨g14.tabs, fun H15 y15 t15 => ?_⟩
          have g15 := g14.ext y15 t15
          have sv15 := sv14.ext y15
          have hp15 := g15.sqT hb hp
          refine ⟨_, rfl, _, rfl, fun x dx hx hdx ne => make_bad2 ok (.seq (.inr hp15)) sv15.long sv15.kns bad14 hx hdx ne fun d H16 e16 hd16 => ⟨d, rfl, .inr (.inr (.inl ⟨rfl, bd, hd16, .inr ⟨(sv15.same e16).kn, dbd, ⟨(sv15.same e16).dp, obd.sh, obd.nd, obd.d60, obd.line⟩, fun r H17 e17 hr17 => ?_⟩⟩))⟩⟩
          have sv17 := (sv15.same e16).same e17
          refine ⟨_, rfl, _, _, rfl, sv17.dp, obd.sh, obd.nd, obd.d60, obd.line, (by show 3 ≤ sizeLine; decide), fun t10 ht10 => ?_⟩
          refine ⟨r, t10, _, rfl, rfl, sqT_same (same_new ht10) hr17, SqT.of upd_same, items3 (.inl rfl), _, rfl, ?_⟩
          exact iteF ⟨rfl, g15.same ((e16.trans e17).trans (same_new ht10))⟩
        clear sv14
        rintro σ' H15 ⟨rfl, g15⟩
        -- machines of other kinds
        have mkM : ∀ (kk : Nat) (G : Hp) (tz lz x dx : Addr), 1 ≤ kk → kk ≤ 4 → SqT K G tz [.int 0] → G lz = some (.lst (List.replicate kk (.ref tz))) → G x = none → G dx = none → dx ≠ x → ∀ (Q' : Hp → Prop), (∀ H' tb, Same G H' → H' x = some (.ins CM dx [("deeds", .int (kk : Int)), ("states", .int 1), ("tables", .ref tb)]) → Q' H') →
            spMachine K CM [.ref x, .ref lz] (upd (upd G dx (.own x)) x (.ins CM dx [])) (fun v H2 => v = .non ∧ Q' H2) E0 := fun kk G tz lz x dx k1 k4 ht hl hx hd ne Q' q' => by
          have e := new_ins (C := CM) hx hd ne
          exact ⟨x, dx, lz, tz, kk, rfl, upd_same, SqL.of (e _ _ hl), sqT_same e ht, k1, k4, fun tb H' keep hx' => ⟨rfl, q' H' tb (fun c o hc => keep c o (ne_of_none hc hx) (e _ _ hc)) hx'⟩⟩
        refine ⟨fun σ' H' => ∃ (m dm tb : Addr) (kk : Nat), σ' = sgN b c p q rs.length (some (.ref gd)) (some od) (some (.int (i : Int))) (some wr) x9 x10 (some bd) (some (.ref m)) ∧ Go Ts b H H' ∧ rs.length ≠ kk ∧ H' m = some (.ins CM dm [("deeds", .int (kk : Int)), ("states", .int 1), ("tables", .ref tb)]), ?_, ?_⟩
        · refine ⟨(by show 1 ≤ sizeLine; decide), fun tz htz => ⟨(by show 1 ≤ sizeLine; decide), fun lz hlz => ?_⟩⟩
          have e1 := same_new (o := HO.tup [.int 0]) htz
          have u1 : upd H15 tz (HO.tup [.int 0]) tz = some (HO.tup [.int 0]) := upd_same
          generalize upd H15 tz (HO.tup [.int 0]) = G1 at *
          have e2 := same_new (o := HO.lst [.ref tz]) hlz
          have u2 : upd G1 lz (HO.lst [.ref tz]) lz = some (HO.lst [.ref tz]) := upd_same
          generalize upd G1 lz (HO.lst [.ref tz]) = G2 at *
          obtain ⟨kk, ek, k1, k4, kne⟩ : ∃ kk : Nat, (if rs.length < 4 then (rs.length : Int) + 1 else 3) = (kk : Int) ∧ 1 ≤ kk ∧ kk ≤ 4 ∧ rs.length ≠ kk := by
            by_cases z : rs.length < 4
            · exact ⟨rs.length + 1, by rw [if_pos z]; rfl, by omega, by omega, by omega⟩
            · exact ⟨3, by rw [if_neg z]; rfl, by decide, by decide, by omega⟩
          have fin : ∀ lw, G2 lw = none → ∀ x dx, upd G2 lw (.lst (List.replicate kk (.ref tz))) x = none → upd G2 lw (.lst (List.replicate kk (.ref tz))) dx = none → dx ≠ x → spMachine K CM [.ref x, .ref lw] (upd (upd (upd G2 lw (.lst (List.replicate kk (.ref tz)))) dx (.own x)) x (.ins CM dx []))
              (fun v H2 => v = .non ∧ ∃ (m dm tb : Addr) (kk : Nat), sgN b c p q rs.length (some (.ref gd)) (some od) (some (.int (i : Int))) (some wr) x9 x10 (some bd) (some (.ref x)) = sgN b c p q rs.length (some (.ref gd)) (some od) (some (.int (i : Int))) (some wr) x9 x10 (some bd) (some (.ref m)) ∧ Go Ts b H H2 ∧ rs.length ≠ kk ∧ H2 m = some (.ins CM dm [("deeds", .int (kk : Int)), ("states", .int 1), ("tables", .ref tb)])) E0 := fun lw hlw x dx hx hdx ne =>
            mkM kk _ tz lw x dx k1 k4 (SqT.of ((e2.trans (same_new hlw)) _ _ u1)) upd_same hx hdx ne _ fun H' tb e' hx' => ⟨x, dx, tb, kk, rfl, g15.same (((e1.trans e2).trans (same_new hlw)).trans e'), kne, hx'⟩
          refine ⟨_, rfl, _, _, rfl, rfl, _, rfl, ?_⟩
          refine ite2 (fun h => ?_) (fun h => ?_)
          · have z : rs.length < 4 := by
              have := of_decide_eq_true h
              omega
            rw [if_pos z] at ek
            refine ⟨_, rfl, _, _, rfl, rfl, ?_⟩
            refine ⟨lz, _, _, rfl, rfl, u2, by omega, by omega, ?_, fun lw hlw => ?_⟩
            · show 1 * _ ≤ _
              rw [sizeLine_eq]
              omega
            · have ef : (List.replicate ((rs.length : Int) + 1).toNat [V.ref tz]).flatten = List.replicate kk (V.ref tz) := by rw [ek, Int.toNat_natCast, List.flatten_replicate_singleton]
              rw [ef]
              exact fun x dx hx hdx ne => fin lw hlw x dx hx hdx ne
          · have z : ¬ rs.length < 4 := fun z => h (decide_eq_true (by omega))
            rw [if_neg z] at ek
            refine ⟨lz, _, _, rfl, rfl, u2, by decide, by decide, (by show 3 ≤ sizeLine; decide), fun lw hlw => ?_⟩
            have ef : (List.replicate (3 : Int).toNat [V.ref tz]).flatten = List.replicate kk (V.ref tz) := by rw [ek, Int.toNat_natCast, List.flatten_replicate_singleton]
            rw [ef]
            exact fun x dx hx hdx ne => fin lw hlw x dx hx hdx ne
        rintro σ' H16 ⟨m, dm, tb, kk, rfl, g16, kne, hm16⟩
        refine ⟨g16.tabs, fun H17 y17 t17 => ?_⟩
        have g17 := g16.ext y17 t17
        have hc17 := g17.cn hb hc
        have hm17 := y17 _ _ hm16 (fun _ z => nomatch z)
        refine ⟨_, rfl, _, rfl, m, c, dm, _, kk, rs, es, rfl, hm17, TM.cl, TM.n1, rfl, hc17, fun _ d H18 e18 hd18 => ⟨d, rfl, .inr (.inr (.inl ⟨rfl, _, hd18, .inl ⟨c, rs, es, rfl, hc17.same e18, fun r H19 e19 hr19 => ?_⟩⟩))⟩, fun z => absurd z kne⟩
        refine ⟨_, rfl, (by show 3 ≤ sizeLine; decide), fun t10 ht10 => ?_⟩
        have e20 := (e18.trans e19).trans (same_new (o := HO.tup [.str "refused", .ref c, .bl true]) ht10)
        refine ⟨r, t10, _, rfl, rfl, sqT_same (same_new ht10) hr19, SqT.of upd_same, items3 (.inr ⟨_, rfl⟩), true, rfl, iteT ?_⟩
        have g20 := g17.same e20
        have hc20 := hc17.same e20
        generalize upd H19 t10 (HO.tup [.str "refused", .ref c, .bl true]) = H20 at *
        refine ⟨_, rfl, (by show 1 ≤ sizeLine; decide), fun tz htz => ⟨(by show 1 ≤ sizeLine; decide), fun lz hlz => ?_⟩⟩
        have e1 := same_new (o := HO.tup [.int 0]) htz
        have u1 : upd H20 tz (HO.tup [.int 0]) tz = some (HO.tup [.int 0]) := upd_same
        generalize upd H20 tz (HO.tup [.int 0]) = G1 at *
        have e2 := same_new (o := HO.lst [.ref tz]) hlz
        have u2 : upd G1 lz (HO.lst [.ref tz]) lz = some (HO.lst [.ref tz]) := upd_same
        generalize upd G1 lz (HO.lst [.ref tz]) = G2 at *
        refine ⟨_, rfl, lz, _, _, rfl, rfl, u2, by omega, by omega, ?_, fun lw hlw => ?_⟩
        · show 1 * _ ≤ _
          rw [sizeLine_eq]
          omega
        have ef : (List.replicate (rs.length : Int).toNat [V.ref tz]).flatten = List.replicate rs.length (V.ref tz) := by rw [Int.toNat_natCast, List.flatten_replicate_singleton]
        rw [ef]
        have e3 := same_new (o := HO.lst (List.replicate rs.length (.ref tz))) hlw
        refine fun x dx hx hdx ne => mkM rs.length _ tz lw x dx l1 l4 (SqT.of ((e2.trans e3) _ _ u1)) upd_same hx hdx ne _ fun H21 tb2 e21 hx21 => ?_
        have e201 := ((e1.trans e2).trans e3).trans e21
        refine ⟨rfl, rfl, x, c, dx, _, rs.length, rs, es, rfl, hx21, TM.cl, TM.n1, rfl, hc20.same e201, fun z => absurd rfl z, fun _ => ?_⟩
        refine ⟨_, rfl, c, c, rs, es, rs, es, rfl, rfl, hc20.same e201, hc20.same e201, fun H22 e22 => ?_⟩
        rw [decide_eq_true ⟨rfl, rfl⟩]
        exact k _ ((g20.same e201).same e22)
end
end K3
/-! the law -/
namespace K3
open PySem PySem.Spec PyProof.Rows L2 Kx RZ
abbrev sgL (a : Addr) (x1 x2 x3 x4 x5 x6 x7 : Option V) : L2.St := [some (.ref a), x1, x2, x3, x4, x5, x6, x7, .none, .none]
theorem Go.lst {Ts : List (Addr × Str)} {b l : Addr} {H H' : Hp} {u u' : List V} (g : Go Ts b H H') (h0 : H l = .none) (ne : l ≠ b) (h1 : H' l = some (.lst u)) : Go Ts b H (L2.upd H' l (.lst u')) := by
  refine ⟨fun c o n1 n2 q => ?_, ?_, fun p hp => ?_⟩
  · rw [upd_ne (ne_of_none q h0)]
    exact g.keep c o n1 n2 q
  · obtain ⟨t, ht⟩ := g.box
    exact ⟨t, by rw [upd_ne (Ne.symm ne)]; exact ht⟩
  · obtain ⟨ps, h2, h3, h4⟩ := g.tabs p hp
    refine ⟨ps, by rw [upd_ne (ne_of h2 h1 (fun z => nomatch z))]; exact h2, h3, fun pos cv hcv => ?_⟩
    obtain ⟨c, e1, e2⟩ := h4 pos cv hcv
    refine ⟨c, e1, ?_⟩
    rw [upd_ne (ne_of e2 h1 (fun z => ?_))]
    · exact e2
    · unfold LamX.CodeO at z
      cases z
theorem cn_lst {K : PySem.W.Frag} {C c l : Addr} {H : Hp} {u u' : List V} {rs es : List Int} (hl : H l = some (.lst u)) (h : CnAt K C H c rs es) : CnAt K C (upd H l (.lst u')) c rs es := by
  obtain ⟨ok, dx, p, q, h1, h2, h3⟩ := h
  exact ⟨ok, dx, p, q, by rw [upd_ne (ne_of h1 hl (fun z => nomatch z))]; exact h1, sqT_lst hl h2, sqT_lst hl h3⟩
/-- the script stays -/
theorem script_keeps {K : PySem.W.Frag} {Ts : List (Addr × Str)} {a b : Addr} {xs : List V} {H H1 H' : Hp} (e : Same H H1) (n : H b = none) (g : Go Ts b H1 H') (h : SqL K H a xs) : SqL K H' a xs := by
  rcases h with (h | ⟨z, h⟩) | h
  · exact .inl (.inl (g.keep _ _ (ne_of_none h n) (fun _ z => nomatch z) (e _ _ h)))
  · exact .inl (.inr ⟨z, g.keep _ _ (ne_of_none h n) (fun _ z => nomatch z) (e _ _ h)⟩)
  · exact .inr h
theorem turned_ne {rs : List Int} (h1 : 1 ≤ rs.length) (h4 : rs.length ≤ 4) (hr : ∀ x ∈ rs, 0 ≤ x ∧ x ≤ 60) : rs ≠ rs.drop 1 ++ [(rs.getD 0 0 + 1) % 61] := by
  intro e
  match rs, h1, h4, hr, e with
  | [x], _, _, hr, e =>
    have := hr x (by simp)
    simp at e
    omega
  | [x, y], _, _, hr, e =>
    have := hr x (by simp)
    simp at e
    omega
  | [x, y, z], _, _, hr, e =>
    have := hr x (by simp)
    simp at e
    omega
  | [x, y, z, u], _, _, hr, e =>
    have := hr x (by simp)
    simp at e
    omega
theorem cok_turned {rs es : List Int} (ok : Cok rs es) : Cok (rs.drop 1 ++ [(rs.getD 0 0 + 1) % 61]) es := by
  have l : (rs.drop 1 ++ [(rs.getD 0 0 + 1) % 61]).length = rs.length := by
    have := ok.l1
    rw [List.length_append, List.length_drop]
    show _ - 1 + 1 = _
    omega
  refine ⟨by rw [l]; exact ok.l1, by rw [l]; exact ok.l4, by rw [l]; exact ok.le, fun x hx => ?_, ok.e⟩
  rcases List.mem_append.mp hx with h | h
  · exact ok.r x (List.mem_of_mem_drop h)
  · rw [List.mem_singleton.mp h]
    omega
theorem cok_sixes {rs es : List Int} (ok : Cok rs es) : Cok rs (es.map fun e => 6 - e) := by
  refine ⟨ok.l1, ok.l4, by rw [List.length_map]; exact ok.le, ok.r, fun x hx => ?_⟩
  obtain ⟨e, he, rfl⟩ := List.mem_map.mp hx
  have := ok.e e he
  omega
theorem threes {es : List Int} (h : es = es.map fun e => 6 - e) : es = List.replicate es.length 3 := by
  refine List.eq_replicate_of_mem fun x hx => ?_
  rcases List.getElem_of_mem hx with ⟨i, hi, rfl⟩
  have := congrArg (fun l => l[i]?) h
  simp only [List.getElem?_map, List.getElem?_eq_getElem hi, Option.map_some, Option.some.injEq] at this
  omega
theorem cok_plain {rs : List Int} (h1 : 1 ≤ rs.length) (h4 : rs.length ≤ 4) (hr : ∀ x ∈ rs, 0 ≤ x ∧ x ≤ 60) : Cok rs (List.replicate rs.length 0) := ⟨h1, h4, List.length_replicate, hr, fun x hx => by rw [List.eq_of_mem_replicate hx]; decide⟩
def spLaw (K : PySem.W.Frag) (Ts : List (Addr × Str)) : Sp := fun vs H Q _ => ∃ (a : Addr) (ns : List Int), vs = [.ref a] ∧ SqL K H a (ns.map V.int) ∧ ns.length ≤ 63 ∧ LamX.Tabs Ts H ∧ ∀ H', Q (.bl true) H'
section
variable {P : Program} {w : World} {K : PySem.W.Frag} {mg : Str → Option Value} {base : Heap} {f : Addr} {fd : FuncData} {a : Ad} {C CM cW t0 : Addr} {Ts : List (Addr × Str)}
theorem sc_law : FnScope ["script", "k", "box", "kinds", "rounds", "rests", "handed", "counters", "kind", "rest"] ["script"] (defScope s_law) := ⟨rfl, rfl, rfl, by decide +kernel, rfl, by decide +kernel, by decide +kernel⟩
theorem ok_law (F : FnP K "law" s_law f fd) (T : Mg mg) (TC : ClsC K mg C) (B : Fns P w K mg base a C CM) (M : Mks P w K mg base a C CM t0) (c_row : CalG P w K mg base CX0 6 "_law_row_right" ["box", "counters", "rounds", "rests"] (spRowRight K C))
    (c_all : CalG P w K mg base CX0 9 "_law_all_right" ["counters", "rounds", "rests"] (spAllRight K C Ts)) (c_none : CalG P w K mg base CX0 9 "_law_none_right" ["box", "counters", "rounds", "rests"] (spNoneRight K C Ts)) (c_wide : Cal P w K mg base CX0 7 "_law_wide_right" ["box"] (spWideRight K)) :
    FnG P w K mg base CX0 10 f fd ["script"] (spLaw K Ts) := by
  refine okG F sc_law (fun vs H Q E h => ?_) (fun cdv A outer s H vs Q E lone _ hr h => ?_)
  · obtain ⟨a, ns, rfl, _⟩ := h
    rfl
  · obtain ⟨sc, ns, rfl, hs, hl, ht, k⟩ := h
    have cs : CallR (cxOf CX0 P w K mg base ["script", "k", "box", "kinds", "rounds", "rests", "handed", "counters", "kind", "rest"] "law" (defScope s_law) f cdv A outer s H E).nox (.builtin "repr") (rShow K) := call_show lone (r64 hr)
    refine ⟨_, PSs.nox (pss_cons (ps_mid (ps_for PassesOwn.never rfl (pi_range1 (by rfl) T.z_range (pa_cons pe_int pa_nil)) (pg_name (i := 1) sc_law.nd rfl (by first | exact Or.inl rfl | exact Or.inr rfl))
      (pss_cons (ps_set (i := 2) sc_law.nd rfl (by first | exact Or.inl rfl | exact Or.inr rfl) (pe_callC B.box hr pass0 (pa_cons (pv 0) (pa_cons (pv 1) pa_nil))))
      (pss_cons (ps_set (i := 3) sc_law.nd rfl (by first | exact Or.inl rfl | exact Or.inr rfl) (pe_op op_add pe_int (pe_callC B.take hr pass0 (pa_cons (pv 2) (pa_cons pe_int pa_nil)))))
      (pss_cons (ps_mid (ps_set (i := 4) sc_law.nd rfl (by first | exact Or.inl rfl | exact Or.inr rfl) (pe_callTy call_tup (by rfl) T.z_tuple (by decide +kernel) (pa_cons (pe_lc (own := [("kind", 8)]) (by rfl) sc_law.nd (pi_range1 (by rfl) T.z_range (pa_cons (pv 3) pa_nil)) (blkOk_by (own := [("kind", 8)]) (N := ["script", "k", "box", "kinds", "rounds", "rests", "handed", "counters", "kind", "rest"]) (sc := defScope s_law) (by decide +kernel)) (fun _ _ _ _ _ => (pg_name (i := 8) sc_law.nd rfl (by first | exact Or.inl rfl | exact Or.inr rfl))) (fun _ _ _ _ _ => pts_nil) (fun _ _ _ _ _ => (pe_callC B.pick hr pass0 (pa_cons (pv 2) (pa_cons (pe_lst (pa_cons pe_int (pa_cons pe_int (pa_cons pe_int (pa_cons pe_int (pa_cons (pe_op op_add pe_int (pe_callC B.take hr pass0 (pa_cons (pv 2) (pa_cons pe_int pa_nil)))) pa_nil)))))) pa_nil))))) pa_nil))))
      (pss_cons (ps_mid (ps_set (i := 5) sc_law.nd rfl (by first | exact Or.inl rfl | exact Or.inr rfl) (pe_callTy call_tup (by rfl) T.z_tuple (by decide +kernel) (pa_cons (pe_lc (own := [("kind", 8)]) (by rfl) sc_law.nd (pi_range1 (by rfl) T.z_range (pa_cons (pv 3) pa_nil)) (blkOk_by (own := [("kind", 8)]) (N := ["script", "k", "box", "kinds", "rounds", "rests", "handed", "counters", "kind", "rest"]) (sc := defScope s_law) (by decide +kernel)) (fun _ _ _ _ _ => (pg_name (i := 8) sc_law.nd rfl (by first | exact Or.inl rfl | exact Or.inr rfl))) (fun _ _ _ _ _ => pts_nil) (fun _ _ _ _ _ => (pe_callC B.pick hr pass0 (pa_cons (pv 2) (pa_cons (pe_lst (pa_cons pe_int (pa_cons pe_int (pa_cons pe_int (pa_cons (pe_callC B.take hr pass0 (pa_cons (pv 2) (pa_cons pe_int pa_nil))) pa_nil))))) pa_nil))))) pa_nil))))
      (pss_cons (ps_set (i := 6) sc_law.nd rfl (by first | exact Or.inl rfl | exact Or.inr rfl) (pe_callTy call_list_of (by rfl) T.z_list (by decide +kernel) (pa_cons (pv 4) pa_nil)))
      (pss_cons (ps_mid (ps_set (i := 7) sc_law.nd rfl (by first | exact Or.inl rfl | exact Or.inr rfl) (pe_ifExp (pt_cmpR op_eq (pe_callC B.take hr pass0 (pa_cons (pv 2) (pa_cons pe_int pa_nil))) pe_int (nomark _)) (pe_cnt2 (K := K) M TC hr pz (pa_cons (pv 6) (pa_cons (pe_callTy call_list_of (by rfl) T.z_list (by decide +kernel) (pa_cons (pv 5) pa_nil)) pa_nil))) (pe_cntK M TC hr pz (pk_cons (pv 5) (pk_cons (pv 6) pk_nil))))))
      (pss_cons (ps_mid (ps_expr (pe_bm PySem.F.plainAttrs_list PySem.F.slot_list_append PySem.F.type_list_append mt_append (pv 6) (pa_cons pe_int pa_nil))))
      (pss_cons (ps_mid (ps_if (PW.pt (pw_or (pt_cmpR op_ne (pe_callB cs (by rfl) T.z_repr (by decide +kernel) (pa_cons (pe_lst (pa_cons (pe_fld (pv 7) rfl) (pa_cons (pe_fld (pv 7) rfl) pa_nil))) pa_nil)) (pe_callB cs (by rfl) T.z_repr (by decide +kernel) (pa_cons (pe_lst (pa_cons (pv 4) (pa_cons (pv 5) pa_nil))) pa_nil)) (nomark _)) (pw_or (pt_cmpR (op_neCn M hr) (pv 7) (pe_cnt2 (K := K) M TC hr pz (pa_cons (pv 4) (pa_cons (pv 5) pa_nil))) (nomark _)) (pw_or1 (pt_cmpR (op_eqCnT M TC hr) (pv 7) (pv 4) (nomark _))))))
        (pss_one (ps_ret pe_bl))
        pss_nil))
      (pss_cons (ps_mid (ps_if (pt_cmpR (op_eqCn M hr) (pv 7) (pe_cnt2 (K := K) M TC hr pz (pa_cons (pe_op (op_catS (K := K)) (pe_slice (sl_cut (K := K)) (pv 4) (po_some pe_int) po_none) (pe_tup (pa_cons (pe_op op_mod (pe_callTy call_int1 (by rfl) T.z_int (by decide +kernel) (pa_cons (pe_op op_add (pe_ix ix_tup (pv 4) pe_int (fun _ _ => rfl)) pe_int) pa_nil)) pe_int) pa_nil))) (pa_cons (pv 5) pa_nil))) (nomark _))
        (pss_one (ps_ret pe_bl))
        pss_nil))
      (pss_cons (ps_mid (ps_if (PW.pt (pw_and (pt_cmpR (op_eqCn M hr) (pv 7) (pe_cnt2 (K := K) M TC hr pz (pa_cons (pv 4) (pa_cons (pe_callTy call_tup (by rfl) T.z_tuple (by decide +kernel) (pa_cons (pe_lc (own := [("rest", 9)]) (by rfl) sc_law.nd (pi_tup (pv 5)) (blkOk_by (own := [("rest", 9)]) (N := ["script", "k", "box", "kinds", "rounds", "rests", "handed", "counters", "kind", "rest"]) (sc := defScope s_law) (by decide +kernel)) (fun _ _ _ _ _ => (pg_name (i := 9) sc_law.nd rfl (by first | exact Or.inl rfl | exact Or.inr rfl))) (fun _ _ _ _ _ => pts_nil) (fun _ _ _ _ _ => (pe_op op_sub pe_int (pv 9)))) pa_nil)) pa_nil))) (nomark _)) (pw_and1 (pt_cmpR (op_neNums (r64 hr)) (pv 5) (pe_op op_times (pe_tup (pa_cons pe_int pa_nil)) (pv 3)) (nomark _)))))
        (pss_one (ps_ret pe_bl))
        pss_nil))
      (pss_cons (ps_mid (ps_if (pt_cmpR (op_neNums (r64 hr)) (pe_fld (pe_cnt2 (K := K) M TC hr pz (pa_cons (pv 4) (pa_cons (pe_lst pa_nil) pa_nil))) rfl) (pe_op op_times (pe_tup (pa_cons pe_int pa_nil)) (pv 3)) (nomark _))
        (pss_one (ps_ret pe_bl))
        pss_nil))
      (pss_cons (ps_mid (ps_if (pt_cmpR (op_neCn M hr) (pe_cnt1 M TC hr pz (pa_cons (pv 4) pa_nil)) (pe_cnt2 (K := K) M TC hr pz (pa_cons (pv 4) (pa_cons (pe_op op_times (pe_tup (pa_cons pe_int pa_nil)) (pv 3)) pa_nil))) (nomark _))
        (pss_one (ps_ret pe_bl))
        pss_nil))
      (pss_cons (ps_mid (ps_if (pt_not (pt_val (pe_callG c_row hr lone pass0 (pa_cons (pv 2) (pa_cons (pv 7) (pa_cons (pv 4) (pa_cons (pv 5) pa_nil)))))))
        (pss_one (ps_ret pe_bl))
        pss_nil))
      (pss_cons (ps_mid (ps_if (pt_not (pt_val (pe_callG c_all hr lone pass0 (pa_cons (pv 7) (pa_cons (pv 4) (pa_cons (pv 5) pa_nil))))))
        (pss_one (ps_ret pe_bl))
        pss_nil))
      (pss_one (ps_if (pt_not (pt_val (pe_callG c_none hr lone pass0 (pa_cons (pv 2) (pa_cons (pv 7) (pa_cons (pv 4) (pa_cons (pv 5) pa_nil)))))))
        (pss_one (ps_ret pe_bl))
        pss_nil))))))))))))))))))
      (pss_cons (ps_set (i := 2) sc_law.nd rfl (by first | exact Or.inl rfl | exact Or.inr rfl) (pe_callC B.box hr pass0 (pa_cons (pv 0) (pa_cons pe_int pa_nil))))
      (pss_cons (ps_mid (ps_if (PW.pt (pw_and (pt_cmpR op_eq (pe_callC B.take hr pass0 (pa_cons (pv 2) (pa_cons pe_int pa_nil))) pe_int (nomark _)) (pw_and1 (pt_not (pt_val (pe_callC c_wide hr pass0 (pa_cons (pv 2) pa_nil)))))))
        (pss_one (ps_ret pe_bl))
        pss_nil))
      (pss_one (ps_ret (pe_cmpR op_eq (pe_callB call_len_seq (by rfl) T.z_len PySem.boot_len (pa_cons (pe_callC B.shown hr pz (pa_cons (pe_cnt1 M TC hr pz (pa_cons (pe_op op_times (pe_tup (pa_cons pe_int pa_nil)) pe_int) pa_nil)) (pa_cons (pe_op op_rep (pe_lst (pa_cons pe_int pa_nil)) pe_int) pa_nil))) pa_nil)) pe_int (nomark _))))))), ?_⟩
    refine ⟨fun σ' H' => ∃ x1 x2 x3 x4 x5 x6 x7, σ' = sgL sc x1 x2 x3 x4 x5 x6 x7 ∧ SqL K H' sc (ns.map V.int) ∧ LamX.Tabs Ts H', ?_, ?_⟩
    · refine ⟨4, rfl, by decide, by decide, for_range (lo := 0) (n := 4) (fun i σ' H' => ∃ x1 x2 x3 x4 x5 x6 x7, σ' = sgL sc x1 x2 x3 x4 x5 x6 x7 ∧ SqL K H' sc (ns.map V.int) ∧ LamX.Tabs Ts H') ⟨.none, .none, .none, .none, .none, .none, .none, rfl, hs, ht⟩ ?_ ?_⟩
      · rintro i σ' H0 hi ⟨x1, x2, x3, x4, x5, x6, x7, rfl, hs0, ht0⟩
        have i0 : (0 : Int) + (i : Int) = (i : Int) := Int.zero_add _
        rw [i0]
        refine ⟨_, rfl, _, rfl, sc, ns, i, rfl, hs0, hl, fun H1 b t1 e1 nb hb1 => ?_⟩
        have ht1 := ht0.ext e1
        refine ⟨_, rfl, b, t1, 4, rfl, hb1, by decide, by decide, fun r H2 r0 r1 m2 => ⟨_, _, rfl, rfl, ?_⟩⟩
        obtain ⟨n, hn, n1, n4⟩ : ∃ n : Nat, 1 + r = (n : Int) ∧ 1 ≤ n ∧ n ≤ 4 := ⟨(1 + r).toNat, by omega, by omega, by omega⟩
        change gName 3 (V.int (1 + r)) _ _ _
        rw [hn]
        -- rounds
        refine ⟨fun σ' H' => ∃ (p : Addr) (rs : List Int), σ' = sgL sc (some (.int (i : Int))) (some (.ref b)) (some (.int (n : Int))) (some (.ref p)) x5 x6 x7 ∧ Mv b H1 H' ∧ SqT K H' p (rs.map V.int) ∧ rs.length = n ∧ ∀ x ∈ rs, 0 ≤ x ∧ x ≤ 60, ?_, ?_⟩
        · refine ⟨_, rfl, _, rfl, by omega, by omega, fun D hD => ?_⟩
          obtain ⟨nD, Db⟩ := m2.none hD
          refine lc_range (lo := 0) (n := n) (fun j H' => ∃ rs : List Int, rs.length = j ∧ (∀ x ∈ rs, 0 ≤ x ∧ x ≤ 60) ∧ H' D = some (.lst (rs.map V.int)) ∧ Mv b H1 H') ⟨[], rfl, (fun x hx => nomatch hx), upd_same, m2.put nD Db⟩ ?_ ?_
          · rintro j H3 hj ⟨rs, hl3, hrs, hD3, m3⟩
            have hj : j < n := hj
            obtain ⟨t3, hb3⟩ := m3.2
            refine ⟨rfl, yes ((if_pos rfl).mpr ?_)⟩
            refine ⟨_, rfl, _, rfl, b, t3, 60, rfl, hb3, by decide, by decide, fun r4 H4 r40 r41 m4 => ⟨_, _, rfl, rfl, (by show 5 ≤ sizeLine; decide), fun l hl5 => ?_⟩⟩
            obtain ⟨t4, hb4⟩ := m4.2
            have e5 := same_new (o := HO.lst [.int 0, .int 1, .int 2, .int 3, .int (1 + r4)]) hl5
            refine ⟨b, l, t4, _, rfl, e5 _ _ hb4, (fun z => by rw [z, hb4] at hl5; cases hl5), SqL.of upd_same, (by show 0 < 5; decide), (by show 5 < 1073741824; decide), fun v H6 hv m6 => ?_⟩
            obtain ⟨x, rfl, hx⟩ : ∃ x : Int, v = .int x ∧ 0 ≤ x ∧ x ≤ 60 := by
              simp only [List.mem_cons, List.not_mem_nil, or_false] at hv
              rcases hv with rfl | rfl | rfl | rfl | rfl
              · exact ⟨0, rfl, by decide⟩
              · exact ⟨1, rfl, by decide⟩
              · exact ⟨2, rfl, by decide⟩
              · exact ⟨3, rfl, by decide⟩
              · exact ⟨1 + r4, rfl, by omega⟩
            have hD6 := m6.1 _ _ Db (e5 _ _ (m4.1 _ _ Db hD3))
            refine ⟨_, hD6, by rw [List.length_map, sizeLine_eq]; omega, rs ++ [x], ?_, ?_, ?_, ?_⟩
            · rw [List.length_append, hl3]
              rfl
            · intro z hz
              rcases List.mem_append.mp hz with hz | hz
              · exact hrs z hz
              · rw [List.mem_singleton.mp hz]
                exact hx
            · rw [upd_same, List.map_append]
              rfl
            · exact (((m3.trans m4).same e5).trans m6).put nD Db
          · rintro H3 ⟨rs, hl3, hrs, hD3, m3⟩
            refine ⟨D, _, rfl, .inl (SqL.of hD3), fun p H4 e4 hp => ?_⟩
            exact ⟨p, rs, rfl, m3.same e4, hp, hl3, hrs⟩
        rintro σ' H3 ⟨p, rs, rfl, m3, hp3, lrs, hrs⟩
        -- rests
        refine ⟨fun σ' H' => ∃ (q : Addr) (es : List Int), σ' = sgL sc (some (.int (i : Int))) (some (.ref b)) (some (.int (n : Int))) (some (.ref p)) (some (.ref q)) x6 x7 ∧ Mv b H1 H' ∧ SqT K H' p (rs.map V.int) ∧ SqT K H' q (es.map V.int) ∧ Cok rs es, ?_, ?_⟩
        · obtain ⟨t3', hb3'⟩ := m3.2
          refine ⟨_, rfl, _, rfl, by omega, by omega, fun D hD => ?_⟩
          obtain ⟨nD, Db⟩ := m3.none hD
          refine lc_range (lo := 0) (n := n) (fun j H' => ∃ es : List Int, es.length = j ∧ (∀ x ∈ es, 0 ≤ x ∧ x ≤ 6) ∧ H' D = some (.lst (es.map V.int)) ∧ Mv b H1 H' ∧ SqT K H' p (rs.map V.int)) ⟨[], rfl, (fun x hx => nomatch hx), upd_same, m3.put nD Db, sqT_same (same_new hD) hp3⟩ ?_ ?_
          · rintro j H3 hj ⟨es, hl3, hes, hD3, m3, hp3⟩
            have hj : j < n := hj
            obtain ⟨t3, hb3⟩ := m3.2
            refine ⟨rfl, yes ((if_pos rfl).mpr ?_)⟩
            refine ⟨_, rfl, _, rfl, b, t3, 7, rfl, hb3, by decide, by decide, fun r4 H4 r40 r41 m4 => ⟨(by show 4 ≤ sizeLine; decide), fun l hl5 => ?_⟩⟩
            obtain ⟨t4, hb4⟩ := m4.2
            have e5 := same_new (o := HO.lst [.int 0, .int 0, .int 1, .int r4]) hl5
            refine ⟨b, l, t4, _, rfl, e5 _ _ hb4, (fun z => by rw [z, hb4] at hl5; cases hl5), SqL.of upd_same, (by show 0 < 4; decide), (by show 4 < 1073741824; decide), fun v H6 hv m6 => ?_⟩
            obtain ⟨x, rfl, hx⟩ : ∃ x : Int, v = .int x ∧ 0 ≤ x ∧ x ≤ 6 := by
              simp only [List.mem_cons, List.not_mem_nil, or_false] at hv
              rcases hv with rfl | rfl | rfl | rfl
              · exact ⟨0, rfl, by decide⟩
              · exact ⟨0, rfl, by decide⟩
              · exact ⟨1, rfl, by decide⟩
              · exact ⟨r4, rfl, by omega⟩
            have hD6 := m6.1 _ _ Db (e5 _ _ (m4.1 _ _ Db hD3))
            have hp6 := m6.sqT (e5 _ _ hb4) (sqT_same e5 (m4.sqT hb3 hp3))
            refine ⟨_, hD6, by rw [List.length_map, sizeLine_eq]; omega, es ++ [x], ?_, ?_, ?_, ?_, ?_⟩
            · rw [List.length_append, hl3]
              rfl
            · intro z hz
              rcases List.mem_append.mp hz with hz | hz
              · exact hes z hz
              · rw [List.mem_singleton.mp hz]
                exact hx
            · rw [upd_same, List.map_append]
              rfl
            · exact (((m3.trans m4).same e5).trans m6).put nD Db
            · exact sqT_lst hD6 hp6
          · rintro H3 ⟨es, hl3, hes, hD3, m3, hp3⟩
            refine ⟨D, _, rfl, .inl (SqL.of hD3), fun q H4 e4 hq => ?_⟩
            exact ⟨q, es, rfl, m3.same e4, sqT_same e4 hp3, hq, ⟨by omega, by omega, by rw [hl3, lrs], hrs, hes⟩⟩
        rintro σ' H4 ⟨q, es, rfl, m4, hp4, hq4, ok⟩
        -- the list that is handed
        refine ⟨_, rfl, p, _, rfl, .inr hp4, fun hd hhd => ?_⟩
        obtain ⟨nhd, hdb⟩ := m4.none hhd
        have e5 := same_new (o := HO.lst (rs.map V.int)) hhd
        have u5 : upd H4 hd (HO.lst (rs.map V.int)) hd = some (HO.lst (rs.map V.int)) := upd_same
        have m5 := m4.same e5
        have hp5 := sqT_same e5 hp4
        have hq5 := sqT_same e5 hq4
        generalize upd H4 hd (HO.lst (rs.map V.int)) = H5 at *
        obtain ⟨t5, hb5⟩ := m5.2
        refine ⟨fun σ' H' => ∃ x, σ' = sgL sc (some (.int (i : Int))) (some (.ref b)) (some (.int (n : Int))) (some (.ref p)) (some (.ref q)) (some (.ref hd)) (some (.ref x)) ∧ Mv b H5 H' ∧ CnAt K C H' x rs es, ?_, ?_⟩
        · refine ⟨_, rfl, b, t5, 2, rfl, hb5, by decide, by decide, fun r6 H6 r60 r61 m6 => ⟨rfl, _, rfl, ?_⟩⟩
          have u6 := m6.1 _ _ hdb u5
          have hq6 := m6.sqT hb5 hq5
          refine ite2 (fun h => ?_) (fun h => ?_)
          · refine ⟨_, rfl, _, rfl, q, _, rfl, .inr hq6, fun l7 hl7 => ?_⟩
            have e7 := same_new (o := HO.lst (es.map V.int)) hl7
            exact fun x dx hx hdx ne => make_good ok (.seq (.inl (SqL.of (e7 _ _ u6)))) (.inr (.seq (.inl (SqL.of upd_same)))) hx hdx ne fun H8 e8 cn8 => ⟨x, rfl, m6.same (e7.trans e8), cn8⟩
          · exact ⟨_, rfl, _, rfl, rfl, rfl, fun x dx hx hdx ne => make_good ok (.seq (.inl (SqL.of u6))) (.inr (.seq (.inr hq6))) hx hdx ne fun H8 e8 cn8 => ⟨x, rfl, m6.same e8, cn8⟩⟩
        rintro σ' H6 ⟨x, rfl, m6, cn6⟩
        refine ⟨fun σ' H' => ∃ u, σ' = sgL sc (some (.int (i : Int))) (some (.ref b)) (some (.int (n : Int))) (some (.ref p)) (some (.ref q)) (some (.ref hd)) (some (.ref x)) ∧ H' = upd H6 hd (.lst u), ?_, ?_⟩
        · refine ⟨_, rfl, .inl ⟨rfl, _, SqL.of (m6.1 _ _ hdb u5)⟩, hd, _, _, rfl, rfl, m6.1 _ _ hdb u5, by rw [List.length_map, sizeLine_eq]; omega, _, rfl, rfl⟩
        rintro σ' H7 ⟨u, rfl, rfl⟩
        have u6 := m6.1 _ _ hdb u5
        have m16 := m5.trans m6
        have g7 : Go Ts b H1 (upd H6 hd (.lst u)) := Go.lst ((Go.refl hb1 ht1).mv m16) nhd hdb u6
        have hp7 := sqT_lst (u' := u) u6 (m6.sqT hb5 hp5)
        have hq7 := sqT_lst (u' := u) u6 (m6.sqT hb5 hq5)
        have cn7 := cn_lst (u' := u) u6 cn6
        generalize upd H6 hd (.lst u) = H7 at *
        obtain ⟨t7, hb7⟩ := g7.box
        have l1 := ok.l1
        have l4 := ok.l4
        have smr : ∀ z ∈ rs, -1000000 ≤ z ∧ z ≤ 1000000 := fun z hz => by have := ok.r z hz; omega
        have sme : ∀ z ∈ es, -1000000 ≤ z ∧ z ≤ 1000000 := fun z hz => by have := ok.e z hz; omega
        have o2 : OkD 2 40000 (.list [dNums rs, dNums es]) := (okD_list (okA_cons (okD_nums smr (by omega)) (okA_cons (okD_nums sme (by rw [ok.le]; omega)) okA_nil))).mono (Nat.le_refl _) (by decide)
        have len_r : rs.length = n := lrs
        -- what they tell, and ==
        refine ⟨fun σ' H' => σ' = sgL sc (some (.int (i : Int))) (some (.ref b)) (some (.int (n : Int))) (some (.ref p)) (some (.ref q)) (some (.ref hd)) (some (.ref x)) ∧ Same H7 H', ?_, ?_⟩
        · obtain ⟨_, dx, cp, cq, c1, c2, c3⟩ := id cn7
          refine ⟨_, rfl, x, C, dx, _, _, rfl, c1, TC.cl, TC.n1, rfl, _, rfl, x, C, dx, _, _, rfl, c1, TC.cl, TC.n2, rfl, (by show 2 ≤ sizeLine; decide), fun l8 hl8 => ?_⟩
          have e8 := same_new (o := HO.lst [.ref cp, .ref cq]) hl8
          refine ⟨_, _, rfl, .lst (SqL.of upd_same) (.cons (dp_nums (sqT_same e8 c2)) (.cons (dp_nums (sqT_same e8 c3)) .nil)), o2.sh, o2.nd, o2.d60, o2.line, ?_⟩
          refine ⟨_, rfl, _, rfl, (by show 2 ≤ sizeLine; decide), fun l9 hl9 => ?_⟩
          have e9 := same_new (o := HO.lst [.ref p, .ref q]) hl9
          have e89 := e8.trans e9
          refine ⟨_, _, rfl, .lst (SqL.of upd_same) (.cons (dp_nums (sqT_same e89 hp7)) (.cons (dp_nums (sqT_same e89 hq7)) .nil)), o2.sh, o2.nd, o2.d60, o2.line, rfl, _, rfl, ?_⟩
          rw [decide_eq_true rfl]
          refine iteF ?_
          have hp9 := sqT_same e89 hp7
          have hq9 := sqT_same e89 hq7
          have cn9 := cn7.same e89
          refine ⟨_, rfl, _, rfl, _, rfl, fun x9 dx9 hx hdx ne => make_good ok (.seq (.inr hp9)) (.inr (.seq (.inr hq9))) hx hdx ne fun H10 e10 cn10 => ?_⟩
          refine ⟨x, x9, rs, es, rs, es, rfl, rfl, cn9.same e10, cn10, fun H11 e11 => ⟨_, rfl, ?_⟩⟩
          rw [decide_eq_true ⟨rfl, rfl⟩]
          refine iteF ?_
          have e811 := (e89.trans e10).trans e11
          exact ⟨_, rfl, _, rfl, x, rs, es, p, _, rfl, rfl, cn7.same e811, sqT_same e811 hp7, fun H12 e12 => ⟨_, rfl, iteF ⟨rfl, e811.trans e12⟩⟩⟩
        rintro σ' H8 ⟨rfl, e8⟩
        -- another round
        refine ⟨fun σ' H' => σ' = sgL sc (some (.int (i : Int))) (some (.ref b)) (some (.int (n : Int))) (some (.ref p)) (some (.ref q)) (some (.ref hd)) (some (.ref x)) ∧ Same H7 H', ?_, ?_⟩
        · have hp8 := sqT_same e8 hp7
          have hq8 := sqT_same e8 hq7
          have cn8 := cn7.same e8
          have cutR : cutV (rs.map V.int) (some 1) none = (rs.drop 1).map V.int := by
            rw [show (1 : Int) = ((1 : Nat) : Int) from rfl, cut_from (by rw [List.length_map]; exact l1), List.map_drop]
          have at0 : (rs.map V.int)[0]? = some (.int (rs.getD 0 0)) := by
            obtain ⟨a1, _⟩ := ok.at_ (show 0 < rs.length by omega)
            rw [List.getElem?_map, a1]
            rfl
          refine ⟨_, rfl, _, rfl, _, rfl, p, _, rfl, hp8, fun s1 A1 f1 hs1 => ?_⟩
          rw [cutR] at hs1
          refine ⟨_, rfl, p, _, 0, _, rfl, rfl, sqT_same f1 hp8, atI_nat at0, _, _, rfl, rfl, .inl ⟨_, rfl, _, _, rfl, rfl, (by show (0 : Int) < 61; decide), (by show 1 ≤ sizeLine; decide), fun s2 hs2 => ?_⟩⟩
          have f2 := same_new (o := HO.tup [.int ((rs.getD 0 0 + 1) % 61)]) hs2
          refine ⟨s1, s2, _, _, rfl, rfl, sqT_same f2 hs1, SqT.of upd_same, ?_, fun s3 A3 f3 hs3 => ?_⟩
          · rw [List.length_map, List.length_drop, sizeLine_eq]
            show _ + 1 ≤ _
            omega
          have f13 := (f1.trans f2).trans f3
          have hs3 : SqT K A3 s3 ((rs.drop 1 ++ [(rs.getD 0 0 + 1) % 61]).map V.int) := by
            rw [List.map_append]
            exact hs3
          refine ⟨_, rfl, fun x9 dx9 hx hdx ne => make_good (cok_turned ok) (.seq (.inr hs3)) (.inr (.seq (.inr (sqT_same f13 hq8)))) hx hdx ne fun H10 e10 cn10 => ?_⟩
          refine ⟨x, x9, rs, es, _, es, rfl, rfl, cn8.same (f13.trans e10), cn10, fun H11 e11 => ⟨_, rfl, ?_⟩⟩
          rw [decide_eq_false (fun z => turned_ne l1 l4 ok.r z.1)]
          exact iteF ⟨rfl, e8.trans ((f13.trans e10).trans e11)⟩
        rintro σ' H9 ⟨rfl, e9⟩
        -- other rests
        refine ⟨fun σ' H' => σ' = sgL sc (some (.int (i : Int))) (some (.ref b)) (some (.int (n : Int))) (some (.ref p)) (some (.ref q)) (some (.ref hd)) (some (.ref x)) ∧ Same H7 H', ?_, ?_⟩
        · have hp9 := sqT_same e9 hp7
          have hq9 := sqT_same e9 hq7
          have cn9 := cn7.same e9
          refine ⟨_, rfl, _, rfl, _, rfl, q, rfl, ⟨_, hq9⟩, fun D hD => lc_tup (xs := es.map V.int) (Part H9 D ((es.map fun e => 6 - e).map V.int)) (Part.zero hD) (fun i H _ pt => sqT_same pt.2 hq9) ?_ ?_⟩
          · rintro j y H10 hy pt
            obtain ⟨e, he, rfl⟩ : ∃ e, es[j]? = some e ∧ y = .int e := by
              rw [List.getElem?_map, Option.map_eq_some_iff] at hy
              obtain ⟨e, h1, h2⟩ := hy
              exact ⟨e, h1, h2.symm⟩
            refine ⟨rfl, yes ((if_pos rfl).mpr ?_)⟩
            refine ⟨_, rfl, _, _, rfl, rfl, pt.step hD (Same.refl _) ?_ ?_⟩
            · rw [List.getElem?_map, List.getElem?_map, he]
              rfl
            · rw [List.length_map, List.length_map, ok.le, sizeLine_eq]
              omega
          · intro H10 pt
            obtain ⟨hl10, e10⟩ := pt.done (by rw [List.length_map, List.length_map, List.length_map]; exact Nat.le_refl _)
            refine ⟨D, _, rfl, .inl (SqL.of hl10), fun r H11 e11 hr11 => ?_⟩
            have f11 := e10.trans e11
            refine fun x9 dx9 hx hdx ne => make_good (cok_sixes ok) (.seq (.inr (sqT_same f11 hp9))) (.inr (.seq (.inr hr11))) hx hdx ne fun H12 e12 cn12 => ?_
            refine ⟨x, x9, rs, es, rs, _, rfl, rfl, cn9.same (f11.trans e12), cn12, fun H13 e13 => ⟨_, rfl, ?_⟩⟩
            have f13 := (f11.trans e12).trans e13
            refine ite2 (fun h => ?_) (fun h => ?_)
            · have h : (false != decide (rs = rs ∧ es = es.map fun e => 6 - e)) = true := h
              rw [Bool.false_bne, decide_eq_true_eq] at h
              refine ⟨_, rfl, (by show 1 ≤ sizeLine; decide), fun t14 ht14 => ?_⟩
              have e14 := same_new (o := HO.tup [.int 3]) ht14
              refine ⟨_, rfl, t14, n, [.int 3], rfl, rfl, SqT.of upd_same, by simp, by omega, by decide, fun r15 H15 e15 hr15 => ?_⟩
              rw [rep_one] at hr15
              have f15 := (f13.trans e14).trans e15
              refine ⟨q, r15, es, _, rfl, rfl, sqT_same f15 hq9, hr15, _, rfl, ?_⟩
              rw [decide_eq_true (by have := threes h.2; rw [ok.le, lrs] at this; exact this)]
              exact iteF ⟨rfl, e9.trans f15⟩
            · exact ⟨rfl, e9.trans f13⟩
        rintro σ' H10 ⟨rfl, e10⟩
        -- no rests
        have okp : Cok rs (List.replicate rs.length 0) := cok_plain l1 l4 ok.r
        refine ⟨fun σ' H' => σ' = sgL sc (some (.int (i : Int))) (some (.ref b)) (some (.int (n : Int))) (some (.ref p)) (some (.ref q)) (some (.ref hd)) (some (.ref x)) ∧ Same H7 H', ?_, ?_⟩
        · have hp10 := sqT_same e10 hp7
          refine ⟨_, rfl, Nat.zero_le _, fun l11 hl11 => ?_⟩
          have e11 := same_new (o := HO.lst []) hl11
          refine fun x9 dx9 hx hdx ne => make_good okp (.seq (.inr (sqT_same e11 hp10))) (.inl ⟨.seq (.inl (SqL.of upd_same)), rfl⟩) hx hdx ne fun H12 e12 cn12 => ?_
          obtain ⟨_, dx, cp, cq, c1, c2, c3⟩ := cn12
          refine ⟨x9, C, dx, _, _, rfl, c1, TC.cl, TC.n2, rfl, (by show 1 ≤ sizeLine; decide), fun t14 ht14 => ?_⟩
          have e14 := same_new (o := HO.tup [.int 0]) ht14
          refine ⟨_, rfl, t14, n, [.int 0], rfl, rfl, SqT.of upd_same, by simp, by omega, by decide, fun r15 H15 e15 hr15 => ?_⟩
          rw [rep_one, ← lrs] at hr15
          have f15 := e14.trans e15
          refine ⟨cq, r15, _, _, rfl, rfl, sqT_same f15 c3, hr15, _, rfl, ?_⟩
          rw [decide_eq_true rfl]
          exact iteF ⟨rfl, e10.trans ((e11.trans e12).trans f15)⟩
        rintro σ' H11 ⟨rfl, e11⟩
        refine ⟨fun σ' H' => σ' = sgL sc (some (.int (i : Int))) (some (.ref b)) (some (.int (n : Int))) (some (.ref p)) (some (.ref q)) (some (.ref hd)) (some (.ref x)) ∧ Same H7 H', ?_, ?_⟩
        · have hp11 := sqT_same e11 hp7
          refine ⟨_, rfl, fun x9 dx9 hx hdx ne => make_good okp (.seq (.inr hp11)) (.inl ⟨.seq (.inr (M.nil _)), rfl⟩) hx hdx ne fun H12 e12 cn12 => ?_⟩
          refine ⟨_, rfl, (by show 1 ≤ sizeLine; decide), fun t14 ht14 => ?_⟩
          have e14 := same_new (o := HO.tup [.int 0]) ht14
          refine ⟨_, rfl, t14, n, [.int 0], rfl, rfl, SqT.of upd_same, by simp, by omega, by decide, fun r15 H15 e15 hr15 => ?_⟩
          rw [rep_one, ← lrs] at hr15
          have f15 := (e12.trans e14).trans e15
          refine fun x10 dx10 hx2 hdx2 ne2 => make_good okp (.seq (.inr (sqT_same f15 hp11))) (.inr (.seq (.inr hr15))) hx2 hdx2 ne2 fun H16 e16 cn16 => ?_
          refine ⟨x9, x10, rs, _, rs, _, rfl, rfl, cn12.same ((e14.trans e15).trans e16), cn16, fun H17 e17 => ⟨_, rfl, ?_⟩⟩
          rw [decide_eq_true ⟨rfl, rfl⟩]
          exact iteF ⟨rfl, e11.trans ((f15.trans e16).trans e17)⟩
        rintro σ' H12 ⟨rfl, e12⟩
        have g12 := g7.same e12
        obtain ⟨t12, hb12⟩ := g12.box
        have hp12 := sqT_same e12 hp7
        have hq12 := sqT_same e12 hq7
        have cn12 := cn7.same e12
        -- the three parts
        refine ⟨fun σ' H' => σ' = sgL sc (some (.int (i : Int))) (some (.ref b)) (some (.int (n : Int))) (some (.ref p)) (some (.ref q)) (some (.ref hd)) (some (.ref x)) ∧ Go Ts b H12 H', ?_, ?_⟩
        · exact ⟨_, rfl, _, rfl, _, rfl, _, rfl, b, x, p, q, t12, rs, es, rfl, hb12, cn12, hp12, hq12, fun H13 m13 => ⟨true, rfl, iteF ⟨rfl, (Go.refl hb12 g12.tabs).mv m13⟩⟩⟩
        rintro σ' H13 ⟨rfl, g13⟩
        refine ⟨fun σ' H' => σ' = sgL sc (some (.int (i : Int))) (some (.ref b)) (some (.int (n : Int))) (some (.ref p)) (some (.ref q)) (some (.ref hd)) (some (.ref x)) ∧ Go Ts b H12 H', ?_, ?_⟩
        · exact ⟨_, rfl, _, rfl, _, rfl, x, p, q, rs, es, rfl, g13.cn hb12 cn12, g13.sqT hb12 hp12, g13.sqT hb12 hq12, g13.tabs, fun H14 x14 t14 => ⟨true, rfl, iteF ⟨rfl, g13.ext x14 t14⟩⟩⟩
        rintro σ' H14 ⟨rfl, g14⟩
        obtain ⟨t14, hb14⟩ := g14.box
        refine ⟨_, rfl, _, rfl, _, rfl, _, rfl, b, x, p, q, t14, rs, es, rfl, hb14, g14.cn hb12 cn12, g14.sqT hb12 hp12, g14.sqT hb12 hq12, g14.tabs, fun H15 g15 => ⟨true, rfl, iteF ?_⟩⟩
        have g := (g12.trans g14).trans g15
        exact ⟨_, _, _, _, _, _, _, rfl, script_keeps e1 nb g hs0, g.tabs⟩
      · rintro σ' H' h
        exact h
    · rintro σ' H1 ⟨x1, x2, x3, x4, x5, x6, x7, rfl, hs1, ht1⟩
      refine ⟨_, rfl, sc, ns, 4, rfl, hs1, hl, fun H2 b t2 e2 nb hb2 => ?_⟩
      refine ⟨fun σ' H' => σ' = sgL sc x1 (some (.ref b)) x3 x4 x5 x6 x7, ?_, ?_⟩
      · refine ⟨_, rfl, b, t2, 6, rfl, hb2, by decide, by decide, fun r H3 r0 r1 m3 => ⟨rfl, _, rfl, ?_⟩⟩
        obtain ⟨t3, hb3⟩ := m3.2
        refine ite2 (fun h => ?_) (fun h => ?_)
        · exact ⟨_, rfl, b, t3, rfl, hb3, fun H4 m4 => ⟨true, rfl, iteF rfl⟩⟩
        · exact rfl
      · rintro σ' H3 rfl
        refine ⟨(by show 1 ≤ sizeLine; decide), fun t4 ht4 => ?_⟩
        refine ⟨t4, 4, [.int 1], rfl, rfl, SqT.of upd_same, by simp, by decide, by decide, fun p H5 e5 hp => ?_⟩
        have hp : SqT K H5 p (([1, 1, 1, 1] : List Int).map V.int) := hp
        have okL : Cok [1, 1, 1, 1] [0, 0, 0, 0] := ⟨by decide, by decide, rfl, by decide, by decide⟩
        refine fun x dx hx hdx ne => make_good okL (.seq (.inr hp)) (.inl ⟨.seq (.inr (M.nil _)), rfl⟩) hx hdx ne fun H6 e6 cn6 => ?_
        refine ⟨(by show 1 ≤ sizeLine; decide), fun l7 hl7 => ?_⟩
        have e7 := same_new (o := HO.lst [.int 3]) hl7
        refine ⟨l7, 400, _, rfl, rfl, upd_same, by decide, by decide, (by show 400 ≤ sizeLine; decide), fun l8 hl8 => ?_⟩
        have e8 := same_new (o := HO.lst (List.replicate (400 : Int).toNat [V.int 3]).flatten) hl8
        have ef : (List.replicate (400 : Int).toNat [V.int 3]).flatten = (List.replicate 400 (3 : Int)).map V.int := rep_one
        have good : rowAt (4 : Nat) (some ((List.replicate 400 (3 : Int)).map V.int)) = .none := row_good (rs := [1, 1, 1, 1]) (fun z hz => by rw [List.eq_of_mem_replicate hz]; decide) (by rw [List.length_replicate]; decide)
        refine ⟨x, [1, 1, 1, 1], [0, 0, 0, 0], l8, (List.replicate 400 (3 : Int)).map V.int, rfl, cn6.same (e7.trans e8), .inl (by rw [← ef]; exact SqL.of upd_same), kns_ints, fun j z => ?_, fun row _ _ r H9 e9 hr9 => ?_⟩
        · have z : rowAt (4 : Nat) (some ((List.replicate 400 (3 : Int)).map V.int)) = some j := z
          rw [good] at z
          cases z
        · refine ⟨r, _, rfl, .inr hr9, rfl, ?_⟩
          rw [List.length_map, showOf_length]
          exact k _
end
end K3
/-! the top, run -/
namespace K3
open PySem PySem.Spec PyProof.Rows L2 Kx
/-! ### Bools that the head's Hook asks -/
/-- a class's line and slots -/
def tailB (C : Addr) (bm : List Value → Bool) (newId : String) (mro : List Value) (sl : List (Option Value)) : Bool := match mro, sl with
  | .ref C' :: r, [_, _, _, _, some (.builtin n), _] => decide (C' = C) && (decide (n = newId) && bm r)
  | _, _ => false
theorem tailB_ok {C : Addr} {bm : List Value → Bool} {newId : String} {mro : List Value} {sl : List (Option Value)} (h : tailB C bm newId mro sl = true) :
    ∃ r a0 a1 a2 a3 a5, mro = .ref C :: r ∧ sl = [a0, a1, a2, a3, some (.builtin newId), a5] ∧ bm r = true := by
  unfold tailB at h
  split at h
  · obtain ⟨h4, h⟩ := He.ba h
    obtain ⟨h5, h6⟩ := He.ba h
    have h4 := of_decide_eq_true h4
    have h5 := of_decide_eq_true h5
    exact ⟨_, _, _, _, _, _, by rw [h4], by rw [h5], h6⟩
  · cases h
/-- the class at C as the text makes it: an own dict, no __del__, behind it the classes bm -/
def shapeB (K : PySem.W.Frag) (C : Addr) (bm : List Value → Bool) (newId : String) : Bool := match K.lookup C with
  | some ⟨.type c, _, .cls cd, sl⟩ => decide (c = "type") && (cd.hasDict && (!cd.hasDel && tailB C bm newId cd.mro sl.toList))
  | _ => false
theorem shapeB_ok {K : PySem.W.Frag} {C : Addr} {bm : List Value → Bool} {newId : String} (h : shapeB K C bm newId = true) :
    ∃ nm q N bs r sn sub ab col dd k0 k1 k2 k3 k5, K.lookup C = some (excClassObj nm q C N bs r true sn sub ab col dd k0 k1 k2 k3 k5 newId) ∧ bm r = true := by
  unfold shapeB at h
  cases e : K.lookup C with
  | none =>
    rw [e] at h
    cases h
  | some o =>
    obtain ⟨oc, od, dt, sl⟩ := o
    rw [e] at h
    cases oc with
    | type c =>
      cases dt with
      | cls cd =>
        obtain ⟨nm, bs, mro, N, q, hdct, sn, sub, ab, col, del⟩ := cd
        have h : (decide (c = "type") && (hdct && (!del && tailB C bm newId mro sl.toList))) = true := h
        obtain ⟨h1, h⟩ := He.ba h
        obtain ⟨h2, h⟩ := He.ba h
        obtain ⟨h3, h⟩ := He.ba h
        obtain ⟨r, a0, a1, a2, a3, a5, h4, h5, h6⟩ := tailB_ok h
        have k1 := of_decide_eq_true h1
        have k3 : del = false := by
          cases del with
          | false => rfl
          | true => cases h3
        have es : sl = #[a0, a1, a2, a3, some (.builtin newId), a5] := by
          have := congrArg List.toArray h5
          simpa using this
        refine ⟨nm, q, N, bs, r, sn, sub, ab, col, od, a0, a1, a2, a3, a5, ?_, h6⟩
        rw [k1, h2, k3, h4, es]
      | _ => cases h
    | _ => cases dt <;> cases h
/-- an own error over an own base over ValueError, of the field f -/
def oexB (K : PySem.W.Frag) (C : Addr) : Bool := shapeB K C PySem.HandSPX.refsVE "ValueError.__new__" && (He.eqO (PySem.W.findIn K (.ref C) "__setattr__") (some (some (.builtin "object.__setattr__"))) && (decide (PySem.W.subIn K (.ref C) (.type "BaseException") = some true) && (decide (PySem.W.typeIn K (.ref C) = some (.type "type")) && PySem.W.keepIn K (.ref C))))
theorem oexB_ok {K : PySem.W.Frag} {C : Addr} (h : oexB K C = true) : OexC K C := by
  obtain ⟨h1, h⟩ := He.ba h
  obtain ⟨h2, h⟩ := He.ba h
  obtain ⟨h3, h⟩ := He.ba h
  obtain ⟨h4, h5⟩ := He.ba h
  exact ⟨shapeB_ok h1, He.eqO_ok h2, of_decide_eq_true h3, of_decide_eq_true h4, h5⟩
def keyB (K : PySem.W.Frag) (C : Addr) : Bool := shapeB K C (fun r => decide (r = keyTail)) "LookupError.__new__" && (He.eqO (PySem.W.findIn K (.ref C) "__setattr__") (some (some (.builtin "object.__setattr__"))) && (decide (PySem.W.subIn K (.ref C) (.type "BaseException") = some true) && (decide (PySem.W.typeIn K (.ref C) = some (.type "type")) && PySem.W.keepIn K (.ref C))))
theorem keyB_ok {K : PySem.W.Frag} {C : Addr} (h : keyB K C = true) : KeyC K C := by
  obtain ⟨h1, h⟩ := He.ba h
  obtain ⟨h2, h⟩ := He.ba h
  obtain ⟨h3, h⟩ := He.ba h
  obtain ⟨h4, h5⟩ := He.ba h
  obtain ⟨nm, q, N, bs, r, sn, sub, ab, col, dd, k0, k1, k2, k3, k5, e, er⟩ := shapeB_ok h1
  have er := of_decide_eq_true er
  subst er
  exact ⟨⟨nm, q, N, bs, sn, sub, ab, col, dd, k0, k1, k2, k3, k5, e⟩, He.eqO_ok h2, of_decide_eq_true h3, of_decide_eq_true h4, h5⟩
def excB (K : PySem.W.Frag) (D : Addr) : Bool := He.eqO (PySem.W.findIn K (.ref D) "__getattribute__") (some (some (.builtin "BaseException.__getattribute__"))) && (He.eqO (PySem.W.findIn K (.ref D) "__getattr__") (some none) && (decide (PySem.W.subIn K (.ref D) (.type "BaseException") = some true) && (PySem.W.hasDictIn K D &&
  (He.eqO (PySem.W.findIn K (.ref D) "__class__") (some (some (.builtin "object.__class__"))) && (He.eqO (PySem.W.specialIn K (.builtin "object.__class__") "__get__") (some (some (.builtin "getset_descriptor.__get__"))) && (decide (PySem.W.takesIn K (.builtin "object.__class__") = some true) && decide (PySem.W.mroIn K D (.type "object") = some true)))))))
theorem excB_ok {K : PySem.W.Frag} {D : Addr} (h : excB K D = true) : ExcC K D := by
  obtain ⟨h1, h⟩ := He.ba h
  obtain ⟨h2, h⟩ := He.ba h
  obtain ⟨h3, h⟩ := He.ba h
  obtain ⟨h4, h⟩ := He.ba h
  obtain ⟨h5, h⟩ := He.ba h
  obtain ⟨h6, h⟩ := He.ba h
  obtain ⟨h7, h8⟩ := He.ba h
  exact ⟨He.eqO_ok h1, He.eqO_ok h2, of_decide_eq_true h3, h4, He.eqO_ok h5, He.eqO_ok h6, of_decide_eq_true h7, of_decide_eq_true h8⟩
theorem excB_xf {K : PySem.W.Frag} {D : Addr} (h : excB K D = true) : XfC K D := by
  have e := excB_ok h
  exact ⟨e.hg, e.hk, e.hs, e.hd⟩
end K3
/-! the end of a law that holds where nothing that guards itself runs around -/
namespace Kx
open L2 PySem PySem.Spec PyProof.Rows
/-- what is followed at the start: the tables, the script where the written part does not hold it -/
def startH (K : PySem.W.Frag) (a : Addr) (vs : List Value) (ns : List Int) (tabs : List Addr) : Hp := fun b =>
  if b ∈ tabs then some (.tbl #[]) else if b = a ∧ K.lookup a = .none then some (.frz { cls := .type "list", data := .seq vs.toArray } (.lst (ns.map V.int))) else .none
section
variable {P : Program} {w : World} {K : PySem.W.Frag} {mg mb : Str → Option Value} {k : Nat} {fa a : Addr} {cs : List (Addr × Addr)} {fd : FuncData} {x : Str} {sp : Sp} {s : Shared} {vs : List Value} {ns : List Int}
theorem lone_end (X : K.In s.heap) (G : s.heap.Ns mainGlobals mg) (Bn : s.heap.Ns builtinsNs mb) (Bi : ∀ y : Str, y ≠ "__name__" → mb y = bootBuiltins y) (lim : s.heap.NoLimit) (gens : s.gens = #[])
    (tE : ∀ p ∈ cs, s.heap.get? p.2 = some { cls := .none, data := .fields #[] }) (tN : ∀ p ∈ cs, K.lookup p.2 = .none) (tC : ∀ p ∈ cs, PySem.W.CodeHd s.heap p.1 p.2)
    (bmod : ∃ (bm : Addr) (ob : Obj), mg "__builtins__" = some (.ref bm) ∧ bm ≠ builtinsNs ∧ s.heap.get? bm = some ob ∧ ob.cls = .type "module" ∧ ob.dict = some builtinsNs ∧ ob.data = .plain)
    (at_ : s.heap.get? a = some { cls := .type "list", data := .seq vs.toArray }) (isI : IntsAre vs ns) (short : ns.length ≤ sizeLine) (room : Room k callerA)
    (F : ∀ base : Heap, K.In base → base.Ns mainGlobals mg → (∀ p ∈ cs, LamX.TabB base mg p.1 p.2) → FnG P w K mg base CX0 k fa fd [x] sp) (bind : ∀ (s' : Shared) (u : Value), BindsTo s' fd ⟨[u], []⟩ [(x, u)])
    (give : ∀ H : Hp, (∀ p ∈ cs, H p.2 = some (.tbl #[])) → SqL K H a (ns.map V.int) → sp [.ref a] H (fun v _ => v = .bl true) fun _ _ _ => False) :
    codeAny (model P w) callerA (.call (.ref fa) ⟨[.ref a], []⟩) (fun r s' => r = .ok (.ret (.bool true)) ∧ OldK s.heap s'.heap ∧ s'.os = s.os ∧ AllBare s'.gens) s := by
  have rel := vals_ints isI
  have len := isI.length
  have tabIs : ∀ b ∈ cs.map (·.2), s.heap.get? b = some { cls := .none, data := .fields #[] } ∧ K.lookup b = .none := fun b hb => by
    obtain ⟨p, hp, rfl⟩ := List.mem_map.mp hb
    exact ⟨tE p hp, tN p hp⟩
  have apart : a ∉ cs.map (·.2) := fun z => by
    have q := (tabIs a z).1
    rw [at_] at q
    injection q with q
    injection q with _ _ q
    cases q
  let H := startH K a vs ns (cs.map (·.2))
  have hT : ∀ b ∈ cs.map (·.2), H b = some (.tbl #[]) := fun b hb => if_pos hb
  have hTs : ∀ p ∈ cs, H p.2 = some (.tbl #[]) := fun p hp => hT _ (List.mem_map_of_mem hp)
  -- what H follows: a table, the script
  have cases_ : ∀ b, (b ∈ cs.map (·.2) ∧ H b = some (.tbl #[])) ∨ (b = a ∧ K.lookup a = .none ∧ H b = some (.frz { cls := .type "list", data := .seq vs.toArray } (.lst (ns.map V.int)))) ∨ H b = .none := fun b => by
    by_cases h1 : b ∈ cs.map (·.2)
    · exact .inl ⟨h1, hT b h1⟩
    · by_cases h2 : b = a ∧ K.lookup a = .none
      · exact .inr (.inl ⟨h2.1, h2.2, (if_neg h1).trans (if_pos h2)⟩)
      · exact .inr (.inr ((if_neg h1).trans (if_neg h2)))
  have known : ∀ {b : Addr} {o : Obj}, K.lookup b = some o → H b = .none := fun {b o} e => by
    rcases cases_ b with ⟨h, _⟩ | ⟨rfl, h, _⟩ | h
    · rw [(tabIs b h).2] at e
      cases e
    · rw [h] at e
      cases e
    · exact h
  have other : ∀ {b : Addr} {o : Obj}, s.heap.get? b = some o → (∀ us n, o.data ≠ .seq us n) → o.data ≠ .fields #[] → H b = .none := fun {b o} e h1 h2 => by
    rcases cases_ b with ⟨h, _⟩ | ⟨rfl, _, _⟩ | h
    · rw [(tabIs b h).1] at e
      cases e
      exact absurd rfl h2
    · rw [at_] at e
      cases e
      exact absurd rfl (h1 _ _)
    · exact h
  have ns_ : ∀ {b : Addr} {m : Str → Option Value}, s.heap.Ns b m → (hidT s.heap H).Ns b m := fun {b m} ⟨o, es, ep, e, d, r⟩ =>
    ⟨o, es, ep, hidT_get e (other e (fun us n z => by rw [d] at z; cases z) fun z => by rw [d] at z; cases z), d, r⟩
  have Xb : K.In (hidT s.heap H) := fun b o e => hidT_get (X b o e) (known e)
  have holds : HOk P w H s.heap := fun b u z => by
    rcases cases_ b with ⟨h, e⟩ | ⟨rfl, _, e⟩ | e
    · obtain rfl : u = .tbl #[] := Option.some.inj (z.symm.trans e)
      exact (tabIs b h).1
    · obtain rfl := Option.some.inj (z.symm.trans e)
      exact ⟨at_, by rw [List.length_map]; exact short, vs, _, rel, at_⟩
    · rw [e] at z
      cases z
  have script : SqL K H a (ns.map V.int) := by
    cases q : K.lookup a with
    | none =>
      refine .inl (.inr ⟨{ cls := .type "list", data := .seq vs.toArray }, ?_⟩)
      exact (if_neg apart).trans (if_pos ⟨rfl, q⟩)
    | some o =>
      have e := X a o q
      rw [at_] at e
      cases e
      exact .inr ⟨_, vs.toArray, _, q, rfl, rfl, rfl, by rw [List.size_toArray, len]; exact short, by simpa using rel⟩
  have tabs : ∀ p ∈ cs, LamX.TabB (hidT s.heap H) mg p.1 p.2 := fun p hp => by
    refine ⟨?_, ?_, fun z => ?_⟩
    · obtain ⟨o, us, file, tf, flags, tg, inF, text, tt, e, c1, c2, c3, more⟩ := tC p hp
      refine ⟨o, us, file, tf, flags, tg, inF, text, tt, hidT_get e (other e (fun vs n z => by rw [c2] at z; cases z) fun z => ?_), c1, c2, c3, more⟩
      rw [c2] at z
      cases z
      simp at c3
    · obtain ⟨bm, ob, b1, b2, b3, b4, b5, b6⟩ := bmod
      have b7 : H bm = .none := other b3 (fun us n z => by rw [b6] at z; cases z) fun z => by rw [b6] at z; cases z
      refine ⟨bm, ob, b1, b2, fun q => ?_, fun q => ?_, hidT_get b3 b7, b4, b5, b6⟩
      · obtain ⟨o, es, ep, e, d, _⟩ := G
        rw [← q, b3] at e
        cases e
        rw [b6] at d
        cases d
      · rw [q, hTs p hp] at b7
        cases b7
    · obtain ⟨o, es, ep, e, d, _⟩ := G
      rw [z, tE p hp] at e
      cases e
      cases d
  have env : Env0 P w K mg (hidT s.heap H) callerA [] s H :=
    { frames := rfl
      mod := ⟨Xb, ns_ G, ⟨mb, ns_ Bn, Bi⟩, let ⟨mc, h1, h2⟩ := lim; ⟨mc, ns_ h1, h2⟩⟩
      bs := fun b o e => of_hidT e
      bsz := Nat.le_of_eq (hidT_size _ _)
      funs := trivial
      frf := fun b hb => absurd (show b ∈ ([] : List Addr) from hb) (by simp)
      hok := holds
      bare := .of_eq gens }
  refine codeAny_mono ((F _ Xb (ns_ G) tabs).run callerA [] s H ⟨[.ref a], []⟩ [.ref a] [.ref a] _ _ room rfl env (bind s (.ref a)) (.cons rfl .nil) (give H hTs script)) fun r s' z => ?_
  match r, z with
  | .error e, z => exact z.elim
  | .ok .next, z => exact z.elim
  | .ok .brk, z => exact z.elim
  | .ok .cont, z => exact z.elim
  | .ok (.ret u), z =>
    obtain ⟨v, H', os, bare, un, ok', r', ev⟩ := z
    subst ev
    obtain rfl : u = .bool true := r'
    have stay : ∀ b o, b ∉ cs.map (·.2) → s.heap.get? b = some o → s'.heap.get? b = some o := fun b o nb e => by
      rcases cases_ b with ⟨h, _⟩ | ⟨_, _, q⟩ | q
      · exact absurd h nb
      · have old := (holds b _ q).1
        rw [e] at old
        cases old
        exact (ok' b _ (un.frzs b _ _ q)).1
      · exact un.keep b o e q (fun m => absurd (show b ∈ ([] : List Addr) from m) (by simp)) (by simp)
    have grown : ∀ b ∈ cs.map (·.2), ∃ more : Array Value, s'.heap.get? b = some { cls := .none, data := .fields more } := fun b hb => by
      obtain ⟨more, q⟩ := un.tbls b #[] (hT b hb)
      exact ⟨_, ok' b _ q⟩
    refine ⟨rfl, ⟨fun b o eb => ?_, fun b o eb => ?_⟩, os, bare⟩
    · by_cases mb : b ∈ cs.map (·.2)
      · rcases List.mem_map.mp mb with ⟨p, hp, rfl⟩
        obtain ⟨more, hm⟩ := grown _ mb
        rw [tE p hp] at eb
        cases eb
        exact .inr (.inl ⟨((tC p hp).tab (tE p hp)).isCodeTable, rfl, #[], more, rfl, by rw [Array.empty_append]; exact hm⟩)
      · exact .inl (stay b o mb eb)
    · by_cases mb : b ∈ cs.map (·.2)
      · obtain ⟨more, hm⟩ := grown b mb
        exact ⟨_, hm⟩
      · exact ⟨o, stay b o mb eb⟩
end
/-- the law's def, told over the head's heap -/
theorem lone_walk {l : PySem.W.OpenLaw} {n k : Nat} {q : Program} {loose : List Str} {XP : (Str → Option Value) → Heap → Prop} {YP : World → Heap → Prop} {d : DefRec} {x : Str} (most : l.most = some n) (short : n ≤ sizeLine) (plain : d.params.defaults = []) (room : Room k callerA)
    (F : ∀ (w : World) (mg : Str → Option Value) (fa : Addr) (h : Heap), YP w h → h.Ns mainGlobals mg → mg d.name = some (.ref fa) → ∃ (K : PySem.W.Frag) (fd : FuncData) (cs : List (Addr × Addr)) (sp : Sp), K.In h ∧
      (∀ p ∈ cs, h.get? p.2 = some { cls := .none, data := .fields #[] }) ∧ (∀ p ∈ cs, K.lookup p.2 = none) ∧ (∀ p ∈ cs, PySem.W.CodeHd h p.1 p.2) ∧ (∀ (s : Shared) (u : Value), BindsTo s fd ⟨[u], []⟩ [(x, u)]) ∧
      (∀ (H : Hp) (a : Addr) (ns : List Int), ns.length ≤ n → (∀ p ∈ cs, H p.2 = some (.tbl #[])) → SqL K H a (ns.map V.int) → sp [.ref a] H (fun v _ => v = .bl true) fun _ _ _ => False) ∧
      ∀ base : Heap, K.In base → base.Ns mainGlobals mg → (∀ p ∈ cs, LamX.TabB base mg p.1 p.2) → FnG l.prog w K mg base CX0 k fa fd [x] sp) : PySem.W.WalkO q loose XP YP l.row.toRowW d [] (fun f vs => PySem.call f vs) := by
  refine Att.attach_callB most plain fun w s₀ s₁ mg mb fa o pm cd doc a vs ns G Y _ _ _ hmg hobj hints hlen _ hg => ?_
  obtain ⟨K, fd, cs, sp, X, tE, tN, tC, hb, give, hF⟩ := F w mg fa _ Y G.T.g hmg
  exact lone_end X G.T.g G.T.b G.T.builtins G.T.nolimit hg tE tN tC G.T.bmain hobj hints (Nat.le_trans hlen short) room hF hb fun H hH hS => give H a ns hlen hH hS
end Kx
/-! what the head tells -/
namespace K3
open PySem PySem.Spec PyProof.Rows L2 Kx RZ
def iniB (K : PySem.W.Frag) (C : Addr) : Bool := He.eqO (PySem.W.findIn K (.ref C) "__init__") (some (some (.ref (He.ma K C "__init__")))) && decide (PySem.W.typeIn K (.ref (He.ma K C "__init__")) = some (.type "function"))
theorem iniB_ok {K : PySem.W.Frag} {C : Addr} (h : iniB K C = true) : PySem.W.findIn K (.ref C) "__init__" = some (some (.ref (He.ma K C "__init__"))) ∧ PySem.W.typeIn K (.ref (He.ma K C "__init__")) = some (.type "function") := by
  obtain ⟨h1, h2⟩ := He.ba h
  exact ⟨He.eqO_ok h1, of_decide_eq_true h2⟩
def isiB (K : PySem.W.Frag) (C : Addr) : Bool := He.eqO (PySem.W.findIn K (.ref C) "__class__") (some (some (.builtin "object.__class__"))) && (He.eqO (PySem.W.specialIn K (.builtin "object.__class__") "__get__") (some (some (.builtin "getset_descriptor.__get__"))) &&
  (decide (PySem.W.takesIn K (.builtin "object.__class__") = some true) && decide (PySem.W.mroIn K C (.type "object") = some true)))
theorem isiB_ok {K : PySem.W.Frag} {C : Addr} (h : isiB K C = true) : SlX.SIsi K C := by
  obtain ⟨h1, h⟩ := He.ba h
  obtain ⟨h2, h⟩ := He.ba h
  obtain ⟨h3, h4⟩ := He.ba h
  exact ⟨He.eqO_ok h1, He.eqO_ok h2, of_decide_eq_true h3, of_decide_eq_true h4⟩
def kitB (K : PySem.W.Frag) (t c : Value) (b : Bool) : Bool := decide (PySem.W.kitOne K t c = some b)
theorem kitB_ok {K : PySem.W.Frag} {t c : Value} {b : Bool} (h : kitB K t c b = true) : PySem.W.kitOne K t c = some b := of_decide_eq_true h
/-- the class's own names -/
def nsOf (K : PySem.W.Frag) (C : Addr) : Addr := match K.lookup C with
  | some ⟨_, _, .cls cd, _⟩ => cd.ns
  | _ => 0
def strE (e : DictEntry) : Bool := match e.key with
  | .str _ _ => true
  | _ => false
def nsB (K : PySem.W.Frag) (N f : Addr) : Bool := match K.lookup N with
  | some ⟨_, _, .dict es _, _⟩ => es.toList.all strE && (decide (nsFind es "__eq__" = some (.ref f)) && decide (nsFind es "__ne__" = none))
  | _ => false
theorem nsB_ok {K : PySem.W.Frag} {N f : Addr} (h : nsB K N f = true) : ∃ (oN : Obj) (es : Array DictEntry) (ep : Nat), K.lookup N = some oN ∧ oN.data = .dict es ep ∧ StrKeys es ∧ nsFind es "__eq__" = some (.ref f) ∧ nsFind es "__ne__" = none := by
  unfold nsB at h
  split at h
  · rename_i oc od es ep sl e
    obtain ⟨h1, h⟩ := He.ba h
    obtain ⟨h2, h3⟩ := He.ba h
    refine ⟨_, es, ep, e, rfl, fun z hz => ?_, of_decide_eq_true h2, of_decide_eq_true h3⟩
    have := List.all_eq_true.mp h1 z (by simpa using hz)
    unfold strE at this
    split at this
    · rename_i n t q
      exact ⟨n, t, q⟩
    · cases this
  · cases h
def eqB (K : PySem.W.Frag) (C f : Addr) : Bool := He.eqO (PySem.W.findIn K (.ref C) "__eq__") (some (some (.ref f))) && (PySem.W.isFn K (.ref f) && (shapeB K C (fun r => decide (r = [.type "object"])) "object.__new__" && (nsB K (nsOf K C) f &&
  (match K.lookup f with
  | some ⟨.type c, _, _, _⟩ => decide (c = "function")
  | _ => false))))
theorem eqB_ok {K : PySem.W.Frag} {C f : Addr} (h : eqB K C f = true) : EqC K C f := by
  obtain ⟨h1, h⟩ := He.ba h
  obtain ⟨h2, h⟩ := He.ba h
  obtain ⟨h3, h⟩ := He.ba h
  obtain ⟨h4, h5⟩ := He.ba h
  obtain ⟨nm, q, N, bs, r, sn, sub, ab, col, dd, k0, k1, k2, k3, k5, e, er⟩ := shapeB_ok h3
  have er := of_decide_eq_true er
  subst er
  have eN : nsOf K C = N := by
    unfold nsOf
    rw [e]
  rw [eN] at h4
  obtain ⟨oN, es, ep, n1, n2, n3, n4, n5⟩ := nsB_ok h4
  have hf : ∃ oF, K.lookup f = some oF ∧ oF.cls = .type "function" := by
    split at h5
    · rename_i c od dt sl e
      exact ⟨_, e, congrArg Value.type (of_decide_eq_true h5)⟩
    · cases h5
  obtain ⟨oF, f1, f2⟩ := hf
  exact ⟨He.eqO_ok h1, h2, nm, q, N, bs, true, sn, sub, ab, col, dd, k0, k1, k2, k3, k5, "object.__new__", oN, oF, es, ep, e, n1, n2, n3, n4, n5, f1, f2⟩
def nilB (K : PySem.W.Frag) (t : Addr) : Bool := match K.lookup t with
  | some ⟨.type c, _, .seq its _, _⟩ => decide (c = "tuple") && decide (its.size = 0)
  | _ => false
theorem nilB_ok {K : PySem.W.Frag} {t : Addr} (h : nilB K t = true) (H : Hp) : SqT K H t [] := by
  unfold nilB at h
  split at h
  · rename_i c od its n sl e
    obtain ⟨h1, h2⟩ := He.ba h
    have z : its = #[] := Array.eq_empty_of_size_eq_zero (of_decide_eq_true h2)
    subst z
    exact .inr ⟨_, #[], n, e, congrArg Value.type (of_decide_eq_true h1), rfl, Nat.zero_le _, .nil⟩
  · cases h
/-! ### the names, the texts -/
abbrev dAll : He.Defn := ("_law_all_right", none)
abbrev dNone : He.Defn := ("_law_none_right", none)
def tZero (K : PySem.W.Frag) : Addr := He.dflAt ("Counters", some "__init__") 0 K
abbrev dF (x : Str) (st : Stmt) : He.DefD := ⟨(x, none), x, x, defArgs st, defBody st, defScope st, [], []⟩
abbrev dM (C m q : Str) (st : Stmt) (ds : List He.Dv) : He.DefD := ⟨(C, some m), m, q, defArgs st, defBody st, defScope st, ds, []⟩
def fn : List He.DefD := [
  dF "is_number" s_is_number,
  dF "is_below" s_is_below,
  dF "is_sequence" s_is_sequence,
  dF "first_not_below" s_first_not_below,
  dF "row_of" s_row_of,
  dF "_are_rests" s_are_rests,
  dF "need_fit" s_need_fit,
  dF "is_finite" s_is_finite,
  dF "_need_kind" s_need_kind,
  dF "_shows" s_shows,
  dF "shown_number" s_shown_number,
  dF "showing_of" s_showing_of,
  dF "shown_of" s_shown_of,
  dF "shown" s_shown,
  dF "_can_show" s_can_show,
  dF "check_showing" s_check_showing,
  dF "shown_on" s_shown_on,
  dF "_sizes" s_sizes,
  dF "showings_many" s_showings_many,
  dF "all_showings" s_all_showings,
  dF "_is_table" s_is_table,
  dF "_law_box" s_law_box,
  dF "_law_take" s_law_take,
  dF "_law_pick" s_law_pick,
  dF "_law_later" s_law_later,
  dF "_law_shows" s_law_shows,
  dF "_law_all" s_law_all,
  dF "_law_heard" s_law_heard,
  dF "_law_row_right" s_law_row_right,
  dF "_law_all_right" s_law_all_right,
  dF "_law_wide_right" s_law_wide_right,
  dF "_law_none_right" s_law_none_right,
  dF "law" s_law,
  dM "BadMachine" "__init__" "BadMachine.__init__" s_BadMachine_init [],
  dM "BadRow" "__init__" "BadRow.__init__" s_BadRow_init [],
  dM "BadShowing" "__init__" "BadShowing.__init__" s_BadShowing_init [],
  dM "Refused" "__init__" "Refused.__init__" s_Refused_init [],
  dM "TooGreat" "__init__" "TooGreat.__init__" s_TooGreat_init [],
  dM "NoDeed" "__init__" "NoDeed.__init__" s_NoDeed_init [],
  dM "Counters" "__init__" "Counters.__init__" s_Counters_init [.adr tZero],
  dM "Counters" "__eq__" "Counters.__eq__" s_Counters_eq [],
  dM "Machine" "__init__" "Machine.__init__" s_Machine_init []]
def fa : List He.Fa := [
  .glo "is_number", .glo "is_below", .glo "is_sequence", .glo "first_not_below", .glo "row_of", .glo "_are_rests", .glo "need_fit", .glo "is_finite",
  .glo "_need_kind", .glo "_shows", .glo "shown_number", .glo "showing_of", .glo "shown_of", .glo "shown", .glo "_can_show", .glo "check_showing",
  .glo "shown_on", .glo "_sizes", .glo "showings_many", .glo "all_showings", .glo "_is_table", .glo "_law_box", .glo "_law_take", .glo "_law_pick",
  .glo "_law_later", .glo "_law_shows", .glo "_law_all", .glo "_law_heard", .glo "_law_row_right", .glo "_law_all_right", .glo "_law_wide_right", .glo "_law_none_right",
  .glo "law", .glo "WitnessError", .glo "BadMachine", .glo "BadRow", .glo "BadShowing", .glo "Refused", .glo "TooGreat", .glo "NoDeed",
  .glo "Counters", .glo "Machine", .free "KeyError", .free "ValueError", .free "abs", .free "bool", .free "enumerate", .free "int",
  .free "isinstance", .free "len", .free "list", .free "min", .free "range", .free "repr", .free "tuple", .free "zip",
  .int "DEEDS_MOST" 4, .int "STATES_MOST" 8, .int "ROW_MOST" 400, .int "ROUND_MOST" 60, .int "REST_MOST" 6, .cls "Counters", .cls "Machine", .mkr "Counters",
  .mkr "Machine", .noat "Counters" "rounds", .noat "Counters" "rests", .noat "Machine" "deeds", .noat "Machine" "states", .noat "Machine" "tables", .noat "BadMachine" "at", .noat "BadRow" "at",
  .noat "BadShowing" "at", .noat "Refused" "at", .noat "TooGreat" "most", .noat "NoDeed" "deed", .exm "BadRow" "BadRow" true, .exm "BadShowing" "BadRow" false, .exm "BadShowing" "BadShowing" true, .exm "Refused" "BadRow" false,
  .exm "Refused" "BadShowing" false, .exm "Refused" "Refused" true, .exm "TooGreat" "BadRow" false, .exm "TooGreat" "BadShowing" false, .exm "TooGreat" "Refused" false, .exm "TooGreat" "TooGreat" true, .exm "NoDeed" "BadRow" false, .exm "NoDeed" "BadShowing" false,
  .exm "NoDeed" "Refused" false, .exm "NoDeed" "TooGreat" false, .exm "NoDeed" "NoDeed" true]
def tf : List He.Defn := [dAll, dNone]
def bools (K : PySem.W.Frag) : List Bool := [
  oexB K (He.ga K "BadMachine"),
  oexB K (He.ga K "BadRow"),
  oexB K (He.ga K "BadShowing"),
  oexB K (He.ga K "Refused"),
  oexB K (He.ga K "TooGreat"),
  keyB K (He.ga K "NoDeed"),
  excB K (He.ga K "BadRow"),
  excB K (He.ga K "BadShowing"),
  excB K (He.ga K "Refused"),
  excB K (He.ga K "TooGreat"),
  excB K (He.ga K "NoDeed"),
  iniB K (He.ga K "BadMachine"),
  iniB K (He.ga K "BadRow"),
  iniB K (He.ga K "BadShowing"),
  iniB K (He.ga K "Refused"),
  iniB K (He.ga K "TooGreat"),
  iniB K (He.ga K "NoDeed"),
  isiB K (He.ga K "Counters"),
  kitB K (.ref (He.ga K "Counters")) (.ref (He.ga K "Counters")) true,
  kitB K (.type "tuple") (.ref (He.ga K "Counters")) false,
  kitB K (.type "NoneType") (.ref (He.ga K "Counters")) false,
  kitB K (.type "bool") (.ref (He.ga K "Counters")) false,
  kitB K (.type "int") (.ref (He.ga K "Counters")) false,
  kitB K (.type "str") (.ref (He.ga K "Counters")) false,
  kitB K (.type "list") (.ref (He.ga K "Counters")) false,
  kitB K (.ref (He.ga K "BadRow")) (.ref (He.ga K "WitnessError")) true,
  kitB K (.ref (He.ga K "BadShowing")) (.ref (He.ga K "WitnessError")) true,
  kitB K (.ref (He.ga K "Refused")) (.ref (He.ga K "WitnessError")) true,
  kitB K (.ref (He.ga K "TooGreat")) (.ref (He.ga K "WitnessError")) true,
  PySem.W.notFirst K (He.ga K "Counters") (.type "tuple"),
  eqB K (He.ga K "Counters") (He.ma K (He.ga K "Counters") "__eq__"),
  nilB K (tZero K),
  decide ((He.cT K dAll).2 ≠ (He.cT K dNone).2)]
def ex (K : PySem.W.Frag) : Bool := (bools K).all id
theorem ex_at {K : PySem.W.Frag} (h : ex K = true) (i : Nat) {b : Bool} (e : (bools K)[i]? = some b) : b = true := List.all_eq_true.mp h b (List.mem_of_getElem? e)
/-! ### how arguments are bound -/
theorem vals_getD : ∀ {vs : List V} {us : List Value} (i : Nat), Vals vs us → RelV (vs.getD i .non) (us.getD i .none)
  | [], [], _, _ => rfl
  | _ :: _, _ :: _, 0, .cons h _ => h
  | _ :: _, _ :: _, i + 1, .cons _ h => by
    have := vals_getD i h
    simpa using this
def wk1 : List Value → List Value → List Value := fun _ ws => [ws.getD 0 .none]
def wk2 : List Value → List Value → List Value := fun _ ws => [ws.getD 1 .none, ws.getD 0 .none]
def wk3 : List Value → List Value → List Value := fun _ ws => [ws.getD 2 .none, ws.getD 1 .none, ws.getD 0 .none]
section
variable {K : PySem.W.Frag} {x qual : Str} {params : Arguments} {body : List Stmt} {scope : Scope} {kws : List (Str × V)} {f : Addr} {fd : FuncData} {ps ks : List Str} {n : Nat}
theorem kbn_of {g : List Value → List Value → List Value} {gV : List V → List V → List V} (F : FunD K x qual params body scope [] kws f fd) (rel : ∀ {vs us zs ws}, Vals vs us → Vals zs ws → Vals (gV vs zs) (g us ws))
    (h : ∀ (kV doc pm : Value) (an : Option Addr) (cdv ct : Value) (us ws : List Value), us.length = n → ws.length = ks.length → bindArgs (PySem.W.fnOf x qual params body scope .none kV doc pm an cdv ct) ⟨us, ks.zip ws⟩ = pure (ps.zip (g us ws))) : KBn K fd ps n ks g gV := by
  obtain ⟨oc, od, dV, kV, doc, pm, an, cdv, ct, osl, rfl, lk, hcd, hD, -⟩ := F.ex
  rcases hD with ⟨-, rfl⟩ | ⟨e, -⟩
  · exact ⟨fun s us ws _ l1 l2 => .of_eq (h kV doc pm an cdv ct us ws l1 l2), rel⟩
  · exact absurd rfl e
theorem rel1 {vs : List V} {us : List Value} {zs : List V} {ws : List Value} (_ : Vals vs us) (h : Vals zs ws) : Vals (kw1 vs zs) (wk1 us ws) := .cons (vals_getD 0 h) .nil
theorem rel2 {vs : List V} {us : List Value} {zs : List V} {ws : List Value} (_ : Vals vs us) (h : Vals zs ws) : Vals (kw2 vs zs) (wk2 us ws) := .cons (vals_getD 1 h) (.cons (vals_getD 0 h) .nil)
theorem rel3 {vs : List V} {us : List Value} {zs : List V} {ws : List Value} (_ : Vals vs us) (h : Vals zs ws) : Vals (kw3 vs zs) (wk3 us ws) := .cons (vals_getD 2 h) (.cons (vals_getD 1 h) (.cons (vals_getD 0 h) .nil))
/-- a def's code object -/
theorem code_of {p : Str × Option Str} {st : Stmt} {z : Str} (F : FnP K z st (He.fAd K p) fd) : fd.code = .ref (He.cT K p).1 := by
  obtain ⟨oc, od, dV, kV, doc, pm, an, cdv, ct, osl, rfl, lk, hcd, -, -⟩ := F.ex
  obtain ⟨c, rfl⟩ := He.codeIn_ref hcd
  show Value.ref c = .ref (He.codeOf K p)
  rw [He.codeOf_eq lk rfl]
end
end K3
/-! the bundles, by what the head tells -/
namespace K3
open PySem PySem.Spec PyProof.Rows L2 Kx RZ
def adOf (K : PySem.W.Frag) : Ad := ⟨He.ga K "BadMachine", He.ga K "BadRow", He.ga K "BadShowing", He.ga K "Refused", He.ga K "TooGreat", He.ga K "NoDeed", He.ma K (He.ga K "NoDeed") "__init__"⟩
abbrev Says (w : World) (h : Heap) (K : PySem.W.Frag) : Prop := He.SaysX fa fn [] tf ex w h K
section
variable {P : Program} {w : World} {K : PySem.W.Frag} {h : Heap} {mg : Str → Option Value}
theorem mg_of (X : K.In h) (G : h.Ns mainGlobals mg) (c : Says w h K) : Mg mg where
  z_KeyError := He.free_ok X G (c.t.d.fact 42 (f := .free "KeyError") rfl)
  z_ValueError := He.free_ok X G (c.t.d.fact 43 (f := .free "ValueError") rfl)
  z_abs := He.free_ok X G (c.t.d.fact 44 (f := .free "abs") rfl)
  z_bool := He.free_ok X G (c.t.d.fact 45 (f := .free "bool") rfl)
  z_enumerate := He.free_ok X G (c.t.d.fact 46 (f := .free "enumerate") rfl)
  z_int := He.free_ok X G (c.t.d.fact 47 (f := .free "int") rfl)
  z_isinstance := He.free_ok X G (c.t.d.fact 48 (f := .free "isinstance") rfl)
  z_len := He.free_ok X G (c.t.d.fact 49 (f := .free "len") rfl)
  z_list := He.free_ok X G (c.t.d.fact 50 (f := .free "list") rfl)
  z_min := He.free_ok X G (c.t.d.fact 51 (f := .free "min") rfl)
  z_range := He.free_ok X G (c.t.d.fact 52 (f := .free "range") rfl)
  z_repr := He.free_ok X G (c.t.d.fact 53 (f := .free "repr") rfl)
  z_tuple := He.free_ok X G (c.t.d.fact 54 (f := .free "tuple") rfl)
  z_zip := He.free_ok X G (c.t.d.fact 55 (f := .free "zip") rfl)
  g_DEEDS_MOST := He.int_ok X G (c.t.d.fact 56 (f := .int "DEEDS_MOST" 4) rfl)
  g_STATES_MOST := He.int_ok X G (c.t.d.fact 57 (f := .int "STATES_MOST" 8) rfl)
  g_ROW_MOST := He.int_ok X G (c.t.d.fact 58 (f := .int "ROW_MOST" 400) rfl)
  g_ROUND_MOST := He.int_ok X G (c.t.d.fact 59 (f := .int "ROUND_MOST" 60) rfl)
  g_REST_MOST := He.int_ok X G (c.t.d.fact 60 (f := .int "REST_MOST" 6) rfl)
theorem clsC_of (X : K.In h) (G : h.Ns mainGlobals mg) (c : Says w h K) : ClsC K mg (He.ga K "Counters") where
  at_ := (He.glo_ok X G (c.t.d.fact 40 (f := .glo "Counters") rfl))
  cl := He.cls_ok (c.t.d.fact 61 (f := .cls "Counters") rfl)
  n1 := (He.noat_ok (c.t.d.fact 65 (f := .noat "Counters" "rounds") rfl))
  n2 := (He.noat_ok (c.t.d.fact 66 (f := .noat "Counters" "rests") rfl))
  isi := isiB_ok (ex_at c.more 17 rfl)
  yes := kitB_ok (ex_at c.more 18 rfl)
  notT := kitB_ok (ex_at c.more 19 rfl)
  first := (ex_at c.more 29 rfl)
theorem clsM_of (X : K.In h) (G : h.Ns mainGlobals mg) (c : Says w h K) : ClsM K mg (He.ga K "Machine") where
  at_ := (He.glo_ok X G (c.t.d.fact 41 (f := .glo "Machine") rfl))
  cl := He.cls_ok (c.t.d.fact 62 (f := .cls "Machine") rfl)
  n1 := (He.noat_ok (c.t.d.fact 67 (f := .noat "Machine" "deeds") rfl))
  n2 := (He.noat_ok (c.t.d.fact 68 (f := .noat "Machine" "states") rfl))
  n3 := (He.noat_ok (c.t.d.fact 69 (f := .noat "Machine" "tables") rfl))
theorem hd_of (X : K.In h) (G : h.Ns mainGlobals mg) (c : Says w h K) : Hd K mg (adOf K) (He.ga K "Counters") (He.ga K "WitnessError") where
  g_W := (He.glo_ok X G (c.t.d.fact 33 (f := .glo "WitnessError") rfl))
  g_R := (He.glo_ok X G (c.t.d.fact 35 (f := .glo "BadRow") rfl))
  g_S := (He.glo_ok X G (c.t.d.fact 36 (f := .glo "BadShowing") rfl))
  g_F := (He.glo_ok X G (c.t.d.fact 37 (f := .glo "Refused") rfl))
  g_G := (He.glo_ok X G (c.t.d.fact 38 (f := .glo "TooGreat") rfl))
  g_D := (He.glo_ok X G (c.t.d.fact 39 (f := .glo "NoDeed") rfl))
  x_R := excB_xf (ex_at c.more 6 rfl)
  x_S := excB_xf (ex_at c.more 7 rfl)
  x_F := excB_xf (ex_at c.more 8 rfl)
  x_G := excB_xf (ex_at c.more 9 rfl)
  x_D := excB_xf (ex_at c.more 10 rfl)
  n_R := (He.noat_ok (c.t.d.fact 71 (f := .noat "BadRow" "at") rfl))
  n_S := (He.noat_ok (c.t.d.fact 72 (f := .noat "BadShowing" "at") rfl))
  n_F := (He.noat_ok (c.t.d.fact 73 (f := .noat "Refused" "at") rfl))
  n_G := (He.noat_ok (c.t.d.fact 74 (f := .noat "TooGreat" "most") rfl))
  n_D := (He.noat_ok (c.t.d.fact 75 (f := .noat "NoDeed" "deed") rfl))
  e_R := excB_ok (ex_at c.more 6 rfl)
  e_S := excB_ok (ex_at c.more 7 rfl)
  e_F := excB_ok (ex_at c.more 8 rfl)
  e_G := excB_ok (ex_at c.more 9 rfl)
  k_R := kitB_ok (ex_at c.more 25 rfl)
  k_S := kitB_ok (ex_at c.more 26 rfl)
  k_F := kitB_ok (ex_at c.more 27 rfl)
  k_G := kitB_ok (ex_at c.more 28 rfl)
  m_RR := (He.exm_ok (c.t.d.fact 76 (f := .exm "BadRow" "BadRow" true) rfl))
  m_SR := (He.exm_ok (c.t.d.fact 77 (f := .exm "BadShowing" "BadRow" false) rfl))
  m_SS := (He.exm_ok (c.t.d.fact 78 (f := .exm "BadShowing" "BadShowing" true) rfl))
  m_FR := (He.exm_ok (c.t.d.fact 79 (f := .exm "Refused" "BadRow" false) rfl))
  m_FS := (He.exm_ok (c.t.d.fact 80 (f := .exm "Refused" "BadShowing" false) rfl))
  m_FF := (He.exm_ok (c.t.d.fact 81 (f := .exm "Refused" "Refused" true) rfl))
  m_GR := (He.exm_ok (c.t.d.fact 82 (f := .exm "TooGreat" "BadRow" false) rfl))
  m_GS := (He.exm_ok (c.t.d.fact 83 (f := .exm "TooGreat" "BadShowing" false) rfl))
  m_GF := (He.exm_ok (c.t.d.fact 84 (f := .exm "TooGreat" "Refused" false) rfl))
  m_GG := (He.exm_ok (c.t.d.fact 85 (f := .exm "TooGreat" "TooGreat" true) rfl))
  m_DR := (He.exm_ok (c.t.d.fact 86 (f := .exm "NoDeed" "BadRow" false) rfl))
  m_DS := (He.exm_ok (c.t.d.fact 87 (f := .exm "NoDeed" "BadShowing" false) rfl))
  m_DF := (He.exm_ok (c.t.d.fact 88 (f := .exm "NoDeed" "Refused" false) rfl))
  m_DG := (He.exm_ok (c.t.d.fact 89 (f := .exm "NoDeed" "TooGreat" false) rfl))
  m_DD := (He.exm_ok (c.t.d.fact 90 (f := .exm "NoDeed" "NoDeed" true) rfl))
  not_non := kitB_ok (ex_at c.more 20 rfl)
  not_bl := kitB_ok (ex_at c.more 21 rfl)
  not_int := kitB_ok (ex_at c.more 22 rfl)
  not_str := kitB_ok (ex_at c.more 23 rfl)
  not_lst := kitB_ok (ex_at c.more 24 rfl)
  not_tup := kitB_ok (ex_at c.more 19 rfl)
end
theorem errC_of {P : Program} {w : World} {K : PySem.W.Frag} {mg : Str → Option Value} {base : Heap} {x f qual : Str} {C : Addr} {fd : FuncData} {params : Arguments} {scope : Scope} {p1 p2 p3 p4 : Pos} (at_ : mg x = some (.ref C)) (cls : OexC K C) (no : PySem.W.findIn K (.ref C) f = some none) (ini : iniB K C = true)
    (F : FunD K "__init__" qual params [.Assign [.Attribute (.Name "self" p1) f p2] (.Name f p3) p4] scope [] [] (He.ma K C "__init__") fd)
    (sc : FnScope ["self", f] ["self", f] scope) (hd : (f == ("__debug__" : Str)) = false) (hcd : (f == ("__classdict__" : Str)) = false) (l0 : scope.names.lookup ("self" : Str) = some .local) (l1 : scope.names.lookup f = some .local)
    (b : Binds K fd ["self", f] []) : ErrC P w K mg base 1 x f C :=
  ⟨at_, cls, no, _, fd, (iniB_ok ini).1, (iniB_ok ini).2, b, ok_keep F cls no sc hd hcd l0 l1⟩
theorem sc_BadMachine : FnScope ["self", "at"] ["self", "at"] (defScope s_BadMachine_init) := ⟨rfl, rfl, rfl, by decide +kernel, rfl, by decide +kernel, by decide +kernel⟩
theorem err_BadMachine {P : Program} {w w' : World} {K : PySem.W.Frag} {h base : Heap} {mg : Str → Option Value} (X : K.In h) (G : h.Ns mainGlobals mg) (c : Says w' h K) : ErrC P w K mg base 1 "BadMachine" "at" (He.ga K "BadMachine") := by
  obtain ⟨fd, F⟩ := c.t.d.def_ 33 rfl
  exact errC_of (He.glo_ok X G (c.t.d.fact 34 (f := .glo "BadMachine") rfl)) (oexB_ok (ex_at c.more 0 rfl)) (He.noat_ok (c.t.d.fact 70 (f := .noat "BadMachine" "at") rfl)) (ex_at c.more 11 rfl) F sc_BadMachine (by decide) (by decide) (by decide +kernel) (by decide +kernel) (F.bindsN fun _ _ _ _ _ _ us hl => match us, hl with | [_, _], _ => rfl)
theorem sc_BadRow : FnScope ["self", "at"] ["self", "at"] (defScope s_BadRow_init) := ⟨rfl, rfl, rfl, by decide +kernel, rfl, by decide +kernel, by decide +kernel⟩
theorem err_BadRow {P : Program} {w w' : World} {K : PySem.W.Frag} {h base : Heap} {mg : Str → Option Value} (X : K.In h) (G : h.Ns mainGlobals mg) (c : Says w' h K) : ErrC P w K mg base 1 "BadRow" "at" (He.ga K "BadRow") := by
  obtain ⟨fd, F⟩ := c.t.d.def_ 34 rfl
  exact errC_of (He.glo_ok X G (c.t.d.fact 35 (f := .glo "BadRow") rfl)) (oexB_ok (ex_at c.more 1 rfl)) (He.noat_ok (c.t.d.fact 71 (f := .noat "BadRow" "at") rfl)) (ex_at c.more 12 rfl) F sc_BadRow (by decide) (by decide) (by decide +kernel) (by decide +kernel) (F.bindsN fun _ _ _ _ _ _ us hl => match us, hl with | [_, _], _ => rfl)
theorem sc_BadShowing : FnScope ["self", "at"] ["self", "at"] (defScope s_BadShowing_init) := ⟨rfl, rfl, rfl, by decide +kernel, rfl, by decide +kernel, by decide +kernel⟩
theorem err_BadShowing {P : Program} {w w' : World} {K : PySem.W.Frag} {h base : Heap} {mg : Str → Option Value} (X : K.In h) (G : h.Ns mainGlobals mg) (c : Says w' h K) : ErrC P w K mg base 1 "BadShowing" "at" (He.ga K "BadShowing") := by
  obtain ⟨fd, F⟩ := c.t.d.def_ 35 rfl
  exact errC_of (He.glo_ok X G (c.t.d.fact 36 (f := .glo "BadShowing") rfl)) (oexB_ok (ex_at c.more 2 rfl)) (He.noat_ok (c.t.d.fact 72 (f := .noat "BadShowing" "at") rfl)) (ex_at c.more 13 rfl) F sc_BadShowing (by decide) (by decide) (by decide +kernel) (by decide +kernel) (F.bindsN fun _ _ _ _ _ _ us hl => match us, hl with | [_, _], _ => rfl)
theorem sc_Refused : FnScope ["self", "at"] ["self", "at"] (defScope s_Refused_init) := ⟨rfl, rfl, rfl, by decide +kernel, rfl, by decide +kernel, by decide +kernel⟩
theorem err_Refused {P : Program} {w w' : World} {K : PySem.W.Frag} {h base : Heap} {mg : Str → Option Value} (X : K.In h) (G : h.Ns mainGlobals mg) (c : Says w' h K) : ErrC P w K mg base 1 "Refused" "at" (He.ga K "Refused") := by
  obtain ⟨fd, F⟩ := c.t.d.def_ 36 rfl
  exact errC_of (He.glo_ok X G (c.t.d.fact 37 (f := .glo "Refused") rfl)) (oexB_ok (ex_at c.more 3 rfl)) (He.noat_ok (c.t.d.fact 73 (f := .noat "Refused" "at") rfl)) (ex_at c.more 14 rfl) F sc_Refused (by decide) (by decide) (by decide +kernel) (by decide +kernel) (F.bindsN fun _ _ _ _ _ _ us hl => match us, hl with | [_, _], _ => rfl)
theorem sc_TooGreat : FnScope ["self", "most"] ["self", "most"] (defScope s_TooGreat_init) := ⟨rfl, rfl, rfl, by decide +kernel, rfl, by decide +kernel, by decide +kernel⟩
theorem err_TooGreat {P : Program} {w w' : World} {K : PySem.W.Frag} {h base : Heap} {mg : Str → Option Value} (X : K.In h) (G : h.Ns mainGlobals mg) (c : Says w' h K) : ErrC P w K mg base 1 "TooGreat" "most" (He.ga K "TooGreat") := by
  obtain ⟨fd, F⟩ := c.t.d.def_ 37 rfl
  exact errC_of (He.glo_ok X G (c.t.d.fact 38 (f := .glo "TooGreat") rfl)) (oexB_ok (ex_at c.more 4 rfl)) (He.noat_ok (c.t.d.fact 74 (f := .noat "TooGreat" "most") rfl)) (ex_at c.more 15 rfl) F sc_TooGreat (by decide) (by decide) (by decide +kernel) (by decide +kernel) (F.bindsN fun _ _ _ _ _ _ us hl => match us, hl with | [_, _], _ => rfl)
theorem txt_NoDeed {w' : World} {K : PySem.W.Frag} {h : Heap} (c : Says w' h K) : KD.Txt K (He.ga K "NoDeed") (He.ma K (He.ga K "NoDeed") "__init__") "NoDeed.__init__" := by
  obtain ⟨fd, F⟩ := c.t.d.def_ 38 rfl
  obtain ⟨oc, od, dV, kV, doc, pm, an, cdv, ct, osl, rfl, lk, hcd, hD, -⟩ := F.ex
  have z : dV = .none := by
    rcases hD with ⟨_, z⟩ | ⟨z, _⟩
    · exact z
    · exact absurd rfl z
  exact ⟨keyB_ok (ex_at c.more 5 rfl), (He.noat_ok (c.t.d.fact 75 (f := .noat "NoDeed" "deed") rfl)), (iniB_ok (ex_at c.more 16 rfl)).1, (iniB_ok (ex_at c.more 16 rfl)).2, oc, od, dV, kV, doc, pm, an, cdv, ct, osl, _, _, _, _, _, _, lk, hcd, z⟩
theorem er_of {P : Program} {w w' : World} {K : PySem.W.Frag} {h base : Heap} {mg : Str → Option Value} (X : K.In h) (G : h.Ns mainGlobals mg) (c : Says w' h K) : Er P w K mg base (adOf K) where
  BadMachine := err_BadMachine X G c
  BadRow := err_BadRow X G c
  BadShowing := err_BadShowing X G c
  Refused := err_Refused X G c
  TooGreat := err_TooGreat X G c
  NoDeed := txt_NoDeed c
  n_NoDeed := (He.glo_ok X G (c.t.d.fact 39 (f := .glo "NoDeed") rfl))
section
variable {P : Program} {w : World} {K : PySem.W.Frag} {mg : Str → Option Value} {base : Heap} {x qual : Str} {params : Arguments} {body : List Stmt} {scope : Scope} {f : Addr} {fd : FuncData} {ps ks : List Str} {k n : Nat} {CX : CXT} {sp : Sp}
/-- a def by its name -/
theorem cal_of (at_ : mg x = some (.ref f)) (F : FunD K x qual params body scope [] [] f fd) (ok : FnOk P w K mg base CX k f fd ps sp) (h : ∀ (kV doc pm : Value) (an : Option Addr) (cdv ct : Value) (us : List Value), us.length = ps.length → bindArgs (PySem.W.fnOf x qual params body scope .none kV doc pm an cdv ct) ⟨us, []⟩ = pure (ps.zip us)) :
    Cal P w K mg base CX k x ps sp := ⟨_, _, at_, F.kp, F.bindsN h, ok⟩
theorem calN_of {g : List Value → List Value → List Value} {gV : List V → List V → List V} (at_ : mg x = some (.ref f)) (F : FunD K x qual params body scope [] [] f fd) (ok : FnOk P w K mg base CX k f fd ps sp) (rel : ∀ {vs us zs ws}, Vals vs us → Vals zs ws → Vals (gV vs zs) (g us ws))
    (h : ∀ (kV doc pm : Value) (an : Option Addr) (cdv ct : Value) (us ws : List Value), us.length = n → ws.length = ks.length → bindArgs (PySem.W.fnOf x qual params body scope .none kV doc pm an cdv ct) ⟨us, ks.zip ws⟩ = pure (ps.zip (g us ws))) : CalN P w K mg base CX k n x ps ks gV sp :=
  ⟨_, _, g, at_, F.kp, kbn_of F rel h, ok⟩
end
section
variable {P : Program} {w w' : World} {K : PySem.W.Frag} {h base : Heap} {mg : Str → Option Value}
theorem fns_of (X : K.In h) (G : h.Ns mainGlobals mg) (c : Says w' h K) : Fns P w K mg base (adOf K) (He.ga K "Counters") (He.ga K "Machine") := by
  have T := mg_of X G c
  have TC := clsC_of X G c
  have R : Er P w K mg base (adOf K) := er_of X G c
  obtain ⟨fdn, Fn⟩ := c.t.d.def_ 0 (d := dF "is_number" s_is_number) rfl
  have fn : FnOk P w K mg base CX0 1 (He.ga K "is_number") fdn ["value"] (spNumber K) := ok_is_number Fn T
  have cn : Cal P w K mg base CX0 1 "is_number" ["value"] (spNumber K) := cal_of (He.glo_ok X G (c.t.d.fact 0 (f := .glo "is_number") rfl)) Fn fn fun _ _ _ _ _ _ us hl => match us, hl with | [_], _ => rfl
  obtain ⟨fdb, Fb⟩ := c.t.d.def_ 1 (d := dF "is_below" s_is_below) rfl
  have fb : FnOk P w K mg base CX0 2 (He.ga K "is_below") fdb ["value", "limit"] (spBelow K) := ok_is_below Fb T cn
  have cb : Cal P w K mg base CX0 2 "is_below" ["value", "limit"] (spBelow K) := cal_of (He.glo_ok X G (c.t.d.fact 1 (f := .glo "is_below") rfl)) Fb fb fun _ _ _ _ _ _ us hl => match us, hl with | [_, _], _ => rfl
  obtain ⟨fds, Fs⟩ := c.t.d.def_ 2 (d := dF "is_sequence" s_is_sequence) rfl
  have fs : FnOk P w K mg base CX0 1 (He.ga K "is_sequence") fds ["value", "least", "most"] (spSeq K) := ok_is_sequence Fs T
  have cs : Cal P w K mg base CX0 1 "is_sequence" ["value", "least", "most"] (spSeq K) := cal_of (He.glo_ok X G (c.t.d.fact 2 (f := .glo "is_sequence") rfl)) Fs fs fun _ _ _ _ _ _ us hl => match us, hl with | [_, _, _], _ => rfl
  obtain ⟨fdl, Fl⟩ := c.t.d.def_ 3 (d := dF "first_not_below" s_first_not_below) rfl
  have fl : FnOk P w K mg base CX0 3 (He.ga K "first_not_below") fdl ["values", "limit"] (spFnb K) := ok_first_not_below Fl T cb
  have cl : Cal P w K mg base CX0 3 "first_not_below" ["values", "limit"] (spFnb K) := cal_of (He.glo_ok X G (c.t.d.fact 3 (f := .glo "first_not_below") rfl)) Fl fl fun _ _ _ _ _ _ us hl => match us, hl with | [_, _], _ => rfl
  obtain ⟨fdr, Fr⟩ := c.t.d.def_ 4 (d := dF "row_of" s_row_of) rfl
  have fr : FnOk P w K mg base (L2.CX P w) 4 (He.ga K "row_of") fdr ["value", "deeds"] (spRowOf K (adOf K)) := ok_row_of Fr T R cs cl
  have cr : Cal P w K mg base (L2.CX P w) 4 "row_of" ["value", "deeds"] (spRowOf K (adOf K)) := cal_of (He.glo_ok X G (c.t.d.fact 4 (f := .glo "row_of") rfl)) Fr fr fun _ _ _ _ _ _ us hl => match us, hl with | [_, _], _ => rfl
  obtain ⟨fde, Fe⟩ := c.t.d.def_ 5 (d := dF "_are_rests" s_are_rests) rfl
  have fe : FnOk P w K mg base CX0 4 (He.ga K "_are_rests") fde ["value", "kinds"] (spRests K) := ok_are_rests Fe T cs cl
  have ce : Cal P w K mg base CX0 4 "_are_rests" ["value", "kinds"] (spRests K) := cal_of (He.glo_ok X G (c.t.d.fact 5 (f := .glo "_are_rests") rfl)) Fe fe fun _ _ _ _ _ _ us hl => match us, hl with | [_, _], _ => rfl
  obtain ⟨fdnf, Fnf⟩ := c.t.d.def_ 6 (d := dF "need_fit" s_need_fit) rfl
  have fnf : FnOk P w K mg base (L2.CX P w) 3 (He.ga K "need_fit") fdnf ["machine", "counters"] (spNeedFit K (adOf K) (He.ga K "Counters") (He.ga K "Machine")) := ok_need_fit Fnf T R TC
  have cnf : Cal P w K mg base (L2.CX P w) 3 "need_fit" ["machine", "counters"] (spNeedFit K (adOf K) (He.ga K "Counters") (He.ga K "Machine")) := cal_of (He.glo_ok X G (c.t.d.fact 6 (f := .glo "need_fit") rfl)) Fnf fnf fun _ _ _ _ _ _ us hl => match us, hl with | [_, _], _ => rfl
  obtain ⟨fdfi, Ffi⟩ := c.t.d.def_ 7 (d := dF "is_finite" s_is_finite) rfl
  have ffi : FnOk P w K mg base CX0 1 (He.ga K "is_finite") fdfi ["counters"] (spFinite K (He.ga K "Counters")) := ok_is_finite Ffi T TC
  have cfi : Cal P w K mg base CX0 1 "is_finite" ["counters"] (spFinite K (He.ga K "Counters")) := cal_of (He.glo_ok X G (c.t.d.fact 7 (f := .glo "is_finite") rfl)) Ffi ffi fun _ _ _ _ _ _ us hl => match us, hl with | [_], _ => rfl
  obtain ⟨fdnk, Fnk⟩ := c.t.d.def_ 8 (d := dF "_need_kind" s_need_kind) rfl
  have fnk : FnOk P w K mg base (L2.CX P w) 3 (He.ga K "_need_kind") fdnk ["counters", "kind"] (spNeedKind K (adOf K) (He.ga K "Counters")) := ok_need_kind Fnk T R TC cb
  have cnk : Cal P w K mg base (L2.CX P w) 3 "_need_kind" ["counters", "kind"] (spNeedKind K (adOf K) (He.ga K "Counters")) := cal_of (He.glo_ok X G (c.t.d.fact 8 (f := .glo "_need_kind") rfl)) Fnk fnk fun _ _ _ _ _ _ us hl => match us, hl with | [_, _], _ => rfl
  obtain ⟨fdsh, Fsh⟩ := c.t.d.def_ 9 (d := dF "_shows" s_shows) rfl
  have fsh : FnOk P w K mg base CX0 1 (He.ga K "_shows") fdsh ["counters", "kind", "many"] (spShows K (He.ga K "Counters")) := ok_shows Fsh T TC
  have csh : Cal P w K mg base CX0 1 "_shows" ["counters", "kind", "many"] (spShows K (He.ga K "Counters")) := cal_of (He.glo_ok X G (c.t.d.fact 9 (f := .glo "_shows") rfl)) Fsh fsh fun _ _ _ _ _ _ us hl => match us, hl with | [_, _, _], _ => rfl
  obtain ⟨fdsn, Fsn⟩ := c.t.d.def_ 10 (d := dF "shown_number" s_shown_number) rfl
  have fsn : FnOk P w K mg base (L2.CX P w) 4 (He.ga K "shown_number") fdsn ["counters", "kind", "many"] (spShownNumber K (adOf K) (He.ga K "Counters")) := ok_shown_number Fsn T R cn cnk csh
  have csn : Cal P w K mg base (L2.CX P w) 4 "shown_number" ["counters", "kind", "many"] (spShownNumber K (adOf K) (He.ga K "Counters")) := cal_of (He.glo_ok X G (c.t.d.fact 10 (f := .glo "shown_number") rfl)) Fsn fsn fun _ _ _ _ _ _ us hl => match us, hl with | [_, _, _], _ => rfl
  obtain ⟨fdsgo, Fsgo⟩ := c.t.d.def_ 11 (d := dF "showing_of" s_showing_of) rfl
  have fsgo : FnOk P w K mg base CX0 2 (He.ga K "showing_of") fdsgo ["counters", "counts"] (spShowingOf K (He.ga K "Counters")) := ok_showing_of Fsgo T TC csh
  have csgo : Cal P w K mg base CX0 2 "showing_of" ["counters", "counts"] (spShowingOf K (He.ga K "Counters")) := cal_of (He.glo_ok X G (c.t.d.fact 11 (f := .glo "showing_of") rfl)) Fsgo fsgo fun _ _ _ _ _ _ us hl => match us, hl with | [_, _], _ => rfl
  obtain ⟨fdsf, Fsf⟩ := c.t.d.def_ 12 (d := dF "shown_of" s_shown_of) rfl
  have fsf : FnOk P w K mg base CX0 3 (He.ga K "shown_of") fdsf ["counters", "deeds"] (spShownOf K (He.ga K "Counters")) := ok_shown_of Fsf T TC csgo
  have csf : Cal P w K mg base CX0 3 "shown_of" ["counters", "deeds"] (spShownOf K (He.ga K "Counters")) := cal_of (He.glo_ok X G (c.t.d.fact 12 (f := .glo "shown_of") rfl)) Fsf fsf fun _ _ _ _ _ _ us hl => match us, hl with | [_, _], _ => rfl
  obtain ⟨fdsw, Fsw⟩ := c.t.d.def_ 13 (d := dF "shown" s_shown) rfl
  have fsw : FnOk P w K mg base (L2.CX P w) 5 (He.ga K "shown") fdsw ["counters", "row"] (spShown K (adOf K) (He.ga K "Counters")) := ok_shown Fsw T TC cr csf
  have csw : Cal P w K mg base (L2.CX P w) 5 "shown" ["counters", "row"] (spShown K (adOf K) (He.ga K "Counters")) := cal_of (He.glo_ok X G (c.t.d.fact 13 (f := .glo "shown") rfl)) Fsw fsw fun _ _ _ _ _ _ us hl => match us, hl with | [_, _], _ => rfl
  obtain ⟨fdca, Fca⟩ := c.t.d.def_ 14 (d := dF "_can_show" s_can_show) rfl
  have fca : FnOk P w K mg base CX0 3 (He.ga K "_can_show") fdca ["counters", "kind", "value"] (spCanShow K (He.ga K "Counters")) := ok_can_show Fca T TC cn cb
  have cca : Cal P w K mg base CX0 3 "_can_show" ["counters", "kind", "value"] (spCanShow K (He.ga K "Counters")) := cal_of (He.glo_ok X G (c.t.d.fact 14 (f := .glo "_can_show") rfl)) Fca fca fun _ _ _ _ _ _ us hl => match us, hl with | [_, _, _], _ => rfl
  obtain ⟨fdck, Fck⟩ := c.t.d.def_ 15 (d := dF "check_showing" s_check_showing) rfl
  have fck : FnOk P w K mg base (L2.CX P w) 4 (He.ga K "check_showing") fdck ["counters", "value"] (spCheck K (adOf K) (He.ga K "Counters")) := ok_check Fck T R TC cs cca
  have cck : Cal P w K mg base (L2.CX P w) 4 "check_showing" ["counters", "value"] (spCheck K (adOf K) (He.ga K "Counters")) := cal_of (He.glo_ok X G (c.t.d.fact 15 (f := .glo "check_showing") rfl)) Fck fck fun _ _ _ _ _ _ us hl => match us, hl with | [_, _], _ => rfl
  obtain ⟨fdso, Fso⟩ := c.t.d.def_ 16 (d := dF "shown_on" s_shown_on) rfl
  have fso : FnOk P w K mg base (L2.CX P w) 5 (He.ga K "shown_on") fdso ["counters", "showing", "deed"] (spShownOn K (adOf K) (He.ga K "Counters")) := ok_shown_on Fso T TC cck cnk csh
  have cso : Cal P w K mg base (L2.CX P w) 5 "shown_on" ["counters", "showing", "deed"] (spShownOn K (adOf K) (He.ga K "Counters")) := cal_of (He.glo_ok X G (c.t.d.fact 16 (f := .glo "shown_on") rfl)) Fso fso fun _ _ _ _ _ _ us hl => match us, hl with | [_, _, _], _ => rfl
  obtain ⟨fdsz, Fsz⟩ := c.t.d.def_ 17 (d := dF "_sizes" s_sizes) rfl
  have fsz : FnOk P w K mg base (L2.CX P w) 3 (He.ga K "_sizes") fdsz ["counters"] (spSizes K (adOf K) (He.ga K "Counters")) := ok_sizes Fsz T R TC cfi
  have csz : Cal P w K mg base (L2.CX P w) 3 "_sizes" ["counters"] (spSizes K (adOf K) (He.ga K "Counters")) := cal_of (He.glo_ok X G (c.t.d.fact 17 (f := .glo "_sizes") rfl)) Fsz fsz fun _ _ _ _ _ _ us hl => match us, hl with | [_], _ => rfl
  obtain ⟨fdsm, Fsm⟩ := c.t.d.def_ 18 (d := dF "showings_many" s_showings_many) rfl
  have fsm : FnOk P w K mg base (L2.CX P w) 4 (He.ga K "showings_many") fdsm ["counters"] (spMany K (adOf K) (He.ga K "Counters")) := ok_many Fsm T csz
  have csm : Cal P w K mg base (L2.CX P w) 4 "showings_many" ["counters"] (spMany K (adOf K) (He.ga K "Counters")) := cal_of (He.glo_ok X G (c.t.d.fact 18 (f := .glo "showings_many") rfl)) Fsm fsm fun _ _ _ _ _ _ us hl => match us, hl with | [_], _ => rfl
  obtain ⟨fdal, Fal⟩ := c.t.d.def_ 19 (d := dF "all_showings" s_all_showings) rfl
  have fal : FnOk P w K mg base (L2.CX P w) 5 (He.ga K "all_showings") fdal ["counters", "most"] (spAll K (adOf K) (He.ga K "Counters")) := ok_all Fal T R csm csz
  obtain ⟨fdlt, Flt⟩ := c.t.d.def_ 22 (d := dF "_law_take" s_law_take) rfl
  have flt : FnOk P w K mg base CX0 1 (He.ga K "_law_take") fdlt ["box", "many"] spTake := ok_take Flt T
  have clt : Cal P w K mg base CX0 1 "_law_take" ["box", "many"] spTake := cal_of (He.glo_ok X G (c.t.d.fact 22 (f := .glo "_law_take") rfl)) Flt flt fun _ _ _ _ _ _ us hl => match us, hl with | [_, _], _ => rfl
  obtain ⟨fdlp, Flp⟩ := c.t.d.def_ 23 (d := dF "_law_pick" s_law_pick) rfl
  have flp : FnOk P w K mg base CX0 2 (He.ga K "_law_pick") fdlp ["box", "some"] (spPick K) := ok_pick Flp T clt
  have clp : Cal P w K mg base CX0 2 "_law_pick" ["box", "some"] (spPick K) := cal_of (He.glo_ok X G (c.t.d.fact 23 (f := .glo "_law_pick") rfl)) Flp flp fun _ _ _ _ _ _ us hl => match us, hl with | [_, _], _ => rfl
  obtain ⟨fdlb, Flb⟩ := c.t.d.def_ 21 (d := dF "_law_box" s_law_box) rfl
  have flb : FnOk P w K mg base CX0 1 (He.ga K "_law_box") fdlb ["script", "k"] (spBox K) := ok_box Flb T
  have clb : Cal P w K mg base CX0 1 "_law_box" ["script", "k"] (spBox K) := cal_of (He.glo_ok X G (c.t.d.fact 21 (f := .glo "_law_box") rfl)) Flb flb fun _ _ _ _ _ _ us hl => match us, hl with | [_, _], _ => rfl
  obtain ⟨fdll, Fll⟩ := c.t.d.def_ 24 (d := dF "_law_later" s_law_later) rfl
  have fll : FnOk P w K mg base CX0 1 (He.ga K "_law_later") fdll ["turn", "rest", "number"] spLater := ok_later Fll T
  have cll : Cal P w K mg base CX0 1 "_law_later" ["turn", "rest", "number"] spLater := cal_of (He.glo_ok X G (c.t.d.fact 24 (f := .glo "_law_later") rfl)) Fll fll fun _ _ _ _ _ _ us hl => match us, hl with | [_, _, _], _ => rfl
  obtain ⟨fdlw, Flw⟩ := c.t.d.def_ 25 (d := dF "_law_shows" s_law_shows) rfl
  have flw : FnOk P w K mg base CX0 2 (He.ga K "_law_shows") fdlw ["rounds", "rests", "row"] (spLawShows K) := ok_law_shows Flw T cll
  have clw : Cal P w K mg base CX0 2 "_law_shows" ["rounds", "rests", "row"] (spLawShows K) := cal_of (He.glo_ok X G (c.t.d.fact 25 (f := .glo "_law_shows") rfl)) Flw flw fun _ _ _ _ _ _ us hl => match us, hl with | [_, _, _], _ => rfl
  obtain ⟨fdla, Fla⟩ := c.t.d.def_ 26 (d := dF "_law_all" s_law_all) rfl
  have fla : FnOk P w K mg base CX0 1 (He.ga K "_law_all") fdla ["rounds", "rests"] (spLawAll K) := ok_law_all Fla T
  have cla : Cal P w K mg base CX0 1 "_law_all" ["rounds", "rests"] (spLawAll K) := cal_of (He.glo_ok X G (c.t.d.fact 26 (f := .glo "_law_all") rfl)) Fla fla fun _ _ _ _ _ _ us hl => match us, hl with | [_, _], _ => rfl
  exact {
    take := clt
    pick := clp
    box := clb
    lshows := clw
    lall := cla
    shown := csw
    shownK := calN_of (g := wk2) (He.glo_ok X G (c.t.d.fact 13 (f := .glo "shown") rfl)) Fsw fsw rel2 fun _ _ _ _ _ _ us ws hl hm => match us, ws, hl, hm with | [], [_, _], _, _ => rfl
    check := cck
    checkK := calN_of (g := wk2) (He.glo_ok X G (c.t.d.fact 15 (f := .glo "check_showing") rfl)) Fck fck rel2 fun _ _ _ _ _ _ us ws hl hm => match us, ws, hl, hm with | [], [_, _], _, _ => rfl
    on := cso
    onK := calN_of (g := wk3) (He.glo_ok X G (c.t.d.fact 16 (f := .glo "shown_on") rfl)) Fso fso rel3 fun _ _ _ _ _ _ us ws hl hm => match us, ws, hl, hm with | [], [_, _, _], _, _ => rfl
    num := csn
    numK := calN_of (g := wk3) (He.glo_ok X G (c.t.d.fact 10 (f := .glo "shown_number") rfl)) Fsn fsn rel3 fun _ _ _ _ _ _ us ws hl hm => match us, ws, hl, hm with | [], [_, _, _], _, _ => rfl
    fin := cfi
    finK := calN_of (g := wk1) (He.glo_ok X G (c.t.d.fact 7 (f := .glo "is_finite") rfl)) Ffi ffi rel1 fun _ _ _ _ _ _ us ws hl hm => match us, ws, hl, hm with | [], [_], _, _ => rfl
    many := csm
    manyK := calN_of (g := wk1) (He.glo_ok X G (c.t.d.fact 18 (f := .glo "showings_many") rfl)) Fsm fsm rel1 fun _ _ _ _ _ _ us ws hl hm => match us, ws, hl, hm with | [], [_], _, _ => rfl
    allM := calN_of (g := (fun us ws => us ++ ws)) (He.glo_ok X G (c.t.d.fact 19 (f := .glo "all_showings") rfl)) Fal fal (fun r1 r2 => r1.append r2) fun _ _ _ _ _ _ us ws hl hm => match us, ws, hl, hm with | [_], [_], _, _ => rfl
    allK := calN_of (g := wk2) (He.glo_ok X G (c.t.d.fact 19 (f := .glo "all_showings") rfl)) Fal fal rel2 fun _ _ _ _ _ _ us ws hl hm => match us, ws, hl, hm with | [], [_, _], _, _ => rfl
    fit := cnf
    fitK := calN_of (g := wk2) (He.glo_ok X G (c.t.d.fact 6 (f := .glo "need_fit") rfl)) Fnf fnf rel2 fun _ _ _ _ _ _ us ws hl hm => match us, ws, hl, hm with | [], [_, _], _, _ => rfl }
theorem mks_of (X : K.In h) (G : h.Ns mainGlobals mg) (c : Says w' h K) : Mks P w K mg base (adOf K) (He.ga K "Counters") (He.ga K "Machine") (tZero K) := by
  have T := mg_of X G c
  have TC := clsC_of X G c
  have TM := clsM_of X G c
  have R : Er P w K mg base (adOf K) := er_of X G c
  obtain ⟨fdn, Fn⟩ := c.t.d.def_ 0 (d := dF "is_number" s_is_number) rfl
  have fn : FnOk P w K mg base CX0 1 (He.ga K "is_number") fdn ["value"] (spNumber K) := ok_is_number Fn T
  have cn : Cal P w K mg base CX0 1 "is_number" ["value"] (spNumber K) := cal_of (He.glo_ok X G (c.t.d.fact 0 (f := .glo "is_number") rfl)) Fn fn fun _ _ _ _ _ _ us hl => match us, hl with | [_], _ => rfl
  obtain ⟨fdb, Fb⟩ := c.t.d.def_ 1 (d := dF "is_below" s_is_below) rfl
  have fb : FnOk P w K mg base CX0 2 (He.ga K "is_below") fdb ["value", "limit"] (spBelow K) := ok_is_below Fb T cn
  have cb : Cal P w K mg base CX0 2 "is_below" ["value", "limit"] (spBelow K) := cal_of (He.glo_ok X G (c.t.d.fact 1 (f := .glo "is_below") rfl)) Fb fb fun _ _ _ _ _ _ us hl => match us, hl with | [_, _], _ => rfl
  obtain ⟨fds, Fs⟩ := c.t.d.def_ 2 (d := dF "is_sequence" s_is_sequence) rfl
  have fs : FnOk P w K mg base CX0 1 (He.ga K "is_sequence") fds ["value", "least", "most"] (spSeq K) := ok_is_sequence Fs T
  have cs : Cal P w K mg base CX0 1 "is_sequence" ["value", "least", "most"] (spSeq K) := cal_of (He.glo_ok X G (c.t.d.fact 2 (f := .glo "is_sequence") rfl)) Fs fs fun _ _ _ _ _ _ us hl => match us, hl with | [_, _, _], _ => rfl
  obtain ⟨fdl, Fl⟩ := c.t.d.def_ 3 (d := dF "first_not_below" s_first_not_below) rfl
  have fl : FnOk P w K mg base CX0 3 (He.ga K "first_not_below") fdl ["values", "limit"] (spFnb K) := ok_first_not_below Fl T cb
  have cl : Cal P w K mg base CX0 3 "first_not_below" ["values", "limit"] (spFnb K) := cal_of (He.glo_ok X G (c.t.d.fact 3 (f := .glo "first_not_below") rfl)) Fl fl fun _ _ _ _ _ _ us hl => match us, hl with | [_, _], _ => rfl
  obtain ⟨fde, Fe⟩ := c.t.d.def_ 5 (d := dF "_are_rests" s_are_rests) rfl
  have fe : FnOk P w K mg base CX0 4 (He.ga K "_are_rests") fde ["value", "kinds"] (spRests K) := ok_are_rests Fe T cs cl
  have ce : Cal P w K mg base CX0 4 "_are_rests" ["value", "kinds"] (spRests K) := cal_of (He.glo_ok X G (c.t.d.fact 5 (f := .glo "_are_rests") rfl)) Fe fe fun _ _ _ _ _ _ us hl => match us, hl with | [_, _], _ => rfl
  obtain ⟨fdt, Ft⟩ := c.t.d.def_ 20 (d := dF "_is_table" s_is_table) rfl
  have ft : FnOk P w K mg base CX0 4 (He.ga K "_is_table") fdt ["value", "like"] (spTable K) := ok_is_table Ft T cs cl
  have ct : Cal P w K mg base CX0 4 "_is_table" ["value", "like"] (spTable K) := cal_of (He.glo_ok X G (c.t.d.fact 20 (f := .glo "_is_table") rfl)) Ft ft fun _ _ _ _ _ _ us hl => match us, hl with | [_, _], _ => rfl
  obtain ⟨fdI, FI⟩ := c.t.d.def_ 39 (d := dM "Counters" "__init__" "Counters.__init__" s_Counters_init [.adr tZero]) rfl
  obtain ⟨fdE, FE⟩ := c.t.d.def_ 40 (d := dM "Counters" "__eq__" "Counters.__eq__" s_Counters_eq []) rfl
  obtain ⟨fdM, FM⟩ := c.t.d.def_ 41 (d := dM "Machine" "__init__" "Machine.__init__" s_Machine_init []) rfl
  have okI : FnOk P w K mg base (L2.CX P w) 5 (He.ma K (He.ga K "Counters") "__init__") fdI ["self", "rounds", "rests"] (spInit K (adOf K) (He.ga K "Counters")) := ok_init FI T R TC cs cl ce
  have okE : FnOk P w K mg base CX0 1 (He.ma K (He.ga K "Counters") "__eq__") fdE ["self", "other"] (spEqC K (He.ga K "Counters")) := ok_eq FE T TC
  have okM : FnOk P w K mg base CX0 5 (He.ma K (He.ga K "Machine") "__init__") fdM ["self", "tables"] (spMachine K (He.ga K "Machine")) := ok_machine FM T TM cs ct
  have b1 : Binds K fdI ["self", "rounds", "rests"] [] := by
    obtain ⟨ds, v, b⟩ := FunD.binds1 (ps := ["self", "rounds", "rests"]) FI 3 1 (List.cons_ne_nil _ _) rfl fun _ _ _ _ _ _ _ us its l1 l2 => match us, its, l1, l2 with | [_, _, _], [_], _, _ => ⟨_, rfl, rfl⟩
    cases v
    exact b
  have b2 : Binds K fdI ["self", "rounds", "rests"] [.ref (tZero K)] := by
    obtain ⟨ds, v, b⟩ := FunD.binds1 (ps := ["self", "rounds", "rests"]) FI 2 0 (List.cons_ne_nil _ _) rfl fun _ _ _ _ _ _ _ us its l1 l2 => match us, its, l1, l2 with | [_, _], [_], _, _ => ⟨_, rfl, rfl⟩
    match ds, v, b with
    | [u], .cons r .nil, b =>
      obtain rfl : u = .ref (tZero K) := r
      exact b
  have b3 : ∃ g, KBn K fdI ["self", "rounds", "rests"] 1 ["rests", "rounds"] g kwC := by
    obtain ⟨its, kb⟩ := FunD.kbindsD (ps := ["self", "rounds", "rests"]) FI 1 ["rests", "rounds"] (fun us _ ws => us ++ ws.reverse) (List.cons_ne_nil _ _) (fun r1 _ r3 => r1.append r3.reverse) fun _ _ _ _ _ _ _ us its ws l1 l2 l3 => match us, its, ws, l1, l2, l3 with | [_], [_], [_, _], _, _, _ => ⟨_, rfl, rfl⟩
    refine ⟨fun us ws => us ++ [ws.getD 1 .none, ws.getD 0 .none], fun s us ws X l1 l2 => ?_, fun r1 r2 => r1.append (.cons (vals_getD 1 r2) (.cons (vals_getD 0 r2) .nil))⟩
    have := kb.to s us ws X l1 l2
    match ws, l2 with
    | [_, _], _ => exact this
  exact {
    cnt := ⟨_, fdI, He.mkr_ok (c.t.d.fact 63 (f := .mkr "Counters") rfl), okI, b1, b2, b3⟩
    mac := ⟨_, fdM, (He.glo_ok X G (c.t.d.fact 41 (f := .glo "Machine") rfl)), He.mkr_ok (c.t.d.fact 64 (f := .mkr "Machine") rfl), okM, FM.bindsN fun _ _ _ _ _ _ us hl => match us, hl with | [_, _], _ => rfl⟩
    eq := ⟨_, fdE, eqB_ok (ex_at c.more 30 rfl), FE.bindsN fun _ _ _ _ _ _ us hl => match us, hl with | [_, _], _ => rfl, okE⟩
    nil := nilB_ok (ex_at c.more 31 rfl) }
end
end K3
/-! the end -/
namespace K3
open PySem PySem.Spec PyProof.Rows L2 Kx RZ
abbrev Rw : PySem.W.OpenRow := PySem.W.OpenLaw.row PySem.Challenge.rw_onewitness_k03_whole_counters_and_what_t
abbrev hk : PySem.W.Hook := He.hookX 5 fa fn [] tf ex
def ob (s : PySem.W.SharedT) : He.AlX := He.obsX 5 fa fn [] tf ex (HandSHeadRun.getT s)
theorem ob_eq (s : PySem.W.SharedT) : ob s = hk.obs s.abs := He.obsX_eq (HandSHeadRun.getT_eq s)
def others1 : List Str := ["WitnessError", "BadMachine", "BadRow", "BadShowing", "Refused", "TooGreat", "NoDeed", "DEEDS_MOST", "STATES_MOST", "ROW_MOST", "is_number", "is_below", "is_sequence", "first_not_below", "row_of", "ROUND_MOST", "REST_MOST", "Counters", "_are_rests", "need_fit", "is_finite", "_need_kind", "_shows", "shown_number", "showing_of", "shown_of", "shown", "_can_show", "check_showing", "shown_on"]
def others2 : List Str := ["_sizes", "showings_many", "all_showings", "Machine", "_is_table", "_law_box", "_law_take", "_law_pick", "_law_later", "_law_shows", "_law_all", "_law_heard", "_law_row_right", "_law_all_right", "_law_wide_right", "_law_none_right"]
abbrev others : List Str := others1 ++ others2
theorem top_runs (w : World) : HandSHeadRun.RunEq Rw (PySem.W.view Rw.prog [51]) hk ob 8000 others w := by
  intro os
  kernel_rfl
end K3
/-! the end -/
namespace K3
open PySem PySem.Spec PyProof.Rows L2 Kx RZ
/-- the lambdas' tables and their names -/
def tabsOf (K : PySem.W.Frag) : List (Addr × Str) := [((He.cT K dAll).2, (Str.ofString "_law_all_right" ++ ".<locals>.") ++ "<lambda>"), ((He.cT K dNone).2, (Str.ofString "_law_none_right" ++ ".<locals>.") ++ "<lambda>")]

theorem ref_same {m : Option Value} {a b : Addr} (h : m = some (.ref a)) (h' : m = some (.ref b)) : a = b := by
  rw [h] at h'
  injection h' with h'
  injection h'
theorem law_told {P : Program} {w : World} {K : PySem.W.Frag} {h : Heap} {mg : Str → Option Value} (X : K.In h) (G : h.Ns mainGlobals mg) (c : Says w h K) :
    ∃ fd : FuncData, (∀ (s : Shared) (u : Value), BindsTo s fd ⟨[u], []⟩ [("script", u)]) ∧ ∀ base : Heap, K.In base → base.Ns mainGlobals mg → (∀ p ∈ tf.map (He.cT K), LamX.TabB base mg p.1 p.2) → FnG P w K mg base CX0 10 (He.ga K "law") fd ["script"] (spLaw K (tabsOf K)) := by
  obtain ⟨fdH, FH⟩ := c.t.d.def_ 27 (d := dF "_law_heard" s_law_heard) rfl
  obtain ⟨fdR, FR⟩ := c.t.d.def_ 28 (d := dF "_law_row_right" s_law_row_right) rfl
  obtain ⟨fdA, FA⟩ := c.t.d.def_ 29 (d := dF "_law_all_right" s_law_all_right) rfl
  obtain ⟨fdW, FW⟩ := c.t.d.def_ 30 (d := dF "_law_wide_right" s_law_wide_right) rfl
  obtain ⟨fdN, FN⟩ := c.t.d.def_ 31 (d := dF "_law_none_right" s_law_none_right) rfl
  obtain ⟨fdL, FL⟩ := c.t.d.def_ 32 (d := dF "law" s_law) rfl
  have bL := FunD.bindsA (ps := ["script"]) FL fun _ _ _ _ _ _ us hl => match us, hl with | [_], _ => rfl
  refine ⟨fdL, fun s u => bL s [u] rfl, fun base _ _ TB => ?_⟩
  have T := mg_of X G c
  have TC := clsC_of X G c
  have TM := clsM_of X G c
  have D := hd_of X G c
  have B : Fns P w K mg base (adOf K) (He.ga K "Counters") (He.ga K "Machine") := fns_of X G c
  have M : Mks P w K mg base (adOf K) (He.ga K "Counters") (He.ga K "Machine") (tZero K) := mks_of X G c
  have gH := (He.glo_ok X G (c.t.d.fact 27 (f := .glo "_law_heard") rfl))
  have bH : Binds K fdH ["ask"] [] := FH.bindsN fun _ _ _ _ _ _ us hl => match us, hl with | [_], _ => rfl
  have apart : (He.cT K dAll).2 ≠ (He.cT K dNone).2 := of_decide_eq_true (ex_at c.more 32 rfl)
  have tA : LamX.TabB base mg (He.cT K dAll).1 (He.cT K dAll).2 := TB _ (List.mem_cons_self ..)
  have tN : LamX.TabB base mg (He.cT K dNone).1 (He.cT K dNone).2 := TB _ (List.mem_cons_of_mem _ (List.mem_cons_self ..))
  have mA : ((He.cT K dAll).2, (Str.ofString "_law_all_right" ++ ".<locals>.") ++ "<lambda>") ∈ tabsOf K := List.mem_cons_self ..
  have mN : ((He.cT K dNone).2, (Str.ofString "_law_none_right" ++ ".<locals>.") ++ "<lambda>") ∈ tabsOf K := List.mem_cons_of_mem _ (List.mem_cons_self ..)
  have oA : ∀ p ∈ tabsOf K, p.1 = (He.cT K dAll).2 → p.2 = (Str.ofString "_law_all_right" ++ ".<locals>.") ++ "<lambda>" := fun p hp e => by
    rcases List.mem_cons.mp hp with rfl | hp
    · rfl
    · rw [List.mem_singleton.mp hp] at e
      exact absurd e.symm apart
  have oN : ∀ p ∈ tabsOf K, p.1 = (He.cT K dNone).2 → p.2 = (Str.ofString "_law_none_right" ++ ".<locals>.") ++ "<lambda>" := fun p hp e => by
    rcases List.mem_cons.mp hp with rfl | hp
    · exact absurd e apart
    · rewrite [List.mem_singleton.mp hp]
      rfl
  have okR : FnG P w K mg base CX0 6 (He.ga K "_law_row_right") fdR ["box", "counters", "rounds", "rests"] (spRowRight K (He.ga K "Counters")) := ok_row_right FR T TC B
  have okA : FnG P w K mg base CX0 9 (He.ga K "_law_all_right") fdA ["counters", "rounds", "rests"] (spAllRight K (He.ga K "Counters") (tabsOf K)) := ok_all_right FA (code_of (p := dAll) (z := "_law_all_right") (st := s_law_all_right) FA) FH gH bH T TC D tA mA oA B
  have okW : FnOk P w K mg base CX0 7 (He.ga K "_law_wide_right") fdW ["box"] (spWideRight K) := ok_wide_right FW T TC B M
  have okN : FnG P w K mg base CX0 9 (He.ga K "_law_none_right") fdN ["box", "counters", "rounds", "rests"] (spNoneRight K (He.ga K "Counters") (tabsOf K)) := ok_none_right FN (code_of (p := dNone) (z := "_law_none_right") (st := s_law_none_right) FN) FH gH bH T TC TM D tN mN oN B M
  exact ok_law FL T TC B M ⟨_, _, (He.glo_ok X G (c.t.d.fact 28 (f := .glo "_law_row_right") rfl)), FR.kp, FR.bindsN fun _ _ _ _ _ _ us hl => match us, hl with | [_, _, _, _], _ => rfl, okR⟩ ⟨_, _, (He.glo_ok X G (c.t.d.fact 29 (f := .glo "_law_all_right") rfl)), FA.kp, FA.bindsN fun _ _ _ _ _ _ us hl => match us, hl with | [_, _, _], _ => rfl, okA⟩
    ⟨_, _, (He.glo_ok X G (c.t.d.fact 31 (f := .glo "_law_none_right") rfl)), FN.kp, FN.bindsN fun _ _ _ _ _ _ us hl => match us, hl with | [_, _, _, _], _ => rfl, okN⟩ (cal_of (He.glo_ok X G (c.t.d.fact 30 (f := .glo "_law_wide_right") rfl)) FW okW fun _ _ _ _ _ _ us hl => match us, hl with | [_], _ => rfl)
end K3
open PyProof.Rows PySem PySem.W PySem.Calls
theorem PySem.Challenge.cw_onewitness_k03_whole_counters_and_what_t_holds : PySem.Challenge.rw_onewitness_k03_whole_counters_and_what_t.Holds := by
  w_on; o_law
  refine HandSHeadRun.head_any (r := K3.Rw) (q := view K3.Rw.prog [51]) (H := K3.hk) (ob := K3.ob) (M := 8000) (loose := K3.others) (d := HandSHeadRun.topDef K3.Rw.prog 51) (kwd := []) K3.ob_eq
    (by kernel_rfl) (fun s => by kernel_rfl) K3.top_runs (by kernel_rfl) (by kernel_rfl) (by kernel_rfl) (by rfl) (by first | assumption | decide +kernel) (by decide +kernel) ⟨rfl, rfl, rfl, rfl, rfl, by decide +kernel⟩ ?hw ?hc
  case hw => w_witness2
  case hc =>
    refine Kx.lone_walk (l := PySem.Challenge.rw_onewitness_k03_whole_counters_and_what_t) (n := 63) (k := 10) (x := "script") rfl (by decide) (by kernel_rfl) ⟨rfl, by decide, by decide⟩ ?F
    intro w mg fa h Y G hmg
    obtain ⟨K, X, c⟩ := Y
    have en : (HandSHeadRun.topDef K3.Rw.prog 51).name = ("law" : PySem.Str) := by kernel_rfl
    rw [en] at hmg
    have at_ := He.glo_ok X G (c.t.d.fact 32 (f := .glo "law") rfl)
    have ea := K3.ref_same hmg at_
    subst ea
    obtain ⟨fd, b, F⟩ := K3.law_told (P := (PySem.Challenge.rw_onewitness_k03_whole_counters_and_what_t).prog) X G c
    refine ⟨K, fd, K3.tf.map (He.cT K), K3.spLaw K (K3.tabsOf K), X, fun p hp => ?_, fun p hp => ?_, fun p hp => ?_, b, fun H a ns l hT hS => ⟨a, ns, rfl, hS, l, fun p hp => ?_, fun _ => rfl⟩, F⟩
    · obtain ⟨q, hq, rfl⟩ := List.mem_map.mp hp
      exact c.empty q hq
    · obtain ⟨q, hq, rfl⟩ := List.mem_map.mp hp
      exact c.out q hq
    · obtain ⟨q, hq, rfl⟩ := List.mem_map.mp hp
      exact PySem.W.codeHd_of_K X (c.hd q hq)
    · rcases List.mem_cons.mp hp with rfl | hp
      · exact LamX.TabS.nil (hT _ (List.mem_cons_self ..))
      · rewrite [List.mem_singleton.mp hp]
        exact LamX.TabS.nil (hT _ (List.mem_cons_of_mem _ (List.mem_cons_self ..)))
